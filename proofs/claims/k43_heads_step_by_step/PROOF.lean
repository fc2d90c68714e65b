import PyProof.Rows.All
import Wide.All
import OpenK.AllK
import Wide.FinOn
import HandS.ForMost
import HandS.IsInst
import KE.OsScanText
import HandS.Codes
import HandS.Conv
import HandS.StrMore
import KE.KStrWords
import KE.KxText
import HandS.SortInts
import HandS.More
import HandS.DictComp
import HandS.CallLocal
import HandS.NoneIn
import HandS.TupAny
import HandS.Star
import PyProof.StrOps2
import PySem.Challenge.RW_needonce_k43_heads_step_by_step
import HandS.Zip0
import HandS.Zip
import KE.KRevSl
import HandS.Comp
import PyProof.Rows.SortShellAny
import KE.KIntText
import HandS.Dict
import KE.KDictPairs
import HandS.Rev
import PyProof.EqKinds
import HandS.ListItems
import KE.KDictZip
set_option Elab.async false
set_option maxRecDepth 100000
set_option maxHeartbeats 4000000
/-! Part A: how defs are called, the drawing of numbers from the script. -/
namespace Toy
open PySem L2
open PyProof.Rows (envOfC)
def topS (i : Nat) : Stmt := PySem.Challenge.pw_needonce_k43_heads_step_by_step.main.body.getD i (.Pass ⟨0, 0, 0, 0⟩)
theorem boot_min : bootBuiltins "min" = some (.builtin "min") := by decide +kernel
theorem boot_isinstance : bootBuiltins "isinstance" = some (.builtin "isinstance") := by decide +kernel
theorem boot_abs : bootBuiltins "abs" = some (.builtin "abs") := by decide +kernel
theorem boot_int : bootBuiltins "int" = some (.type "int") := by decide +kernel
theorem boot_list : bootBuiltins "list" = some (.type "list") := by decide +kernel
/-- a written row of texts: what it is -/
def tStrs (zs : List Str) : TA := fun _ H Q => Q (zs.map V.str) H
def strE : Expr → Option Str
  | .Constant (.str z) _ _ => some z
  | _ => none
theorem strE_is {e : Expr} {z : Str} (h : strE e = some z) : ∃ j pos, e = .Constant (.str z) j pos := by
  unfold strE at h
  split at h
  · cases h
    exact ⟨_, _, rfl⟩
  · cases h
/-- a written row of texts -/
theorem pa_strs {X : Cx} : ∀ {es : List Expr} {zs : List Str}, es.map strE = zs.map some → PA X es (tStrs zs)
  | [], [], _ => pa_nil
  | [], _ :: _, h => by cases h
  | _ :: _, [], h => by cases h
  | e :: es, z :: zs, h => by
    rw [List.map_cons, List.map_cons] at h
    obtain ⟨h1, h2⟩ := List.cons.inj h
    obtain ⟨j, pos, rfl⟩ := strE_is h1
    exact pa_cons pe_str (pa_strs h2)
theorem strs_read {zs : List Str} {σ : L2.St} {H : Hp} {Q : List V → Hp → Prop} (h : Q (zs.map V.str) H) : tStrs zs σ H Q := h
/-- what the proofs ask of the module's names -/
structure TxtD (mg : Str → Option Value) : Prop where
  zlen : mg "len" = none
  zint : mg "int" = none
  zrange : mg "range" = none
  zabs : mg "abs" = none
section
variable {P : Program} {w : World} {K : PySem.W.Frag} {mg : Str → Option Value} {base : Heap} 
/-- a def as one that may be called by its name -/
theorem cal_of {x : Str} {st : Stmt} {f : Addr} {fd : FuncData} {N ps : List Str} {k : Nat} {sp : Sp} (F : Fun K x x st f fd) (hm : mg x = some (.ref f)) (b : Binds K fd ps []) (S : FnScope N ps (defScope st)) (len : ∀ vs H Q E, sp vs H Q E → vs.length = ps.length)
    (hbody : ∀ (cdv : Value) (A : Around) (outer : List Env) (s : Shared) (H : Hp) (vs : List V) (Q : VK) (E : XK), Room k (A.deeper (envOfC x (defScope st) s.heap.objs.size f cdv)) → sp vs H Q E →
      ∃ t, PSs (cxOf CX0 P w K mg base N x (defScope st) f cdv A outer s H E).nox (defBody st) t ∧ t { nx := fun _ H' => Q .non H', rt := Q } (start N vs) H) : C8.Cal P w K mg base (k + 1) x sp [] :=
  ⟨f, fd, ps, [], F.ok S len hbody, hm, F.kp, b, .nil⟩
theorem same_new {H : Hp} {p : Addr} (h : H p = none) (o : HO) : Same H (upd H p o) := fun b u q => by rw [upd_ne (ne_of_none q h)]; exact q
theorem same_upd {H H' : Hp} {p : Addr} (h : H p = none) (s : Same H H') (o : HO) : Same H (upd H' p o) := fun b u q => by rw [upd_ne (ne_of_none q h)]; exact s b u q
theorem szl {n : Nat} (h : n ≤ 100000) : n < sizeLine := Nat.lt_of_le_of_lt h (by decide)
theorem at_ok {α : Type} {xs : List α} {k : Nat} (h : k < xs.length) : atI xs (0 + (k : Int)) = some xs[k] := by
  rw [Int.zero_add]
  exact atI_nat (List.getElem?_eq_getElem h)
theorem at_int {ns : List Int} {i : Int} (h0 : 0 ≤ i) (h1 : i < (ns.length : Int)) : ∃ v : Int, atI (ns.map V.int) i = some (.int v) := by
  have hk : i.toNat < ns.length := by omega
  refine ⟨ns[i.toNat], ?_⟩
  have q : atI (ns.map V.int) ((i.toNat : Nat) : Int) = some (.int ns[i.toNat]) := atI_nat (by rw [List.getElem?_map, List.getElem?_eq_getElem hk] <;> rfl)
  rw [show ((i.toNat : Nat) : Int) = i by omega] at q
  exact q

theorem at_intR {ns : List Int} (h : ∀ x ∈ ns, 0 ≤ x ∧ x < 997) {i : Int} (h0 : 0 ≤ i) (h1 : i < (ns.length : Int)) : ∃ v : Int, atI (ns.map V.int) i = some (.int v) ∧ 0 ≤ v ∧ v < 997 := by
  have hk : i.toNat < ns.length := by omega
  have q : atI (ns.map V.int) ((i.toNat : Nat) : Int) = some (.int ns[i.toNat]) := atI_nat (by rw [List.getElem?_map, List.getElem?_eq_getElem hk] <;> rfl)
  rw [show ((i.toNat : Nat) : Int) = i by omega] at q
  exact ⟨ns[i.toNat], q, h _ (List.getElem_mem hk)⟩
def RowIn (row : List Int) : Prop := ∀ x ∈ row, 0 ≤ x ∧ x < 997
theorem RowIn.snoc {row : List Int} (h : RowIn row) {z : Int} : RowIn (row ++ [z % 997]) := fun x hx => by
  rcases List.mem_append.mp hx with e | e
  · exact h x e
  · rw [List.mem_singleton.mp e]; omega
/-! ### the draws of a script -/
def dk4 (r : Addr) (i n l : Int) : List (Key × V) := [(Sum.inr "row", .ref r), (Sum.inr "at", .int i), (Sum.inr "names", .int n), (Sum.inr "left", .int l)]
theorem nk_ra : ¬ (Sum.inr ("row" : Str) : Key) = Sum.inr ("at" : Str) := by decide +kernel
theorem nk_rl : ¬ (Sum.inr ("row" : Str) : Key) = Sum.inr ("left" : Str) := by decide +kernel
theorem nk_al : ¬ (Sum.inr ("at" : Str) : Key) = Sum.inr ("left" : Str) := by decide +kernel
theorem nk_nl : ¬ (Sum.inr ("names" : Str) : Key) = Sum.inr ("left" : Str) := by decide +kernel
theorem dk_row (r : Addr) (i n l : Int) : valV (dk4 r i n l) (Sum.inr "row" : Key) = some (.ref r) := valV_pos rfl
theorem dk_at (r : Addr) (i n l : Int) : valV (dk4 r i n l) (Sum.inr "at" : Key) = some (.int i) := (valV_neg nk_ra).trans (valV_pos rfl)
theorem dk_left (r : Addr) (i n l : Int) : valV (dk4 r i n l) (Sum.inr "left" : Key) = some (.int l) := (valV_neg nk_rl).trans ((valV_neg nk_al).trans ((valV_neg nk_nl).trans (valV_pos rfl)))
theorem dk_put (r : Addr) (i n l j : Int) : putK (dk4 r i n l) (Sum.inr "at" : Key) (.int j) = dk4 r j n l := by
  have h1 : ¬ ("row" : Str) = "at" := by decide +kernel
  have h2 : ¬ ("names" : Str) = "at" := by decide +kernel
  have h3 : ¬ ("left" : Str) = "at" := by decide +kernel
  simp [putK, dk4, h1, h2, h3]
theorem dk_putl (r : Addr) (i n l j : Int) : putK (dk4 r i n l) (Sum.inr "left" : Key) (.int j) = dk4 r i n j := by
  have h1 : ¬ ("row" : Str) = "left" := by decide +kernel
  have h2 : ¬ ("names" : Str) = "left" := by decide +kernel
  have h3 : ¬ ("at" : Str) = "left" := by decide +kernel
  simp [putK, dk4, h1, h2, h3]
theorem dk_merge (r : Addr) (l : Int) : mergeK [] [(Sum.inr "row", .ref r), (Sum.inr "at", .int 0), (Sum.inr "names", .int 0), (Sum.inr "left", .int l)] = dk4 r 0 0 l := by
  have h1 : ¬ ("row" : Str) = "at" := by decide +kernel
  have h2 : ¬ ("row" : Str) = "names" := by decide +kernel
  have h3 : ¬ ("row" : Str) = "left" := by decide +kernel
  have h4 : ¬ ("at" : Str) = "names" := by decide +kernel
  have h5 : ¬ ("at" : Str) = "left" := by decide +kernel
  have h6 : ¬ ("names" : Str) = "left" := by decide +kernel
  simp [mergeK, putK, dk4, h1, h2, h3, h4, h5, h6]
/-- a row of draws -/
def RowOk (row : List Int) : Prop := (0 < row.length ∧ row.length ≤ 1000) ∧ ∀ x ∈ row, 0 ≤ x ∧ x < 997
/-- a reader of draws stands at p; not more than B were taken -/
def DAt (H : Hp) (p r : Addr) (B : Nat) : Prop := ∃ (row : List Int) (i : Nat) (n l : Int), H p = some (.dK (dk4 r (i : Int) n l)) ∧ H r = some (.lst (row.map V.int)) ∧ RowOk row ∧ (i ≤ B ∧ 0 ≤ n ∧ n ≤ (B : Int))
theorem DAt.same {H H' : Hp} {p r : Addr} {B : Nat} (d : DAt H p r B) (s : Same H H') : DAt H' p r B := by
  obtain ⟨row, i, n, l, h1, h2, h3⟩ := d
  exact ⟨row, i, n, l, s _ _ h1, s _ _ h2, h3⟩
theorem DAt.more {H : Hp} {p r : Addr} {B C : Nat} (d : DAt H p r B) (h : B ≤ C) : DAt H p r C := by
  obtain ⟨row, i, n, l, h1, h2, h3, h4⟩ := d
  exact ⟨row, i, n, l, h1, h2, h3, by omega⟩
theorem DAt.fresh {H : Hp} {p r x : Addr} {B : Nat} (d : DAt H p r B) (hx : H x = none) : x ≠ p ∧ x ≠ r := by
  obtain ⟨row, i, n, l, h1, h2, _⟩ := d
  exact ⟨fun e => (by rw [e, h1] at hx; cases hx), fun e => (by rw [e, h2] at hx; cases hx)⟩
theorem DAt.off {H : Hp} {p r x : Addr} {B : Nat} (d : DAt H p r B) (h1 : x ≠ p) (h2 : x ≠ r) (o : HO) : DAt (upd H x o) p r B := by
  obtain ⟨row, i, n, l, g1, g2, g3⟩ := d
  exact ⟨row, i, n, l, by rw [upd_ne h1.symm]; exact g1, by rw [upd_ne h2.symm]; exact g2, g3⟩
/-- all but p stays -/
def Keep (p : Addr) (H H' : Hp) : Prop := ∀ b o, b ≠ p → H b = some o → H' b = some o
theorem Keep.refl (p : Addr) (H : Hp) : Keep p H H := fun _ _ _ e => e
theorem Keep.same {p : Addr} {H H' : Hp} (s : Same H H') : Keep p H H' := fun b o _ e => s b o e
theorem Keep.trans {p : Addr} {H1 H2 H3 : Hp} (h : Keep p H1 H2) (k : Keep p H2 H3) : Keep p H1 H3 := fun b o n e => k b o n (h b o n e)
theorem Keep.free {p : Addr} {H H' : Hp} (k : Keep p H H') {a : Addr} (n : a ≠ p) (h : H' a = none) : H a = none := by
  cases e : H a with
  | none => rfl
  | some u => rw [k a u n e] at h; cases h
theorem keep_upd {p D : Addr} {H H' : Hp} (h : H D = none) (k : Keep p H H') (o : HO) : Keep p H (upd H' D o) := fun b u n e => by
  rw [upd_ne (ne_of_none e h)]
  exact k b u n e
theorem DAt.ne_list {H : Hp} {p r x : Addr} {B : Nat} {ys : List V} (d : DAt H p r B) (h : H x = some (.lst ys)) : x ≠ p := fun e => by
  obtain ⟨_, _, _, _, h1, _⟩ := d
  rw [e, h1] at h
  cases h
theorem DAt.ne_tup {H : Hp} {p r x : Addr} {B : Nat} {ys : List V} (d : DAt H p r B) (h : H x = some (.tup ys)) : x ≠ p := fun e => by
  obtain ⟨_, _, _, _, h1, _⟩ := d
  rw [e, h1] at h
  cases h
abbrev sTake : Stmt := topS 32
theorem scTake : FnScope ["d", "at"] ["d"] (defScope sTake) := ⟨rfl, rfl, rfl, by decide +kernel, rfl, by decide +kernel, by decide +kernel⟩
/-- some number, not great; the reader moves on -/
def spTake : Sp := fun vs H Q _ => ∃ (p r : Addr) (B : Nat), vs = [.ref p] ∧ DAt H p r B ∧ ∀ (n : Int) (H' : Hp), 0 ≤ n → n ≤ 997 + (B : Int) → Keep p H H' → DAt H' p r (B + 1) → Q (.int n) H'
theorem c_take {f : Addr} {fd : FuncData} (T : TxtD mg) (F : Fun K "_law_take" "_law_take" sTake f fd) (b : Binds K fd ["d"] []) (hm : mg "_law_take" = some (.ref f)) : C8.Cal P w K mg base 1 "_law_take" spTake [] := by
  refine cal_of F hm b scTake (fun vs H Q E h => ?_) (fun cdv A outer s H vs Q E hr h => ?_)
  · obtain ⟨p, r, B, rfl, _⟩ := h
    rfl
  obtain ⟨p, r, B, rfl, ⟨row, i, n, l, hp, hrow, ⟨⟨hl0, hl1⟩, hrw⟩, hiB⟩, q⟩ := h
  have hu := hu_of hr
  have npr : r ≠ p := ne_of hrow hp (by intro z; cases z)
  refine ⟨_, (pss_cons (ps_set (i := 1) scTake.nd rfl (Or.inl rfl) (pe_dget hu (pv 0) pe_str (fun _ _ => rfl)))
    (pss_cons (ps_dput hu (pv 0) pe_str (pe_op op_add (pv 1) pe_int) rfl)
    (pss_one (ps_ret (pe_op op_add (pe_ix ix_list (pe_dget hu (pv 0) pe_str (fun _ _ => rfl)) (pe_op op_mod (pv 1) (pe_callB call_len_seq rfl T.zlen PySem.boot_len (pa_cons (pe_dget hu (pv 0) pe_str (fun _ _ => rfl)) pa_nil))) (fun _ _ => rfl)) (pe_op op_fdiv (pv 1) (pe_callB call_len_seq rfl T.zlen PySem.boot_len (pa_cons (pe_dget hu (pv 0) pe_str (fun _ _ => rfl)) pa_nil)))))))), ?_⟩
  refine ⟨_, rfl, p, _, rfl, (dk_at r _ _ _ ▸ DGet.k (k := Sum.inr "at") hp), ?_⟩
  refine ⟨_, rfl, _, _, rfl, rfl, _, rfl, p, _, rfl, DPut.k (k := Sum.inr "at") hp (by show 4 < sizeLine; decide), ?_⟩
  rw [dk_put]
  have hp2 : upd H p (.dK (dk4 r ((i : Int) + 1) n l)) p = some (.dK (dk4 r ((i : Int) + 1) n l)) := upd_same
  have hr2 : upd H p (.dK (dk4 r ((i : Int) + 1) n l)) r = some (.lst (row.map V.int)) := by rw [upd_ne npr]; exact hrow
  have fin : ∀ z : Int, 0 ≤ z → z ≤ 997 + (B : Int) → Q (.int z) (upd H p (.dK (dk4 r ((i : Int) + 1) n l))) := fun z h0 h1 =>
    q z _ h0 h1 (fun b o hb e => by rw [upd_ne hb]; exact e) ⟨row, i + 1, n, l, by rw [upd_same]; rfl, hr2, ⟨⟨hl0, hl1⟩, hrw⟩, by omega⟩
  generalize upd H p (.dK (dk4 r ((i : Int) + 1) n l)) = H2 at hp2 hr2 fin ⊢
  have hlen : (0 : Int) < (((row.map V.int).length : Nat) : Int) := by rw [List.length_map]; omega
  have m0 := Int.emod_nonneg (i : Int) (b := (((row.map V.int).length : Nat) : Int)) (by omega)
  have m1 := Int.emod_lt_of_pos (i : Int) hlen
  obtain ⟨v, hv, hv0, hv1⟩ := at_intR hrw (i := (i : Int) % (((row.map V.int).length : Nat) : Int)) m0 (by rw [List.length_map] at m1 ⊢; exact m1)
  refine ⟨_, rfl, p, _, rfl, (dk_row r _ _ _ ▸ DGet.k (k := Sum.inr "row") hp2), _, rfl, _, rfl, p, _, rfl, (dk_row r _ _ _ ▸ DGet.k (k := Sum.inr "row") hp2), r, _, rfl, .inl (SqL.of hr2), _, _, rfl, rfl, hlen, r, _, _, _, rfl, rfl, SqL.of hr2, hv, ?_⟩
  refine ⟨_, rfl, _, rfl, p, _, rfl, (dk_row r _ _ _ ▸ DGet.k (k := Sum.inr "row") hp2), r, _, rfl, .inl (SqL.of hr2), ?_⟩
  refine ⟨_, _, rfl, rfl, ⟨hlen, by rw [List.length_map]; omega⟩, _, _, rfl, rfl, ?_⟩
  have d0 := Int.ediv_nonneg (a := (i : Int)) (b := (((row.map V.int).length : Nat) : Int)) (by omega) (by omega)
  have d1 : (i : Int) / (((row.map V.int).length : Nat) : Int) ≤ (i : Int) := Int.ediv_le_self _ (by omega)
  exact fin _ (by omega) (by omega)
abbrev sDraws : Stmt := topS 31
theorem scDraws : FnScope ["script", "many", "draws", "mixed", "k", "cell", "rest", "turn"] ["script", "many"] (defScope sDraws) := ⟨rfl, rfl, rfl, by decide +kernel, rfl, by decide +kernel, by decide +kernel⟩
def spDraws (K : PySem.W.Frag) : Sp := fun vs H Q _ => ∃ (a : Addr) (ns : List Int) (m : Nat), vs = [.ref a, .int (m : Int)] ∧ SqL K H a (ns.map V.int) ∧ ns.length ≤ 63 ∧ 0 < m ∧ m ≤ 1000 ∧ ∀ (r : Addr) (row : List Int) (H' : Hp), H r = none → Same H H' → H' r = some (.lst (row.map V.int)) → RowOk row → Q (.ref r) H'
theorem cut_take (row : List Int) (m : Nat) (h : m ≤ row.length) : cutV (row.map V.int) none (some (m : Int)) = (row.take m).map V.int := by
  unfold cutV
  rw [HT.sIx_none, HT.sIx_nat, List.length_map, List.drop_zero, Nat.sub_zero, Nat.min_eq_left h, List.map_take]
theorem c_draws {f : Addr} {fd : FuncData} (T : TxtD mg) (F : Fun K "_law_draws" "_law_draws" sDraws f fd) (b : Binds K fd ["script", "many"] []) (hm : mg "_law_draws" = some (.ref f)) : C8.Cal P w K mg base 1 "_law_draws" (spDraws K) [] := by
  refine cal_of F hm b scDraws (fun vs H Q E h => ?_) (fun cdv A outer s H vs Q E hr h => ?_)
  · obtain ⟨a, ns, m, rfl, _⟩ := h
    rfl
  obtain ⟨a, ns, m, rfl, hS, h63, hm0, hm1, q⟩ := h
  refine ⟨_, (pss_cons (ps_set (i := 2) scDraws.nd rfl (Or.inl rfl) (pe_lst pa_nil))
    (pss_cons (ps_set (i := 3) scDraws.nd rfl (Or.inl rfl) pe_int)
    (pss_cons (ps_for PassesOwn.never rfl (pi_range1 rfl T.zrange (pa_cons (pe_callB call_len_seq rfl T.zlen PySem.boot_len (pa_cons (pv 0) pa_nil)) pa_nil)) (pg_name (i := 4) scDraws.nd rfl (Or.inl rfl))
      (pss_cons (ps_set (i := 5) scDraws.nd rfl (Or.inl rfl) (pe_callB call_abs rfl T.zabs boot_abs (pa_cons (pe_callTy call_int1 rfl T.zint boot_int (pa_cons (pe_ix ix_list (pv 0) (pv 4) (fun _ _ => rfl)) pa_nil)) pa_nil)))
    (pss_cons (ps_set (i := 3) scDraws.nd rfl (Or.inl rfl) (pe_op op_mod (pe_callTy call_int1 rfl T.zint boot_int (pa_cons (pe_op op_add (pe_op op_add (pe_op op_mul (pv 3) pe_int) (pe_op op_mod (pv 5) pe_int)) (pv 4)) pa_nil)) pe_int))
    (pss_cons (ps_set (i := 6) scDraws.nd rfl (Or.inl rfl) pe_int)
    (C8.pss_cut (ps_if (pt_cmpR op_ge (pv 5) (pe_op op_pow pe_int pe_int) (nomark _))
      (pss_one (ps_set (i := 6) scDraws.nd rfl (Or.inl rfl) (pv 5)))
      (pss_cons (ps_expr (pe_bm PySem.F.plainAttrs_list PySem.F.slot_list_append PySem.F.type_list_append mt_append (pv 2) (pa_cons (pe_op op_mod (pv 5) pe_int) pa_nil)))
    (pss_one (ps_expr (pe_bm PySem.F.plainAttrs_list PySem.F.slot_list_append PySem.F.type_list_append mt_append (pv 2) (pa_cons (pe_op op_mod (pe_op op_mod (pe_callTy call_int1 rfl T.zint boot_int (pa_cons (pe_op op_add (pe_op op_mul (pv 3) pe_int) pe_int) pa_nil)) pe_int) pe_int) pa_nil))))))
    (pss_one (ps_for PassesOwn.never rfl (pi_range1 rfl T.zrange (pa_cons pe_int pa_nil)) (pg_name (i := 7) scDraws.nd rfl (Or.inl rfl))
      (pss_one (ps_if (pt_cmpR op_gt (pv 6) pe_int (nomark _))
      (pss_cons (ps_expr (pe_bm PySem.F.plainAttrs_list PySem.F.slot_list_append PySem.F.type_list_append mt_append (pv 2) (pa_cons (pe_op op_mod (pe_callTy call_int1 rfl T.zint boot_int (pa_cons (pv 6) pa_nil)) pe_int) pa_nil)))
    (pss_one (ps_set (i := 6) scDraws.nd rfl (Or.inl rfl) (pe_op op_fdiv (pv 6) pe_int))))
      pss_nil)))))))))
    (pss_cons (ps_for PassesOwn.never rfl (pi_range1 rfl T.zrange (pa_cons (pv 1) pa_nil)) (pg_name (i := 4) scDraws.nd rfl (Or.inl rfl))
      (pss_cons (ps_set (i := 3) scDraws.nd rfl (Or.inl rfl) (pe_op op_mod (pe_callTy call_int1 rfl T.zint boot_int (pa_cons (pe_op op_add (pe_op op_add (pe_op op_mul (pv 3) pe_int) (pv 4)) pe_int) pa_nil)) pe_int))
    (pss_one (ps_expr (pe_bm PySem.F.plainAttrs_list PySem.F.slot_list_append PySem.F.type_list_append mt_append (pv 2) (pa_cons (pe_op op_mod (pe_callTy call_int1 rfl T.zint boot_int (pa_cons (pv 3) pa_nil)) pe_int) pa_nil))))))
    (pss_one (ps_ret (pe_slice sl_list (pv 2) po_none (po_some (pv 1))))))))), ?_⟩
  refine ⟨(by show 0 ≤ sizeLine; decide), fun r hr0 => ?_⟩
  refine ⟨_, rfl, a, _, rfl, .inl ((same_new hr0 _).seq hS), _, rfl, ?_, ?_, for_range
    (fun (k : Nat) σ H2 => ∃ (kk c t x : Option V) (mx : Int) (row : List Int), σ = [some (.ref a), some (.int (m : Int)), some (.ref r), some (.int mx), kk, c, t, x] ∧ Same H H2 ∧ H2 r = some (.lst (row.map V.int)) ∧ row.length ≤ 62 * k ∧ RowIn row)
    ⟨none, none, none, none, 7, [], rfl, same_new hr0 _, upd_same, by simp, fun x hx => by cases hx⟩ ?_ ?_⟩
  · omega
  · rw [List.length_map]
    omega
  · rintro k σ H2 hk ⟨kk, c, t, x, mx, row, rfl, s2, hrow, hl, hin⟩
    have hk' : (k : Int) < (ns.length : Int) := by
      rw [List.length_map] at hk
      omega
    obtain ⟨v, hv⟩ := at_int (ns := ns) (i := 0 + (k : Int)) (by omega) (by omega)
    refine ⟨_, rfl, _, rfl, a, _, _, _, rfl, rfl, s2.seq hS, hv, .inl ⟨_, rfl, _, rfl, ?_⟩⟩
    refine ⟨_, rfl, _, _, rfl, rfl, .inr (by decide), _, rfl, _, _, rfl, rfl, (show (0 : Int) < 1000003 by decide), _, _, rfl, rfl, _, rfl, _, _, rfl, rfl, .inl ⟨_, rfl, _, _, rfl, rfl, (show (0 : Int) < 65537 by decide), ?_⟩⟩
    refine ⟨fun σ H3 => ∃ (c : Option V) (mx x : Int) (t : Option V) (row : List Int), σ = [some (.ref a), some (.int (m : Int)), some (.ref r), some (.int mx), some (.int (0 + (k : Int))), c, some (.int x), t] ∧ Same H H3 ∧ H3 r = some (.lst (row.map V.int)) ∧ row.length ≤ 62 * k + 2 ∧ RowIn row, ?_, ?_⟩
    · refine ⟨_, rfl, _, _, rfl, rfl, ⟨by decide, by decide, by decide⟩, _, _, rfl, rfl, _, rfl, ?_⟩
      refine ite2 (fun _ => ?_) (fun _ => ?_)
      · exact ⟨_, rfl, _, _, _, _, row, rfl, s2, hrow, by omega, hin⟩
      · refine ⟨_, rfl, .inl ⟨rfl, _, SqL.of hrow⟩, _, rfl, _, _, rfl, rfl, (show (0 : Int) < 997 by decide), r, _, _, rfl, rfl, hrow, szl (by rw [List.length_map]; omega), ?_⟩
        have e3 : ∀ z : Int, upd H2 r (.lst (row.map V.int ++ [.int z])) r = some (.lst ((row ++ [z]).map V.int)) := fun z => by rw [upd_same, List.map_append]; rfl
        have s3 : ∀ z : Int, Same H (upd H2 r (.lst (row.map V.int ++ [.int z]))) := fun z => same_upd hr0 s2 _
        refine ⟨_, rfl, .inl ⟨rfl, _, SqL.of (e3 _)⟩, _, rfl, _, _, rfl, rfl, .inr (by decide), _, _, rfl, rfl, .inl ⟨_, rfl, _, _, rfl, rfl, (show (0 : Int) < 65521 by decide), _, _, rfl, rfl, (show (0 : Int) < 997 by decide), r, _, _, rfl, rfl, e3 _, szl (by rw [List.length_map, List.length_append]; show _ + 1 ≤ _; omega), ?_⟩⟩
        refine ⟨_, _, _, _, row ++ [_ % 997] ++ [_ % 997], rfl, same_upd hr0 (s3 _) _, by rw [upd_same]; simp only [List.map_append]; rfl, ?_, hin.snoc.snoc⟩
        rw [List.length_append, List.length_append]
        show row.length + 1 + 1 ≤ _
        omega
    rintro σ H3 ⟨c, mx, x, t, row, rfl, s3, hrow, hl, hin⟩
    refine ⟨60, rfl, by decide, by decide, for_range (fun (j : Nat) σ H3 => ∃ (c : Option V) (mx x : Int) (t : Option V) (row : List Int), σ = [some (.ref a), some (.int (m : Int)), some (.ref r), some (.int mx), some (.int (0 + (k : Int))), c, some (.int x), t] ∧ Same H H3 ∧ H3 r = some (.lst (row.map V.int)) ∧ row.length ≤ 62 * k + 2 + j ∧ RowIn row)
      ⟨_, _, _, _, row, rfl, s3, hrow, by omega, hin⟩ ?_ ?_⟩
    · rintro j σ H3 hj ⟨c, mx, x, t, row, rfl, s3, hrow, hl, hin⟩
      refine ⟨_, rfl, _, _, rfl, rfl, _, rfl, ?_⟩
      refine ite2 (fun _ => ?_) (fun _ => ?_)
      · refine ⟨_, rfl, .inl ⟨rfl, _, SqL.of hrow⟩, _, rfl, .inl ⟨_, rfl, _, _, rfl, rfl, (show (0 : Int) < 997 by decide), r, _, _, rfl, rfl, hrow, szl (by rw [List.length_map]; omega), ?_⟩⟩
        refine ⟨_, rfl, _, _, rfl, rfl, ⟨by decide, by decide⟩, ?_⟩
        refine ⟨_, _, _, _, row ++ [_ % 997], rfl, same_upd hr0 s3 _, by rw [upd_same, List.map_append]; rfl, ?_, hin.snoc⟩
        rw [List.length_append]
        show row.length + 1 ≤ _
        omega
      · exact ⟨_, _, _, _, row, rfl, s3, hrow, by omega, hin⟩
    · rintro σ H3 ⟨c, mx, x, t, row, rfl, s3, hrow, hl, hin⟩
      exact ⟨_, _, _, _, _, row, rfl, s3, hrow, by omega, hin⟩
  · rintro σ H2 ⟨kk, c, t, x, mx, row, rfl, s2, hrow, hl, hin⟩
    rw [List.length_map] at hl
    refine ⟨_, rfl, ?_⟩
    refine ⟨_, rfl, by omega, by omega, for_range (fun (j : Nat) σ H3 => ∃ (kk c t x : Option V) (mx : Int) (row : List Int), σ = [some (.ref a), some (.int (m : Int)), some (.ref r), some (.int mx), kk, c, t, x] ∧ Same H H3 ∧ H3 r = some (.lst (row.map V.int)) ∧ row.length ≤ 4000 + j ∧ j ≤ row.length ∧ RowIn row)
      ⟨_, _, _, _, _, row, rfl, s2, hrow, by omega, by omega, hin⟩ ?_ ?_⟩
    · rintro j σ H3 hj ⟨kk, c, t, x, mx, row, rfl, s3, hrow, hl, hl2, hin⟩
      have hj : j < ((m : Int)).toNat := hj
      refine ⟨_, rfl, _, _, rfl, rfl, .inr (by decide), _, rfl, _, _, rfl, rfl, _, _, rfl, rfl, .inl ⟨_, rfl, _, _, rfl, rfl, (show (0 : Int) < 65537 by decide), ?_⟩⟩
      refine ⟨_, rfl, .inl ⟨rfl, _, SqL.of hrow⟩, _, rfl, .inl ⟨_, rfl, _, _, rfl, rfl, (show (0 : Int) < 997 by decide), r, _, _, rfl, rfl, hrow, szl (by rw [List.length_map]; omega), ?_⟩⟩
      refine ⟨_, _, _, _, _, row ++ [_ % 997], rfl, same_upd hr0 s3 _, by rw [upd_same, List.map_append]; rfl, ?_, ?_, hin.snoc⟩
      · rw [List.length_append]
        show row.length + 1 ≤ _
        omega
      · rw [List.length_append]
        show j + 1 ≤ row.length + 1
        omega
    · rintro σ H3 ⟨kk, c, t, x, mx, row, rfl, s3, hrow, hl, hl2, hin⟩
      have hl2 : m ≤ row.length := by omega
      refine ⟨_, rfl, _, rfl, _, rfl, r, _, rfl, SqL.of hrow, fun p hp => ?_⟩
      rw [cut_take row m hl2]
      exact q p (row.take m) _ (s3.free hp) (same_upd (s3.free hp) s3 _) upd_same ⟨⟨by rw [List.length_take]; omega, by rw [List.length_take]; omega⟩, fun x hx => hin x (List.mem_of_mem_take hx)⟩
end
end Toy

set_option Elab.async false
set_option linter.all false
set_option maxRecDepth 100000
set_option maxHeartbeats 4000000
/-! Part X: own rules: a text times a number, d.get of a written dict, comprehensions over texts and lists. -/
namespace L2
open PySem PySem.Spec PyProof.Rows
def repS (z : Str) (n : Nat) : Str := ⟨(List.replicate n z.cps).foldl (· ++ ·) #[]⟩
theorem rep_size (a : Array Nat) : ∀ (n : Nat) (acc : Array Nat), ((List.replicate n a).foldl (· ++ ·) acc).size = acc.size + n * a.size
  | 0, acc => by simp
  | n + 1, acc => by
    rw [List.replicate_succ, List.foldl_cons, rep_size a n, Array.size_append, Nat.succ_mul]
    omega
/-- z * n -/
def rMulS : R2 := fun x y H Q => ∃ (z : Str) (n : Nat), x = .str z ∧ y = .int (n : Int) ∧ 2 ≤ n ∧ n ≤ 1000 ∧ 0 < z.length ∧ z.length ≤ 1000 ∧ Q (.str (repS z n)) H
section
variable {X : Cx}
theorem op_mulS : OpR X (binaryOp .Mult) rMulS := by
  intro pins s σ H x y v u Q I rx ry h
  obtain ⟨z, n, rfl, rfl, h2, h1000, hz, hz2, q⟩ := h
  obtain ⟨t, rfl⟩ := rx
  obtain ⟨t2, rfl⟩ := ry
  have c1 : ((n : Int) == 1 || z.length == 0) = false := by
    rw [Bool.or_eq_false_iff]
    exact ⟨beq_eq_false_iff_ne.mpr (by omega), beq_eq_false_iff_ne.mpr (by omega)⟩
  refine PySem.P.mul_str ?_ (fun _ _ => ?_) (fun _ _ => ?_) ?_
  · rw [decide_eq_false (by omega), decide_eq_false (by omega)] <;> rfl
  · have : (1000 : Int) ≤ (2 ^ 63 - 1) / (n : Int) := Int.le_ediv_of_mul_le (by omega) (by omega)
    omega
  · show decide (z.length * ((n : Int)).toNat > sizeLine) = false
    have a1 : z.length * ((n : Int)).toNat ≤ 1000 * 1000 := Nat.mul_le_mul hz2 (by omega)
    exact decide_eq_false (by rw [sizeLine_eq]; omega)
  · rw [if_neg (by omega), if_neg (by rw [c1]; decide)]
    have hlen := rep_size z.cps n #[]
    refine ⟨?_, .str _, H, I.tok _, ⟨_, rfl⟩, q⟩
    show ((List.replicate ((n : Int)).toNat z.cps).foldl (· ++ ·) #[]).size ≤ sizeLine
    rw [show ((n : Int)).toNat = n from Int.toNat_natCast n, hlen, sizeLine_eq]
    have a1 : n * z.cps.size ≤ 1000 * 1000 := Nat.mul_le_mul (by omega) hz2
    show 0 + n * z.cps.size ≤ _
    omega
end
/-- d.get(key), d a dict of the module with text keys -/
def tKGet (K : PySem.W.Frag) (d : Addr) (td ty : TE) : TE := fun σ H Q => td σ H fun x H1 => x = .ref d ∧ ty σ H1 fun y H2 => ∃ (z : Str) (r : Option Value) (v0 : V), y = .str z ∧ PySem.W.nsIn K d z = some r ∧ RelV v0 (r.getD .none) ∧ Q v0 H2
section
variable {X : Cx} {o e : Expr} {apos cpos : Pos} {td ty : TE} {d : Addr} {es : Array DictEntry} {n : Nat}
theorem pe_kget (D : KDict X.K X.w d es n) (ho : PE X o td) (he : PE X e ty) (m : M1 X o "get" apos e cpos) : PE X (.Call (.Attribute o "get" apos) [e] [] cpos) (tKGet X.K d td ty) := by
  refine ⟨fun pins s σ H Q I h => ?_⟩
  refine wpAny_Call_method m.base m.few m.line PySem.F.plainAttrs_dict PySem.F.slot_dict_get PySem.F.type_dict_get (thn (ho.run pins s σ H _ I h) fun u s1 ⟨x, H1, I1, rx, ex, q1⟩ => ?_)
  subst ex
  obtain rfl : u = Value.ref d := rx
  refine ⟨kd_type D I1, fun b q => ?_, ?_⟩
  · cases q
    obtain ⟨ob, h1, h2⟩ : ∃ ob, s1.heap.get? d = some ob ∧ ob.dict = none := ⟨_, I1.kIn d _ D.at_, rfl⟩
    exact ⟨ob, h1, h2⟩
  rw [m.trees]
  refine Calls.callWith_builtin rfl (Calls.evalArgs_plain (Calls.spliced_cons (thn (he.run pins s1 σ H1 _ I1 q1) fun iv s2 ⟨y, H2, I2, ry, z, r, v0, ey, en, rv, q2⟩ => Calls.spliced_nil ?_)))
  subst ey
  obtain ⟨t, rfl⟩ := ry
  refine call_meetsIn PySem.F.slot_dict_get (kd_type D I2) PySem.F.entry_dict_get (PySem.F.args_dict_get_2 _ _) (meets_dict_get (strKind X.prog X.w) d (PySem.strKind_is X.prog X.w z t) D.low) ⟨_, PySem.W.mapOf_K (prog := X.prog) I2.kIn D.at_ D.lit, ?_⟩
  rw [PySem.W.find_K D.at_ en]
  exact ⟨v0, H2, I2.tok _, rv, q2⟩
end
/-- a comprehension over a text -/
theorem lc_str {x : Str} {g : TG} {tt : TT} {te : TE} {vs : List Nat} {σ : St} {H1 : Hp} {D : Addr} {Qd : Hp → Prop} (Pv : Nat → Hp → Prop) (h0 : Pv 0 (upd H1 D (.lst [])))
    (hs : ∀ i c H, x.cps[i]? = some c → Pv i H → g (.str ⟨#[c]⟩) (wipe σ vs) H fun σ2 H2 => wipe σ2 vs = wipe σ vs ∧ tt σ2 H2 fun b H3 =>
      if b = true then te σ2 H3 fun y H4 => ∃ acc, H4 D = some (.lst acc) ∧ acc.length < sizeLine ∧ Pv (i + 1) (upd H4 D (.lst (acc ++ [y]))) else Pv (i + 1) H3) (hd : ∀ H, Pv x.cps.size H → Qd H) :
    ∃ W : Nat → Nat → Hp → Prop, (∃ m, W 0 m (upd H1 D (.lst []))) ∧ ∀ i m H, W i m H →
      ((Its x).stop i H ∧ Qd H) ∨ ((Its x).go i H ∧ ∃ Nx : Hp → Prop, (∀ H', Nx H' → ∃ m', m' < m ∧ W (i + 1) m' H') ∧ ∀ y H', (Its x).yld i H y H' → g y (wipe σ vs) H' fun σ2 H2 => wipe σ2 vs = wipe σ vs ∧ tt σ2 H2 fun b H3 =>
        if b = true then te σ2 H3 fun y H4 => ∃ acc, H4 D = some (.lst acc) ∧ acc.length < sizeLine ∧ Nx (upd H4 D (.lst (acc ++ [y]))) else Nx H3) := by
  refine ⟨fun i m H => m = x.cps.size - i ∧ i ≤ x.cps.size ∧ Pv i H, ⟨x.cps.size, by simp, Nat.zero_le _, h0⟩, ?_⟩
  rintro i m H ⟨rfl, hi, p⟩
  by_cases hlt : i < x.cps.size
  · refine .inr ⟨hlt, Pv (i + 1), fun H' p' => ⟨x.cps.size - (i + 1), by omega, rfl, hlt, p'⟩, fun y H' hy => ?_⟩
    obtain ⟨rfl, c, hc, rfl⟩ := hy
    exact hs i c _ hc p
  · have e : i = x.cps.size := by omega
    subst e
    exact .inl ⟨Nat.le_refl _, hd H p⟩
/-- a dict comprehension over a list that stays -/
theorem dc_list {K : PySem.W.Frag} {a : Addr} {xs : List V} {g : TG} {tt : TT} {tk tv : TE} {vs : List Nat} {σ : St} {H1 : Hp} {D : Addr} {Qd : Hp → Prop} (Pv : Nat → Hp → Prop) (h0 : Pv 0 (upd H1 D (.dK []))) (hl : ∀ i H, i ≤ xs.length → Pv i H → SqL K H a xs)
    (hs : ∀ i x H, xs[i]? = some x → Pv i H → g x (wipe σ vs) H fun σ2 H2 => wipe σ2 vs = wipe σ vs ∧ tt σ2 H2 fun b H3 =>
      if b = true then tk σ2 H3 fun y H4 => tv σ2 H4 fun z H5 => ∃ kvs k, y = kV k ∧ H5 D = some (.dK kvs) ∧ kvs.length < sizeLine ∧ Pv (i + 1) (upd H5 D (.dK (putK kvs k z))) else Pv (i + 1) H3) (hd : ∀ H, Pv xs.length H → Qd H) :
    ∃ W : Nat → Nat → Hp → Prop, (∃ m, W 0 m (upd H1 D (.dK []))) ∧ ∀ i m H, W i m H →
      ((Itl K a).stop i H ∧ Qd H) ∨ ((Itl K a).go i H ∧ ∃ Nx : Hp → Prop, (∀ H', Nx H' → ∃ m', m' < m ∧ W (i + 1) m' H') ∧ ∀ x H', (Itl K a).yld i H x H' → g x (wipe σ vs) H' fun σ2 H2 => wipe σ2 vs = wipe σ vs ∧ tt σ2 H2 fun b H3 =>
        if b = true then tk σ2 H3 fun y H4 => tv σ2 H4 fun z H5 => ∃ kvs k, y = kV k ∧ H5 D = some (.dK kvs) ∧ kvs.length < sizeLine ∧ Nx (upd H5 D (.dK (putK kvs k z))) else Nx H3) := by
  refine ⟨fun i m H => m = xs.length - i ∧ i ≤ xs.length ∧ Pv i H, ⟨xs.length, by simp, Nat.zero_le _, h0⟩, ?_⟩
  rintro i m H ⟨rfl, hi, p⟩
  have q := hl i H hi p
  by_cases hlt : i < xs.length
  · refine .inr ⟨⟨xs, xs[i], q, by simp [hlt]⟩, Pv (i + 1), fun H' p' => ⟨xs.length - (i + 1), by omega, rfl, hlt, p'⟩, fun x H' y => ?_⟩
    obtain ⟨e, y⟩ := y
    subst e
    exact hs i x _ (y xs q) p
  · have e : i = xs.length := by omega
    subst e
    exact .inl ⟨⟨xs, q, Nat.le_refl _⟩, hd H p⟩
end L2
namespace Toy
open PySem PySem.Spec PyProof.Rows L2
/-- list.extend of a tuple, whatever stands beside its items -/
theorem extend_tupW (l : Addr) (items : Array Value) (n : Nat) (b : Addr) (items2 : Array Value) (n2 : Nat) (dd2 : Option Addr) (sl2 : Array (Option Value)) (hs0 : ¬(!items.isEmpty && Builtin.List.listTooLong (items.size + items2.size)) = true) (hs1 : items.size ≤ sizeLine) (hs2 : items.size + items2.size ≤ sizeLine + 1) :
    Meets (Builtin.«list.extend» ⟨[.ref l, .ref b], []⟩) (fun _ R s => s.heap.get? l = some { cls := .type "list", dict := none, data := .seq items n, slots := #[] } ∧ s.heap.get? b = some { cls := .type "tuple", dict := dd2, data := .seq items2 n2, slots := sl2 } ∧ R (.ok (.ret Value.none)) { s with heap := s.heap.update l (Obj.mapSeq fun x => x ++ items2), toks := s.toks }) :=
  .of_wp fun prog w A R s h => by
    obtain ⟨hp, g, d, tk, os⟩ := s
    obtain ⟨hl, hb, h⟩ := h
    have f1 := AutoSeq1.idx_int
    have f2 := AutoSeq1.sub_tuple_tuple
    have f3 := AutoSeq1.sub_list_list
    have f4 := AutoSeq1.sub_tuple_list
    have f5 := AutoSeq1.sub_list_tuple
    have hz' : (items ++ items2).size ≤ sizeLine + 1 := by rw [Array.size_append]; exact hs2
    wp_walk using (wpAny_updateSeq hl rfl (hz := hs1) (_hz' := hz')), AutoSeq1.wpAny_loadPart' hl, AutoSeq1.wpAny_loadPart' hb
    exact ⟨_, rfl, h⟩
def rExtendT (K : PySem.W.Frag) : V → List V → Hp → VK → Prop := fun x vs H Q => ∃ l b xs zs, x = .ref l ∧ vs = [.ref b] ∧ H l = some (.lst xs) ∧ SqT K H b zs ∧ xs.length + zs.length ≤ sizeLine ∧ Q .non (upd H l (.lst (xs ++ zs)))
theorem mt_extendT {X : Cx} : MtM X "list.extend" (rExtendT X.K) := by
  intro pins s σ H x vs v us Q I rx rv h
  obtain ⟨l, b, xs, zs, rfl, rfl, hH, hB, hz, q⟩ := h
  cases rx
  obtain ⟨u, rfl, ru⟩ := rv.one
  cases ru
  obtain ⟨z, its, n, r, hl, e⟩ := I.lstM hH
  obtain ⟨its2, r2, ht2, hz2⟩ := I.tuple hB
  obtain ⟨⟨cls2, dd2, data2, sl2⟩, ho2, hc2, n2, hd2⟩ := id ht2
  simp only at hc2 hd2
  subst hc2 hd2
  have l1 := r.length
  have l2 := r2.length
  have hsz : its.toArray.size + its2.toArray.size ≤ sizeLine := by rw [List.size_toArray, List.size_toArray]; omega
  have hlong : ¬ (!its.toArray.isEmpty && Builtin.List.listTooLong (its.toArray.size + its2.toArray.size)) = true := by
    rw [notLongL hsz, Bool.and_false]
    exact Bool.false_ne_true
  refine call_meets PySem.F.slot_list_extend ⟨_, e, rfl⟩ PySem.F.entry_list_extend (PySem.F.args_list_extend_2 _ _)
    (extend_tupW l its.toArray n b its2.toArray n2 dd2 sl2 hlong (by rw [List.size_toArray]; omega) (by omega)) ⟨e, ho2, ?_⟩
  refine ⟨.non, _, I.lset (its' := its ++ its2) hH e (by simp) (r.append r2) ?_, rfl, q⟩
  rw [List.length_append]
  omega

end Toy

set_option Elab.async false
set_option linter.all false
set_option maxRecDepth 100000
set_option maxHeartbeats 4000000
/-! Part B: things in plain Lean, how they stand in the heap; what a term is. -/
namespace Toy
open PySem L2
inductive Dd
  | non
  | bl (b : Bool)
  | int (i : Int)
  | str (s : Str)
  | tup (l : List Dd)
  | lst (l : List Dd)
mutual
/-- such a thing stands in the heap as v, in tuples and in lists of B -/
def Dd.At (B : Addr → Prop) (H : Hp) : Dd → V → Prop
  | .non, v => v = .non
  | .bl b, v => v = .bl b
  | .int i, v => v = .int i
  | .str s, v => v = .str s ∧ s.length ≤ 1000
  | .tup l, v => ∃ a xs, v = .ref a ∧ H a = some (.tup xs) ∧ Dd.Ats B H l xs
  | .lst l, v => ∃ a xs, v = .ref a ∧ B a ∧ H a = some (.lst xs) ∧ Dd.Ats B H l xs
def Dd.Ats (B : Addr → Prop) (H : Hp) : List Dd → List V → Prop
  | [], xs => xs = []
  | k :: l, xs => ∃ x ys, xs = x :: ys ∧ k.At B H x ∧ Dd.Ats B H l ys
end
/-- a heap in which the tuples, and the lists of B, stand -/
def Fr (B : Addr → Prop) (H H' : Hp) : Prop := (∀ a xs, H a = some (.tup xs) → H' a = some (.tup xs)) ∧ ∀ a xs, B a → H a = some (.lst xs) → H' a = some (.lst xs)
theorem Fr.refl (B : Addr → Prop) (H : Hp) : Fr B H H := ⟨fun _ _ h => h, fun _ _ _ h => h⟩
theorem Fr.trans {B : Addr → Prop} {H1 H2 H3 : Hp} (h : Fr B H1 H2) (k : Fr B H2 H3) : Fr B H1 H3 := ⟨fun a xs e => k.1 a xs (h.1 a xs e), fun a xs b e => k.2 a xs b (h.2 a xs b e)⟩
theorem fr_same {B : Addr → Prop} {H H' : Hp} (s : Same H H') : Fr B H H' := ⟨fun _ _ e => s _ _ e, fun _ _ _ e => s _ _ e⟩
theorem fr_list {B : Addr → Prop} {H : Hp} {p : Addr} {ys : List V} {o : HO} (h : H p = some (.lst ys)) (n : ¬ B p) : Fr B H (upd H p o) :=
  ⟨fun a xs e => by rw [upd_ne (fun z => by rw [z, h] at e; cases e)]; exact e, fun a xs b e => by rw [upd_ne (fun z => n (by rw [← z]; exact b))]; exact e⟩
theorem fr_dict {B : Addr → Prop} {H : Hp} {p : Addr} {kvs : List (Key × V)} {o : HO} (h : H p = some (.dK kvs)) : Fr B H (upd H p o) :=
  ⟨fun a xs e => by rw [upd_ne (fun z => by rw [z, h] at e; cases e)]; exact e, fun a xs b e => by rw [upd_ne (fun z => by rw [z, h] at e; cases e)]; exact e⟩
theorem fr_keep {B : Addr → Prop} {p r : Addr} {C : Nat} {H H' : Hp} (k : Keep p H H') (d : DAt H p r C) : Fr B H H' :=
  ⟨fun a xs e => k _ _ (d.ne_tup e) e, fun a xs _ e => k _ _ (d.ne_list e) e⟩
theorem sameT {H1 H2 H3 : Hp} (h : Same H1 H2) (k : Same H2 H3) : Same H1 H3 := fun a u e => k a u (h a u e)
mutual
theorem Dd.At.keep {B : Addr → Prop} {H H' : Hp} : ∀ {k : Dd} {v : V}, Fr B H H' → k.At B H v → k.At B H' v
  | .non, _, _, h => h
  | .bl _, _, _, h => h
  | .int _, _, _, h => h
  | .str _, _, _, h => h
  | .tup l, _, t, ⟨a, xs, e, h, hs⟩ => ⟨a, xs, e, t.1 _ _ h, Dd.Ats.keep t hs⟩
  | .lst l, _, t, ⟨a, xs, e, b, h, hs⟩ => ⟨a, xs, e, b, t.2 _ _ b h, Dd.Ats.keep t hs⟩
theorem Dd.Ats.keep {B : Addr → Prop} {H H' : Hp} : ∀ {l : List Dd} {xs : List V}, Fr B H H' → Dd.Ats B H l xs → Dd.Ats B H' l xs
  | [], _, _, h => h
  | k :: l, _, t, ⟨x, ys, e, h, hs⟩ => ⟨x, ys, e, Dd.At.keep t h, Dd.Ats.keep t hs⟩
end
mutual
theorem Dd.At.weak {B C : Addr → Prop} {H : Hp} (hBC : ∀ a xs, H a = some (.lst xs) → B a → C a) : ∀ {k : Dd} {v : V}, k.At B H v → k.At C H v
  | .non, _, h => h
  | .bl _, _, h => h
  | .int _, _, h => h
  | .str _, _, h => h
  | .tup l, _, ⟨a, xs, e, h, hs⟩ => ⟨a, xs, e, h, Dd.Ats.weak hBC hs⟩
  | .lst l, _, ⟨a, xs, e, b, h, hs⟩ => ⟨a, xs, e, hBC _ _ h b, h, Dd.Ats.weak hBC hs⟩
theorem Dd.Ats.weak {B C : Addr → Prop} {H : Hp} (hBC : ∀ a xs, H a = some (.lst xs) → B a → C a) : ∀ {l : List Dd} {xs : List V}, Dd.Ats B H l xs → Dd.Ats C H l xs
  | [], _, h => h
  | k :: l, _, ⟨x, ys, e, h, hs⟩ => ⟨x, ys, e, Dd.At.weak hBC h, Dd.Ats.weak hBC hs⟩
end
/-- what stands in this heap -/
def Ex (H : Hp) (a : Addr) : Prop := H a ≠ none
theorem Dd.At.here {B : Addr → Prop} {H : Hp} {k : Dd} {v : V} (h : k.At B H v) : k.At (Ex H) H v := h.weak fun a xs e _ => by unfold Ex; rw [e]; exact fun z => by cases z
theorem Dd.Ats.here {B : Addr → Prop} {H : Hp} {l : List Dd} {xs : List V} (h : Dd.Ats B H l xs) : Dd.Ats (Ex H) H l xs := h.weak fun a xs e _ => by unfold Ex; rw [e]; exact fun z => by cases z
theorem ats_len {B : Addr → Prop} {H : Hp} : ∀ {l : List Dd} {xs : List V}, Dd.Ats B H l xs → xs.length = l.length
  | [], _, h => by cases h; rfl
  | k :: l, _, ⟨x, ys, e, h, hs⟩ => by
    cases e
    show ys.length + 1 = l.length + 1
    rw [ats_len hs]
theorem ats_app {B : Addr → Prop} {H : Hp} : ∀ {l m : List Dd} {xs ys : List V}, Dd.Ats B H l xs → Dd.Ats B H m ys → Dd.Ats B H (l ++ m) (xs ++ ys)
  | [], m, xs, ys, h, k => by
    cases h
    exact k
  | t :: l, m, _, ys, ⟨x, zs, e, h, hs⟩, k => by
    cases e
    exact ⟨x, zs ++ ys, rfl, h, ats_app hs k⟩
theorem ats_one {B : Addr → Prop} {H : Hp} {k : Dd} {v : V} (h : k.At B H v) : Dd.Ats B H [k] [v] := ⟨v, [], rfl, h, rfl⟩
theorem ats_get {B : Addr → Prop} {H : Hp} : ∀ {l : List Dd} {xs : List V} {i : Nat} {x : V}, Dd.Ats B H l xs → xs[i]? = some x → ∃ k, l[i]? = some k ∧ k.At B H x
  | [], _, i, x, h, e => by cases h; simp at e
  | k :: l, _, 0, x, ⟨y, ys, e, h, hs⟩, ex => by
    cases e
    cases ex
    exact ⟨k, rfl, h⟩
  | k :: l, _, i + 1, x, ⟨y, ys, e, h, hs⟩, ex => by
    cases e
    exact ats_get (l := l) (i := i) hs ex
theorem ats_getI {B : Addr → Prop} {H : Hp} : ∀ {l : List Dd} {xs : List V} {i : Nat} {k : Dd}, Dd.Ats B H l xs → l[i]? = some k → ∃ x, xs[i]? = some x ∧ k.At B H x
  | [], _, i, x, h, e => by simp at e
  | k :: l, _, 0, x, ⟨y, ys, e, h, hs⟩, ex => by
    cases e
    cases ex
    exact ⟨y, rfl, h⟩
  | k :: l, _, i + 1, x, ⟨y, ys, e, h, hs⟩, ex => by
    cases e
    exact ats_getI (l := l) (i := i) hs ex
theorem ats_snoc {B : Addr → Prop} {H : Hp} : ∀ {l : List Dd} {k : Dd} {xs : List V}, Dd.Ats B H (l ++ [k]) xs → ∃ ys y, xs = ys ++ [y] ∧ Dd.Ats B H l ys ∧ k.At B H y
  | [], k, xs, ⟨x, ys, e, h, hs⟩ => by
    cases e
    cases (show ys = [] from hs)
    exact ⟨[], x, rfl, rfl, h⟩
  | t :: l, k, xs, ⟨x, ys, e, h, hs⟩ => by
    cases e
    obtain ⟨zs, y, e2, h2, h3⟩ := ats_snoc hs
    exact ⟨x :: zs, y, by rw [e2]; rfl, ⟨x, zs, rfl, h, h2⟩, h3⟩
theorem ats_rev {B : Addr → Prop} {H : Hp} : ∀ {l : List Dd} {xs : List V}, Dd.Ats B H l xs → Dd.Ats B H l.reverse xs.reverse
  | [], _, h => by cases h; rfl
  | k :: l, _, ⟨x, ys, e, h, hs⟩ => by
    cases e
    rw [List.reverse_cons, List.reverse_cons]
    exact ats_app (ats_rev hs) (ats_one h)
theorem tYes_if {σ : L2.St} {H : Hp} {A B : Hp → Prop} (h : A H) : tYes σ H (fun b H3 => if b = true then A H3 else B H3) := by
  show if true = true then A H else B H
  rw [if_pos rfl]
  exact h
theorem at0 (x : V) (l : List V) : atI (x :: l) 0 = some x := atI_nat (j := 0) rfl
theorem at1 (x y : V) (l : List V) : atI (x :: y :: l) 1 = some y := atI_nat (j := 1) rfl
theorem at2 (x y z : V) (l : List V) : atI (x :: y :: z :: l) 2 = some z := atI_nat (j := 2) rfl
theorem at3 (x y z u : V) (l : List V) : atI (x :: y :: z :: u :: l) 3 = some u := atI_nat (j := 3) rfl
theorem nself (v : V) : (!decide (v = v)) = false := by simp
mutual
def Dd.sz : Dd → Nat
  | .tup l => 1 + Dd.szs l
  | .lst l => 1 + Dd.szs l
  | _ => 1
def Dd.szs : List Dd → Nat
  | [] => 0
  | k :: l => k.sz + Dd.szs l
end
theorem sz_pos : ∀ k : Dd, 1 ≤ k.sz
  | .non => Nat.le_refl _
  | .bl _ => Nat.le_refl _
  | .int _ => Nat.le_refl _
  | .str _ => Nat.le_refl _
  | .tup l => Nat.le_add_right 1 _
  | .lst l => Nat.le_add_right 1 _
theorem szs_app : ∀ l m : List Dd, Dd.szs (l ++ m) = Dd.szs l + Dd.szs m
  | [], m => by simp [Dd.szs]
  | k :: l, m => by
    show k.sz + Dd.szs (l ++ m) = k.sz + Dd.szs l + Dd.szs m
    rw [szs_app l m]
    omega
theorem szs_len : ∀ l : List Dd, l.length ≤ Dd.szs l
  | [] => Nat.le_refl _
  | k :: l => by
    have h1 := sz_pos k
    have h2 := szs_len l
    show l.length + 1 ≤ k.sz + Dd.szs l
    omega
theorem szs_mem : ∀ {l : List Dd} {k : Dd}, k ∈ l → k.sz ≤ Dd.szs l
  | t :: l, k, h => by
    show k.sz ≤ t.sz + Dd.szs l
    rcases List.mem_cons.mp h with e | e
    · rw [e]; omega
    · have := szs_mem e; omega
/-! ### what a term is -/
def isName : Dd → Bool
  | .str s => decide (1 ≤ s.length) && decide (s.length ≤ 80) && s.cps.toList.all fun c => decide (33 ≤ c) && decide (c ≤ 126) && decide (c ≠ 37)
  | _ => false
def isInt : Dd → Bool
  | .int _ => true
  | _ => false
def numIn (lo hi : Int) : Dd → Bool
  | .int i => decide (lo ≤ i) && decide (i ≤ hi)
  | _ => false
def cNum : Dd → Bool := numIn (-1000000000000000) 1000000000000000
def isTup : Dd → Bool
  | .tup _ => true
  | _ => false
def isRow (n : Nat) : Dd → Bool
  | .tup l => decide (l.length = n)
  | _ => false
def areRows (n : Nat) : Dd → Bool
  | .tup l => l.all (isRow n)
  | _ => false
/-- as often as they are the first of their kind -/
def ddK : List Key → List Key → List Key
  | acc, [] => acc
  | acc, k :: ks => ddK (if (acc.any fun j => decide (j = k)) = true then acc else acc ++ [k]) ks
def distK (ks : List Key) : Bool := decide ((ddK [] ks).length = ks.length)
def keyD : Dd → Key
  | .str s => Sum.inr s
  | .int i => Sum.inl i
  | _ => Sum.inl 0
def areNames : Dd → Bool
  | .tup l => l.all isName && distK (l.map keyD)
  | _ => false
def nth (i : Nat) : Dd → Dd
  | .tup l => l.getD i .non
  | _ => .non
def tl : Dd → List Dd
  | .tup l => l
  | _ => []
def isDflt : Dd → Bool
  | .non => true
  | .tup l => decide (l.length = 2) && isName (l.getD 0 .non)
  | _ => false
def signs : List Str := ["+", "-", "*", "div", "mod", "==", "<", "<="]
def isSign : Dd → Bool
  | .str s => decide (s ∈ signs)
  | _ => false
def arg (i : Nat) (r : List Dd) : Dd := r.getD i .non
def fNum (r : List Dd) : Bool := decide (r.length = 1) && cNum (arg 0 r)
def fVar (r : List Dd) : Bool := decide (r.length = 1) && isName (arg 0 r)
def fApp (r : List Dd) : Bool := decide (r.length = 2)
def fLam (r : List Dd) : Bool := decide (r.length = 2) && isName (arg 0 r)
def fLet (r : List Dd) : Bool := decide (r.length = 2) && areRows 2 (arg 0 r) && (decide (0 < (tl (arg 0 r)).length) && areNames (.tup ((tl (arg 0 r)).map (nth 0))))
def fSeq (r : List Dd) : Bool := decide (r.length = 3) && isName (arg 0 r)
def fCon (r : List Dd) : Bool := decide (r.length = 2) && (numIn 0 1000 (arg 0 r) && isTup (arg 1 r))
def fCase (r : List Dd) : Bool := decide (r.length = 3) && areRows 3 (arg 1 r) && isDflt (arg 2 r) && (tl (arg 1 r)).all fun q => numIn 0 1000 (nth 0 q) && areNames (nth 1 q)
def fPick (r : List Dd) : Bool := decide (r.length = 3) && areRows 2 (arg 1 r) && isDflt (arg 2 r) && (((tl (arg 1 r)).map (nth 0)).all cNum && distK (((tl (arg 1 r)).map (nth 0)).map keyD))
def fPrim (r : List Dd) : Bool := decide (r.length = 3) && isSign (arg 0 r)
def fNote (r : List Dd) : Bool := decide (r.length = 2) && numIn 0 1000000000000 (arg 0 r)
def formW (w : Str) (r : List Dd) : Bool :=
  if w = "num" then fNum r else if w = "var" then fVar r else if w = "app" then fApp r else if w = "lam" then fLam r else if w = "let" then fLet r else if w = "seq" then fSeq r
  else if w = "con" then fCon r else if w = "case" then fCase r else if w = "pick" then fPick r else if w = "prim" then fPrim r else if w = "note" then fNote r else false
def formB : Dd → Bool
  | .tup (.str w :: r) => formW w r
  | _ => false
def dfltP (d : Dd) : List Dd := match d with
  | .non => []
  | d => [nth 1 d]
def lastD : Dd → Dd
  | .tup l => l.getLastD .non
  | _ => .non
def gLet (r : List Dd) : List Dd := (tl (arg 0 r)).map (nth 1) ++ [arg 1 r]
def gChoice (r : List Dd) : List Dd := arg 0 r :: ((tl (arg 1 r)).map lastD ++ dfltP (arg 2 r))
def partsW (w : Str) (r : List Dd) : List Dd :=
  if w = "app" then r else if w = "lam" then [arg 1 r] else if w = "let" then gLet r else if w = "seq" then r.drop 1
  else if w = "con" then tl (arg 1 r) else if w = "case" then gChoice r else if w = "pick" then gChoice r
  else if w = "prim" then r.drop 1 else if w = "note" then [arg 1 r] else []
def partsD : Dd → List Dd
  | .tup (.str w :: r) => partsW w r
  | _ => []
def isT : Nat → Dd → Bool
  | 0, _ => false
  | n + 1, k => formB k && (partsD k).all (isT n)
end Toy

set_option Elab.async false
set_option linter.all false
set_option maxRecDepth 100000
set_option maxHeartbeats 4000000
/-! Part C: names, numbers, rows. -/
namespace Toy
open PySem L2
open PyProof.Rows (envOfC)
theorem boot_ord : bootBuiltins "ord" = some (.builtin "ord") := by decide +kernel
theorem boot_all : bootBuiltins "all" = some (.builtin "all") := by decide +kernel
theorem boot_bool : bootBuiltins "bool" = some (.type "bool") := by decide +kernel
theorem boot_str : bootBuiltins "str" = some (.type "str") := by decide +kernel
theorem boot_tuple : bootBuiltins "tuple" = some (.type "tuple") := by decide +kernel
def Dd.tyN : Dd → String
  | .non => "NoneType"
  | .bl _ => "bool"
  | .int _ => "int"
  | .str _ => "str"
  | .tup _ => "tuple"
  | .lst _ => "list"
theorem ty_of {K : PySem.W.Frag} {B : Addr → Prop} {H : Hp} {k : Dd} {v : V} (h : k.At B H v) : TyX K H v (.type k.tyN) := by
  cases k with
  | non => cases h; exact .base .non
  | bl b => cases h; exact .base (.bl b)
  | int i => cases h; exact .base (.int i)
  | str s => cases h.1; exact .base (.str s)
  | tup l => obtain ⟨a, xs, rfl, ha, _⟩ := h; exact .base (.tup ha)
  | lst l => obtain ⟨a, xs, rfl, _, ha, _⟩ := h; exact .base (.lst ha)
def isStr : Dd → Bool
  | .str _ => true
  | _ => false
def isBool : Dd → Bool
  | .bl _ => true
  | _ => false
def isIntB : Dd → Bool
  | .int _ => true
  | .bl _ => true
  | _ => false
theorem kit_str {K : PySem.W.Frag} (k : Dd) : PySem.W.kitOne K (.type k.tyN) (.type "str") = some (isStr k) := by
  cases k with
  | non => exact kit_ty (a := "NoneType") (b := "str") (r := false) (by decide +kernel)
  | bl b => exact kit_ty (a := "bool") (b := "str") (r := false) (by decide +kernel)
  | int i => exact kit_ty (a := "int") (b := "str") (r := false) (by decide +kernel)
  | str s => exact kit_ty (a := "str") (b := "str") (r := true) (by decide +kernel)
  | tup l => exact kit_ty (a := "tuple") (b := "str") (r := false) (by decide +kernel)
  | lst l => exact kit_ty (a := "list") (b := "str") (r := false) (by decide +kernel)
theorem kit_tup {K : PySem.W.Frag} (k : Dd) : PySem.W.kitOne K (.type k.tyN) (.type "tuple") = some (isTup k) := by
  cases k with
  | non => exact kit_ty (a := "NoneType") (b := "tuple") (r := false) (by decide +kernel)
  | bl b => exact kit_ty (a := "bool") (b := "tuple") (r := false) (by decide +kernel)
  | int i => exact kit_ty (a := "int") (b := "tuple") (r := false) (by decide +kernel)
  | str s => exact kit_ty (a := "str") (b := "tuple") (r := false) (by decide +kernel)
  | tup l => exact kit_ty (a := "tuple") (b := "tuple") (r := true) (by decide +kernel)
  | lst l => exact kit_ty (a := "list") (b := "tuple") (r := false) (by decide +kernel)
theorem kit_int {K : PySem.W.Frag} (k : Dd) : PySem.W.kitOne K (.type k.tyN) (.type "int") = some (isIntB k) := by
  cases k with
  | non => exact kit_ty (a := "NoneType") (b := "int") (r := false) (by decide +kernel)
  | bl b => exact kit_ty (a := "bool") (b := "int") (r := true) (by decide +kernel)
  | int i => exact kit_ty (a := "int") (b := "int") (r := true) (by decide +kernel)
  | str s => exact kit_ty (a := "str") (b := "int") (r := false) (by decide +kernel)
  | tup l => exact kit_ty (a := "tuple") (b := "int") (r := false) (by decide +kernel)
  | lst l => exact kit_ty (a := "list") (b := "int") (r := false) (by decide +kernel)
theorem kit_bool {K : PySem.W.Frag} (k : Dd) : PySem.W.kitOne K (.type k.tyN) (.type "bool") = some (isBool k) := by
  cases k with
  | non => exact kit_ty (a := "NoneType") (b := "bool") (r := false) (by decide +kernel)
  | bl b => exact kit_ty (a := "bool") (b := "bool") (r := true) (by decide +kernel)
  | int i => exact kit_ty (a := "int") (b := "bool") (r := false) (by decide +kernel)
  | str s => exact kit_ty (a := "str") (b := "bool") (r := false) (by decide +kernel)
  | tup l => exact kit_ty (a := "tuple") (b := "bool") (r := false) (by decide +kernel)
  | lst l => exact kit_ty (a := "list") (b := "bool") (r := false) (by decide +kernel)
theorem inV_strs (z : Str) : ∀ l : List Str, inV (.str z) (l.map V.str) = decide (z ∈ l)
  | [] => rfl
  | a :: l => by
    show ((a == z) || inV (.str z) (l.map V.str)) = _
    rw [inV_strs z l]
    by_cases e : a = z
    · subst e
      simp
    · rw [beq_eq_false_iff_ne.mpr e, Bool.false_or]
      exact decide_eq_decide.mpr ⟨fun h => List.mem_cons_of_mem _ h, fun h => (List.mem_cons.mp h).resolve_left fun z => e z.symm⟩
theorem chainV {σ : L2.St} {H : Hp} {Q : VK} {a n c : Int} {ta tb tc : TE} (ha : ∀ R : VK, R (.int a) H → ta σ H R) (hb : ∀ R : VK, R (.int n) H → tb σ H R) (hc : ∀ R : VK, R (.int c) H → tc σ H R) (h : Q (.bl (decide (a ≤ n) && decide (n ≤ c))) H) :
    tChain (rI0 fun i j => V.bl (decide (i ≤ j))) (rI0 fun i j => V.bl (decide (i ≤ j))) ta tb tc σ H Q := by
  refine ha _ (hb _ ⟨_, _, rfl, rfl, _, rfl, ?_⟩)
  cases e : decide (a ≤ n) with
  | true =>
    rw [e, Bool.true_and] at h
    refine iteT (hc _ ⟨_, _, rfl, rfl, h⟩)
  | false =>
    rw [e, Bool.false_and] at h
    exact iteF h
def codeOk (c : Nat) : Bool := decide (33 ≤ c) && decide (c ≤ 126) && decide (c ≠ 37)
theorem code_read {σ : L2.St} {H : Hp} {Q : VK} {i : Nat} (c : Nat) (hs : σ[i]? = some (some (.int (c : Int)))) (h : Q (.bl (codeOk c)) H) :
    tAndV (tChain (rI0 fun i j => V.bl (decide (i ≤ j))) (rI0 fun i j => V.bl (decide (i ≤ j))) (tC (V.int 33)) (tVar i) (tC (V.int 126))) (tOp rNe (tVar i) (tC (V.int 37))) σ H Q := by
  refine chainV (a := 33) (n := (c : Int)) (c := 126) (fun R hR => hR) (fun R hR => ⟨_, hs, hR⟩) (fun R hR => hR) ?_
  refine ⟨_, rfl, ?_⟩
  have e1 : codeOk c = ((decide ((33 : Int) ≤ (c : Int)) && decide ((c : Int) ≤ 126)) && !decide (V.int (c : Int) = V.int 37)) := by
    unfold codeOk
    congr 1
    · congr 1
      · exact decide_eq_decide.mpr (by omega)
      · exact decide_eq_decide.mpr (by omega)
    · by_cases z : c = 37
      · subst z
        decide
      · rw [decide_eq_true z, decide_eq_false (fun y => z (by have := V.int.inj y; omega))]
        rfl
  rw [e1] at h
  cases hb : (decide ((33 : Int) ≤ (c : Int)) && decide ((c : Int) ≤ 126)) with
  | true =>
    rw [hb, Bool.true_and] at h
    refine iteT ?_
    exact ⟨_, hs, rfl, h⟩
  | false =>
    rw [hb, Bool.false_and] at h
    exact iteF h
structure TxtF (K : PySem.W.Frag) (mg : Str → Option Value) (aS : Addr) : Prop where
  zisinstance : mg "isinstance" = none
  zint : mg "int" = none
  zstr : mg "str" = none
  zbool : mg "bool" = none
  ztuple : mg "tuple" = none
  zlen : mg "len" = none
  zord : mg "ord" = none
  zall : mg "all" = none
  gLONGEST_NAME : ∃ u, mg "LONGEST_NAME" = some u ∧ RelV (.int 80) u
  gLARGEST_NUMBER : ∃ u, mg "LARGEST_NUMBER" = some u ∧ RelV (.int 1000000000000000) u
  gLARGEST_TAG : ∃ u, mg "LARGEST_TAG" = some u ∧ RelV (.int 1000) u
  gLARGEST_NOTE : ∃ u, mg "LARGEST_NOTE" = some u ∧ RelV (.int 1000000000000) u
  gFIRST_CODE : ∃ u, mg "FIRST_CODE" = some u ∧ RelV (.int 33) u
  gLAST_CODE : ∃ u, mg "LAST_CODE" = some u ∧ RelV (.int 126) u
  gPERCENT_CODE : ∃ u, mg "PERCENT_CODE" = some u ∧ RelV (.int 37) u
  gSIGNS : ∃ u, mg "SIGNS" = some u ∧ RelV (.ref aS) u
  kSIGNS : ∀ H : Hp, SqT K H aS (signs.map V.str)
section
variable {P : Program} {w : World} {K : PySem.W.Frag} {mg : Str → Option Value} {base : Heap} {aS : Addr}
/-- a def that tells something of a thing -/
def spB (g : Dd → Bool) (P : Dd → Prop) : Sp := fun vs H Q _ => ∃ (B : Addr → Prop) (v : V) (k : Dd), vs = [v] ∧ k.At B H v ∧ P k ∧ ∀ H', Same H H' → Q (.bl (g k)) H'
def spNumber : Sp := fun vs H Q _ => ∃ (B : Addr → Prop) (v : V) (k : Dd) (lo hi : Int), vs = [v, .int lo, .int hi] ∧ k.At B H v ∧ ∀ H', Same H H' → Q (.bl (numIn lo hi k)) H'
def spRow (g : Nat → Dd → Bool) : Sp := fun vs H Q _ => ∃ (B : Addr → Prop) (v : V) (k : Dd) (n : Nat), vs = [v, .int (n : Int)] ∧ k.At B H v ∧ k.sz ≤ 1000000 ∧ ∀ H', Same H H' → Q (.bl (g n k)) H'
end
end Toy

set_option Elab.async false
set_option linter.all false
set_option maxRecDepth 100000
set_option maxHeartbeats 4000000
/-! Part D: rows of different names; the forms of terms. -/
namespace Toy
open PySem L2
open PyProof.Rows (envOfC)
theorem ddK_snoc : ∀ (acc ks : List Key) (k : Key), ddK acc (ks ++ [k]) = if ((ddK acc ks).any fun j => decide (j = k)) = true then ddK acc ks else ddK acc ks ++ [k]
  | acc, [], k => rfl
  | acc, j :: ks, k => ddK_snoc _ ks k
theorem putK_keys (kvs : List (Key × V)) (k : Key) (v : V) : (putK kvs k v).map (·.1) = if ((kvs.map (·.1)).any fun j => decide (j = k)) = true then kvs.map (·.1) else kvs.map (·.1) ++ [k] := by
  unfold putK
  rw [List.any_map]
  by_cases h : (kvs.any fun kv => decide (kv.1 = k)) = true
  · rw [if_pos h, if_pos (by exact h), List.map_map]
    refine List.map_congr_left fun p hp => ?_
    show (if p.1 = k then (p.1, v) else p).1 = p.1
    split <;> rfl
  · rw [if_neg h, if_neg (by exact h), List.map_append]
    rfl
theorem ddK_len : ∀ (acc ks : List Key), (ddK acc ks).length ≤ acc.length + ks.length
  | acc, [] => Nat.le_refl _
  | acc, k :: ks => by
    have h := ddK_len (if (acc.any fun j => decide (j = k)) = true then acc else acc ++ [k]) ks
    have e : (if (acc.any fun j => decide (j = k)) = true then acc else acc ++ [k]).length ≤ acc.length + 1 := by
      split
      · omega
      · rw [List.length_append]; exact Nat.le_refl _
    show (ddK _ ks).length ≤ acc.length + (ks.length + 1)
    omega
/-- a text or a whole number -/
def isKey : Dd → Bool
  | .str _ => true
  | .int _ => true
  | _ => false
theorem key_at {B : Addr → Prop} {H : Hp} {k : Dd} {v : V} (h : k.At B H v) (hk : isKey k = true) : v = kV (keyD k) := by
  cases k with
  | str s => exact h.1
  | int i => exact h
  | bl b => cases hk
  | non => cases hk
  | tup l => cases hk
  | lst l => cases hk
theorem int_dec (a b : Nat) : decide (V.int (a : Int) = V.int (b : Int)) = decide (a = b) := decide_eq_decide.mpr ⟨fun e => by have := V.int.inj e; omega, fun e => by rw [e]⟩
theorem name_key {k : Dd} (h : isName k = true) : isKey k = true := by
  cases k with
  | str s => rfl
  | int i => rfl
  | bl b => cases h
  | non => cases h
  | tup l => cases h
  | lst l => cases h
theorem num_key {k : Dd} {lo hi : Int} (h : numIn lo hi k = true) : isKey k = true := by
  cases k with
  | str s => rfl
  | int i => rfl
  | bl b => cases h
  | non => cases h
  | tup l => cases h
  | lst l => cases h
theorem ne_non {B : Addr → Prop} {H : Hp} {k : Dd} {v : V} (h : k.At B H v) (hk : k ≠ .non) : v ≠ .non := by
  cases k with
  | non => exact absurd rfl hk
  | bl b => cases h; exact fun z => by cases z
  | int i => cases h; exact fun z => by cases z
  | str s => cases h.1; exact fun z => by cases z
  | tup l => obtain ⟨a, xs, rfl, _⟩ := h; exact fun z => by cases z
  | lst l => obtain ⟨a, xs, rfl, _⟩ := h; exact fun z => by cases z
theorem dflt_eq {k : Dd} (hk : k ≠ .non) : isDflt k = (isRow 2 k && isName (nth 0 k)) := by
  cases k with
  | non => exact absurd rfl hk
  | bl b => rfl
  | int i => rfl
  | str s => rfl
  | tup l => rfl
  | lst l => rfl
/-- the i-th thing behind the first -/
theorem arg_at {B : Addr → Prop} {H : Hp} {v0 : V} {r : List Dd} {ys : List V} (h : Dd.Ats B H r ys) {i : Nat} (hi : i < r.length) : ∃ x, atI (v0 :: ys) ((i + 1 : Nat) : Int) = some x ∧ (arg i r).At B H x := by
  obtain ⟨x, hx, hxa⟩ := ats_getI h (List.getElem?_eq_getElem hi)
  refine ⟨x, atI_nat (xs := v0 :: ys) (j := i + 1) (by rw [List.getElem?_cons_succ]; exact hx), ?_⟩
  unfold arg
  rw [List.getD_eq_getElem?_getD, List.getElem?_eq_getElem hi]
  exact hxa
theorem nth_at {B : Addr → Prop} {H : Hp} {l : List Dd} {ys : List V} (h : Dd.Ats B H l ys) {i : Nat} (hi : i < l.length) : ∃ x, atI ys (i : Int) = some x ∧ (nth i (.tup l)).At B H x := by
  obtain ⟨x, hx, hxa⟩ := ats_getI h (List.getElem?_eq_getElem hi)
  refine ⟨x, atI_nat hx, ?_⟩
  show (l.getD i .non).At B H x
  rw [List.getD_eq_getElem?_getD, List.getElem?_eq_getElem hi]
  exact hxa
section
variable {P : Program} {w : World} {K : PySem.W.Frag} {mg : Str → Option Value} {base : Heap} {aS : Addr}
def spDiffT : Sp := fun vs H Q _ => ∃ (B : Addr → Prop) (a : Addr) (l : List Dd) (xs : List V), vs = [.ref a] ∧ H a = some (.tup xs) ∧ Dd.Ats B H l xs ∧ (∀ k ∈ l, isKey k = true) ∧ l.length ≤ 1000000 ∧ ∀ H', Same H H' → Q (.bl (distK (l.map keyD))) H'
def spDiffL : Sp := fun vs H Q _ => ∃ (B : Addr → Prop) (a : Addr) (l : List Dd) (xs : List V), vs = [.ref a] ∧ H a = some (.lst xs) ∧ Dd.Ats B H l xs ∧ (∀ k ∈ l, isKey k = true) ∧ l.length ≤ 1000000 ∧ ∀ H', Same H H' → Q (.bl (distK (l.map keyD))) H'
end
end Toy

set_option Elab.async false
set_option linter.all false
set_option maxRecDepth 100000
set_option maxHeartbeats 4000000
/-! Part E: the forms of terms. -/
namespace Toy
open PySem L2
open PyProof.Rows (envOfC)
theorem head_at {B : Addr → Prop} {H : Hp} {w : Str} {r : List Dd} {v : V} (h : (Dd.tup (.str w :: r)).At B H v) : ∃ a ys, v = .ref a ∧ H a = some (.tup (.str w :: ys)) ∧ Dd.Ats B H r ys ∧ ys.length = r.length ∧ w.length ≤ 1000 := by
  obtain ⟨a, xs, rfl, ha, x, ys, rfl, ⟨hx, hw⟩, hs⟩ := h
  cases hx
  exact ⟨a, ys, rfl, ha, hs, ats_len hs, hw⟩
theorem len_is {w : Str} {ys : List V} {r : List Dd} (h : ys.length = r.length) (n : Nat) : decide (V.int (((V.str w :: ys).length : Nat) : Int) = V.int ((n + 1 : Nat) : Int)) = decide (r.length = n) := by
  rw [int_dec, List.length_cons, h]
  exact decide_eq_decide.mpr (by omega)
theorem len_ne {w : Str} {ys : List V} {r : List Dd} (h : ys.length = r.length) (n : Nat) : (!decide (V.int (((V.str w :: ys).length : Nat) : Int) = V.int ((n + 1 : Nat) : Int))) = !decide (r.length = n) := by rw [len_is h]
theorem arg_sz {w : Str} {r : List Dd} (i : Nat) : (arg i r).sz ≤ (Dd.tup (.str w :: r)).sz := by
  unfold arg
  rw [List.getD_eq_getElem?_getD]
  show _ ≤ 1 + (1 + Dd.szs r)
  cases h : r[i]? with
  | none => show 1 ≤ _; omega
  | some k =>
    have := szs_mem (List.mem_of_getElem? h)
    show k.sz ≤ _
    omega
theorem rows_of {n : Nat} {k : Dd} (h : areRows n k = true) : ∃ l, k = .tup l ∧ ∀ q ∈ l, ∃ m, q = .tup m ∧ m.length = n := by
  cases k with
  | tup l =>
    refine ⟨l, rfl, fun q hq => ?_⟩
    have hr := List.all_eq_true.mp (show l.all (isRow n) = true from h) q hq
    cases q with
    | tup m => exact ⟨m, rfl, of_decide_eq_true hr⟩
    | int i => cases hr
    | bl b => cases hr
    | non => cases hr
    | str s => cases hr
    | lst l => cases hr
  | int i => cases h
  | bl b => cases h
  | non => cases h
  | str s => cases h
  | lst l => cases h
theorem pair_at {B : Addr → Prop} {H : Hp} {m : List Dd} {v : V} (h : (Dd.tup m).At B H v) (hl : m.length = 2) : ∃ t x y, v = .ref t ∧ H t = some (.tup [x, y]) ∧ (nth 0 (.tup m)).At B H x ∧ (nth 1 (.tup m)).At B H y := by
  match m, hl with
  | [a, b], _ =>
    obtain ⟨t, xs, rfl, ht, x, zs, rfl, hx, y, us, rfl, hy, hz⟩ := h
    cases hz
    exact ⟨t, x, y, rfl, ht, hx, hy⟩
theorem three_at {B : Addr → Prop} {H : Hp} {m : List Dd} {v : V} (h : (Dd.tup m).At B H v) (hl : m.length = 3) : ∃ t x y z, v = .ref t ∧ H t = some (.tup [x, y, z]) ∧ (nth 0 (.tup m)).At B H x ∧ (nth 1 (.tup m)).At B H y ∧ (nth 2 (.tup m)).At B H z := by
  match m, hl with
  | [a, b, c], _ =>
    obtain ⟨t, xs, rfl, ht, x, zs, rfl, hx, y, us, rfl, hy, z, vs, rfl, hz, he⟩ := h
    cases he
    exact ⟨t, x, y, z, rfl, ht, hx, hy, hz⟩
theorem nth_sz (i : Nat) (k : Dd) : (nth i k).sz ≤ k.sz := by
  cases k with
  | tup l =>
    show (l.getD i .non).sz ≤ 1 + Dd.szs l
    rw [List.getD_eq_getElem?_getD]
    cases h : l[i]? with
    | none => show 1 ≤ _; omega
    | some q =>
      have := szs_mem (List.mem_of_getElem? h)
      show q.sz ≤ _
      omega
  | int i => exact sz_pos _
  | bl b => exact sz_pos _
  | non => exact sz_pos _
  | str s => exact sz_pos _
  | lst l => exact sz_pos _
theorem nths_sz (i : Nat) : ∀ l : List Dd, Dd.szs (l.map (nth i)) ≤ Dd.szs l
  | [] => Nat.le_refl _
  | k :: l => by
    have h1 := nth_sz i k
    have h2 := nths_sz i l
    show (nth i k).sz + Dd.szs (l.map (nth i)) ≤ k.sz + Dd.szs l
    omega
theorem big : (1000000 : Nat) < sizeLine := by decide
section
variable {P : Program} {w : World} {K : PySem.W.Frag} {mg : Str → Option Value} {base : Heap} {aS : Addr}
/-- a def that tells whether a row has one form -/
def spForm (g : List Dd → Bool) : Sp := fun vs H Q _ => ∃ (B : Addr → Prop) (v : V) (w : Str) (r : List Dd), vs = [v] ∧ (Dd.tup (.str w :: r)).At B H v ∧ (Dd.tup (.str w :: r)).sz ≤ 1000000 ∧ ∀ H', Same H H' → Q (.bl (g r)) H'
end
end Toy

set_option Elab.async false
set_option linter.all false
set_option maxRecDepth 100000
set_option maxHeartbeats 4000000
/-! Part F: whether something has a form; the parts of a term. -/
namespace Toy
open PySem L2
open PyProof.Rows (envOfC)
def words : List Str := ["num", "var", "app", "lam", "let", "seq", "con", "case", "pick", "prim", "note"]
theorem form_out {z : Str} (h : z ∉ words) (r : List Dd) : formW z r = false := by
  simp only [words, List.mem_cons, List.not_mem_nil, or_false, not_or] at h
  obtain ⟨h1, h2, h3, h4, h5, h6, h7, h8, h9, h10, h11⟩ := h
  unfold formW
  rw [if_neg h1, if_neg h2, if_neg h3, if_neg h4, if_neg h5, if_neg h6, if_neg h7, if_neg h8, if_neg h9, if_neg h10, if_neg h11]
theorem cut_from (xs : List V) (k : Nat) (h : k ≤ xs.length) : cutV xs (some (k : Int)) none = xs.drop k := by
  unfold cutV
  rw [HT.sIx_none, HT.sIx_nat, Nat.min_eq_left h]
  exact List.take_of_length_le (by rw [List.length_drop]; exact Nat.le_refl _)
theorem cut_no1 (k n d : Nat) (h : 0 < min k n) : ¬ HT.sIx n d (some (k : Int)) = 0 := by
  rw [HT.sIx_nat]
  omega
theorem ats_drop {B : Addr → Prop} {H : Hp} : ∀ {l : List Dd} {xs : List V}, Dd.Ats B H l xs → Dd.Ats B H (l.drop 1) (xs.drop 1)
  | [], _, h => by cases h; rfl
  | k :: l, _, ⟨x, ys, e, h, hs⟩ => by cases e; exact hs
structure TxtM (P : Program) (w : World) (K : PySem.W.Frag) (mg : Str → Option Value) (base : Heap) (aF : Addr) (es : Array DictEntry) (n : Nat) (sF : Addr → Option Sp) : Prop where
  zisinstance : mg "isinstance" = none
  ztuple : mg "tuple" = none
  zstr : mg "str" = none
  zlen : mg "len" = none
  kF : KDict K w aF es n
  gFORMS : ∃ u, mg "FORMS" = some u ∧ RelV (.ref aF) u
  formIn : ∀ z ∈ words, ∃ f, PySem.W.nsIn K aF z = some (some (.ref f)) ∧ sF f = some (spForm (formW z))
  formOut : ∀ z, z ∉ words → PySem.W.nsIn K aF z = some none
  heldF : ∀ f sp, sF f = some sp → Held P w K mg base 4 f sp
section
variable {P : Program} {w : World} {K : PySem.W.Frag} {mg : Str → Option Value} {base : Heap} {aF : Addr} {es : Array DictEntry} {n : Nat} {sF : Addr → Option Sp}
/-- a def that gives the parts of one form -/
def spPart (C : List Dd → Prop) (g : List Dd → List Dd) : Sp := fun vs H Q _ => ∃ (B : Addr → Prop) (v : V) (w : Str) (r : List Dd), vs = [v] ∧ (Dd.tup (.str w :: r)).At B H v ∧ (Dd.tup (.str w :: r)).sz ≤ 1000000 ∧ C r ∧ ∀ (b : Addr) (xs : List V) (H' : Hp), Same H H' → H' b = some (.tup xs) → Dd.Ats B H' (g r) xs → Q (.ref b) H'
/-- pairs, in a tuple -/
def PairsD (k : Dd) : Prop := ∃ l, k = .tup l ∧ ∀ q ∈ l, ∃ m, q = .tup m ∧ m.length = 2
theorem last_at {B : Addr → Prop} {H : Hp} {m : List Dd} {ys : List V} (h : Dd.Ats B H m ys) (hm : 0 < m.length) : ∃ y, atI ys (-1) = some y ∧ (lastD (.tup m)).At B H y := by
  have hl := ats_len h
  obtain ⟨y, hy, hya⟩ := ats_getI h (List.getElem?_eq_getElem (show m.length - 1 < m.length by omega))
  refine ⟨y, ?_, ?_⟩
  · have e : ixN ys.length (-1) = some (ys.length - 1) := by
      unfold ixN
      rw [if_neg (by decide), if_pos (by omega)]
      exact congrArg some (by omega)
    show (ixN ys.length (-1)).bind (fun j => ys[j]?) = _
    rw [e]
    show ys[ys.length - 1]? = _
    rw [hl]
    exact hy
  · show (m.getLastD .non).At B H y
    rw [List.getLastD_eq_getLast?, List.getLast?_eq_getElem?, List.getElem?_eq_getElem (show m.length - 1 < m.length by omega)]
    exact hya
/-- rows that are not empty, in a tuple -/
def RowsD (k : Dd) : Prop := ∃ l, k = .tup l ∧ ∀ q ∈ l, ∃ m, q = .tup m ∧ 0 < m.length
end
end Toy

set_option Elab.async false
set_option linter.all false
set_option maxRecDepth 100000
set_option maxHeartbeats 4000000
/-! Part G: the parts of any term; whether something is a term. -/
namespace Toy
open PySem L2
open PyProof.Rows (envOfC)
def pwords : List Str := ["app", "lam", "let", "seq", "con", "case", "pick", "prim", "note"]
theorem parts_out {z : Str} (h : z ∉ pwords) (r : List Dd) : partsW z r = [] := by
  simp only [pwords, List.mem_cons, List.not_mem_nil, or_false, not_or] at h
  obtain ⟨h3, h4, h5, h6, h7, h8, h9, h10, h11⟩ := h
  unfold partsW
  rw [if_neg h3, if_neg h4, if_neg h5, if_neg h6, if_neg h7, if_neg h8, if_neg h9, if_neg h10, if_neg h11]
structure TxtN (P : Program) (w : World) (K : PySem.W.Frag) (mg : Str → Option Value) (base : Heap) (aP : Addr) (es : Array DictEntry) (n : Nat) (sP : Addr → Option Sp) : Prop where
  kP : KDict K w aP es n
  gPARTS : ∃ u, mg "PARTS" = some u ∧ RelV (.ref aP) u
  partIn : ∀ z ∈ pwords, ∃ f C g, PySem.W.nsIn K aP z = some (some (.ref f)) ∧ sP f = some (spPart C g) ∧ (∀ r, formW z r = true → C r) ∧ ∀ r, partsW z r = g r
  partOut : ∀ z, z ∉ pwords → PySem.W.nsIn K aP z = some none
  heldP : ∀ f sp, sP f = some sp → Held P w K mg base 2 f sp
section
variable {P : Program} {w : World} {K : PySem.W.Frag} {mg : Str → Option Value} {base : Heap} {aP : Addr} {es : Array DictEntry} {n : Nat} {sP : Addr → Option Sp}
theorem form_tup {k : Dd} (h : formB k = true) : ∃ z r, k = .tup (.str z :: r) ∧ formW z r = true := by
  cases k with
  | tup l =>
    cases l with
    | nil => cases h
    | cons x r =>
      cases x with
      | str z => exact ⟨z, r, rfl, h⟩
      | int i => cases h
      | bl b => cases h
      | non => cases h
      | tup l => cases h
      | lst l => cases h
  | int i => cases h
  | bl b => cases h
  | non => cases h
  | str s => cases h
  | lst l => cases h
def spParts : Sp := fun vs H Q _ => ∃ (B : Addr → Prop) (v : V) (k : Dd), vs = [v] ∧ k.At B H v ∧ formB k = true ∧ k.sz ≤ 1000000 ∧ ∀ (b : Addr) (xs : List V) (H' : Hp), Same H H' → H' b = some (.tup xs) → Dd.Ats B H' (partsD k) xs → Q (.ref b) H'
/-! ### is_term -/
theorem szs_tl (k : Dd) : Dd.szs (tl k) ≤ k.sz - 1 := by
  cases k with
  | tup l => show Dd.szs l ≤ 1 + Dd.szs l - 1; omega
  | int i => exact Nat.zero_le _
  | bl b => exact Nat.zero_le _
  | non => exact Nat.zero_le _
  | str s => exact Nat.zero_le _
  | lst l => exact Nat.zero_le _
theorem fw_num (r : List Dd) : formW "num" r = fNum r := by
  unfold formW
  rw [if_pos rfl]
theorem fw_var (r : List Dd) : formW "var" r = fVar r := by
  unfold formW
  rw [if_neg (show ¬ ("var" : Str) = "num" by decide +kernel), if_pos rfl]
theorem fw_app (r : List Dd) : formW "app" r = fApp r := by
  unfold formW
  rw [if_neg (show ¬ ("app" : Str) = "num" by decide +kernel), if_neg (show ¬ ("app" : Str) = "var" by decide +kernel), if_pos rfl]
theorem fw_lam (r : List Dd) : formW "lam" r = fLam r := by
  unfold formW
  rw [if_neg (show ¬ ("lam" : Str) = "num" by decide +kernel), if_neg (show ¬ ("lam" : Str) = "var" by decide +kernel), if_neg (show ¬ ("lam" : Str) = "app" by decide +kernel), if_pos rfl]
theorem fw_let (r : List Dd) : formW "let" r = fLet r := by
  unfold formW
  rw [if_neg (show ¬ ("let" : Str) = "num" by decide +kernel), if_neg (show ¬ ("let" : Str) = "var" by decide +kernel), if_neg (show ¬ ("let" : Str) = "app" by decide +kernel), if_neg (show ¬ ("let" : Str) = "lam" by decide +kernel), if_pos rfl]
theorem fw_seq (r : List Dd) : formW "seq" r = fSeq r := by
  unfold formW
  rw [if_neg (show ¬ ("seq" : Str) = "num" by decide +kernel), if_neg (show ¬ ("seq" : Str) = "var" by decide +kernel), if_neg (show ¬ ("seq" : Str) = "app" by decide +kernel), if_neg (show ¬ ("seq" : Str) = "lam" by decide +kernel), if_neg (show ¬ ("seq" : Str) = "let" by decide +kernel), if_pos rfl]
theorem fw_con (r : List Dd) : formW "con" r = fCon r := by
  unfold formW
  rw [if_neg (show ¬ ("con" : Str) = "num" by decide +kernel), if_neg (show ¬ ("con" : Str) = "var" by decide +kernel), if_neg (show ¬ ("con" : Str) = "app" by decide +kernel), if_neg (show ¬ ("con" : Str) = "lam" by decide +kernel), if_neg (show ¬ ("con" : Str) = "let" by decide +kernel), if_neg (show ¬ ("con" : Str) = "seq" by decide +kernel), if_pos rfl]
theorem fw_case (r : List Dd) : formW "case" r = fCase r := by
  unfold formW
  rw [if_neg (show ¬ ("case" : Str) = "num" by decide +kernel), if_neg (show ¬ ("case" : Str) = "var" by decide +kernel), if_neg (show ¬ ("case" : Str) = "app" by decide +kernel), if_neg (show ¬ ("case" : Str) = "lam" by decide +kernel), if_neg (show ¬ ("case" : Str) = "let" by decide +kernel), if_neg (show ¬ ("case" : Str) = "seq" by decide +kernel), if_neg (show ¬ ("case" : Str) = "con" by decide +kernel), if_pos rfl]
theorem fw_pick (r : List Dd) : formW "pick" r = fPick r := by
  unfold formW
  rw [if_neg (show ¬ ("pick" : Str) = "num" by decide +kernel), if_neg (show ¬ ("pick" : Str) = "var" by decide +kernel), if_neg (show ¬ ("pick" : Str) = "app" by decide +kernel), if_neg (show ¬ ("pick" : Str) = "lam" by decide +kernel), if_neg (show ¬ ("pick" : Str) = "let" by decide +kernel), if_neg (show ¬ ("pick" : Str) = "seq" by decide +kernel), if_neg (show ¬ ("pick" : Str) = "con" by decide +kernel), if_neg (show ¬ ("pick" : Str) = "case" by decide +kernel), if_pos rfl]
theorem fw_prim (r : List Dd) : formW "prim" r = fPrim r := by
  unfold formW
  rw [if_neg (show ¬ ("prim" : Str) = "num" by decide +kernel), if_neg (show ¬ ("prim" : Str) = "var" by decide +kernel), if_neg (show ¬ ("prim" : Str) = "app" by decide +kernel), if_neg (show ¬ ("prim" : Str) = "lam" by decide +kernel), if_neg (show ¬ ("prim" : Str) = "let" by decide +kernel), if_neg (show ¬ ("prim" : Str) = "seq" by decide +kernel), if_neg (show ¬ ("prim" : Str) = "con" by decide +kernel), if_neg (show ¬ ("prim" : Str) = "case" by decide +kernel), if_neg (show ¬ ("prim" : Str) = "pick" by decide +kernel), if_pos rfl]
theorem fw_note (r : List Dd) : formW "note" r = fNote r := by
  unfold formW
  rw [if_neg (show ¬ ("note" : Str) = "num" by decide +kernel), if_neg (show ¬ ("note" : Str) = "var" by decide +kernel), if_neg (show ¬ ("note" : Str) = "app" by decide +kernel), if_neg (show ¬ ("note" : Str) = "lam" by decide +kernel), if_neg (show ¬ ("note" : Str) = "let" by decide +kernel), if_neg (show ¬ ("note" : Str) = "seq" by decide +kernel), if_neg (show ¬ ("note" : Str) = "con" by decide +kernel), if_neg (show ¬ ("note" : Str) = "case" by decide +kernel), if_neg (show ¬ ("note" : Str) = "pick" by decide +kernel), if_neg (show ¬ ("note" : Str) = "prim" by decide +kernel), if_pos rfl]
theorem pw_app (r : List Dd) : partsW "app" r = r := by
  unfold partsW
  rw [if_pos rfl]
theorem pw_lam (r : List Dd) : partsW "lam" r = [arg 1 r] := by
  unfold partsW
  rw [if_neg (show ¬ ("lam" : Str) = "app" by decide +kernel), if_pos rfl]
theorem pw_let (r : List Dd) : partsW "let" r = gLet r := by
  unfold partsW
  rw [if_neg (show ¬ ("let" : Str) = "app" by decide +kernel), if_neg (show ¬ ("let" : Str) = "lam" by decide +kernel), if_pos rfl]
theorem pw_seq (r : List Dd) : partsW "seq" r = r.drop 1 := by
  unfold partsW
  rw [if_neg (show ¬ ("seq" : Str) = "app" by decide +kernel), if_neg (show ¬ ("seq" : Str) = "lam" by decide +kernel), if_neg (show ¬ ("seq" : Str) = "let" by decide +kernel), if_pos rfl]
theorem pw_con (r : List Dd) : partsW "con" r = tl (arg 1 r) := by
  unfold partsW
  rw [if_neg (show ¬ ("con" : Str) = "app" by decide +kernel), if_neg (show ¬ ("con" : Str) = "lam" by decide +kernel), if_neg (show ¬ ("con" : Str) = "let" by decide +kernel), if_neg (show ¬ ("con" : Str) = "seq" by decide +kernel), if_pos rfl]
theorem pw_case (r : List Dd) : partsW "case" r = gChoice r := by
  unfold partsW
  rw [if_neg (show ¬ ("case" : Str) = "app" by decide +kernel), if_neg (show ¬ ("case" : Str) = "lam" by decide +kernel), if_neg (show ¬ ("case" : Str) = "let" by decide +kernel), if_neg (show ¬ ("case" : Str) = "seq" by decide +kernel), if_neg (show ¬ ("case" : Str) = "con" by decide +kernel), if_pos rfl]
theorem pw_pick (r : List Dd) : partsW "pick" r = gChoice r := by
  unfold partsW
  rw [if_neg (show ¬ ("pick" : Str) = "app" by decide +kernel), if_neg (show ¬ ("pick" : Str) = "lam" by decide +kernel), if_neg (show ¬ ("pick" : Str) = "let" by decide +kernel), if_neg (show ¬ ("pick" : Str) = "seq" by decide +kernel), if_neg (show ¬ ("pick" : Str) = "con" by decide +kernel), if_neg (show ¬ ("pick" : Str) = "case" by decide +kernel), if_pos rfl]
theorem pw_prim (r : List Dd) : partsW "prim" r = r.drop 1 := by
  unfold partsW
  rw [if_neg (show ¬ ("prim" : Str) = "app" by decide +kernel), if_neg (show ¬ ("prim" : Str) = "lam" by decide +kernel), if_neg (show ¬ ("prim" : Str) = "let" by decide +kernel), if_neg (show ¬ ("prim" : Str) = "seq" by decide +kernel), if_neg (show ¬ ("prim" : Str) = "con" by decide +kernel), if_neg (show ¬ ("prim" : Str) = "case" by decide +kernel), if_neg (show ¬ ("prim" : Str) = "pick" by decide +kernel), if_pos rfl]
theorem pw_note (r : List Dd) : partsW "note" r = [arg 1 r] := by
  unfold partsW
  rw [if_neg (show ¬ ("note" : Str) = "app" by decide +kernel), if_neg (show ¬ ("note" : Str) = "lam" by decide +kernel), if_neg (show ¬ ("note" : Str) = "let" by decide +kernel), if_neg (show ¬ ("note" : Str) = "seq" by decide +kernel), if_neg (show ¬ ("note" : Str) = "con" by decide +kernel), if_neg (show ¬ ("note" : Str) = "case" by decide +kernel), if_neg (show ¬ ("note" : Str) = "pick" by decide +kernel), if_neg (show ¬ ("note" : Str) = "prim" by decide +kernel), if_pos rfl]
theorem szs_two {r : List Dd} (h : r.length = 2) : Dd.szs r = (arg 0 r).sz + (arg 1 r).sz := by
  match r, h with
  | [a, b], _ => show a.sz + (b.sz + 0) = a.sz + b.sz; omega
theorem szs_three {r : List Dd} (h : r.length = 3) : Dd.szs r = (arg 0 r).sz + (arg 1 r).sz + (arg 2 r).sz := by
  match r, h with
  | [a, b, c], _ => show a.sz + (b.sz + (c.sz + 0)) = a.sz + b.sz + c.sz; omega
theorem last_sz (k : Dd) : (lastD k).sz ≤ k.sz := by
  cases k with
  | tup l =>
    show (l.getLastD .non).sz ≤ 1 + Dd.szs l
    rw [List.getLastD_eq_getLast?]
    cases h : l.getLast? with
    | none => show 1 ≤ _; omega
    | some q =>
      have := szs_mem (List.mem_of_getLast? h)
      show q.sz ≤ _
      omega
  | int i => exact sz_pos _
  | bl b => exact sz_pos _
  | non => exact sz_pos _
  | str s => exact sz_pos _
  | lst l => exact sz_pos _
theorem lasts_sz : ∀ l : List Dd, Dd.szs (l.map lastD) ≤ Dd.szs l
  | [] => Nat.le_refl _
  | k :: l => by
    have h1 := last_sz k
    have h2 := lasts_sz l
    show (lastD k).sz + Dd.szs (l.map lastD) ≤ k.sz + Dd.szs l
    omega
theorem drop_sz : ∀ r : List Dd, Dd.szs (r.drop 1) ≤ Dd.szs r
  | [] => Nat.le_refl _
  | k :: r => by show Dd.szs r ≤ k.sz + Dd.szs r; omega
theorem dflt_sz (d : Dd) : Dd.szs (dfltP d) ≤ d.sz := by
  have h := nth_sz 1 d
  unfold dfltP
  split
  · exact Nat.zero_le _
  · show (nth 1 d).sz + 0 ≤ d.sz
    omega
theorem fand {a b : Bool} (h : (a && b) = true) : a = true ∧ b = true := by rwa [Bool.and_eq_true] at h
theorem parts_sz {k : Dd} (h : formB k = true) : Dd.szs (partsD k) < k.sz := by
  obtain ⟨z, r, rfl, hf⟩ := form_tup h
  show Dd.szs (partsW z r) < 1 + (1 + Dd.szs r)
  by_cases hp : z ∈ pwords
  · simp only [pwords, List.mem_cons, List.not_mem_nil, or_false] at hp
    rcases hp with e | e | e | e | e | e | e | e | e <;> subst e
    · rw [pw_app]; omega
    · rw [pw_lam]; rw [fw_lam] at hf
      have := szs_two (of_decide_eq_true (fand hf).1)
      show (arg 1 r).sz + 0 < _
      omega
    · rw [pw_let]; rw [fw_let] at hf
      have := szs_two (of_decide_eq_true (fand (fand hf).1).1)
      have h1 := nths_sz 1 (tl (arg 0 r))
      have h2 := szs_tl (arg 0 r)
      unfold gLet
      rw [szs_app]
      show _ + ((arg 1 r).sz + 0) < _
      omega
    · rw [pw_seq]; have := drop_sz r; omega
    · rw [pw_con]; rw [fw_con] at hf
      have := szs_two (of_decide_eq_true (fand hf).1)
      have h2 := szs_tl (arg 1 r)
      omega
    · rw [pw_case]; rw [fw_case] at hf
      have := szs_three (of_decide_eq_true (fand (fand (fand hf).1).1).1)
      have h1 := lasts_sz (tl (arg 1 r))
      have h2 := szs_tl (arg 1 r)
      have h3 := dflt_sz (arg 2 r)
      show (arg 0 r).sz + Dd.szs (_ ++ _) < _
      rw [szs_app]
      omega
    · rw [pw_pick]; rw [fw_pick] at hf
      have := szs_three (of_decide_eq_true (fand (fand (fand hf).1).1).1)
      have h1 := lasts_sz (tl (arg 1 r))
      have h2 := szs_tl (arg 1 r)
      have h3 := dflt_sz (arg 2 r)
      show (arg 0 r).sz + Dd.szs (_ ++ _) < _
      rw [szs_app]
      omega
    · rw [pw_prim]; have := drop_sz r; omega
    · rw [pw_note]; rw [fw_note] at hf
      have := szs_two (of_decide_eq_true (fand hf).1)
      show (arg 1 r).sz + 0 < _
      omega
  · rw [parts_out hp]
    show 0 < _
    omega
theorem isT_stab : ∀ (n m : Nat) (k : Dd), k.sz ≤ n → k.sz ≤ m → isT n k = isT m k
  | 0, _, k, h, _ => by have := sz_pos k; omega
  | _ + 1, 0, k, _, h => by have := sz_pos k; omega
  | n + 1, m + 1, k, h1, h2 => by
    show (formB k && (partsD k).all (isT n)) = (formB k && (partsD k).all (isT m))
    cases hf : formB k with
    | false => rfl
    | true =>
      rw [Bool.true_and, Bool.true_and]
      have hp := parts_sz hf
      have e : ∀ p ∈ partsD k, isT n p = isT m p := fun p hp' => by
        have := szs_mem hp'
        exact isT_stab n m p (by omega) (by omega)
      rw [Bool.eq_iff_iff, List.all_eq_true, List.all_eq_true]
      exact ⟨fun h p hp => by rw [← e p hp]; exact h p hp, fun h p hp => by rw [e p hp]; exact h p hp⟩
/-- whether something is a term -/
def isTT (k : Dd) : Bool := isT k.sz k
theorem isTT_eq (k : Dd) : isTT k = (formB k && (partsD k).all isTT) := by
  have h1 : isTT k = isT (k.sz + 1) k := isT_stab _ _ k (Nat.le_refl _) (Nat.le_succ _)
  rw [h1]
  show (formB k && (partsD k).all (isT k.sz)) = _
  cases hf : formB k with
  | false => rfl
  | true =>
    rw [Bool.true_and, Bool.true_and]
    have hp := parts_sz hf
    have e : ∀ p ∈ partsD k, isT k.sz p = isTT p := fun p hp' => by
      have := szs_mem hp'
      exact isT_stab _ _ p (by omega) (Nat.le_refl _)
    rw [Bool.eq_iff_iff, List.all_eq_true, List.all_eq_true]
    exact ⟨fun h p hp => by rw [← e p hp]; exact h p hp, fun h p hp => by rw [e p hp]; exact h p hp⟩
end
end Toy

set_option Elab.async false
set_option linter.all false
set_option maxRecDepth 100000
set_option maxHeartbeats 4000000
/-! Part H: good terms in plain Lean; names drawn. -/
namespace Toy
open PySem L2
open PyProof.Rows (envOfC)
/-- a row that begins with the word of a form -/
def kindTup : Dd → Bool
  | .tup (.str z :: _) => decide (z ∈ words)
  | _ => false
def niceW (w : Str) (r : List Dd) : Bool := if w = "case" then !kindTup (arg 2 r) else if w = "pick" then !kindTup (arg 2 r) else true
def niceB : Dd → Bool
  | .tup (.str w :: r) => niceW w r
  | _ => true
/-- a term, not deeper than this, whose names are no words of forms -/
def isN : Nat → Dd → Bool
  | 0, _ => false
  | n + 1, k => formB k && niceB k && (partsD k).all (isN n)
theorem isN_mono : ∀ (n m : Nat) (k : Dd), n ≤ m → isN n k = true → isN m k = true
  | 0, _, _, _, h => by cases h
  | n + 1, 0, _, h, _ => by omega
  | n + 1, m + 1, k, hl, h => by
    obtain ⟨h1, h2⟩ := fand h
    show (formB k && niceB k && (partsD k).all (isN m)) = true
    rw [h1, Bool.true_and, List.all_eq_true]
    exact fun p hp => isN_mono n m p (by omega) (List.all_eq_true.mp h2 p hp)
theorem isN_T : ∀ (n : Nat) (k : Dd), isN n k = true → isTT k = true
  | 0, _, h => by cases h
  | n + 1, k, h => by
    obtain ⟨h1, h2⟩ := fand h
    rw [isTT_eq, (fand h1).1, Bool.true_and, List.all_eq_true]
    exact fun p hp => isN_T n p (List.all_eq_true.mp h2 p hp)
def names : List Str := ["a", "b", "cc", "f", "main", "d'", "e_1", "g"]
theorem names_ok : ∀ z ∈ names, isName (.str z) = true ∧ z ∉ words ∧ z.length ≤ 1000 := by decide +kernel
theorem signs_ok : ∀ z ∈ signs, z.length ≤ 1000 := by decide +kernel
theorem words_ok : ∀ z ∈ words, z.length ≤ 1000 := by decide +kernel
theorem ddK_nodup : ∀ (acc ks : List Key), (acc ++ ks).Nodup → ddK acc ks = acc ++ ks
  | acc, [], _ => by rw [List.append_nil]; rfl
  | acc, k :: ks, h => by
    have hk : (acc.any fun j => decide (j = k)) = false := by
      rw [Bool.eq_false_iff]
      intro z
      obtain ⟨j, hj, e⟩ := List.any_eq_true.mp z
      have e := of_decide_eq_true e
      subst e
      rw [List.nodup_append] at h
      exact h.2.2 j hj j (List.mem_cons_self ..) rfl
    show ddK (if (acc.any fun j => decide (j = k)) = true then acc else acc ++ [k]) ks = _
    rw [hk, if_neg (by decide)]
    have e : acc ++ k :: ks = (acc ++ [k]) ++ ks := by rw [List.append_assoc]; rfl
    rw [e] at h ⊢
    exact ddK_nodup _ ks h
theorem dist_nodup {ks : List Key} (h : ks.Nodup) : distK ks = true := by
  unfold distK
  rw [ddK_nodup [] ks h]
  exact decide_eq_true rfl
/-- names, all different, in a tuple -/
def nameT (zs : List Str) : Dd := .tup (zs.map Dd.str)
theorem areNames_ok {zs : List Str} (h1 : ∀ z ∈ zs, z ∈ names) (h2 : zs.Nodup) : areNames (nameT zs) = true := by
  show ((zs.map Dd.str).all isName && distK ((zs.map Dd.str).map keyD)) = true
  rw [Bool.and_eq_true]
  refine ⟨?_, dist_nodup ?_⟩
  · rw [List.all_map, List.all_eq_true]
    exact fun z hz => (names_ok z (h1 z hz)).1
  · rw [List.map_map]
    exact List.Pairwise.map _ (fun a b h e => h (Sum.inr.inj e)) h2
theorem szs_strs : ∀ zs : List Str, Dd.szs (zs.map Dd.str) = zs.length
  | [] => rfl
  | z :: zs => by
    show 1 + Dd.szs (zs.map Dd.str) = zs.length + 1
    rw [szs_strs zs]
    omega
/-- a good term of this depth -/
structure Gt (d : Nat) (k : Dd) : Prop where
  ok : isN (d + 1) k = true
  sz : k.sz + 5 ≤ 8 * 4 ^ d
theorem pow_pos4 (d : Nat) : 1 ≤ 4 ^ d := by
  have := Nat.pow_le_pow_left (show 1 ≤ 4 by decide) d
  rwa [Nat.one_pow] at this
theorem Gt.mono {d e : Nat} {k : Dd} (h : Gt d k) (l : d ≤ e) : Gt e k := ⟨isN_mono _ _ k (by omega) h.ok, Nat.le_trans h.sz (Nat.mul_le_mul_left 8 (Nat.pow_le_pow_right (by decide) l))⟩
theorem isN_mk {n : Nat} {w : Str} {r : List Dd} (h1 : formW w r = true) (h2 : niceW w r = true) (h3 : ∀ p ∈ partsW w r, isN n p = true) : isN (n + 1) (.tup (.str w :: r)) = true := by
  show (formW w r && niceW w r && (partsW w r).all (isN n)) = true
  rw [h1, h2, Bool.true_and, Bool.true_and, List.all_eq_true]
  exact h3
theorem nice_other {w : Str} {r : List Dd} (h1 : w ≠ "case") (h2 : w ≠ "pick") : niceW w r = true := by
  unfold niceW
  rw [if_neg h1, if_neg h2]
theorem nw : ("num" : Str) ≠ "case" ∧ ("num" : Str) ≠ "pick" ∧ ("var" : Str) ≠ "case" ∧ ("var" : Str) ≠ "pick" ∧ ("app" : Str) ≠ "case" ∧ ("app" : Str) ≠ "pick" ∧ ("lam" : Str) ≠ "case" ∧ ("lam" : Str) ≠ "pick" ∧ ("let" : Str) ≠ "case" ∧ ("let" : Str) ≠ "pick" ∧ ("seq" : Str) ≠ "case" ∧ ("seq" : Str) ≠ "pick" ∧ ("con" : Str) ≠ "case" ∧ ("con" : Str) ≠ "pick" ∧ ("prim" : Str) ≠ "case" ∧ ("prim" : Str) ≠ "pick" ∧ ("note" : Str) ≠ "case" ∧ ("note" : Str) ≠ "pick" := by decide +kernel
theorem pw_num (r : List Dd) : partsW "num" r = [] := parts_out (by decide +kernel) r
theorem pw_var (r : List Dd) : partsW "var" r = [] := parts_out (by decide +kernel) r
theorem gt_num {d : Nat} {i : Int} (h0 : -1000000000000000 ≤ i) (h1 : i ≤ 1000000000000000) : Gt d (.tup [.str "num", .int i]) := by
  have hp := pow_pos4 d
  refine ⟨isN_mk ?_ (nice_other nw.1 nw.2.1) (fun p hp => by rw [pw_num] at hp; cases hp), by show 1 + (1 + (1 + 0)) + 5 ≤ _; omega⟩
  rw [fw_num]
  show (decide (1 = 1) && (decide (-1000000000000000 ≤ i) && decide (i ≤ 1000000000000000))) = true
  rw [decide_eq_true h0, decide_eq_true h1]
  rfl
theorem gt_var {d : Nat} {z : Str} (h : z ∈ names) : Gt d (.tup [.str "var", .str z]) := by
  have hp := pow_pos4 d
  refine ⟨isN_mk ?_ (nice_other nw.2.2.1 nw.2.2.2.1) (fun p hp => by rw [pw_var] at hp; cases hp), by show 1 + (1 + (1 + 0)) + 5 ≤ _; omega⟩
  rw [fw_var]
  show (decide (1 = 1) && isName (.str z)) = true
  rw [(names_ok z h).1]
  rfl
theorem p4 (d : Nat) : 8 * 4 ^ (d + 1) = 4 * (8 * 4 ^ d) := by rw [Nat.pow_succ]; omega
theorem mem2 {p a b : Dd} (h : p ∈ [a, b]) : p = a ∨ p = b := by simpa using h
theorem gt_app {d : Nat} {a b : Dd} (ha : Gt d a) (hb : Gt d b) : Gt (d + 1) (.tup [.str "app", a, b]) := by
  have h1 := ha.sz
  have h2 := hb.sz
  refine ⟨isN_mk (by rw [fw_app]; rfl) (nice_other nw.2.2.2.2.1 nw.2.2.2.2.2.1) (fun p hp => ?_), by rw [p4]; show 1 + (1 + (a.sz + (b.sz + 0))) + 5 ≤ _; omega⟩
  rw [pw_app] at hp
  rcases mem2 hp with e | e <;> rw [e]
  · exact ha.ok
  · exact hb.ok
theorem gt_lam {d : Nat} {z : Str} {b : Dd} (hz : z ∈ names) (hb : Gt d b) : Gt (d + 1) (.tup [.str "lam", .str z, b]) := by
  have h2 := hb.sz
  refine ⟨isN_mk ?_ (nice_other nw.2.2.2.2.2.2.1 nw.2.2.2.2.2.2.2.1) (fun p hp => ?_), by rw [p4]; show 1 + (1 + (1 + (b.sz + 0))) + 5 ≤ _; omega⟩
  · rw [fw_lam]
    show (decide (2 = 2) && isName (.str z)) = true
    rw [(names_ok z hz).1]
    rfl
  · rw [pw_lam] at hp
    rw [List.mem_singleton.mp hp]
    exact hb.ok
theorem gt_seq {d : Nat} {z : Str} {a b : Dd} (hz : z ∈ names) (ha : Gt d a) (hb : Gt d b) : Gt (d + 1) (.tup [.str "seq", .str z, a, b]) := by
  have h1 := ha.sz
  have h2 := hb.sz
  refine ⟨isN_mk ?_ (nice_other nw.2.2.2.2.2.2.2.2.2.2.1 nw.2.2.2.2.2.2.2.2.2.2.2.1) (fun p hp => ?_), by rw [p4]; show 1 + (1 + (1 + (a.sz + (b.sz + 0)))) + 5 ≤ _; omega⟩
  · rw [fw_seq]
    show (decide (3 = 3) && isName (.str z)) = true
    rw [(names_ok z hz).1]
    rfl
  · rw [pw_seq] at hp
    rcases mem2 hp with e | e <;> rw [e]
    · exact ha.ok
    · exact hb.ok
theorem gt_prim {d : Nat} {z : Str} {a b : Dd} (hz : z ∈ signs) (ha : Gt d a) (hb : Gt d b) : Gt (d + 1) (.tup [.str "prim", .str z, a, b]) := by
  have h1 := ha.sz
  have h2 := hb.sz
  refine ⟨isN_mk ?_ (nice_other nw.2.2.2.2.2.2.2.2.2.2.2.2.2.2.1 nw.2.2.2.2.2.2.2.2.2.2.2.2.2.2.2.1) (fun p hp => ?_), by rw [p4]; show 1 + (1 + (1 + (a.sz + (b.sz + 0)))) + 5 ≤ _; omega⟩
  · rw [fw_prim]
    show (decide (3 = 3) && decide (z ∈ signs)) = true
    rw [decide_eq_true hz]
    rfl
  · rw [pw_prim] at hp
    rcases mem2 hp with e | e <;> rw [e]
    · exact ha.ok
    · exact hb.ok
theorem gt_note {d : Nat} {i : Int} {b : Dd} (h0 : 0 ≤ i) (h1 : i ≤ 1000000000000) (hb : Gt d b) : Gt (d + 1) (.tup [.str "note", .int i, b]) := by
  have h2 := hb.sz
  refine ⟨isN_mk ?_ (nice_other nw.2.2.2.2.2.2.2.2.2.2.2.2.2.2.2.2.1 nw.2.2.2.2.2.2.2.2.2.2.2.2.2.2.2.2.2) (fun p hp => ?_), by rw [p4]; show 1 + (1 + (1 + (b.sz + 0))) + 5 ≤ _; omega⟩
  · rw [fw_note]
    show (decide (2 = 2) && (decide (0 ≤ i) && decide (i ≤ 1000000000000))) = true
    rw [decide_eq_true h0, decide_eq_true h1]
    rfl
  · rw [pw_note] at hp
    rw [List.mem_singleton.mp hp]
    exact hb.ok
theorem szs_gt {d : Nat} : ∀ {l : List Dd}, (∀ k ∈ l, Gt d k) → Dd.szs l ≤ l.length * (8 * 4 ^ d - 5)
  | [], _ => Nat.zero_le _
  | k :: l, h => by
    have h1 := (h k (List.mem_cons_self ..)).sz
    have h2 := szs_gt fun q hq => h q (List.mem_cons_of_mem _ hq)
    show k.sz + Dd.szs l ≤ (l.length + 1) * (8 * 4 ^ d - 5)
    rw [Nat.succ_mul]
    omega
theorem gt_con {d : Nat} {i : Int} {l : List Dd} (h0 : 0 ≤ i) (h1 : i ≤ 1000) (hl : l.length ≤ 3) (h : ∀ k ∈ l, Gt d k) : Gt (d + 1) (.tup [.str "con", .int i, .tup l]) := by
  have h2 := szs_gt h
  have hp := pow_pos4 d
  have h3 : l.length * (8 * 4 ^ d - 5) ≤ 3 * (8 * 4 ^ d - 5) := Nat.mul_le_mul_right _ hl
  refine ⟨isN_mk ?_ (nice_other nw.2.2.2.2.2.2.2.2.2.2.2.2.1 nw.2.2.2.2.2.2.2.2.2.2.2.2.2.1) (fun p hp => ?_), by rw [p4]; show 1 + (1 + (1 + (1 + Dd.szs l + 0))) + 5 ≤ _; omega⟩
  · rw [fw_con]
    show (decide (2 = 2) && ((decide (0 ≤ i) && decide (i ≤ 1000)) && true)) = true
    rw [decide_eq_true h0, decide_eq_true h1]
    rfl
  · rw [pw_con] at hp
    exact (h p hp).ok
/-- pairs of names and terms -/
def rowsL (zs : List Str) (l : List Dd) : List Dd := List.zipWith (fun z k => .tup [.str z, k]) zs l
theorem rowsL_names : ∀ {zs : List Str} {l : List Dd}, zs.length = l.length → (rowsL zs l).map (nth 0) = zs.map Dd.str
  | [], [], _ => rfl
  | z :: zs, k :: l, h => by
    show Dd.str z :: (rowsL zs l).map (nth 0) = Dd.str z :: zs.map Dd.str
    rw [rowsL_names (Nat.succ.inj h)]
  | [], _ :: _, h => by cases h
  | _ :: _, [], h => by cases h
theorem rowsL_terms : ∀ {zs : List Str} {l : List Dd}, zs.length = l.length → (rowsL zs l).map (nth 1) = l
  | [], [], _ => rfl
  | z :: zs, k :: l, h => by
    show k :: (rowsL zs l).map (nth 1) = k :: l
    rw [rowsL_terms (Nat.succ.inj h)]
  | [], _ :: _, h => by cases h
  | _ :: _, [], h => by cases h
theorem rowsL_two : ∀ {zs : List Str} {l : List Dd}, (rowsL zs l).all (isRow 2) = true
  | [], _ => by cases ‹List Dd› <;> rfl
  | _ :: _, [] => rfl
  | z :: zs, k :: l => by
    show (true && (rowsL zs l).all (isRow 2)) = true
    rw [rowsL_two]
    rfl
theorem rowsL_len : ∀ {zs : List Str} {l : List Dd}, zs.length = l.length → (rowsL zs l).length = l.length := by
  intro zs l h
  unfold rowsL
  rw [List.length_zipWith, h, Nat.min_self]
theorem rowsL_sz : ∀ {zs : List Str} {l : List Dd}, zs.length = l.length → Dd.szs (rowsL zs l) = Dd.szs l + 2 * l.length
  | [], [], _ => rfl
  | z :: zs, k :: l, h => by
    show (1 + (1 + (k.sz + 0))) + Dd.szs (rowsL zs l) = k.sz + Dd.szs l + 2 * (l.length + 1)
    rw [rowsL_sz (Nat.succ.inj h)]
    omega
  | [], _ :: _, h => by cases h
  | _ :: _, [], h => by cases h
theorem gt_let {d : Nat} {zs : List Str} {l : List Dd} {b : Dd} (hz : ∀ z ∈ zs, z ∈ names) (hn : zs.Nodup) (hlen : zs.length = l.length) (h0 : 0 < l.length) (h3 : l.length ≤ 3) (h : ∀ k ∈ l, Gt d k) (hb : Gt d b) : Gt (d + 1) (.tup [.str "let", .tup (rowsL zs l), b]) := by
  have h1 := hb.sz
  have h2 := szs_gt h
  have hp := pow_pos4 d
  have h4 : l.length * (8 * 4 ^ d - 5) ≤ 3 * (8 * 4 ^ d - 5) := Nat.mul_le_mul_right _ h3
  refine ⟨isN_mk ?_ (nice_other nw.2.2.2.2.2.2.2.2.1 nw.2.2.2.2.2.2.2.2.2.1) (fun p hp => ?_), by rw [p4]; show 1 + (1 + (1 + Dd.szs (rowsL zs l) + (b.sz + 0))) + 5 ≤ _; rw [rowsL_sz hlen]; omega⟩
  · rw [fw_let]
    show (decide (2 = 2) && (rowsL zs l).all (isRow 2) && (decide (0 < (rowsL zs l).length) && areNames (.tup ((rowsL zs l).map (nth 0))))) = true
    rw [rowsL_two, rowsL_names hlen, rowsL_len hlen, decide_eq_true h0, show areNames (.tup (zs.map Dd.str)) = true from areNames_ok hz hn]
    rfl
  · rw [pw_let] at hp
    have hp : p ∈ (rowsL zs l).map (nth 1) ++ [b] := hp
    rw [rowsL_terms hlen] at hp
    rcases List.mem_append.mp hp with e | e
    · exact (h p e).ok
    · rw [List.mem_singleton.mp e]; exact hb.ok
/-- a default: none, or a name and a term -/
def dfl : Option (Str × Dd) → Dd
  | none => .non
  | some q => .tup [.str q.1, q.2]
theorem dfl_ok {o : Option (Str × Dd)} (h : ∀ q, o = some q → q.1 ∈ names) : isDflt (dfl o) = true ∧ kindTup (dfl o) = false := by
  cases o with
  | none => exact ⟨rfl, rfl⟩
  | some q =>
    obtain ⟨h1, h2, _⟩ := names_ok q.1 (h q rfl)
    exact ⟨by show (true && isName (.str q.1)) = true; rw [h1]; rfl, decide_eq_false h2⟩
/-- rows of a case: tag, names, term -/
def rowsC (l : List (Int × List Str × Dd)) : List Dd := l.map fun q => .tup [.int q.1, nameT q.2.1, q.2.2]
/-- rows of a pick: number, term -/
def rowsP (l : List (Int × Dd)) : List Dd := l.map fun q => .tup [.int q.1, q.2]
theorem szs_C {d : Nat} : ∀ {l : List (Int × List Str × Dd)}, (∀ q ∈ l, q.2.1.length ≤ 2 ∧ Gt d q.2.2) → Dd.szs (rowsC l) ≤ l.length * (8 * 4 ^ d)
  | [], _ => Nat.zero_le _
  | q :: l, h => by
    obtain ⟨h1, h2⟩ := h q (List.mem_cons_self ..)
    have h2 := h2.sz
    have h3 := szs_C fun q hq => h q (List.mem_cons_of_mem _ hq)
    have h4 := szs_strs q.2.1
    show (1 + (1 + ((1 + Dd.szs (q.2.1.map Dd.str)) + (q.2.2.sz + 0)))) + Dd.szs (rowsC l) ≤ (l.length + 1) * (8 * 4 ^ d)
    rw [Nat.succ_mul]
    omega
theorem szs_P {d : Nat} : ∀ {l : List (Int × Dd)}, (∀ q ∈ l, Gt d q.2) → Dd.szs (rowsP l) ≤ l.length * (8 * 4 ^ d)
  | [], _ => Nat.zero_le _
  | q :: l, h => by
    have h2 := (h q (List.mem_cons_self ..)).sz
    have h3 := szs_P fun q hq => h q (List.mem_cons_of_mem _ hq)
    show (1 + (1 + (q.2.sz + 0))) + Dd.szs (rowsP l) ≤ (l.length + 1) * (8 * 4 ^ d)
    rw [Nat.succ_mul]
    omega
theorem dfl_sz {d : Nat} {o : Option (Str × Dd)} (h : ∀ q, o = some q → Gt d q.2) : (dfl o).sz + 3 ≤ 8 * 4 ^ d := by
  have hp := pow_pos4 d
  cases o with
  | none => show 1 + 3 ≤ _; omega
  | some q =>
    have := (h q rfl).sz
    show 1 + (1 + (q.2.sz + 0)) + 3 ≤ _
    omega
theorem choice_parts {d : Nat} {f : Dd} {rows : List Dd} {o : Option (Str × Dd)} (hf : Gt d f) (hr : ∀ q ∈ rows, Gt d (lastD q)) (ho : ∀ q, o = some q → Gt d q.2) : ∀ p ∈ gChoice [f, .tup rows, dfl o], isN (d + 1) p = true := fun p hp => by
  have hp : p ∈ f :: (rows.map lastD ++ dfltP (dfl o)) := hp
  rcases List.mem_cons.mp hp with e | e
  · rw [e]; exact hf.ok
  · rcases List.mem_append.mp e with e | e
    · obtain ⟨q, hq, rfl⟩ := List.mem_map.mp e
      exact (hr q hq).ok
    · cases o with
      | none => cases e
      | some q =>
        have e : p ∈ [q.2] := e
        rw [List.mem_singleton.mp e]
        exact (ho q rfl).ok
theorem gt_case {d : Nat} {f : Dd} {l : List (Int × List Str × Dd)} {o : Option (Str × Dd)} (hf : Gt d f) (hl : l.length ≤ 2) (h : ∀ q ∈ l, 0 ≤ q.1 ∧ q.1 ≤ 1000 ∧ (∀ z ∈ q.2.1, z ∈ names) ∧ q.2.1.Nodup ∧ q.2.1.length ≤ 2 ∧ Gt d q.2.2) (ho : ∀ q, o = some q → q.1 ∈ names ∧ Gt d q.2) :
    Gt (d + 1) (.tup [.str "case", f, .tup (rowsC l), dfl o]) := by
  have h1 := hf.sz
  have h2 := szs_C (d := d) (l := l) fun q hq => ⟨(h q hq).2.2.2.2.1, (h q hq).2.2.2.2.2⟩
  have h3 := dfl_sz (d := d) (o := o) fun q hq => (ho q hq).2
  have h4 : l.length * (8 * 4 ^ d) ≤ 2 * (8 * 4 ^ d) := Nat.mul_le_mul_right _ hl
  obtain ⟨k1, k2⟩ := dfl_ok (o := o) fun q hq => (ho q hq).1
  refine ⟨isN_mk ?_ ?_ ?_, by rw [p4]; show 1 + (1 + (f.sz + (1 + Dd.szs (rowsC l) + ((dfl o).sz + 0)))) + 5 ≤ _; omega⟩
  · rw [fw_case]
    show (decide (3 = 3) && (rowsC l).all (isRow 3) && isDflt (dfl o) && (rowsC l).all fun q => numIn 0 1000 (nth 0 q) && areNames (nth 1 q)) = true
    rw [k1, show (rowsC l).all (isRow 3) = true by unfold rowsC; rw [List.all_map, List.all_eq_true]; exact fun q _ => rfl,
      show ((rowsC l).all fun q => numIn 0 1000 (nth 0 q) && areNames (nth 1 q)) = true by
        unfold rowsC
        rw [List.all_map, List.all_eq_true]
        intro q hq
        obtain ⟨g1, g2, g3, g4, g5, g6⟩ := h q hq
        show ((decide (0 ≤ q.1) && decide (q.1 ≤ 1000)) && areNames (nameT q.2.1)) = true
        rw [decide_eq_true g1, decide_eq_true g2, areNames_ok g3 g4]
        rfl]
    rfl
  · unfold niceW
    rw [if_pos rfl]
    show (!kindTup (dfl o)) = true
    rw [k2]
    rfl
  · rw [show partsW "case" [f, .tup (rowsC l), dfl o] = _ from pw_case _]
    refine choice_parts hf (fun q hq => ?_) fun q hq => (ho q hq).2
    unfold rowsC at hq
    obtain ⟨x, hx, rfl⟩ := List.mem_map.mp hq
    exact (h x hx).2.2.2.2.2
theorem gt_pick {d : Nat} {f : Dd} {l : List (Int × Dd)} {o : Option (Str × Dd)} (hf : Gt d f) (hl : l.length ≤ 2) (h : ∀ q ∈ l, -10 ≤ q.1 ∧ q.1 ≤ 10 ∧ Gt d q.2) (hn : (l.map (·.1)).Nodup) (ho : ∀ q, o = some q → q.1 ∈ names ∧ Gt d q.2) :
    Gt (d + 1) (.tup [.str "pick", f, .tup (rowsP l), dfl o]) := by
  have h1 := hf.sz
  have h2 := szs_P (d := d) (l := l) fun q hq => (h q hq).2.2
  have h3 := dfl_sz (d := d) (o := o) fun q hq => (ho q hq).2
  have h4 : l.length * (8 * 4 ^ d) ≤ 2 * (8 * 4 ^ d) := Nat.mul_le_mul_right _ hl
  obtain ⟨k1, k2⟩ := dfl_ok (o := o) fun q hq => (ho q hq).1
  have e1 : ((rowsP l).map (nth 0)) = l.map fun q => Dd.int q.1 := by unfold rowsP; rw [List.map_map]; rfl
  refine ⟨isN_mk ?_ ?_ ?_, by rw [p4]; show 1 + (1 + (f.sz + (1 + Dd.szs (rowsP l) + ((dfl o).sz + 0)))) + 5 ≤ _; omega⟩
  · rw [fw_pick]
    show (decide (3 = 3) && (rowsP l).all (isRow 2) && isDflt (dfl o) && (((rowsP l).map (nth 0)).all cNum && distK (((rowsP l).map (nth 0)).map keyD))) = true
    rw [k1, e1, show (rowsP l).all (isRow 2) = true by unfold rowsP; rw [List.all_map, List.all_eq_true]; exact fun q _ => rfl,
      show ((l.map fun q => Dd.int q.1).all cNum) = true by
        rw [List.all_map, List.all_eq_true]
        intro q hq
        obtain ⟨g1, g2, g3⟩ := h q hq
        show (decide (-1000000000000000 ≤ q.1) && decide (q.1 ≤ 1000000000000000)) = true
        rw [decide_eq_true (by omega), decide_eq_true (by omega)]
        rfl,
      dist_nodup (by rw [List.map_map]; exact (List.pairwise_map.mpr ((List.pairwise_map.mp hn).imp fun hab e => hab (Sum.inl.inj e))))]
    rfl
  · unfold niceW
    rw [if_neg (by decide +kernel), if_pos rfl]
    show (!kindTup (dfl o)) = true
    rw [k2]
    rfl
  · rw [show partsW "pick" [f, .tup (rowsP l), dfl o] = _ from pw_pick _]
    refine choice_parts hf (fun q hq => ?_) fun q hq => (ho q hq).2
    unfold rowsP at hq
    obtain ⟨x, hx, rfl⟩ := List.mem_map.mp hq
    exact (h x hx).2.2
end Toy

set_option Elab.async false
set_option linter.all false
set_option maxRecDepth 100000
set_option maxHeartbeats 4000000
/-! Part I: names drawn. -/
namespace Toy
open PySem L2
open PyProof.Rows (envOfC)
theorem at_str {zs : List Str} {i : Int} (h0 : 0 ≤ i) (h1 : i < (zs.length : Int)) : ∃ z ∈ zs, atI (zs.map V.str) i = some (.str z) := by
  have hk : i.toNat < zs.length := by omega
  refine ⟨zs[i.toNat], List.getElem_mem _, ?_⟩
  have q : atI (zs.map V.str) ((i.toNat : Nat) : Int) = some (.str zs[i.toNat]) := atI_nat (by rw [List.getElem?_map, List.getElem?_eq_getElem hk] <;> rfl)
  rw [show ((i.toNat : Nat) : Int) = i by omega] at q
  exact q
theorem flat_strs : ∀ l : List Str, (l.map V.str).all flatV = true
  | [] => rfl
  | n :: l => by
    rw [List.map_cons, List.all_cons, flat_strs l]
    rfl
theorem cal_none {P : Program} {w : World} {K : PySem.W.Frag} {mg : Str → Option Value} {base : Heap} {x : Str} {st : Stmt} {f : Addr} {fd : FuncData} {ps : List Str} {k : Nat} {sp : Sp} (F : Fun K x x st f fd) (hm : mg x = some (.ref f)) (b : Binds K fd ps []) (no : ∀ vs H Q E, ¬ sp vs H Q E) : C8.Cal P w K mg base k x sp [] :=
  ⟨f, fd, ps, [], ⟨fun vs H Q E h => (no _ _ _ _ h).elim, fun A outer s H args us vs Q E hr e0 hb r hsp => (no _ _ _ _ hsp).elim⟩, hm, F.kp, b, .nil⟩
/-- no lists -/
def F0 : Addr → Prop := fun _ => False
structure TxtG (mg : Str → Option Value) : Prop where
  zrange : mg "range" = none
  ztuple : mg "tuple" = none
section
variable {P : Program} {w : World} {K : PySem.W.Frag} {mg : Str → Option Value} {base : Heap}
abbrev sLName : Stmt := topS 35
theorem scLName : FnScope ["d"] ["d"] (defScope sLName) := ⟨rfl, rfl, rfl, by decide +kernel, rfl, by decide +kernel, by decide +kernel⟩
def spLName : Sp := fun vs H Q _ => ∃ (p r : Addr) (B : Nat), vs = [.ref p] ∧ DAt H p r B ∧ ∀ (z : Str) (H' : Hp), z ∈ names → Keep p H H' → DAt H' p r (B + 1) → Q (.str z) H'
theorem c_lname {f : Addr} {fd : FuncData} (c_law_take : C8.Cal P w K mg base 1 "_law_take" spTake []) (F : Fun K "_law_name" "_law_name" sLName f fd) (b : Binds K fd ["d"] []) (hm : mg "_law_name" = some (.ref f)) : C8.Cal P w K mg base 2 "_law_name" spLName [] := by
  refine cal_of F hm b scLName (fun vs H Q E h => ?_) (fun cdv A outer s H vs Q E hr h => ?_)
  · obtain ⟨p, r, B, rfl, _⟩ := h
    rfl
  obtain ⟨p, r, B, rfl, d0, q⟩ := h
  refine ⟨_, (pss_one (ps_ret (pe_ix ix_list (pe_lst (pa_strs (zs := ["a", "b", "cc", "f", "main", "d'", "e_1", "g"]) rfl)) (pe_op op_mod (C8.pe_c c_law_take hr (by decide) rfl (pa_cons (pv 0) pa_nil)) pe_int) (fun _ _ => rfl)))), ?_⟩
  refine ⟨by show 8 ≤ sizeLine; decide, fun lz hlz => ?_⟩
  have s1 := same_new hlz (.lst (names.map V.str))
  have e1 : upd H lz (.lst (names.map V.str)) lz = some (.lst (names.map V.str)) := upd_same
  have d1 := d0.same s1
  refine ⟨_, rfl, p, r, B, rfl, d1, fun n H2 n0 n1 k2 d2 => ?_⟩
  obtain ⟨z, hz, ez⟩ := at_str (zs := names) (i := n % 8) (Int.emod_nonneg _ (by decide)) (by show n % 8 < 8; exact Int.emod_lt_of_pos _ (by decide))
  refine ⟨_, _, rfl, rfl, (show (0 : Int) < 8 by decide), lz, _, _, _, rfl, rfl, SqL.of (k2 _ _ (d1.ne_list e1) e1), ez, ?_⟩
  exact q z H2 hz ((Keep.same s1).trans k2) d2
abbrev sLNames : Stmt := topS 36
theorem scLNames : FnScope ["d", "many", "names", "k", "name"] ["d", "many"] (defScope sLNames) := ⟨rfl, rfl, rfl, by decide +kernel, rfl, by decide +kernel, by decide +kernel⟩
def spLNames : Sp := fun vs H Q _ => ∃ (p r : Addr) (B m : Nat), vs = [.ref p, .int (m : Int)] ∧ m ≤ 3 ∧ DAt H p r B ∧ ∀ (t : Addr) (zs : List Str) (H' : Hp), Keep p H H' → DAt H' p r (B + m) → H' t = some (.tup (zs.map V.str)) → (∀ z ∈ zs, z ∈ names) → zs.Nodup → zs.length ≤ m → (0 < m → 0 < zs.length) → Q (.ref t) H'
theorem c_lnames {f : Addr} {fd : FuncData} (T : TxtG mg) (c_law_name : C8.Cal P w K mg base 2 "_law_name" spLName []) (F : Fun K "_law_names" "_law_names" sLNames f fd) (b : Binds K fd ["d", "many"] []) (hm : mg "_law_names" = some (.ref f)) : C8.Cal P w K mg base 3 "_law_names" spLNames [] := by
  refine cal_of F hm b scLNames (fun vs H Q E h => ?_) (fun cdv A outer s H vs Q E hr h => ?_)
  · obtain ⟨p, r, B, m, rfl, _⟩ := h
    rfl
  obtain ⟨p, r, B, m, rfl, hm3, d0, q⟩ := h
  refine ⟨_, (pss_cons (ps_set (i := 2) scLNames.nd rfl (Or.inl rfl) (pe_lst pa_nil))
    (pss_cons (ps_for PassesOwn.never rfl (pi_range1 rfl T.zrange (pa_cons (pv 1) pa_nil)) (pg_name (i := 3) scLNames.nd rfl (Or.inl rfl))
      (pss_cons (ps_set (i := 4) scLNames.nd rfl (Or.inl rfl) (C8.pe_c c_law_name hr (by decide) rfl (pa_cons (pv 0) pa_nil)))
    (pss_one (ps_if (pt_cmpR op_notIn_seq (pv 4) (pv 2) rfl)
      (pss_one (ps_expr (pe_bm PySem.F.plainAttrs_list PySem.F.slot_list_append PySem.F.type_list_append mt_append (pv 2) (pa_cons (pv 4) pa_nil))))
      pss_nil))))
    (pss_one (ps_ret (pe_callTy call_tuple_of rfl T.ztuple boot_tuple (pa_cons (pv 2) pa_nil)))))), ?_⟩
  refine ⟨by show 0 ≤ sizeLine; decide, fun L hL => ?_⟩
  obtain ⟨nLp, nLr⟩ := d0.fresh hL
  have s1 := same_new hL (.lst [])
  refine ⟨_, rfl, _, rfl, by omega, by omega, for_range
    (fun (i : Nat) σ G => ∃ (v3 v4 : Option V) (zs : List Str), σ = [some (.ref p), some (.int (m : Int)), some (.ref L), v3, v4] ∧ Keep p H G ∧ DAt G p r (B + i) ∧ G L = some (.lst (zs.map V.str)) ∧ (∀ z ∈ zs, z ∈ names) ∧ zs.Nodup ∧ zs.length ≤ i ∧ (0 < i → 0 < zs.length))
    ⟨_, _, [], rfl, Keep.same s1, d0.same s1, upd_same, (fun z h => by cases h), List.nodup_nil, Nat.zero_le _, fun h => h⟩ ?_ ?_⟩
  · rintro i σ G hi ⟨v3, v4, zs, rfl, kG, dG, hG, hin, hnd, hlen, hpos⟩
    have hi3 : i < 3 := by omega
    refine ⟨_, rfl, p, r, B + i, rfl, dG, fun z G2 hz k2 d2 => ?_⟩
    have hG2 := k2 _ _ nLp hG
    refine ⟨_, rfl, _, rfl, L, _, rfl, .inl (SqL.of hG2), rfl, flat_strs _, ?_⟩
    rw [show (if true = true then !inV (.str z) (zs.map V.str) else inV (.str z) (zs.map V.str)) = !decide (z ∈ zs) by rw [if_pos rfl, inV_strs]]
    refine ⟨_, rfl, ?_⟩
    by_cases c : z ∈ zs
    · rw [decide_eq_true c]
      refine iteF ?_
      exact ⟨_, _, zs, rfl, kG.trans k2, d2, hG2, hin, hnd, by omega, fun _ => List.length_pos_of_mem c⟩
    · rw [decide_eq_false c]
      refine iteT ?_
      refine ⟨_, rfl, .inl ⟨rfl, _, SqL.of hG2⟩, _, rfl, L, _, _, rfl, rfl, hG2, szl (by rw [List.length_map]; omega), ?_⟩
      refine ⟨_, _, zs ++ [z], rfl, keep_upd hL (kG.trans k2) _, d2.off nLp nLr _, by rw [upd_same, List.map_append]; rfl, fun y hy => ?_, ?_, by rw [List.length_append]; show _ + 1 ≤ _; omega, fun _ => by rw [List.length_append]; show 0 < _ + 1; omega⟩
      · rcases List.mem_append.mp hy with e | e
        · exact hin y e
        · rw [List.mem_singleton.mp e]; exact hz
      · rw [List.nodup_append]
        exact ⟨hnd, List.pairwise_singleton .., fun a ha b hb e => by rw [List.mem_singleton.mp hb] at e; rw [e] at ha; exact c ha⟩
  rintro σ G ⟨v3, v4, zs, rfl, kG, dG, hG, hin, hnd, hlen, hpos⟩
  rw [show ((m : Int)).toNat = m from Int.toNat_natCast m] at dG hlen hpos
  refine ⟨_, rfl, L, _, rfl, .inl ⟨SqL.of hG, fun t ht => ?_⟩⟩
  have s2 := same_new ht (.tup (zs.map V.str))
  exact q t zs _ (kG.trans (Keep.same s2)) (dG.same s2) upd_same hin hnd hlen hpos
end
end Toy

set_option Elab.async false
set_option linter.all false
set_option maxRecDepth 100000
set_option maxHeartbeats 4000000
/-! Part J: terms drawn: cases and picks. -/
namespace Toy
open PySem L2
open PyProof.Rows (envOfC)
theorem F0.to {B : Addr → Prop} {H : Hp} {k : Dd} {v : V} (h : k.At F0 H v) : k.At B H v := h.weak fun _ _ _ z => z.elim
theorem ed (e : Nat) (x : V) : [x, V.int (((e + 1 : Nat) : Int) - 1)] = [x, V.int (e : Int)] := by rw [show ((e + 1 : Nat) : Int) - 1 = (e : Int) by omega]
theorem c8 (e : Nat) : 8 ≤ 8 * 4 ^ e := by have := pow_pos4 e; omega
section
variable {P : Program} {w : World} {K : PySem.W.Frag} {mg : Str → Option Value} {base : Heap}
/-- a good term, and how many draws it took -/
def spAny (n : Nat) : Sp := fun vs H Q _ => ∃ (p r : Addr) (B e : Nat), vs = [.ref p, .int (e : Int)] ∧ e < n ∧ DAt H p r B ∧ B + 8 * 4 ^ e ≤ 1000000000 ∧ ∀ (v : V) (k : Dd) (H' : Hp), Keep p H H' → DAt H' p r (B + (8 * 4 ^ e - 5)) → k.At F0 H' v → Gt e k → Q v H'
def spBranch (n : Nat) : Sp := fun vs H Q _ => ∃ (p r : Addr) (B e : Nat), vs = [.ref p, .int ((e + 1 : Nat) : Int)] ∧ e < n ∧ DAt H p r B ∧ B + 8 * 4 ^ (e + 1) ≤ 1000000001 ∧ ∀ (v : V) (k : Dd) (H' : Hp), Keep p H H' → DAt H' p r (B + (8 * 4 ^ (e + 1) - 6)) → k.At F0 H' v → Gt (e + 1) k → Q v H'
theorem at_tup {B : Addr → Prop} {H : Hp} {a : Addr} {xs : List V} {l : List Dd} (h : H a = some (.tup xs)) (hs : Dd.Ats B H l xs) : Dd.At B H (.tup l) (.ref a) := ⟨a, xs, rfl, h, hs⟩
theorem ats_cons {B : Addr → Prop} {H : Hp} {x : V} {xs : List V} {k : Dd} {l : List Dd} (h : k.At B H x) (hs : Dd.Ats B H l xs) : Dd.Ats B H (k :: l) (x :: xs) := ⟨x, xs, rfl, h, hs⟩
theorem at_int' {B : Addr → Prop} {H : Hp} {i : Int} : Dd.At B H (.int i) (.int i) := rfl
theorem at_str' {B : Addr → Prop} {H : Hp} {z : Str} (h : z.length ≤ 1000) : Dd.At B H (.str z) (.str z) := ⟨rfl, h⟩
theorem ats_nil {B : Addr → Prop} {H : Hp} : Dd.Ats B H [] [] := rfl
theorem ats_names {B : Addr → Prop} {H : Hp} : ∀ {zs : List Str}, (∀ z ∈ zs, z ∈ names) → Dd.Ats B H (zs.map Dd.str) (zs.map V.str)
  | [], _ => rfl
  | z :: zs, h => ⟨.str z, zs.map V.str, rfl, ⟨rfl, (names_ok z (h z (List.mem_cons_self ..))).2.2⟩, ats_names fun y hy => h y (List.mem_cons_of_mem _ hy)⟩
/-- the rows of a case, or of a pick, so far -/
def GoodR (kd : Str) (e i : Nat) (rows : List Dd) : Prop :=
  (kd = "case" → ∃ l : List (Int × List Str × Dd), rows = rowsC l ∧ l.length ≤ i ∧ ∀ q ∈ l, 0 ≤ q.1 ∧ q.1 ≤ 1000 ∧ (∀ z ∈ q.2.1, z ∈ names) ∧ q.2.1.Nodup ∧ q.2.1.length ≤ 2 ∧ Gt e q.2.2) ∧
  (kd ≠ "case" → ∃ l : List (Int × Dd), rows = rowsP l ∧ l.length ≤ i ∧ (∀ q ∈ l, -10 ≤ q.1 ∧ q.1 ≤ 3 * (i : Int) - 3 ∧ Gt e q.2) ∧ (l.map (·.1)).Nodup)
abbrev sBranch : Stmt := topS 37
theorem scBranch : FnScope ["d", "depth", "name", "kind", "found", "k", "body", "default"] ["d", "depth"] (defScope sBranch) := ⟨rfl, rfl, rfl, by decide +kernel, rfl, by decide +kernel, by decide +kernel⟩
theorem c_branch {f : Addr} {fd : FuncData} (T : TxtG mg) (c_law_take : C8.Cal P w K mg base 1 "_law_take" spTake []) (c_law_name : C8.Cal P w K mg base 2 "_law_name" spLName []) (c_law_names : C8.Cal P w K mg base 3 "_law_names" spLNames []) {n : Nat} (c_law_any : C8.Cal P w K mg base (2 * n + 4) "_law_any" (spAny n) []) (F : Fun K "_law_any_branch" "_law_any_branch" sBranch f fd) (b : Binds K fd ["d", "depth"] []) (hm : mg "_law_any_branch" = some (.ref f)) : C8.Cal P w K mg base (2 * n + 5) "_law_any_branch" (spBranch n) [] := by
  refine cal_of F hm b scBranch (fun vs H Q E h => ?_) (fun cdv A outer s H vs Q E hr h => ?_)
  · obtain ⟨p, r, B, e, rfl, _⟩ := h
    rfl
  obtain ⟨p, r, B, e, rfl, hen, d0, hB, q⟩ := h
  rw [p4] at hB q
  have hc8 := c8 e
  refine ⟨_, (pss_cons (ps_set (i := 2) scBranch.nd rfl (Or.inl rfl) (C8.pe_c c_law_name hr (by omega) rfl (pa_cons (pv 0) pa_nil)))
    (pss_cons (ps_set (i := 3) scBranch.nd rfl (Or.inl rfl) (pe_ix ix_list (pe_lst (pa_cons pe_str (pa_cons pe_str pa_nil))) (pe_op op_mod (C8.pe_c c_law_take hr (by omega) rfl (pa_cons (pv 0) pa_nil)) pe_int) (fun _ _ => rfl)))
    (pss_cons (ps_set (i := 4) scBranch.nd rfl (Or.inl rfl) (pe_lst pa_nil))
    (pss_cons (ps_for PassesOwn.never rfl (pi_range1 rfl T.zrange (pa_cons (pe_op op_mod (C8.pe_c c_law_take hr (by omega) rfl (pa_cons (pv 0) pa_nil)) pe_int) pa_nil)) (pg_name (i := 5) scBranch.nd rfl (Or.inl rfl))
      (pss_cons (ps_set (i := 6) scBranch.nd rfl (Or.inl rfl) (C8.pe_c c_law_any hr (by omega) rfl (pa_cons (pv 0) (pa_cons (pe_op op_sub (pv 1) pe_int) pa_nil))))
    (pss_one (ps_if (pt_cmpR op_eq (pv 3) pe_str (nomark _))
      (pss_one (ps_expr (pe_bm PySem.F.plainAttrs_list PySem.F.slot_list_append PySem.F.type_list_append mt_append (pv 4) (pa_cons (pe_tup (pa_cons (pe_op op_mod (C8.pe_c c_law_take hr (by omega) rfl (pa_cons (pv 0) pa_nil)) pe_int) (pa_cons (C8.pe_c c_law_names hr (by omega) rfl (pa_cons (pv 0) (pa_cons (pe_op op_mod (C8.pe_c c_law_take hr (by omega) rfl (pa_cons (pv 0) pa_nil)) pe_int) pa_nil))) (pa_cons (pv 6) pa_nil)))) pa_nil))))
      (pss_one (ps_expr (pe_bm PySem.F.plainAttrs_list PySem.F.slot_list_append PySem.F.type_list_append mt_append (pv 4) (pa_cons (pe_tup (pa_cons (pe_op op_sub (pe_op op_mul pe_int (pv 5)) (pe_op op_mod (C8.pe_c c_law_take hr (by omega) rfl (pa_cons (pv 0) pa_nil)) pe_int)) (pa_cons (pv 6) pa_nil))) pa_nil))))))))
    (pss_cons (ps_set (i := 7) scBranch.nd rfl (Or.inl rfl) pe_non)
    (pss_cons (ps_if (pt_cmpR op_eq (pe_op op_mod (C8.pe_c c_law_take hr (by omega) rfl (pa_cons (pv 0) pa_nil)) pe_int) pe_int (nomark _))
      (pss_one (ps_set (i := 7) scBranch.nd rfl (Or.inl rfl) (pe_tup (pa_cons (pv 2) (pa_cons (C8.pe_c c_law_any hr (by omega) rfl (pa_cons (pv 0) (pa_cons (pe_op op_sub (pv 1) pe_int) pa_nil))) pa_nil)))))
      pss_nil)
    (pss_one (ps_ret (pe_tup (pa_cons (pv 3) (pa_cons (C8.pe_c c_law_any hr (by omega) rfl (pa_cons (pv 0) (pa_cons (pe_op op_sub (pv 1) pe_int) pa_nil))) (pa_cons (pe_callTy call_tuple_of rfl T.ztuple boot_tuple (pa_cons (pv 4) pa_nil)) (pa_cons (pv 7) pa_nil))))))))))))), ?_⟩
  refine ⟨_, rfl, p, r, B, rfl, d0, fun nm H1 hnm k1 d1 => ?_⟩
  refine ⟨by show 2 ≤ sizeLine; decide, fun lz hlz => ?_⟩
  have s2 := same_new hlz (.lst [.str "case", .str "pick"])
  have e2 : upd H1 lz (.lst [.str "case", .str "pick"]) lz = some (.lst ([("case" : Str), "pick"].map V.str)) := upd_same
  have d2 := d1.same s2
  have k2 := k1.trans (Keep.same s2)
  generalize upd H1 lz (.lst [.str "case", .str "pick"]) = H2 at s2 e2 d2 k2 ⊢
  refine ⟨_, rfl, p, r, _, rfl, d2, fun n3 H3 n30 n31 k3 d3 => ?_⟩
  obtain ⟨kd, hkd, ekd⟩ := at_str (zs := ["case", "pick"]) (i := n3 % 2) (Int.emod_nonneg _ (by decide)) (by show n3 % 2 < 2; exact Int.emod_lt_of_pos _ (by decide))
  refine ⟨_, _, rfl, rfl, (show (0 : Int) < 2 by decide), lz, _, _, _, rfl, rfl, SqL.of (k3 _ _ (d2.ne_list e2) e2), ekd, ?_⟩
  have k03 := k2.trans k3
  clear k2 k1 s2
  refine ⟨by show 0 ≤ sizeLine; decide, fun L hL => ?_⟩
  obtain ⟨nLp, nLr⟩ := d3.fresh hL
  have s4 := same_new hL (.lst [])
  have e4 : upd H3 L (.lst []) L = some (.lst []) := upd_same
  have d4 := d3.same s4
  have k04 := k03.trans (Keep.same s4)
  have hLH : H L = none := k03.free nLp hL
  generalize upd H3 L (.lst []) = H4 at s4 e4 d4 k04 ⊢
  refine ⟨_, rfl, p, r, _, rfl, d4, fun n5 H5 n50 n51 k5 d5 => ?_⟩
  have e5 := k5 _ _ nLp e4
  have k05 := k04.trans k5
  have m50 := Int.emod_nonneg n5 (show (3 : Int) ≠ 0 by decide)
  have m51 := Int.emod_lt_of_pos n5 (show (0 : Int) < 3 by decide)
  refine ⟨_, _, rfl, rfl, (show (0 : Int) < 3 by decide), ?_⟩
  have hm2 : (n5 % 3).toNat ≤ 2 := by omega
  refine ⟨n5 % 3, rfl, by omega, by omega, for_range
    (fun (i : Nat) σ G => ∃ (v5 v6 v7 : Option V) (xs : List V) (rows : List Dd), σ = [some (.ref p), some (.int ((e + 1 : Nat) : Int)), some (.str nm), some (.str kd), some (.ref L), v5, v6, v7] ∧ Keep p H G ∧ DAt G p r (B + 3 + i * (8 * 4 ^ e - 1)) ∧ G L = some (.lst xs) ∧ Dd.Ats F0 G rows xs ∧ xs.length ≤ i ∧ GoodR kd e i rows)
    ⟨_, _, _, [], [], rfl, k05, d5.more (by omega), e5, rfl, Nat.le_refl _, ⟨fun _ => ⟨[], rfl, Nat.le_refl _, fun q h => by cases h⟩, fun _ => ⟨[], rfl, Nat.le_refl _, (fun q h => by cases h), List.nodup_nil⟩⟩⟩ ?_ ?_⟩
  · rintro i σ G hi ⟨v5, v6, v7, xs, rows, rfl, kG, dG, hG, aG, hlen, gr⟩
    have hi1 : i ≤ 1 := by omega
    have hic : i * (8 * 4 ^ e - 1) ≤ 1 * (8 * 4 ^ e - 1) := Nat.mul_le_mul_right _ hi1
    have hic1 : (i + 1) * (8 * 4 ^ e - 1) = i * (8 * 4 ^ e - 1) + (8 * 4 ^ e - 1) := Nat.succ_mul _ _
    refine ⟨_, rfl, _, rfl, _, _, rfl, rfl, p, r, _, e, ed _ _, hen, dG, by omega, fun v k G2 k2 d2 a2 g2 => ?_⟩
    have hG2 := k2 _ _ nLp hG
    have aG2 := Dd.Ats.keep (fr_keep k2 dG) aG
    refine ⟨_, rfl, rfl, _, rfl, ?_⟩
    show if decide (V.str kd = V.str "case") = true then _ else _
    by_cases c : kd = "case"
    · rw [show decide (V.str kd = V.str "case") = true by rw [c]; exact decide_eq_true rfl]
      refine iteT ?_
      refine ⟨_, rfl, .inl ⟨rfl, _, SqL.of hG2⟩, ?_⟩
      refine ⟨_, rfl, p, r, _, rfl, d2, fun n6 G6 n60 n61 k6 d6 => ?_⟩
      have m60 := Int.emod_nonneg n6 (show (3 : Int) ≠ 0 by decide)
      have m61 := Int.emod_lt_of_pos n6 (show (0 : Int) < 3 by decide)
      refine ⟨_, _, rfl, rfl, (show (0 : Int) < 3 by decide), _, rfl, _, rfl, p, r, _, rfl, d6, fun n7 G7 n70 n71 k7 d7 => ?_⟩
      have m70 := Int.emod_nonneg n7 (show (3 : Int) ≠ 0 by decide)
      have m71 := Int.emod_lt_of_pos n7 (show (0 : Int) < 3 by decide)
      refine ⟨_, _, rfl, rfl, (show (0 : Int) < 3 by decide), p, r, _, (n7 % 3).toNat, by rw [Int.toNat_of_nonneg m70]; rfl, by omega, d7, fun t zs G8 k8 d8 et hz hnd hzl _ => ?_⟩
      refine ⟨_, rfl, by show 3 ≤ sizeLine; decide, fun t2 ht2 => ?_⟩
      have kGL := (k6.trans k7).trans k8
      have hG8 := kGL _ _ nLp hG2
      have aG8 := Dd.Ats.keep (fr_keep kGL d2) aG2
      have a8 := Dd.At.keep (fr_keep kGL d2) a2
      have s9 := same_new ht2 (.tup [.int (n6 % 3), .ref t, v])
      have e9 : upd G8 t2 (.tup [.int (n6 % 3), .ref t, v]) t2 = some (.tup [.int (n6 % 3), .ref t, v]) := upd_same
      have d9 := d8.same s9
      have hG9 := s9 _ _ hG8
      have aG9 := Dd.Ats.keep (fr_same s9) aG8
      have a9 := Dd.At.keep (fr_same s9) a8
      have et9 := s9 _ _ et
      have k9 := (((kG.trans k2).trans kGL).trans (Keep.same s9))
      generalize upd G8 t2 (.tup [.int (n6 % 3), .ref t, v]) = G9 at s9 e9 d9 hG9 aG9 a9 et9 k9 ⊢
      refine ⟨L, _, _, rfl, rfl, hG9, szl (by omega), ?_⟩
      have fL : Fr F0 G9 (upd G9 L (.lst (xs ++ [.ref t2]))) := fr_list hG9 fun z => z
      refine ⟨_, _, _, xs ++ [.ref t2], rows ++ [.tup [.int (n6 % 3), nameT zs, k]], rfl, keep_upd hLH k9 _, (d9.off nLp nLr _).more (by omega), upd_same, ats_app (Dd.Ats.keep fL aG9) (ats_one (Dd.At.keep fL (at_tup e9 (ats_cons at_int' (ats_cons (at_tup et9 (ats_names hz)) (ats_cons a9 ats_nil)))))), by rw [List.length_append]; show _ + 1 ≤ _; omega, fun c2 => ?_, fun c2 => (c2 c).elim⟩
      obtain ⟨l, rfl, hl, hq⟩ := gr.1 c
      refine ⟨l ++ [(n6 % 3, zs, k)], by unfold rowsC; rw [List.map_append]; rfl, by rw [List.length_append]; show _ + 1 ≤ _; omega, fun y hy => ?_⟩
      rcases List.mem_append.mp hy with z | z
      · exact hq y z
      · rw [List.mem_singleton.mp z]
        exact ⟨m60, by show n6 % 3 ≤ 1000; omega, hz, hnd, by show zs.length ≤ 2; omega, g2⟩
    · rw [show decide (V.str kd = V.str "case") = false from decide_eq_false fun z => c (by injection z)]
      refine iteF ?_
      refine ⟨_, rfl, .inl ⟨rfl, _, SqL.of hG2⟩, ?_⟩
      refine ⟨_, rfl, _, _, rfl, rfl, by show CMul 3 (0 + (i : Int)); unfold CMul; omega, ?_⟩
      refine ⟨_, rfl, p, r, _, rfl, d2, fun n6 G8 n60 n61 k6 d6 => ?_⟩
      have m60 := Int.emod_nonneg n6 (show (3 : Int) ≠ 0 by decide)
      have m61 := Int.emod_lt_of_pos n6 (show (0 : Int) < 3 by decide)
      refine ⟨_, _, rfl, rfl, (show (0 : Int) < 3 by decide), _, _, rfl, rfl, _, rfl, by show 2 ≤ sizeLine; decide, fun t2 ht2 => ?_⟩
      have hG8 := k6 _ _ nLp hG2
      have aG8 := Dd.Ats.keep (fr_keep k6 d2) aG2
      have a8 := Dd.At.keep (fr_keep k6 d2) a2
      have s9 := same_new ht2 (.tup [.int (3 * (0 + (i : Int)) - n6 % 3), v])
      have e9 : upd G8 t2 (.tup [.int (3 * (0 + (i : Int)) - n6 % 3), v]) t2 = some (.tup [.int (3 * (0 + (i : Int)) - n6 % 3), v]) := upd_same
      have d9 := d6.same s9
      have hG9 := s9 _ _ hG8
      have aG9 := Dd.Ats.keep (fr_same s9) aG8
      have a9 := Dd.At.keep (fr_same s9) a8
      have k9 := (((kG.trans k2).trans k6).trans (Keep.same s9))
      generalize upd G8 t2 (.tup [.int (3 * (0 + (i : Int)) - n6 % 3), v]) = G9 at s9 e9 d9 hG9 aG9 a9 k9 ⊢
      refine ⟨L, _, _, rfl, rfl, hG9, szl (by omega), ?_⟩
      have fL : Fr F0 G9 (upd G9 L (.lst (xs ++ [.ref t2]))) := fr_list hG9 fun z => z
      refine ⟨_, _, _, xs ++ [.ref t2], rows ++ [.tup [.int (3 * (0 + (i : Int)) - n6 % 3), k]], rfl, keep_upd hLH k9 _, (d9.off nLp nLr _).more (by omega), upd_same, ats_app (Dd.Ats.keep fL aG9) (ats_one (Dd.At.keep fL (at_tup e9 (ats_cons at_int' (ats_cons a9 ats_nil))))), by rw [List.length_append]; show _ + 1 ≤ _; omega, fun c2 => (c c2).elim, fun _ => ?_⟩
      obtain ⟨l, rfl, hl, hq, hnd⟩ := gr.2 c
      refine ⟨l ++ [(3 * (0 + (i : Int)) - n6 % 3, k)], by unfold rowsP; rw [List.map_append]; rfl, by rw [List.length_append]; show _ + 1 ≤ _; omega, fun y hy => ?_, ?_⟩
      · rcases List.mem_append.mp hy with z | z
        · obtain ⟨z1, z2, z3⟩ := hq y z
          exact ⟨z1, by omega, z3⟩
        · rw [List.mem_singleton.mp z]
          exact ⟨by show -10 ≤ 3 * (0 + (i : Int)) - n6 % 3; omega, by show 3 * (0 + (i : Int)) - n6 % 3 ≤ _; omega, g2⟩
      · rw [List.map_append, List.nodup_append]
        refine ⟨hnd, List.pairwise_singleton .., fun x hx y hy e => ?_⟩
        obtain ⟨q1, hq1, rfl⟩ := List.mem_map.mp hx
        have hy : y ∈ [3 * (0 + (i : Int)) - n6 % 3] := hy
        rw [List.mem_singleton.mp hy] at e
        have := (hq q1 hq1).2.1
        omega
  rintro σ G ⟨v5, v6, v7, xs, rows, rfl, kG, dG, hG, aG, hlen, gr⟩
  generalize (n5 % 3).toNat = m at *
  have hmc : m * (8 * 4 ^ e - 1) ≤ 2 * (8 * 4 ^ e - 1) := Nat.mul_le_mul_right _ hm2
  have dG := dG.more (show _ ≤ B + (2 * (8 * 4 ^ e) + 1) by omega)
  refine ⟨_, rfl, p, r, _, rfl, dG, fun n8 G8 n80 n81 k8 d8 => ?_⟩
  have hG8 := k8 _ _ nLp hG
  have aG8 := Dd.Ats.keep (fr_keep k8 dG) aG
  refine ⟨_, _, rfl, rfl, (show (0 : Int) < 2 by decide), ?_⟩
  refine ⟨rfl, _, rfl, ?_⟩
  have hkl : kd.length ≤ 1000 := by
    rcases List.mem_cons.mp hkd with z | z
    · rw [z]; decide +kernel
    · rw [List.mem_singleton.mp z]; decide +kernel
  have fin : ∀ (o : Option (Str × Dd)) (kk : Dd), Gt e kk → (∀ q, o = some q → q.1 ∈ names ∧ Gt e q.2) → Gt (e + 1) (.tup [.str kd, kk, .tup rows, dfl o]) := fun o kk hk ho => by
    by_cases c : kd = "case"
    · obtain ⟨l, rfl, hl, hq⟩ := gr.1 c
      rw [c]
      exact gt_case hk (by omega) hq ho
    · obtain ⟨l, rfl, hl, hq, hnd⟩ := gr.2 c
      rw [show kd = "pick" by
        rcases List.mem_cons.mp hkd with z | z
        · exact (c z).elim
        · exact List.mem_singleton.mp z]
      exact gt_pick hk (by omega) (fun y hy => ⟨(hq y hy).1, by have := (hq y hy).2.1; omega, (hq y hy).2.2⟩) hnd ho
  show if decide (V.int (n8 % 2) = V.int 0) = true then _ else _
  rcases Bool.eq_false_or_eq_true (decide (V.int (n8 % 2) = V.int 0)) with c | c
  · rw [c]
    refine iteT ?_
    refine ⟨_, rfl, _, rfl, _, rfl, _, _, rfl, rfl, p, r, _, e, ed _ _, hen, d8, by omega, fun v0 k0 G9' k9' d9' a9' g9 => ⟨by show 2 ≤ sizeLine; decide, fun t0 ht0 => ?_⟩⟩
    have hG9' := k9' _ _ nLp hG8
    have aG9' := Dd.Ats.keep (fr_keep k9' d8) aG8
    have s9 := same_new ht0 (.tup [.str nm, v0])
    have e9 : upd G9' t0 (.tup [.str nm, v0]) t0 = some (.tup [.str nm, v0]) := upd_same
    have d9 := d9'.same s9
    have hG9 := s9 _ _ hG9'
    have fr9 := fr_same (B := F0) s9
    have aG9 := Dd.Ats.keep fr9 aG9'
    have k9 := ((kG.trans k8).trans k9').trans (Keep.same s9)
    have ad : Dd.At F0 (upd G9' t0 (.tup [.str nm, v0])) (dfl (some (nm, k0))) (.ref t0) := at_tup e9 (ats_cons (at_str' (names_ok nm hnm).2.2) (ats_cons (a9'.keep fr9) ats_nil))
    generalize upd G9' t0 (.tup [.str nm, v0]) = G9 at *
    have ho : ∀ q, some (nm, k0) = some q → q.1 ∈ names ∧ Gt e q.2 := fun q e => by
      cases e
      exact ⟨hnm, g9⟩
    refine ⟨_, rfl, _, rfl, _, rfl, _, _, rfl, rfl, p, r, _, e, ed _ _, hen, d9, by omega, fun v1 kk G10 k10 d10 a10 g10 => ?_⟩
    have hG10 := k10 _ _ nLp hG9
    have aG10 := Dd.Ats.keep (fr_keep k10 d9) aG9
    have ad10 := Dd.At.keep (fr_keep k10 d9) ad
    refine ⟨_, rfl, L, _, rfl, .inl ⟨SqL.of hG10, fun t ht => ?_⟩⟩
    refine ⟨_, rfl, by show 4 ≤ sizeLine; decide, fun t3 ht3 => ?_⟩
    have s11 := same_new ht (.tup xs)
    have e11 : upd G10 t (.tup xs) t = some (.tup xs) := upd_same
    have k11 := (k9.trans k10).trans (Keep.same s11)
    have d11 := d10.same s11
    have aG11 := Dd.Ats.keep (fr_same s11) aG10
    have a11 := Dd.At.keep (fr_same s11) a10
    have ad11 := Dd.At.keep (fr_same s11) ad10
    generalize upd G10 t (.tup xs) = G11 at *
    have s12 := same_new ht3 (.tup [.str kd, v1, .ref t, .ref t0])
    have fr12 := fr_same (B := F0) s12
    refine q _ (.tup [.str kd, kk, .tup rows, dfl (some (nm, k0))]) _ (k11.trans (Keep.same s12)) ((d11.same s12).more (by omega)) (at_tup upd_same (ats_cons (at_str' hkl) (ats_cons (a11.keep fr12) (ats_cons (at_tup (s12 _ _ e11) (Dd.Ats.keep fr12 aG11)) (ats_cons (ad11.keep fr12) ats_nil))))) (fin _ _ g10 ho)
  · rw [c]
    refine iteF ?_
    have d9 := d8
    have hG9 := hG8
    have aG9 := aG8
    have k9 := kG.trans k8
    have ad : Dd.At F0 G8 (dfl none) .non := rfl
    have ho : ∀ q : Str × Dd, none = some q → q.1 ∈ names ∧ Gt e q.2 := fun q e => by cases e
    refine ⟨_, rfl, _, rfl, _, rfl, _, _, rfl, rfl, p, r, _, e, ed _ _, hen, d9, by omega, fun v1 kk G10 k10 d10 a10 g10 => ?_⟩
    have hG10 := k10 _ _ nLp hG9
    have aG10 := Dd.Ats.keep (fr_keep k10 d9) aG9
    have ad10 := Dd.At.keep (fr_keep k10 d9) ad
    refine ⟨_, rfl, L, _, rfl, .inl ⟨SqL.of hG10, fun t ht => ?_⟩⟩
    refine ⟨_, rfl, by show 4 ≤ sizeLine; decide, fun t3 ht3 => ?_⟩
    have s11 := same_new ht (.tup xs)
    have e11 : upd G10 t (.tup xs) t = some (.tup xs) := upd_same
    have k11 := (k9.trans k10).trans (Keep.same s11)
    have d11 := d10.same s11
    have aG11 := Dd.Ats.keep (fr_same s11) aG10
    have a11 := Dd.At.keep (fr_same s11) a10
    have ad11 := Dd.At.keep (fr_same s11) ad10
    generalize upd G10 t (.tup xs) = G11 at *
    have s12 := same_new ht3 (.tup [.str kd, v1, .ref t, .non])
    have fr12 := fr_same (B := F0) s12
    refine q _ (.tup [.str kd, kk, .tup rows, dfl none]) _ (k11.trans (Keep.same s12)) ((d11.same s12).more (by omega)) (at_tup upd_same (ats_cons (at_str' hkl) (ats_cons (a11.keep fr12) (ats_cons (at_tup (s12 _ _ e11) (Dd.Ats.keep fr12 aG11)) (ats_cons (ad11.keep fr12) ats_nil))))) (fin _ _ g10 ho)
end
end Toy

set_option Elab.async false
set_option linter.all false
set_option maxRecDepth 100000
set_option maxHeartbeats 8000000
/-! Part K: terms drawn. -/
namespace Toy
open PySem L2
open PyProof.Rows (envOfC)
theorem at_intN {ns : List Int} {i : Int} (h0 : 0 ≤ i) (h1 : i < (ns.length : Int)) : ∃ v ∈ ns, atI (ns.map V.int) i = some (.int v) := by
  have hk : i.toNat < ns.length := by omega
  refine ⟨ns[i.toNat], List.getElem_mem _, ?_⟩
  have q : atI (ns.map V.int) ((i.toNat : Nat) : Int) = some (.int ns[i.toNat]) := atI_nat (by rw [List.getElem?_map, List.getElem?_eq_getElem hk] <;> rfl)
  rw [show ((i.toNat : Nat) : Int) = i by omega] at q
  exact q
def menu : List Int := [0, 1, 2, -1, 10 ^ (15 : Int).toNat, -10 ^ (15 : Int).toNat, 7]
theorem menu_ok : ∀ z ∈ menu, -1000000000000000 ≤ z ∧ z ≤ 1000000000000000 := by decide +kernel
section
variable {P : Program} {w : World} {K : PySem.W.Frag} {mg : Str → Option Value} {base : Heap}
abbrev sAny : Stmt := topS 38
theorem scAny : FnScope ["d", "depth", "turn", "names", "terms", "many", "sign", "name", "k"] ["d", "depth"] (defScope sAny) := ⟨rfl, rfl, rfl, by decide +kernel, rfl, by decide +kernel, by decide +kernel⟩
theorem c_any1 {f : Addr} {fd : FuncData} (T : TxtG mg) (c_law_take : C8.Cal P w K mg base 1 "_law_take" spTake []) (c_law_name : C8.Cal P w K mg base 2 "_law_name" spLName []) (c_law_names : C8.Cal P w K mg base 3 "_law_names" spLNames []) {n : Nat} (c_law_any : C8.Cal P w K mg base (2 * n + 4) "_law_any" (spAny n) []) (c_law_any_branch : C8.Cal P w K mg base (2 * n + 5) "_law_any_branch" (spBranch n) []) (F : Fun K "_law_any" "_law_any" sAny f fd) (b : Binds K fd ["d", "depth"] []) (hm : mg "_law_any" = some (.ref f)) : C8.Cal P w K mg base (2 * (n + 1) + 4) "_law_any" (spAny (n + 1)) [] := by
  refine cal_of F hm b scAny (fun vs H Q E h => ?_) (fun cdv A outer s H vs Q E hr h => ?_)
  · obtain ⟨p, r, B, e, rfl, _⟩ := h
    rfl
  obtain ⟨p, r, B, e, rfl, hen, d0, hB, q⟩ := h
  have hu := hu_of hr
  have hc8 := c8 e
  refine ⟨_, (pss_cons (ps_set (i := 2) scAny.nd rfl (Or.inl rfl) (pe_op op_mod (C8.pe_c c_law_take hr (by omega) rfl (pa_cons (pv 0) pa_nil)) pe_int))
    (pss_cons (ps_if (PW.pt (pw_or (pt_cmpR op_le (pv 1) pe_int (nomark _)) (pw_or (pt_cmpR op_le (pe_dget hu (pv 0) pe_str (fun _ _ => rfl)) pe_int (nomark _)) (pw_or1 (pt_cmpR op_lt (pv 2) pe_int (nomark _))))))
      (pss_cons (ps_if (pt_cmpR op_eq (pe_op op_mod (pv 2) pe_int) pe_int (nomark _))
      (pss_one (ps_ret (pe_tup (pa_cons pe_str (pa_cons (pe_ix ix_list (pe_lst (pa_cons pe_int (pa_cons pe_int (pa_cons pe_int (pa_cons (pe_un un_neg pe_int) (pa_cons (pe_op op_pow pe_int pe_int) (pa_cons (pe_un un_neg (pe_op op_pow pe_int pe_int)) (pa_cons pe_int pa_nil)))))))) (pe_op op_mod (C8.pe_c c_law_take hr (by omega) rfl (pa_cons (pv 0) pa_nil)) pe_int) (fun _ _ => rfl)) pa_nil)))))
      pss_nil)
    (pss_one (ps_ret (pe_tup (pa_cons pe_str (pa_cons (C8.pe_c c_law_name hr (by omega) rfl (pa_cons (pv 0) pa_nil)) pa_nil))))))
      pss_nil)
    (pss_cons (ps_dput hu (pv 0) pe_str (pe_op op_sub (pe_dget hu (pv 0) pe_str (fun _ _ => rfl)) pe_int) rfl)
    (pss_cons (ps_if (pt_cmpR op_lt (pv 2) pe_int (nomark _))
      (pss_one (ps_ret (pe_tup (pa_cons pe_str (pa_cons (C8.pe_c c_law_any hr (by omega) rfl (pa_cons (pv 0) (pa_cons (pe_op op_sub (pv 1) pe_int) pa_nil))) (pa_cons (C8.pe_c c_law_any hr (by omega) rfl (pa_cons (pv 0) (pa_cons (pe_op op_sub (pv 1) pe_int) pa_nil))) pa_nil))))))
      pss_nil)
    (pss_cons (ps_if (pt_cmpR op_lt (pv 2) pe_int (nomark _))
      (pss_one (ps_ret (pe_tup (pa_cons pe_str (pa_cons (C8.pe_c c_law_name hr (by omega) rfl (pa_cons (pv 0) pa_nil)) (pa_cons (C8.pe_c c_law_any hr (by omega) rfl (pa_cons (pv 0) (pa_cons (pe_op op_sub (pv 1) pe_int) pa_nil))) pa_nil))))))
      pss_nil)
    (pss_cons (ps_if (pt_cmpR op_eq (pv 2) pe_int (nomark _))
      (pss_cons (ps_set (i := 3) scAny.nd rfl (Or.inl rfl) (C8.pe_c c_law_names hr (by omega) rfl (pa_cons (pv 0) (pa_cons (pe_op op_add pe_int (pe_op op_mod (C8.pe_c c_law_take hr (by omega) rfl (pa_cons (pv 0) pa_nil)) pe_int)) pa_nil))))
    (pss_cons (ps_setLc (i := 4) (own := [("name", 7)]) (g := gName 7) (tt := tYes) rfl scAny.nd rfl rfl (sw_true rfl rfl rfl (by decide +kernel)) (pi_tup (pv 3)) (blkOk_by (own := [("name", 7)]) (N := ["d", "depth", "turn", "names", "terms", "many", "sign", "name", "k"]) (sc := defScope sAny) (by decide +kernel)) (fun _ _ _ _ _ => (pg_name (i := 7) scAny.nd rfl (Or.inl rfl))) (fun _ _ _ _ _ => pts_nil) (fun _ _ _ _ _ => (pe_tup (pa_cons (pv 7) (pa_cons (C8.pe_c c_law_any hr (by omega) rfl (pa_cons (pv 0) (pa_cons (pe_op op_sub (pv 1) pe_int) pa_nil))) pa_nil)))))
    (pss_one (ps_ret (pe_tup (pa_cons pe_str (pa_cons (pe_callTy call_tuple_of rfl T.ztuple boot_tuple (pa_cons (pv 4) pa_nil)) (pa_cons (C8.pe_c c_law_any hr (by omega) rfl (pa_cons (pv 0) (pa_cons (pe_op op_sub (pv 1) pe_int) pa_nil))) pa_nil))))))))
      pss_nil)
    (pss_cons (ps_if (pt_cmpR op_eq (pv 2) pe_int (nomark _))
      (pss_one (ps_ret (pe_tup (pa_cons pe_str (pa_cons (C8.pe_c c_law_name hr (by omega) rfl (pa_cons (pv 0) pa_nil)) (pa_cons (C8.pe_c c_law_any hr (by omega) rfl (pa_cons (pv 0) (pa_cons (pe_op op_sub (pv 1) pe_int) pa_nil))) (pa_cons (C8.pe_c c_law_any hr (by omega) rfl (pa_cons (pv 0) (pa_cons (pe_op op_sub (pv 1) pe_int) pa_nil))) pa_nil)))))))
      pss_nil)
    (pss_cons (ps_if (PW.pt (pw_or (pt_cmpR op_eq (pv 2) pe_int (nomark _)) (pw_or1 (pt_cmpR op_eq (pv 2) pe_int (nomark _)))))
      (pss_cons (ps_set (i := 5) scAny.nd rfl (Or.inl rfl) (pe_op op_mod (C8.pe_c c_law_take hr (by omega) rfl (pa_cons (pv 0) pa_nil)) pe_int))
    (pss_one (ps_ret (pe_tup (pa_cons pe_str (pa_cons (pe_op op_mod (C8.pe_c c_law_take hr (by omega) rfl (pa_cons (pv 0) pa_nil)) pe_int) (pa_cons (pe_callTy call_tuple_of rfl T.ztuple boot_tuple (pa_cons (pe_lc (own := [("k", 8)]) (g := gName 8) (tt := tYes) rfl scAny.nd (pi_range1 rfl T.zrange (pa_cons (pv 5) pa_nil)) (blkOk_by (own := [("k", 8)]) (N := ["d", "depth", "turn", "names", "terms", "many", "sign", "name", "k"]) (sc := defScope sAny) (by decide +kernel)) (fun _ _ _ _ _ => (pg_name (i := 8) scAny.nd rfl (Or.inl rfl))) (fun _ _ _ _ _ => pts_nil) (fun _ _ _ _ _ => (C8.pe_c c_law_any hr (by omega) rfl (pa_cons (pv 0) (pa_cons (pe_op op_sub (pv 1) pe_int) pa_nil))))) pa_nil)) pa_nil)))))))
      pss_nil)
    (pss_cons (ps_if (PW.pt (pw_or (pt_cmpR op_eq (pv 2) pe_int (nomark _)) (pw_or1 (pt_cmpR op_eq (pv 2) pe_int (nomark _)))))
      (pss_one (ps_ret (C8.pe_c c_law_any_branch hr (by omega) rfl (pa_cons (pv 0) (pa_cons (pv 1) pa_nil)))))
      pss_nil)
    (pss_cons (ps_if (pt_cmpR op_eq (pv 2) pe_int (nomark _))
      (pss_one (ps_ret (pe_tup (pa_cons pe_str (pa_cons (C8.pe_c c_law_take hr (by omega) rfl (pa_cons (pv 0) pa_nil)) (pa_cons (C8.pe_c c_law_any hr (by omega) rfl (pa_cons (pv 0) (pa_cons (pe_op op_sub (pv 1) pe_int) pa_nil))) pa_nil))))))
      pss_nil)
    (pss_cons (ps_set (i := 6) scAny.nd rfl (Or.inl rfl) (pe_ix ix_list (pe_lst (pa_strs (zs := ["+", "-", "*", "div", "mod", "==", "<", "<="]) rfl)) (pe_op op_mod (C8.pe_c c_law_take hr (by omega) rfl (pa_cons (pv 0) pa_nil)) pe_int) (fun _ _ => rfl)))
    (pss_one (ps_ret (pe_tup (pa_cons pe_str (pa_cons (pv 6) (pa_cons (C8.pe_c c_law_any hr (by omega) rfl (pa_cons (pv 0) (pa_cons (pe_op op_sub (pv 1) pe_int) pa_nil))) (pa_cons (C8.pe_c c_law_any hr (by omega) rfl (pa_cons (pv 0) (pa_cons (pe_op op_sub (pv 1) pe_int) pa_nil))) pa_nil)))))))))))))))))), ?_⟩
  refine ⟨_, rfl, p, r, B, rfl, d0, fun n1 H1 n10 n11 k1 d1 => ?_⟩
  have m10 := Int.emod_nonneg n1 (show (16 : Int) ≠ 0 by decide)
  have m11 := Int.emod_lt_of_pos n1 (show (0 : Int) < 16 by decide)
  refine ⟨_, _, rfl, rfl, (show (0 : Int) < 16 by decide), ?_⟩
  show gName 2 (V.int (n1 % 16)) _ _ _
  generalize hturn : n1 % 16 = u at *
  obtain ⟨row, i1, nn, left, hp1, hrow1, ok1, hi1⟩ := d1
  have d1 : DAt H1 p r (B + 1) := ⟨row, i1, nn, left, hp1, hrow1, ok1, hi1⟩
  refine ⟨_, rfl, _, _, rfl, rfl, _, rfl, ?_⟩
  show if decide ((e : Int) ≤ 0) = true then _ else _
  rcases Bool.eq_false_or_eq_true (decide ((e : Int) ≤ 0)) with c1 | c1
  · rw [c1]
    refine iteT (iteT ?_)
    refine ⟨_, rfl, _, _, rfl, rfl, (show (0 : Int) < 2 by decide), rfl, _, rfl, ?_⟩
    show if decide (V.int (u % 2) = V.int 0) = true then _ else _
    rcases Bool.eq_false_or_eq_true (decide (V.int (u % 2) = V.int 0)) with cc | cc
    · rw [cc]
      refine iteT ?_
      refine ⟨_, rfl, _, _, rfl, rfl, (by unfold CPow; decide), _, _, rfl, rfl, (by unfold CPow; decide), _, rfl, by show 7 ≤ sizeLine; decide, fun lz hlz => ?_⟩
      have s2 := same_new hlz (.lst (menu.map V.int))
      have e2 : upd H1 lz (.lst (menu.map V.int)) lz = some (.lst (menu.map V.int)) := upd_same
      have d2 := d1.same s2
      have k2 := k1.trans (Keep.same s2)
      refine ⟨_, rfl, p, r, _, rfl, d2, fun n2 H2 n20 n21 k3 d3 => ?_⟩
      obtain ⟨z, hz, ez⟩ := at_intN (ns := menu) (i := n2 % 7) (Int.emod_nonneg _ (by decide)) (by show n2 % 7 < 7; exact Int.emod_lt_of_pos _ (by decide))
      refine ⟨_, _, rfl, rfl, (show (0 : Int) < 7 by decide), lz, _, _, _, rfl, rfl, SqL.of (k3 _ _ (d2.ne_list e2) e2), ez, ?_⟩
      refine ⟨by show 2 ≤ sizeLine; decide, fun t ht => ?_⟩
      have s3 := same_new ht (.tup [.str "num", .int z])
      exact q _ (.tup [.str "num", .int z]) _ ((k2.trans k3).trans (Keep.same s3)) ((d3.same s3).more (by omega)) (at_tup upd_same (ats_cons (at_str' (by decide +kernel)) (ats_cons at_int' ats_nil))) (gt_num (menu_ok z hz).1 (menu_ok z hz).2)
    · rw [cc]
      refine iteF ?_
      refine ⟨_, rfl, p, r, _, rfl, d1, fun z H2 hz k2 d2 => ⟨by show 2 ≤ sizeLine; decide, fun t ht => ?_⟩⟩
      have s3 := same_new ht (.tup [.str "var", .str z])
      exact q _ (.tup [.str "var", .str z]) _ ((k1.trans k2).trans (Keep.same s3)) ((d2.same s3).more (by omega)) (at_tup upd_same (ats_cons (at_str' (by decide +kernel)) (ats_cons (at_str' (names_ok z hz).2.2) ats_nil))) (gt_var hz)
  rw [c1]
  refine iteF ?_
  refine ⟨_, rfl, p, _, rfl, (dk_left r _ _ _ ▸ DGet.k (k := Sum.inr "left") hp1), _, _, rfl, rfl, _, rfl, ?_⟩
  show if decide (left ≤ 0) = true then _ else _
  rcases Bool.eq_false_or_eq_true (decide (left ≤ 0)) with c2 | c2
  · rw [c2]
    refine iteT (iteT ?_)
    refine ⟨_, rfl, _, _, rfl, rfl, (show (0 : Int) < 2 by decide), rfl, _, rfl, ?_⟩
    show if decide (V.int (u % 2) = V.int 0) = true then _ else _
    rcases Bool.eq_false_or_eq_true (decide (V.int (u % 2) = V.int 0)) with cc | cc
    · rw [cc]
      refine iteT ?_
      refine ⟨_, rfl, _, _, rfl, rfl, (by unfold CPow; decide), _, _, rfl, rfl, (by unfold CPow; decide), _, rfl, by show 7 ≤ sizeLine; decide, fun lz hlz => ?_⟩
      have s2 := same_new hlz (.lst (menu.map V.int))
      have e2 : upd H1 lz (.lst (menu.map V.int)) lz = some (.lst (menu.map V.int)) := upd_same
      have d2 := d1.same s2
      have k2 := k1.trans (Keep.same s2)
      refine ⟨_, rfl, p, r, _, rfl, d2, fun n2 H2 n20 n21 k3 d3 => ?_⟩
      obtain ⟨z, hz, ez⟩ := at_intN (ns := menu) (i := n2 % 7) (Int.emod_nonneg _ (by decide)) (by show n2 % 7 < 7; exact Int.emod_lt_of_pos _ (by decide))
      refine ⟨_, _, rfl, rfl, (show (0 : Int) < 7 by decide), lz, _, _, _, rfl, rfl, SqL.of (k3 _ _ (d2.ne_list e2) e2), ez, ?_⟩
      refine ⟨by show 2 ≤ sizeLine; decide, fun t ht => ?_⟩
      have s3 := same_new ht (.tup [.str "num", .int z])
      exact q _ (.tup [.str "num", .int z]) _ ((k2.trans k3).trans (Keep.same s3)) ((d3.same s3).more (by omega)) (at_tup upd_same (ats_cons (at_str' (by decide +kernel)) (ats_cons at_int' ats_nil))) (gt_num (menu_ok z hz).1 (menu_ok z hz).2)
    · rw [cc]
      refine iteF ?_
      refine ⟨_, rfl, p, r, _, rfl, d1, fun z H2 hz k2 d2 => ⟨by show 2 ≤ sizeLine; decide, fun t ht => ?_⟩⟩
      have s3 := same_new ht (.tup [.str "var", .str z])
      exact q _ (.tup [.str "var", .str z]) _ ((k1.trans k2).trans (Keep.same s3)) ((d2.same s3).more (by omega)) (at_tup upd_same (ats_cons (at_str' (by decide +kernel)) (ats_cons (at_str' (names_ok z hz).2.2) ats_nil))) (gt_var hz)
  rw [c2]
  refine iteF ?_
  refine ⟨_, rfl, _, _, rfl, rfl, _, rfl, ?_⟩
  show if decide (u < 2) = true then _ else _
  rcases Bool.eq_false_or_eq_true (decide (u < 2)) with c3 | c3
  · rw [c3]
    refine iteT ?_
    refine ⟨_, rfl, _, _, rfl, rfl, (show (0 : Int) < 2 by decide), rfl, _, rfl, ?_⟩
    show if decide (V.int (u % 2) = V.int 0) = true then _ else _
    rcases Bool.eq_false_or_eq_true (decide (V.int (u % 2) = V.int 0)) with cc | cc
    · rw [cc]
      refine iteT ?_
      refine ⟨_, rfl, _, _, rfl, rfl, (by unfold CPow; decide), _, _, rfl, rfl, (by unfold CPow; decide), _, rfl, by show 7 ≤ sizeLine; decide, fun lz hlz => ?_⟩
      have s2 := same_new hlz (.lst (menu.map V.int))
      have e2 : upd H1 lz (.lst (menu.map V.int)) lz = some (.lst (menu.map V.int)) := upd_same
      have d2 := d1.same s2
      have k2 := k1.trans (Keep.same s2)
      refine ⟨_, rfl, p, r, _, rfl, d2, fun n2 H2 n20 n21 k3 d3 => ?_⟩
      obtain ⟨z, hz, ez⟩ := at_intN (ns := menu) (i := n2 % 7) (Int.emod_nonneg _ (by decide)) (by show n2 % 7 < 7; exact Int.emod_lt_of_pos _ (by decide))
      refine ⟨_, _, rfl, rfl, (show (0 : Int) < 7 by decide), lz, _, _, _, rfl, rfl, SqL.of (k3 _ _ (d2.ne_list e2) e2), ez, ?_⟩
      refine ⟨by show 2 ≤ sizeLine; decide, fun t ht => ?_⟩
      have s3 := same_new ht (.tup [.str "num", .int z])
      exact q _ (.tup [.str "num", .int z]) _ ((k2.trans k3).trans (Keep.same s3)) ((d3.same s3).more (by omega)) (at_tup upd_same (ats_cons (at_str' (by decide +kernel)) (ats_cons at_int' ats_nil))) (gt_num (menu_ok z hz).1 (menu_ok z hz).2)
    · rw [cc]
      refine iteF ?_
      refine ⟨_, rfl, p, r, _, rfl, d1, fun z H2 hz k2 d2 => ⟨by show 2 ≤ sizeLine; decide, fun t ht => ?_⟩⟩
      have s3 := same_new ht (.tup [.str "var", .str z])
      exact q _ (.tup [.str "var", .str z]) _ ((k1.trans k2).trans (Keep.same s3)) ((d2.same s3).more (by omega)) (at_tup upd_same (ats_cons (at_str' (by decide +kernel)) (ats_cons (at_str' (names_ok z hz).2.2) ats_nil))) (gt_var hz)
  rw [c3]
  refine iteF ?_
  obtain ⟨e', rfl⟩ : ∃ e', e = e' + 1 := ⟨e - 1, by have := of_decide_eq_false c1; omega⟩
  have hc8 := c8 e'
  rw [p4] at hB q
  have hen' : e' < n := by omega
  refine ⟨_, rfl, p, _, rfl, (dk_left r _ _ _ ▸ DGet.k (k := Sum.inr "left") hp1), _, _, rfl, rfl, _, rfl, p, _, rfl, DPut.k (k := Sum.inr "left") hp1 (by show 4 < sizeLine; decide), ?_⟩
  rw [dk_putl]
  have npr : r ≠ p := ne_of hrow1 hp1 (by intro z; cases z)
  have dG : DAt (upd H1 p (.dK (dk4 r i1 nn (left - 1)))) p r (B + 1) := ⟨row, i1, nn, left - 1, upd_same, by rw [upd_ne npr]; exact hrow1, ok1, hi1⟩
  have kG : Keep p H (upd H1 p (.dK (dk4 r i1 nn (left - 1)))) := k1.trans fun b o hb e => by rw [upd_ne hb]; exact e
  generalize upd H1 p (.dK (dk4 r i1 nn (left - 1))) = G at dG kG ⊢
  refine ⟨_, rfl, _, _, rfl, rfl, _, rfl, ?_⟩
  show if decide (u < 5) = true then _ else _
  rcases Bool.eq_false_or_eq_true (decide (u < 5)) with t1 | t1
  · rw [t1]
    refine iteT ?_
    refine ⟨_, rfl, _, rfl, _, _, rfl, rfl, p, r, _, e', ed _ _, hen', dG, by omega, fun v1 g1 G1 k1 d1 a1 h1 => ?_⟩
    refine ⟨_, rfl, _, rfl, _, _, rfl, rfl, p, r, _, e', ed _ _, hen', d1, by omega, fun v2 g2 G2 k2 d2 a2 h2 => ?_⟩
    refine ⟨by show 3 ≤ sizeLine; decide, fun t ht => ?_⟩
    have s3 := same_new ht (.tup [.str "app", v1, v2])
    have f3 := fr_same (B := F0) s3
    exact q _ (.tup [.str "app", g1, g2]) _ (((kG.trans k1).trans k2).trans (Keep.same s3)) ((d2.same s3).more (by omega)) (at_tup upd_same (ats_cons (at_str' (by decide +kernel)) (ats_cons ((a1.keep (fr_keep k2 d1)).keep f3) (ats_cons (a2.keep f3) ats_nil)))) (gt_app h1 h2)
  rw [t1]
  refine iteF ?_
  refine ⟨_, rfl, _, _, rfl, rfl, _, rfl, ?_⟩
  show if decide (u < 7) = true then _ else _
  rcases Bool.eq_false_or_eq_true (decide (u < 7)) with t2 | t2
  · rw [t2]
    refine iteT ?_
    refine ⟨_, rfl, p, r, _, rfl, dG, fun z G0 hz k0 d0 => ?_⟩
    refine ⟨_, rfl, _, rfl, _, _, rfl, rfl, p, r, _, e', ed _ _, hen', d0, by omega, fun v1 g1 G1 k1 d1 a1 h1 => ?_⟩
    refine ⟨by show 3 ≤ sizeLine; decide, fun t ht => ?_⟩
    have s3 := same_new ht (.tup [.str "lam", .str z, v1])
    have f3 := fr_same (B := F0) s3
    exact q _ (.tup [.str "lam", .str z, g1]) _ (((kG.trans k0).trans k1).trans (Keep.same s3)) ((d1.same s3).more (by omega)) (at_tup upd_same (ats_cons (at_str' (by decide +kernel)) (ats_cons (at_str' (names_ok z hz).2.2) (ats_cons (a1.keep f3) ats_nil)))) (gt_lam hz h1)
  rw [t2]
  refine iteF ?_
  refine ⟨_, rfl, rfl, _, rfl, ?_⟩
  show if decide (V.int u = V.int 7) = true then _ else _
  rcases Bool.eq_false_or_eq_true (decide (V.int u = V.int 7)) with t3 | t3
  · rw [t3]
    refine iteT ?_
    refine ⟨_, rfl, _, rfl, p, r, _, rfl, dG, fun n2 G0 n20 n21 k0 d0 => ?_⟩
    have m20 := Int.emod_nonneg n2 (show (3 : Int) ≠ 0 by decide)
    have m21 := Int.emod_lt_of_pos n2 (show (0 : Int) < 3 by decide)
    refine ⟨_, _, rfl, rfl, (show (0 : Int) < 3 by decide), _, _, rfl, rfl, p, r, _, (1 + n2 % 3).toNat, by rw [Int.toNat_of_nonneg (by omega)]; rfl, by omega, d0, fun t zs G1 k1 d1 et hz hnd hzl hpos => ?_⟩
    have hzl3 : zs.length ≤ 3 := by omega
    have hzp : 0 < zs.length := hpos (by omega)
    refine ⟨_, rfl, t, rfl, ⟨_, SqT.of et⟩, fun D hD => ?_⟩
    obtain ⟨nDp, nDr⟩ := d1.fresh hD
    refine lc_tup (a := t) (xs := zs.map V.str) (fun i G' => ∃ (l : List Dd) (xs : List V), G' D = some (.lst xs) ∧ Keep p G1 G' ∧ DAt G' p r (B + 1 + 1 + (1 + n2 % 3).toNat + i * (8 * 4 ^ e' - 5)) ∧ Dd.Ats F0 G' (rowsL (zs.take i) l) xs ∧ l.length = i ∧ ∀ k ∈ l, Gt e' k) ⟨[], [], upd_same, Keep.same (same_new hD _), (d1.same (same_new hD _)).more (by omega), rfl, rfl, fun k h => by cases h⟩ (fun i G' hi ⟨_, _, _, h2, _⟩ => SqT.of (h2 _ _ (d1.ne_tup et) et)) ?_ ?_
    · rintro i x G' hx ⟨l, xs, h1, h2, h3, h4, h5, h6⟩
      rw [List.getElem?_map] at hx
      obtain ⟨z, hzi, rfl⟩ := Option.map_eq_some_iff.mp hx
      have hil : i < zs.length := (List.getElem?_eq_some_iff.mp hzi).1
      have hic : i * (8 * 4 ^ e' - 5) ≤ 2 * (8 * 4 ^ e' - 5) := Nat.mul_le_mul_right _ (by omega)
      have hic1 : (i + 1) * (8 * 4 ^ e' - 5) = i * (8 * 4 ^ e' - 5) + (8 * 4 ^ e' - 5) := Nat.succ_mul _ _
      have hxl := ats_len h4
      rw [rowsL_len (by rw [List.length_take, h5]; omega), h5] at hxl
      refine ⟨rfl, ?_⟩
      refine tYes_if ?_
      refine ⟨_, rfl, _, rfl, _, rfl, _, _, rfl, rfl, p, r, _, e', ed _ _, hen', h3, by omega, fun v1 g1 G2 k2 d2 a2 hg => ⟨by show 2 ≤ sizeLine; decide, fun u1 hu1 => ?_⟩⟩
      have h1' := k2 _ _ nDp h1
      have s3 := same_new hu1 (.tup [.str z, v1])
      have h1'' := s3 _ _ h1'
      have f3 := fr_same (B := F0) s3
      have e3 : upd G2 u1 (.tup [.str z, v1]) u1 = some (.tup [.str z, v1]) := upd_same
      have d3 := d2.same s3
      have a3 := a2.keep f3
      have h43 := (h4.keep (fr_keep k2 h3)).keep f3
      have k3 := (h2.trans k2).trans (Keep.same s3)
      generalize upd G2 u1 (.tup [.str z, v1]) = G3 at *
      have fL : Fr F0 G3 (upd G3 D (.lst (xs ++ [.ref u1]))) := fr_list h1'' fun z => z
      refine ⟨xs, h1'', szl (by omega), l ++ [g1], xs ++ [.ref u1], upd_same, keep_upd hD k3 _, (d3.off nDp nDr _).more (by omega), ?_, by rw [List.length_append, h5]; rfl, fun k hk => ?_⟩
      · rw [List.take_add_one, hzi, show rowsL (zs.take i ++ (some z).toList) (l ++ [g1]) = rowsL (zs.take i) l ++ [.tup [.str z, g1]] by
          unfold rowsL
          rw [List.zipWith_append (by rw [List.length_take, h5]; omega)]
          rfl]
        exact ats_app (h43.keep fL) (ats_one ((at_tup e3 (ats_cons (at_str' (names_ok z (hz z (List.mem_of_getElem? hzi))).2.2) (ats_cons a3 ats_nil))).keep fL))
      · rcases List.mem_append.mp hk with z' | z'
        · exact h6 k z'
        · rw [List.mem_singleton.mp z']; exact hg
    rintro G' ⟨l, xs, h1, h2, h3, h4, h5, h6⟩
    rw [List.length_map] at h3 h5
    rw [List.length_map, List.take_length] at h4
    have hic : zs.length * (8 * 4 ^ e' - 5) ≤ 3 * (8 * 4 ^ e' - 5) := Nat.mul_le_mul_right _ hzl3
    refine ⟨_, rfl, D, xs, rfl, .inl ⟨SqL.of h1, fun u1 hu1 => ?_⟩⟩
    have s3 := same_new hu1 (.tup xs)
    have e3 : upd G' u1 (.tup xs) u1 = some (.tup xs) := upd_same
    have d3 := h3.same s3
    have a3 := Dd.Ats.keep (fr_same (B := F0) s3) h4
    have kk3 := (((kG.trans k0).trans k1).trans h2).trans (Keep.same s3)
    generalize upd G' u1 (.tup xs) = G3 at *
    refine ⟨_, rfl, _, rfl, _, _, rfl, rfl, p, r, _, e', ed _ _, hen', d3, by omega, fun v4 g4 G4 k4 d4 a4 h4' => ⟨by show 3 ≤ sizeLine; decide, fun t5 ht5 => ?_⟩⟩
    have s5 := same_new ht5 (.tup [.str "let", .ref u1, v4])
    have f5 := fr_same (B := F0) s5
    exact q _ (.tup [.str "let", .tup (rowsL zs l), g4]) _ ((kk3.trans k4).trans (Keep.same s5)) ((d4.same s5).more (by omega)) (at_tup upd_same (ats_cons (at_str' (by decide +kernel)) (ats_cons (at_tup (s5 _ _ (k4 _ _ (d3.ne_tup e3) e3)) ((a3.keep (fr_keep k4 d3)).keep f5)) (ats_cons (a4.keep f5) ats_nil)))) (gt_let hz hnd h5.symm (by omega) (by omega) h6 h4')
  rw [t3]
  refine iteF ?_
  refine ⟨_, rfl, rfl, _, rfl, ?_⟩
  show if decide (V.int u = V.int 8) = true then _ else _
  rcases Bool.eq_false_or_eq_true (decide (V.int u = V.int 8)) with t4 | t4
  · rw [t4]
    refine iteT ?_
    refine ⟨_, rfl, p, r, _, rfl, dG, fun z G0 hz k0 d0 => ?_⟩
    refine ⟨_, rfl, _, rfl, _, _, rfl, rfl, p, r, _, e', ed _ _, hen', d0, by omega, fun v1 g1 G1 k1 d1 a1 h1 => ?_⟩
    refine ⟨_, rfl, _, rfl, _, _, rfl, rfl, p, r, _, e', ed _ _, hen', d1, by omega, fun v2 g2 G2 k2 d2 a2 h2 => ?_⟩
    refine ⟨by show 4 ≤ sizeLine; decide, fun t ht => ?_⟩
    have s3 := same_new ht (.tup [.str "seq", .str z, v1, v2])
    have f3 := fr_same (B := F0) s3
    exact q _ (.tup [.str "seq", .str z, g1, g2]) _ ((((kG.trans k0).trans k1).trans k2).trans (Keep.same s3)) ((d2.same s3).more (by omega)) (at_tup upd_same (ats_cons (at_str' (by decide +kernel)) (ats_cons (at_str' (names_ok z hz).2.2) (ats_cons ((a1.keep (fr_keep k2 d1)).keep f3) (ats_cons (a2.keep f3) ats_nil))))) (gt_seq hz h1 h2)
  rw [t4]
  refine iteF ?_
  refine ⟨_, rfl, rfl, _, rfl, ?_⟩
  show if decide (V.int u = V.int 9) = true then _ else _
  rcases Bool.eq_false_or_eq_true (decide (V.int u = V.int 9)) with t5 | t5
  · rw [t5]
    refine iteT (iteT ?_)
    refine ⟨_, rfl, p, r, _, rfl, dG, fun n2 G0 n20 n21 k0 d0 => ?_⟩
    have m20 := Int.emod_nonneg n2 (show (4 : Int) ≠ 0 by decide)
    have m21 := Int.emod_lt_of_pos n2 (show (0 : Int) < 4 by decide)
    refine ⟨_, _, rfl, rfl, (show (0 : Int) < 4 by decide), _, rfl, p, r, _, rfl, d0, fun n3 G1 n30 n31 k1 d1 => ?_⟩
    have m30 := Int.emod_nonneg n3 (show (3 : Int) ≠ 0 by decide)
    have m31 := Int.emod_lt_of_pos n3 (show (0 : Int) < 3 by decide)
    refine ⟨_, _, rfl, rfl, (show (0 : Int) < 3 by decide), _, rfl, _, rfl, by omega, by omega, fun D hD => ?_⟩
    obtain ⟨nDp, nDr⟩ := d1.fresh hD
    have hm3 : (n2 % 4).toNat ≤ 3 := by omega
    refine lc_range (Pv := fun i G' => ∃ (l : List Dd) (xs : List V), G' D = some (.lst xs) ∧ Keep p G1 G' ∧ DAt G' p r (B + 3 + i * (8 * 4 ^ e' - 5)) ∧ Dd.Ats F0 G' l xs ∧ l.length = i ∧ ∀ k ∈ l, Gt e' k) ⟨[], [], upd_same, Keep.same (same_new hD _), (d1.same (same_new hD _)).more (by omega), rfl, rfl, fun k h => by cases h⟩ ?_ ?_
    · rintro i G' hi ⟨l, xs, h1, h2, h3, h4, h5, h6⟩
      have hic : i * (8 * 4 ^ e' - 5) ≤ 2 * (8 * 4 ^ e' - 5) := Nat.mul_le_mul_right _ (by omega)
      have hic1 : (i + 1) * (8 * 4 ^ e' - 5) = i * (8 * 4 ^ e' - 5) + (8 * 4 ^ e' - 5) := Nat.succ_mul _ _
      have hxl := ats_len h4
      refine ⟨rfl, ?_⟩
      refine tYes_if ?_
      refine ⟨_, rfl, _, rfl, _, _, rfl, rfl, p, r, _, e', ed _ _, hen', h3, by omega, fun v1 g1 G2 k2 d2 a2 hg => ?_⟩
      have h1' := k2 _ _ nDp h1
      have fL : Fr F0 G2 (upd G2 D (.lst (xs ++ [v1]))) := fr_list h1' fun z => z
      refine ⟨xs, h1', szl (by omega), l ++ [g1], xs ++ [v1], upd_same, keep_upd hD (h2.trans k2) _, (d2.off nDp nDr _).more (by omega), ats_app ((h4.keep (fr_keep k2 h3)).keep fL) (ats_one (a2.keep fL)), by rw [List.length_append, h5]; rfl, fun k hk => ?_⟩
      rcases List.mem_append.mp hk with z' | z'
      · exact h6 k z'
      · rw [List.mem_singleton.mp z']; exact hg
    rintro G' ⟨l, xs, h1, h2, h3, h4, h5, h6⟩
    have hic : (n2 % 4).toNat * (8 * 4 ^ e' - 5) ≤ 3 * (8 * 4 ^ e' - 5) := Nat.mul_le_mul_right _ hm3
    refine ⟨D, xs, rfl, .inl ⟨SqL.of h1, fun u1 hu1 => ?_⟩⟩
    have s3 := same_new hu1 (.tup xs)
    have e3 : upd G' u1 (.tup xs) u1 = some (.tup xs) := upd_same
    have d3 := h3.same s3
    have a3 := Dd.Ats.keep (fr_same (B := F0) s3) h4
    have kk3 := (((kG.trans k0).trans k1).trans h2).trans (Keep.same s3)
    generalize upd G' u1 (.tup xs) = G3 at *
    refine ⟨by show 3 ≤ sizeLine; decide, fun t5 ht5 => ?_⟩
    have s5 := same_new ht5 (.tup [.str "con", .int (n3 % 3), .ref u1])
    have f5 := fr_same (B := F0) s5
    exact q _ (.tup [.str "con", .int (n3 % 3), .tup l]) _ (kk3.trans (Keep.same s5)) ((d3.same s5).more (by omega)) (at_tup upd_same (ats_cons (at_str' (by decide +kernel)) (ats_cons at_int' (ats_cons (at_tup (s5 _ _ e3) (a3.keep f5)) ats_nil)))) (gt_con m30 (by omega) (by omega) h6)
  rw [t5]
  refine iteF ?_
  refine ⟨_, rfl, rfl, _, rfl, ?_⟩
  show if decide (V.int u = V.int 10) = true then _ else _
  rcases Bool.eq_false_or_eq_true (decide (V.int u = V.int 10)) with t6 | t6
  · rw [t6]
    refine iteT ?_
    refine ⟨_, rfl, p, r, _, rfl, dG, fun n2 G0 n20 n21 k0 d0 => ?_⟩
    have m20 := Int.emod_nonneg n2 (show (4 : Int) ≠ 0 by decide)
    have m21 := Int.emod_lt_of_pos n2 (show (0 : Int) < 4 by decide)
    refine ⟨_, _, rfl, rfl, (show (0 : Int) < 4 by decide), _, rfl, p, r, _, rfl, d0, fun n3 G1 n30 n31 k1 d1 => ?_⟩
    have m30 := Int.emod_nonneg n3 (show (3 : Int) ≠ 0 by decide)
    have m31 := Int.emod_lt_of_pos n3 (show (0 : Int) < 3 by decide)
    refine ⟨_, _, rfl, rfl, (show (0 : Int) < 3 by decide), _, rfl, _, rfl, by omega, by omega, fun D hD => ?_⟩
    obtain ⟨nDp, nDr⟩ := d1.fresh hD
    have hm3 : (n2 % 4).toNat ≤ 3 := by omega
    refine lc_range (Pv := fun i G' => ∃ (l : List Dd) (xs : List V), G' D = some (.lst xs) ∧ Keep p G1 G' ∧ DAt G' p r (B + 3 + i * (8 * 4 ^ e' - 5)) ∧ Dd.Ats F0 G' l xs ∧ l.length = i ∧ ∀ k ∈ l, Gt e' k) ⟨[], [], upd_same, Keep.same (same_new hD _), (d1.same (same_new hD _)).more (by omega), rfl, rfl, fun k h => by cases h⟩ ?_ ?_
    · rintro i G' hi ⟨l, xs, h1, h2, h3, h4, h5, h6⟩
      have hic : i * (8 * 4 ^ e' - 5) ≤ 2 * (8 * 4 ^ e' - 5) := Nat.mul_le_mul_right _ (by omega)
      have hic1 : (i + 1) * (8 * 4 ^ e' - 5) = i * (8 * 4 ^ e' - 5) + (8 * 4 ^ e' - 5) := Nat.succ_mul _ _
      have hxl := ats_len h4
      refine ⟨rfl, ?_⟩
      refine tYes_if ?_
      refine ⟨_, rfl, _, rfl, _, _, rfl, rfl, p, r, _, e', ed _ _, hen', h3, by omega, fun v1 g1 G2 k2 d2 a2 hg => ?_⟩
      have h1' := k2 _ _ nDp h1
      have fL : Fr F0 G2 (upd G2 D (.lst (xs ++ [v1]))) := fr_list h1' fun z => z
      refine ⟨xs, h1', szl (by omega), l ++ [g1], xs ++ [v1], upd_same, keep_upd hD (h2.trans k2) _, (d2.off nDp nDr _).more (by omega), ats_app ((h4.keep (fr_keep k2 h3)).keep fL) (ats_one (a2.keep fL)), by rw [List.length_append, h5]; rfl, fun k hk => ?_⟩
      rcases List.mem_append.mp hk with z' | z'
      · exact h6 k z'
      · rw [List.mem_singleton.mp z']; exact hg
    rintro G' ⟨l, xs, h1, h2, h3, h4, h5, h6⟩
    have hic : (n2 % 4).toNat * (8 * 4 ^ e' - 5) ≤ 3 * (8 * 4 ^ e' - 5) := Nat.mul_le_mul_right _ hm3
    refine ⟨D, xs, rfl, .inl ⟨SqL.of h1, fun u1 hu1 => ?_⟩⟩
    have s3 := same_new hu1 (.tup xs)
    have e3 : upd G' u1 (.tup xs) u1 = some (.tup xs) := upd_same
    have d3 := h3.same s3
    have a3 := Dd.Ats.keep (fr_same (B := F0) s3) h4
    have kk3 := (((kG.trans k0).trans k1).trans h2).trans (Keep.same s3)
    generalize upd G' u1 (.tup xs) = G3 at *
    refine ⟨by show 3 ≤ sizeLine; decide, fun t5 ht5 => ?_⟩
    have s5 := same_new ht5 (.tup [.str "con", .int (n3 % 3), .ref u1])
    have f5 := fr_same (B := F0) s5
    exact q _ (.tup [.str "con", .int (n3 % 3), .tup l]) _ (kk3.trans (Keep.same s5)) ((d3.same s5).more (by omega)) (at_tup upd_same (ats_cons (at_str' (by decide +kernel)) (ats_cons at_int' (ats_cons (at_tup (s5 _ _ e3) (a3.keep f5)) ats_nil)))) (gt_con m30 (by omega) (by omega) h6)
  rw [t6]
  refine iteF ?_
  refine ⟨_, rfl, rfl, _, rfl, ?_⟩
  show if decide (V.int u = V.int 11) = true then _ else _
  rcases Bool.eq_false_or_eq_true (decide (V.int u = V.int 11)) with t7 | t7
  · rw [t7]
    refine iteT (iteT ?_)
    exact ⟨_, rfl, _, rfl, p, r, _, e', rfl, hen', dG, by rw [p4]; omega, fun v k H' kk dd aa gg => q v k H' (kG.trans kk) (dd.more (by rw [p4]; omega)) aa gg⟩
  rw [t7]
  refine iteF ?_
  refine ⟨_, rfl, rfl, _, rfl, ?_⟩
  show if decide (V.int u = V.int 12) = true then _ else _
  rcases Bool.eq_false_or_eq_true (decide (V.int u = V.int 12)) with t8 | t8
  · rw [t8]
    refine iteT ?_
    exact ⟨_, rfl, _, rfl, p, r, _, e', rfl, hen', dG, by rw [p4]; omega, fun v k H' kk dd aa gg => q v k H' (kG.trans kk) (dd.more (by rw [p4]; omega)) aa gg⟩
  rw [t8]
  refine iteF ?_
  refine ⟨_, rfl, rfl, _, rfl, ?_⟩
  show if decide (V.int u = V.int 13) = true then _ else _
  rcases Bool.eq_false_or_eq_true (decide (V.int u = V.int 13)) with t9 | t9
  · rw [t9]
    refine iteT ?_
    refine ⟨_, rfl, p, r, _, rfl, dG, fun n2 G0 n20 n21 k0 d0 => ?_⟩
    refine ⟨_, rfl, _, rfl, _, _, rfl, rfl, p, r, _, e', ed _ _, hen', d0, by omega, fun v1 g1 G1 k1 d1 a1 h1 => ?_⟩
    refine ⟨by show 3 ≤ sizeLine; decide, fun t ht => ?_⟩
    have s3 := same_new ht (.tup [.str "note", .int n2, v1])
    have f3 := fr_same (B := F0) s3
    exact q _ (.tup [.str "note", .int n2, g1]) _ (((kG.trans k0).trans k1).trans (Keep.same s3)) ((d1.same s3).more (by omega)) (at_tup upd_same (ats_cons (at_str' (by decide +kernel)) (ats_cons at_int' (ats_cons (a1.keep f3) ats_nil)))) (gt_note n20 (by omega) h1)
  rw [t9]
  refine iteF ?_
  refine ⟨by show 8 ≤ sizeLine; decide, fun lz hlz => ?_⟩
  have s2 := same_new hlz (.lst (signs.map V.str))
  have e2 : upd G lz (.lst (signs.map V.str)) lz = some (.lst (signs.map V.str)) := upd_same
  have d2 := dG.same s2
  have k2 := kG.trans (Keep.same s2)
  refine ⟨_, rfl, p, r, _, rfl, d2, fun n2 G0 n20 n21 k0 d0 => ?_⟩
  obtain ⟨z, hz, ez⟩ := at_str (zs := signs) (i := n2 % 8) (Int.emod_nonneg _ (by decide)) (by show n2 % 8 < 8; exact Int.emod_lt_of_pos _ (by decide))
  refine ⟨_, _, rfl, rfl, (show (0 : Int) < 8 by decide), lz, _, _, _, rfl, rfl, SqL.of (k0 _ _ (d2.ne_list e2) e2), ez, ?_⟩
  have k0 := k2.trans k0
  refine ⟨_, rfl, ?_⟩
  refine ⟨_, rfl, _, rfl, _, _, rfl, rfl, p, r, _, e', ed _ _, hen', d0, by omega, fun v1 g1 G1 k1 d1 a1 h1 => ?_⟩
  refine ⟨_, rfl, _, rfl, _, _, rfl, rfl, p, r, _, e', ed _ _, hen', d1, by omega, fun v2 g2 G2 k2 d2 a2 h2 => ?_⟩
  refine ⟨by show 4 ≤ sizeLine; decide, fun t ht => ?_⟩
  have s3 := same_new ht (.tup [.str "prim", .str z, v1, v2])
  have f3 := fr_same (B := F0) s3
  exact q _ (.tup [.str "prim", .str z, g1, g2]) _ (((k0.trans k1).trans k2).trans (Keep.same s3)) ((d2.same s3).more (by omega)) (at_tup upd_same (ats_cons (at_str' (by decide +kernel)) (ats_cons (at_str' (signs_ok z hz)) (ats_cons ((a1.keep (fr_keep k2 d1)).keep f3) (ats_cons (a2.keep f3) ats_nil))))) (gt_prim hz h1 h2)
theorem c_any {fa fb : Addr} {fda fdb : FuncData} (T : TxtG mg) (c_law_take : C8.Cal P w K mg base 1 "_law_take" spTake []) (c_law_name : C8.Cal P w K mg base 2 "_law_name" spLName []) (c_law_names : C8.Cal P w K mg base 3 "_law_names" spLNames []) (Fa : Fun K "_law_any" "_law_any" sAny fa fda) (ba : Binds K fda ["d", "depth"] []) (hma : mg "_law_any" = some (.ref fa)) (Fb : Fun K "_law_any_branch" "_law_any_branch" sBranch fb fdb) (bb : Binds K fdb ["d", "depth"] []) (hmb : mg "_law_any_branch" = some (.ref fb)) : ∀ n : Nat, C8.Cal P w K mg base (2 * n + 4) "_law_any" (spAny n) []
  | 0 => cal_none Fa hma ba fun vs H Q E h => by
    obtain ⟨p, r, B, e, _, h, _⟩ := h
    omega
  | n + 1 => c_any1 T c_law_take c_law_name c_law_names (c_any T c_law_take c_law_name c_law_names Fa ba hma Fb bb hmb n) (c_branch T c_law_take c_law_name c_law_names (c_any T c_law_take c_law_name c_law_names Fa ba hma Fb bb hmb n) Fb bb hmb) Fa ba hma
end
end Toy

set_option Elab.async false
set_option linter.all false
set_option maxRecDepth 100000
set_option maxHeartbeats 4000000
/-! Part L: how many terms a term has, how many lams lead it. -/
namespace Toy
open PySem L2
open PyProof.Rows (envOfC)
/-- the terms in a term, itself among them -/
def cntT : Nat → Dd → Nat
  | 0, _ => 0
  | n + 1, k => 1 + ((partsD k).map (cntT n)).sum
theorem tt_parts {k : Dd} (h : isTT k = true) : formB k = true ∧ ∀ p ∈ partsD k, isTT p = true := by
  rw [isTT_eq] at h
  obtain ⟨h1, h2⟩ := fand h
  exact ⟨h1, List.all_eq_true.mp h2⟩
theorem cntT_stab : ∀ (n m : Nat) (k : Dd), isTT k = true → k.sz ≤ n → k.sz ≤ m → cntT n k = cntT m k
  | 0, _, k, _, h, _ => by have := sz_pos k; omega
  | _ + 1, 0, k, _, _, h => by have := sz_pos k; omega
  | n + 1, m + 1, k, ht, h1, h2 => by
    obtain ⟨hf, hp⟩ := tt_parts ht
    have hs := parts_sz hf
    show 1 + ((partsD k).map (cntT n)).sum = 1 + ((partsD k).map (cntT m)).sum
    rw [List.map_congr_left fun p hp' => by
      have := szs_mem hp'
      exact cntT_stab n m p (hp p hp') (by omega) (by omega)]
def cnt (k : Dd) : Nat := cntT k.sz k
theorem cnt_eq {k : Dd} (h : isTT k = true) : cnt k = 1 + ((partsD k).map cnt).sum := by
  obtain ⟨hf, hp⟩ := tt_parts h
  have hs := parts_sz hf
  have e : cnt k = cntT (k.sz + 1) k := cntT_stab _ _ k h (Nat.le_refl _) (Nat.le_succ _)
  rw [e]
  show 1 + ((partsD k).map (cntT k.sz)).sum = _
  rw [List.map_congr_left fun p hp' => by
    have := szs_mem hp'
    exact cntT_stab k.sz p.sz p (hp p hp') (by omega) (Nat.le_refl _)]
  rfl
/-- lams that lead a term -/
def arT : Nat → Dd → Nat
  | n + 1, .tup (.str w :: r) => if w = "lam" then 1 + arT n (arg 1 r) else 0
  | _, _ => 0
theorem arT_stab : ∀ (n m : Nat) (k : Dd), isTT k = true → k.sz ≤ n → k.sz ≤ m → arT n k = arT m k
  | 0, _, k, _, h, _ => by have := sz_pos k; omega
  | _ + 1, 0, k, _, _, h => by have := sz_pos k; omega
  | n + 1, m + 1, k, ht, h1, h2 => by
    obtain ⟨hf, hp⟩ := tt_parts ht
    have hs := parts_sz hf
    match k, hf, hp, hs with
    | .tup (.str w :: r), hf, hp, hs =>
      show (if w = "lam" then 1 + arT n (arg 1 r) else 0) = if w = "lam" then 1 + arT m (arg 1 r) else 0
      by_cases c : w = "lam"
      · rw [if_pos c, if_pos c]
        have hm : arg 1 r ∈ partsD (.tup (.str w :: r)) := by
          show arg 1 r ∈ partsW w r
          rw [c, pw_lam]
          exact List.mem_singleton.mpr rfl
        have := szs_mem hm
        rw [arT_stab n m _ (hp _ hm) (by omega) (by omega)]
      · rw [if_neg c, if_neg c]
def ar (k : Dd) : Nat := arT k.sz k
theorem ar_lam {x b : Dd} (h : isTT (.tup [.str "lam", x, b]) = true) : ar (.tup [.str "lam", x, b]) = 1 + ar b ∧ isTT b = true := by
  obtain ⟨hf, hp⟩ := tt_parts h
  have hs := parts_sz hf
  have hm : b ∈ partsD (.tup [.str "lam", x, b]) := by
    show b ∈ partsW "lam" [x, b]
    rw [pw_lam]
    exact List.mem_singleton.mpr rfl
  have := szs_mem hm
  refine ⟨?_, hp _ hm⟩
  have e : ar (.tup [.str "lam", x, b]) = arT ((Dd.tup [.str "lam", x, b]).sz + 1) (.tup [.str "lam", x, b]) := arT_stab _ _ _ h (Nat.le_refl _) (Nat.le_succ _)
  rw [e]
  show (if ("lam" : Str) = "lam" then 1 + arT (Dd.tup [.str "lam", x, b]).sz b else 0) = _
  rw [if_pos rfl, arT_stab _ b.sz b (hp _ hm) (by omega) (Nat.le_refl _)]
  rfl
theorem ar_other {w : Str} {r : List Dd} (h : w ≠ "lam") : ar (.tup (.str w :: r)) = 0 := by
  unfold ar
  rw [show (Dd.tup (.str w :: r)).sz = Dd.szs (.str w :: r) + 1 from Nat.add_comm 1 _]
  show (if w = "lam" then _ else 0) = 0
  rw [if_neg h]
theorem len2 {α : Type} {l : List α} (h : l.length = 2) : ∃ x y, l = [x, y] := by
  match l, h with
  | [x, y], _ => exact ⟨x, y, rfl⟩
section
variable {P : Program} {w : World} {K : PySem.W.Frag} {mg : Str → Option Value} {base : Heap}
def spSize : Sp := fun vs H Q _ => ∃ (B : Addr → Prop) (v : V) (k : Dd), vs = [v] ∧ k.At B H v ∧ isTT k = true ∧ k.sz ≤ 1000000 ∧ ∀ H', Same H H' → Q (.int (cnt k : Int)) H'
def spArity : Sp := fun vs H Q _ => ∃ (B : Addr → Prop) (v : V) (k : Dd), vs = [v] ∧ k.At B H v ∧ isTT k = true ∧ k.sz ≤ 1000000 ∧ Q (.int (ar k : Int)) H
end
end Toy

set_option Elab.async false
set_option linter.all false
set_option maxRecDepth 100000
set_option maxHeartbeats 4000000
/-! Part M: parts with the names that are bound around them, as the law finds them. -/
namespace Toy
open PySem L2
open PyProof.Rows (envOfC)
def strOf : Dd → Str
  | .str s => s
  | _ => Str.empty
def strsOf (d : Dd) : List Str := (tl d).map strOf
def dfltNs : Dd → List (List Str)
  | .non => []
  | d => [[strOf (nth 0 d)]]
/-- the names bound around each part -/
def scopesW (w : Str) (r : List Dd) : List (List Str) :=
  if w = "app" then [[], []] else if w = "lam" then [[strOf (arg 0 r)]]
  else if w = "let" then (tl (arg 0 r)).map (fun _ => (tl (arg 0 r)).map fun q => strOf (nth 0 q)) ++ [(tl (arg 0 r)).map fun q => strOf (nth 0 q)]
  else if w = "seq" then [[], [strOf (arg 0 r)]] else if w = "con" then (tl (arg 1 r)).map fun _ => []
  else if w = "case" then [] :: ((tl (arg 1 r)).map (fun q => strsOf (nth 1 q)) ++ dfltNs (arg 2 r))
  else if w = "pick" then [] :: ((tl (arg 1 r)).map (fun _ => []) ++ dfltNs (arg 2 r))
  else if w = "prim" then [[], []] else if w = "note" then [[]] else []
def scopesD : Dd → List (List Str)
  | .tup (.str w :: r) => scopesW w r
  | _ => []
def pairD (ns : List Str) (p : Dd) : Dd := .tup [nameT ns, p]
def innerD (k : Dd) : List Dd := List.zipWith pairD (scopesD k) (partsD k)
theorem name_str {d : Dd} (h : isName d = true) : d = .str (strOf d) := by
  match d, h with
  | .str s, _ => rfl
theorem names_back {d : Dd} (h : areNames d = true) : d = nameT (strsOf d) := by
  match d, h with
  | .tup l, h =>
    have h1 := List.all_eq_true.mp (fand h).1
    show Dd.tup l = .tup ((l.map strOf).map Dd.str)
    rw [List.map_map]
    congr 1
    have : l.map (Dd.str ∘ strOf) = l.map id := List.map_congr_left fun x hx => (name_str (h1 x hx)).symm
    rw [this, List.map_id]
section
variable {P : Program} {w : World} {K : PySem.W.Frag} {mg : Str → Option Value} {base : Heap}
structure TxtI (mg : Str → Option Value) : Prop where
  zisinstance : mg "isinstance" = none
  zint : mg "int" = none
  zbool : mg "bool" = none
  zrange : mg "range" = none
  ztuple : mg "tuple" = none
  zlist : mg "list" = none
def spIsNum : Sp := fun vs H Q _ => ∃ a b : Int, vs = [.int a, .int b] ∧ Q (.bl (decide (a = b))) H
def spLArity : Sp := fun vs H Q _ => ∃ (B : Addr → Prop) (v : V) (k : Dd), vs = [v] ∧ k.At B H v ∧ isTT k = true ∧ k.sz ≤ 1000000 ∧ ar k ≤ 60 ∧ Q (.int (ar k : Int)) H
end
end Toy

set_option Elab.async false
set_option linter.all false
set_option maxRecDepth 100000
set_option maxHeartbeats 4000000
/-! Part N: parts with the names around them, as the law finds them. -/
namespace Toy
open PySem L2
open PyProof.Rows (envOfC)
theorem sw_app (r : List Dd) : scopesW "app" r = [[], []] := by
  unfold scopesW
  rw [if_pos rfl]
theorem sw_lam (r : List Dd) : scopesW "lam" r = [[strOf (arg 0 r)]] := by
  unfold scopesW
  rw [if_neg (by decide +kernel), if_pos rfl]
theorem sw_let (r : List Dd) : scopesW "let" r = (tl (arg 0 r)).map (fun _ => (tl (arg 0 r)).map fun q => strOf (nth 0 q)) ++ [(tl (arg 0 r)).map fun q => strOf (nth 0 q)] := by
  unfold scopesW
  rw [if_neg (by decide +kernel), if_neg (by decide +kernel), if_pos rfl]
theorem sw_seq (r : List Dd) : scopesW "seq" r = [[], [strOf (arg 0 r)]] := by
  unfold scopesW
  rw [if_neg (by decide +kernel), if_neg (by decide +kernel), if_neg (by decide +kernel), if_pos rfl]
theorem sw_con (r : List Dd) : scopesW "con" r = (tl (arg 1 r)).map fun _ => [] := by
  unfold scopesW
  rw [if_neg (by decide +kernel), if_neg (by decide +kernel), if_neg (by decide +kernel), if_neg (by decide +kernel), if_pos rfl]
theorem sw_case (r : List Dd) : scopesW "case" r = [] :: ((tl (arg 1 r)).map (fun q => strsOf (nth 1 q)) ++ dfltNs (arg 2 r)) := by
  unfold scopesW
  rw [if_neg (by decide +kernel), if_neg (by decide +kernel), if_neg (by decide +kernel), if_neg (by decide +kernel), if_neg (by decide +kernel), if_pos rfl]
theorem sw_pick (r : List Dd) : scopesW "pick" r = [] :: ((tl (arg 1 r)).map (fun _ => []) ++ dfltNs (arg 2 r)) := by
  unfold scopesW
  rw [if_neg (by decide +kernel), if_neg (by decide +kernel), if_neg (by decide +kernel), if_neg (by decide +kernel), if_neg (by decide +kernel), if_neg (by decide +kernel), if_pos rfl]
theorem sw_prim (r : List Dd) : scopesW "prim" r = [[], []] := by
  unfold scopesW
  rw [if_neg (by decide +kernel), if_neg (by decide +kernel), if_neg (by decide +kernel), if_neg (by decide +kernel), if_neg (by decide +kernel), if_neg (by decide +kernel), if_neg (by decide +kernel), if_pos rfl]
theorem sw_note (r : List Dd) : scopesW "note" r = [[]] := by
  unfold scopesW
  rw [if_neg (by decide +kernel), if_neg (by decide +kernel), if_neg (by decide +kernel), if_neg (by decide +kernel), if_neg (by decide +kernel), if_neg (by decide +kernel), if_neg (by decide +kernel), if_neg (by decide +kernel), if_pos rfl]
theorem zip_nil : ∀ ps : List Dd, List.zipWith pairD (ps.map fun _ => []) ps = ps.map (pairD [])
  | [] => rfl
  | p :: ps => by
    show pairD [] p :: List.zipWith pairD (ps.map fun _ => []) ps = _
    rw [zip_nil ps]
    rfl
theorem rows_are {n : Nat} {k : Dd} (h : areRows n k = true) : ∃ l, k = .tup l ∧ ∀ q ∈ l, ∃ m, q = .tup m ∧ m.length = n := by
  match k, h with
  | .tup l, h => exact ⟨l, rfl, fun q hq => by
      have := List.all_eq_true.mp h q hq
      match q, this with
      | .tup m, t => exact ⟨m, rfl, of_decide_eq_true t⟩⟩
theorem zip_let (l0 : List Dd) (y : Dd) (ns : List Str) : ∀ l : List Dd, List.zipWith pairD (l.map (fun _ => ns) ++ [ns]) (l.map (nth 1) ++ [y]) = (l.map fun q => pairD ns (nth 1 q)) ++ [pairD ns y]
  | [] => rfl
  | q :: l => by
    show pairD ns (nth 1 q) :: List.zipWith pairD (l.map (fun _ => ns) ++ [ns]) (l.map (nth 1) ++ [y]) = _
    rw [zip_let l0 y ns l]
    rfl
theorem ats_strs {B : Addr → Prop} {H : Hp} : ∀ {zs : List Str}, (∀ z ∈ zs, z.length ≤ 1000) → Dd.Ats B H (zs.map Dd.str) (zs.map V.str)
  | [], _ => rfl
  | z :: zs, h => ⟨.str z, zs.map V.str, rfl, ⟨rfl, h z (List.mem_cons_self ..)⟩, ats_strs fun y hy => h y (List.mem_cons_of_mem _ hy)⟩
theorem form_wordN {w : Str} {r : List Dd} (h : formW w r = true) : w ∈ words := by
  refine Classical.byContradiction fun n => ?_
  rw [form_out n] at h
  cases h
/-- a row of a case or of a pick: its names and its term -/
def rowPair (z : Str) (q : Dd) : Dd := if z = "case" then pairD (strsOf (nth 1 q)) (lastD q) else pairD [] (lastD q)
theorem zip_rows {z : Str} {f : Dd → List Str} : ∀ (l : List Dd), (∀ q ∈ l, rowPair z q = pairD (f q) (lastD q)) → List.zipWith pairD (l.map f) (l.map lastD) = l.map (rowPair z)
  | [], _ => rfl
  | q :: l, h => by
    show pairD (f q) (lastD q) :: List.zipWith pairD (l.map f) (l.map lastD) = rowPair z q :: l.map (rowPair z)
    rw [h q (List.mem_cons_self ..), zip_rows l fun y hy => h y (List.mem_cons_of_mem _ hy)]
theorem free_of {H H' : Hp} (s : Same H H') {a : Addr} (h : H' a = none) : H a = none := by
  cases e : H a with
  | none => rfl
  | some u => rw [s a u e] at h; cases h
theorem len3 {α : Type} {l : List α} (h : l.length = 3) : ∃ x y z, l = [x, y, z] := by
  match l, h with
  | [x, y, z], _ => exact ⟨x, y, z, rfl⟩
section
variable {P : Program} {w : World} {K : PySem.W.Frag} {mg : Str → Option Value} {base : Heap}
def spInner : Sp := fun vs H Q _ => ∃ (B : Addr → Prop) (v : V) (k : Dd), vs = [v] ∧ k.At B H v ∧ formB k = true ∧ k.sz ≤ 1000000 ∧ (∀ a, H a = none → ¬ B a) ∧ ∀ (L : Addr) (xs : List V) (H' : Hp), Same H H' → H L = none → H' L = some (.lst xs) → Dd.Ats B H' (innerD k) xs → Q (.ref L) H'
end
end Toy

set_option Elab.async false
set_option linter.all false
set_option maxRecDepth 100000
set_option maxHeartbeats 4000000
/-! Part O: as many scopes as parts; the law's count of terms. -/
namespace Toy
open PySem L2
open PyProof.Rows (envOfC)
theorem dflt_len {d : Dd} (h : isDflt d = true) : (dfltNs d).length = (dfltP d).length := by
  match d, h with
  | .non, _ => rfl
  | .tup _, _ => rfl
theorem scopes_len {k : Dd} (h : formB k = true) : (scopesD k).length = (partsD k).length := by
  obtain ⟨z, r, rfl, hf⟩ := form_tup h
  show (scopesW z r).length = (partsW z r).length
  have hw := form_wordN hf
  simp only [words, List.mem_cons, List.not_mem_nil, or_false] at hw
  rcases hw with rfl | rfl | rfl | rfl | rfl | rfl | rfl | rfl | rfl | rfl | rfl
  · rw [pw_num, show scopesW "num" r = [] by unfold scopesW; simp (config := { decide := true })]
    rfl
  · rw [pw_var, show scopesW "var" r = [] by unfold scopesW; simp (config := { decide := true })]
    rfl
  · rw [fw_app] at hf
    rw [sw_app, pw_app]
    exact (of_decide_eq_true hf).symm
  · rw [sw_lam, pw_lam]
    rfl
  · rw [sw_let, pw_let]
    unfold gLet
    rw [List.length_append, List.length_append, List.length_map, List.length_map]
    rfl
  · rw [fw_seq] at hf
    rw [sw_seq, pw_seq, List.length_drop, of_decide_eq_true (fand hf).1]
    rfl
  · rw [sw_con, pw_con, List.length_map]
  · rw [fw_case] at hf
    rw [sw_case, pw_case]
    unfold gChoice
    rw [List.length_cons, List.length_cons, List.length_append, List.length_append, List.length_map, List.length_map, dflt_len (fand (fand hf).1).2]
  · rw [fw_pick] at hf
    rw [sw_pick, pw_pick]
    unfold gChoice
    rw [List.length_cons, List.length_cons, List.length_append, List.length_append, List.length_map, List.length_map, dflt_len (fand (fand hf).1).2]
  · rw [fw_prim] at hf
    rw [sw_prim, pw_prim, List.length_drop, of_decide_eq_true (fand hf).1]
    rfl
  · rw [sw_note, pw_note]
    rfl
section
variable {P : Program} {w : World} {K : PySem.W.Frag} {mg : Str → Option Value} {base : Heap}
def spLSize (n : Nat) : Sp := fun vs H Q _ => ∃ (B : Addr → Prop) (v : V) (k : Dd), vs = [v] ∧ k.At B H v ∧ isN n k = true ∧ k.sz ≤ 1000000 ∧ (∀ a, H a = none → ¬ B a) ∧ ∀ H', Same H H' → Q (.int (cnt k : Int)) H'
end
end Toy

set_option Elab.async false
set_option linter.all false
set_option maxRecDepth 100000
set_option maxHeartbeats 4000000
/-! Part Y: own rule: a loop over zip(t, l), t a tuple and l a list. -/
namespace Mix
open PySem PySem.Spec PyProof.Rows L2
/-- a row of this kind: a tuple where c, a list otherwise -/
def Row (c : Bool) (g : Heap) (p : Addr) (us : Array Value) : Prop := match c with
  | true => g.IsTuple p us
  | false => g.IsList p us
/-- the walker over it, ahead of item m -/
def Wlk (c : Bool) (g : Heap) (j p : Addr) (m : Nat) : Prop := match c with
  | true => g.IsTupleIter j p m
  | false => g.IsListIter j p m
theorem Row.ext {c : Bool} {g g' : Heap} {p q : Addr} {us : Array Value} (r : Row c g p us) (b : Heap.ExtBut q g g') (n : p ≠ q) : Row c g' p us := by
  cases c
  · exact Heap.IsList.extBut r b n
  · exact Heap.IsTuple.extBut r b n
theorem Wlk.ext {c : Bool} {g g' : Heap} {j p q : Addr} {m : Nat} (r : Wlk c g j p m) (b : Heap.ExtBut q g g') (n : j ≠ q) : Wlk c g' j p m := by
  cases c
  · exact Heap.IsListIter.extBut r b n
  · exact Heap.IsTupleIter.extBut r b n
theorem Wlk.at {c : Bool} {g g' : Heap} {j p : Addr} {m : Nat} (r : Wlk c g j p m) (k : ∀ o, g.get? j = some o → g'.get? j = some o) : Wlk c g' j p m := by
  cases c
  · exact Heap.IsListIter.at r k
  · exact Heap.IsTupleIter.at r k
theorem Wlk.there {c : Bool} {g : Heap} {j p : Addr} {m : Nat} (r : Wlk c g j p m) : ∃ o, g.get? j = some o ∧ ∀ v, o.data ≠ .cell v := by
  cases c
  · obtain ⟨o, e, _, d⟩ := r
    exact ⟨o, e, fun v z => by rw [d] at z; cases z⟩
  · obtain ⟨o, e, _, d⟩ := r
    exact ⟨o, e, fun v z => by rw [d] at z; cases z⟩
theorem Wlk.lt {c : Bool} {g : Heap} {j p : Addr} {m : Nat} (r : Wlk c g j p m) : j < g.objs.size := by
  obtain ⟨o, e, _⟩ := Wlk.there r
  exact Heap.lt_size e
section
variable {prog : Program} {w : World} {A : Around} {E : Value → Shared → Prop} {s : Shared}
theorem step_item {c : Bool} {j p : Addr} {m : Nat} {us : Array Value} {u : Value} {Q : Value → Shared → Prop} (r : Wlk c s.heap j p m) (k : Row c s.heap p us) (e : us[m]? = some u)
    (q : ∀ g, Wlk c g j p (m + 1) → Heap.SameBut j s.heap g → Q u { s with heap := g }) : wpAny (model prog w) A (Builtin.SmallTypes.nextOf (.ref j)) Q E s := by
  cases c
  · exact wpAny_nextOf_list_item r k e q
  · exact RZ.nextOf_tuple_item r k e q
theorem step_end {c : Bool} {j p : Addr} {m : Nat} {us : Array Value} {Q : Value → Shared → Prop} (hh : A.handled = none) (r : Wlk c s.heap j p m) (k : Row c s.heap p us) (e : us[m]? = none)
    (q : ∀ g x, Heap.ExtBut j s.heap g → (∃ o, g.get? x = some o ∧ o.cls = .type "StopIteration") → E (.ref x) { s with heap := g }) : wpAny (model prog w) A (Builtin.SmallTypes.nextOf (.ref j)) Q E s := by
  cases c
  · exact wpAny_nextOf_list_end hh r k e q
  · exact RZ.nextOf_tuple_end hh r k e q
theorem mz_item {c d : Bool} {zz ti to j1 j2 ta tb : Addr} {m n : Nat} {us vs : Array Value} {u v a b : Value} {Q : Value → Shared → Prop} (D : ZipApart zz ti to j1 j2 ta tb)
    (fz : IsZip s.heap zz ti to .none) (fi : IsPair s.heap ti (.ref j1) (.ref j2)) (fo : IsPair s.heap to a b)
    (r1 : Wlk c s.heap j1 ta m) (r2 : Wlk d s.heap j2 tb n) (k1 : Row c s.heap ta us) (k2 : Row d s.heap tb vs) (eu : us[m]? = some u) (ev : vs[n]? = some v)
    (q : ∀ g, IsZip g zz ti to (rawInt s.heap.objs.size) → IsPair g to u v → Wlk c g j1 ta (m + 1) → Wlk d g j2 tb (n + 1) → IsPair g s.heap.objs.size u v → g.objs.size = s.heap.objs.size + 1 →
      (∀ x o, x ≠ zz → x ≠ to → x ≠ j1 → x ≠ j2 → s.heap.get? x = some o → g.get? x = some o) → Q (.ref s.heap.objs.size) { s with heap := g }) :
    wpAny (model prog w) A (Builtin.«zip.__next__» ⟨[.ref zz], []⟩) (fun fin s' => ∃ y, fin = .done (.ret y) ∧ Q y s') E s := by
  show wpAny _ _ (field (.ref zz) 2 >>= _) _ _ _
  refine wpAny_bind (wpAny_field fz rfl (x := .bool false) rfl ?_)
  show wpAny _ _ (field (.ref zz) 3 >>= _) _ _ _
  refine wpAny_bind (wpAny_field fz rfl (x := .ref ti) rfl ?_)
  refine wpAny_bind (wpAny_seqItems fi rfl ?_)
  show wpAny _ _ (Builtin.SmallTypes.ownedTupleIsFree (.ref zz) >>= _) _ _ _
  refine wpAny_bind ?_
  unfold Builtin.SmallTypes.ownedTupleIsFree
  refine wpAny_bind (wpAny_field fz rfl (x := .none) rfl (wpAny_pure ?_))
  simp only [if_true]
  refine wpAny_bind (wpAny_rule ?_)
  refine wpAny_bind (wpAny_field fz rfl (x := .ref to) rfl ?_)
  refine wpAny_bind (wpAny_setField_rec fz (by simp) fun g1 z1 b1 => ?_)
  replace z1 : IsZip g1 zz ti to .ellipsis := z1
  refine wpAny_bind ?_
  simp only [List.forIn_cons, List.forIn_nil, List.zipIdx_cons, List.zipIdx_nil]
  refine wpAny_bind (wpAny_bind (wpAny_onRaise (show wpAny _ _ (Builtin.SmallTypes.nextOf (.ref j1) >>= _) _ _ _ from ?_)))
  refine wpAny_bind (step_item (s := { s with heap := g1 }) (r1.ext b1.extBut D.i1z) (k1.ext b1.extBut D.l1z) eu fun g2 y1 b2 => wpAny_pure ?_)
  have o2 : IsPair g2 to a b := b2.extBut _ _ D.TOi1 (b1.extBut _ _ D.TOz fo)
  refine wpAny_bind (wpAny_seqItems o2 rfl (wpAny_bind (wpAny_updateSeq_pair o2 fun g3 o3 b3 => ?_)))
  replace o3 : IsPair g3 to u b := o3
  refine wpAny_bind (wpAny_letGo (wpAny_pure ?_))
  refine wpAny_bind (wpAny_bind (wpAny_onRaise (show wpAny _ _ (Builtin.SmallTypes.nextOf (.ref j2) >>= _) _ _ _ from ?_)))
  refine wpAny_bind (step_item (s := { s with heap := g3 }) (((r2.ext b1.extBut D.i2z).ext b2.extBut D.i12.symm).ext b3.extBut D.TOi2.symm) (((k2.ext b1.extBut D.l2z).ext b2.extBut D.l2i1).ext b3.extBut D.l2TO) ev fun g4 y2 b4 => wpAny_pure ?_)
  have o4 : IsPair g4 to u b := b4.extBut _ _ D.TOi2 o3
  refine wpAny_bind (wpAny_seqItems o4 rfl (wpAny_bind (wpAny_updateSeq_pair o4 fun g5 o5 b5 => ?_)))
  replace o5 : IsPair g5 to u v := o5
  refine wpAny_bind (wpAny_letGo (wpAny_pure (wpAny_pure (wpAny_bind (wpAny_seqItems o5 rfl (wpAny_bind (wpAny_newTuple ?_)))))))
  have sz : g5.objs.size = s.heap.objs.size := by rw [b5.1, b4.1, b3.1, b2.1, b1.1]
  have z5 : IsZip g5 zz ti to .ellipsis := b5.extBut _ _ D.TOz.symm (b4.extBut _ _ D.i2z.symm (b3.extBut _ _ D.TOz.symm (b2.extBut _ _ D.i1z.symm z1)))
  have kp : ∀ x o, x ≠ zz → x ≠ to → x ≠ j1 → x ≠ j2 → s.heap.get? x = some o → g5.get? x = some o := fun x o n1 n2 n3 n4 e =>
    b5.extBut _ _ n2 (b4.extBut _ _ n4 (b3.extBut _ _ n2 (b2.extBut _ _ n3 (b1.extBut _ _ n1 e))))
  have w1 : Wlk c g5 j1 ta (m + 1) := ((y1.ext b3.extBut D.TOi1.symm).ext b4.extBut D.i12).ext b5.extBut D.TOi1.symm
  have w2 : Wlk d g5 j2 tb (n + 1) := y2.ext b5.extBut D.TOi2.symm
  have lz : zz < g5.objs.size := Heap.lt_size z5
  show wpAny _ _ (Builtin.SmallTypes.ownedTupleHandOut (.ref zz) (.ref g5.objs.size) >>= _) _ _ _
  refine wpAny_bind ?_
  unfold Builtin.SmallTypes.ownedTupleHandOut
  have z6 : IsZip (g5.push { cls := .type "tuple", data := .seq #[u, v] }) zz ti to .ellipsis := Heap.get?_push_of_some _ z5
  refine wpAny_bind (wpAny_setField_rec z6 (by simp) fun g7 z7 b7 => ?_)
  replace z7 : IsZip g7 zz ti to (rawInt g5.objs.size) := z7
  refine wpAny_setField_rec z7 (by simp) fun g8 z8 b8 => ?_
  replace z8 : IsZip g8 zz ti to (rawInt g5.objs.size) := z8
  have up : ∀ x o, x ≠ zz → g5.get? x = some o → g8.get? x = some o := fun x o n1 e => b8.extBut _ _ n1 (b7.extBut _ _ n1 (Heap.get?_push_of_some _ e))
  have new : IsPair g8 g5.objs.size u v := b8.extBut _ _ (Nat.ne_of_gt lz) (b7.extBut _ _ (Nat.ne_of_gt lz) (Heap.get?_push_size _ rfl))
  have s8 : g8.objs.size = g5.objs.size + 1 := by rw [b8.1, b7.1, Heap.size_push]
  rw [sz] at z8 new s8
  refine wpAny_pure ⟨_, rfl, ?_⟩
  show Q (.ref g5.objs.size) _
  rw [sz]
  exact q g8 z8 (up _ _ D.TOz o5) (w1.at fun o e => up _ o D.i1z e) (w2.at fun o e => up _ o D.i2z e) new s8 fun x o n1 n2 n3 n4 e => up x o n1 (kp x o n1 n2 n3 n4 e)
theorem mz_end {c d : Bool} {zz ti to j1 j2 ta tb : Addr} {m n : Nat} {us vs : Array Value} {a b : Value} {Q : Fin → Shared → Prop} (hh : A.handled = none) (D : ZipApart zz ti to j1 j2 ta tb)
    (fz : IsZip s.heap zz ti to .none) (fi : IsPair s.heap ti (.ref j1) (.ref j2)) (fo : IsPair s.heap to a b)
    (r1 : Wlk c s.heap j1 ta m) (r2 : Wlk d s.heap j2 tb n) (k1 : Row c s.heap ta us) (k2 : Row d s.heap tb vs) (fin : us[m]? = none ∨ vs[n]? = none)
    (stop : ∀ g x, (∀ y o, y ≠ zz → y ≠ to → y ≠ j1 → y ≠ j2 → s.heap.get? y = some o → g.get? y = some o) → (∃ o, g.get? x = some o ∧ o.cls = .type "StopIteration") → E (.ref x) { s with heap := g }) :
    wpAny (model prog w) A (Builtin.«zip.__next__» ⟨[.ref zz], []⟩) Q E s := by
  show wpAny _ _ (field (.ref zz) 2 >>= _) _ _ _
  refine wpAny_bind (wpAny_field fz rfl (x := .bool false) rfl ?_)
  show wpAny _ _ (field (.ref zz) 3 >>= _) _ _ _
  refine wpAny_bind (wpAny_field fz rfl (x := .ref ti) rfl ?_)
  refine wpAny_bind (wpAny_seqItems fi rfl ?_)
  show wpAny _ _ (Builtin.SmallTypes.ownedTupleIsFree (.ref zz) >>= _) _ _ _
  refine wpAny_bind ?_
  unfold Builtin.SmallTypes.ownedTupleIsFree
  refine wpAny_bind (wpAny_field fz rfl (x := .none) rfl (wpAny_pure ?_))
  simp only [if_true]
  refine wpAny_bind (wpAny_rule ?_)
  refine wpAny_bind (wpAny_field fz rfl (x := .ref to) rfl ?_)
  refine wpAny_bind (wpAny_setField_rec fz (by simp) fun g1 z1 b1 => ?_)
  replace z1 : IsZip g1 zz ti to .ellipsis := z1
  refine wpAny_bind ?_
  simp only [List.forIn_cons, List.forIn_nil, List.zipIdx_cons, List.zipIdx_nil]
  refine wpAny_bind (wpAny_bind (wpAny_onRaise (show wpAny _ _ (Builtin.SmallTypes.nextOf (.ref j1) >>= _) _ _ _ from ?_)))
  cases hu : us[m]? with
  | none =>
    refine wpAny_bind (step_end (s := { s with heap := g1 }) hh (r1.ext b1.extBut D.i1z) (k1.ext b1.extBut D.l1z) hu fun g2 x b2 hx => ?_)
    obtain ⟨oe, e1, e2⟩ := hx
    have z2 : IsZip g2 zz ti to .ellipsis := b2 _ _ D.i1z.symm z1
    have ne : x ≠ zz := fun y => by subst y; rw [z2] at e1; cases e1; simp at e2
    exact wpAny_setField_rec z2 (by simp) fun g3 _ b3 => stop g3 x (fun y o n1 _ n3 _ e => b3.extBut _ _ n1 (b2 _ _ n3 (b1.extBut _ _ n1 e))) ⟨oe, b3.extBut _ _ ne e1, e2⟩
  | some u =>
    have hv : vs[n]? = none := fin.elim (fun z => by rw [hu] at z; cases z) id
    refine wpAny_bind (step_item (s := { s with heap := g1 }) (r1.ext b1.extBut D.i1z) (k1.ext b1.extBut D.l1z) hu fun g2 y1 b2 => wpAny_pure ?_)
    have o2 : IsPair g2 to a b := b2.extBut _ _ D.TOi1 (b1.extBut _ _ D.TOz fo)
    refine wpAny_bind (wpAny_seqItems o2 rfl (wpAny_bind (wpAny_updateSeq_pair o2 fun g3 o3 b3 => ?_)))
    refine wpAny_bind (wpAny_letGo (wpAny_pure ?_))
    refine wpAny_bind (wpAny_bind (wpAny_onRaise (show wpAny _ _ (Builtin.SmallTypes.nextOf (.ref j2) >>= _) _ _ _ from ?_)))
    refine wpAny_bind (step_end (s := { s with heap := g3 }) hh (((r2.ext b1.extBut D.i2z).ext b2.extBut D.i12.symm).ext b3.extBut D.TOi2.symm) (((k2.ext b1.extBut D.l2z).ext b2.extBut D.l2i1).ext b3.extBut D.l2TO) hv fun g4 x b4 hx => ?_)
    obtain ⟨oe, e1, e2⟩ := hx
    have z4 : IsZip g4 zz ti to .ellipsis := b4 _ _ D.i2z.symm (b3.extBut _ _ D.TOz.symm (b2.extBut _ _ D.i1z.symm z1))
    have ne : x ≠ zz := fun y => by subst y; rw [z4] at e1; cases e1; simp at e2
    exact wpAny_setField_rec z4 (by simp) fun g5 _ b5 => stop g5 x (fun y o n1 n2 n3 n4 e => b5.extBut _ _ n1 (b4 _ _ n4 (b3.extBut _ _ n2 (b2.extBut _ _ n3 (b1.extBut _ _ n1 e))))) ⟨oe, b5.extBut _ _ ne e1, e2⟩
theorem next_item {c d : Bool} {zz ti to j1 j2 ta tb : Addr} {m n : Nat} {us vs : Array Value} {u v a b : Value} {Q : Option Value → Shared → Prop} (D : ZipApart zz ti to j1 j2 ta tb)
    (fz : IsZip s.heap zz ti to .none) (fi : IsPair s.heap ti (.ref j1) (.ref j2)) (fo : IsPair s.heap to a b)
    (r1 : Wlk c s.heap j1 ta m) (r2 : Wlk d s.heap j2 tb n) (k1 : Row c s.heap ta us) (k2 : Row d s.heap tb vs) (eu : us[m]? = some u) (ev : vs[n]? = some v)
    (q : ∀ g, IsZip g zz ti to (rawInt s.heap.objs.size) → IsPair g to u v → Wlk c g j1 ta (m + 1) → Wlk d g j2 tb (n + 1) → IsPair g s.heap.objs.size u v → g.objs.size = s.heap.objs.size + 1 →
      (∀ x o, x ≠ zz → x ≠ to → x ≠ j1 → x ≠ j2 → s.heap.get? x = some o → g.get? x = some o) → Q (some (.ref s.heap.objs.size)) { s with heap := g }) : wpAny (model prog w) A (pyNext (.ref zz)) Q E s := by
  have ty : s.TypeIs (.ref zz) "zip" := ⟨_, fz, rfl⟩
  unfold pyNext
  exact wpAny_bind (wpAny_attempt (wpAny_callSpecial?_slot (name := Str.ofString "__next__") ty F.slot_zip_next (wpAny_call_entry F.slot_zip_next ty F.entry_zip_next
    (mz_item D fz fi fo r1 r2 k1 k2 eu ev fun g c1 c2 c3 c4 c5 c6 c7 => wpAny_pure (q g c1 c2 c3 c4 c5 c6 c7)) (F.args_zip_next_1 _))))
theorem next_end {c d : Bool} {zz ti to j1 j2 ta tb : Addr} {m n : Nat} {us vs : Array Value} {a b : Value} {Q : Option Value → Shared → Prop} (hh : A.handled = none) (D : ZipApart zz ti to j1 j2 ta tb)
    (fz : IsZip s.heap zz ti to .none) (fi : IsPair s.heap ti (.ref j1) (.ref j2)) (fo : IsPair s.heap to a b)
    (r1 : Wlk c s.heap j1 ta m) (r2 : Wlk d s.heap j2 tb n) (k1 : Row c s.heap ta us) (k2 : Row d s.heap tb vs) (fin : us[m]? = none ∨ vs[n]? = none)
    (q : ∀ g, (∀ y o, y ≠ zz → y ≠ to → y ≠ j1 → y ≠ j2 → s.heap.get? y = some o → g.get? y = some o) → Q none { s with heap := g }) : wpAny (model prog w) A (pyNext (.ref zz)) Q E s := by
  have ty : s.TypeIs (.ref zz) "zip" := ⟨_, fz, rfl⟩
  unfold pyNext
  refine wpAny_bind (wpAny_attempt (wpAny_callSpecial?_slot (name := Str.ofString "__next__") ty F.slot_zip_next (wpAny_call_entry F.slot_zip_next ty F.entry_zip_next
    (mz_end hh D fz fi fo r1 r2 k1 k2 fin fun g x kp hx => ?_) (F.args_zip_next_1 _))))
  obtain ⟨oe, e1, e2⟩ := hx
  refine wpAny_bind (wpAny_isInstance (T := "StopIteration") (b := true) ⟨oe, e1, e2⟩ isSubtype_stop ?_)
  exact wpAny_pure (q _ kp)
abbrev mh1 (g : Heap) (ta : Addr) : Heap := g.push { cls := .type "tuple_iterator", data := .fields #[.ref ta, .int 0 0] }
abbrev mh2 (g : Heap) (ta tb : Addr) : Heap := (mh1 g ta).push { cls := .type "list_iterator", data := .fields #[.ref tb, .int 0 0] }
abbrev mh3 (g : Heap) (ta tb : Addr) : Heap := (mh2 g ta tb).push { cls := .type "tuple", data := .seq #[.ref g.objs.size, .ref (mh1 g ta).objs.size] }
abbrev mh4 (g : Heap) (ta tb : Addr) : Heap := (mh3 g ta tb).push { cls := .type "tuple", data := .seq #[.none, .none] }
abbrev mh5 (g : Heap) (ta tb : Addr) : Heap := (mh4 g ta tb).push { cls := .type "zip", data := .fields #[.none, .bool false, .bool false, .ref (mh2 g ta tb).objs.size, .ref (mh3 g ta tb).objs.size] }
theorem new_zip (ta tb : Addr) (us vs : Array Value) :
    Meets (Builtin.«zip.__new__» ⟨[.type "zip", .ref ta, .ref tb], []⟩) (fun _ R s => s.heap.IsTuple ta us ∧ s.heap.IsList tb vs ∧
      R (.ok (.ret (.ref (mh4 s.heap ta tb).objs.size))) { s with heap := mh5 s.heap ta tb }) :=
  .of_wp fun prog w A R s q => by
    obtain ⟨hp, g, d, tk, os⟩ := s; obtain ⟨t1, t2, q⟩ := q
    have sub := sub_zip
    have u1 : Heap.IsTuple (Shared.heap ⟨hp, g, d, tk, os⟩) ta us := t1
    have u2 : Heap.IsList (Shared.heap ⟨hp.push { cls := .type "tuple_iterator", data := .fields #[.ref ta, .int 0 0] }, g, d, tk, os⟩) tb vs := Heap.IsList.push t2 _
    wp_walk using wpAny_pyIter_tuple u1, wpAny_pyIter_list u2
    exact ⟨_, rfl, q⟩
theorem call_zipM {ta tb : Addr} {us vs : Array Value} {Q : Value → Shared → Prop} (t1 : s.heap.IsTuple ta us) (t2 : s.heap.IsList tb vs)
    (q : ∀ g, IsZip g (s.heap.objs.size + 4) (s.heap.objs.size + 2) (s.heap.objs.size + 3) .none → IsPair g (s.heap.objs.size + 2) (.ref s.heap.objs.size) (.ref (s.heap.objs.size + 1)) →
      IsPair g (s.heap.objs.size + 3) .none .none → Wlk true g s.heap.objs.size ta 0 → Wlk false g (s.heap.objs.size + 1) tb 0 → g.objs.size = s.heap.objs.size + 5 →
      (∀ x o, s.heap.get? x = some o → g.get? x = some o) → Q (.ref (s.heap.objs.size + 4)) { s with heap := g }) : wpAny (model prog w) A (call (.type "zip") [.ref ta, .ref tb]) Q E s := by
  refine callType_new F.called_zip (by decide) (F.typeCall_zip_2 _ _) (F.newCall_zip_2 _ _) (fun obj => F.args_object_init_3 obj _ _) F.entry_zip_new (new_zip ta tb us vs) ⟨t1, t2, ?_⟩
  have y1 : (mh1 s.heap ta).objs.size = s.heap.objs.size + 1 := Heap.size_push ..
  have y2 : (mh2 s.heap ta tb).objs.size = s.heap.objs.size + 2 := by rw [Heap.size_push, y1]
  have y3 : (mh3 s.heap ta tb).objs.size = s.heap.objs.size + 3 := by rw [Heap.size_push, y2]
  have y4 : (mh4 s.heap ta tb).objs.size = s.heap.objs.size + 4 := by rw [Heap.size_push, y3]
  have y5 : (mh5 s.heap ta tb).objs.size = s.heap.objs.size + 5 := by rw [Heap.size_push, y4]
  have g5 : (mh5 s.heap ta tb).get? (mh4 s.heap ta tb).objs.size = some _ := Heap.get?_push_size _ rfl
  have g4 : (mh5 s.heap ta tb).get? (mh3 s.heap ta tb).objs.size = some _ := Heap.get?_push_of_some _ (Heap.get?_push_size _ rfl)
  have g3 : (mh5 s.heap ta tb).get? (mh2 s.heap ta tb).objs.size = some _ := Heap.get?_push_of_some _ (Heap.get?_push_of_some _ (Heap.get?_push_size _ rfl))
  have g2 : (mh5 s.heap ta tb).get? (mh1 s.heap ta).objs.size = some _ := Heap.get?_push_of_some _ (Heap.get?_push_of_some _ (Heap.get?_push_of_some _ (Heap.get?_push_size _ rfl)))
  have g1 : (mh5 s.heap ta tb).get? s.heap.objs.size = some _ := Heap.get?_push_of_some _ (Heap.get?_push_of_some _ (Heap.get?_push_of_some _ (Heap.get?_push_of_some _ (Heap.get?_push_size _ rfl))))
  show _ ∧ _
  rw [y2, y3, y4] at g5
  rw [y1, y2] at g3
  rw [y3] at g4
  rw [y1] at g2
  rw [y4]
  exact ⟨⟨_, g5, rfl⟩, q _ g5 g3 g4 ⟨_, g1, rfl, rfl⟩ ⟨_, g2, rfl, rfl⟩ y5 fun x o e => Heap.get?_push_of_some _ (Heap.get?_push_of_some _ (Heap.get?_push_of_some _ (Heap.get?_push_of_some _ (Heap.get?_push_of_some _ e))))⟩
end
/-- the tuple at a, the list at b, their items in new pairs -/
def Itm (K : PySem.W.Frag) (a b : Addr) : It :=
  ⟨fun i H => ∃ (xs ys : List V) (x y : V), SqT K H a xs ∧ SqL K H b ys ∧ xs[i]? = some x ∧ ys[i]? = some y,
    fun i H v H' => ∃ T x y, v = .ref T ∧ H T = none ∧ H' = upd H T (.tup [x, y]) ∧ (∀ xs, SqT K H a xs → xs[i]? = some x) ∧ ∀ ys, SqL K H b ys → ys[i]? = some y,
    fun i H => ∃ xs ys : List V, SqT K H a xs ∧ SqL K H b ys ∧ (xs.length ≤ i ∨ ys.length ≤ i)⟩
theorem turn_m {P : Program} {w : World} {K : PySem.W.Frag} {elts : List Expr} {kk : Nat} {tpos : Pos} {a b zz ti to j1 j2 : Addr} (D : ZipApart zz ti to j1 j2 a b) :
    Turn P w K (.Tuple elts kk tpos) (Itm K a b) [zz, ti, to, j1, j2] zz (fun i g => IsZip g zz ti to .none ∧ IsPair g ti (.ref j1) (.ref j2) ∧ (∃ x y, IsPair g to x y) ∧ Wlk true g j1 a i ∧ Wlk false g j2 b i) where
  mem := by simp
  obj := fun i g st c hc => by
    obtain ⟨q1, q2, ⟨x, y, q3⟩, q4, q5⟩ := st
    have e' : c = zz ∨ c = ti ∨ c = to ∨ c = j1 ∨ c = j2 := by simpa using hc
    rcases e' with q | q | q | q | q
    · rw [q]; exact ⟨_, q1, fun v z => nomatch z⟩
    · rw [q]; exact ⟨_, q2, fun v z => nomatch z⟩
    · rw [q]; exact ⟨_, q3, fun v z => nomatch z⟩
    · rw [q]; exact Wlk.there q4
    · rw [q]; exact Wlk.there q5
  keep := fun i g g' st k => by
    obtain ⟨q1, q2, ⟨x, y, q3⟩, q4, q5⟩ := st
    exact ⟨k zz (by simp) _ q1, k ti (by simp) _ q2, ⟨x, y, k to (by simp) _ q3⟩, q4.at fun o q => k j1 (by simp) o q, q5.at fun o q => k j2 (by simp) o q⟩
  item := by
    intro X hP hw hK hc i pins s σ H E I hf st hg
    subst hP hw hK
    obtain ⟨q1, q2, ⟨x0, y0, q3⟩, q4, q5⟩ := st
    obtain ⟨xs, ys, x, y, hqx, hqy, hx, hy⟩ := hg
    obtain ⟨us, rv, p, _⟩ := I.tuple hqx
    obtain ⟨vs, rv2, p2, _⟩ := I.list hqy
    obtain ⟨u, hu, ru⟩ := rv.get hx
    obtain ⟨v, hv, rv'⟩ := rv2.get hy
    have lz : zz < s.heap.objs.size := Heap.lt_size q1
    refine next_item (c := true) (d := false) D q1 q2 q3 q4 q5 p p2.isList (u := u) (v := v) (by simpa using hu) (by simpa using hv) fun g c1 c2 c3 c4 c5 c6 c7 => ?_
    refine ⟨_, rfl, wpAny_letOwnedTupleGo_zip (s := { s with heap := g }) c1 fun g' c8 sb => ?_⟩
    have c9 : g'.get? s.heap.objs.size = some { cls := .type "tuple", data := .seq #[u, v] } := (sb.2 _ (Nat.ne_of_gt lz)).trans c5
    have new : ObjOk X.prog X.w (upd H s.heap.objs.size (.tup [x, y])) g' s.heap.objs.size (.tup [x, y]) := ⟨by show 2 ≤ sizeLine; decide, [u, v], .cons ru (.cons rv' .nil), ⟨_, c9, rfl, _, rfl⟩⟩
    have I1 : Inv X pins σ (upd H s.heap.objs.size (.tup [x, y])) { s with heap := g' } :=
      I.turnedNew (t' := s.toks) (ch := [zz, ti, to, j1, j2]) (fun e o hb q => (sb.2 e (fun z => hb (by simp [z]))).trans (c7 e o (fun z => hb (by simp [z])) (fun z => hb (by simp [z])) (fun z => hb (by simp [z])) (fun z => hb (by simp [z])) q)) hf (Nat.le_refl _) new
    refine ⟨.ref s.heap.objs.size, _, I1, rfl, ⟨_, x, y, rfl, I.hok.fresh (Nat.le_refl _), rfl, fun l hl => by rw [I.tuple_inj hl hqx]; exact hx, fun l hl => by rw [I.list_inj hl hqy]; exact hy⟩, ⟨c8, ?_, ⟨u, v, ?_⟩, ?_, ?_⟩, fun e hcm => ?_⟩
    · exact (sb.2 _ D.TIz).trans (c7 _ _ D.TIz D.TITO D.TIi1 D.TIi2 q2)
    · exact (sb.2 _ D.TOz).trans c2
    · exact c3.at fun o q => (sb.2 _ D.i1z).trans q
    · exact c4.at fun o q => (sb.2 _ D.i2z).trans q
    · have hlt : e < s.heap.objs.size := by
        have e' : e = zz ∨ e = ti ∨ e = to ∨ e = j1 ∨ e = j2 := by simpa using hcm
        rcases e' with q | q | q | q | q
        · rw [q]; exact lz
        · rw [q]; exact Heap.lt_size q2
        · rw [q]; exact Heap.lt_size q3
        · rw [q]; exact Wlk.lt q4
        · rw [q]; exact Wlk.lt q5
      rw [upd_ne (Nat.ne_of_lt hlt)]
      exact (hf e hcm).1
  done := by
    intro X hP hw hK hc i pins s σ H E I hf st hg
    subst hP hw hK
    obtain ⟨q1, q2, ⟨x0, y0, q3⟩, q4, q5⟩ := st
    obtain ⟨xs, ys, hqx, hqy, hend⟩ := hg
    obtain ⟨us, rv, p, _⟩ := I.tuple hqx
    obtain ⟨vs, rv2, p2, _⟩ := I.list hqy
    have l1 := rv.length
    have l2 := rv2.length
    have fin : us.toArray[i]? = none ∨ vs.toArray[i]? = none := by
      rcases hend with q | q
      · exact .inl (by simp; omega)
      · exact .inr (by simp; omega)
    exact next_end (c := true) (d := false) (I.ok.hd hc) D q1 q2 q3 q4 q5 p p2.isList fin fun g kp => ⟨rfl, I.turnedL (t' := s.toks) (ch := [zz, ti, to, j1, j2]) (fun e o hb q =>
      kp e o (fun z => hb (by simp [z])) (fun z => hb (by simp [z])) (fun z => hb (by simp [z])) (fun z => hb (by simp [z])) q) hf⟩
  self := fun A i s Q E st h => wpAny_pyIter_zip st.1 h
def iZipM (K : PySem.W.Frag) (ta : TA) : TI := fun σ H R => ta σ H fun vs H1 => ∃ a b xs ys, vs = [.ref a, .ref b] ∧ SqT K H1 a xs ∧ SqL K H1 b ys ∧ R (Itm K a b) H1
theorem pi_zipM {X : Cx} {e e2 : Expr} {ta : TA} {p pos tpos : Pos} {elts : List Expr} {kk : Nat} (hg : Gl X "zip") (hm : X.mg "zip" = none) (ha : PA X [e, e2] ta)
    (hs : starEach [e, e2] X.env = (false, eval e X.env) :: starEach [e2] X.env := by rfl) (hpl : (backTo pos (starEach [e2] X.env)).any (·.1) = false := by rfl) :
    PI X (.Tuple elts kk tpos) (.Call (.Name "zip" p) [e, e2] [] pos) (iZipM X.K ta) := by
  refine ⟨fun pins s σ H R I h => ?_⟩
  refine Call_ (ld_blt I hg hm PyProof.Rows.boot_zip (PyProof.Rows.callWith_type1 (thn (ha.run pos pins s σ H _ I h) fun ws s1 ⟨vs, H1, I1, rw1, qw⟩ => ?_) hs hpl))
  obtain ⟨a, b, xs, ys, ex, hqx, hqy, q⟩ := qw
  subst ex
  cases rw1 with
  | cons r rr =>
    cases rr with
    | cons r' rr =>
      cases rr
      cases r
      cases r'
      obtain ⟨its, rv, p1, _⟩ := I1.tuple hqx
      obtain ⟨its2, rv2, p2, _⟩ := I1.list hqy
      obtain ⟨o1, ho1, _⟩ := id p1
      refine call_zipM (show s1.heap.IsTuple a its.toArray from p1) p2.isList fun g cz ci co r1 r2 cs kp => wpAny_pyIter_zip cz ?_
      have I2 : Inv X pins σ H1 { s1 with heap := g } := I1.kept (t' := s1.toks) kp
      refine ⟨s1.heap.objs.size + 4, [s1.heap.objs.size + 4, s1.heap.objs.size + 2, s1.heap.objs.size + 3, s1.heap.objs.size, s1.heap.objs.size + 1], _, _, H1, rfl, I2, turn_m (PySem.W.ktu_apart s1.heap.objs.size a b (Heap.lt_size ho1) p2.lt), ⟨cz, ci, ⟨_, _, co⟩, r1, r2⟩, fun x hcm => ?_, q⟩
      have hle : s1.heap.objs.size ≤ x := by
        simp only [List.mem_cons, List.not_mem_nil, or_false] at hcm
        rcases hcm with z | z | z | z | z <;> rw [z] <;> omega
      exact I1.fpOk hle (I1.hok.fresh hle)
/-- a loop over such a zip, both of one length -/
theorem for_zipM {K : PySem.W.Frag} {a b : Addr} {xs ys : List V} {g : TG} {tb : TS} {D : Ends} {σ : L2.St} {H : Hp} (hl : xs.length = ys.length) (Pv : Nat → L2.St → Hp → Prop) (h0 : Pv 0 σ H) (hq : ∀ i σ H, Pv i σ H → SqT K H a xs ∧ SqL K H b ys)
    (hs : ∀ (i : Nat) (x y : V) (T : Addr) (σ : L2.St) (H : Hp), xs[i]? = some x → ys[i]? = some y → Pv i σ H → H T = none → g (.ref T) σ (upd H T (.tup [x, y])) fun σ2 H2 => tb { D with nx := Pv (i + 1), ct := Pv (i + 1), bk := D.nx } σ2 H2) (hd : ∀ σ H, Pv xs.length σ H → D.nx σ H) :
    ∃ W : Nat → Nat → L2.St → Hp → Prop, (∃ m, W 0 m σ H) ∧ ∀ i m σ H, W i m σ H →
      ((Itm K a b).stop i H ∧ D.nx σ H) ∨ ((Itm K a b).go i H ∧ ∃ N : L2.St → Hp → Prop, (∀ σ' H', N σ' H' → ∃ m', m' < m ∧ W (i + 1) m' σ' H') ∧ ∀ v H', (Itm K a b).yld i H v H' → g v σ H' fun σ2 H2 => tb { D with nx := N, ct := N, bk := D.nx } σ2 H2) := by
  refine ⟨fun i m σ H => m = xs.length - i ∧ i ≤ xs.length ∧ Pv i σ H, ⟨xs.length, rfl, Nat.zero_le _, h0⟩, ?_⟩
  rintro i m σ H ⟨rfl, hi, p⟩
  obtain ⟨qx, qy⟩ := hq i σ H p
  rcases Nat.lt_or_ge i xs.length with lt | ge
  · refine .inr ⟨⟨xs, ys, xs[i], ys[i]'(by omega), qx, qy, List.getElem?_eq_getElem lt, List.getElem?_eq_getElem (by omega)⟩, Pv (i + 1), fun σ' H' p' => ⟨xs.length - (i + 1), by omega, rfl, lt, p'⟩, fun v H' hy => ?_⟩
    obtain ⟨T, x', y', rfl, hT, rfl, f1, f2⟩ := hy
    exact hs i x' y' T σ H (f1 xs qx) (f2 ys qy) p hT
  · have e : i = xs.length := by omega
    subst e
    exact .inl ⟨⟨xs, ys, qx, qy, .inl (Nat.le_refl _)⟩, hd σ H p⟩
end Mix

set_option Elab.async false
set_option linter.all false
set_option maxRecDepth 100000
set_option maxHeartbeats 4000000
/-! Part P: own rules: t[::-1] of a tuple, names += more of tuples, sorted of texts and of dicts, the order of texts. -/
namespace Toy
open PySem PySem.Spec PyProof.Rows L2
/-! ### t[::-1], t a tuple -/
section
variable {prog : Program} {w : World} {A : Around} {E : Value → Shared → Prop} {s : Shared}
theorem rev_adjust (n : Nat) : Builtin.Slice.sliceAdjust none none (-1) (n : Int) = ((n : Int) - 1, -1) := by
  first
    | rfl
    | simp [Builtin.Slice.sliceAdjust]
theorem rev_places (n : Nat) : Builtin.Slice.slicePlaces ((n : Int) - 1) (-1) (-1) = n := by
  unfold Builtin.Slice.slicePlaces
  by_cases h : n = 0
  · subst h
    decide
  · simp
    omega
theorem sliceApplied_rev {sl : Addr} {tk : Tok} {n : Nat} {Q : Int × Int × Nat → Shared → Prop} (hs : s.heap.IsSliceOf sl .none .none (.int (-1) tk))
    (h : Q ((n : Int) - 1, -1, n) s) : wpAny (model prog w) A (Builtin.Slice.sliceApplied (.ref sl) (pure (n : Int))) Q E s := by
  obtain ⟨os, hos, hcs, hds⟩ := id hs
  unfold Builtin.Slice.sliceApplied Builtin.Slice.sliceFields
  refine wpAny_bind (wpAny_bind (wpAny_field hos hds (x := .none) rfl (wpAny_bind (wpAny_field hos hds (x := .none) rfl (wpAny_bind (wpAny_field hos hds (x := .int (-1) tk) rfl (wpAny_pure ?_)))))))
  refine wpAny_bind (HT.slicePart_ (.int (-1) tk) ?_)
  show wpAny _ _ (if ((-1 : Int) == 0) = true then _ else _) _ _ s
  rw [if_neg (by decide)]
  refine wpAny_bind (HT.slicePart_ .none (wpAny_bind (HT.slicePart_ .none (wpAny_bind (wpAny_pure ?_)))))
  show wpAny _ _ (match Builtin.Slice.sliceAdjust none none (-1) (n : Int) with | (lo, hi) => pure (lo, (-1 : Int), Builtin.Slice.slicePlaces lo hi (-1))) _ _ s
  rw [rev_adjust n]
  show wpAny _ _ (pure ((n : Int) - 1, (-1 : Int), Builtin.Slice.slicePlaces ((n : Int) - 1) (-1) (-1))) _ _ s
  rw [rev_places]
  exact wpAny_pure h
theorem fm_congr {α β : Type} {f g : α → Option β} : ∀ {l : List α}, (∀ x ∈ l, f x = g x) → l.filterMap f = l.filterMap g
  | [], _ => rfl
  | a :: l, h => by
    rw [List.filterMap_cons, List.filterMap_cons, h a (List.mem_cons_self ..), fm_congr fun x hx => h x (List.mem_cons_of_mem _ hx)]
theorem pick_rev (xs : Array Value) : ((List.range xs.size).filterMap fun (m : Nat) => xs[((xs.size : Int) - 1 + (m : Int) * -1).toNat]?).toArray = xs.toList.reverse.toArray := by
  congr 1
  have e1 : ((List.range xs.size).filterMap fun (m : Nat) => xs[((xs.size : Int) - 1 + (m : Int) * -1).toNat]?) = ((List.range xs.size).map fun k => xs.size - 1 - k).filterMap (xs[·]?) := by
    rw [List.filterMap_map]
    refine fm_congr fun m hm => ?_
    have hm' := List.mem_range.mp hm
    show xs[((xs.size : Int) - 1 + (m : Int) * -1).toNat]? = xs[xs.size - 1 - m]?
    rw [show ((xs.size : Int) - 1 + (m : Int) * -1).toNat = xs.size - 1 - m by omega]
  rw [e1, PySem.W.krv_range, List.filterMap_reverse, PySem.W.krv_all]
theorem getItem_tuple_rev {t sl : Addr} {items : Array Value} {tk : Tok} {Q : Value → Shared → Prop} (ht : IsTup s.heap t items) (hs : s.heap.IsSliceOf sl .none .none (.int (-1) tk))
    (h : Q (.ref s.heap.objs.size) { s with heap := s.heap.push { cls := .type "tuple", data := .seq items.toList.reverse.toArray } }) (hsz : items.size ≤ sizeLine) : wpAny (model prog w) A (getItem (.ref t) (.ref sl)) Q E s := by
  have htake : sizeOk (.seq items.toList.reverse.toArray) := by
    show items.toList.reverse.toArray.size ≤ sizeLine
    rw [List.size_toArray, List.length_reverse, Array.length_toList]
    exact hsz
  obtain ⟨os, hos, hcs, hds⟩ := id hs
  have hTs : s.TypeIs (.ref sl) "slice" := ⟨os, hos, hcs⟩
  unfold getItem
  try with_reducible refine wpAny_holding ?_
  first | refine wpAny_bind (wpAny_pure ?_) | skip
  refine wpAny_bind (wpAny_sequenceKey ht.typeIs (by decide) ?_)
  refine wpAny_bind (wpAny_callSpecial?_slot (name := Str.ofString "__getitem__") ht.typeIs PyProof.Rows.slot_tuple_getitem
    (wpAny_call_entry PyProof.Rows.slot_tuple_getitem ht.typeIs entry_tuple_getitem ?_ (args_tuple_getitem _ _)))
  show wpAny _ _ (Builtin.Tuple.tupleItemsOf (.ref t) >>= _) _ _ s
  refine wpAny_bind (tupleItemsOf_ ht ?_)
  refine wpAny_bind (wpAny_typeOf hTs ?_)
  rw [if_pos (by decide)]
  refine wpAny_bind (sliceApplied_rev hs ?_)
  have hno : ¬ ((((items.size : Int) - 1) == 0 && (-1 : Int) == 1 && items.size == items.size) = true) := by
    intro q
    rw [Bool.and_eq_true, Bool.and_eq_true] at q
    exact absurd q.1.2 (by decide)
  show wpAny _ _ (if (((items.size : Int) - 1) == 0 && (-1 : Int) == 1 && items.size == items.size) = true then _ else _) _ _ s
  rw [if_neg hno, pick_rev]
  first
    | exact wpAny_bind (m := Builtin.Tuple.tupleExact _) (wpAny_newObj_type (wpAny_pure ⟨_, rfl, wpAny_pure h⟩) htake)
    | exact wpAny_bind (m := Builtin.Tuple.tupleExact _) (wpAny_newObj_type (wpAny_bind (wpAny_pure (wpAny_pure ⟨_, rfl, wpAny_pure h⟩))) htake)
    | exact wpAny_bind (wpAny_bind (m := Builtin.Tuple.tupleExact _) (wpAny_newObj_type (wpAny_pure (wpAny_pure ⟨_, rfl, wpAny_pure h⟩)) htake))
    | exact wpAny_bind (wpAny_bind (m := Builtin.Tuple.tupleExact _) (wpAny_newObj_type (wpAny_pure ⟨_, rfl, wpAny_pure h⟩) htake))
end
section
variable {X : Cx} {e st : Expr} {te ts : TE} {p2 pos : Pos}
/-- t[::st], where st is -1 and t a tuple -/
def tRev (K : PySem.W.Frag) (te ts : TE) : TE := fun σ H Q => te σ H fun x H1 => ts σ H1 fun k H2 => k = .int (-1) ∧ ∃ a xs, x = .ref a ∧ SqT K H2 a xs ∧ ∀ p, H2 p = none → Q (.ref p) (upd H2 p (.tup xs.reverse))
theorem pe_rev {ops : Addr → Addr → List Value} (he : PE X e te) (hst : PE X st ts) (hops : ∀ a b : Addr, subscripted (.Slice none none (some st) p2) false (.ref a) (.ref b) = operate (ops a b) (getItem (.ref a) (.ref b))) : PE X (.Subscript e (.Slice none none (some st) p2) pos) (tRev X.K te ts) := by
  refine ⟨fun pins s σ H Q I h => ?_⟩
  refine Subscript_ (thn (he.run pins s σ H _ I h) fun v s1 ⟨x, H1, I1, r1, q1⟩ => ?_)
  refine wpAny_Slice ?_
  rw [evalPart_none]
  refine wpAny_pure ?_
  refine wpAny_pure ?_
  rw [evalPart_some]
  refine thn (hst.run pins s1 σ H1 _ I1 q1) fun vk s3 ⟨k, H3, I3, rk, ek, a, xs, ex, hx, q⟩ => ?_
  subst ek ex
  obtain ⟨tk, rfl⟩ := rk
  cases r1
  have I4 : Inv X pins σ H3 { s3 with heap := s3.heap.push { cls := .type "slice", data := .fields #[.none, .none, .int (-1) tk] } } := I3.kept (t' := s3.toks) fun b ob q => Heap.get?_push_of_some _ q
  obtain ⟨its, r, ht, hz⟩ := I4.tuple hx
  have hlen : its.toArray.size = xs.length := by rw [List.size_toArray]; exact r.length.symm
  show wpAny (model X.prog X.w) X.A (subscriptTail e (.Slice none none (some st) p2) (.ref a) (.ref s3.heap.objs.size)) (EP X pins σ Q) X.xe { s3 with heap := s3.heap.push { cls := .type "slice", data := .fields #[.none, .none, .int (-1) tk] } }
  refine tail_any (ops := ops a s3.heap.objs.size) ht.typeIs PyProof.Rows.slot_tuple_getitem.lookup (getItem_tuple_rev ht (Heap.IsSliceOf.new ..) ?_ (by rw [hlen]; exact hz)) (hops _ _)
  refine ⟨.ref _, _, I4.laid (t' := s3.toks) (o := .tup xs.reverse) (fun b ob q => Heap.get?_push_of_some _ q) (Nat.le_refl _) ?_, rfl, q _ (I4.hok.fresh (Nat.le_refl _))⟩
  exact ⟨by rw [List.length_reverse]; exact hz, _, r.reverse, IsTup.new _ _⟩
end
example {X : Cx} {e : Expr} {te : TE} {p1 p2 p3 p4 : Pos} (he : PE X e te) : ∃ t, PE X (.Subscript e (.Slice none none (some (.UnaryOp .USub (.Constant (.int 1) 0 p1) p2)) p3) p4) t := ⟨_, pe_rev he (pe_un un_neg pe_int) (fun _ _ => by with_unfolding_all rfl)⟩

/-! ### t += u -/
theorem no_iadd_tup : typeLookup (.type "tuple") (dunderI "add") = pure none := by rw [typeLookup_type, builtinLookup_eq_fast] <;> kernel_rfl
section
variable {prog : Program} {w : World} {A : Around} {E : Value → Shared → Prop} {s : Shared}
theorem iadd_tup {t b : Addr} {us vs : List Value} {Q : Value → Shared → Prop} (p1 : IsTup s.heap t us.toArray) (p2 : IsTup s.heap b vs.toArray) (q0 : us = [] → Q (.ref b) s) (q1 : us ≠ [] → vs = [] → Q (.ref t) s)
    (q2 : us ≠ [] → vs ≠ [] → Q (.ref s.heap.objs.size) { s with heap := s.heap.push { cls := .type "tuple", data := .seq (us ++ vs).toArray } }) (sz : us.length + vs.length ≤ sizeLine) : wpAny (model prog w) A (inplaceOp .Add (.ref t) (.ref b)) Q E s := by
  obtain ⟨⟨cl1, d1, dt1, sl1⟩, o1, c1, n1, e1⟩ := id p1
  obtain ⟨⟨cl2, d2, dt2, sl2⟩, o2, c2, n2, e2⟩ := id p2
  simp only at c1 c2 e1 e2
  subst c1 e1 c2 e2
  have ty1 : s.TypeIs (.ref t) "tuple" := ⟨_, o1, rfl⟩
  refine PySem.wpAny_inplaceOp_concat ty1 ⟨_, o2, rfl⟩ no_iadd_tup noFill_tuple_add seq_tuple_add ?_
  by_cases h1 : us = []
  · exact call_meets PySem.F.slot_tuple_add ty1 PySem.F.entry_tuple_add (PySem.F.args_tuple_add_2 _ _) (tuple_addW0 t b us.toArray vs.toArray n1 n2 d1 d2 sl1 sl2 (by simp [h1])) ⟨o1, o2, q0 h1⟩
  · by_cases h2 : vs = []
    · exact call_meets PySem.F.slot_tuple_add ty1 PySem.F.entry_tuple_add (PySem.F.args_tuple_add_2 _ _) (tuple_addW1 t b us.toArray vs.toArray n1 n2 d1 d2 sl1 sl2 (by simpa using h1) (by simp [h2])) ⟨o1, o2, q1 h1 h2⟩
    · refine call_meets PySem.F.slot_tuple_add ty1 PySem.F.entry_tuple_add (PySem.F.args_tuple_add_2 _ _) (tuple_addW2 t b us.toArray vs.toArray n1 n2 d1 d2 sl1 sl2 (by simpa using h1) (by simpa using h2) (by rw [List.size_toArray, List.size_toArray]; exact sz)) ⟨o1, o2, ?_⟩
      rw [show us.toArray ++ vs.toArray = (us ++ vs).toArray by simp]
      exact q2 h1 h2
end
theorem ip_catA {X : Cx} : PIp X .Add (rCatA X.K) := by
  intro pins s σ H x y v u Q I rx ry h
  obtain ⟨a, b, xs, ys, rfl, rfl, ha, hb, hz, q0, q1, q2⟩ := h
  cases rx
  cases ry
  obtain ⟨its, r1, p1, _⟩ := I.tuple ha
  obtain ⟨its2, r2, p2, _⟩ := I.tuple hb
  refine iadd_tup p1 p2 (fun z => ⟨.ref b, H, I, rfl, q0 (r1.nil_iff.mp z)⟩) (fun z1 z2 => ⟨.ref a, H, I, rfl, q1 (fun e => z1 (r1.nil_iff.mpr e)) (r2.nil_iff.mp z2)⟩) (fun z1 z2 => ?_) (by rw [← r1.length, ← r2.length]; exact hz)
  refine ⟨.ref s.heap.objs.size, _, I.laid (t' := s.toks) (o := .tup (xs ++ ys)) (fun b ob q => Heap.get?_push_of_some _ q) (Nat.le_refl _) ?_, rfl, q2 (fun e => z1 (r1.nil_iff.mpr e)) (fun e => z2 (r2.nil_iff.mpr e)) _ (I.hok.fresh (Nat.le_refl _))⟩
  exact ⟨by rw [List.length_append]; exact hz, _, r1.append r2, IsTup.new _ _⟩

/-! ### sorted(d), d a dict with any number of texts as keys -/
theorem sorted_dAny {X : Cx} (hcalm : X.calm = true) : CallR X (.builtin "sorted") (fun xs H Q => ∃ (a : Addr) (kvs : List (Key × V)) (ks : List Str), xs = [.ref a] ∧ Rd H a (.dK kvs) ∧ kvs.map (·.1) = ks.map Sum.inr ∧
    ∀ ys p, ys.Perm ks → sortedS ys = true → H p = none → Q (.ref p) (upd H p (.lst (ys.map V.str)))) := by
  intro pins s σ H xs us Q I r q
  obtain ⟨a, kvs, ks, ex, hd, hks, q⟩ := q
  subst ex
  obtain ⟨u, eu, rx⟩ := vals1 r
  subst eu
  cases rx
  obtain ⟨z, lo, vs, rel, dd⟩ := dk_rd I.hok hd
  obtain ⟨ep, dat⟩ := dd.dictAt
  have keys : vs.map (·.1) = ks.map Sum.inr := rel.keys.symm.trans hks
  have len : vs.length = ks.length := by
    have e := congrArg List.length keys
    rwa [List.length_map, List.length_map] at e
  have fits : vs.length ≤ sizeLine := by rw [← rel.length]; exact z
  refine Calls.call_function_entry kind_sorted plain_sorted entry_sorted (args_sorted1 _) ?_
  unfold Builtin.«sorted»
  refine wpAny_bind (m := checkCount "sorted" 1 1 _) (wpAny_pure ?_)
  refine wpAny_bind (PySem.W.kdu_collect (A := X.A.in1) (PySem.W.kdl_dict (knd := mixKind X.prog X.w) (kvs := vs) (ep := ep) lo) (I.ok.hd hcalm) dat fits fun g tk acc kp hacc => ?_)
  have alen : acc.toList.length = ks.length := by rw [Array.length_toList, hacc.1, len]
  have afit : acc.toList.length ≤ sizeLine := by omega
  have aS : StrsAre acc.toList ks := strs_at alen fun j v e => by
    obtain ⟨k, x, e1, e2⟩ := hacc.2 j v (by rw [← Array.getElem?_toList]; exact e)
    have e3 : (vs.map (·.1))[j]? = some k := by rw [List.getElem?_map, e1] <;> rfl
    rw [keys, List.getElem?_map] at e3
    cases e4 : ks[j]? with
    | none => rw [e4] at e3; cases e3
    | some y =>
      rw [e4] at e3
      obtain rfl : Sum.inr y = k := Option.some.inj e3
      obtain ⟨t, ev⟩ := Value.isStrOf_shape (x := y) (v := v) e2
      exact ⟨y, t, rfl, ev⟩
  have I1 : Inv X pins σ H { s with heap := g, toks := tk } := I.kept kp
  refine wpAny_bind (wpAny_newList ?_ afit)
  have at1 : (g.push (seqObj "list" acc.toList.toArray 0)).get? g.objs.size = some (seqObj "list" acc.toList.toArray 0) := Heap.get?_push_size _ rfl
  show wpAny _ _ _ _ _ { s with heap := g.push (seqObj "list" acc.toList.toArray 0), toks := tk }
  refine wpAny_bind (wpAny_holding (wpAny_call_entry slot_list_sort ⟨_, at1, rfl⟩ entry_list_sort
    (list_sort_treeKAny strKind_oneLt (s := { s with heap := g.push (seqObj "list" acc.toList.toArray 0), toks := tk }) at1 aS.keysOf (fun v₁ v₂ rest e => keyKind_strs (by rw [← e]; exact aS)) afit fun st' hp hs => ⟨_, rfl, ?_⟩)
    (args_list_sort _)))
  obtain ⟨ys, g1, g2, g3⟩ := sorted_out_str aS hp hs
  obtain ⟨e', he'⟩ := sortedHeap_at (vs := acc.toList) (out := (arrOf st').map (·.2)) at1
  have ylen : (ys.map V.str).length ≤ sizeLine := by rw [List.length_map, g2.length_eq]; omega
  refine wpAny_pure ⟨_, rfl, .ref g.objs.size, upd H g.objs.size (.lst (ys.map V.str)), I1.laid (t' := tk) (fun b u e => ?_) (Nat.le_refl _)
    (show ObjOk X.prog X.w _ _ _ (.lst (ys.map V.str)) from ⟨ylen, ((arrOf st').map (·.2)).toList, e', vals_of_strs g1, by rw [Array.toArray_toList]; exact he'⟩), rfl, q ys _ g2 g3 (I1.hok.fresh (Nat.le_refl _))⟩
  have hb : b < g.objs.size := Heap.lt_size e
  rw [sortedHeap_old (Nat.ne_of_lt hb) (by rw [size_push']; exact Nat.lt_succ_of_lt hb)]
  exact Heap.get?_push_of_some _ e

/-! ### sorted(l) -/
def rSortedSA (K : PySem.W.Frag) : List V → Hp → VK → Prop := fun vs H Q => ∃ (a : Addr) (xs : List Str), vs = [V.ref a] ∧ SqL K H a (xs.map V.str) ∧
  ∀ (ys : List Str) (p : Addr), ys.Perm xs → sortedS ys = true → H p = none → Q (.ref p) (upd H p (.lst (ys.map V.str)))
theorem cr_sortedSA {X : Cx} : CallR X (.builtin "sorted") (rSortedSA X.K) := by
  intro pins s σ H vs us Q I r h
  obtain ⟨a, xs, rfl, hs, q⟩ := h
  obtain ⟨its, rv, hl, hz⟩ := I.list hs
  rw [Vals.ref1 r]
  have hlen0 := rv.length
  rw [List.length_map] at hlen0
  rw [List.length_map] at hz
  refine PyProof.Rows.sorted_strsAny hl.isList rv.strs (by rw [← hlen0]; exact hz) fun out ys h1 h2 h3 => ?_
  obtain ⟨ep, he'⟩ := PyProof.Rows.sortedAll_at s.heap its out
  have hlen : (ys.map V.str).length ≤ sizeLine := by rw [List.length_map, h2.length_eq]; exact hz
  exact ⟨.ref _, upd H (s.heap.objs.size + 1) (.lst (ys.map V.str)), I.laid (t' := s.toks) (fun _ _ => PyProof.Rows.sortedAll_old) (Nat.le_succ _) ⟨hlen, out.toList, ep, vals_of_strs h1, he'⟩, rfl, q ys _ h2 h3 (I.hok.fresh (Nat.le_succ _))⟩
/-! ### the order of texts -/
def lts (a b : Str) : Bool := ltCps a.cps.toList b.cps.toList
theorem cps_asym : ∀ a b : List Nat, ltCps a b = true → ltCps b a = false
  | [], [], h => by cases h
  | [], _ :: _, _ => rfl
  | _ :: _, [], h => by cases h
  | a :: r, b :: t, h => by
    simp only [ltCps, Bool.or_eq_true, Bool.and_eq_true, decide_eq_true_eq, beq_iff_eq, Bool.or_eq_false_iff, Bool.and_eq_false_iff, decide_eq_false_iff_not, beq_eq_false_iff_ne] at h ⊢
    rcases h with h | ⟨h1, h2⟩
    · exact ⟨by omega, .inl (by omega)⟩
    · exact ⟨by omega, .inr (cps_asym r t h2)⟩
theorem cps_tri : ∀ a b : List Nat, ltCps a b = false → ltCps b a = false → a = b
  | [], [], _, _ => rfl
  | [], _ :: _, h, _ => by cases h
  | _ :: _, [], _, h => by cases h
  | a :: r, b :: t, h, k => by
    simp only [ltCps, Bool.or_eq_false_iff, Bool.and_eq_false_iff, decide_eq_false_iff_not, beq_eq_false_iff_ne] at h k
    have e : a = b := by omega
    subst e
    have h2 : ltCps r t = false := h.2.elim (fun z => absurd rfl z) id
    have k2 : ltCps t r = false := k.2.elim (fun z => absurd rfl z) id
    rw [cps_tri r t h2 k2]
/-- not above, twice -/
theorem cps_trans : ∀ a b c : List Nat, ltCps b a = false → ltCps c b = false → ltCps c a = false
  | [], _, c, _, _ => by cases c <;> rfl
  | _ :: _, [], _, h, _ => by cases h
  | _ :: _, _ :: _, [], _, h => by cases h
  | a :: r, b :: t, c :: u, h, k => by
    simp only [ltCps, Bool.or_eq_false_iff, Bool.and_eq_false_iff, decide_eq_false_iff_not, beq_eq_false_iff_ne] at h k ⊢
    refine ⟨by omega, ?_⟩
    by_cases e : c = a
    · subst e
      have e2 : b = c := by omega
      subst e2
      exact .inr (cps_trans r t u (h.2.elim (fun z => absurd rfl z) id) (k.2.elim (fun z => absurd rfl z) id))
    · exact .inl e
theorem lts_asym {a b : Str} (h : lts a b = true) : lts b a = false := cps_asym _ _ h
theorem str_cps {a b : Str} (h : a.cps.toList = b.cps.toList) : a = b := by
  cases a with
  | mk x =>
    cases b with
    | mk y =>
      have e : x = y := Array.ext' h
      rw [e]
theorem lts_tri {a b : Str} (h : lts a b = false) (k : lts b a = false) : a = b := str_cps (cps_tri _ _ h k)
theorem lts_trans {a b c : Str} (h : lts b a = false) (k : lts c b = false) : lts c a = false := cps_trans _ _ _ h k
/-- rising, no two of them the same -/
def Up (l : List Str) : Prop := l.Pairwise fun a b => lts a b = true
/-- rising, some of them the same -/
def Rise (l : List Str) : Prop := l.Pairwise fun a b => lts b a = false
theorem rises : ∀ (l : List Str) (p : Str), risingS p l = true → Rise (p :: l)
  | [], p, _ => List.pairwise_singleton _ _
  | x :: r, p, h => by
    have h : (!ltCps x.cps.toList p.cps.toList && risingS x r) = true := h
    rw [Bool.and_eq_true, Bool.not_eq_true'] at h
    have ih := rises r x h.2
    refine List.pairwise_cons.mpr ⟨fun y hy => ?_, ih⟩
    rcases List.mem_cons.mp hy with e | e
    · rw [e]; exact h.1
    · exact lts_trans (a := p) (b := x) h.1 ((List.pairwise_cons.mp ih).1 y e)
theorem rise_of : ∀ {l : List Str}, sortedS l = true → Rise l
  | [], _ => List.Pairwise.nil
  | x :: r, h => rises r x h
theorem up_of {l : List Str} (h : Rise l) (n : l.Nodup) : Up l := by
  have z : l.Pairwise fun a b => lts b a = false ∧ a ≠ b := List.Pairwise.and h n
  exact z.imp fun {a b} ⟨h1, h2⟩ => by
    cases e : lts a b with
    | true => rfl
    | false => exact (h2 (lts_tri e h1)).elim
/-- two rising rows with the same members are the same -/
theorem up_eq : ∀ {l m : List Str}, Up l → Up m → (∀ s, s ∈ l ↔ s ∈ m) → l = m
  | [], [], _, _, _ => rfl
  | [], y :: m, _, _, h => absurd ((h y).mpr (List.mem_cons_self ..)) List.not_mem_nil
  | x :: l, [], _, _, h => absurd ((h x).mp (List.mem_cons_self ..)) List.not_mem_nil
  | x :: l, y :: m, hl, hm, h => by
    have hl2 := List.pairwise_cons.mp hl
    have hm2 := List.pairwise_cons.mp hm
    have e : x = y := by
      rcases List.mem_cons.mp ((h x).mp (List.mem_cons_self ..)) with e | e
      · exact e
      · rcases List.mem_cons.mp ((h y).mpr (List.mem_cons_self ..)) with e2 | e2
        · exact e2.symm
        · have z1 := hm2.1 x e
          have z2 := hl2.1 y e2
          rw [lts_asym z1] at z2
          cases z2
    subst e
    have nx1 : x ∉ l := fun hx => by
      have z := hl2.1 x hx
      rw [lts_asym z] at z
      cases z
    have nx2 : x ∉ m := fun hx => by
      have z := hm2.1 x hx
      rw [lts_asym z] at z
      cases z
    rw [up_eq hl2.2 hm2.2 fun s => ?_]
    constructor
    · intro hs
      rcases List.mem_cons.mp ((h s).mp (List.mem_cons_of_mem _ hs)) with e | e
      · rw [e] at hs; exact (nx1 hs).elim
      · exact e
    · intro hs
      rcases List.mem_cons.mp ((h s).mpr (List.mem_cons_of_mem _ hs)) with e | e
      · rw [e] at hs; exact (nx2 hs).elim
      · exact e
/-- a row without repetitions in another one is not longer -/
theorem nodup_len : ∀ {l m : List Str}, l.Nodup → (∀ s ∈ l, s ∈ m) → l.length ≤ m.length
  | [], m, _, _ => Nat.zero_le _
  | x :: l, m, n, h => by
    have n2 := List.nodup_cons.mp n
    have hx := h x (List.mem_cons_self ..)
    have z := nodup_len (m := m.erase x) n2.2 fun s hs => by
      have ne : s ≠ x := fun e => n2.1 (e ▸ hs)
      exact (List.mem_erase_of_ne ne).mpr (h s (List.mem_cons_of_mem _ hs))
    rw [List.length_erase_of_mem hx] at z
    have := List.length_pos_of_mem hx
    rw [List.length_cons]
    omega
end Toy

set_option Elab.async false
set_option linter.all false
set_option maxRecDepth 100000
set_option maxHeartbeats 4000000
/-! Part Q: the names that a term binds itself. -/
namespace Toy
open PySem L2
open PyProof.Rows (envOfC)
/-- the names, a row for each place that binds -/
def ownW (w : Str) (r : List Dd) : List (List Str) :=
  if w = "lam" then [[strOf (arg 0 r)]] else if w = "seq" then [[strOf (arg 0 r)]]
  else if w = "let" then [(tl (arg 0 r)).map fun q => strOf (nth 0 q)]
  else if w = "case" then (tl (arg 1 r)).map (fun q => strsOf (nth 1 q)) ++ dfltNs (arg 2 r)
  else if w = "pick" then (tl (arg 1 r)).map (fun _ => []) ++ dfltNs (arg 2 r) else []
def ownD : Dd → List (List Str)
  | .tup (.str w :: r) => ownW w r
  | _ => []
theorem ow_lam (r : List Dd) : ownW "lam" r = [[strOf (arg 0 r)]] := by
  unfold ownW
  rw [if_pos rfl]
theorem ow_seq (r : List Dd) : ownW "seq" r = [[strOf (arg 0 r)]] := by
  unfold ownW
  rw [if_neg (by decide +kernel), if_pos rfl]
theorem ow_let (r : List Dd) : ownW "let" r = [(tl (arg 0 r)).map fun q => strOf (nth 0 q)] := by
  unfold ownW
  rw [if_neg (by decide +kernel), if_neg (by decide +kernel), if_pos rfl]
theorem ow_case (r : List Dd) : ownW "case" r = (tl (arg 1 r)).map (fun q => strsOf (nth 1 q)) ++ dfltNs (arg 2 r) := by
  unfold ownW
  rw [if_neg (by decide +kernel), if_neg (by decide +kernel), if_neg (by decide +kernel), if_pos rfl]
theorem ow_pick (r : List Dd) : ownW "pick" r = (tl (arg 1 r)).map (fun _ => []) ++ dfltNs (arg 2 r) := by
  unfold ownW
  rw [if_neg (by decide +kernel), if_neg (by decide +kernel), if_neg (by decide +kernel), if_neg (by decide +kernel), if_pos rfl]
theorem ow_other {w : Str} (r : List Dd) (h : w ∉ [("lam" : Str), "seq", "let", "case", "pick"]) : ownW w r = [] := by
  simp only [List.mem_cons, List.not_mem_nil, or_false, not_or] at h
  unfold ownW
  rw [if_neg h.1, if_neg h.2.1, if_neg h.2.2.1, if_neg h.2.2.2.1, if_neg h.2.2.2.2]
/-- all of them, in a row -/
def ownN (k : Dd) : List Str := (ownD k).flatten
theorem ats_strs_eq {B : Addr → Prop} {H : Hp} : ∀ {zs : List Str} {xs : List V}, Dd.Ats B H (zs.map Dd.str) xs → xs = zs.map V.str ∧ ∀ z ∈ zs, z.length ≤ 1000
  | [], _, h => ⟨h, fun z hz => by cases hz⟩
  | z :: zs, _, ⟨x, ys, e, ⟨h1, h2⟩, hs⟩ => by
    obtain ⟨g1, g2⟩ := ats_strs_eq hs
    subst e h1 g1
    exact ⟨rfl, fun y hy => (List.mem_cons.mp hy).elim (fun e => by rw [e]; exact h2) (g2 y)⟩
theorem nameT_at {B : Addr → Prop} {H : Hp} {zs : List Str} {v : V} (h : (nameT zs).At B H v) : ∃ a, v = .ref a ∧ H a = some (.tup (zs.map V.str)) ∧ ∀ z ∈ zs, z.length ≤ 1000 := by
  obtain ⟨a, xs, rfl, ha, hs⟩ := h
  obtain ⟨rfl, hz⟩ := ats_strs_eq hs
  exact ⟨a, rfl, ha, hz⟩
theorem at_nameT {B : Addr → Prop} {H : Hp} {zs : List Str} {a : Addr} (h : H a = some (.tup (zs.map V.str))) (hz : ∀ z ∈ zs, z.length ≤ 1000) : (nameT zs).At B H (.ref a) := at_tup h (ats_strs hz)
theorem nameT_to {B C : Addr → Prop} {H : Hp} {zs : List Str} {v : V} (h : (nameT zs).At B H v) : (nameT zs).At C H v := by
  obtain ⟨a, rfl, ha, hz⟩ := nameT_at h
  exact at_nameT ha hz
theorem in_ifs (z : Str) (zs : List Str) : (if false = true then !inV (.str z) (zs.map V.str) else inV (.str z) (zs.map V.str)) = decide (z ∈ zs) := by rw [if_neg (by decide), inV_strs]
theorem wtt (a : Str) : decide (V.str a = V.str a) = true := decide_eq_true rfl
theorem wne {a b : Str} (h : a ≠ b) : decide (V.str a = V.str b) = false := decide_eq_false fun e => h (V.str.inj e)
theorem str_le {d : Dd} (h : isName d = true) : (strOf d).length ≤ 1000 := by
  rw [name_str h] at h
  have h4 : ((decide (1 ≤ (strOf d).length) && decide ((strOf d).length ≤ 80)) && _) = true := h
  have := of_decide_eq_true (fand (fand h4).1).2
  omega
section
variable {P : Program} {w : World} {K : PySem.W.Frag} {mg : Str → Option Value} {base : Heap}
def spNDflt : Sp := fun vs H Q _ => ∃ (B : Addr → Prop) (v : V) (w : Str) (r : List Dd), vs = [v] ∧ (Dd.tup (.str w :: r)).At B H v ∧ r.length = 3 ∧ isDflt (arg 2 r) = true ∧ ∀ (L : Addr) (xs : List V) (H' : Hp), Same H H' → H L = none → H' L = some (.lst xs) → Dd.Ats F0 H' ((dfltNs (arg 2 r)).map nameT) xs → Q (.ref L) H'
def spOwn : Sp := fun vs H Q _ => ∃ (B : Addr → Prop) (v : V) (k : Dd), vs = [v] ∧ k.At B H v ∧ formB k = true ∧ k.sz ≤ 1000000 ∧ ∀ (L : Addr) (xs : List V) (H' : Hp), Same H H' → H L = none → H' L = some (.lst xs) → Dd.Ats F0 H' ((ownD k).map nameT) xs → Q (.ref L) H'
end
end Toy

set_option Elab.async false
set_option linter.all false
set_option maxRecDepth 100000
set_option maxHeartbeats 4000000
/-! Part R: the names in a row; the names around each part; all names that are bound in a term. -/
namespace Toy
open PySem L2
open PyProof.Rows (envOfC)
theorem dflt_own (d : Dd) (h : isDflt d = true) : (dfltNs d).flatten.length + Dd.szs (dfltP d) ≤ d.sz := by
  match d, h with
  | .non, _ => show 0 + 0 ≤ 1; omega
  | .tup l, h =>
    obtain ⟨x, y, rfl⟩ := len2 (of_decide_eq_true (fand h).1)
    show 1 + (y.sz + 0) ≤ 1 + (x.sz + (y.sz + 0))
    have := sz_pos x
    omega
theorem let_own : ∀ (l : List Dd), (∀ q ∈ l, ∃ m, q = .tup m ∧ m.length = 2) → l.length + Dd.szs (l.map (nth 1)) ≤ Dd.szs l
  | [], _ => Nat.le_refl _
  | q :: l, h => by
    obtain ⟨m, rfl, hm⟩ := h q (List.mem_cons_self ..)
    obtain ⟨x, y, rfl⟩ := len2 hm
    have ih := let_own l fun p hp => h p (List.mem_cons_of_mem _ hp)
    show l.length + 1 + (y.sz + Dd.szs (l.map (nth 1))) ≤ (1 + (x.sz + (y.sz + 0))) + Dd.szs l
    omega
theorem strs_le (d : Dd) : (strsOf d).length ≤ d.sz := by
  have h1 := szs_tl d
  have h2 := szs_len (tl d)
  unfold strsOf
  rw [List.length_map]
  omega
theorem case_own : ∀ (l : List Dd), (∀ q ∈ l, ∃ m, q = .tup m ∧ m.length = 3) → ((l.map fun q => strsOf (nth 1 q)).flatten).length + Dd.szs (l.map lastD) ≤ Dd.szs l
  | [], _ => Nat.le_refl _
  | q :: l, h => by
    obtain ⟨m, rfl, hm⟩ := h q (List.mem_cons_self ..)
    obtain ⟨x, y, z, rfl⟩ := len3 hm
    have ih := case_own l fun p hp => h p (List.mem_cons_of_mem _ hp)
    have hy := strs_le y
    rw [List.map_cons, List.flatten_cons, List.length_append, List.map_cons]
    show (strsOf y).length + _ + (z.sz + Dd.szs (l.map lastD)) ≤ (1 + (x.sz + (y.sz + (z.sz + 0)))) + Dd.szs l
    omega
theorem nil_own {α : Type} : ∀ (l : List α), ((l.map fun _ => ([] : List Str)).flatten) = []
  | [] => rfl
  | _ :: l => nil_own l
/-- names and parts together are less than the term -/
theorem own_sz {k : Dd} (h : formB k = true) : (ownN k).length + Dd.szs (partsD k) < k.sz := by
  obtain ⟨z, r, rfl, hf⟩ := form_tup h
  have hp := parts_sz h
  show (ownW z r).flatten.length + Dd.szs (partsW z r) < 1 + (1 + Dd.szs r)
  have hp : Dd.szs (partsW z r) < 1 + (1 + Dd.szs r) := hp
  by_cases c1 : z = "lam"
  · subst c1
    rw [fw_lam] at hf
    obtain ⟨x, y, rfl⟩ := len2 (of_decide_eq_true (fand hf).1)
    rw [ow_lam, pw_lam]
    have := sz_pos x
    show 1 + (y.sz + 0) < 1 + (1 + (x.sz + (y.sz + 0)))
    omega
  by_cases c2 : z = "seq"
  · subst c2
    rw [fw_seq] at hf
    obtain ⟨x, y, y', rfl⟩ := len3 (of_decide_eq_true (fand hf).1)
    rw [ow_seq, pw_seq]
    have := sz_pos x
    show 1 + (y.sz + (y'.sz + 0)) < 1 + (1 + (x.sz + (y.sz + (y'.sz + 0))))
    omega
  by_cases c3 : z = "let"
  · subst c3
    rw [fw_let] at hf
    obtain ⟨h2, hn⟩ := fand hf
    obtain ⟨h2, hrw⟩ := fand h2
    obtain ⟨x, y, rfl⟩ := len2 (of_decide_eq_true h2)
    obtain ⟨l, rfl, hrows⟩ := rows_are (show areRows 2 x = true from hrw)
    have ho := let_own l hrows
    rw [ow_let, pw_let]
    show ((l.map fun q => strOf (nth 0 q)) ++ []).length + Dd.szs (l.map (nth 1) ++ [y]) < 1 + (1 + ((1 + Dd.szs l) + (y.sz + 0)))
    rw [List.append_nil, List.length_map, szs_app]
    show l.length + (Dd.szs (l.map (nth 1)) + (y.sz + 0)) < _
    omega
  by_cases c4 : z = "case"
  · subst c4
    rw [fw_case] at hf
    obtain ⟨h1, h4⟩ := fand hf
    obtain ⟨h1, h3⟩ := fand h1
    obtain ⟨h1, h2⟩ := fand h1
    obtain ⟨x, y, d, rfl⟩ := len3 (of_decide_eq_true h1)
    obtain ⟨l, rfl, hr⟩ := rows_are (show areRows 3 y = true from h2)
    have ho := case_own l hr
    have hd := dflt_own d h3
    rw [ow_case, pw_case]
    show ((l.map (fun q => strsOf (nth 1 q)) ++ dfltNs d).flatten).length + Dd.szs (x :: (l.map lastD ++ dfltP d)) < 1 + (1 + (x.sz + ((1 + Dd.szs l) + (d.sz + 0))))
    rw [List.flatten_append, List.length_append]
    show _ + (x.sz + Dd.szs (l.map lastD ++ dfltP d)) < _
    rw [szs_app]
    omega
  by_cases c5 : z = "pick"
  · subst c5
    rw [fw_pick] at hf
    obtain ⟨h1, h4⟩ := fand hf
    obtain ⟨h1, h3⟩ := fand h1
    obtain ⟨h1, h2⟩ := fand h1
    obtain ⟨x, y, d, rfl⟩ := len3 (of_decide_eq_true h1)
    obtain ⟨l, rfl, hr⟩ := rows_are (show areRows 2 y = true from h2)
    have ho := lasts_sz l
    have hd := dflt_own d h3
    rw [ow_pick, pw_pick]
    show ((l.map (fun _ => []) ++ dfltNs d).flatten).length + Dd.szs (x :: (l.map lastD ++ dfltP d)) < 1 + (1 + (x.sz + ((1 + Dd.szs l) + (d.sz + 0))))
    rw [List.flatten_append, List.length_append, nil_own]
    show 0 + _ + (x.sz + Dd.szs (l.map lastD ++ dfltP d)) < _
    rw [szs_app]
    omega
  rw [ow_other r (by
    simp only [List.mem_cons, List.not_mem_nil, or_false, not_or]
    exact ⟨c1, c2, c3, c4, c5⟩)]
  show 0 + _ < _
  omega
theorem flat_take {α : Type} (L : List (List α)) (i : Nat) : (L.take i).flatten.length ≤ L.flatten.length := by
  have e : L.flatten = (L.take i).flatten ++ (L.drop i).flatten := by rw [← List.flatten_append, List.take_append_drop]
  rw [e, List.length_append]
  omega
theorem own_str {k : Dd} (h : formB k = true) : ∀ s ∈ ownN k, isName (.str s) = true := by
  obtain ⟨z, r, rfl, hf⟩ := form_tup h
  intro s hs
  have hs : s ∈ (ownW z r).flatten := hs
  have one : ∀ {d : Dd}, isName d = true → isName (.str (strOf d)) = true := fun h => by rwa [← name_str h]
  have dfl : ∀ {d : Dd}, isDflt d = true → s ∈ (dfltNs d).flatten → isName (.str s) = true := fun {d} hd hm => by
    match d, hd, hm with
    | .non, _, hm => cases hm
    | .tup l, hd, hm =>
      have hm : s ∈ [strOf (nth 0 (.tup l))] := hm
      rw [List.mem_singleton.mp hm]
      exact one (fand hd).2
  by_cases c1 : z = "lam"
  · subst c1
    rw [fw_lam] at hf
    rw [ow_lam] at hs
    have hs : s ∈ [strOf (arg 0 r)] := hs
    rw [List.mem_singleton.mp hs]
    exact one (fand hf).2
  by_cases c2 : z = "seq"
  · subst c2
    rw [fw_seq] at hf
    rw [ow_seq] at hs
    have hs : s ∈ [strOf (arg 0 r)] := hs
    rw [List.mem_singleton.mp hs]
    exact one (fand hf).2
  by_cases c3 : z = "let"
  · subst c3
    rw [fw_let] at hf
    rw [ow_let, List.flatten_cons, List.flatten_nil, List.append_nil] at hs
    obtain ⟨q, hq, rfl⟩ := List.mem_map.mp hs
    have h3 : ((tl (arg 0 r)).map (nth 0)).all isName = true := (fand (fand (fand hf).2).2).1
    rw [List.all_map] at h3
    exact one (List.all_eq_true.mp h3 q hq)
  by_cases c4 : z = "case"
  · subst c4
    rw [fw_case] at hf
    obtain ⟨h1, h4⟩ := fand hf
    rw [ow_case, List.flatten_append] at hs
    rcases List.mem_append.mp hs with e | e
    · obtain ⟨l, hl, hsl⟩ := List.mem_flatten.mp e
      obtain ⟨q, hq, rfl⟩ := List.mem_map.mp hl
      have hn := (fand (List.all_eq_true.mp h4 q hq)).2
      unfold strsOf at hsl
      obtain ⟨d, hd, rfl⟩ := List.mem_map.mp hsl
      match nth 1 q, hn, hd with
      | .tup l, hn, hd => exact one (List.all_eq_true.mp (fand hn).1 d hd)
    · exact dfl (fand h1).2 e
  by_cases c5 : z = "pick"
  · subst c5
    rw [fw_pick] at hf
    obtain ⟨h1, h4⟩ := fand hf
    rw [ow_pick, List.flatten_append, nil_own, List.nil_append] at hs
    exact dfl (fand h1).2 hs
  rw [ow_other r (by
    simp only [List.mem_cons, List.not_mem_nil, or_false, not_or]
    exact ⟨c1, c2, c3, c4, c5⟩)] at hs
  cases hs
theorem rep_one {α : Type} (x : α) : ∀ n : Nat, (List.replicate n [x]).flatten = List.replicate n x
  | 0 => rfl
  | n + 1 => by
    show x :: (List.replicate n [x]).flatten = x :: List.replicate n x
    rw [rep_one x n]
theorem ats_rep {B : Addr → Prop} {H : Hp} {k : Dd} {x : V} (h : k.At B H x) : ∀ n : Nat, Dd.Ats B H (List.replicate n k) (List.replicate n x)
  | 0 => rfl
  | n + 1 => ⟨x, _, rfl, h, ats_rep h n⟩
theorem map_rep {α β : Type} (b : β) : ∀ l : List α, (l.map fun _ => b) = List.replicate l.length b
  | [] => rfl
  | _ :: l => by
    show b :: (l.map fun _ => b) = b :: List.replicate l.length b
    rw [map_rep b l]
theorem scopes_plain {w : Str} {r : List Dd} (h : formW w r = true) (c1 : w ≠ "lam") (c2 : w ≠ "seq") (c3 : w ≠ "let") (c4 : w ≠ "case") (c5 : w ≠ "pick") : scopesW w r = (partsW w r).map fun _ => [] := by
  have hw := form_wordN h
  simp only [words, List.mem_cons, List.not_mem_nil, or_false] at hw
  rcases hw with rfl | rfl | rfl | rfl | rfl | rfl | rfl | rfl | rfl | rfl | rfl
  · rw [pw_num, show scopesW "num" r = [] by unfold scopesW; simp (config := { decide := true })]
    rfl
  · rw [pw_var, show scopesW "var" r = [] by unfold scopesW; simp (config := { decide := true })]
    rfl
  · rw [fw_app] at h
    obtain ⟨x, y, rfl⟩ := len2 (of_decide_eq_true h)
    rw [sw_app, pw_app]
    rfl
  · exact (c1 rfl).elim
  · exact (c3 rfl).elim
  · exact (c2 rfl).elim
  · rw [sw_con, pw_con]
  · exact (c4 rfl).elim
  · exact (c5 rfl).elim
  · rw [fw_prim] at h
    obtain ⟨x, y, y', rfl⟩ := len3 (of_decide_eq_true (fand h).1)
    rw [sw_prim, pw_prim]
    rfl
  · rw [sw_note, pw_note]
    rfl
section
variable {P : Program} {w : World} {K : PySem.W.Frag} {mg : Str → Option Value} {base : Heap}
def spNamesOf : Sp := fun vs H Q _ => ∃ (B : Addr → Prop) (v : V) (k : Dd), vs = [v] ∧ k.At B H v ∧ formB k = true ∧ k.sz ≤ 1000000 ∧ ∀ (u : Addr) (H' : Hp), Same H H' → H' u = some (.tup ((ownN k).map V.str)) → Q (.ref u) H'
def spScopes : Sp := fun vs H Q _ => ∃ (B : Addr → Prop) (v : V) (k : Dd), vs = [v] ∧ k.At B H v ∧ formB k = true ∧ k.sz ≤ 1000000 ∧ ∀ (L : Addr) (xs : List V) (H' : Hp), Same H H' → H L = none → H' L = some (.lst xs) → Dd.Ats F0 H' ((scopesD k).map nameT) xs → Q (.ref L) H'
structure TxtS (mg : Str → Option Value) : Prop where
  zlen : mg "len" = none
  zzip : mg "zip" = none
  zsorted : mg "sorted" = none
  zsum : mg "sum" = none
end
end Toy

set_option Elab.async false
set_option linter.all false
set_option maxRecDepth 100000
set_option maxHeartbeats 4000000
/-! Part S: all names that are bound in a term, by the program and by the law. -/
namespace Toy
open PySem L2
open PyProof.Rows (envOfC)
def bndT : Nat → Dd → List Str
  | 0, _ => []
  | n + 1, k => ownN k ++ ((partsD k).map (bndT n)).flatten
theorem bndT_stab : ∀ (n m : Nat) (k : Dd), isTT k = true → k.sz ≤ n → k.sz ≤ m → bndT n k = bndT m k
  | 0, _, k, _, h, _ => by have := sz_pos k; omega
  | _ + 1, 0, k, _, _, h => by have := sz_pos k; omega
  | n + 1, m + 1, k, ht, h1, h2 => by
    obtain ⟨hf, hp⟩ := tt_parts ht
    have hs := parts_sz hf
    show ownN k ++ ((partsD k).map (bndT n)).flatten = ownN k ++ ((partsD k).map (bndT m)).flatten
    rw [List.map_congr_left fun p hp' => by
      have := szs_mem hp'
      exact bndT_stab n m p (hp p hp') (by omega) (by omega)]
/-- all names bound in a term: its own ones, then those of its parts -/
def bnd (k : Dd) : List Str := bndT k.sz k
theorem bnd_eq {k : Dd} (h : isTT k = true) : bnd k = ownN k ++ ((partsD k).map bnd).flatten := by
  obtain ⟨hf, hp⟩ := tt_parts h
  have hs := parts_sz hf
  have e : bnd k = bndT (k.sz + 1) k := bndT_stab _ _ k h (Nat.le_refl _) (Nat.le_succ _)
  rw [e]
  show ownN k ++ ((partsD k).map (bndT k.sz)).flatten = _
  rw [List.map_congr_left fun p hp' => by
    have := szs_mem hp'
    exact bndT_stab k.sz p.sz p (hp p hp') (by omega) (Nat.le_refl _)]
  rfl
theorem flat_sum (f : Dd → List Str) : ∀ l : List Dd, (∀ p ∈ l, (f p).length ≤ p.sz) → ((l.map f).flatten).length ≤ Dd.szs l
  | [], _ => Nat.le_refl _
  | p :: l, h => by
    have h1 := h p (List.mem_cons_self ..)
    have h2 := flat_sum f l fun q hq => h q (List.mem_cons_of_mem _ hq)
    rw [List.map_cons, List.flatten_cons, List.length_append]
    show _ ≤ p.sz + Dd.szs l
    omega
theorem bndT_len : ∀ (n : Nat) (k : Dd), isTT k = true → (bndT n k).length ≤ k.sz
  | 0, k, _ => Nat.zero_le _
  | n + 1, k, h => by
    obtain ⟨hf, hp⟩ := tt_parts h
    have ho := own_sz hf
    have hs := flat_sum (bndT n) (partsD k) fun p hp' => bndT_len n p (hp p hp')
    show (ownN k ++ ((partsD k).map (bndT n)).flatten).length ≤ k.sz
    rw [List.length_append]
    omega
theorem bnd_len {k : Dd} (h : isTT k = true) : (bnd k).length ≤ k.sz := bndT_len _ k h
theorem bndT_str : ∀ (n : Nat) (k : Dd), isTT k = true → ∀ s ∈ bndT n k, isName (.str s) = true
  | 0, k, _, s, hs => by cases hs
  | n + 1, k, h, s, hs => by
    obtain ⟨hf, hp⟩ := tt_parts h
    rcases List.mem_append.mp (show s ∈ ownN k ++ ((partsD k).map (bndT n)).flatten from hs) with e | e
    · exact own_str hf s e
    · obtain ⟨l, hl, hsl⟩ := List.mem_flatten.mp e
      obtain ⟨p, hp', rfl⟩ := List.mem_map.mp hl
      exact bndT_str n p (hp p hp') s hsl
theorem bnd_str {k : Dd} (h : isTT k = true) : ∀ s ∈ bnd k, isName (.str s) = true := bndT_str _ k h
theorem szs_rev : ∀ l : List Dd, Dd.szs l.reverse = Dd.szs l
  | [] => rfl
  | k :: l => by
    rw [List.reverse_cons, szs_app, szs_rev l]
    show _ + (k.sz + 0) = k.sz + _
    omega
section
variable {P : Program} {w : World} {K : PySem.W.Frag} {mg : Str → Option Value} {base : Heap}
def spBound : Sp := fun vs H Q _ => ∃ (B : Addr → Prop) (v : V) (k : Dd), vs = [v] ∧ k.At B H v ∧ isTT k = true ∧ k.sz ≤ 1000000 ∧ ∀ (L : Addr) (H' : Hp), Same H H' → H L = none → H' L = some (.lst ((bnd k).map V.str)) → Q (.ref L) H'
def spLOwn : Sp := fun vs H Q _ => ∃ (B : Addr → Prop) (v : V) (k : Dd), vs = [v] ∧ k.At B H v ∧ formB k = true ∧ k.sz ≤ 1000000 ∧ ∀ (L : Addr) (H' : Hp), Same H H' → H L = none → H' L = some (.lst ((ownN k).map V.str)) → Q (.ref L) H'
def spLBound (n : Nat) : Sp := fun vs H Q _ => ∃ (B : Addr → Prop) (v : V) (k : Dd), vs = [v] ∧ k.At B H v ∧ isN n k = true ∧ k.sz ≤ 1000000 ∧ (∀ a, H a = none → ¬ B a) ∧ ∀ (L : Addr) (H' : Hp), Same H H' → H L = none → H' L = some (.lst ((bnd k).map V.str)) → Q (.ref L) H'
end
end Toy

set_option Elab.async false
set_option linter.all false
set_option maxRecDepth 100000
set_option maxHeartbeats 4000000
/-! Part T: the names that occur free in a term, in plain Lean; tasks of a walk. -/
namespace Toy
open PySem L2
open PyProof.Rows (envOfC)
def varD (s : Str) : Dd := .tup [.str "var", .str s]
def frT : Nat → Dd → Str → Prop
  | 0, _, _ => False
  | n + 1, k, s => k = varD s ∨ ∃ q ∈ (scopesD k).zip (partsD k), s ∉ q.1 ∧ frT n q.2 s
theorem zip_part {k : Dd} {q : List Str × Dd} (h : q ∈ (scopesD k).zip (partsD k)) : q.2 ∈ partsD k := (List.of_mem_zip (a := q.1) (b := q.2) h).2
theorem frT_stab : ∀ (n m : Nat) (k : Dd) (s : Str), isTT k = true → k.sz ≤ n → k.sz ≤ m → (frT n k s ↔ frT m k s)
  | 0, _, k, _, _, h, _ => by have := sz_pos k; omega
  | _ + 1, 0, k, _, _, _, h => by have := sz_pos k; omega
  | n + 1, m + 1, k, s, ht, h1, h2 => by
    obtain ⟨hf, hp⟩ := tt_parts ht
    have hs := parts_sz hf
    show (k = varD s ∨ _) ↔ (k = varD s ∨ _)
    have st : ∀ q ∈ (scopesD k).zip (partsD k), (frT n q.2 s ↔ frT m q.2 s) := fun q hq => by
      have := szs_mem (zip_part hq)
      exact frT_stab n m q.2 s (hp _ (zip_part hq)) (by omega) (by omega)
    constructor
    · rintro (h | ⟨q, h3, h4, h5⟩)
      · exact .inl h
      · exact .inr ⟨q, h3, h4, (st q h3).mp h5⟩
    · rintro (h | ⟨q, h3, h4, h5⟩)
      · exact .inl h
      · exact .inr ⟨q, h3, h4, (st q h3).mpr h5⟩
/-- the name occurs free -/
def fr (k : Dd) (s : Str) : Prop := frT k.sz k s
theorem fr_eq {k : Dd} (h : isTT k = true) (s : Str) : fr k s ↔ k = varD s ∨ ∃ q ∈ (scopesD k).zip (partsD k), s ∉ q.1 ∧ fr q.2 s := by
  obtain ⟨hf, hp⟩ := tt_parts h
  have hs := parts_sz hf
  have e : fr k s ↔ frT (k.sz + 1) k s := frT_stab _ _ k s h (Nat.le_refl _) (Nat.le_succ _)
  rw [e]
  show (k = varD s ∨ _) ↔ _
  have st : ∀ q ∈ (scopesD k).zip (partsD k), (frT k.sz q.2 s ↔ fr q.2 s) := fun q hq => by
    have := szs_mem (zip_part hq)
    exact frT_stab _ _ q.2 s (hp _ (zip_part hq)) (by omega) (Nat.le_refl _)
  constructor
  · rintro (h | ⟨q, h3, h4, h5⟩)
    · exact .inl h
    · exact .inr ⟨q, h3, h4, (st q h3).mp h5⟩
  · rintro (h | ⟨q, h3, h4, h5⟩)
    · exact .inl h
    · exact .inr ⟨q, h3, h4, (st q h3).mpr h5⟩
theorem fr_var {s t : Str} (h : isTT (varD s) = true) : fr (varD s) t ↔ t = s := by
  rw [fr_eq h]
  have e : partsD (varD s) = [] := pw_var _
  rw [e, List.zip_nil_right]
  constructor
  · rintro (h | ⟨q, h, _⟩)
    · have h : Dd.tup [.str "var", .str s] = .tup [.str "var", .str t] := h
      simp only [Dd.tup.injEq, List.cons.injEq, Dd.str.injEq, and_true, true_and] at h
      exact h.symm
    · cases h
  · intro e
    exact .inl (by rw [e])
theorem var_word {s : Str} {w : Str} {r : List Dd} (h : Dd.tup (.str w :: r) = varD s) : w = "var" := by
  have h : Dd.tup (.str w :: r) = .tup [.str "var", .str s] := h
  simp only [Dd.tup.injEq, List.cons.injEq, Dd.str.injEq] at h
  exact h.1
theorem fr_str : ∀ (n : Nat) (k : Dd) (s : Str), isTT k = true → frT n k s → isName (.str s) = true
  | 0, _, _, _, h => h.elim
  | n + 1, k, s, ht, h => by
    obtain ⟨hf, hp⟩ := tt_parts ht
    rcases h with e | ⟨q, h3, _, h5⟩
    · rw [e] at hf
      have hf : formW "var" [.str s] = true := hf
      rw [fw_var] at hf
      exact (fand hf).2
    · exact fr_str n q.2 s (hp _ (zip_part h3)) h5
theorem scopes_own {k : Dd} (h : formB k = true) : ∀ ns ∈ scopesD k, ∀ s ∈ ns, s ∈ ownN k := by
  obtain ⟨z, r, rfl, hf⟩ := form_tup h
  intro ns hns s hs
  show s ∈ (ownW z r).flatten
  have hns : ns ∈ scopesW z r := hns
  by_cases c1 : z = "lam"
  · subst c1
    rw [sw_lam] at hns
    rw [ow_lam]
    exact List.mem_flatten.mpr ⟨ns, hns, hs⟩
  by_cases c2 : z = "seq"
  · subst c2
    rw [sw_seq] at hns
    rw [ow_seq]
    rcases List.mem_cons.mp hns with e | e
    · rw [e] at hs; cases hs
    · exact List.mem_flatten.mpr ⟨ns, e, hs⟩
  by_cases c3 : z = "let"
  · subst c3
    rw [sw_let] at hns
    rw [ow_let]
    refine List.mem_flatten.mpr ⟨ns, ?_, hs⟩
    rcases List.mem_append.mp hns with e | e
    · obtain ⟨q, _, rfl⟩ := List.mem_map.mp e
      exact List.mem_singleton.mpr rfl
    · exact e
  by_cases c4 : z = "case"
  · subst c4
    rw [sw_case] at hns
    rw [ow_case]
    rcases List.mem_cons.mp hns with e | e
    · rw [e] at hs; cases hs
    · exact List.mem_flatten.mpr ⟨ns, e, hs⟩
  by_cases c5 : z = "pick"
  · subst c5
    rw [sw_pick] at hns
    rw [ow_pick]
    rcases List.mem_cons.mp hns with e | e
    · rw [e] at hs; cases hs
    · exact List.mem_flatten.mpr ⟨ns, e, hs⟩
  rw [scopes_plain hf c1 c2 c3 c4 c5] at hns
  obtain ⟨q, _, rfl⟩ := List.mem_map.mp hns
  cases hs
/-! ### how often names are bound -/
def bump (c : Str → Int) (ns : List Str) (d : Int) : Str → Int := fun s => c s + d * ((ns.count s : Nat) : Int)
theorem bump_back (c : Str → Int) (ns : List Str) : bump (bump c ns 1) ns (-1) = c := by
  funext s
  show c s + 1 * _ + -1 * _ = c s
  omega
theorem bump_snoc (c : Str → Int) (ns : List Str) (x : Str) (d : Int) : bump (bump c ns d) [x] d = bump c (ns ++ [x]) d := by
  funext s
  show c s + d * _ + d * _ = c s + d * (((ns ++ [x]).count s : Nat) : Int)
  rw [List.count_append, Int.natCast_add, Int.mul_add]
  omega
theorem bump_nil (c : Str → Int) (d : Int) : bump c [] d = c := by
  funext s
  show c s + d * ((0 : Nat) : Int) = c s
  simp
inductive Tk
  | vis (k : Dd)
  | chg (ns : List Str) (d : Int)
def tkD : Tk → Dd
  | .vis k => .tup [k, nameT [], .int 0]
  | .chg ns d => .tup [.non, nameT ns, .int d]
/-- what is found from now on; the task that is next stands first -/
def frS : (Str → Int) → List Tk → Str → Prop
  | _, [], _ => False
  | c, .vis k :: rs, s => (fr k s ∧ c s = 0) ∨ frS c rs s
  | c, .chg ns d :: rs, s => frS (bump c ns d) rs s
def okS : (Str → Int) → List Tk → Prop
  | _, [] => True
  | c, .vis _ :: rs => (∀ s, 0 ≤ c s) ∧ okS c rs
  | c, .chg ns d :: rs => okS (bump c ns d) rs
def trip (q : List Str × Dd) : List Tk := [.chg q.1 1, .vis q.2, .chg q.1 (-1)]
theorem bump0 {c : Str → Int} {ns : List Str} {s : Str} (h : 0 ≤ c s) : bump c ns 1 s = 0 ↔ c s = 0 ∧ s ∉ ns := by
  show c s + 1 * ((ns.count s : Nat) : Int) = 0 ↔ _
  rw [← List.count_eq_zero]
  omega
theorem bump_pos {c : Str → Int} {ns : List Str} (h : ∀ s, 0 ≤ c s) (s : Str) : 0 ≤ bump c ns 1 s := by
  have := h s
  show 0 ≤ c s + 1 * ((ns.count s : Nat) : Int)
  omega
theorem frS_trips : ∀ (L : List (List Str × Dd)) (c : Str → Int) (rs : List Tk) (s : Str), (∀ s, 0 ≤ c s) → (frS c ((L.map trip).flatten ++ rs) s ↔ ((∃ q ∈ L, s ∉ q.1 ∧ fr q.2 s) ∧ c s = 0) ∨ frS c rs s)
  | [], c, rs, s, h => by
    constructor
    · exact .inr
    · rintro (⟨⟨q, h, _⟩, _⟩ | h)
      · cases h
      · exact h
  | q :: L, c, rs, s, h => by
    have ih := frS_trips L c rs s h
    show ((fr q.2 s ∧ bump c q.1 1 s = 0) ∨ frS (bump (bump c q.1 1) q.1 (-1)) ((L.map trip).flatten ++ rs) s) ↔ _
    rw [bump_back, ih, bump0 (h s)]
    constructor
    · rintro (⟨h1, h2, h3⟩ | ⟨⟨p, h1, h2⟩, h3⟩ | h1)
      · exact .inl ⟨⟨q, List.mem_cons_self .., h3, h1⟩, h2⟩
      · exact .inl ⟨⟨p, List.mem_cons_of_mem _ h1, h2⟩, h3⟩
      · exact .inr h1
    · rintro (⟨⟨p, h1, h2⟩, h3⟩ | h1)
      · rcases List.mem_cons.mp h1 with e | e
        · rw [e] at h2
          exact .inl ⟨h2.2, h3, h2.1⟩
        · exact .inr (.inl ⟨⟨p, e, h2⟩, h3⟩)
      · exact .inr (.inr h1)
theorem okS_trips : ∀ (L : List (List Str × Dd)) (c : Str → Int) (rs : List Tk), (∀ s, 0 ≤ c s) → okS c rs → okS c ((L.map trip).flatten ++ rs)
  | [], _, _, _, h => h
  | q :: L, c, rs, h, k => by
    refine ⟨bump_pos h, ?_⟩
    show okS (bump (bump c q.1 1) q.1 (-1)) ((L.map trip).flatten ++ rs)
    rw [bump_back]
    exact okS_trips L c rs h k
def tripR (q : List Str × Dd) : List Tk := [.chg q.1 (-1), .vis q.2, .chg q.1 1]
theorem trips_rev (L : List (List Str × Dd)) : ((L.map tripR).flatten).reverse = (L.reverse.map trip).flatten := by
  rw [List.reverse_flatten, List.map_map, List.map_reverse]
  rfl
theorem rev_frs {L : List (List Str × Dd)} {s : Str} : (∃ q ∈ L.reverse, s ∉ q.1 ∧ fr q.2 s) ↔ ∃ q ∈ L, s ∉ q.1 ∧ fr q.2 s :=
  ⟨fun ⟨q, h, k⟩ => ⟨q, List.mem_reverse.mp h, k⟩, fun ⟨q, h, k⟩ => ⟨q, List.mem_reverse.mpr h, k⟩⟩
/-! ### measures -/
def wtk : Tk → Nat
  | .vis k => 3 * k.sz - 2
  | .chg _ _ => 1
def wts : List Tk → Nat
  | [] => 0
  | t :: l => wtk t + wts l
def vsz : List Tk → Nat
  | [] => 0
  | .vis k :: l => k.sz + vsz l
  | .chg _ _ :: l => vsz l
theorem wts_app : ∀ a b : List Tk, wts (a ++ b) = wts a + wts b
  | [], b => (Nat.zero_add _).symm
  | t :: a, b => by
    show wtk t + wts (a ++ b) = wtk t + wts a + wts b
    rw [wts_app a b]
    omega
theorem vsz_app : ∀ a b : List Tk, vsz (a ++ b) = vsz a + vsz b
  | [], b => (Nat.zero_add _).symm
  | .vis k :: a, b => by
    show k.sz + vsz (a ++ b) = k.sz + vsz a + vsz b
    rw [vsz_app a b]
    omega
  | .chg _ _ :: a, b => vsz_app a b
theorem wts_len : ∀ l : List Tk, l.length ≤ wts l
  | [] => Nat.le_refl _
  | .vis k :: l => by
    have h1 := wts_len l
    have h2 := sz_pos k
    show l.length + 1 ≤ (3 * k.sz - 2) + wts l
    omega
  | .chg _ _ :: l => by
    have h1 := wts_len l
    show l.length + 1 ≤ 1 + wts l
    omega
theorem wts_trips : ∀ L : List (List Str × Dd), wts ((L.map tripR).flatten) = 3 * Dd.szs (L.map (·.2))
  | [] => rfl
  | q :: L => by
    have h1 := wts_trips L
    have h2 := sz_pos q.2
    rw [List.map_cons, List.flatten_cons, wts_app, h1]
    show (1 + ((3 * q.2.sz - 2) + (1 + 0))) + _ = 3 * (q.2.sz + Dd.szs (L.map (·.2)))
    omega
theorem vsz_trips : ∀ L : List (List Str × Dd), vsz ((L.map tripR).flatten) = Dd.szs (L.map (·.2))
  | [] => rfl
  | q :: L => by
    rw [List.map_cons, List.flatten_cons, vsz_app, vsz_trips L]
    show (q.2.sz + 0) + _ = q.2.sz + Dd.szs (L.map (·.2))
    omega
theorem len_trips : ∀ L : List (List Str × Dd), ((L.map tripR).flatten).length = 3 * L.length
  | [] => rfl
  | q :: L => by
    rw [List.map_cons, List.flatten_cons, List.length_append, len_trips L]
    show 3 + _ = 3 * (L.length + 1)
    omega
def tkOk (U : List Str) : Tk → Prop
  | .vis p => isTT p = true ∧ ∀ s ∈ bnd p, s ∈ U
  | .chg ns d => (∀ s ∈ ns, s ∈ U) ∧ (d = 1 ∨ d = -1)
/-! ### dicts of names -/
def setS (ks : List Str) : List (Key × V) := ks.map fun s => (Sum.inr s, V.bl true)
def addS (ks : List Str) (s : Str) : List Str := if s ∈ ks then ks else ks ++ [s]
theorem get_setS (ks : List Str) (s : Str) : valV (setS ks) (Sum.inr s) = if s ∈ ks then some (V.bl true) else none := by
  induction ks with
  | nil => rfl
  | cons x r ih =>
    unfold setS at ih ⊢
    rw [List.map_cons]
    by_cases e : x = s
    · rw [valV_pos (by rw [e]), if_pos (by rw [e]; exact List.mem_cons_self ..)]
    · rw [valV_neg (fun z => e (Sum.inr.inj z)), ih]
      by_cases h : s ∈ r
      · rw [if_pos h, if_pos (List.mem_cons_of_mem _ h)]
      · rw [if_neg h, if_neg (fun z => (List.mem_cons.mp z).elim (fun q => e q.symm) h)]
theorem put_setS (ks : List Str) (s : Str) : putK (setS ks) (Sum.inr s) (V.bl true) = setS (addS ks s) := by
  unfold addS
  by_cases h : s ∈ ks
  · rw [if_pos h]
    have e : ((setS ks).any fun kv => decide (kv.1 = (Sum.inr s : Key))) = true := by
      rw [List.any_eq_true]
      exact ⟨(Sum.inr s, V.bl true), List.mem_map.mpr ⟨s, h, rfl⟩, decide_eq_true rfl⟩
    unfold putK
    rw [if_pos e]
    unfold setS
    rw [List.map_map]
    refine List.map_congr_left fun x _ => ?_
    show (if (Sum.inr x : Key) = Sum.inr s then (Sum.inr x, V.bl true) else (Sum.inr x, V.bl true)) = _
    split <;> rfl
  · rw [if_neg h, putK_new _ (by rw [get_setS, if_neg h])]
    unfold setS
    rw [List.map_append]
    rfl
theorem mem_addS {ks : List Str} {s t : Str} : t ∈ addS ks s ↔ t ∈ ks ∨ t = s := by
  unfold addS
  split
  · next h => exact ⟨.inl, fun q => q.elim id fun e => e ▸ h⟩
  · rw [List.mem_append, List.mem_singleton]
theorem nodup_addS {ks : List Str} {s : Str} (h : ks.Nodup) : (addS ks s).Nodup := by
  unfold addS
  split
  · exact h
  · next n => exact List.nodup_append.mpr ⟨h, List.pairwise_singleton _ _, fun a ha b hb e => n (by rw [← List.mem_singleton.mp hb, ← e]; exact ha)⟩
theorem len_addS (ks : List Str) (s : Str) : (addS ks s).length ≤ ks.length + 1 := by
  unfold addS
  split
  · omega
  · rw [List.length_append]; exact Nat.le_refl _
/-- a dict that tells how often names are bound -/
structure BAt (kvs : List (Key × V)) (c : Str → Int) (U : List Str) : Prop where
  val : ∀ s, (valV kvs (Sum.inr s)).getD (.int 0) = .int (c s)
  keys : ∃ ks : List Str, kvs.map (·.1) = ks.map Sum.inr ∧ ks.Nodup ∧ ∀ s ∈ ks, s ∈ U
theorem BAt.len {kvs : List (Key × V)} {c : Str → Int} {U : List Str} (h : BAt kvs c U) : kvs.length ≤ U.length := by
  obtain ⟨ks, e, n, m⟩ := h.keys
  have e := congrArg List.length e
  rw [List.length_map, List.length_map] at e
  rw [e]
  exact nodup_len n m
theorem BAt.put {kvs : List (Key × V)} {c : Str → Int} {U : List Str} (h : BAt kvs c U) {x : Str} (d : Int) (hx : x ∈ U) : BAt (putK kvs (Sum.inr x) (.int (c x + d))) (bump c [x] d) U := by
  refine ⟨fun s => ?_, ?_⟩
  · rw [valV_put]
    by_cases e : (Sum.inr s : Key) = Sum.inr x
    · rw [if_pos e]
      cases e
      show V.int (c x + d) = .int (c x + d * (([x].count x : Nat) : Int))
      rw [List.count_singleton_self]
      congr 1
      omega
    · rw [if_neg e, h.val s]
      have n : s ≠ x := fun z => e (by rw [z])
      show V.int (c s) = .int (c s + d * (([x].count s : Nat) : Int))
      rw [List.count_eq_zero.mpr (by rw [List.mem_singleton]; exact n)]
      congr 1
      show c s = c s + d * 0
      omega
  · obtain ⟨ks, e, n, m⟩ := h.keys
    refine ⟨addS ks x, ?_, nodup_addS n, fun s hs => (mem_addS.mp hs).elim (m s) fun z => z ▸ hx⟩
    rw [putK_keys, e]
    unfold addS
    by_cases hm : x ∈ ks
    · rw [if_pos hm, if_pos]
      rw [List.any_eq_true]
      exact ⟨Sum.inr x, List.mem_map.mpr ⟨x, hm, rfl⟩, decide_eq_true rfl⟩
    · rw [if_neg hm, if_neg, List.map_append]
      · rfl
      · rw [List.any_eq_true]
        rintro ⟨j, hj, hj2⟩
        obtain ⟨y, hy, rfl⟩ := List.mem_map.mp hj
        have : y = x := Sum.inr.inj (of_decide_eq_true hj2)
        exact hm (this ▸ hy)
theorem fr_f0 {B : Addr → Prop} {H H' : Hp} (f : Fr B H H') : Fr F0 H H' := ⟨f.1, fun _ _ z => z.elim⟩
end Toy

set_option Elab.async false
set_option linter.all false
set_option maxRecDepth 100000
set_option maxHeartbeats 4000000
/-! Part U: free_names; the law's own. -/
namespace Toy
open PySem L2
open PyProof.Rows (envOfC)
theorem line9 : (9000000 : Nat) < sizeLine := by decide
theorem zip_fst {α β : Type} : ∀ {l : List α} {m : List β}, l.length = m.length → (l.zip m).map (·.2) = m
  | [], [], _ => rfl
  | a :: l, b :: m, h => by
    show b :: (l.zip m).map (·.2) = b :: m
    rw [zip_fst (Nat.succ.inj h)]
  | [], _ :: _, h => by cases h
  | _ :: _, [], h => by cases h
theorem tk_take {L : List (List Str × Dd)} {i : Nat} {q : List Str × Dd} (h : L[i]? = some q) : ((L.take (i + 1)).map tripR).flatten = ((L.take i).map tripR).flatten ++ tripR q := by
  rw [List.take_add_one, h, List.map_append, List.flatten_append]
  show _ ++ (tripR q ++ []) = _
  rw [List.append_nil]
section
variable {P : Program} {w : World} {K : PySem.W.Frag} {mg : Str → Option Value} {base : Heap}
def spFree : Sp := fun vs H Q _ => ∃ (B : Addr → Prop) (v : V) (k : Dd), vs = [v] ∧ k.At B H v ∧ isTT k = true ∧ k.sz ≤ 1000000 ∧ ∀ (L : Addr) (ys : List Str) (H' : Hp), Same H H' → H L = none → H' L = some (.lst (ys.map V.str)) → Up ys → (∀ s, s ∈ ys ↔ fr k s) → ys.length ≤ 1000000 → Q (.ref L) H'
def spLFree (n : Nat) : Sp := fun vs H Q _ => ∃ (B : Addr → Prop) (v : V) (k : Dd), vs = [v] ∧ k.At B H v ∧ isN n k = true ∧ k.sz ≤ 1000000 ∧ (∀ a, H a = none → ¬ B a) ∧ ∀ (L : Addr) (ys : List Str) (H' : Hp), Same H H' → H L = none → H' L = some (.lst (ys.map V.str)) → ys.Nodup → (∀ s, s ∈ ys ↔ fr k s) → ys.length ≤ k.sz → Q (.ref L) H'
end
end Toy

set_option Elab.async false
set_option linter.all false
set_option maxRecDepth 100000
set_option maxHeartbeats 4000000
/-! Part V: terms of good names, their free names; texts in rows. -/
namespace Toy
open PySem L2
open PyProof.Rows (envOfC)
/-- a name that is no word of a form -/
def nameOk (x : Str) : Prop := isName (.str x) = true ∧ x ∉ words
def globs : List Str := ["f", "g", "h", "k", "c", "m", "b"]
theorem globs_ok : ∀ x ∈ globs, nameOk x := by unfold nameOk; decide +kernel
theorem nameOk.len {x : Str} (h : nameOk x) : x.length ≤ 1000 := str_le (d := .str x) h.1
def xN (n : Int) : Str := ("x" : Str) ++ Str.ofString (toString n)
theorem cps_app (a b : Str) : (a ++ b).cps.toList = a.cps.toList ++ b.cps.toList := by
  show (a.cps ++ b.cps).toList = _
  simp
theorem len_cps (a : Str) : a.length = a.cps.toList.length := by
  rw [Array.length_toList]
  rfl
theorem word_head : ∀ z ∈ words, z.cps.toList.head? ≠ some 120 := by decide +kernel
theorem xN_ok {n : Int} (h0 : 0 ≤ n) (h1 : n < 10 ^ 10) : nameOk (xN n) := by
  have hl : (Str.ofString (toString n)).length ≤ 10 := PySem.W.KT.len_num h0 h1
  have e : (xN n).cps.toList = 120 :: (Str.ofString (toString n)).cps.toList := cps_app _ _
  have hlen : (xN n).length = 1 + (Str.ofString (toString n)).length := by
    rw [len_cps, e, len_cps]
    exact Nat.add_comm _ _
  refine ⟨?_, fun hm => ?_⟩
  · show ((decide (1 ≤ (xN n).length) && decide ((xN n).length ≤ 80)) && (xN n).cps.toList.all fun c => decide (33 ≤ c) && decide (c ≤ 126) && decide (c ≠ 37)) = true
    rw [decide_eq_true (by omega), decide_eq_true (by omega), e, Bool.true_and, Bool.true_and, List.all_eq_true]
    intro c hc
    rcases List.mem_cons.mp hc with z | z
    · rw [z]; decide
    · have hn : ¬ (c ≠ 45 ∧ (c < 48 ∨ 57 < c)) := fun k => PyProof.Rows.int_text_free' c k n z
      rw [Bool.and_eq_true, Bool.and_eq_true]
      exact ⟨⟨decide_eq_true (by omega), decide_eq_true (by omega)⟩, decide_eq_true (by omega)⟩
  · have h2 := word_head _ hm
    rw [e] at h2
    exact h2 rfl
/-- a term, not deeper than n, not greater than z, whose free names are in U or of the definitions -/
structure Gz (n z : Nat) (U : List Str) (k : Dd) : Prop where
  ok : isN n k = true
  sz : k.sz ≤ z
  fri : ∀ s, fr k s → s ∈ U ∨ s ∈ globs
theorem Gz.mono {n m z y : Nat} {U W : List Str} {k : Dd} (h : Gz n z U k) (h1 : n ≤ m) (h2 : z ≤ y) (h3 : ∀ s ∈ U, s ∈ W) : Gz m y W k := ⟨isN_mono _ _ _ h1 h.ok, Nat.le_trans h.sz h2, fun s hs => (h.fri s hs).imp (h3 s) id⟩
theorem zip_mem {α β : Type} : ∀ {l : List α} {m : List β} {y : β}, l.length = m.length → y ∈ m → ∃ x, (x, y) ∈ l.zip m
  | a :: l, b :: m, y, h, hy => by
    rcases List.mem_cons.mp hy with e | e
    · exact ⟨a, by rw [e]; exact List.mem_cons_self ..⟩
    · obtain ⟨x, hx⟩ := zip_mem (Nat.succ.inj h) e
      exact ⟨x, List.mem_cons_of_mem _ hx⟩
  | [], _ :: _, _, h, _ => by cases h
theorem gz_mk {n z : Nat} {U : List Str} {w : Str} {r : List Dd} (hw : w ≠ "var") (h1 : formW w r = true) (h2 : niceW w r = true) (h3 : ∀ q ∈ (scopesW w r).zip (partsW w r), isN n q.2 = true ∧ ∀ s, fr q.2 s → s ∈ q.1 ∨ s ∈ U ∨ s ∈ globs) (h4 : (Dd.tup (.str w :: r)).sz ≤ z) : Gz (n + 1) z U (.tup (.str w :: r)) := by
  have hl : (scopesW w r).length = (partsW w r).length := scopes_len (k := .tup (.str w :: r)) h1
  have hn : isN (n + 1) (.tup (.str w :: r)) = true := isN_mk h1 h2 fun p hp => by
    obtain ⟨x, hx⟩ := zip_mem hl hp
    exact (h3 _ hx).1
  refine ⟨hn, h4, fun s hs => ?_⟩
  rw [fr_eq (isN_T _ _ hn)] at hs
  rcases hs with e | ⟨q, hq, h5, h6⟩
  · exact (hw (var_word e)).elim
  · exact ((h3 q hq).2 s h6).elim (fun z => (h5 z).elim) id
theorem gz_num {U : List Str} {i : Int} (h0 : -1000000000000000 ≤ i) (h1 : i ≤ 1000000000000000) : Gz 1 3 U (.tup [.str "num", .int i]) := by
  refine gz_mk (by decide +kernel) ?_ (nice_other nw.1 nw.2.1) (fun q hq => ?_) (Nat.le_refl _)
  · rw [fw_num]
    show (decide (1 = 1) && (decide (-1000000000000000 ≤ i) && decide (i ≤ 1000000000000000))) = true
    rw [decide_eq_true h0, decide_eq_true h1]
    rfl
  · rw [pw_num, List.zip_nil_right] at hq
    cases hq
theorem tt_var {x : Str} (h : isName (.str x) = true) : isTT (varD x) = true := by
  rw [isTT_eq]
  show (formW "var" [.str x] && (partsW "var" [.str x]).all isTT) = true
  rw [fw_var, pw_var]
  show ((decide (1 = 1) && isName (.str x)) && true) = true
  rw [h]
  rfl
theorem gz_var {U : List Str} {x : Str} (h : isName (.str x) = true) (hx : x ∈ U ∨ x ∈ globs) : Gz 1 3 U (.tup [.str "var", .str x]) := by
  refine ⟨isN_mk ?_ (nice_other nw.2.2.1 nw.2.2.2.1) (fun p hp => by rw [pw_var] at hp; cases hp), Nat.le_refl _, fun s hs => ?_⟩
  · rw [fw_var]
    show (decide (1 = 1) && isName (.str x)) = true
    rw [h]
    rfl
  · have e := (fr_var (tt_var h)).mp hs
    rw [e]
    exact hx
theorem Gz.all {n z : Nat} {U : List Str} {k : Dd} (h : Gz n z U k) : isN n k = true ∧ ∀ s, fr k s → s ∈ ([] : List Str) ∨ s ∈ U ∨ s ∈ globs := ⟨h.ok, fun s hs => .inr (h.fri s hs)⟩
theorem Gz.under {n z : Nat} {U : List Str} {ns : List Str} {k : Dd} (h : Gz n z (ns ++ U) k) : isN n k = true ∧ ∀ s, fr k s → s ∈ ns ∨ s ∈ U ∨ s ∈ globs := ⟨h.ok, fun s hs => by
  rcases h.fri s hs with e | e
  · exact (List.mem_append.mp e).imp id .inl
  · exact .inr (.inr e)⟩
theorem gz_app {n y z : Nat} {U : List Str} {a b : Dd} (ha : Gz n y U a) (hb : Gz n z U b) : Gz (n + 1) (y + z + 2) U (.tup [.str "app", a, b]) := by
  have h1 := ha.sz
  have h2 := hb.sz
  refine gz_mk (by decide +kernel) (by rw [fw_app]; rfl) (nice_other nw.2.2.2.2.1 nw.2.2.2.2.2.1) (fun q hq => ?_) (by show 1 + (1 + (a.sz + (b.sz + 0))) ≤ _; omega)
  rw [sw_app, pw_app] at hq
  have hq : q ∈ [(([] : List Str), a), ([], b)] := hq
  simp only [List.mem_cons, List.not_mem_nil, or_false] at hq
  rcases hq with rfl | rfl
  · exact ha.all
  · exact hb.all
theorem gz_lam {n z : Nat} {U : List Str} {x : Str} {b : Dd} (hx : isName (.str x) = true) (hb : Gz n z (x :: U) b) : Gz (n + 1) (z + 3) U (.tup [.str "lam", .str x, b]) := by
  have h2 := hb.sz
  refine gz_mk (by decide +kernel) ?_ (nice_other nw.2.2.2.2.2.2.1 nw.2.2.2.2.2.2.2.1) (fun q hq => ?_) (by show 1 + (1 + (1 + (b.sz + 0))) ≤ _; omega)
  · rw [fw_lam]
    show (decide (2 = 2) && isName (.str x)) = true
    rw [hx]
    rfl
  · rw [sw_lam, pw_lam] at hq
    have hq : q ∈ [([x], b)] := hq
    rw [List.mem_singleton.mp hq]
    exact Gz.under (ns := [x]) hb
theorem gz_note {n z : Nat} {U : List Str} {i : Int} {b : Dd} (h0 : 0 ≤ i) (h1 : i ≤ 1000000000000) (hb : Gz n z U b) : Gz (n + 1) (z + 3) U (.tup [.str "note", .int i, b]) := by
  have h2 := hb.sz
  refine gz_mk (by decide +kernel) ?_ (nice_other nw.2.2.2.2.2.2.2.2.2.2.2.2.2.2.2.2.1 nw.2.2.2.2.2.2.2.2.2.2.2.2.2.2.2.2.2) (fun q hq => ?_) (by show 1 + (1 + (1 + (b.sz + 0))) ≤ _; omega)
  · rw [fw_note]
    show (decide (2 = 2) && (decide (0 ≤ i) && decide (i ≤ 1000000000000))) = true
    rw [decide_eq_true h0, decide_eq_true h1]
    rfl
  · rw [sw_note, pw_note] at hq
    have hq : q ∈ [(([] : List Str), b)] := hq
    rw [List.mem_singleton.mp hq]
    exact hb.all
theorem gz_seq {n y z : Nat} {U : List Str} {x : Str} {a b : Dd} (hx : isName (.str x) = true) (ha : Gz n y U a) (hb : Gz n z (x :: U) b) : Gz (n + 1) (y + z + 3) U (.tup [.str "seq", .str x, a, b]) := by
  have h1 := ha.sz
  have h2 := hb.sz
  refine gz_mk (by decide +kernel) ?_ (nice_other nw.2.2.2.2.2.2.2.2.2.2.1 nw.2.2.2.2.2.2.2.2.2.2.2.1) (fun q hq => ?_) (by show 1 + (1 + (1 + (a.sz + (b.sz + 0)))) ≤ _; omega)
  · rw [fw_seq]
    show (decide (3 = 3) && isName (.str x)) = true
    rw [hx]
    rfl
  · rw [sw_seq, pw_seq] at hq
    have hq : q ∈ [(([] : List Str), a), ([x], b)] := hq
    simp only [List.mem_cons, List.not_mem_nil, or_false] at hq
    rcases hq with rfl | rfl
    · exact ha.all
    · exact Gz.under (ns := [x]) hb
theorem gz_prim {n y z : Nat} {U : List Str} {x : Str} {a b : Dd} (hx : x ∈ signs) (ha : Gz n y U a) (hb : Gz n z U b) : Gz (n + 1) (y + z + 3) U (.tup [.str "prim", .str x, a, b]) := by
  have h1 := ha.sz
  have h2 := hb.sz
  refine gz_mk (by decide +kernel) ?_ (nice_other nw.2.2.2.2.2.2.2.2.2.2.2.2.2.2.1 nw.2.2.2.2.2.2.2.2.2.2.2.2.2.2.2.1) (fun q hq => ?_) (by show 1 + (1 + (1 + (a.sz + (b.sz + 0)))) ≤ _; omega)
  · rw [fw_prim]
    show (decide (3 = 3) && decide (x ∈ signs)) = true
    rw [decide_eq_true hx]
    rfl
  · rw [sw_prim, pw_prim] at hq
    have hq : q ∈ [(([] : List Str), a), ([], b)] := hq
    simp only [List.mem_cons, List.not_mem_nil, or_false] at hq
    rcases hq with rfl | rfl
    · exact ha.all
    · exact hb.all
theorem szs_le {z : Nat} : ∀ {l : List Dd}, (∀ k ∈ l, k.sz ≤ z) → Dd.szs l ≤ l.length * z
  | [], _ => Nat.zero_le _
  | k :: l, h => by
    have h1 := h k (List.mem_cons_self ..)
    have h2 := szs_le fun q hq => h q (List.mem_cons_of_mem _ hq)
    show k.sz + Dd.szs l ≤ (l.length + 1) * z
    rw [Nat.succ_mul]
    omega
theorem zip_map_l {α β γ : Type} (f : α → γ) : ∀ (l : List α) (m : List β), ∀ q ∈ (l.map f).zip m, ∃ a ∈ l, ∃ b ∈ m, q = (f a, b)
  | [], _, q, h => by cases h
  | a :: l, [], q, h => by cases h
  | a :: l, b :: m, q, h => by
    have h : q ∈ (f a, b) :: (l.map f).zip m := h
    rcases List.mem_cons.mp h with e | e
    · exact ⟨a, List.mem_cons_self .., b, List.mem_cons_self .., e⟩
    · obtain ⟨a', h1, b', h2, e'⟩ := zip_map_l f l m q e
      exact ⟨a', List.mem_cons_of_mem _ h1, b', List.mem_cons_of_mem _ h2, e'⟩
theorem gz_con {n z c : Nat} {U : List Str} {i : Int} {l : List Dd} (h0 : 0 ≤ i) (h1 : i ≤ 1000) (hl : l.length ≤ c) (h : ∀ k ∈ l, Gz n z U k) : Gz (n + 1) (c * z + 4) U (.tup [.str "con", .int i, .tup l]) := by
  have h2 := szs_le fun k hk => (h k hk).sz
  have h3 : l.length * z ≤ c * z := Nat.mul_le_mul_right _ hl
  refine gz_mk (by decide +kernel) ?_ (nice_other nw.2.2.2.2.2.2.2.2.2.2.2.2.1 nw.2.2.2.2.2.2.2.2.2.2.2.2.2.1) (fun q hq => ?_) (by show 1 + (1 + (1 + (1 + Dd.szs l + 0))) ≤ _; omega)
  · rw [fw_con]
    show (decide (2 = 2) && ((decide (0 ≤ i) && decide (i ≤ 1000)) && true)) = true
    rw [decide_eq_true h0, decide_eq_true h1]
    rfl
  · rw [sw_con, pw_con] at hq
    obtain ⟨a, ha, b, hb, rfl⟩ := zip_map_l _ _ _ q hq
    exact (h b hb).all
/-- names, all different -/
theorem areNames_of {zs : List Str} (h1 : ∀ z ∈ zs, isName (.str z) = true) (h2 : zs.Nodup) : areNames (nameT zs) = true := by
  show ((zs.map Dd.str).all isName && distK ((zs.map Dd.str).map keyD)) = true
  rw [Bool.and_eq_true]
  refine ⟨?_, dist_nodup ?_⟩
  · rw [List.all_map, List.all_eq_true]
    exact fun z hz => h1 z hz
  · rw [List.map_map]
    exact List.Pairwise.map _ (fun a b h e => h (Sum.inr.inj e)) h2
theorem zip_app {α β : Type} {l1 l2 : List α} {m1 m2 : List β} (h : l1.length = m1.length) : (l1 ++ l2).zip (m1 ++ m2) = l1.zip m1 ++ l2.zip m2 := List.zip_append h
theorem gz_let {n z c : Nat} {U : List Str} {zs : List Str} {l : List Dd} {b : Dd} (hz : ∀ x ∈ zs, isName (.str x) = true) (hn : zs.Nodup) (hlen : zs.length = l.length) (h0 : 0 < l.length) (hc : l.length ≤ c) (h : ∀ k ∈ l, Gz n z (zs ++ U) k) (hb : Gz n z (zs ++ U) b) : Gz (n + 1) (c * (z + 2) + z + 3) U (.tup [.str "let", .tup (rowsL zs l), b]) := by
  have h1 := hb.sz
  have h2 := szs_le fun k hk => (h k hk).sz
  have h3 : l.length * (z + 2) ≤ c * (z + 2) := Nat.mul_le_mul_right _ hc
  rw [Nat.mul_add] at h3
  have eN : (rowsL zs l).map (fun q => strOf (nth 0 q)) = zs := by
    have e := rowsL_names hlen
    have e2 := congrArg (List.map strOf) e
    rw [List.map_map, List.map_map] at e2
    have e3 : zs.map (strOf ∘ Dd.str) = zs.map id := List.map_congr_left fun _ _ => rfl
    rw [e3, List.map_id] at e2
    exact e2
  refine gz_mk (by decide +kernel) ?_ (nice_other nw.2.2.2.2.2.2.2.2.1 nw.2.2.2.2.2.2.2.2.2.1) (fun q hq => ?_) (by show 1 + (1 + (1 + Dd.szs (rowsL zs l) + (b.sz + 0))) ≤ _; rw [rowsL_sz hlen]; omega)
  · rw [fw_let]
    show (decide (2 = 2) && (rowsL zs l).all (isRow 2) && (decide (0 < (rowsL zs l).length) && areNames (.tup ((rowsL zs l).map (nth 0))))) = true
    rw [rowsL_two, rowsL_names hlen, rowsL_len hlen, decide_eq_true h0, show areNames (.tup (zs.map Dd.str)) = true from areNames_of hz hn]
    rfl
  · rw [sw_let, pw_let] at hq
    have hq : q ∈ ((rowsL zs l).map (fun _ => (rowsL zs l).map fun q => strOf (nth 0 q)) ++ [(rowsL zs l).map fun q => strOf (nth 0 q)]).zip ((rowsL zs l).map (nth 1) ++ [b]) := hq
    rw [eN, rowsL_terms hlen, zip_app (by rw [List.length_map, rowsL_len hlen])] at hq
    rcases List.mem_append.mp hq with e | e
    · obtain ⟨a, ha, k, hk, rfl⟩ := zip_map_l _ _ _ q e
      exact (h k hk).under
    · have e : q ∈ [(zs, b)] := e
      rw [List.mem_singleton.mp e]
      exact hb.under
/-- a default: none, or a name and a term -/
structure DfOk (n z : Nat) (U : List Str) (o : Option (Str × Dd)) : Prop where
  ok : ∀ q, o = some q → nameOk q.1 ∧ Gz n z (q.1 :: U) q.2
theorem dfl_good {n z : Nat} {U : List Str} {o : Option (Str × Dd)} (h : DfOk n z U o) : isDflt (dfl o) = true ∧ kindTup (dfl o) = false ∧ (dfl o).sz ≤ z + 2 ∧ ∀ q ∈ (dfltNs (dfl o)).zip (dfltP (dfl o)), isN n q.2 = true ∧ ∀ s, fr q.2 s → s ∈ q.1 ∨ s ∈ U ∨ s ∈ globs := by
  cases o with
  | none => exact ⟨rfl, rfl, by show 1 ≤ _; omega, fun q h => by cases h⟩
  | some q =>
    obtain ⟨⟨h1, h2⟩, h3⟩ := h.ok q rfl
    have h4 := h3.sz
    refine ⟨by show (true && isName (.str q.1)) = true; rw [h1]; rfl, decide_eq_false h2, by show 1 + (1 + (q.2.sz + 0)) ≤ _; omega, fun y hy => ?_⟩
    have hy : y ∈ [([q.1], q.2)] := hy
    rw [List.mem_singleton.mp hy]
    exact Gz.under (ns := [q.1]) h3
theorem szs_Cz {z : Nat} : ∀ {l : List (Int × List Str × Dd)}, (∀ q ∈ l, q.2.1.length ≤ 2 ∧ q.2.2.sz ≤ z) → Dd.szs (rowsC l) ≤ l.length * (z + 5)
  | [], _ => Nat.zero_le _
  | q :: l, h => by
    obtain ⟨h1, h2⟩ := h q (List.mem_cons_self ..)
    have h3 := szs_Cz fun q hq => h q (List.mem_cons_of_mem _ hq)
    have h4 := szs_strs q.2.1
    show (1 + (1 + ((1 + Dd.szs (q.2.1.map Dd.str)) + (q.2.2.sz + 0)))) + Dd.szs (rowsC l) ≤ (l.length + 1) * (z + 5)
    rw [Nat.succ_mul]
    omega
theorem szs_Pz {z : Nat} : ∀ {l : List (Int × Dd)}, (∀ q ∈ l, q.2.sz ≤ z) → Dd.szs (rowsP l) ≤ l.length * (z + 5)
  | [], _ => Nat.zero_le _
  | q :: l, h => by
    have h2 := h q (List.mem_cons_self ..)
    have h3 := szs_Pz fun q hq => h q (List.mem_cons_of_mem _ hq)
    show (1 + (1 + (q.2.sz + 0))) + Dd.szs (rowsP l) ≤ (l.length + 1) * (z + 5)
    rw [Nat.succ_mul]
    omega
theorem dflt_lenz {n z : Nat} {U : List Str} {o : Option (Str × Dd)} (h : DfOk n z U o) : (dfltNs (dfl o)).length = (dfltP (dfl o)).length := dflt_len (dfl_good h).1
theorem gz_case {n z : Nat} {U : List Str} {f : Dd} {l : List (Int × List Str × Dd)} {o : Option (Str × Dd)} (hf : Gz n z U f) (hl : l.length ≤ 2) (h : ∀ q ∈ l, 0 ≤ q.1 ∧ q.1 ≤ 1000 ∧ (∀ x ∈ q.2.1, isName (.str x) = true) ∧ q.2.1.Nodup ∧ q.2.1.length ≤ 2 ∧ Gz n z (q.2.1 ++ U) q.2.2) (ho : DfOk n z U o) :
    Gz (n + 1) (4 * z + 20) U (.tup [.str "case", f, .tup (rowsC l), dfl o]) := by
  have h1 := hf.sz
  have h2 := szs_Cz (z := z) (l := l) fun q hq => ⟨(h q hq).2.2.2.2.1, (h q hq).2.2.2.2.2.sz⟩
  have h4 : l.length * (z + 5) ≤ 2 * (z + 5) := Nat.mul_le_mul_right _ hl
  obtain ⟨k1, k2, k3, k4⟩ := dfl_good ho
  refine gz_mk (by decide +kernel) ?_ ?_ (fun q hq => ?_) (by show 1 + (1 + (f.sz + (1 + Dd.szs (rowsC l) + ((dfl o).sz + 0)))) ≤ _; omega)
  · rw [fw_case]
    show (decide (3 = 3) && (rowsC l).all (isRow 3) && isDflt (dfl o) && (rowsC l).all fun q => numIn 0 1000 (nth 0 q) && areNames (nth 1 q)) = true
    rw [k1, show (rowsC l).all (isRow 3) = true by unfold rowsC; rw [List.all_map, List.all_eq_true]; exact fun q _ => rfl,
      show ((rowsC l).all fun q => numIn 0 1000 (nth 0 q) && areNames (nth 1 q)) = true by
        unfold rowsC
        rw [List.all_map, List.all_eq_true]
        intro q hq
        obtain ⟨g1, g2, g3, g4, g5, g6⟩ := h q hq
        show ((decide (0 ≤ q.1) && decide (q.1 ≤ 1000)) && areNames (nameT q.2.1)) = true
        rw [decide_eq_true g1, decide_eq_true g2, areNames_of g3 g4]
        rfl]
    rfl
  · unfold niceW
    rw [if_pos rfl]
    show (!kindTup (dfl o)) = true
    rw [k2]
    rfl
  · rw [sw_case, pw_case] at hq
    have hq : q ∈ ([] :: ((rowsC l).map (fun q => strsOf (nth 1 q)) ++ dfltNs (dfl o))).zip (f :: ((rowsC l).map lastD ++ dfltP (dfl o))) := hq
    rw [List.zip_cons_cons, zip_app (by rw [List.length_map, List.length_map])] at hq
    rcases List.mem_cons.mp hq with e | e
    · rw [e]; exact hf.all
    rcases List.mem_append.mp e with e | e
    · have e : q ∈ (l.map fun q => ((q.2.1.map Dd.str).map strOf, q.2.2)) := by
        have z : ((rowsC l).map (fun q => strsOf (nth 1 q))).zip ((rowsC l).map lastD) = l.map fun q => ((q.2.1.map Dd.str).map strOf, q.2.2) := by
          unfold rowsC
          rw [List.map_map, List.map_map, List.zip_map']
          rfl
        rwa [z] at e
      obtain ⟨y, hy, rfl⟩ := List.mem_map.mp e
      have es : (y.2.1.map Dd.str).map strOf = y.2.1 := by
        rw [List.map_map]
        exact List.map_id _
      show isN n y.2.2 = true ∧ ∀ s, fr y.2.2 s → s ∈ (y.2.1.map Dd.str).map strOf ∨ _
      rw [es]
      exact (h y hy).2.2.2.2.2.under
    · exact k4 q e
theorem gz_pick {n z : Nat} {U : List Str} {f : Dd} {l : List (Int × Dd)} {o : Option (Str × Dd)} (hf : Gz n z U f) (hl : l.length ≤ 2) (h : ∀ q ∈ l, -10 ≤ q.1 ∧ q.1 ≤ 10 ∧ Gz n z U q.2) (hn : (l.map (·.1)).Nodup) (ho : DfOk n z U o) :
    Gz (n + 1) (4 * z + 20) U (.tup [.str "pick", f, .tup (rowsP l), dfl o]) := by
  have h1 := hf.sz
  have h2 := szs_Pz (z := z) (l := l) fun q hq => (h q hq).2.2.sz
  have h4 : l.length * (z + 5) ≤ 2 * (z + 5) := Nat.mul_le_mul_right _ hl
  obtain ⟨k1, k2, k3, k4⟩ := dfl_good ho
  have e1 : ((rowsP l).map (nth 0)) = l.map fun q => Dd.int q.1 := by unfold rowsP; rw [List.map_map]; rfl
  refine gz_mk (by decide +kernel) ?_ ?_ (fun q hq => ?_) (by show 1 + (1 + (f.sz + (1 + Dd.szs (rowsP l) + ((dfl o).sz + 0)))) ≤ _; omega)
  · rw [fw_pick]
    show (decide (3 = 3) && (rowsP l).all (isRow 2) && isDflt (dfl o) && (((rowsP l).map (nth 0)).all cNum && distK (((rowsP l).map (nth 0)).map keyD))) = true
    rw [k1, e1, show (rowsP l).all (isRow 2) = true by unfold rowsP; rw [List.all_map, List.all_eq_true]; exact fun q _ => rfl,
      show ((l.map fun q => Dd.int q.1).all cNum) = true by
        rw [List.all_map, List.all_eq_true]
        intro q hq
        obtain ⟨g1, g2, g3⟩ := h q hq
        show (decide (-1000000000000000 ≤ q.1) && decide (q.1 ≤ 1000000000000000)) = true
        rw [decide_eq_true (by omega), decide_eq_true (by omega)]
        rfl,
      dist_nodup (by rw [List.map_map]; exact (List.pairwise_map.mpr ((List.pairwise_map.mp hn).imp fun hab e => hab (Sum.inl.inj e))))]
    rfl
  · unfold niceW
    rw [if_neg (by decide +kernel), if_pos rfl]
    show (!kindTup (dfl o)) = true
    rw [k2]
    rfl
  · rw [sw_pick, pw_pick] at hq
    have hq : q ∈ ([] :: ((rowsP l).map (fun _ => ([] : List Str)) ++ dfltNs (dfl o))).zip (f :: ((rowsP l).map lastD ++ dfltP (dfl o))) := hq
    rw [List.zip_cons_cons, zip_app (by rw [List.length_map, List.length_map])] at hq
    rcases List.mem_cons.mp hq with e | e
    · rw [e]; exact hf.all
    rcases List.mem_append.mp e with e | e
    · obtain ⟨a, ha, k, hk, rfl⟩ := zip_map_l _ _ _ q e
      obtain ⟨y, hy, rfl⟩ := List.mem_map.mp hk
      unfold rowsP at hy
      obtain ⟨y', hy', rfl⟩ := List.mem_map.mp hy
      exact (h y' hy').2.2.all
    · exact k4 q e
/-! ### rows of texts are equal -/
theorem name_okS {x : Str} (h : isName (.str x) = true) : PyData.strOk x = true := by
  have h : ((decide (1 ≤ x.length) && decide (x.length ≤ 80)) && x.cps.toList.all fun c => decide (33 ≤ c) && decide (c ≤ 126) && decide (c ≠ 37)) = true := h
  have h2 := List.all_eq_true.mp (fand h).2
  unfold PyData.strOk
  rw [Array.all_eq_true_iff_forall_mem]
  intro c hc
  have h3 := h2 c (Array.mem_toList_iff.mpr hc)
  have := of_decide_eq_true (fand (fand h3).1).2
  exact decide_eq_true (by omega)
theorem strs_dp {K : PySem.W.Frag} {H : Hp} : ∀ ks : List Str, DpAll K H (ks.map V.str) (ks.map PyData.str)
  | [] => .nil
  | s :: ks => .cons (.str s) (strs_dp ks)
theorem strs_lay : ∀ ks : List Str, (∀ k ∈ ks, PyData.strOk k = true) → PyData.canLayAll0 (ks.map PyData.str) = true
  | [], _ => by simp [PyData.canLayAll0]
  | s :: ks, h => by
    have z := strs_lay ks fun k hk => h k (List.mem_cons_of_mem _ hk)
    have z2 : PyData.strOk s = true := h s (List.mem_cons_self ..)
    simp [PyData.canLayAll0, PyData.canLay0, z, z2]
theorem strs_depth : ∀ ks : List Str, PyData.depthAll (ks.map PyData.str) ≤ 1
  | [] => by simp [PyData.depthAll]
  | s :: ks => by
    have z := strs_depth ks
    simp [PyData.depthAll, PyData.depth]
    omega
theorem strs_shaped {ks : List Str} (h : ∀ k ∈ ks, isName (.str k) = true) : SeqAt.shaped (.list (ks.map PyData.str)) = true := by
  have z := strs_lay ks fun k hk => name_okS (h k hk)
  have z2 := strs_depth ks
  unfold SeqAt.shaped
  rw [Bool.and_eq_true]
  refine ⟨by simp [PyData.canLay0, z], decide_eq_true ?_⟩
  have z3 : (PyData.list (ks.map PyData.str)).depth ≤ 1 + PyData.depthAll (ks.map PyData.str) := by simp [PyData.depth]; omega
  omega
theorem strs_eq {ks : List Str} (h : ∀ k ∈ ks, isName (.str k) = true) : PyData.eqv (.list (ks.map PyData.str)) (.list (ks.map PyData.str)) = true :=
  SeqAt.eqv_refl _ (by
    have z := strs_lay ks fun k hk => name_okS (h k hk)
    simp [PyData.canLay0, z])
theorem strs_nil {ks : List Str} : PyData.eqv (.list (ks.map PyData.str)) (.list []) = decide (ks = []) := by
  cases ks with
  | nil => simp [PyData.eqv, PyData.eqvAll]
  | cons x r => simp [PyData.eqv, PyData.eqvAll]
end Toy

set_option Elab.async false
set_option linter.all false
set_option maxRecDepth 100000
set_option maxHeartbeats 4000000
/-! Part W: typed terms drawn: new names, variables, numbers, leaves. -/
namespace Toy
open PySem L2
open PyProof.Rows (envOfC)
theorem nk_rn : ¬ (Sum.inr ("row" : Str) : Key) = Sum.inr ("names" : Str) := by decide +kernel
theorem nk_an : ¬ (Sum.inr ("at" : Str) : Key) = Sum.inr ("names" : Str) := by decide +kernel
theorem dk_names (r : Addr) (i n l : Int) : valV (dk4 r i n l) (Sum.inr "names" : Key) = some (.int n) := (valV_neg nk_rn).trans ((valV_neg nk_an).trans (valV_pos rfl))
theorem dk_putn (r : Addr) (i n l j : Int) : putK (dk4 r i n l) (Sum.inr "names" : Key) (.int j) = dk4 r i j l := by
  have h1 : ¬ ("row" : Str) = "names" := by decide +kernel
  have h2 : ¬ ("at" : Str) = "names" := by decide +kernel
  have h3 : ¬ ("left" : Str) = "names" := by decide +kernel
  simp [putK, dk4, h1, h2, h3]
structure TxtY (mg : Str → Option Value) : Prop where
  zlen : mg "len" = none
  zmin : mg "min" = none
  zstr : mg "str" = none
  zint : mg "int" = none
  zlist : mg "list" = none
  ztuple : mg "tuple" = none
  zrange : mg "range" = none
  zreversed : mg "reversed" = none
/-- a scope: names and their kinds, in a list of pairs -/
def scD (q : Str × Str) : Dd := .tup [.str q.1, .str q.2]
structure ScAt (H : Hp) (sc : Addr) (S : List (Str × Str)) : Prop where
  at' : ∃ xs, H sc = some (.lst xs) ∧ Dd.Ats F0 H (S.map scD) xs
  ok : ∀ q ∈ S, nameOk q.1 ∧ q.2.length ≤ 1000
def sn (S : List (Str × Str)) : List Str := S.map (·.1)
theorem ScAt.keep {p r sc : Addr} {C : Nat} {S : List (Str × Str)} {H H' : Hp} (h : ScAt H sc S) (k : Keep p H H') (d : DAt H p r C) : ScAt H' sc S := by
  obtain ⟨xs, h1, h2⟩ := h.at'
  exact ⟨⟨xs, k _ _ (d.ne_list h1) h1, h2.keep (fr_keep k d)⟩, h.ok⟩
theorem ScAt.same {sc : Addr} {S : List (Str × Str)} {H H' : Hp} (h : ScAt H sc S) (s : Same H H') : ScAt H' sc S := by
  obtain ⟨xs, h1, h2⟩ := h.at'
  exact ⟨⟨xs, s _ _ h1, h2.keep (fr_same s)⟩, h.ok⟩
theorem sc_ext {H G : Hp} {sc t : Addr} {S : List (Str × Str)} {xs : List V} {x kd : Str} (hats : Dd.Ats F0 H (S.map scD) xs) (hok : ∀ q ∈ S, nameOk q.1 ∧ q.2.length ≤ 1000) (s : Same H G) (ht : G t = some (.tup [.str x, .str kd])) (h2 : G sc = some (.lst (xs ++ [.ref t]))) (hx : nameOk x) (hk : kd.length ≤ 1000) : ScAt G sc (S ++ [(x, kd)]) :=
  ⟨⟨_, h2, by
    rw [List.map_append]
    exact ats_app (hats.keep (fr_same s)) (ats_one (at_tup ht (ats_cons (at_str' hx.len) (ats_cons (at_str' hk) ats_nil)) : (scD (x, kd)).At F0 G (.ref t)))⟩, fun q hq => by
    rcases List.mem_append.mp hq with e | e
    · exact hok q e
    · rw [List.mem_singleton.mp e]
      exact ⟨hx, hk⟩⟩
theorem sn_snoc {S : List (Str × Str)} {x kd s : Str} (h : s ∈ sn (S ++ [(x, kd)])) : s ∈ x :: sn S := by
  unfold sn at h ⊢
  rw [List.map_append] at h
  rcases List.mem_append.mp h with e | e
  · exact List.mem_cons_of_mem _ e
  · have e : s ∈ [x] := e
    rw [List.mem_singleton.mp e]; exact List.mem_cons_self ..
theorem sn_snoc2 {S : List (Str × Str)} {x y k1 k2 s : Str} (h : s ∈ sn (S ++ [(x, k1), (y, k2)])) : s ∈ [x, y] ++ sn S := by
  unfold sn at h ⊢
  rw [List.map_append] at h
  rcases List.mem_append.mp h with e | e
  · exact List.mem_append_right _ e
  · exact List.mem_append_left _ e
section
variable {P : Program} {w : World} {K : PySem.W.Frag} {mg : Str → Option Value} {base : Heap}
abbrev sFresh : Stmt := topS 33
theorem scFresh : FnScope ["d"] ["d"] (defScope sFresh) := ⟨rfl, rfl, rfl, by decide +kernel, rfl, by decide +kernel, by decide +kernel⟩
def spFresh : Sp := fun vs H Q _ => ∃ (p r : Addr) (B : Nat), vs = [.ref p] ∧ DAt H p r B ∧ B ≤ 1000000000 ∧ ∀ (x : Str) (H' : Hp), nameOk x → Keep p H H' → DAt H' p r (B + 1) → Q (.str x) H'
theorem c_fresh {f : Addr} {fd : FuncData} (T : TxtY mg) (F : Fun K "_law_fresh" "_law_fresh" sFresh f fd) (b : Binds K fd ["d"] []) (hm : mg "_law_fresh" = some (.ref f)) : C8.Cal P w K mg base 1 "_law_fresh" spFresh [] := by
  refine cal_of F hm b scFresh (fun vs H Q E h => ?_) (fun cdv A outer s H vs Q E hr h => ?_)
  · obtain ⟨p, r, B, rfl, _⟩ := h
    rfl
  obtain ⟨p, r, B, rfl, ⟨row, i, n, l, hp, hrow, ok, hi, hn0, hn1⟩, hB, q⟩ := h
  have hu := hu_of hr
  have npr : r ≠ p := ne_of hrow hp (by intro z; cases z)
  refine ⟨_, (pss_cons (ps_dput hu (pv 0) pe_str (pe_op op_add (pe_dget hu (pv 0) pe_str (fun _ _ => rfl)) pe_int) rfl)
    (pss_one (ps_ret (pe_op op_add_str pe_str (pe_callTy call_str_int rfl T.zstr boot_str (pa_cons (pe_dget hu (pv 0) pe_str (fun _ _ => rfl)) pa_nil)))))), ?_⟩
  refine ⟨_, rfl, p, _, rfl, (dk_names r _ _ _ ▸ DGet.k (k := Sum.inr "names") hp), _, _, rfl, rfl, _, rfl, p, _, rfl, DPut.k (k := Sum.inr "names") hp (by show 4 < sizeLine; decide), ?_⟩
  rw [dk_putn]
  have hp2 : upd H p (.dK (dk4 r (i : Int) (n + 1) l)) p = some (.dK (dk4 r (i : Int) (n + 1) l)) := upd_same
  have k2 : Keep p H (upd H p (.dK (dk4 r (i : Int) (n + 1) l))) := fun b o hb e => by rw [upd_ne hb]; exact e
  have d2 : DAt (upd H p (.dK (dk4 r (i : Int) (n + 1) l))) p r (B + 1) := ⟨row, i, n + 1, l, hp2, by rw [upd_ne npr]; exact hrow, ok, by omega⟩
  have hx := xN_ok (n := n + 1) (by omega) (by omega)
  have hl : (Str.ofString (toString (n + 1))).length ≤ 10 := PySem.W.KT.len_num (by omega) (by omega)
  have hlog : (n + 1).natAbs.log2 < 1920 := (Nat.log2_lt (by omega)).mpr (Nat.lt_of_lt_of_le (show (n + 1).natAbs < 2 ^ 34 by omega) (Nat.pow_le_pow_right (by decide) (by decide)))
  refine ⟨_, rfl, p, _, rfl, (dk_names r _ _ _ ▸ DGet.k (k := Sum.inr "names") hp2), _, rfl, hlog, _, _, rfl, rfl, ?_, q _ _ hx k2 d2⟩
  have := big
  show 1 + _ ≤ _
  omega
abbrev sVar : Stmt := topS 39
theorem scVar : FnScope ["d", "scope", "kind", "found", "name", "other"] ["d", "scope", "kind"] (defScope sVar) := ⟨rfl, rfl, rfl, by decide +kernel, rfl, by decide +kernel, by decide +kernel⟩
def spVar : Sp := fun vs H Q _ => ∃ (p r sc : Addr) (B : Nat) (S : List (Str × Str)) (kd : Str), vs = [.ref p, .ref sc, .str kd] ∧ DAt H p r B ∧ ScAt H sc S ∧ S.length ≤ 1000 ∧ ∀ (v : V) (H' : Hp), Keep p H H' → DAt H' p r (B + 1) → (v = .non ∨ ∃ (t : Addr) (x : Str), v = .ref t ∧ H' t = some (.tup [.str "var", .str x]) ∧ x ∈ sn S ∧ nameOk x) → Q v H'
theorem c_var {f : Addr} {fd : FuncData} (T : TxtY mg) (c_law_take : C8.Cal P w K mg base 1 "_law_take" spTake []) (F : Fun K "_law_var" "_law_var" sVar f fd) (b : Binds K fd ["d", "scope", "kind"] []) (hm : mg "_law_var" = some (.ref f)) : C8.Cal P w K mg base 2 "_law_var" spVar [] := by
  refine cal_of F hm b scVar (fun vs H Q E h => ?_) (fun cdv A outer s H vs Q E hr h => ?_)
  · obtain ⟨p, r, sc, B, S, kd, rfl, _⟩ := h
    rfl
  obtain ⟨p, r, sc, B, S, kd, rfl, d0, ⟨⟨xs, hsc, hats⟩, hok⟩, hSl, q⟩ := h
  have hu := hu_of hr
  have hu64 := hr.units
  refine ⟨_, (pss_cons (ps_setLc (i := 3) (own := [("name", 4), ("other", 5)]) (g := gTup K 2 (gCons (gName 4) (gCons (gName 5) (gNil)))) (tt := (tTest (tOp rEq (tVar 5) (tVar 2)))) (te := (tVar 4)) rfl scVar.nd rfl rfl (sw_true rfl rfl rfl (by decide +kernel)) (pi_list (pv 1)) (blkOk_by (own := [("name", 4), ("other", 5)]) (N := ["d", "scope", "kind", "found", "name", "other"]) (sc := defScope sVar) (by decide +kernel)) (fun _ _ _ _ _ => (pg_tup rfl (pgs_cons (pg_name (i := 4) scVar.nd rfl (Or.inl rfl)) (pgs_cons (pg_name (i := 5) scVar.nd rfl (Or.inl rfl)) pgs_nil)))) (fun _ _ _ _ _ => pts_one (pt_cmpR op_eq (pv 5) (pv 2) (nomark _))) (fun _ _ _ _ _ => (pv 4)))
    (pss_cons (ps_if (pt_cmpR (op_eqD hu64) (pv 3) (pe_lst pa_nil) (nomark _))
      (pss_one (ps_ret pe_non))
      pss_nil)
    (pss_one (ps_ret (pe_tup (pa_cons pe_str (pa_cons (pe_ix ix_list (pv 3) (pe_op op_sub (pe_op op_sub (pe_callB call_len_seq rfl T.zlen PySem.boot_len (pa_cons (pv 3) pa_nil)) pe_int) (pe_op op_mod (C8.pe_c c_law_take hr (by decide) rfl (pa_cons (pv 0) pa_nil)) (pe_callB (call_min2 rfl) rfl T.zmin boot_min (pa_cons (pe_callB call_len_seq rfl T.zlen PySem.boot_len (pa_cons (pv 3) pa_nil)) (pa_cons pe_int pa_nil))))) (fun _ _ => rfl)) pa_nil))))))), ?_⟩
  have hxl := ats_len hats
  rw [List.length_map] at hxl
  refine ⟨_, rfl, sc, rfl, ⟨_, SqL.of hsc⟩, fun D hD => ?_⟩
  refine lc_list (a := sc) (xs := xs) (fun i G => Same H G ∧ ∃ ys : List Str, G D = some (.lst (ys.map V.str)) ∧ ys.length ≤ i ∧ ∀ y ∈ ys, y ∈ sn S ∧ nameOk y) ⟨same_new hD _, [], upd_same, Nat.le_refl _, fun y h => absurd h List.not_mem_nil⟩ (fun i G hi ⟨h, _⟩ => SqL.of (h _ _ hsc)) ?_ ?_
  · rintro i x G hx ⟨h1, ys, h2, h3, h4⟩
    obtain ⟨kk, hk, hkx⟩ := ats_get hats hx
    rw [List.getElem?_map] at hk
    cases hq : S[i]? with
    | none => rw [hq] at hk; cases hk
    | some qq =>
      rw [hq] at hk
      cases hk
      have hil : i < S.length := (List.getElem?_eq_some_iff.mp hq).1
      have hqm := List.mem_of_getElem? hq
      obtain ⟨t, x1, y1, rfl, ht, hx1, hy1⟩ := pair_at (m := [.str qq.1, .str qq.2]) hkx rfl
      obtain ⟨rfl, _⟩ := (show x1 = .str qq.1 ∧ _ from hx1)
      obtain ⟨rfl, _⟩ := (show y1 = .str qq.2 ∧ _ from hy1)
      refine ⟨t, _, rfl, SqT.of (h1 _ _ ht), rfl, _, _, rfl, _, _, rfl, rfl, rfl, ?_⟩
      refine ⟨_, rfl, _, rfl, rfl, _, rfl, ?_⟩
      show if decide (V.str qq.2 = V.str kd) = true then _ else _
      rcases Bool.eq_false_or_eq_true (decide (V.str qq.2 = V.str kd)) with c | c
      · rw [c]
        refine iteT ?_
        refine ⟨_, rfl, _, h2, by rw [List.length_map]; exact szl (by omega), same_upd hD h1 _, ys ++ [qq.1], by rw [upd_same, List.map_append]; rfl, by rw [List.length_append]; show _ + 1 ≤ _; omega, fun y hy => ?_⟩
        rcases List.mem_append.mp hy with e | e
        · exact h4 y e
        · rw [List.mem_singleton.mp e]
          exact ⟨List.mem_map.mpr ⟨qq, hqm, rfl⟩, (hok qq hqm).1⟩
      · rw [c]
        refine iteF ?_
        exact ⟨h1, ys, h2, by omega, h4⟩
  rintro G ⟨s1, ys, hys, hyl, hyn⟩
  have hnm : ∀ y ∈ ys, isName (.str y) = true := fun y hy => (hyn y hy).2.1
  refine ⟨_, rfl, by show 0 ≤ sizeLine; decide, fun l0 hl0 => ?_⟩
  have s2 := same_new hl0 (.lst [])
  have e2 : upd G l0 (.lst []) l0 = some (.lst (([] : List Str).map V.str)) := upd_same
  have hys2 := s2 _ _ hys
  generalize upd G l0 (.lst []) = G2 at s2 e2 hys2 ⊢
  have d2 := d0.same (sameT s1 s2)
  refine ⟨_, _, .lst (SqL.of hys2) (strs_dp ys), .lst (SqL.of e2) (strs_dp []), strs_shaped hnm, strs_shaped (fun y h => absurd h List.not_mem_nil), _, rfl, ?_⟩
  show if PyData.eqv (.list (ys.map PyData.str)) (.list []) = true then _ else _
  rw [strs_nil]
  have sA := sameT s1 s2
  by_cases c : ys = []
  · rw [decide_eq_true c]
    refine iteT ?_
    exact q .non G2 (Keep.same sA) (d2.more (by omega)) (.inl rfl)
  rw [decide_eq_false c]
  refine iteF ?_
  have hpos : 0 < ys.length := List.length_pos_iff.mpr c
  refine ⟨_, rfl, _, rfl, D, _, rfl, .inl (SqL.of hys2), ?_⟩
  refine ⟨_, _, rfl, rfl, _, rfl, p, r, B, rfl, d2, fun n H3 n0 n1 k3 d3 => ?_⟩
  have hys3 := k3 _ _ (d2.ne_list hys2) hys2
  refine ⟨_, rfl, D, _, rfl, .inl (SqL.of hys3), _, _, rfl, ?_⟩
  rw [List.length_map]
  have hm0 : (0 : Int) < (if (5 : Int) < (ys.length : Int) then 5 else (ys.length : Int)) := by split <;> omega
  have hm1 : (if (5 : Int) < (ys.length : Int) then 5 else (ys.length : Int)) ≤ (ys.length : Int) := by split <;> omega
  generalize (if (5 : Int) < (ys.length : Int) then 5 else (ys.length : Int)) = mm at hm0 hm1 ⊢
  have g0 := Int.emod_nonneg n (show mm ≠ 0 by omega)
  have g1 := Int.emod_lt_of_pos n hm0
  obtain ⟨z, hz, ez⟩ := at_str (zs := ys) (i := (ys.length : Int) - 1 - n % mm) (by omega) (by omega)
  refine ⟨_, _, rfl, rfl, hm0, _, _, rfl, rfl, D, _, _, _, rfl, rfl, SqL.of hys3, ez, by show 2 ≤ sizeLine; decide, fun t ht => ?_⟩
  have s4 := same_new ht (.tup [.str "var", .str z])
  exact q _ _ (((Keep.same sA).trans k3).trans (Keep.same s4)) (d3.same s4) (.inr ⟨t, z, rfl, upd_same, (hyn z hz).1, (hyn z hz).2⟩)
def nums : List Int := [0, 1, 2, 3, 4, 5, 7, -1, -3, 10, 100, 10 ^ (15 : Int).toNat, 10 ^ (8 : Int).toNat, 3 * 10 ^ (7 : Int).toNat, 6, 2]
theorem nums_ok : ∀ z ∈ nums, -1000000000000000 ≤ z ∧ z ≤ 1000000000000000 := by decide +kernel
abbrev sNum : Stmt := topS 40
theorem scNum : FnScope ["d", "numbers"] ["d"] (defScope sNum) := ⟨rfl, rfl, rfl, by decide +kernel, rfl, by decide +kernel, by decide +kernel⟩
def spNum : Sp := fun vs H Q _ => ∃ (p r : Addr) (B : Nat), vs = [.ref p] ∧ DAt H p r B ∧ ∀ (v : V) (k : Dd) (H' : Hp), Keep p H H' → DAt H' p r (B + 1) → k.At F0 H' v → (∀ U, Gz 1 3 U k) → Q v H'
theorem c_num {f : Addr} {fd : FuncData} (c_law_take : C8.Cal P w K mg base 1 "_law_take" spTake []) (F : Fun K "_law_number" "_law_number" sNum f fd) (b : Binds K fd ["d"] []) (hm : mg "_law_number" = some (.ref f)) : C8.Cal P w K mg base 2 "_law_number" spNum [] := by
  refine cal_of F hm b scNum (fun vs H Q E h => ?_) (fun cdv A outer s H vs Q E hr h => ?_)
  · obtain ⟨p, r, B, rfl, _⟩ := h
    rfl
  obtain ⟨p, r, B, rfl, d0, q⟩ := h
  refine ⟨_, (pss_cons (ps_set (i := 1) scNum.nd rfl (Or.inl rfl) (pe_lst (pa_cons pe_int (pa_cons pe_int (pa_cons pe_int (pa_cons pe_int (pa_cons pe_int (pa_cons pe_int (pa_cons pe_int (pa_cons (pe_un un_neg pe_int) (pa_cons (pe_un un_neg pe_int) (pa_cons pe_int (pa_cons pe_int (pa_cons (pe_op op_pow pe_int pe_int) (pa_cons (pe_op op_pow pe_int pe_int) (pa_cons (pe_op op_mul pe_int (pe_op op_pow pe_int pe_int)) (pa_cons pe_int (pa_cons pe_int pa_nil))))))))))))))))))
    (pss_one (ps_ret (pe_tup (pa_cons pe_str (pa_cons (pe_ix ix_list (pv 1) (pe_op op_mod (C8.pe_c c_law_take hr (by decide) rfl (pa_cons (pv 0) pa_nil)) pe_int) (fun _ _ => rfl)) pa_nil)))))), ?_⟩
  refine ⟨_, rfl, _, rfl, _, _, rfl, rfl, (by unfold CPow; decide), _, _, rfl, rfl, (by unfold CPow; decide), _, _, rfl, rfl, (by unfold CPow; decide), _, _, rfl, rfl, (by unfold CMul; decide), by show 16 ≤ sizeLine; decide, fun lz hlz => ?_⟩
  have s2 := same_new hlz (.lst (nums.map V.int))
  have e2 : upd H lz (.lst (nums.map V.int)) lz = some (.lst (nums.map V.int)) := upd_same
  have d2 := d0.same s2
  refine ⟨_, rfl, _, rfl, p, r, _, rfl, d2, fun n2 H2 n20 n21 k3 d3 => ?_⟩
  obtain ⟨z, hz, ez⟩ := at_intN (ns := nums) (i := n2 % 16) (Int.emod_nonneg _ (by decide)) (by show n2 % 16 < 16; exact Int.emod_lt_of_pos _ (by decide))
  refine ⟨_, _, rfl, rfl, (show (0 : Int) < 16 by decide), lz, _, _, _, rfl, rfl, SqL.of (k3 _ _ (d2.ne_list e2) e2), ez, ?_⟩
  refine ⟨by show 2 ≤ sizeLine; decide, fun t ht => ?_⟩
  have s3 := same_new ht (.tup [.str "num", .int z])
  exact q _ (.tup [.str "num", .int z]) _ (((Keep.same s2).trans k3).trans (Keep.same s3)) (d3.same s3) (at_tup upd_same (ats_cons (at_str' (by decide +kernel)) (ats_cons at_int' ats_nil))) fun U => gz_num (nums_ok z hz).1 (nums_ok z hz).2
abbrev sLeaf : Stmt := topS 41
theorem scLeaf : FnScope ["d", "scope", "kind", "found", "name"] ["d", "scope", "kind"] (defScope sLeaf) := ⟨rfl, rfl, rfl, by decide +kernel, rfl, by decide +kernel, by decide +kernel⟩
def spLeaf (m : Nat) : Sp := fun vs H Q _ => ∃ (p r sc : Addr) (B : Nat) (S : List (Str × Str)) (kd : Str), vs = [.ref p, .ref sc, .str kd] ∧ 0 < m ∧ (m = 1 → kd = "I") ∧ DAt H p r B ∧ ScAt H sc S ∧ S.length + m ≤ 1000 ∧ B + 10 * m ≤ 1000000000 ∧ ∀ (v : V) (k : Dd) (H' : Hp), Keep p H H' → DAt H' p r (B + 3 * m) → k.At F0 H' v → Gz m (10 * m) (sn S) k → Q v H'
theorem c_leaf1 {f : Addr} {fd : FuncData} (T : TxtY mg) (c_law_take : C8.Cal P w K mg base 1 "_law_take" spTake []) (c_law_fresh : C8.Cal P w K mg base 1 "_law_fresh" spFresh []) (c_law_var : C8.Cal P w K mg base 2 "_law_var" spVar []) (c_law_number : C8.Cal P w K mg base 2 "_law_number" spNum []) {m : Nat} (c_law_leaf : C8.Cal P w K mg base (m + 2) "_law_leaf" (spLeaf m) []) (hm1 : m ≤ 1) (F : Fun K "_law_leaf" "_law_leaf" sLeaf f fd) (b : Binds K fd ["d", "scope", "kind"] []) (hm : mg "_law_leaf" = some (.ref f)) : C8.Cal P w K mg base (m + 1 + 2) "_law_leaf" (spLeaf (m + 1)) [] := by
  refine cal_of F hm b scLeaf (fun vs H Q E h => ?_) (fun cdv A outer s H vs Q E hr h => ?_)
  · obtain ⟨p, r, sc, B, S, kd, rfl, _⟩ := h
    rfl
  obtain ⟨p, r, sc, B, S, kd, rfl, _, hkd, d0, hS, hSl, hB, q⟩ := h
  refine ⟨_, (pss_cons (ps_set (i := 3) scLeaf.nd rfl (Or.inl rfl) (C8.pe_c c_law_var hr (by omega) rfl (pa_cons (pv 0) (pa_cons (pv 1) (pa_cons (pv 2) pa_nil)))))
    (C8.pss_cut (ps_if (PW.pt (pw_and (pt_cmpR op_notN (pv 3) pe_non (nomark _)) (pw_and1 (pt_cmpR op_gt (pe_op op_mod (C8.pe_c c_law_take hr (by omega) rfl (pa_cons (pv 0) pa_nil)) pe_int) pe_int (nomark _)))))
      (pss_one (ps_ret (pv 3)))
      pss_nil)
    (pss_cons (ps_if (pt_cmpR op_eq (pv 2) pe_str (nomark _))
      (pss_one (ps_ret (C8.pe_c c_law_number hr (by omega) rfl (pa_cons (pv 0) pa_nil))))
      pss_nil)
    (pss_cons (ps_if (pt_cmpR op_eq (pv 2) pe_str (nomark _))
      (pss_one (ps_ret (pe_tup (pa_cons pe_str (pa_cons (pe_op op_mod (C8.pe_c c_law_take hr (by omega) rfl (pa_cons (pv 0) pa_nil)) pe_int) (pa_cons (pe_tup pa_nil) pa_nil))))))
      pss_nil)
    (pss_cons (ps_if (pt_cmpR op_eq (pv 2) pe_str (nomark _))
      (pss_cons (ps_if (pt_cmpR op_eq (pe_op op_mod (C8.pe_c c_law_take hr (by omega) rfl (pa_cons (pv 0) pa_nil)) pe_int) pe_int (nomark _))
      (pss_one (ps_ret (pe_tup (pa_cons pe_str (pa_cons pe_int (pa_cons (pe_tup pa_nil) pa_nil))))))
      pss_nil)
    (pss_one (ps_ret (pe_tup (pa_cons pe_str (pa_cons pe_int (pa_cons (pe_tup (pa_cons (C8.pe_c c_law_leaf hr (by omega) rfl (pa_cons (pv 0) (pa_cons (pv 1) (pa_cons pe_str pa_nil)))) (pa_cons (pe_tup (pa_cons pe_str (pa_cons pe_int (pa_cons (pe_tup pa_nil) pa_nil)))) pa_nil))) pa_nil)))))))
      pss_nil)
    (pss_cons (ps_set (i := 4) scLeaf.nd rfl (Or.inl rfl) (C8.pe_c c_law_fresh hr (by omega) rfl (pa_cons (pv 0) pa_nil)))
    (pss_one (ps_ret (pe_tup (pa_cons pe_str (pa_cons (pv 4) (pa_cons (C8.pe_c c_law_leaf hr (by omega) rfl (pa_cons (pv 0) (pa_cons (pe_op op_cat (pv 1) (pe_lst (pa_cons (pe_tup (pa_cons (pv 4) (pa_cons pe_str pa_nil))) pa_nil))) (pa_cons pe_str pa_nil)))) pa_nil)))))))))))), ?_⟩
  refine ⟨_, rfl, _, rfl, _, rfl, p, r, sc, B, S, kd, rfl, d0, hS, by omega, fun v H1 k1 d1 hv => ?_⟩
  have hS1 := hS.keep k1 d0
  have rest : ∀ (H2 : Hp) (B2 : Nat), Keep p H H2 → DAt H2 p r B2 → B2 ≤ B + 2 → ScAt H2 sc S → ∃ X : Prop, X ∧ True := fun _ _ _ _ _ _ => ⟨True, trivial, trivial⟩
  refine ⟨fun σ G => ∃ (v4 : Option V), σ = [some (.ref p), some (.ref sc), some (.str kd), some v, v4] ∧ Keep p H G ∧ DAt G p r (B + 2) ∧ ScAt G sc S, ?_, ?_⟩
  · refine ⟨_, rfl, rfl, ?_⟩
    refine ⟨_, rfl, ?_⟩
    show if (!decide (v = V.non)) = true then _ else _
    rcases hv with rfl | ⟨t, x, rfl, ht, hxS, hx⟩
    · rw [decide_eq_true rfl]
      refine iteF (iteF ?_)
      exact ⟨_, rfl, k1, d1.more (by omega), hS1⟩
    rw [decide_eq_false (by intro e; cases e)]
    refine iteT ?_
    refine ⟨_, rfl, p, r, _, rfl, d1, fun n H2 n0 n1 k2 d2 => ?_⟩
    refine ⟨_, _, rfl, rfl, (show (0 : Int) < 5 by decide), _, _, rfl, rfl, _, rfl, ?_⟩
    show if decide (0 < n % 5) = true then _ else _
    rcases Bool.eq_false_or_eq_true (decide (0 < n % 5)) with c | c
    · rw [c]
      refine iteT ?_
      refine ⟨_, rfl, q _ (.tup [.str "var", .str x]) H2 (k1.trans k2) (d2.more (by omega)) (at_tup (k2 _ _ (d1.ne_tup ht) ht) (ats_cons (at_str' (by decide +kernel)) (ats_cons (at_str' hx.len) ats_nil))) ?_⟩
      exact (gz_var hx.1 (.inl hxS)).mono (by omega) (by omega) fun s h => h
    · rw [c]
      refine iteF ?_
      exact ⟨_, rfl, k1.trans k2, d2, hS1.keep k2 d1⟩
  rintro σ G ⟨v4, rfl, kG, dG, hSG⟩
  refine ⟨_, rfl, rfl, _, rfl, ?_⟩
  by_cases c1 : kd = "I"
  · subst c1
    show if decide (V.str "I" = V.str "I") = true then _ else _
    rw [wtt]
    refine iteT ?_
    exact ⟨_, rfl, p, r, _, rfl, dG, fun v2 k2 H2 kk dd aa gg => q v2 k2 H2 (kG.trans kk) (dd.more (by omega)) aa ((gg (sn S)).mono (by omega) (by omega) fun s h => h)⟩
  show if decide (V.str kd = V.str "I") = true then _ else _
  rw [wne c1]
  refine iteF ?_
  obtain rfl : m = 1 := by
    rcases Nat.eq_or_lt_of_le hm1 with e | e
    · exact e
    · exact (c1 (hkd (by omega))).elim
  refine ⟨_, rfl, rfl, _, rfl, ?_⟩
  by_cases c2 : kd = "B"
  · subst c2
    show if decide (V.str "B" = V.str "B") = true then _ else _
    rw [wtt]
    refine iteT ?_
    refine ⟨_, rfl, p, r, _, rfl, dG, fun n H2 n0 n1 k2 d2 => ?_⟩
    have m0 := Int.emod_nonneg n (show (2 : Int) ≠ 0 by decide)
    have m1 := Int.emod_lt_of_pos n (show (0 : Int) < 2 by decide)
    refine ⟨_, _, rfl, rfl, (show (0 : Int) < 2 by decide), by show 0 ≤ sizeLine; decide, fun u hu => ⟨by show 3 ≤ sizeLine; decide, fun t ht => ?_⟩⟩
    have su := same_new hu (.tup [])
    have st := same_new ht (.tup [.str "con", .int (n % 2), .ref u])
    exact q _ (.tup [.str "con", .int (n % 2), .tup []]) _ ((kG.trans k2).trans (Keep.same (sameT su st))) ((d2.same (sameT su st)).more (by omega)) (at_tup upd_same (ats_cons (at_str' (by decide +kernel)) (ats_cons at_int' (ats_cons (at_tup (st _ _ upd_same) ats_nil) ats_nil)))) ((gz_con (n := 1) (z := 1) (c := 0) (by omega) (by omega) (Nat.le_refl _) fun k h => absurd h List.not_mem_nil).mono (by omega) (by omega) fun s h => h)
  show if decide (V.str kd = V.str "B") = true then _ else _
  rw [wne c2]
  refine iteF ?_
  refine ⟨_, rfl, rfl, _, rfl, ?_⟩
  by_cases c3 : kd = "L"
  · subst c3
    show if decide (V.str "L" = V.str "L") = true then _ else _
    rw [wtt]
    refine iteT ?_
    refine ⟨_, rfl, p, r, _, rfl, dG, fun n H2 n0 n1 k2 d2 => ?_⟩
    have hS2 := hSG.keep k2 dG
    refine ⟨_, _, rfl, rfl, (show (0 : Int) < 2 by decide), rfl, _, rfl, ?_⟩
    show if decide (V.int (n % 2) = V.int 0) = true then _ else _
    rcases Bool.eq_false_or_eq_true (decide (V.int (n % 2) = V.int 0)) with c | c
    · rw [c]
      refine iteT ?_
      refine ⟨by show 0 ≤ sizeLine; decide, fun u hu => ⟨by show 3 ≤ sizeLine; decide, fun t ht => ?_⟩⟩
      have su := same_new hu (.tup [])
      have st := same_new ht (.tup [.str "con", .int 0, .ref u])
      exact q _ (.tup [.str "con", .int 0, .tup []]) _ ((kG.trans k2).trans (Keep.same (sameT su st))) ((d2.same (sameT su st)).more (by omega)) (at_tup upd_same (ats_cons (at_str' (by decide +kernel)) (ats_cons at_int' (ats_cons (at_tup (st _ _ upd_same) ats_nil) ats_nil)))) ((gz_con (n := 1) (z := 1) (c := 0) (by omega) (by omega) (Nat.le_refl _) fun k h => absurd h List.not_mem_nil).mono (by omega) (by omega) fun s h => h)
    rw [c]
    refine iteF ?_
    refine ⟨_, rfl, _, rfl, p, r, sc, _, S, "I", rfl, by decide, fun _ => rfl, d2, hS2, by omega, by omega, fun v3 k3 H3 kk3 dd3 aa3 gg3 => ?_⟩
    refine ⟨by show 0 ≤ sizeLine; decide, fun u hu => ⟨by show 3 ≤ sizeLine; decide, fun t ht => ⟨by show 2 ≤ sizeLine; decide, fun t2 ht2 => ⟨by show 3 ≤ sizeLine; decide, fun t3 ht3 => ?_⟩⟩⟩⟩
    have su := same_new hu (.tup [])
    have st := same_new ht (.tup [.str "con", .int 0, .ref u])
    have st2 := same_new ht2 (.tup [v3, .ref t])
    have st3 := same_new ht3 (.tup [.str "con", .int 1, .ref t2])
    have s23 := sameT st2 st3
    have sA := sameT su (sameT st s23)
    refine q _ (.tup [.str "con", .int 1, .tup [k3, .tup [.str "con", .int 0, .tup []]]]) _ (((kG.trans k2).trans kk3).trans (Keep.same sA)) ((dd3.same sA).more (by omega)) (at_tup upd_same (ats_cons (at_str' (by decide +kernel)) (ats_cons at_int' (ats_cons (at_tup (st3 _ _ upd_same) (ats_cons (aa3.keep (fr_same sA)) (ats_cons (at_tup (s23 _ _ upd_same) (ats_cons (at_str' (by decide +kernel)) (ats_cons at_int' (ats_cons (at_tup (sameT st s23 _ _ upd_same) ats_nil) ats_nil)))) ats_nil))) ats_nil)))) ?_
    have hsz := gg3.sz
    have g0 : Gz 1 4 (sn S) (.tup [.str "con", .int 0, .tup []]) := (gz_con (n := 0) (z := 1) (c := 0) (by omega) (by omega) (Nat.le_refl _) fun k h => absurd h List.not_mem_nil).mono (by omega) (by omega) fun s h => h
    have gg4 : Gz 1 10 (sn S) k3 := gg3.mono (by omega) (by omega) fun s h => h
    have hl := gz_con (n := 1) (z := 10) (c := 2) (i := 1) (l := [k3, .tup [.str "con", .int 0, .tup []]]) (by omega) (by omega) (Nat.le_refl _) fun k h => by
      simp only [List.mem_cons, List.not_mem_nil, or_false] at h
      rcases h with rfl | rfl
      · exact gg4
      · exact g0.mono (by omega) (by omega) fun s h => h
    refine ⟨hl.ok, ?_, hl.fri⟩
    show 1 + (1 + (1 + (1 + (k3.sz + (4 + 0)) + 0))) ≤ 20
    omega
  show if decide (V.str kd = V.str "L") = true then _ else _
  rw [wne c3]
  refine iteF ?_
  refine ⟨_, rfl, p, r, _, rfl, dG, by omega, fun x H2 hx k2 d2 => ?_⟩
  have hS2 := hSG.keep k2 dG
  obtain ⟨xs, hsc, hats⟩ := hS2.at'
  refine ⟨_, rfl, _, rfl, _, rfl, _, rfl, by show 2 ≤ sizeLine; decide, fun t ht => ⟨by show 1 ≤ sizeLine; decide, fun l1 hl1 => ?_⟩⟩
  have st := same_new ht (.tup [.str x, .str "I"])
  have sl := same_new hl1 (.lst [.ref t])
  have hxl := ats_len hats
  rw [List.length_map] at hxl
  refine ⟨sc, l1, xs, _, rfl, rfl, sl _ _ (st _ _ hsc), upd_same, by have := big; show xs.length + 1 ≤ _; omega, fun sc2 hsc2 => ?_⟩
  have s3 := same_new hsc2 (.lst (xs ++ [.ref t]))
  have sA := sameT st (sameT sl s3)
  have hS3 : ScAt (upd (upd (upd H2 t (.tup [.str x, .str "I"])) l1 (.lst [.ref t])) sc2 (.lst (xs ++ [.ref t]))) sc2 (S ++ [(x, ("I" : Str))]) := sc_ext (t := t) hats hS.ok sA (s3 _ _ (sl _ _ upd_same)) upd_same hx (by decide +kernel)
  refine ⟨p, r, sc2, _, S ++ [(x, ("I" : Str))], "I", rfl, by decide, fun _ => rfl, d2.same sA, hS3, by rw [List.length_append]; show _ + 1 + 1 ≤ _; omega, by omega, fun v3 k3 H3 kk3 dd3 aa3 gg3 => ?_⟩
  refine ⟨by show 3 ≤ sizeLine; decide, fun t3 ht3 => ?_⟩
  have s4 := same_new ht3 (.tup [.str "lam", .str x, v3])
  refine q _ (.tup [.str "lam", .str x, k3]) _ ((((kG.trans k2).trans (Keep.same sA)).trans kk3).trans (Keep.same s4)) ((dd3.same s4).more (by omega)) (at_tup upd_same (ats_cons (at_str' (by decide +kernel)) (ats_cons (at_str' hx.len) (ats_cons (aa3.keep (fr_same s4)) ats_nil)))) ?_
  exact (gz_lam (n := 1) (z := 10) hx.1 (gg3.mono (by omega) (by omega) fun s h => sn_snoc h)).mono (by omega) (by omega) fun s h => h
theorem c_leaf {f : Addr} {fd : FuncData} (T : TxtY mg) (c_law_take : C8.Cal P w K mg base 1 "_law_take" spTake []) (c_law_fresh : C8.Cal P w K mg base 1 "_law_fresh" spFresh []) (c_law_var : C8.Cal P w K mg base 2 "_law_var" spVar []) (c_law_number : C8.Cal P w K mg base 2 "_law_number" spNum []) (F : Fun K "_law_leaf" "_law_leaf" sLeaf f fd) (b : Binds K fd ["d", "scope", "kind"] []) (hm : mg "_law_leaf" = some (.ref f)) : C8.Cal P w K mg base 4 "_law_leaf" (spLeaf 2) [] :=
  c_leaf1 T c_law_take c_law_fresh c_law_var c_law_number (c_leaf1 T c_law_take c_law_fresh c_law_var c_law_number (cal_none F hm b fun vs H Q E h => by
    obtain ⟨p, r, sc, B, S, kd, _, h, _⟩ := h
    omega) (by decide) F b hm) (by decide) F b hm
end
end Toy

set_option Elab.async false
set_option linter.all false
set_option maxRecDepth 100000
set_option maxHeartbeats 4000000
/-! Part A2: lets and defaults of typed terms. -/
namespace Toy
open PySem L2
open PyProof.Rows (envOfC)
/-- the reader, with the number of the last new name -/
def DAtN (H : Hp) (p r : Addr) (B : Nat) (n : Int) : Prop := ∃ (row : List Int) (i : Nat) (l : Int), H p = some (.dK (dk4 r (i : Int) n l)) ∧ H r = some (.lst (row.map V.int)) ∧ RowOk row ∧ (i ≤ B ∧ 0 ≤ n ∧ n ≤ (B : Int))
theorem DAt.n {H : Hp} {p r : Addr} {B : Nat} (d : DAt H p r B) : ∃ n, DAtN H p r B n := by
  obtain ⟨row, i, n, l, h⟩ := d
  exact ⟨n, row, i, l, h⟩
theorem DAtN.to {H : Hp} {p r : Addr} {B : Nat} {n : Int} (d : DAtN H p r B n) : DAt H p r B := by
  obtain ⟨row, i, l, h⟩ := d
  exact ⟨row, i, n, l, h⟩
theorem DAtN.same {H H' : Hp} {p r : Addr} {B : Nat} {n : Int} (d : DAtN H p r B n) (s : Same H H') : DAtN H' p r B n := by
  obtain ⟨row, i, l, h1, h2, h3⟩ := d
  exact ⟨row, i, l, s _ _ h1, s _ _ h2, h3⟩
theorem DAtN.off {H : Hp} {p r x : Addr} {B : Nat} {n : Int} (d : DAtN H p r B n) (h1 : x ≠ p) (h2 : x ≠ r) (o : HO) : DAtN (upd H x o) p r B n := by
  obtain ⟨row, i, l, g1, g2, g3⟩ := d
  exact ⟨row, i, l, by rw [upd_ne h1.symm]; exact g1, by rw [upd_ne h2.symm]; exact g2, g3⟩
theorem DAtN.more {H : Hp} {p r : Addr} {B C : Nat} {n : Int} (d : DAtN H p r B n) (h : B ≤ C) : DAtN H p r C n := by
  obtain ⟨row, i, l, h1, h2, h3, h4⟩ := d
  exact ⟨row, i, l, h1, h2, h3, by omega⟩
theorem DAtN.pos {H : Hp} {p r : Addr} {B : Nat} {n : Int} (d : DAtN H p r B n) : 0 ≤ n ∧ n ≤ (B : Int) := by
  obtain ⟨row, i, l, _, _, _, h4⟩ := d
  omega
theorem xN_inj {a b : Int} (a0 : 0 ≤ a) (a1 : a < 10 ^ 10) (b0 : 0 ≤ b) (b1 : b < 10 ^ 10) (h : xN a = xN b) : a = b := by
  have e := congrArg (fun z => z.cps.toList) h
  have e : (xN a).cps.toList = (xN b).cps.toList := e
  unfold xN at e
  rw [cps_app, cps_app] at e
  have e2 := str_cps (List.append_cancel_left e)
  have h1 := PySem.W.KIN.num_reads a0 a1
  rw [e2, PySem.W.KIN.num_reads b0 b1] at h1
  exact (Option.some.inj h1).symm
theorem atL (xs : List V) (x : V) : atI (xs ++ [x]) (-1) = some x := by
  have e : ixN (xs ++ [x]).length (-1) = some xs.length := by
    unfold ixN
    rw [if_neg (by decide), if_pos (by rw [List.length_append]; show -(((xs.length + 1 : Nat)) : Int) ≤ -1; omega)]
    rw [List.length_append]
    refine congrArg some ?_
    show (-1 + ((xs.length + 1 : Nat) : Int)).toNat = _
    omega
  show (ixN (xs ++ [x]).length (-1)).bind (fun j => (xs ++ [x])[j]?) = _
  rw [e]
  show (xs ++ [x])[xs.length]? = _
  simp
theorem p4n (e : Nat) : 4 ^ (e + 1) = 4 * 4 ^ e := by rw [Nat.pow_succ]; omega
theorem ed4 (a b c : V) (e : Nat) : [a, b, c, V.int (((e + 1 : Nat) : Int) - 1)] = [a, b, c, V.int (e : Int)] := by rw [show ((e + 1 : Nat) : Int) - 1 = (e : Int) by omega]
theorem sn_mem {S : List (Str × Str)} {s : Str} (h : s ∈ sn S) : ∃ q ∈ S, q.1 = s := List.mem_map.mp h
def kinds5 : List Str := ["I", "L", "F", "I", "B"]
theorem kinds5_ok : ∀ z ∈ kinds5, z.length ≤ 1000 := by decide +kernel
theorem sn_app (S T : List (Str × Str)) : sn (S ++ T) = sn S ++ sn T := List.map_append
section
variable {P : Program} {w : World} {K : PySem.W.Frag} {mg : Str → Option Value} {base : Heap}
def spTakeN : Sp := fun vs H Q _ => ∃ (p r : Addr) (B : Nat) (m : Int), vs = [.ref p] ∧ DAtN H p r B m ∧ ∀ (n : Int) (H' : Hp), 0 ≤ n → n ≤ 997 + (B : Int) → Keep p H H' → DAtN H' p r (B + 1) m → Q (.int n) H'
theorem c_takeN {f : Addr} {fd : FuncData} (T : TxtD mg) (F : Fun K "_law_take" "_law_take" sTake f fd) (b : Binds K fd ["d"] []) (hm : mg "_law_take" = some (.ref f)) : C8.Cal P w K mg base 1 "_law_take" spTakeN [] := by
  refine cal_of F hm b scTake (fun vs H Q E h => ?_) (fun cdv A outer s H vs Q E hr h => ?_)
  · obtain ⟨p, r, B, m, rfl, _⟩ := h
    rfl
  obtain ⟨p, r, B, n, rfl, ⟨row, i, l, hp, hrow, ⟨⟨hl0, hl1⟩, hrw⟩, hiB⟩, q⟩ := h
  have hu := hu_of hr
  have npr : r ≠ p := ne_of hrow hp (by intro z; cases z)
  refine ⟨_, (pss_cons (ps_set (i := 1) scTake.nd rfl (Or.inl rfl) (pe_dget hu (pv 0) pe_str (fun _ _ => rfl)))
    (pss_cons (ps_dput hu (pv 0) pe_str (pe_op op_add (pv 1) pe_int) rfl)
    (pss_one (ps_ret (pe_op op_add (pe_ix ix_list (pe_dget hu (pv 0) pe_str (fun _ _ => rfl)) (pe_op op_mod (pv 1) (pe_callB call_len_seq rfl T.zlen PySem.boot_len (pa_cons (pe_dget hu (pv 0) pe_str (fun _ _ => rfl)) pa_nil))) (fun _ _ => rfl)) (pe_op op_fdiv (pv 1) (pe_callB call_len_seq rfl T.zlen PySem.boot_len (pa_cons (pe_dget hu (pv 0) pe_str (fun _ _ => rfl)) pa_nil)))))))), ?_⟩
  refine ⟨_, rfl, p, _, rfl, (dk_at r _ _ _ ▸ DGet.k (k := Sum.inr "at") hp), ?_⟩
  refine ⟨_, rfl, _, _, rfl, rfl, _, rfl, p, _, rfl, DPut.k (k := Sum.inr "at") hp (by show 4 < sizeLine; decide), ?_⟩
  rw [dk_put]
  have hp2 : upd H p (.dK (dk4 r ((i : Int) + 1) n l)) p = some (.dK (dk4 r ((i : Int) + 1) n l)) := upd_same
  have hr2 : upd H p (.dK (dk4 r ((i : Int) + 1) n l)) r = some (.lst (row.map V.int)) := by rw [upd_ne npr]; exact hrow
  have fin : ∀ z : Int, 0 ≤ z → z ≤ 997 + (B : Int) → Q (.int z) (upd H p (.dK (dk4 r ((i : Int) + 1) n l))) := fun z h0 h1 =>
    q z _ h0 h1 (fun b o hb e => by rw [upd_ne hb]; exact e) ⟨row, i + 1, l, by rw [upd_same]; rfl, hr2, ⟨⟨hl0, hl1⟩, hrw⟩, by omega⟩
  generalize upd H p (.dK (dk4 r ((i : Int) + 1) n l)) = H2 at hp2 hr2 fin ⊢
  have hlen : (0 : Int) < (((row.map V.int).length : Nat) : Int) := by rw [List.length_map]; omega
  have m0 := Int.emod_nonneg (i : Int) (b := (((row.map V.int).length : Nat) : Int)) (by omega)
  have m1 := Int.emod_lt_of_pos (i : Int) hlen
  obtain ⟨v, hv, hv0, hv1⟩ := at_intR hrw (i := (i : Int) % (((row.map V.int).length : Nat) : Int)) m0 (by rw [List.length_map] at m1 ⊢; exact m1)
  refine ⟨_, rfl, p, _, rfl, (dk_row r _ _ _ ▸ DGet.k (k := Sum.inr "row") hp2), _, rfl, _, rfl, p, _, rfl, (dk_row r _ _ _ ▸ DGet.k (k := Sum.inr "row") hp2), r, _, rfl, .inl (SqL.of hr2), _, _, rfl, rfl, hlen, r, _, _, _, rfl, rfl, SqL.of hr2, hv, ?_⟩
  refine ⟨_, rfl, _, rfl, p, _, rfl, (dk_row r _ _ _ ▸ DGet.k (k := Sum.inr "row") hp2), r, _, rfl, .inl (SqL.of hr2), ?_⟩
  refine ⟨_, _, rfl, rfl, ⟨hlen, by rw [List.length_map]; omega⟩, _, _, rfl, rfl, ?_⟩
  have d0 := Int.ediv_nonneg (a := (i : Int)) (b := (((row.map V.int).length : Nat) : Int)) (by omega) (by omega)
  have d1 : (i : Int) / (((row.map V.int).length : Nat) : Int) ≤ (i : Int) := Int.ediv_le_self _ (by omega)
  exact fin _ (by omega) (by omega)
def spFreshN : Sp := fun vs H Q _ => ∃ (p r : Addr) (B : Nat) (m : Int), vs = [.ref p] ∧ DAtN H p r B m ∧ B ≤ 1000000000 ∧ ∀ (H' : Hp), nameOk (xN (m + 1)) → Keep p H H' → DAtN H' p r (B + 1) (m + 1) → Q (.str (xN (m + 1))) H'
theorem c_freshN {f : Addr} {fd : FuncData} (T : TxtY mg) (F : Fun K "_law_fresh" "_law_fresh" sFresh f fd) (b : Binds K fd ["d"] []) (hm : mg "_law_fresh" = some (.ref f)) : C8.Cal P w K mg base 1 "_law_fresh" spFreshN [] := by
  refine cal_of F hm b scFresh (fun vs H Q E h => ?_) (fun cdv A outer s H vs Q E hr h => ?_)
  · obtain ⟨p, r, B, m, rfl, _⟩ := h
    rfl
  obtain ⟨p, r, B, n, rfl, ⟨row, i, l, hp, hrow, ok, hi, hn0, hn1⟩, hB, q⟩ := h
  have hu := hu_of hr
  have npr : r ≠ p := ne_of hrow hp (by intro z; cases z)
  refine ⟨_, (pss_cons (ps_dput hu (pv 0) pe_str (pe_op op_add (pe_dget hu (pv 0) pe_str (fun _ _ => rfl)) pe_int) rfl)
    (pss_one (ps_ret (pe_op op_add_str pe_str (pe_callTy call_str_int rfl T.zstr boot_str (pa_cons (pe_dget hu (pv 0) pe_str (fun _ _ => rfl)) pa_nil)))))), ?_⟩
  refine ⟨_, rfl, p, _, rfl, (dk_names r _ _ _ ▸ DGet.k (k := Sum.inr "names") hp), _, _, rfl, rfl, _, rfl, p, _, rfl, DPut.k (k := Sum.inr "names") hp (by show 4 < sizeLine; decide), ?_⟩
  rw [dk_putn]
  have hp2 : upd H p (.dK (dk4 r (i : Int) (n + 1) l)) p = some (.dK (dk4 r (i : Int) (n + 1) l)) := upd_same
  have k2 : Keep p H (upd H p (.dK (dk4 r (i : Int) (n + 1) l))) := fun b o hb e => by rw [upd_ne hb]; exact e
  have d2 : DAtN (upd H p (.dK (dk4 r (i : Int) (n + 1) l))) p r (B + 1) (n + 1) := ⟨row, i, l, hp2, by rw [upd_ne npr]; exact hrow, ok, by omega⟩
  have hx := xN_ok (n := n + 1) (by omega) (by omega)
  have hl : (Str.ofString (toString (n + 1))).length ≤ 10 := PySem.W.KT.len_num (by omega) (by omega)
  have hlog : (n + 1).natAbs.log2 < 1920 := (Nat.log2_lt (by omega)).mpr (Nat.lt_of_lt_of_le (show (n + 1).natAbs < 2 ^ 34 by omega) (Nat.pow_le_pow_right (by decide) (by decide)))
  refine ⟨_, rfl, p, _, rfl, (dk_names r _ _ _ ▸ DGet.k (k := Sum.inr "names") hp2), _, rfl, hlog, _, _, rfl, rfl, ?_, q _ hx k2 d2⟩
  have := big
  show 1 + _ ≤ _
  omega
/-- a typed term of this depth -/
def spTerm (n : Nat) : Sp := fun vs H Q _ => ∃ (p r sc : Addr) (B e : Nat) (S : List (Str × Str)) (kd : Str), vs = [.ref p, .ref sc, .str kd, .int (e : Int)] ∧ kd.length ≤ 1000 ∧ e < n ∧ DAt H p r B ∧ ScAt H sc S ∧ S.length + 3 * e ≤ 900 ∧ B + 40 * 4 ^ e ≤ 1000000000 ∧
  ∀ (v : V) (k : Dd) (H' : Hp), Keep p H H' → DAt H' p r (B + (40 * 4 ^ e - 20)) → k.At F0 H' v → Gz (3 * e + 2) (60 * 4 ^ e - 30) (sn S) k → Q v H'
def spLet (n : Nat) : Sp := fun vs H Q _ => ∃ (p r sc : Addr) (B e m : Nat) (S : List (Str × Str)) (kd : Str), vs = [.ref p, .ref sc, .str kd, .int ((e + 1 : Nat) : Int), .int (m : Int)] ∧ e < n ∧ 1 ≤ m ∧ m ≤ 2 ∧ kd.length ≤ 1000 ∧ DAt H p r B ∧ ScAt H sc S ∧ S.length + 3 * (e + 1) ≤ 900 ∧ B + 40 * 4 ^ (e + 1) ≤ 1000000005 ∧
  ∀ (v : V) (k : Dd) (H' : Hp), Keep p H H' → DAt H' p r (B + (40 * 4 ^ (e + 1) - 25)) → k.At F0 H' v → Gz (3 * (e + 1) + 2) (60 * 4 ^ (e + 1) - 30) (sn S) k → Q v H'
abbrev sLet : Stmt := topS 42
theorem scLet : FnScope ["d", "scope", "kind", "depth", "many", "group", "inner", "k", "name", "own", "terms", "other"] ["d", "scope", "kind", "depth", "many"] (defScope sLet) := ⟨rfl, rfl, rfl, by decide +kernel, rfl, by decide +kernel, by decide +kernel⟩
theorem c_let {f : Addr} {fd : FuncData} {n : Nat} (T : TxtY mg) (c_law_take : C8.Cal P w K mg base 1 "_law_take" spTakeN []) (c_law_fresh : C8.Cal P w K mg base 1 "_law_fresh" spFreshN []) (c_law_term : C8.Cal P w K mg base (3 * n + 5) "_law_term" (spTerm n) []) (F : Fun K "_law_let" "_law_let" sLet f fd) (b : Binds K fd ["d", "scope", "kind", "depth", "many"] []) (hm : mg "_law_let" = some (.ref f)) : C8.Cal P w K mg base (3 * n + 6) "_law_let" (spLet n) [] := by
  refine cal_of F hm b scLet (fun vs H Q E h => ?_) (fun cdv A outer s H vs Q E hr h => ?_)
  · obtain ⟨p, r, sc, B, e, m, S, kd, rfl, _⟩ := h
    rfl
  obtain ⟨p, r, sc, B, e, m, S, kd, rfl, hen, hm1, hm2, hkd, d0, hS, hSl, hB, q⟩ := h
  have hP := pow_pos4 e
  rw [p4n] at hB q
  obtain ⟨m0, dN⟩ := d0.n
  obtain ⟨hm00, hm01⟩ := dN.pos
  refine ⟨_, (pss_cons (ps_set (i := 5) scLet.nd rfl (Or.inl rfl) (pe_lst pa_nil))
    (pss_cons (ps_set (i := 6) scLet.nd rfl (Or.inl rfl) (pe_callTy call_list_of rfl T.zlist boot_list (pa_cons (pv 1) pa_nil)))
    (pss_cons (ps_for PassesOwn.never rfl (pi_range1 rfl T.zrange (pa_cons (pv 4) pa_nil)) (pg_name (i := 7) scLet.nd rfl (Or.inl rfl))
      (pss_cons (ps_set (i := 8) scLet.nd rfl (Or.inl rfl) (C8.pe_c c_law_fresh hr (by omega) rfl (pa_cons (pv 0) pa_nil)))
    (pss_cons (ps_expr (pe_bm PySem.F.plainAttrs_list PySem.F.slot_list_append PySem.F.type_list_append mt_append (pv 5) (pa_cons (pe_tup (pa_cons (pv 8) (pa_cons (pe_ix ix_list (pe_lst (pa_strs (zs := ["I", "L", "F", "I", "B"]) rfl)) (pe_op op_mod (C8.pe_c c_law_take hr (by omega) rfl (pa_cons (pv 0) pa_nil)) pe_int) (fun _ _ => rfl)) pa_nil))) pa_nil)))
    (pss_one (ps_expr (pe_bm PySem.F.plainAttrs_list PySem.F.slot_list_append PySem.F.type_list_append mt_append (pv 6) (pa_cons (pe_ix ix_list (pv 5) (pe_un un_neg pe_int) (fun _ _ => rfl)) pa_nil)))))))
    (C8.pss_cut (ps_set (i := 9) scLet.nd rfl (Or.inr rfl) (pv 6))
    (C8.pss_cut (ps_if (PW.pt (pw_and (pt_cmpR op_gt (pe_op op_mod (C8.pe_c c_law_take hr (by omega) rfl (pa_cons (pv 0) pa_nil)) pe_int) pe_int (nomark _)) (pw_and1 (pt_cmpR op_eq (pv 4) pe_int (nomark _)))))
      (pss_one (ps_set (i := 9) scLet.nd rfl (Or.inr rfl) (pv 1)))
      pss_nil)
    (pss_cons (ps_setLc (i := 10) (own := [("name", 8), ("other", 11)]) (g := gTup K 2 (gCons (gName 8) (gCons (gName 11) (gNil)))) (tt := tYes) (te := (tTup (tCons (tVar 8) (tCons (tCall (spTerm n) [] C8.E0 (tCons (tVar 0) (tCons (tVar 9) (tCons (tVar 11) (tCons (tOp (rI0 fun i j => .int (i - j)) (tVar 3) (tC (.int 1))) tNil))))) tNil)))) rfl scLet.nd rfl rfl (sw_true rfl rfl rfl (by decide +kernel)) (pi_list (pv 5)) (blkOk_by (own := [("name", 8), ("other", 11)]) (N := ["d", "scope", "kind", "depth", "many", "group", "inner", "k", "name", "own", "terms", "other"]) (sc := defScope sLet) (by decide +kernel)) (fun _ _ _ _ _ => (pg_tup rfl (pgs_cons (pg_name (i := 8) scLet.nd rfl (Or.inl rfl)) (pgs_cons (pg_name (i := 11) scLet.nd rfl (Or.inl rfl)) pgs_nil)))) (fun _ _ _ _ _ => pts_nil) (fun _ _ _ _ _ => (pe_tup (pa_cons (pv 8) (pa_cons (C8.pe_c c_law_term hr (by omega) rfl (pa_cons (pv 0) (pa_cons (pv 9) (pa_cons (pv 11) (pa_cons (pe_op op_sub (pv 3) pe_int) pa_nil))))) pa_nil)))))
    (pss_one (ps_ret (pe_tup (pa_cons pe_str (pa_cons (pe_callTy call_tuple_of rfl T.ztuple boot_tuple (pa_cons (pv 10) pa_nil)) (pa_cons (C8.pe_c c_law_term hr (by omega) rfl (pa_cons (pv 0) (pa_cons (pv 6) (pa_cons (pv 2) (pa_cons (pe_op op_sub (pv 3) pe_int) pa_nil))))) pa_nil)))))))))))), ?_⟩
  refine ⟨by show 0 ≤ sizeLine; decide, fun Gp hGp => ?_⟩
  obtain ⟨nGp, nGr⟩ := d0.fresh hGp
  have s1 := same_new hGp (.lst [])
  have e1 : upd H Gp (.lst []) Gp = some (.lst []) := upd_same
  generalize upd H Gp (.lst []) = H1 at s1 e1 ⊢
  have hS1 := hS.same s1
  obtain ⟨xs, hsc, hats⟩ := hS1.at'
  refine ⟨_, rfl, sc, _, rfl, .inl (SqL.of hsc), fun In hIn => ?_⟩
  have s2 := same_new hIn (.lst xs)
  have e2 : upd H1 In (.lst xs) In = some (.lst xs) := upd_same
  have nIG : In ≠ Gp := fun z => by rw [z, e1] at hIn; cases hIn
  have nIp : In ≠ p := fun z => (d0.same s1).fresh hIn |>.1 z
  have nIr : In ≠ r := fun z => (d0.same s1).fresh hIn |>.2 z
  have hInH := free_of s1 hIn
  have e1' := s2 _ _ e1
  have s12 := sameT s1 s2
  generalize upd H1 In (.lst xs) = H2 at s2 e2 e1' s12 ⊢
  have hxl := ats_len hats
  rw [List.length_map] at hxl
  have nGsc : sc ≠ Gp := fun z => by
    obtain ⟨xs', h', _⟩ := hS.at'
    rw [z, hGp] at h'; cases h'
  have nIsc : sc ≠ In := fun z => by rw [z, hIn] at hsc; cases hsc
  have hbig := big
  refine ⟨_, rfl, _, rfl, by omega, by omega, for_range
    (fun (i : Nat) σ G => ∃ (gs : List (Str × Str)) (gxs : List V) (v7 v8 : Option V), σ = [some (.ref p), some (.ref sc), some (.str kd), some (.int ((e + 1 : Nat) : Int)), some (.int (m : Int)), some (.ref Gp), some (.ref In), v7, v8, none, none, none] ∧ Keep p H G ∧ DAtN G p r (B + 2 * i) (m0 + (i : Int)) ∧ G Gp = some (.lst gxs) ∧ G In = some (.lst (xs ++ gxs)) ∧ Dd.Ats F0 G (gs.map scD) gxs ∧ Dd.Ats F0 G (S.map scD) xs ∧ gs.length = i ∧ (sn gs).Nodup ∧ ∀ q ∈ gs, nameOk q.1 ∧ q.2.length ≤ 1000 ∧ ∃ j : Int, q.1 = xN j ∧ 0 ≤ j ∧ j ≤ m0 + (i : Int))
    ⟨[], [], none, none, rfl, Keep.same s12, (by rw [show m0 + ((0 : Nat) : Int) = m0 by omega]; exact (dN.same s12).more (by omega)), e1', by rw [List.append_nil]; exact e2, rfl, hats.keep (fr_same s2), rfl, List.nodup_nil, fun q h => absurd h List.not_mem_nil⟩ ?_ ?_⟩
  · rintro i σ G hi ⟨gs, gxs, v7, v8, rfl, kG, dG, hGG, hIG, aG, aS, hgl, hnd, hgs⟩
    have hi2 : i < 2 := by omega
    have hgxl := ats_len aG
    rw [List.length_map] at hgxl
    refine ⟨_, rfl, p, r, _, _, rfl, dG, by omega, fun G1 hx k1 d1 => ?_⟩
    have hx' := hx
    generalize hxe : xN (m0 + (i : Int) + 1) = x at hx ⊢
    have hGG1 := k1 _ _ nGp hGG
    have hIG1 := k1 _ _ nIp hIG
    refine ⟨_, rfl, .inl ⟨rfl, _, SqL.of hGG1⟩, _, rfl, by show 5 ≤ sizeLine; decide, fun lz hlz => ?_⟩
    have s3 := same_new hlz (.lst (kinds5.map V.str))
    have e3 : upd G1 lz (.lst (kinds5.map V.str)) lz = some (.lst (kinds5.map V.str)) := upd_same
    have d3 := d1.same s3
    refine ⟨_, rfl, p, r, _, _, rfl, d3, fun n3 G3 n30 n31 k3 d4 => ?_⟩
    obtain ⟨z, hz, ez⟩ := at_str (zs := kinds5) (i := n3 % 5) (Int.emod_nonneg _ (by decide)) (by show n3 % 5 < 5; exact Int.emod_lt_of_pos _ (by decide))
    refine ⟨_, _, rfl, rfl, (show (0 : Int) < 5 by decide), lz, _, _, _, rfl, rfl, SqL.of (k3 _ _ (d3.to.ne_list e3) e3), ez, by show 2 ≤ sizeLine; decide, fun t ht => ?_⟩
    have s5 := same_new ht (.tup [.str x, .str z])
    have e5 : upd G3 t (.tup [.str x, .str z]) t = some (.tup [.str x, .str z]) := upd_same
    have kA : Keep p G (upd G3 t (.tup [.str x, .str z])) := ((k1.trans (Keep.same s3)).trans k3).trans (Keep.same s5)
    have hGG5 := kA _ _ nGp hGG
    have hIG5 := kA _ _ nIp hIG
    have d5 := d4.same s5
    have fA : Fr F0 G (upd G3 t (.tup [.str x, .str z])) := fr_keep kA dG.to
    have aG5 := aG.keep fA
    have aS5 := aS.keep fA
    have kH := kG.trans kA
    generalize upd G3 t (.tup [.str x, .str z]) = G5 at e5 hGG5 hIG5 d5 aG5 aS5 kH ⊢
    refine ⟨Gp, _, _, rfl, rfl, hGG5, szl (by omega), ?_⟩
    have f6 : Fr F0 G5 (upd G5 Gp (.lst (gxs ++ [.ref t]))) := fr_list hGG5 fun z => z
    have e6 : upd G5 Gp (.lst (gxs ++ [.ref t])) Gp = some (.lst (gxs ++ [.ref t])) := upd_same
    have hIG6 : upd G5 Gp (.lst (gxs ++ [.ref t])) In = some (.lst (xs ++ gxs)) := by rw [upd_ne nIG]; exact hIG5
    have d6 := d5.off nGp nGr (.lst (gxs ++ [.ref t]))
    have aG6 := aG5.keep f6
    have aS6 := aS5.keep f6
    have et6 : (scD (x, z)).At F0 (upd G5 Gp (.lst (gxs ++ [.ref t]))) (.ref t) := (at_tup e5 (ats_cons (at_str' hx.len) (ats_cons (at_str' (kinds5_ok z hz)) ats_nil)) : (scD (x, z)).At F0 G5 (.ref t)).keep f6
    have kH6 : Keep p H (upd G5 Gp (.lst (gxs ++ [.ref t]))) := keep_upd hGp kH _
    generalize upd G5 Gp (.lst (gxs ++ [.ref t])) = G6 at e6 hIG6 d6 aG6 aS6 et6 kH6 ⊢
    refine ⟨_, rfl, .inl ⟨rfl, _, SqL.of hIG6⟩, _, rfl, _, rfl, Gp, _, -1, _, rfl, rfl, SqL.of e6, atL _ _, In, _, _, rfl, rfl, hIG6, szl (by rw [List.length_append]; omega), ?_⟩
    have f7 : Fr F0 G6 (upd G6 In (.lst (xs ++ gxs ++ [.ref t]))) := fr_list hIG6 fun z => z
    refine ⟨gs ++ [(x, z)], gxs ++ [.ref t], _, _, rfl, keep_upd hInH kH6 _, ?_, by rw [upd_ne nIG.symm]; exact e6, by rw [upd_same, List.append_assoc], ?_, aS6.keep f7, by rw [List.length_append, hgl]; rfl, ?_, fun qq hq => ?_⟩
    · have d7 := (d6.off nIp nIr (.lst (xs ++ gxs ++ [.ref t]))).more (show B + 2 * i + 1 + 1 ≤ B + 2 * (i + 1) by omega)
      rw [show m0 + ((i + 1 : Nat) : Int) = m0 + (i : Int) + 1 by omega]
      exact d7
    · rw [List.map_append]
      exact ats_app (aG6.keep f7) (ats_one (et6.keep f7))
    · rw [sn_app, List.nodup_append]
      refine ⟨hnd, List.pairwise_singleton _ _, fun a ha b hb e => ?_⟩
      have hb : b ∈ [x] := hb
      rw [List.mem_singleton.mp hb] at e
      obtain ⟨q', hq', hqa⟩ := sn_mem ha
      obtain ⟨_, _, j, hj, hj0, hj1⟩ := hgs q' hq'
      have := xN_inj (a := j) (b := m0 + (i : Int) + 1) hj0 (by omega) (by omega) (by omega) (by rw [← hj, hqa, e, hxe])
      omega
    · rcases List.mem_append.mp hq with e | e
      · obtain ⟨h1, h2, j, hj, hj0, hj1⟩ := hgs qq e
        exact ⟨h1, h2, j, hj, hj0, by omega⟩
      · rw [List.mem_singleton.mp e]
        exact ⟨hx, kinds5_ok z hz, _, hxe.symm, by omega, by omega⟩
  rintro σ G ⟨gs, gxs, v7, v8, rfl, kG, dGN, hGG, hIG, aG, aS, hgl, hnd, hgs⟩
  rw [Int.toNat_natCast] at hgl dGN
  have hgxl := ats_len aG
  rw [List.length_map] at hgxl
  -- own = inner
  have hgood : ∀ q ∈ gs, nameOk q.1 ∧ q.2.length ≤ 1000 := fun q hq => ⟨(hgs q hq).1, (hgs q hq).2.1⟩
  have scI : ScAt G In (S ++ gs) := ⟨⟨_, hIG, by rw [List.map_append]; exact ats_app aS aG⟩, fun q hq => (List.mem_append.mp hq).elim (hS.ok q) (hgood q)⟩
  have hS0 : ScAt G sc S := ⟨⟨xs, kG _ _ (fun z => by
      obtain ⟨xs', h', _⟩ := hS.at'
      obtain ⟨row, i, nn, l, h1, _⟩ := d0
      rw [z, h1] at h'; cases h') (by
      obtain ⟨xs', h', _⟩ := hS.at'
      have := s1 _ _ h'
      rw [hsc] at this
      cases this
      exact h'), aS⟩, hS.ok⟩
  refine ⟨fun σ G' => σ = [some (.ref p), some (.ref sc), some (.str kd), some (.int ((e + 1 : Nat) : Int)), some (.int (m : Int)), some (.ref Gp), some (.ref In), v7, v8, some (.ref In), none, none] ∧ G = G', ⟨_, rfl, rfl, rfl⟩, ?_⟩
  rintro σ G' ⟨rfl, rfl⟩
  refine ⟨fun σ G' => ∃ (ow : Addr) (T' : List (Str × Str)), σ = [some (.ref p), some (.ref sc), some (.str kd), some (.int ((e + 1 : Nat) : Int)), some (.int (m : Int)), some (.ref Gp), some (.ref In), v7, v8, some (.ref ow), none, none] ∧ Keep p G G' ∧ DAt G' p r (B + 2 * m + 1) ∧ ScAt G' ow T' ∧ T'.length ≤ S.length + 2 ∧ ∀ s ∈ sn T', s ∈ sn (S ++ gs), ?_, ?_⟩
  · refine ⟨_, rfl, p, r, _, _, rfl, dGN, fun n3 G3 n30 n31 k3 d3N => ?_⟩
    have d3 := d3N.to
    have scI3 := scI.keep k3 dGN.to
    have scS3 := hS0.keep k3 dGN.to
    have keepI : ∃ (ow : Addr) (T' : List (Str × Str)), [some (V.ref p), some (.ref sc), some (.str kd), some (.int ((e + 1 : Nat) : Int)), some (.int (m : Int)), some (.ref Gp), some (.ref In), v7, v8, some (.ref In), none, none] = [some (.ref p), some (.ref sc), some (.str kd), some (.int ((e + 1 : Nat) : Int)), some (.int (m : Int)), some (.ref Gp), some (.ref In), v7, v8, some (.ref ow), none, none] ∧ Keep p G G3 ∧ DAt G3 p r (B + 2 * m + 1) ∧ ScAt G3 ow T' ∧ T'.length ≤ S.length + 2 ∧ ∀ s ∈ sn T', s ∈ sn (S ++ gs) := ⟨In, S ++ gs, rfl, k3, d3, scI3, by rw [List.length_append]; omega, fun s h => h⟩
    refine ⟨_, _, rfl, rfl, (show (0 : Int) < 3 by decide), _, _, rfl, rfl, _, rfl, ?_⟩
    show if decide (0 < n3 % 3) = true then _ else _
    rcases Bool.eq_false_or_eq_true (decide (0 < n3 % 3)) with c | c
    · rw [c]
      refine iteT ?_
      refine ⟨_, rfl, rfl, _, rfl, ?_⟩
      show if decide (V.int (m : Int) = V.int 1) = true then _ else _
      rcases Bool.eq_false_or_eq_true (decide (V.int (m : Int) = V.int 1)) with c2 | c2
      · rw [c2]
        refine iteT ?_
        exact ⟨_, rfl, sc, S, rfl, k3, d3, scS3, by omega, fun s h => by rw [sn_app]; exact List.mem_append_left _ h⟩
      · rw [c2]
        refine iteF ?_
        exact keepI
    · rw [c]
      refine iteF (iteF ?_)
      exact keepI
  rintro σ G3 ⟨ow, T', rfl, k3, d3, scO, hTl, hTs⟩
  have scI3 := scI.keep k3 dGN.to
  have hGG3 := k3 _ _ nGp hGG
  have aG3 := aG.keep (fr_keep k3 dGN.to)
  have kG3 := kG.trans k3
  refine ⟨_, rfl, Gp, rfl, ⟨_, SqL.of hGG3⟩, fun D hD => ?_⟩
  obtain ⟨nDp, nDr⟩ := d3.fresh hD
  refine lc_list (a := Gp) (xs := gxs) (fun i G' => ∃ (l : List Dd) (ys : List V), G' D = some (.lst ys) ∧ Keep p G3 G' ∧ DAt G' p r (B + 2 * m + 1 + i * (40 * 4 ^ e - 20)) ∧ Dd.Ats F0 G' (rowsL ((sn gs).take i) l) ys ∧ l.length = i ∧ ∀ k ∈ l, Gz (3 * e + 2) (60 * 4 ^ e - 30) (sn gs ++ sn S) k) ⟨[], [], upd_same, Keep.same (same_new hD _), (d3.same (same_new hD _)).more (by omega), rfl, rfl, fun k h => absurd h List.not_mem_nil⟩ (fun i G' hi ⟨_, _, _, h2, _⟩ => SqL.of (h2 _ _ nGp hGG3)) ?_ ?_
  · rintro i x G' hx ⟨l, ys, h1, h2, h3, h4, h5, h6⟩
    obtain ⟨kk, hk, hkx⟩ := ats_get aG3 hx
    rw [List.getElem?_map] at hk
    cases hq : gs[i]? with
    | none => rw [hq] at hk; cases hk
    | some qq =>
      rw [hq] at hk
      cases hk
      have hil : i < gs.length := (List.getElem?_eq_some_iff.mp hq).1
      have hqm := List.mem_of_getElem? hq
      obtain ⟨t, x1, y1, rfl, ht, hx1, hy1⟩ := pair_at (m := [.str qq.1, .str qq.2]) hkx rfl
      obtain ⟨rfl, _⟩ := (show x1 = .str qq.1 ∧ _ from hx1)
      obtain ⟨rfl, _⟩ := (show y1 = .str qq.2 ∧ _ from hy1)
      have hsn : (sn gs)[i]? = some qq.1 := by unfold sn; rw [List.getElem?_map, hq]; rfl
      have hic : i * (40 * 4 ^ e - 20) ≤ 1 * (40 * 4 ^ e - 20) := Nat.mul_le_mul_right _ (by omega)
      have hic1 : (i + 1) * (40 * 4 ^ e - 20) = i * (40 * 4 ^ e - 20) + (40 * 4 ^ e - 20) := Nat.succ_mul _ _
      have hyl := ats_len h4
      have hsl : (sn gs).length = gs.length := by unfold sn; rw [List.length_map]
      rw [rowsL_len (by rw [List.length_take, h5, hsl]; omega), h5] at hyl
      have ht' := h2 _ _ (d3.ne_tup ht) ht
      refine ⟨t, _, rfl, SqT.of ht', rfl, _, _, rfl, _, _, rfl, rfl, rfl, ?_⟩
      refine tYes_if ?_
      refine ⟨_, rfl, _, rfl, _, rfl, _, rfl, _, rfl, _, _, rfl, rfl, p, r, ow, _, e, T', _, ed4 _ _ _ _, (hgs qq hqm).2.1, hen, h3, scO.keep h2 d3, by omega, by omega, fun v1 g1 G4 k4 d4 a4 hg => ⟨by show 2 ≤ sizeLine; decide, fun u1 hu1 => ?_⟩⟩
      have h1' := k4 _ _ nDp h1
      have s5 := same_new hu1 (.tup [.str qq.1, v1])
      have h1'' := s5 _ _ h1'
      have f5 := fr_same (B := F0) s5
      have e5 : upd G4 u1 (.tup [.str qq.1, v1]) u1 = some (.tup [.str qq.1, v1]) := upd_same
      have d5 := d4.same s5
      have a5 := a4.keep f5
      have h45 := (h4.keep (fr_keep k4 h3)).keep f5
      have k5 := (h2.trans k4).trans (Keep.same s5)
      generalize upd G4 u1 (.tup [.str qq.1, v1]) = G5 at e5 h1'' d5 a5 h45 k5 ⊢
      have fL : Fr F0 G5 (upd G5 D (.lst (ys ++ [.ref u1]))) := fr_list h1'' fun z => z
      refine ⟨ys, h1'', szl (by omega), l ++ [g1], ys ++ [.ref u1], upd_same, keep_upd hD k5 _, (d5.off nDp nDr _).more (by omega), ?_, by rw [List.length_append, h5]; rfl, fun k hk => ?_⟩
      · rw [List.take_add_one, hsn, show rowsL ((sn gs).take i ++ (some qq.1).toList) (l ++ [g1]) = rowsL ((sn gs).take i) l ++ [.tup [.str qq.1, g1]] by
          unfold rowsL
          rw [List.zipWith_append (by rw [List.length_take, h5, hsl]; omega)]
          rfl]
        exact ats_app (h45.keep fL) (ats_one ((at_tup e5 (ats_cons (at_str' (hgs qq hqm).1.len) (ats_cons a5 ats_nil))).keep fL))
      · rcases List.mem_append.mp hk with z' | z'
        · exact h6 k z'
        · rw [List.mem_singleton.mp z']
          exact hg.mono (Nat.le_refl _) (Nat.le_refl _) fun s hs => by
            have := hTs s hs
            rw [sn_app] at this
            exact (List.mem_append.mp this).elim (fun z => List.mem_append_right _ z) fun z => List.mem_append_left _ z
  rintro G' ⟨l, ys, h1, h2, h3, h4, h5, h6⟩
  rw [hgxl] at h3 h4 h5
  have hsl : (sn gs).length = gs.length := by unfold sn; rw [List.length_map]
  rw [← hsl, List.take_length] at h4
  have hic : gs.length * (40 * 4 ^ e - 20) ≤ 2 * (40 * 4 ^ e - 20) := Nat.mul_le_mul_right _ (by omega)
  refine ⟨_, rfl, D, ys, rfl, .inl ⟨SqL.of h1, fun u1 hu1 => ?_⟩⟩
  have s6 := same_new hu1 (.tup ys)
  have e6 : upd G' u1 (.tup ys) u1 = some (.tup ys) := upd_same
  have d6 := h3.same s6
  have a6 := Dd.Ats.keep (fr_same (B := F0) s6) h4
  have kk6 := h2.trans (Keep.same s6)
  have scI6 := scI3.keep kk6 d3
  have kA6 := kG3.trans kk6
  generalize upd G' u1 (.tup ys) = G6 at e6 d6 a6 kk6 scI6 kA6 ⊢
  refine ⟨_, rfl, _, rfl, _, rfl, _, rfl, _, _, rfl, rfl, p, r, In, _, e, S ++ gs, kd, ed4 _ _ _ _, hkd, hen, d6, scI6, by rw [List.length_append]; omega, by omega, fun v4 g4 G7 k7 d7 a7 h7 => ⟨by show 3 ≤ sizeLine; decide, fun t5 ht5 => ?_⟩⟩
  have s8 := same_new ht5 (.tup [.str "let", .ref u1, v4])
  have f8 := fr_same (B := F0) s8
  have hgz := gz_let (n := 3 * e + 2) (z := 60 * 4 ^ e - 30) (c := 2) (U := sn S) (zs := sn gs) (l := l) (b := g4) (fun x hx => by
    obtain ⟨q', hq', rfl⟩ := sn_mem hx
    exact (hgood q' hq').1.1) hnd (by omega) (by omega) (by omega) h6 (h7.mono (Nat.le_refl _) (Nat.le_refl _) fun s hs => by
      rw [sn_app] at hs
      exact (List.mem_append.mp hs).elim (fun z => List.mem_append_right _ z) fun z => List.mem_append_left _ z)
  exact q _ (.tup [.str "let", .tup (rowsL (sn gs) l), g4]) _ ((kA6.trans k7).trans (Keep.same s8)) ((d7.same s8).more (by omega)) (at_tup upd_same (ats_cons (at_str' (by decide +kernel)) (ats_cons (at_tup (s8 _ _ (k7 _ _ (d6.ne_tup e6) e6)) ((a6.keep (fr_keep k7 d6)).keep f8)) (ats_cons (a7.keep f8) ats_nil)))) (hgz.mono (by omega) (by omega) fun s h => h)
def spDefault (n : Nat) : Sp := fun vs H Q _ => ∃ (p r sc : Addr) (B e m : Nat) (S : List (Str × Str)) (kd ot : Str), vs = [.ref p, .ref sc, .str kd, .str ot, .int ((e + 1 : Nat) : Int), .int (m : Int)] ∧ e < n ∧ 1 ≤ m ∧ m ≤ 3 ∧ ot.length ≤ 1000 ∧ kd.length ≤ 1000 ∧ DAt H p r B ∧ ScAt H sc S ∧ S.length + 3 * (e + 1) ≤ 900 ∧ B + 2 + 40 * 4 ^ e ≤ 1000000000 ∧
  ∀ (v : V) (o : Option (Str × Dd)) (H' : Hp), Keep p H H' → DAt H' p r (B + 2 + (40 * 4 ^ e - 20)) → (dfl o).At F0 H' v → DfOk (3 * e + 2) (60 * 4 ^ e - 30) (sn S) o → Q v H'
abbrev sDflt2 : Stmt := topS 43
theorem scDflt2 : FnScope ["d", "scope", "kind", "other", "depth", "odds", "name"] ["d", "scope", "kind", "other", "depth", "odds"] (defScope sDflt2) := ⟨rfl, rfl, rfl, by decide +kernel, rfl, by decide +kernel, by decide +kernel⟩
theorem c_default {f : Addr} {fd : FuncData} {n : Nat} (c_law_take : C8.Cal P w K mg base 1 "_law_take" spTake []) (c_law_fresh : C8.Cal P w K mg base 1 "_law_fresh" spFresh []) (c_law_term : C8.Cal P w K mg base (3 * n + 5) "_law_term" (spTerm n) []) (F : Fun K "_law_default" "_law_default" sDflt2 f fd) (b : Binds K fd ["d", "scope", "kind", "other", "depth", "odds"] []) (hm : mg "_law_default" = some (.ref f)) : C8.Cal P w K mg base (3 * n + 6) "_law_default" (spDefault n) [] := by
  refine cal_of F hm b scDflt2 (fun vs H Q E h => ?_) (fun cdv A outer s H vs Q E hr h => ?_)
  · obtain ⟨p, r, sc, B, e, m, S, kd, ot, rfl, _⟩ := h
    rfl
  obtain ⟨p, r, sc, B, e, m, S, kd, ot, rfl, hen, hm1, hm3, hot, hkd, d0, hS, hSl, hB, q⟩ := h
  have hP := pow_pos4 e
  refine ⟨_, (pss_cons (ps_if (pt_cmpR op_gt (pe_op op_mod (C8.pe_c c_law_take hr (by omega) rfl (pa_cons (pv 0) pa_nil)) (pv 5)) pe_int (nomark _))
      (pss_one (ps_ret pe_non))
      pss_nil)
    (pss_cons (ps_set (i := 6) scDflt2.nd rfl (Or.inl rfl) (C8.pe_c c_law_fresh hr (by omega) rfl (pa_cons (pv 0) pa_nil)))
    (pss_one (ps_ret (pe_tup (pa_cons (pv 6) (pa_cons (C8.pe_c c_law_term hr (by omega) rfl (pa_cons (pv 0) (pa_cons (pe_op op_cat (pv 1) (pe_lst (pa_cons (pe_tup (pa_cons (pv 6) (pa_cons (pv 3) pa_nil))) pa_nil))) (pa_cons (pv 2) (pa_cons (pe_op op_sub (pv 4) pe_int) pa_nil))))) pa_nil))))))), ?_⟩
  refine ⟨_, rfl, p, r, _, rfl, d0, fun n1 H1 n10 n11 k1 d1 => ?_⟩
  refine ⟨_, rfl, _, _, rfl, rfl, by omega, _, _, rfl, rfl, _, rfl, ?_⟩
  show if decide (0 < n1 % (m : Int)) = true then _ else _
  rcases Bool.eq_false_or_eq_true (decide (0 < n1 % (m : Int))) with c | c
  · rw [c]
    refine iteT ?_
    exact q .non none H1 k1 (d1.more (by omega)) rfl ⟨fun q h => by cases h⟩
  rw [c]
  refine iteF ?_
  refine ⟨_, rfl, p, r, _, rfl, d1, by omega, fun x H2 hx k2 d2 => ?_⟩
  have hS2 := (hS.keep k1 d0).keep k2 d1
  obtain ⟨xs, hsc, hats⟩ := hS2.at'
  have hxl := ats_len hats
  rw [List.length_map] at hxl
  refine ⟨_, rfl, _, rfl, _, rfl, _, rfl, _, rfl, by show 2 ≤ sizeLine; decide, fun t ht => ⟨by show 1 ≤ sizeLine; decide, fun l1 hl1 => ?_⟩⟩
  have st := same_new ht (.tup [.str x, .str ot])
  have sl := same_new hl1 (.lst [.ref t])
  refine ⟨sc, l1, xs, _, rfl, rfl, sl _ _ (st _ _ hsc), upd_same, by have := big; show xs.length + 1 ≤ _; omega, fun sc2 hsc2 => ?_⟩
  have s3 := same_new hsc2 (.lst (xs ++ [.ref t]))
  have sA := sameT st (sameT sl s3)
  have hS3 := sc_ext (sc := sc2) (t := t) (x := x) (kd := ot) hats hS.ok sA (s3 _ _ (sl _ _ upd_same)) upd_same hx hot
  refine ⟨_, rfl, _, rfl, _, _, rfl, rfl, p, r, sc2, _, e, S ++ [(x, ot)], kd, ed4 _ _ _ _, hkd, hen, d2.same sA, hS3, by rw [List.length_append]; show _ + 1 + _ ≤ _; omega, by omega, fun v3 k3 H3 kk3 dd3 aa3 gg3 => ⟨by show 2 ≤ sizeLine; decide, fun t3 ht3 => ?_⟩⟩
  have s4 := same_new ht3 (.tup [.str x, v3])
  exact q _ (some (x, k3)) _ ((((k1.trans k2).trans (Keep.same sA)).trans kk3).trans (Keep.same s4)) ((dd3.same s4).more (by omega)) (at_tup upd_same (ats_cons (at_str' hx.len) (ats_cons (aa3.keep (fr_same s4)) ats_nil))) ⟨fun q' h => by
    cases h
    exact ⟨hx, gg3.mono (Nat.le_refl _) (Nat.le_refl _) fun s h => sn_snoc h⟩⟩
end
end Toy

set_option Elab.async false
set_option linter.all false
set_option maxRecDepth 100000
set_option maxHeartbeats 4000000
/-! Part C2: cases and choices of typed terms. -/
namespace Toy
open PySem L2
open PyProof.Rows (envOfC)
theorem sc_ext2 {H G : Hp} {sc t u : Addr} {S : List (Str × Str)} {xs : List V} {x y k1 k2 : Str} (hats : Dd.Ats F0 H (S.map scD) xs) (hok : ∀ q ∈ S, nameOk q.1 ∧ q.2.length ≤ 1000) (s : Same H G) (ht : G t = some (.tup [.str x, .str k1])) (hu : G u = some (.tup [.str y, .str k2])) (h2 : G sc = some (.lst (xs ++ [.ref t, .ref u]))) (hx : nameOk x) (hy : nameOk y) (hk1 : k1.length ≤ 1000) (hk2 : k2.length ≤ 1000) : ScAt G sc (S ++ [(x, k1), (y, k2)]) :=
  ⟨⟨_, h2, by
    rw [List.map_append]
    exact ats_app (hats.keep (fr_same s)) (ats_cons (at_tup ht (ats_cons (at_str' hx.len) (ats_cons (at_str' hk1) ats_nil)) : (scD (x, k1)).At F0 G (.ref t)) (ats_one (at_tup hu (ats_cons (at_str' hy.len) (ats_cons (at_str' hk2) ats_nil)) : (scD (y, k2)).At F0 G (.ref u))))⟩, fun q hq => by
    rcases List.mem_append.mp hq with e | e
    · exact hok q e
    · simp only [List.mem_cons, List.not_mem_nil, or_false] at e
      rcases e with rfl | rfl
      · exact ⟨hx, hk1⟩
      · exact ⟨hy, hk2⟩⟩
/-- a row of a case -/
def RowOk2 (n z : Nat) (U : List Str) (q : Int × List Str × Dd) : Prop := 0 ≤ q.1 ∧ q.1 ≤ 1000 ∧ (∀ x ∈ q.2.1, isName (.str x) = true) ∧ q.2.1.Nodup ∧ q.2.1.length ≤ 2 ∧ Gz n z (q.2.1 ++ U) q.2.2
theorem row0 {n z : Nat} {U : List Str} {i : Int} {k : Dd} (h0 : 0 ≤ i) (h1 : i ≤ 1000) (h : Gz n z U k) : RowOk2 n z U (i, [], k) := ⟨h0, h1, fun x h => absurd h List.not_mem_nil, List.nodup_nil, Nat.zero_le _, h⟩
section
variable {P : Program} {w : World} {K : PySem.W.Frag} {mg : Str → Option Value} {base : Heap}
def spHelp (n : Nat) : Sp := fun vs H Q _ => ∃ (p r sc : Addr) (B e : Nat) (S : List (Str × Str)) (kd : Str), vs = [.ref p, .ref sc, .str kd, .int ((e + 1 : Nat) : Int)] ∧ e < n ∧ kd.length ≤ 1000 ∧ DAt H p r B ∧ ScAt H sc S ∧ S.length + 3 * (e + 1) ≤ 900 ∧ B + 40 * 4 ^ (e + 1) ≤ 1000000005 ∧
  ∀ (v : V) (k : Dd) (H' : Hp), Keep p H H' → DAt H' p r (B + (40 * 4 ^ (e + 1) - 25)) → k.At F0 H' v → Gz (3 * (e + 1) + 2) (60 * 4 ^ (e + 1) - 30) (sn S) k → Q v H'
abbrev sCase : Stmt := topS 44
theorem scCase : FnScope ["d", "scope", "kind", "depth", "turn", "first", "found", "head", "tail", "more"] ["d", "scope", "kind", "depth"] (defScope sCase) := ⟨rfl, rfl, rfl, by decide +kernel, rfl, by decide +kernel, by decide +kernel⟩
theorem c_case {f : Addr} {fd : FuncData} {n : Nat} (T : TxtY mg) (c_law_take : C8.Cal P w K mg base 1 "_law_take" spTake []) (c_law_fresh : C8.Cal P w K mg base 1 "_law_fresh" spFreshN []) (c_law_term : C8.Cal P w K mg base (3 * n + 5) "_law_term" (spTerm n) []) (c_law_default : C8.Cal P w K mg base (3 * n + 6) "_law_default" (spDefault n) []) (F : Fun K "_law_case" "_law_case" sCase f fd) (b : Binds K fd ["d", "scope", "kind", "depth"] []) (hm : mg "_law_case" = some (.ref f)) : C8.Cal P w K mg base (3 * n + 7) "_law_case" (spHelp n) [] := by
  refine cal_of F hm b scCase (fun vs H Q E h => ?_) (fun cdv A outer s H vs Q E hr h => ?_)
  · obtain ⟨p, r, sc, B, e, S, kd, rfl, _⟩ := h
    rfl
  obtain ⟨p, r, sc, B, e, S, kd, rfl, hen, hkd, d0, hS, hSl, hB, q⟩ := h
  have hP := pow_pos4 e
  have hbig := big
  rw [p4n] at hB q
  refine ⟨_, (pss_cons (ps_set (i := 4) scCase.nd rfl (Or.inl rfl) (pe_op op_mod (C8.pe_c c_law_take hr (by omega) rfl (pa_cons (pv 0) pa_nil)) pe_int))
    (pss_cons (ps_if (pt_cmpR op_lt (pv 4) pe_int (nomark _))
      (pss_cons (ps_set (i := 5) scCase.nd rfl (Or.inl rfl) (C8.pe_c c_law_term hr (by omega) rfl (pa_cons (pv 0) (pa_cons (pv 1) (pa_cons pe_str (pa_cons (pe_op op_sub (pv 3) pe_int) pa_nil))))))
    (pss_cons (ps_set (i := 6) scCase.nd rfl (Or.inl rfl) (pe_lst (pa_cons (pe_tup (pa_cons pe_int (pa_cons (pe_tup pa_nil) (pa_cons (C8.pe_c c_law_term hr (by omega) rfl (pa_cons (pv 0) (pa_cons (pv 1) (pa_cons (pv 2) (pa_cons (pe_op op_sub (pv 3) pe_int) pa_nil))))) pa_nil)))) (pa_cons (pe_tup (pa_cons pe_int (pa_cons (pe_tup pa_nil) (pa_cons (C8.pe_c c_law_term hr (by omega) rfl (pa_cons (pv 0) (pa_cons (pv 1) (pa_cons (pv 2) (pa_cons (pe_op op_sub (pv 3) pe_int) pa_nil))))) pa_nil)))) pa_nil))))
    (C8.pss_cut (ps_if (PW.pt (pw_and (pt_cmpR op_eq (pv 4) pe_int (nomark _)) (pw_and1 (pt_cmpR op_eq (pe_op op_mod (C8.pe_c c_law_take hr (by omega) rfl (pa_cons (pv 0) pa_nil)) pe_int) pe_int (nomark _)))))
      (pss_one (ps_set (i := 6) scCase.nd rfl (Or.inl rfl) (pe_slice sl_list (pv 6) (po_some pe_int) po_none)))
      pss_nil)
    (pss_one (ps_ret (pe_tup (pa_cons pe_str (pa_cons (pv 5) (pa_cons (pe_callTy call_tuple_of rfl T.ztuple boot_tuple (pa_cons (pv 6) pa_nil)) (pa_cons (C8.pe_c c_law_default hr (by omega) rfl (pa_cons (pv 0) (pa_cons (pv 1) (pa_cons (pv 2) (pa_cons pe_str (pa_cons (pv 3) (pa_cons pe_int pa_nil))))))) pa_nil))))))))))
      pss_nil)
    (pss_cons (ps_set (i := 5) scCase.nd rfl (Or.inl rfl) (C8.pe_c c_law_term hr (by omega) rfl (pa_cons (pv 0) (pa_cons (pv 1) (pa_cons pe_str (pa_cons (pe_op op_sub (pv 3) pe_int) pa_nil))))))
    (pss_cons (ps_set (i := 7) scCase.nd rfl (Or.inl rfl) (C8.pe_c c_law_fresh hr (by omega) rfl (pa_cons (pv 0) pa_nil)))
    (pss_cons (ps_set (i := 8) scCase.nd rfl (Or.inl rfl) (C8.pe_c c_law_fresh hr (by omega) rfl (pa_cons (pv 0) pa_nil)))
    (pss_cons (ps_set (i := 9) scCase.nd rfl (Or.inl rfl) (C8.pe_c c_law_term hr (by omega) rfl (pa_cons (pv 0) (pa_cons (pe_op op_cat (pv 1) (pe_lst (pa_cons (pe_tup (pa_cons (pv 7) (pa_cons pe_str pa_nil))) (pa_cons (pe_tup (pa_cons (pv 8) (pa_cons pe_str pa_nil))) pa_nil)))) (pa_cons (pv 2) (pa_cons (pe_op op_sub (pv 3) pe_int) pa_nil))))))
    (pss_cons (ps_set (i := 6) scCase.nd rfl (Or.inl rfl) (pe_lst (pa_cons (pe_tup (pa_cons pe_int (pa_cons (pe_tup (pa_cons (pv 7) (pa_cons (pv 8) pa_nil))) (pa_cons (pv 9) pa_nil)))) pa_nil)))
    (C8.pss_cut (ps_if (pt_cmpR op_eq (pv 4) pe_int (nomark _))
      (pss_one (ps_set (i := 6) scCase.nd rfl (Or.inl rfl) (pe_op op_cat (pe_lst (pa_cons (pe_tup (pa_cons pe_int (pa_cons (pe_tup pa_nil) (pa_cons (C8.pe_c c_law_term hr (by omega) rfl (pa_cons (pv 0) (pa_cons (pv 1) (pa_cons (pv 2) (pa_cons (pe_op op_sub (pv 3) pe_int) pa_nil))))) pa_nil)))) pa_nil)) (pv 6))))
      pss_nil)
    (pss_one (ps_ret (pe_tup (pa_cons pe_str (pa_cons (pv 5) (pa_cons (pe_callTy call_tuple_of rfl T.ztuple boot_tuple (pa_cons (pv 6) pa_nil)) (pa_cons (C8.pe_c c_law_default hr (by omega) rfl (pa_cons (pv 0) (pa_cons (pv 1) (pa_cons (pv 2) (pa_cons pe_str (pa_cons (pv 3) (pa_cons pe_int pa_nil))))))) pa_nil))))))))))))))), ?_⟩
  refine ⟨_, rfl, p, r, _, rfl, d0, fun n1 H1 n10 n11 k1 d1 => ?_⟩
  have m10 := Int.emod_nonneg n1 (show (4 : Int) ≠ 0 by decide)
  have m11 := Int.emod_lt_of_pos n1 (show (0 : Int) < 4 by decide)
  refine ⟨_, _, rfl, rfl, (show (0 : Int) < 4 by decide), ?_⟩
  show gName 4 (V.int (n1 % 4)) _ _ _
  generalize n1 % 4 = u at *
  have hS1 := hS.keep k1 d0
  refine ⟨_, rfl, _, _, rfl, rfl, _, rfl, ?_⟩
  show if decide (u < 2) = true then _ else _
  rcases Bool.eq_false_or_eq_true (decide (u < 2)) with c | c
  · rw [c]
    refine iteT ?_
    refine ⟨_, rfl, _, rfl, _, rfl, _, _, rfl, rfl, p, r, sc, _, e, S, "B", ed4 _ _ _ _, by decide +kernel, hen, d1, hS1, by omega, by omega, fun v2 g2 H2 k2 d2 a2 h2 => ?_⟩
    have hS2 := hS1.keep k2 d1
    refine ⟨by show 0 ≤ sizeLine; decide, fun u3 hu3 => ?_⟩
    have s3 := same_new hu3 (.tup [])
    have e3 : upd H2 u3 (.tup []) u3 = some (.tup []) := upd_same
    have d3 := d2.same s3
    have hS3 := hS2.same s3
    have a23 := a2.keep (fr_same s3)
    have kk3 := (k1.trans k2).trans (Keep.same s3)
    generalize upd H2 u3 (.tup []) = H3 at e3 d3 hS3 a23 kk3 ⊢
    refine ⟨_, rfl, _, rfl, _, rfl, _, rfl, _, _, rfl, rfl, p, r, sc, _, e, S, kd, ed4 _ _ _ _, hkd, hen, d3, hS3, by omega, by omega, fun v4 g4 H4 k4 d4 a4 h4 => ⟨by show 3 ≤ sizeLine; decide, fun t4 ht4 => ?_⟩⟩
    have s5 := same_new ht4 (.tup [.int 0, .ref u3, v4])
    have f5 := (fr_keep (B := F0) k4 d3).trans (fr_same s5)
    have e5 : (Dd.tup [.int 0, nameT [], g4]).At F0 (upd H4 t4 (.tup [.int 0, .ref u3, v4])) (.ref t4) := at_tup upd_same (ats_cons at_int' (ats_cons (at_tup (f5.1 _ _ e3) ats_nil) (ats_cons (a4.keep (fr_same s5)) ats_nil)))
    have d5 := d4.same s5
    have hS5 := (hS3.keep k4 d3).same s5
    have a25 := a23.keep f5
    have kk5 := (kk3.trans k4).trans (Keep.same s5)
    generalize upd H4 t4 (.tup [.int 0, .ref u3, v4]) = H5 at e5 d5 hS5 a25 kk5 ⊢
    refine ⟨by show 0 ≤ sizeLine; decide, fun u6 hu6 => ?_⟩
    have s6 := same_new hu6 (.tup [])
    have e6 : upd H5 u6 (.tup []) u6 = some (.tup []) := upd_same
    have d6 := d5.same s6
    have hS6 := hS5.same s6
    have a26 := a25.keep (fr_same s6)
    have e56 := e5.keep (fr_same s6)
    have kk6 := kk5.trans (Keep.same s6)
    generalize upd H5 u6 (.tup []) = H6 at e6 d6 hS6 a26 e56 kk6 ⊢
    refine ⟨_, rfl, _, rfl, _, rfl, _, rfl, _, _, rfl, rfl, p, r, sc, _, e, S, kd, ed4 _ _ _ _, hkd, hen, d6, hS6, by omega, by omega, fun v7 g7 H7 k7 d7 a7 h7 => ⟨by show 3 ≤ sizeLine; decide, fun t7 ht7 => ⟨by show 2 ≤ sizeLine; decide, fun L hL => ?_⟩⟩⟩
    have s8 := same_new ht7 (.tup [.int 1, .ref u6, v7])
    have s9 := same_new hL (.lst [.ref t4, .ref t7])
    have f7 := fr_keep (B := F0) k7 d6
    have s89 := sameT s8 s9
    have f9 := f7.trans (fr_same s89)
    have e9 : (Dd.tup [.int 1, nameT [], g7]).At F0 (upd (upd H7 t7 (.tup [.int 1, .ref u6, v7])) L (.lst [.ref t4, .ref t7])) (.ref t7) := at_tup (s9 _ _ upd_same) (ats_cons at_int' (ats_cons (at_tup (f9.1 _ _ e6) ats_nil) (ats_cons (a7.keep (fr_same s89)) ats_nil)))
    have eL : upd (upd H7 t7 (.tup [.int 1, .ref u6, v7])) L (.lst [.ref t4, .ref t7]) L = some (.lst [.ref t4, .ref t7]) := upd_same
    have d9 := d7.same s89
    have hS9 := (hS6.keep k7 d6).same s89
    have a29 := a26.keep f9
    have e59 := e56.keep f9
    have kk9 := (kk6.trans k7).trans (Keep.same s89)
    generalize upd (upd H7 t7 (.tup [.int 1, .ref u6, v7])) L (.lst [.ref t4, .ref t7]) = H9 at e9 eL d9 hS9 a29 e59 kk9 ⊢
    refine ⟨fun σ G => ∃ (Fo : Addr) (ys : List V) (l : List (Int × List Str × Dd)), σ = [some (.ref p), some (.ref sc), some (.str kd), some (.int ((e + 1 : Nat) : Int)), some (.int u), some v2, some (.ref Fo), none, none, none] ∧ Keep p H G ∧ DAt G p r (B + 3 * (40 * 4 ^ e - 20) + 2) ∧ ScAt G sc S ∧ g2.At F0 G v2 ∧ G Fo = some (.lst ys) ∧ Dd.Ats F0 G (rowsC l) ys ∧ l.length ≤ 2 ∧ ∀ q ∈ l, RowOk2 (3 * e + 2) (60 * 4 ^ e - 30) (sn S) q, ?_, ?_⟩
    · have all2 : ∀ q ∈ [((0 : Int), ([] : List Str), g4), (1, [], g7)], RowOk2 (3 * e + 2) (60 * 4 ^ e - 30) (sn S) q := fun q hq => by
        simp only [List.mem_cons, List.not_mem_nil, or_false] at hq
        rcases hq with rfl | rfl
        · exact row0 (by decide) (by decide) h4
        · exact row0 (by decide) (by decide) h7
      have stay : ∀ G (k : Keep p H9 G) (d : DAt G p r (B + 3 * (40 * 4 ^ e - 20) + 2)), ∃ (Fo : Addr) (ys : List V) (l : List (Int × List Str × Dd)), [some (V.ref p), some (.ref sc), some (.str kd), some (.int ((e + 1 : Nat) : Int)), some (.int u), some v2, some (.ref L), none, none, none] = [some (.ref p), some (.ref sc), some (.str kd), some (.int ((e + 1 : Nat) : Int)), some (.int u), some v2, some (.ref Fo), none, none, none] ∧ Keep p H G ∧ DAt G p r (B + 3 * (40 * 4 ^ e - 20) + 2) ∧ ScAt G sc S ∧ g2.At F0 G v2 ∧ G Fo = some (.lst ys) ∧ Dd.Ats F0 G (rowsC l) ys ∧ l.length ≤ 2 ∧ ∀ q ∈ l, RowOk2 (3 * e + 2) (60 * 4 ^ e - 30) (sn S) q := fun G k d =>
        ⟨L, _, [(0, [], g4), (1, [], g7)], rfl, kk9.trans k, d, hS9.keep k d9, a29.keep (fr_keep k d9), k _ _ (d9.ne_list eL) eL, ats_cons (e59.keep (fr_keep k d9)) (ats_one (e9.keep (fr_keep k d9))), Nat.le_refl _, all2⟩
      refine ⟨_, rfl, rfl, _, rfl, ?_⟩
      show if decide (V.int u = V.int 0) = true then _ else _
      rcases Bool.eq_false_or_eq_true (decide (V.int u = V.int 0)) with c2 | c2
      · rw [c2]
        refine iteT ?_
        refine ⟨_, rfl, p, r, _, rfl, d9, fun n3 G3 n30 n31 k3 d3' => ?_⟩
        have d3' := d3'.more (show _ ≤ B + 3 * (40 * 4 ^ e - 20) + 2 by omega)
        refine ⟨_, _, rfl, rfl, (show (0 : Int) < 3 by decide), rfl, _, rfl, ?_⟩
        show if decide (V.int (n3 % 3) = V.int 0) = true then _ else _
        rcases Bool.eq_false_or_eq_true (decide (V.int (n3 % 3) = V.int 0)) with c3 | c3
        · rw [c3]
          refine iteT ?_
          have eL3 := k3 _ _ (d9.ne_list eL) eL
          refine ⟨_, rfl, _, rfl, L, _, rfl, SqL.of eL3, fun L2 hL2 => ?_⟩
          rw [show cutV [V.ref t4, .ref t7] (some 1) none = [.ref t7] from cut_from [V.ref t4, .ref t7] 1 (by show 1 ≤ 2; decide)]
          have s4 := same_new hL2 (.lst [.ref t7])
          exact ⟨L2, _, [(1, [], g7)], rfl, (kk9.trans k3).trans (Keep.same s4), d3'.same s4, (hS9.keep k3 d9).same s4, (a29.keep (fr_keep k3 d9)).keep (fr_same s4), upd_same, ats_one ((e9.keep (fr_keep k3 d9)).keep (fr_same s4)), by show 1 ≤ 2; decide, fun q hq => all2 q (List.mem_cons_of_mem _ hq)⟩
        · rw [c3]
          refine iteF ?_
          exact stay G3 k3 d3'
      · rw [c2]
        refine iteF (iteF ?_)
        exact stay H9 (Keep.refl _ _) (d9.more (by omega))
    rintro σ G ⟨Fo, ys, l, rfl, kG, dG, hSG, aG, eF, aL, hl, hq⟩
    refine ⟨_, rfl, _, rfl, Fo, ys, rfl, .inl ⟨SqL.of eF, fun tt htt => ?_⟩⟩
    have s10 := same_new htt (.tup ys)
    have e10 : (Dd.tup (rowsC l)).At F0 (upd G tt (.tup ys)) (.ref tt) := at_tup upd_same (aL.keep (fr_same s10))
    have d10 := dG.same s10
    have hS10 := hSG.same s10
    have a10 := aG.keep (fr_same s10)
    have k10 := kG.trans (Keep.same s10)
    generalize upd G tt (.tup ys) = G10 at e10 d10 hS10 a10 k10 ⊢
    refine ⟨_, rfl, _, rfl, _, rfl, _, rfl, p, r, sc, _, e, 3, S, kd, "B", rfl, hen, by decide, by decide, by decide +kernel, hkd, d10, hS10, by omega, by omega, fun v11 o G11 k11 d11 a11 ho => ⟨by show 4 ≤ sizeLine; decide, fun t12 ht12 => ?_⟩⟩
    have s12 := same_new ht12 (.tup [.str "case", v2, .ref tt, v11])
    have f11 := fr_keep (B := F0) k11 d10
    have f12 := fr_same (B := F0) s12
    have hgz := gz_case (n := 3 * e + 2) (z := 60 * 4 ^ e - 30) (U := sn S) (f := g2) (l := l) (o := o) h2 hl hq ho
    exact q _ (.tup [.str "case", g2, .tup (rowsC l), dfl o]) _ ((k10.trans k11).trans (Keep.same s12)) ((d11.same s12).more (by omega)) (at_tup upd_same (ats_cons (at_str' (by decide +kernel)) (ats_cons ((a10.keep f11).keep f12) (ats_cons ((e10.keep f11).keep f12) (ats_cons (a11.keep f12) ats_nil))))) (hgz.mono (by omega) (by omega) fun s h => h)
  rw [c]
  refine iteF ?_
  refine ⟨_, rfl, _, rfl, _, rfl, _, _, rfl, rfl, p, r, sc, _, e, S, "L", ed4 _ _ _ _, by decide +kernel, hen, d1, hS1, by omega, by omega, fun v2 g2 H2 k2 d2 a2 h2 => ?_⟩
  have hS2 := hS1.keep k2 d1
  obtain ⟨m0, dN⟩ := d2.n
  obtain ⟨hm00, hm01⟩ := dN.pos
  refine ⟨_, rfl, p, r, _, _, rfl, dN, by omega, fun H3 hx3 k3 d3N => ?_⟩
  refine ⟨_, rfl, p, r, _, _, rfl, d3N, by omega, fun H4 hx4 k4 d4N => ?_⟩
  have hne : xN (m0 + 1) ≠ xN (m0 + 1 + 1) := fun e => by
    have := xN_inj (a := m0 + 1) (b := m0 + 1 + 1) (by omega) (by omega) (by omega) (by omega) e
    omega
  generalize xN (m0 + 1) = x at hx3 hne ⊢
  generalize xN (m0 + 1 + 1) = y at hx4 hne ⊢
  have d4 := d4N.to
  have f34 := (fr_keep (B := F0) k3 dN.to).trans (fr_keep (B := F0) k4 d3N.to)
  have hS4 := (hS2.keep k3 dN.to).keep k4 d3N.to
  have a24 := a2.keep f34
  have kk4 := ((k1.trans k2).trans k3).trans k4
  clear dN d3N d4N k3 k4 f34
  obtain ⟨xs, hsc, hats⟩ := hS4.at'
  have hxl := ats_len hats
  rw [List.length_map] at hxl
  refine ⟨_, rfl, _, rfl, _, rfl, by show 2 ≤ sizeLine; decide, fun t5 ht5 => ⟨_, rfl, by show 2 ≤ sizeLine; decide, fun t6 ht6 => ⟨by show 2 ≤ sizeLine; decide, fun l1 hl1 => ?_⟩⟩⟩
  have s5 := same_new ht5 (.tup [.str x, .str "I"])
  have s6 := same_new ht6 (.tup [.str y, .str "L"])
  have s7 := same_new hl1 (.lst [.ref t5, .ref t6])
  refine ⟨sc, l1, xs, _, rfl, rfl, s7 _ _ (s6 _ _ (s5 _ _ hsc)), upd_same, by show xs.length + 2 ≤ _; omega, fun sc2 hsc2 => ?_⟩
  have s8 := same_new hsc2 (.lst (xs ++ [.ref t5, .ref t6]))
  have s78 := sameT s7 s8
  have s678 := sameT s6 s78
  have sA := sameT s5 s678
  have hS8 := sc_ext2 (sc := sc2) (t := t5) (u := t6) (x := x) (y := y) (k1 := "I") (k2 := "L") hats hS.ok sA (s678 _ _ upd_same) (s78 _ _ upd_same) upd_same hx3 hx4 (by decide +kernel) (by decide +kernel)
  have d8 := d4.same sA
  have hS48 := hS4.same sA
  have a28 := a24.keep (fr_same sA)
  have kk8 := kk4.trans (Keep.same sA)
  generalize upd (upd (upd (upd H4 t5 (.tup [.str x, .str "I"])) t6 (.tup [.str y, .str "L"])) l1 (.lst [.ref t5, .ref t6])) sc2 (.lst (xs ++ [.ref t5, .ref t6])) = H8 at hS8 d8 hS48 a28 kk8 ⊢
  refine ⟨_, rfl, _, rfl, _, _, rfl, rfl, p, r, sc2, _, e, _, kd, ed4 _ _ _ _, hkd, hen, d8, hS8, by rw [List.length_append]; show _ + 2 + _ ≤ _; omega, by omega, fun v9 g9 H9 k9 d9 a9 h9 => ?_⟩
  have hS9 := hS48.keep k9 d8
  have a29 := a28.keep (fr_keep k9 d8)
  have kk9 := kk8.trans k9
  refine ⟨_, rfl, _, rfl, by show 2 ≤ sizeLine; decide, fun u10 hu10 => ⟨_, rfl, by show 3 ≤ sizeLine; decide, fun t10 ht10 => ⟨by show 1 ≤ sizeLine; decide, fun L hL => ?_⟩⟩⟩
  have s10 := same_new hu10 (.tup [.str x, .str y])
  have s11 := same_new ht10 (.tup [.int 1, .ref u10, v9])
  have s12 := same_new hL (.lst [.ref t10])
  have s1112 := sameT s11 s12
  have sB := sameT s10 s1112
  have e12 : (Dd.tup [.int 1, nameT [x, y], g9]).At F0 (upd (upd (upd H9 u10 (.tup [.str x, .str y])) t10 (.tup [.int 1, .ref u10, v9])) L (.lst [.ref t10])) (.ref t10) := at_tup (s12 _ _ upd_same) (ats_cons at_int' (ats_cons (at_tup (s1112 _ _ upd_same) (ats_cons (at_str' hx3.len) (ats_cons (at_str' hx4.len) ats_nil))) (ats_cons (a9.keep (fr_same sB)) ats_nil)))
  have eL : upd (upd (upd H9 u10 (.tup [.str x, .str y])) t10 (.tup [.int 1, .ref u10, v9])) L (.lst [.ref t10]) L = some (.lst [.ref t10]) := upd_same
  have d12 := d9.same sB
  have hS12 := hS9.same sB
  have a212 := a29.keep (fr_same sB)
  have kk12 := kk9.trans (Keep.same sB)
  generalize upd (upd (upd H9 u10 (.tup [.str x, .str y])) t10 (.tup [.int 1, .ref u10, v9])) L (.lst [.ref t10]) = H12 at e12 eL d12 hS12 a212 kk12 ⊢
  have hrow : RowOk2 (3 * e + 2) (60 * 4 ^ e - 30) (sn S) (1, [x, y], g9) := ⟨(show (0 : Int) ≤ 1 by decide), (show (1 : Int) ≤ 1000 by decide), fun z hz => by
      simp only [List.mem_cons, List.not_mem_nil, or_false] at hz
      rcases hz with rfl | rfl
      · exact hx3.1
      · exact hx4.1, List.nodup_cons.mpr ⟨fun h => hne (List.mem_singleton.mp h), List.nodup_cons.mpr ⟨List.not_mem_nil, List.nodup_nil⟩⟩, Nat.le_refl _, h9.mono (Nat.le_refl _) (Nat.le_refl _) fun s hs => sn_snoc2 hs⟩
  refine ⟨fun σ G => ∃ (Fo : Addr) (ys : List V) (l : List (Int × List Str × Dd)), σ = [some (.ref p), some (.ref sc), some (.str kd), some (.int ((e + 1 : Nat) : Int)), some (.int u), some v2, some (.ref Fo), some (.str x), some (.str y), some v9] ∧ Keep p H G ∧ DAt G p r (B + 3 * (40 * 4 ^ e - 20) + 4) ∧ ScAt G sc S ∧ g2.At F0 G v2 ∧ G Fo = some (.lst ys) ∧ Dd.Ats F0 G (rowsC l) ys ∧ l.length ≤ 2 ∧ ∀ q ∈ l, RowOk2 (3 * e + 2) (60 * 4 ^ e - 30) (sn S) q, ?_, ?_⟩
  · refine ⟨_, rfl, rfl, _, rfl, ?_⟩
    show if decide (V.int u = V.int 2) = true then _ else _
    rcases Bool.eq_false_or_eq_true (decide (V.int u = V.int 2)) with c2 | c2
    · rw [c2]
      refine iteT ?_
      refine ⟨by show 0 ≤ sizeLine; decide, fun u13 hu13 => ?_⟩
      have s13 := same_new hu13 (.tup [])
      have e13 : upd H12 u13 (.tup []) u13 = some (.tup []) := upd_same
      have d13 := d12.same s13
      have hS13 := hS12.same s13
      have a213 := a212.keep (fr_same s13)
      have e1213 := e12.keep (fr_same s13)
      have eL13 := s13 _ _ eL
      have kk13 := kk12.trans (Keep.same s13)
      generalize upd H12 u13 (.tup []) = H13 at e13 d13 hS13 a213 e1213 eL13 kk13 ⊢
      refine ⟨_, rfl, _, rfl, _, rfl, _, rfl, _, _, rfl, rfl, p, r, sc, _, e, S, kd, ed4 _ _ _ _, hkd, hen, d13, hS13, by omega, by omega, fun v14 g14 H14 k14 d14 a14 h14 => ⟨by show 3 ≤ sizeLine; decide, fun t15 ht15 => ⟨by show 1 ≤ sizeLine; decide, fun l16 hl16 => ?_⟩⟩⟩
      have s15 := same_new ht15 (.tup [.int 0, .ref u13, v14])
      have s16 := same_new hl16 (.lst [.ref t15])
      have f14 := fr_keep (B := F0) k14 d13
      have eL14 := k14 _ _ (d13.ne_list eL13) eL13
      refine ⟨_, rfl, l16, L, _, _, rfl, rfl, upd_same, s16 _ _ (s15 _ _ eL14), by show 2 ≤ sizeLine; decide, fun L17 hL17 => ?_⟩
      have s17 := same_new hL17 (.lst ([.ref t15] ++ [.ref t10]))
      have s167 := sameT s16 s17
      have sC := sameT s15 s167
      have fC := f14.trans (fr_same sC)
      have e15 : (Dd.tup [.int 0, nameT [], g14]).At F0 (upd (upd (upd H14 t15 (.tup [.int 0, .ref u13, v14])) l16 (.lst [.ref t15])) L17 (.lst ([.ref t15] ++ [.ref t10]))) (.ref t15) := at_tup (s167 _ _ upd_same) (ats_cons at_int' (ats_cons (at_tup (fC.1 _ _ e13) ats_nil) (ats_cons (a14.keep (fr_same sC)) ats_nil)))
      refine ⟨L17, _, [(0, [], g14), (1, [x, y], g9)], rfl, (kk13.trans k14).trans (Keep.same sC), (d14.same sC).more (by omega), (hS13.keep k14 d13).same sC, a213.keep fC, upd_same, ats_cons e15 (ats_one (e1213.keep fC)), Nat.le_refl _, fun q hq => ?_⟩
      simp only [List.mem_cons, List.not_mem_nil, or_false] at hq
      rcases hq with rfl | rfl
      · exact row0 (by decide) (by decide) h14
      · exact hrow
    · rw [c2]
      refine iteF ?_
      refine ⟨L, _, [(1, [x, y], g9)], rfl, kk12, d12.more (by omega), hS12, a212, eL, ats_one e12, by show 1 ≤ 2; decide, fun q hq => ?_⟩
      rw [List.mem_singleton.mp hq]
      exact hrow
  rintro σ G ⟨Fo, ys, l, rfl, kG, dG, hSG, aG, eF, aL, hl, hq⟩
  refine ⟨_, rfl, _, rfl, Fo, ys, rfl, .inl ⟨SqL.of eF, fun tt htt => ?_⟩⟩
  have s10 := same_new htt (.tup ys)
  have e10 : (Dd.tup (rowsC l)).At F0 (upd G tt (.tup ys)) (.ref tt) := at_tup upd_same (aL.keep (fr_same s10))
  have d10 := dG.same s10
  have hS10 := hSG.same s10
  have a10 := aG.keep (fr_same s10)
  have k10 := kG.trans (Keep.same s10)
  generalize upd G tt (.tup ys) = G10 at e10 d10 hS10 a10 k10 ⊢
  refine ⟨_, rfl, _, rfl, _, rfl, _, rfl, p, r, sc, _, e, 2, S, kd, "L", rfl, hen, by decide, by decide, by decide +kernel, hkd, d10, hS10, by omega, by omega, fun v11 o G11 k11 d11 a11 ho => ⟨by show 4 ≤ sizeLine; decide, fun t12 ht12 => ?_⟩⟩
  have s12 := same_new ht12 (.tup [.str "case", v2, .ref tt, v11])
  have f11 := fr_keep (B := F0) k11 d10
  have f12 := fr_same (B := F0) s12
  have hgz := gz_case (n := 3 * e + 2) (z := 60 * 4 ^ e - 30) (U := sn S) (f := g2) (l := l) (o := o) h2 hl hq ho
  exact q _ (.tup [.str "case", g2, .tup (rowsC l), dfl o]) _ ((k10.trans k11).trans (Keep.same s12)) ((d11.same s12).more (by omega)) (at_tup upd_same (ats_cons (at_str' (by decide +kernel)) (ats_cons ((a10.keep f11).keep f12) (ats_cons ((e10.keep f11).keep f12) (ats_cons (a11.keep f12) ats_nil))))) (hgz.mono (by omega) (by omega) fun s h => h)
abbrev sChoice : Stmt := topS 45
theorem scChoice : FnScope ["d", "scope", "kind", "depth", "first", "start", "found", "k"] ["d", "scope", "kind", "depth"] (defScope sChoice) := ⟨rfl, rfl, rfl, by decide +kernel, rfl, by decide +kernel, by decide +kernel⟩
theorem c_choice {f : Addr} {fd : FuncData} {n : Nat} (T : TxtY mg) (c_law_take : C8.Cal P w K mg base 1 "_law_take" spTake []) (c_law_term : C8.Cal P w K mg base (3 * n + 5) "_law_term" (spTerm n) []) (c_law_default : C8.Cal P w K mg base (3 * n + 6) "_law_default" (spDefault n) []) (F : Fun K "_law_choice" "_law_choice" sChoice f fd) (b : Binds K fd ["d", "scope", "kind", "depth"] []) (hm : mg "_law_choice" = some (.ref f)) : C8.Cal P w K mg base (3 * n + 7) "_law_choice" (spHelp n) [] := by
  refine cal_of F hm b scChoice (fun vs H Q E h => ?_) (fun cdv A outer s H vs Q E hr h => ?_)
  · obtain ⟨p, r, sc, B, e, S, kd, rfl, _⟩ := h
    rfl
  obtain ⟨p, r, sc, B, e, S, kd, rfl, hen, hkd, d0, hS, hSl, hB, q⟩ := h
  have hP := pow_pos4 e
  have hbig := big
  rw [p4n] at hB q
  refine ⟨_, (pss_cons (ps_set (i := 4) scChoice.nd rfl (Or.inl rfl) (C8.pe_c c_law_term hr (by omega) rfl (pa_cons (pv 0) (pa_cons (pv 1) (pa_cons pe_str (pa_cons (pe_op op_sub (pv 3) pe_int) pa_nil))))))
    (pss_cons (ps_set (i := 5) scChoice.nd rfl (Or.inr rfl) (pe_op op_mod (C8.pe_c c_law_take hr (by omega) rfl (pa_cons (pv 0) pa_nil)) pe_int))
    (pss_cons (ps_setLc (i := 6) (own := [("k", 7)]) (g := gName 7) (tt := tYes) (te := (tTup (tCons (tOp (rI0 fun i j => .int (i + j)) (tVar 5) (tVar 7)) (tCons (tCall (spTerm n) [] C8.E0 (tCons (tVar 0) (tCons (tVar 1) (tCons (tVar 2) (tCons (tOp (rI0 fun i j => .int (i - j)) (tVar 3) (tC (.int 1))) tNil))))) tNil)))) rfl scChoice.nd rfl rfl (sw_true rfl rfl rfl (by decide +kernel)) (pi_range1 rfl T.zrange (pa_cons (pe_op op_add pe_int (pe_op op_mod (C8.pe_c c_law_take hr (by omega) rfl (pa_cons (pv 0) pa_nil)) pe_int)) pa_nil)) (blkOk_by (own := [("k", 7)]) (N := ["d", "scope", "kind", "depth", "first", "start", "found", "k"]) (sc := defScope sChoice) (by decide +kernel)) (fun _ _ _ _ _ => (pg_name (i := 7) scChoice.nd rfl (Or.inl rfl))) (fun _ _ _ _ _ => pts_nil) (fun _ _ _ _ _ => (pe_tup (pa_cons (pe_op op_add (pv 5) (pv 7)) (pa_cons (C8.pe_c c_law_term hr (by omega) rfl (pa_cons (pv 0) (pa_cons (pv 1) (pa_cons (pv 2) (pa_cons (pe_op op_sub (pv 3) pe_int) pa_nil))))) pa_nil)))))
    (pss_one (ps_ret (pe_tup (pa_cons pe_str (pa_cons (pv 4) (pa_cons (pe_callTy call_tuple_of rfl T.ztuple boot_tuple (pa_cons (pv 6) pa_nil)) (pa_cons (C8.pe_c c_law_default hr (by omega) rfl (pa_cons (pv 0) (pa_cons (pv 1) (pa_cons (pv 2) (pa_cons pe_str (pa_cons (pv 3) (pa_cons (pe_op op_sub pe_int (pe_op op_mod (pv 5) pe_int)) pa_nil))))))) pa_nil)))))))))), ?_⟩
  refine ⟨_, rfl, _, rfl, _, rfl, _, _, rfl, rfl, p, r, sc, _, e, S, "I", ed4 _ _ _ _, by decide +kernel, hen, d0, hS, by omega, by omega, fun v2 g2 H2 k2 d2 a2 h2 => ?_⟩
  have hS2 := hS.keep k2 d0
  refine ⟨_, rfl, p, r, _, rfl, d2, fun n3 H3 n30 n31 k3 d3 => ?_⟩
  have m30 := Int.emod_nonneg n3 (show (3 : Int) ≠ 0 by decide)
  have m31 := Int.emod_lt_of_pos n3 (show (0 : Int) < 3 by decide)
  refine ⟨_, _, rfl, rfl, (show (0 : Int) < 3 by decide), ?_⟩
  show gName 5 (V.int (n3 % 3)) _ _ _
  generalize n3 % 3 = st at *
  have hS3 := hS2.keep k3 d2
  have a23 := a2.keep (fr_keep k3 d2)
  refine ⟨_, rfl, p, r, _, rfl, d3, fun n4 H4 n40 n41 k4 d4 => ?_⟩
  have m40 := Int.emod_nonneg n4 (show (2 : Int) ≠ 0 by decide)
  have m41 := Int.emod_lt_of_pos n4 (show (0 : Int) < 2 by decide)
  have hS4 := hS3.keep k4 d3
  have a24 := a23.keep (fr_keep k4 d3)
  have kk4 := (k2.trans k3).trans k4
  refine ⟨_, _, rfl, rfl, (show (0 : Int) < 2 by decide), _, _, rfl, rfl, _, rfl, by omega, by omega, fun D hD => ?_⟩
  obtain ⟨nDp, nDr⟩ := d4.fresh hD
  have hm2 : (1 + n4 % 2).toNat ≤ 2 := by omega
  have hm1 : 1 ≤ (1 + n4 % 2).toNat := by omega
  refine lc_range (Pv := fun i G' => ∃ (l : List (Int × Dd)) (xs : List V), G' D = some (.lst xs) ∧ Keep p H4 G' ∧ DAt G' p r (B + (40 * 4 ^ e - 20) + 2 + i * (40 * 4 ^ e - 20)) ∧ Dd.Ats F0 G' (rowsP l) xs ∧ l.length = i ∧ (∀ q ∈ l, -10 ≤ q.1 ∧ q.1 < st + (i : Int) ∧ Gz (3 * e + 2) (60 * 4 ^ e - 30) (sn S) q.2) ∧ (l.map (·.1)).Nodup) ⟨[], [], upd_same, Keep.same (same_new hD _), (d4.same (same_new hD _)).more (by omega), rfl, rfl, (fun q h => absurd h List.not_mem_nil), List.nodup_nil⟩ ?_ ?_
  · rintro i G' hi ⟨l, xs, h1, h2', h3, h4, h5, h6, h7⟩
    have hi2 : i ≤ 1 := by omega
    have hic : i * (40 * 4 ^ e - 20) ≤ 1 * (40 * 4 ^ e - 20) := Nat.mul_le_mul_right _ hi2
    have hic1 : (i + 1) * (40 * 4 ^ e - 20) = i * (40 * 4 ^ e - 20) + (40 * 4 ^ e - 20) := Nat.succ_mul _ _
    have hxl := ats_len h4
    have hrl : (rowsP l).length = l.length := by unfold rowsP; rw [List.length_map]
    refine ⟨rfl, ?_⟩
    refine tYes_if ?_
    refine ⟨_, rfl, _, rfl, _, _, rfl, rfl, _, rfl, _, rfl, _, rfl, _, rfl, _, _, rfl, rfl, p, r, sc, _, e, S, kd, ed4 _ _ _ _, hkd, hen, h3, hS4.keep h2' d4, by omega, by omega, fun v1 g1 G2 k2 d2 a2 hg => ⟨by show 2 ≤ sizeLine; decide, fun u1 hu1 => ?_⟩⟩
    have h1' := k2 _ _ nDp h1
    have s5 := same_new hu1 (.tup [.int (st + (0 + (i : Int))), v1])
    have h1'' := s5 _ _ h1'
    have f5 := fr_same (B := F0) s5
    have e5 : upd G2 u1 (.tup [.int (st + (0 + (i : Int))), v1]) u1 = some (.tup [.int (st + (0 + (i : Int))), v1]) := upd_same
    have d5 := d2.same s5
    have a5 := a2.keep f5
    have h45 := (h4.keep (fr_keep k2 h3)).keep f5
    have k5 := (h2'.trans k2).trans (Keep.same s5)
    generalize upd G2 u1 (.tup [.int (st + (0 + (i : Int))), v1]) = G5 at e5 h1'' d5 a5 h45 k5 ⊢
    have fL : Fr F0 G5 (upd G5 D (.lst (xs ++ [.ref u1]))) := fr_list h1'' fun z => z
    refine ⟨xs, h1'', szl (by omega), l ++ [(st + (0 + (i : Int)), g1)], xs ++ [.ref u1], upd_same, keep_upd hD k5 _, (d5.off nDp nDr _).more (by omega), ?_, by rw [List.length_append, h5]; rfl, fun y hy => ?_, ?_⟩
    · rw [show rowsP (l ++ [(st + (0 + (i : Int)), g1)]) = rowsP l ++ [.tup [.int (st + (0 + (i : Int))), g1]] by unfold rowsP; rw [List.map_append]; rfl]
      exact ats_app (h45.keep fL) (ats_one ((at_tup e5 (ats_cons at_int' (ats_cons a5 ats_nil))).keep fL))
    · rcases List.mem_append.mp hy with z' | z'
      · obtain ⟨y1, y2, y3⟩ := h6 y z'
        exact ⟨y1, by omega, y3⟩
      · rw [List.mem_singleton.mp z']
        exact ⟨by show -10 ≤ st + (0 + (i : Int)); omega, by show st + (0 + (i : Int)) < st + ((i + 1 : Nat) : Int); omega, hg⟩
    · rw [List.map_append, List.nodup_append]
      refine ⟨h7, List.pairwise_singleton _ _, fun a ha b hb e' => ?_⟩
      obtain ⟨q1, hq1, rfl⟩ := List.mem_map.mp ha
      have hb : b ∈ [st + (0 + (i : Int))] := hb
      rw [List.mem_singleton.mp hb] at e'
      have := (h6 q1 hq1).2.1
      omega
  rintro G' ⟨l, xs, h1, h2', h3, h4, h5, h6, h7⟩
  generalize (1 + n4 % 2).toNat = mm at hm2 hm1 h3 h5 h6
  have hic : mm * (40 * 4 ^ e - 20) ≤ 2 * (40 * 4 ^ e - 20) := Nat.mul_le_mul_right _ hm2
  have hS5 := hS4.keep h2' d4
  have a25 := a24.keep (fr_keep h2' d4)
  have kk5 := kk4.trans h2'
  refine ⟨_, rfl, _, rfl, D, xs, rfl, .inl ⟨SqL.of h1, fun tt htt => ?_⟩⟩
  have s10 := same_new htt (.tup xs)
  have e10 : (Dd.tup (rowsP l)).At F0 (upd G' tt (.tup xs)) (.ref tt) := at_tup upd_same (h4.keep (fr_same s10))
  have d10 := h3.same s10
  have hS10 := hS5.same s10
  have a10 := a25.keep (fr_same s10)
  have k10 := kk5.trans (Keep.same s10)
  generalize upd G' tt (.tup xs) = G10 at e10 d10 hS10 a10 k10 ⊢
  have o0 := Int.emod_nonneg st (show (2 : Int) ≠ 0 by decide)
  have o1 := Int.emod_lt_of_pos st (show (0 : Int) < 2 by decide)
  refine ⟨_, rfl, _, rfl, _, rfl, _, rfl, _, rfl, _, _, rfl, rfl, (show (0 : Int) < 2 by decide), _, _, rfl, rfl, p, r, sc, _, e, (2 - st % 2).toNat, S, kd, "I", by rw [Int.toNat_of_nonneg (by omega)]; rfl, hen, by omega, by omega, by decide +kernel, hkd, d10, hS10, by omega, by omega, fun v11 o G11 k11 d11 a11 ho => ⟨by show 4 ≤ sizeLine; decide, fun t12 ht12 => ?_⟩⟩
  have s12 := same_new ht12 (.tup [.str "pick", v2, .ref tt, v11])
  have f11 := fr_keep (B := F0) k11 d10
  have f12 := fr_same (B := F0) s12
  have hgz := gz_pick (n := 3 * e + 2) (z := 60 * 4 ^ e - 30) (U := sn S) (f := g2) (l := l) (o := o) h2 (by omega) (fun y hy => ⟨(h6 y hy).1, by have := (h6 y hy).2.1; omega, (h6 y hy).2.2⟩) h7 ho
  exact q _ (.tup [.str "pick", g2, .tup (rowsP l), dfl o]) _ ((k10.trans k11).trans (Keep.same s12)) ((d11.same s12).more (by omega)) (at_tup upd_same (ats_cons (at_str' (by decide +kernel)) (ats_cons ((a10.keep f11).keep f12) (ats_cons ((e10.keep f11).keep f12) (ats_cons (a11.keep f12) ats_nil))))) (hgz.mono (by omega) (by omega) fun s h => h)
end
end Toy

set_option Elab.async false
set_option linter.all false
set_option maxRecDepth 100000
set_option maxHeartbeats 4000000
/-! Part E2: the definitions of a typed program, calls of them. -/
namespace Toy
open PySem L2
open PyProof.Rows (envOfC)
theorem pe_c0 {X : Cx} {k j : Nat} {x : Str} {sp : Sp} {dvs : List V} {p pos : Pos} (c : C8.Cal X.prog X.w X.K X.mg X.base k x sp dvs) (hr : Room j X.A) (hk : k ≤ j) (hg : Gl X x) (hdb : (x == ("__debug__" : Str)) = false := by decide) :
    PE X (.Call (.Name x p) [] [] pos) (tCall sp dvs C8.E0 tNil) := by
  obtain ⟨f, fd, ps, ds, F, hm, kp, b, d⟩ := c.ex
  exact pe_call0 F (hr.mono hk) hg hm kp b d C8.pass0 hdb
/-- this reading makes this thing; its lists are new -/
def Nw (H0 : Hp) : Addr → Prop := fun a => H0 a = none
def Mk (te : TE) (k : Dd) : Prop := ∀ (H0 : Hp) (σ : L2.St) (H : Hp) (Q : VK), Same H0 H → (∀ v H', Same H H' → k.At (Nw H0) H' v → Q v H') → te σ H Q
def Mks (ta : TA) (l : List Dd) : Prop := ∀ (H0 : Hp) (σ : L2.St) (H : Hp) (Q : List V → Hp → Prop), Same H0 H → (∀ vs H', Same H H' → Dd.Ats (Nw H0) H' l vs → Q vs H') → ta σ H Q
theorem same_refl (H : Hp) : Same H H := fun _ _ e => e
theorem mk_str {z : Str} (h : z.length ≤ 1000) : Mk (tC (.str z)) (.str z) := fun _ σ H Q _ q => q _ H (same_refl H) ⟨rfl, h⟩
theorem mks_nil : Mks tNil [] := fun _ σ H Q _ q => q [] H (same_refl H) rfl
theorem mks_cons {te : TE} {ta : TA} {k : Dd} {l : List Dd} (h : Mk te k) (hs : Mks ta l) : Mks (tCons te ta) (k :: l) := fun H0 σ H Q s0 q =>
  h H0 σ H _ s0 fun x H1 s1 a1 => hs H0 σ H1 _ (sameT s0 s1) fun xs H2 s2 a2 => q (x :: xs) H2 (sameT s1 s2) (ats_cons (a1.keep (fr_same s2)) a2)
theorem mks_strs {zs : List Str} (h : ∀ z ∈ zs, z.length ≤ 1000) : Mks (tStrs zs) (zs.map Dd.str) := fun _ σ H Q _ q => q _ H (same_refl H) (ats_strs h)
theorem mk_tup {ta : TA} {l : List Dd} (h : Mks ta l) (hl : l.length ≤ 1000) : Mk (tTup ta) (.tup l) := fun H0 σ H Q s0 q => h H0 σ H _ s0 fun xs H1 s1 a1 => ⟨by rw [ats_len a1]; exact Nat.le_trans hl (by decide), fun p hp =>
  q _ _ (sameT s1 (same_new hp _)) (at_tup upd_same (a1.keep (fr_same (same_new hp _))))⟩
theorem mk_lst {ta : TA} {l : List Dd} (h : Mks ta l) (hl : l.length ≤ 1000) : Mk (tLst ta) (.lst l) := fun H0 σ H Q s0 q => h H0 σ H _ s0 fun xs H1 s1 a1 => ⟨by rw [ats_len a1]; exact Nat.le_trans hl (by decide), fun p hp =>
  q _ _ (sameT s1 (same_new hp _)) ⟨p, xs, rfl, free_of (sameT s0 s1) hp, upd_same, a1.keep (fr_same (same_new hp _))⟩⟩
theorem run_asgL {ta : TA} {l : List Dd} {rest : TS} {D : Ends} {σ : L2.St} {H : Hp} {i : Nat} (h : Mks ta l) (hl : l.length ≤ 1000)
    (q : ∀ p xs H', Same H H' → H p = none → H' p = some (.lst xs) → Dd.Ats (Nw H) H' l xs → rest D (σ.set i (some (.ref p))) H') : tSeq (tAsg (tLst ta) (gName i)) rest D σ H :=
  h H σ H _ (same_refl H) fun xs H1 s1 a1 => ⟨by rw [ats_len a1]; exact Nat.le_trans hl (by decide), fun p hp => q p xs _ (sameT s1 (same_new hp _)) (free_of s1 hp) upd_same (a1.keep (fr_same (same_new hp _)))⟩
/-- a definition of the typed program: its name, the kinds of its parameters, its own kind -/
abbrev GRow := Str × List Str × Str
def rowG (q : GRow) : Dd := .tup [.str q.1, .lst (q.2.1.map Dd.str), .str q.2.2]
def glob1 : List GRow := [("f", ["I"], "I"), ("g", ["I", "I"], "I"), ("h", ["I"], "L"), ("k", ["L", "I"], "I")]
def glob2 : List GRow := [("c", [], "I"), ("m", ["F", "I", "L"], "L"), ("b", ["I"], "B")]
def glob : List GRow := glob1 ++ glob2
theorem glob_ok : ∀ q ∈ glob, q.1 ∈ globs ∧ q.2.1.length ≤ 3 ∧ (∀ z ∈ q.2.1, z.length ≤ 1000) ∧ q.2.2.length ≤ 1000 := by decide +kernel
def rowP (q : GRow) : PyData := .tuple [.str q.1, .list (q.2.1.map PyData.str), .str q.2.2]
theorem glob_lay : ∀ q ∈ glob, PyData.canLay0 (rowP q) = true := by decide +kernel
theorem glob_depth : ∀ q ∈ glob, PyData.depth (rowP q) ≤ 3 := by decide +kernel
theorem strs_dpK {K : PySem.W.Frag} {B : Addr → Prop} {H : Hp} {zs : List Str} {xs : List V} (h : Dd.Ats B H (zs.map Dd.str) xs) : DpAll K H xs (zs.map PyData.str) := by
  rw [(ats_strs_eq h).1]
  exact strs_dp zs
theorem row_dp {K : PySem.W.Frag} {B : Addr → Prop} {H : Hp} {q : GRow} {v : V} (h : (rowG q).At B H v) : Dp K H v (rowP q) := by
  obtain ⟨t, xs, rfl, ht, x0, ys0, rfl, h0, x1, ys1, rfl, h1, x2, ys2, rfl, h2, hn⟩ := h
  cases (show ys2 = [] from hn)
  obtain ⟨rfl, _⟩ := (show x0 = .str q.1 ∧ _ from h0)
  obtain ⟨rfl, _⟩ := (show x2 = .str q.2.2 ∧ _ from h2)
  obtain ⟨a, zs, rfl, _, ha, hs⟩ := h1
  exact .tup (SqT.of ht) (.cons (.str _) (.cons (.lst (SqL.of ha) (strs_dpK hs)) (.cons (.str _) .nil)))
theorem rows_dp {K : PySem.W.Frag} {B : Addr → Prop} {H : Hp} : ∀ {l : List GRow} {xs : List V}, Dd.Ats B H (l.map rowG) xs → DpAll K H xs (l.map rowP)
  | [], _, h => by cases h; exact .nil
  | q :: l, _, ⟨x, ys, e, h, hs⟩ => by
    cases e
    exact .cons (row_dp h) (rows_dp hs)
theorem rows_lay : ∀ {l : List GRow}, (∀ q ∈ l, q ∈ glob) → PyData.canLayAll0 (l.map rowP) = true
  | [], _ => by simp [PyData.canLayAll0]
  | q :: l, h => by
    have z := rows_lay fun k hk => h k (List.mem_cons_of_mem _ hk)
    have z2 := glob_lay q (h q (List.mem_cons_self ..))
    simp [PyData.canLayAll0, z, z2]
theorem rows_depth : ∀ {l : List GRow}, (∀ q ∈ l, q ∈ glob) → PyData.depthAll (l.map rowP) ≤ 3
  | [], _ => by simp [PyData.depthAll]
  | q :: l, h => by
    have z := rows_depth fun k hk => h k (List.mem_cons_of_mem _ hk)
    have z2 := glob_depth q (h q (List.mem_cons_self ..))
    simp [PyData.depthAll]
    omega
theorem rows_shaped {l : List GRow} (h : ∀ q ∈ l, q ∈ glob) : SeqAt.shaped (.list (l.map rowP)) = true := by
  have z := rows_lay h
  have z2 := rows_depth h
  unfold SeqAt.shaped
  rw [Bool.and_eq_true]
  refine ⟨by simp [PyData.canLay0, z], decide_eq_true ?_⟩
  have z3 : (PyData.list (l.map rowP)).depth ≤ 1 + PyData.depthAll (l.map rowP) := by simp [PyData.depth]; omega
  omega
theorem rows_nil {l : List GRow} : PyData.eqv (.list (l.map rowP)) (.list []) = decide (l = []) := by
  cases l with
  | nil => simp [PyData.eqv, PyData.eqvAll]
  | cons x r => simp [PyData.eqv, PyData.eqvAll]
section
variable {P : Program} {w : World} {K : PySem.W.Frag} {mg : Str → Option Value} {base : Heap}
abbrev sGlobals : Stmt := topS 46
theorem scGlobals : FnScope ["rows"] [] (defScope sGlobals) := ⟨rfl, rfl, rfl, by decide +kernel, rfl, by decide +kernel, by decide +kernel⟩
def spGlobals : Sp := fun vs H Q _ => vs = [] ∧ ∀ (L : Addr) (xs : List V) (H' : Hp), Same H H' → H L = none → H' L = some (.lst xs) → Dd.Ats (Nw H) H' (glob.map rowG) xs → Q (.ref L) H'
theorem c_globals {f : Addr} {fd : FuncData} (F : Fun K "_law_globals" "_law_globals" sGlobals f fd) (b : Binds K fd [] []) (hm : mg "_law_globals" = some (.ref f)) : C8.Cal P w K mg base 1 "_law_globals" spGlobals [] := by
  refine cal_of F hm b scGlobals (fun vs H Q E h => ?_) (fun cdv A outer s H vs Q E hr h => ?_)
  · obtain ⟨rfl, _⟩ := h
    rfl
  obtain ⟨rfl, q⟩ := h
  refine ⟨_, (pss_cons (ps_set (i := 0) scGlobals.nd rfl (Or.inl rfl) (pe_lst (pa_cons (pe_tup (pa_cons pe_str (pa_cons (pe_lst (pa_cons pe_str pa_nil)) (pa_cons pe_str pa_nil)))) (pa_cons (pe_tup (pa_cons pe_str (pa_cons (pe_lst (pa_cons pe_str (pa_cons pe_str pa_nil))) (pa_cons pe_str pa_nil)))) (pa_cons (pe_tup (pa_cons pe_str (pa_cons (pe_lst (pa_cons pe_str pa_nil)) (pa_cons pe_str pa_nil)))) (pa_cons (pe_tup (pa_cons pe_str (pa_cons (pe_lst (pa_cons pe_str (pa_cons pe_str pa_nil))) (pa_cons pe_str pa_nil)))) pa_nil))))))
    (pss_one (ps_ret (pe_op op_cat (pv 0) (pe_lst (pa_cons (pe_tup (pa_cons pe_str (pa_cons (pe_lst pa_nil) (pa_cons pe_str pa_nil)))) (pa_cons (pe_tup (pa_cons pe_str (pa_cons (pe_lst (pa_strs (zs := ["F", "I", "L"]) rfl)) (pa_cons pe_str pa_nil)))) (pa_cons (pe_tup (pa_cons pe_str (pa_cons (pe_lst (pa_cons pe_str pa_nil)) (pa_cons pe_str pa_nil)))) pa_nil)))))))), ?_⟩
  have st : ∀ {z : Str}, z.length ≤ 1000 → Mk (tC (.str z)) (.str z) := fun h => mk_str h
  refine run_asgL (l := glob1.map rowG) (mks_cons (mk_tup (mks_cons (mk_str (by decide +kernel)) (mks_cons (mk_lst (mks_cons (mk_str (by decide +kernel)) mks_nil) (by decide)) (mks_cons (mk_str (by decide +kernel)) mks_nil))) (by decide)) (mks_cons (mk_tup (mks_cons (mk_str (by decide +kernel)) (mks_cons (mk_lst (mks_cons (mk_str (by decide +kernel)) (mks_cons (mk_str (by decide +kernel)) mks_nil)) (by decide)) (mks_cons (mk_str (by decide +kernel)) mks_nil))) (by decide)) (mks_cons (mk_tup (mks_cons (mk_str (by decide +kernel)) (mks_cons (mk_lst (mks_cons (mk_str (by decide +kernel)) mks_nil) (by decide)) (mks_cons (mk_str (by decide +kernel)) mks_nil))) (by decide)) (mks_cons (mk_tup (mks_cons (mk_str (by decide +kernel)) (mks_cons (mk_lst (mks_cons (mk_str (by decide +kernel)) (mks_cons (mk_str (by decide +kernel)) mks_nil)) (by decide)) (mks_cons (mk_str (by decide +kernel)) mks_nil))) (by decide)) mks_nil)))) (by decide) fun p1 xs1 H1 s1 hp1 e1 a1 => ?_
  refine ⟨_, rfl, ?_⟩
  have hb : Mk (tLst (tCons (tTup (tCons (tC (.str "c")) (tCons (tLst tNil) (tCons (tC (.str "I")) tNil)))) (tCons (tTup (tCons (tC (.str "m")) (tCons (tLst (tStrs ["F", "I", "L"])) (tCons (tC (.str "L")) tNil)))) (tCons (tTup (tCons (tC (.str "b")) (tCons (tLst (tCons (tC (.str "I")) tNil)) (tCons (tC (.str "B")) tNil)))) tNil)))) (.lst (glob2.map rowG)) :=
    mk_lst (mks_cons (mk_tup (mks_cons (mk_str (by decide +kernel)) (mks_cons (mk_lst mks_nil (by decide)) (mks_cons (mk_str (by decide +kernel)) mks_nil))) (by decide)) (mks_cons (mk_tup (mks_cons (mk_str (by decide +kernel)) (mks_cons (mk_lst (mks_strs (by decide +kernel)) (by decide)) (mks_cons (mk_str (by decide +kernel)) mks_nil))) (by decide)) (mks_cons (mk_tup (mks_cons (mk_str (by decide +kernel)) (mks_cons (mk_lst (mks_cons (mk_str (by decide +kernel)) mks_nil) (by decide)) (mks_cons (mk_str (by decide +kernel)) mks_nil))) (by decide)) mks_nil))) (by decide)
  refine hb H _ _ _ s1 fun v2 H2 s2 a2 => ?_
  obtain ⟨p2, xs2, rfl, _, e2, b2⟩ := a2
  refine ⟨p1, p2, xs1, xs2, rfl, rfl, s2 _ _ e1, e2, ?_, fun L hL => ?_⟩
  · rw [ats_len a1, ats_len b2]
    decide
  have s3 := same_new hL (.lst (xs1 ++ xs2))
  refine q L _ _ (sameT s1 (sameT s2 s3)) (free_of (sameT s1 s2) hL) upd_same ?_
  unfold glob
  rw [List.map_append]
  exact ats_app (a1.keep (fr_same (sameT s2 s3))) (b2.keep (fr_same s3))
abbrev sLCall : Stmt := topS 47
theorem scLCall : FnScope ["d", "scope", "kind", "depth", "rows", "name", "kinds", "other", "term", "one", "row"] ["d", "scope", "kind", "depth"] (defScope sLCall) := ⟨rfl, rfl, rfl, by decide +kernel, rfl, by decide +kernel, by decide +kernel⟩
theorem c_lcall {f : Addr} {fd : FuncData} {n : Nat} (T : TxtY mg) (c_law_globals : C8.Cal P w K mg base 1 "_law_globals" spGlobals []) (c_law_take : C8.Cal P w K mg base 1 "_law_take" spTake []) (c_law_leaf : C8.Cal P w K mg base 4 "_law_leaf" (spLeaf 2) []) (c_law_term : C8.Cal P w K mg base (3 * n + 5) "_law_term" (spTerm n) []) (F : Fun K "_law_call" "_law_call" sLCall f fd) (b : Binds K fd ["d", "scope", "kind", "depth"] []) (hm : mg "_law_call" = some (.ref f)) : C8.Cal P w K mg base (3 * n + 6) "_law_call" (spHelp n) [] := by
  refine cal_of F hm b scLCall (fun vs H Q E h => ?_) (fun cdv A outer s H vs Q E hr h => ?_)
  · obtain ⟨p, r, sc, B, e, S, kd, rfl, _⟩ := h
    rfl
  obtain ⟨p, r, sc, B, e, S, kd, rfl, hen, hkd, d0, hS, hSl, hB, q⟩ := h
  have hP := pow_pos4 e
  have hbig := big
  have hu := hu_of hr
  have hu64 := hr.units
  rw [p4n] at hB q
  refine ⟨_, (pss_cons (ps_setLc (i := 4) (own := [("row", 10)]) (g := gName 10) (tt := (tTest (tOp rEq (tOp (rIxT K) (tVar 10) (tC (.int 2))) (tVar 2)))) (te := (tVar 10)) rfl scLCall.nd rfl rfl (sw_true rfl rfl rfl (by decide +kernel)) (pi_list (pe_c0 c_law_globals hr (by omega) rfl)) (blkOk_by (own := [("row", 10)]) (N := ["d", "scope", "kind", "depth", "rows", "name", "kinds", "other", "term", "one", "row"]) (sc := defScope sLCall) (by decide +kernel)) (fun _ _ _ _ _ => (pg_name (i := 10) scLCall.nd rfl (Or.inl rfl))) (fun _ _ _ _ _ => pts_one (pt_cmpR op_eq (pe_ix ix_tup (pv 10) pe_int (fun _ _ => rfl)) (pv 2) (nomark _))) (fun _ _ _ _ _ => (pv 10)))
    (pss_cons (ps_if (pt_cmpR (op_eqD hu64) (pv 4) (pe_lst pa_nil) (nomark _))
      (pss_one (ps_ret (C8.pe_c c_law_leaf hr (by omega) rfl (pa_cons (pv 0) (pa_cons (pv 1) (pa_cons (pv 2) pa_nil))))))
      pss_nil)
    (pss_cons (ps_asg (pe_ix ix_list (pv 4) (pe_op op_mod (C8.pe_c c_law_take hr (by omega) rfl (pa_cons (pv 0) pa_nil)) (pe_callB call_len_seq rfl T.zlen PySem.boot_len (pa_cons (pv 4) pa_nil))) (fun _ _ => rfl)) (pg_tup rfl (pgs_cons (pg_name (i := 5) scLCall.nd rfl (Or.inl rfl)) (pgs_cons (pg_name (i := 6) scLCall.nd rfl (Or.inl rfl)) (pgs_cons (pg_name (i := 7) scLCall.nd rfl (Or.inl rfl)) pgs_nil)))))
    (pss_cons (ps_set (i := 8) scLCall.nd rfl (Or.inl rfl) (pe_tup (pa_cons pe_str (pa_cons (pv 5) pa_nil))))
    (pss_cons (ps_for PassesOwn.never rfl (pi_list (pv 6)) (pg_name (i := 9) scLCall.nd rfl (Or.inl rfl))
      (pss_one (ps_set (i := 8) scLCall.nd rfl (Or.inl rfl) (pe_tup (pa_cons pe_str (pa_cons (pv 8) (pa_cons (C8.pe_c c_law_term hr (by omega) rfl (pa_cons (pv 0) (pa_cons (pv 1) (pa_cons (pv 9) (pa_cons (pe_op op_sub (pv 3) pe_int) pa_nil))))) pa_nil)))))))
    (pss_one (ps_ret (pv 8)))))))), ?_⟩
  refine ⟨rfl, fun L xs H1 s1 hL eL aL0 => ?_⟩
  have aL := aL0.here
  have hxl := ats_len aL
  rw [List.length_map] at hxl
  have hgl : glob.length = 7 := rfl
  refine ⟨L, rfl, ⟨_, SqL.of eL⟩, fun D hD => ?_⟩
  have nD : ¬ Ex H1 D := fun z => z hD
  refine lc_list (a := L) (xs := xs) (fun i G => Same H1 G ∧ ∃ (ys : List V) (rs : List GRow), G D = some (.lst ys) ∧ Dd.Ats (Ex H1) G (rs.map rowG) ys ∧ rs.length ≤ i ∧ ∀ x ∈ rs, x ∈ glob) ⟨same_new hD _, [], [], upd_same, rfl, Nat.le_refl _, fun x h => absurd h List.not_mem_nil⟩ (fun i G hi ⟨h, _⟩ => SqL.of (h _ _ eL)) ?_ ?_
  · rintro i x G hx ⟨h1, ys, rs, h2, h3, h4, h5⟩
    obtain ⟨kk, hk, hkx⟩ := ats_get aL hx
    rw [List.getElem?_map] at hk
    cases hq : glob[i]? with
    | none => rw [hq] at hk; cases hk
    | some g =>
      rw [hq] at hk
      cases hk
      have hgm := List.mem_of_getElem? hq
      have hil : i < glob.length := (List.getElem?_eq_some_iff.mp hq).1
      have hyl := ats_len h3
      rw [List.length_map] at hyl
      obtain ⟨t, xs3, rfl, ht, x0, ys0, rfl, h0, x1, ys1, rfl, h1', x2, ys2, rfl, h2', hn⟩ := id hkx
      obtain ⟨rfl, _⟩ := (show x2 = .str g.2.2 ∧ _ from h2')
      refine ⟨rfl, ?_⟩
      refine ⟨_, rfl, t, _, 2, _, rfl, rfl, SqT.of (h1 _ _ ht), at2 _ _ _ _, _, rfl, rfl, _, rfl, ?_⟩
      show if decide (V.str g.2.2 = V.str kd) = true then _ else _
      rcases Bool.eq_false_or_eq_true (decide (V.str g.2.2 = V.str kd)) with c | c
      · rw [c]
        refine iteT ?_
        have fD : Fr (Ex H1) G (upd G D (.lst (ys ++ [.ref t]))) := fr_list h2 nD
        refine ⟨_, rfl, ys, h2, szl (by omega), same_upd hD h1 _, ys ++ [.ref t], rs ++ [g], upd_same, ?_, by rw [List.length_append]; show _ + 1 ≤ _; omega, fun y hy => ?_⟩
        · rw [List.map_append]
          exact ats_app (h3.keep fD) (ats_one ((hkx.keep (fr_same h1)).keep fD))
        · rcases List.mem_append.mp hy with e' | e'
          · exact h5 y e'
          · rw [List.mem_singleton.mp e']; exact hgm
      · rw [c]
        refine iteF ?_
        exact ⟨h1, ys, rs, h2, h3, by omega, h5⟩
  rintro G ⟨sG, ys, rs, eD, aD, hrl, hrg⟩
  rw [hxl] at hrl
  have hyl := ats_len aD
  rw [List.length_map] at hyl
  refine ⟨_, rfl, by show 0 ≤ sizeLine; decide, fun l0 hl0 => ?_⟩
  have s2 := same_new hl0 (.lst [])
  have e2 : upd G l0 (.lst []) l0 = some (.lst []) := upd_same
  have eD2 := s2 _ _ eD
  have aD2 := aD.keep (fr_same s2)
  generalize upd G l0 (.lst []) = G2 at s2 e2 eD2 aD2 ⊢
  have sA := sameT s1 (sameT sG s2)
  have d2 := d0.same sA
  have hS2 := hS.same sA
  refine ⟨_, _, .lst (SqL.of eD2) (rows_dp aD2), .lst (SqL.of e2) .nil, rows_shaped hrg, (by decide +kernel), _, rfl, ?_⟩
  show if PyData.eqv (.list (rs.map rowP)) (.list []) = true then _ else _
  rw [rows_nil]
  by_cases c : rs = []
  · rw [decide_eq_true c]
    refine iteT ?_
    refine ⟨_, rfl, _, rfl, _, rfl, p, r, sc, _, S, kd, rfl, by decide, fun h => absurd h (by decide), d2, hS2, by omega, by omega, fun v k H3 kk dd aa gg => q v k H3 ((Keep.same sA).trans kk) (dd.more (by omega)) aa (gg.mono (by omega) (by omega) fun s h => h)⟩
  rw [decide_eq_false c]
  refine iteF ?_
  have hpos : 0 < rs.length := List.length_pos_iff.mpr c
  refine ⟨_, rfl, _, rfl, p, r, _, rfl, d2, fun n3 H3 n30 n31 k3 d3 => ?_⟩
  have eD3 := k3 _ _ (d2.ne_list eD2) eD2
  have aD3 := aD2.keep (fr_keep k3 d2)
  have m0 := Int.emod_nonneg n3 (b := ((ys.length : Nat) : Int)) (by omega)
  have m1 := Int.emod_lt_of_pos n3 (b := ((ys.length : Nat) : Int)) (by omega)
  obtain ⟨x, hx⟩ : ∃ x, ys[(n3 % ((ys.length : Nat) : Int)).toNat]? = some x := ⟨_, List.getElem?_eq_getElem (by omega)⟩
  have hxi : atI ys (n3 % ((ys.length : Nat) : Int)) = some x := by
    have z := atI_nat hx
    rwa [Int.toNat_of_nonneg m0] at z
  obtain ⟨kk, hk, hkx⟩ := ats_get aD3 hx
  rw [List.getElem?_map] at hk
  cases hq : rs[(n3 % ((ys.length : Nat) : Int)).toNat]? with
  | none => rw [hq] at hk; cases hk
  | some g =>
    rw [hq] at hk
    cases hk
    have hgm := hrg g (List.mem_of_getElem? hq)
    obtain ⟨ok1, ok2, ok3, ok4⟩ := glob_ok g hgm
    obtain ⟨t, xs3, rfl, ht, x0, ys0, rfl, h0, x1, ys1, rfl, h1', x2, ys2, rfl, h2', hn⟩ := id hkx
    cases (show ys2 = [] from hn)
    obtain ⟨rfl, _⟩ := (show x0 = .str g.1 ∧ _ from h0)
    obtain ⟨rfl, _⟩ := (show x2 = .str g.2.2 ∧ _ from h2')
    obtain ⟨lk, zs, rfl, _, hlk, hzs⟩ := h1'
    obtain ⟨rfl, _⟩ := ats_strs_eq hzs
    have hS3 := hS2.keep k3 d2
    refine ⟨_, rfl, D, _, rfl, .inl (SqL.of eD3), _, _, rfl, rfl, by omega, D, _, _, _, rfl, rfl, SqL.of eD3, hxi, t, _, rfl, SqT.of ht, rfl, _, _, rfl, _, _, rfl, _, _, rfl, rfl, ?_⟩
    refine ⟨_, rfl, by show 2 ≤ sizeLine; decide, fun t4 ht4 => ?_⟩
    have s4 := same_new ht4 (.tup [.str "var", .str g.1])
    have e4 : (Dd.tup [.str "var", .str g.1]).At F0 (upd H3 t4 (.tup [.str "var", .str g.1])) (.ref t4) := at_tup upd_same (ats_cons (at_str' (by decide +kernel)) (ats_cons (at_str' (globs_ok g.1 ok1).len) ats_nil))
    have d4 := d3.same s4
    have hS4 := hS3.same s4
    have hlk4 := s4 _ _ hlk
    have kk4 := ((Keep.same sA).trans k3).trans (Keep.same s4)
    generalize upd H3 t4 (.tup [.str "var", .str g.1]) = H4 at e4 d4 hS4 hlk4 kk4 ⊢
    have nlk : lk ≠ p := d4.ne_list hlk4
    have hgz0 : Gz (3 * e + 2) 3 (sn S) (.tup [.str "var", .str g.1]) := (gz_var (globs_ok g.1 ok1).1 (.inr ok1)).mono (by omega) (Nat.le_refl _) fun s h => h
    refine ⟨_, rfl, lk, rfl, ⟨_, SqL.of hlk4⟩, for_list (a := lk) (xs := g.2.1.map V.str)
      (fun i σ G' => ∃ (v8 : V) (g8 : Dd) (v9 : Option V), σ = [some (.ref p), some (.ref sc), some (.str kd), some (.int ((e + 1 : Nat) : Int)), some (.ref D), some (.str g.1), some (.ref lk), some (.str g.2.2), some v8, v9, none] ∧ Keep p H4 G' ∧ DAt G' p r (B + 1 + i * (40 * 4 ^ e - 20)) ∧ g8.At F0 G' v8 ∧ Gz (3 * e + 2 + i) (3 + i * (60 * 4 ^ e - 28)) (sn S) g8)
      ⟨_, _, _, rfl, Keep.refl _ _, d4.more (by omega), e4, hgz0.mono (by omega) (by omega) fun s h => h⟩ (fun i σ G' _ ⟨_, _, _, _, h, _⟩ => SqL.of (h _ _ nlk hlk4)) ?_ ?_⟩
    · rintro i x σ G' hxi' ⟨v8, g8, v9, rfl, kG, dG, a8, gz8⟩
      rw [List.getElem?_map] at hxi'
      obtain ⟨z, hzi, rfl⟩ := Option.map_eq_some_iff.mp hxi'
      have hil : i < g.2.1.length := (List.getElem?_eq_some_iff.mp hzi).1
      have hic : i * (40 * 4 ^ e - 20) ≤ 2 * (40 * 4 ^ e - 20) := Nat.mul_le_mul_right _ (by omega)
      have hic1 : (i + 1) * (40 * 4 ^ e - 20) = i * (40 * 4 ^ e - 20) + (40 * 4 ^ e - 20) := Nat.succ_mul _ _
      have hic2 : (i + 1) * (60 * 4 ^ e - 28) = i * (60 * 4 ^ e - 28) + (60 * 4 ^ e - 28) := Nat.succ_mul _ _
      refine ⟨_, rfl, _, rfl, _, rfl, _, rfl, _, rfl, _, _, rfl, rfl, p, r, sc, _, e, S, z, ed4 _ _ _ _, ok3 z (List.mem_of_getElem? hzi), hen, dG, hS4.keep kG d4, by omega, by omega, fun v1 g1 G2 k2 d2 a2 hg => ⟨by show 3 ≤ sizeLine; decide, fun u1 hu1 => ?_⟩⟩
      have s5 := same_new hu1 (.tup [.str "app", v8, v1])
      have f5 := fr_same (B := F0) s5
      refine ⟨_, .tup [.str "app", g8, g1], _, rfl, (kG.trans k2).trans (Keep.same s5), (d2.same s5).more (by omega), at_tup upd_same (ats_cons (at_str' (by decide +kernel)) (ats_cons ((a8.keep (fr_keep k2 dG)).keep f5) (ats_cons (a2.keep f5) ats_nil))), ?_⟩
      exact (gz_app gz8 (hg.mono (by omega) (Nat.le_refl _) fun s h => h)).mono (by omega) (by omega) fun s h => h
    rintro σ G' ⟨v8, g8, v9, rfl, kG, dG, a8, gz8⟩
    rw [List.length_map] at dG gz8
    have hic : g.2.1.length * (40 * 4 ^ e - 20) ≤ 3 * (40 * 4 ^ e - 20) := Nat.mul_le_mul_right _ ok2
    have hic2 : g.2.1.length * (60 * 4 ^ e - 28) ≤ 3 * (60 * 4 ^ e - 28) := Nat.mul_le_mul_right _ ok2
    exact ⟨_, rfl, q v8 g8 G' (kk4.trans kG) (dG.more (by omega)) a8 (gz8.mono (by omega) (by omega) fun s h => h)⟩
end
end Toy

set_option Elab.async false
set_option linter.all false
set_option maxRecDepth 100000
set_option maxHeartbeats 4000000
/-! Part G2: typed terms. -/
namespace Toy
open PySem L2
open PyProof.Rows (envOfC)
def sig7 : List Str := ["+", "-", "*", "div", "mod", "+", "-"]
theorem sig7_ok : ∀ z ∈ sig7, z ∈ signs := by decide +kernel
def sig3 : List Str := ["==", "<", "<="]
theorem sig3_ok : ∀ z ∈ sig3, z ∈ signs := by decide +kernel
def kin3 : List Str := ["I", "L", "F"]
theorem kin3_ok : ∀ z ∈ kin3, z.length ≤ 1000 := by decide +kernel
section
variable {P : Program} {w : World} {K : PySem.W.Frag} {mg : Str → Option Value} {base : Heap}
def spOwnT (n : Nat) : Sp := fun vs H Q _ => ∃ (p r sc : Addr) (B e : Nat) (S : List (Str × Str)) (kd : Str), vs = [.ref p, .ref sc, .str kd, .int ((e + 1 : Nat) : Int)] ∧ e < n ∧ kd.length ≤ 1000 ∧ DAt H p r B ∧ ScAt H sc S ∧ S.length + 3 * (e + 1) ≤ 900 ∧ B + 40 * 4 ^ (e + 1) ≤ 1000000003 ∧
  ∀ (v : V) (k : Dd) (H' : Hp), Keep p H H' → DAt H' p r (B + (40 * 4 ^ (e + 1) - 23)) → k.At F0 H' v → Gz (3 * (e + 1) + 2) (60 * 4 ^ (e + 1) - 30) (sn S) k → Q v H'
abbrev sLOwn2 : Stmt := topS 48
theorem scLOwn2 : FnScope ["d", "scope", "kind", "depth", "turn", "sign", "name"] ["d", "scope", "kind", "depth"] (defScope sLOwn2) := ⟨rfl, rfl, rfl, by decide +kernel, rfl, by decide +kernel, by decide +kernel⟩
theorem c_own2 {f : Addr} {fd : FuncData} {n : Nat} (c_law_take : C8.Cal P w K mg base 1 "_law_take" spTake []) (c_law_fresh : C8.Cal P w K mg base 1 "_law_fresh" spFresh []) (c_law_term : C8.Cal P w K mg base (3 * n + 5) "_law_term" (spTerm n) []) (c_law_call : C8.Cal P w K mg base (3 * n + 6) "_law_call" (spHelp n) []) (F : Fun K "_law_own" "_law_own" sLOwn2 f fd) (b : Binds K fd ["d", "scope", "kind", "depth"] []) (hm : mg "_law_own" = some (.ref f)) : C8.Cal P w K mg base (3 * n + 7) "_law_own" (spOwnT n) [] := by
  refine cal_of F hm b scLOwn2 (fun vs H Q E h => ?_) (fun cdv A outer s H vs Q E hr h => ?_)
  · obtain ⟨p, r, sc, B, e, S, kd, rfl, _⟩ := h
    rfl
  obtain ⟨p, r, sc, B, e, S, kd, rfl, hen, hkd, d0, hS, hSl, hB, q⟩ := h
  have hP := pow_pos4 e
  have hbig := big
  rw [p4n] at hB q
  refine ⟨_, (pss_cons (ps_set (i := 4) scLOwn2.nd rfl (Or.inl rfl) (pe_op op_mod (C8.pe_c c_law_take hr (by omega) rfl (pa_cons (pv 0) pa_nil)) pe_int))
    (pss_cons (ps_if (PW.pt (pw_and (pt_cmpR op_eq (pv 2) pe_str (nomark _)) (pw_and1 (pt_cmpR op_lt (pv 4) pe_int (nomark _)))))
      (pss_cons (ps_set (i := 5) scLOwn2.nd rfl (Or.inl rfl) (pe_ix ix_list (pe_lst (pa_strs (zs := ["+", "-", "*", "div", "mod", "+", "-"]) rfl)) (pe_op op_mod (C8.pe_c c_law_take hr (by omega) rfl (pa_cons (pv 0) pa_nil)) pe_int) (fun _ _ => rfl)))
    (pss_one (ps_ret (pe_tup (pa_cons pe_str (pa_cons (pv 5) (pa_cons (C8.pe_c c_law_term hr (by omega) rfl (pa_cons (pv 0) (pa_cons (pv 1) (pa_cons pe_str (pa_cons (pe_op op_sub (pv 3) pe_int) pa_nil))))) (pa_cons (C8.pe_c c_law_term hr (by omega) rfl (pa_cons (pv 0) (pa_cons (pv 1) (pa_cons pe_str (pa_cons (pe_op op_sub (pv 3) pe_int) pa_nil))))) pa_nil))))))))
      pss_nil)
    (pss_cons (ps_if (PW.pt (pw_and (pt_cmpR op_eq (pv 2) pe_str (nomark _)) (pw_and1 (pt_cmpR op_lt (pv 4) pe_int (nomark _)))))
      (pss_cons (ps_set (i := 5) scLOwn2.nd rfl (Or.inl rfl) (pe_ix ix_list (pe_lst (pa_strs (zs := ["==", "<", "<="]) rfl)) (pe_op op_mod (C8.pe_c c_law_take hr (by omega) rfl (pa_cons (pv 0) pa_nil)) pe_int) (fun _ _ => rfl)))
    (pss_one (ps_ret (pe_tup (pa_cons pe_str (pa_cons (pv 5) (pa_cons (C8.pe_c c_law_term hr (by omega) rfl (pa_cons (pv 0) (pa_cons (pv 1) (pa_cons pe_str (pa_cons (pe_op op_sub (pv 3) pe_int) pa_nil))))) (pa_cons (C8.pe_c c_law_term hr (by omega) rfl (pa_cons (pv 0) (pa_cons (pv 1) (pa_cons pe_str (pa_cons (pe_op op_sub (pv 3) pe_int) pa_nil))))) pa_nil))))))))
      pss_nil)
    (pss_cons (ps_if (PW.pt (pw_and (pt_cmpR op_eq (pv 2) pe_str (nomark _)) (pw_and1 (pt_cmpR op_eq (pv 4) pe_int (nomark _)))))
      (pss_one (ps_ret (pe_tup (pa_cons pe_str (pa_cons pe_int (pa_cons (pe_tup (pa_cons (C8.pe_c c_law_term hr (by omega) rfl (pa_cons (pv 0) (pa_cons (pv 1) (pa_cons pe_str (pa_cons (pe_op op_sub (pv 3) pe_int) pa_nil))))) (pa_cons (C8.pe_c c_law_term hr (by omega) rfl (pa_cons (pv 0) (pa_cons (pv 1) (pa_cons pe_str (pa_cons (pe_op op_sub (pv 3) pe_int) pa_nil))))) pa_nil))) pa_nil))))))
      pss_nil)
    (pss_cons (ps_if (pt_cmpR op_eq (pv 2) pe_str (nomark _))
      (pss_cons (ps_if (pt_cmpR op_eq (pv 4) pe_int (nomark _))
      (pss_one (ps_ret (pe_tup (pa_cons pe_str (pa_cons (pe_tup (pa_cons pe_str (pa_cons pe_str pa_nil))) (pa_cons (C8.pe_c c_law_term hr (by omega) rfl (pa_cons (pv 0) (pa_cons (pv 1) (pa_cons pe_str (pa_cons (pe_op op_sub (pv 3) pe_int) pa_nil))))) pa_nil))))))
      pss_nil)
    (pss_cons (ps_set (i := 6) scLOwn2.nd rfl (Or.inl rfl) (C8.pe_c c_law_fresh hr (by omega) rfl (pa_cons (pv 0) pa_nil)))
    (pss_one (ps_ret (pe_tup (pa_cons pe_str (pa_cons (pv 6) (pa_cons (C8.pe_c c_law_term hr (by omega) rfl (pa_cons (pv 0) (pa_cons (pe_op op_cat (pv 1) (pe_lst (pa_cons (pe_tup (pa_cons (pv 6) (pa_cons pe_str pa_nil))) pa_nil))) (pa_cons pe_str (pa_cons (pe_op op_sub (pv 3) pe_int) pa_nil))))) pa_nil))))))))
      pss_nil)
    (pss_one (ps_ret (C8.pe_c c_law_call hr (by omega) rfl (pa_cons (pv 0) (pa_cons (pv 1) (pa_cons (pv 2) (pa_cons (pv 3) pa_nil)))))))))))), ?_⟩
  refine ⟨_, rfl, p, r, _, rfl, d0, fun n1 H1 n10 n11 k1 d1 => ?_⟩
  have m10 := Int.emod_nonneg n1 (show (3 : Int) ≠ 0 by decide)
  have m11 := Int.emod_lt_of_pos n1 (show (0 : Int) < 3 by decide)
  refine ⟨_, _, rfl, rfl, (show (0 : Int) < 3 by decide), ?_⟩
  show gName 4 (V.int (n1 % 3)) _ _ _
  generalize n1 % 3 = u at *
  have hS1 := hS.keep k1 d0
  -- two numbers
  have pr : ∀ (sg : Str) (v2 v3 : V) (g2 g3 : Dd) (H2 H3 : Hp) (B2 B3 : Nat), sg ∈ signs → Keep p H1 H2 → DAt H2 p r B2 → g2.At F0 H2 v2 → Gz (3 * e + 2) (60 * 4 ^ e - 30) (sn S) g2 → Keep p H2 H3 → DAt H3 p r B3 → B3 ≤ B + 2 * (40 * 4 ^ e - 20) + 2 → g3.At F0 H3 v3 → Gz (3 * e + 2) (60 * 4 ^ e - 30) (sn S) g3 → ∀ t, H3 t = none → Q (.ref t) (upd H3 t (.tup [.str "prim", .str sg, v2, v3])) := fun sg v2 v3 g2 g3 H2 H3 B2 B3 hsg k2 d2 a2 h2 k3 d3 hB3 a3 h3 t ht => by
    have s4 := same_new ht (.tup [.str "prim", .str sg, v2, v3])
    have f4 := fr_same (B := F0) s4
    exact q _ (.tup [.str "prim", .str sg, g2, g3]) _ (((k1.trans k2).trans k3).trans (Keep.same s4)) ((d3.same s4).more (by omega)) (at_tup upd_same (ats_cons (at_str' (by decide +kernel)) (ats_cons (at_str' (signs_ok sg hsg)) (ats_cons ((a2.keep (fr_keep k3 d2)).keep f4) (ats_cons (a3.keep f4) ats_nil))))) ((gz_prim hsg h2 h3).mono (by omega) (by omega) fun s h => h)
  refine ⟨_, rfl, rfl, _, rfl, ?_⟩
  by_cases c1 : kd = "I"
  · have rest : ¬ u < 2 → True := fun _ => trivial
    subst c1
    show if decide (V.str "I" = V.str "I") = true then _ else _
    rw [wtt]
    refine iteT ?_
    refine ⟨_, rfl, _, _, rfl, rfl, _, rfl, ?_⟩
    show if decide (u < 2) = true then _ else _
    rcases Bool.eq_false_or_eq_true (decide (u < 2)) with c | c
    · rw [c]
      refine iteT ?_
      refine ⟨by show 7 ≤ sizeLine; decide, fun lz hlz => ?_⟩
      have s2 := same_new hlz (.lst (sig7.map V.str))
      have e2 : upd H1 lz (.lst (sig7.map V.str)) lz = some (.lst (sig7.map V.str)) := upd_same
      have d2 := d1.same s2
      have hS2 := hS1.same s2
      refine ⟨_, rfl, p, r, _, rfl, d2, fun n3 H3 n30 n31 k3 d3 => ?_⟩
      obtain ⟨z, hz, ez⟩ := at_str (zs := sig7) (i := n3 % 7) (Int.emod_nonneg _ (by decide)) (by show n3 % 7 < 7; exact Int.emod_lt_of_pos _ (by decide))
      refine ⟨_, _, rfl, rfl, (show (0 : Int) < 7 by decide), lz, _, _, _, rfl, rfl, SqL.of (k3 _ _ (d2.ne_list e2) e2), ez, ?_⟩
      have hS3 := hS2.keep k3 d2
      have kk3 := (Keep.same s2).trans k3
      refine ⟨_, rfl, _, rfl, _, rfl, _, rfl, _, _, rfl, rfl, p, r, sc, _, e, S, "I", ed4 _ _ _ _, by decide +kernel, hen, d3, hS3, by omega, by omega, fun v4 g4 H4 k4 d4 a4 h4 => ?_⟩
      have hS4 := hS3.keep k4 d3
      refine ⟨_, rfl, _, rfl, _, rfl, _, _, rfl, rfl, p, r, sc, _, e, S, "I", ed4 _ _ _ _, by decide +kernel, hen, d4, hS4, by omega, by omega, fun v5 g5 H5 k5 d5 a5 h5 => ⟨by show 4 ≤ sizeLine; decide, fun t ht => ?_⟩⟩
      exact pr z v4 v5 g4 g5 H4 H5 _ _ (sig7_ok z hz) (kk3.trans k4) d4 a4 h4 k5 d5 (by omega) a5 h5 t ht
    rw [c]
    refine iteF ?_
    refine ⟨_, rfl, rfl, _, rfl, ?_⟩
    show if decide (V.str "I" = V.str "B") = true then _ else _
    rw [wne (by decide +kernel)]
    refine iteF (iteF ?_)
    refine ⟨_, rfl, rfl, _, rfl, ?_⟩
    show if decide (V.str "I" = V.str "L") = true then _ else _
    rw [wne (by decide +kernel)]
    refine iteF (iteF ?_)
    refine ⟨_, rfl, rfl, _, rfl, ?_⟩
    show if decide (V.str "I" = V.str "F") = true then _ else _
    rw [wne (by decide +kernel)]
    refine iteF ?_
    exact ⟨_, rfl, _, rfl, _, rfl, _, rfl, p, r, sc, _, e, S, "I", rfl, hen, hkd, d1, hS1, by omega, by rw [p4n]; omega, fun v k H2 kk dd aa gg => q v k H2 (k1.trans kk) (dd.more (by rw [p4n]; omega)) aa (by rw [p4n] at gg; exact gg)⟩
  show if decide (V.str kd = V.str "I") = true then _ else _
  rw [wne c1]
  refine iteF (iteF ?_)
  refine ⟨_, rfl, rfl, _, rfl, ?_⟩
  by_cases c2 : kd = "B"
  · subst c2
    show if decide (V.str "B" = V.str "B") = true then _ else _
    rw [wtt]
    refine iteT ?_
    refine ⟨_, rfl, _, _, rfl, rfl, _, rfl, ?_⟩
    show if decide (u < 2) = true then _ else _
    rcases Bool.eq_false_or_eq_true (decide (u < 2)) with c | c
    · rw [c]
      refine iteT ?_
      refine ⟨by show 3 ≤ sizeLine; decide, fun lz hlz => ?_⟩
      have s2 := same_new hlz (.lst (sig3.map V.str))
      have e2 : upd H1 lz (.lst (sig3.map V.str)) lz = some (.lst (sig3.map V.str)) := upd_same
      have d2 := d1.same s2
      have hS2 := hS1.same s2
      refine ⟨_, rfl, p, r, _, rfl, d2, fun n3 H3 n30 n31 k3 d3 => ?_⟩
      obtain ⟨z, hz, ez⟩ := at_str (zs := sig3) (i := n3 % 3) (Int.emod_nonneg _ (by decide)) (by show n3 % 3 < 3; exact Int.emod_lt_of_pos _ (by decide))
      refine ⟨_, _, rfl, rfl, (show (0 : Int) < 3 by decide), lz, _, _, _, rfl, rfl, SqL.of (k3 _ _ (d2.ne_list e2) e2), ez, ?_⟩
      have hS3 := hS2.keep k3 d2
      have kk3 := (Keep.same s2).trans k3
      refine ⟨_, rfl, _, rfl, _, rfl, _, rfl, _, _, rfl, rfl, p, r, sc, _, e, S, "I", ed4 _ _ _ _, by decide +kernel, hen, d3, hS3, by omega, by omega, fun v4 g4 H4 k4 d4 a4 h4 => ?_⟩
      have hS4 := hS3.keep k4 d3
      refine ⟨_, rfl, _, rfl, _, rfl, _, _, rfl, rfl, p, r, sc, _, e, S, "I", ed4 _ _ _ _, by decide +kernel, hen, d4, hS4, by omega, by omega, fun v5 g5 H5 k5 d5 a5 h5 => ⟨by show 4 ≤ sizeLine; decide, fun t ht => ?_⟩⟩
      exact pr z v4 v5 g4 g5 H4 H5 _ _ (sig3_ok z hz) (kk3.trans k4) d4 a4 h4 k5 d5 (by omega) a5 h5 t ht
    rw [c]
    refine iteF ?_
    refine ⟨_, rfl, rfl, _, rfl, ?_⟩
    show if decide (V.str "B" = V.str "L") = true then _ else _
    rw [wne (by decide +kernel)]
    refine iteF (iteF ?_)
    refine ⟨_, rfl, rfl, _, rfl, ?_⟩
    show if decide (V.str "B" = V.str "F") = true then _ else _
    rw [wne (by decide +kernel)]
    refine iteF ?_
    exact ⟨_, rfl, _, rfl, _, rfl, _, rfl, p, r, sc, _, e, S, "B", rfl, hen, hkd, d1, hS1, by omega, by rw [p4n]; omega, fun v k H2 kk dd aa gg => q v k H2 (k1.trans kk) (dd.more (by rw [p4n]; omega)) aa (by rw [p4n] at gg; exact gg)⟩
  show if decide (V.str kd = V.str "B") = true then _ else _
  rw [wne c2]
  refine iteF (iteF ?_)
  refine ⟨_, rfl, rfl, _, rfl, ?_⟩
  by_cases c3 : kd = "L"
  · subst c3
    show if decide (V.str "L" = V.str "L") = true then _ else _
    rw [wtt]
    refine iteT ?_
    refine ⟨_, rfl, rfl, _, rfl, ?_⟩
    show if decide (V.int u = V.int 0) = true then _ else _
    rcases Bool.eq_false_or_eq_true (decide (V.int u = V.int 0)) with c | c
    · rw [c]
      refine iteT ?_
      refine ⟨_, rfl, _, rfl, _, rfl, _, _, rfl, rfl, p, r, sc, _, e, S, "I", ed4 _ _ _ _, by decide +kernel, hen, d1, hS1, by omega, by omega, fun v4 g4 H4 k4 d4 a4 h4 => ?_⟩
      have hS4 := hS1.keep k4 d1
      refine ⟨_, rfl, _, rfl, _, rfl, _, _, rfl, rfl, p, r, sc, _, e, S, "L", ed4 _ _ _ _, by decide +kernel, hen, d4, hS4, by omega, by omega, fun v5 g5 H5 k5 d5 a5 h5 => ⟨by show 2 ≤ sizeLine; decide, fun t ht => ⟨by show 3 ≤ sizeLine; decide, fun t2 ht2 => ?_⟩⟩⟩
      have s6 := same_new ht (.tup [v4, v5])
      have s7 := same_new ht2 (.tup [.str "con", .int 1, .ref t])
      have s67 := sameT s6 s7
      have f67 := fr_same (B := F0) s67
      refine q _ (.tup [.str "con", .int 1, .tup [g4, g5]]) _ (((k1.trans k4).trans k5).trans (Keep.same s67)) ((d5.same s67).more (by omega)) (at_tup upd_same (ats_cons (at_str' (by decide +kernel)) (ats_cons at_int' (ats_cons (at_tup (s7 _ _ upd_same) (ats_cons ((a4.keep (fr_keep k5 d4)).keep f67) (ats_cons (a5.keep f67) ats_nil))) ats_nil)))) ?_
      exact (gz_con (n := 3 * e + 2) (z := 60 * 4 ^ e - 30) (c := 2) (i := 1) (l := [g4, g5]) (by omega) (by omega) (Nat.le_refl _) fun k h => by
        simp only [List.mem_cons, List.not_mem_nil, or_false] at h
        rcases h with rfl | rfl
        · exact h4
        · exact h5).mono (by omega) (by omega) fun s h => h
    rw [c]
    refine iteF ?_
    refine ⟨_, rfl, rfl, _, rfl, ?_⟩
    show if decide (V.str "L" = V.str "F") = true then _ else _
    rw [wne (by decide +kernel)]
    refine iteF ?_
    exact ⟨_, rfl, _, rfl, _, rfl, _, rfl, p, r, sc, _, e, S, "L", rfl, hen, hkd, d1, hS1, by omega, by rw [p4n]; omega, fun v k H2 kk dd aa gg => q v k H2 (k1.trans kk) (dd.more (by rw [p4n]; omega)) aa (by rw [p4n] at gg; exact gg)⟩
  show if decide (V.str kd = V.str "L") = true then _ else _
  rw [wne c3]
  refine iteF (iteF ?_)
  refine ⟨_, rfl, rfl, _, rfl, ?_⟩
  by_cases c4 : kd = "F"
  · subst c4
    show if decide (V.str "F" = V.str "F") = true then _ else _
    rw [wtt]
    refine iteT ?_
    refine ⟨_, rfl, rfl, _, rfl, ?_⟩
    show if decide (V.int u = V.int 0) = true then _ else _
    rcases Bool.eq_false_or_eq_true (decide (V.int u = V.int 0)) with c | c
    · rw [c]
      refine iteT ?_
      refine ⟨by show 2 ≤ sizeLine; decide, fun t1 ht1 => ?_⟩
      have s2 := same_new ht1 (.tup [.str "var", .str "g"])
      have e2 : (Dd.tup [.str "var", .str "g"]).At F0 (upd H1 t1 (.tup [.str "var", .str "g"])) (.ref t1) := at_tup upd_same (ats_cons (at_str' (by decide +kernel)) (ats_cons (at_str' (by decide +kernel)) ats_nil))
      have d2 := d1.same s2
      have hS2 := hS1.same s2
      have kk2 := k1.trans (Keep.same s2)
      generalize upd H1 t1 (.tup [.str "var", .str "g"]) = H2 at e2 d2 hS2 kk2 ⊢
      refine ⟨_, rfl, _, rfl, _, rfl, _, _, rfl, rfl, p, r, sc, _, e, S, "I", ed4 _ _ _ _, by decide +kernel, hen, d2, hS2, by omega, by omega, fun v4 g4 H4 k4 d4 a4 h4 => ⟨by show 3 ≤ sizeLine; decide, fun t ht => ?_⟩⟩
      have s6 := same_new ht (.tup [.str "app", .ref t1, v4])
      have f6 := fr_same (B := F0) s6
      have hg : ("g" : Str) ∈ globs := by decide +kernel
      exact q _ (.tup [.str "app", .tup [.str "var", .str "g"], g4]) _ ((kk2.trans k4).trans (Keep.same s6)) ((d4.same s6).more (by omega)) (at_tup upd_same (ats_cons (at_str' (by decide +kernel)) (ats_cons ((e2.keep (fr_keep k4 d2)).keep f6) (ats_cons (a4.keep f6) ats_nil)))) ((gz_app ((gz_var (U := sn S) (globs_ok "g" hg).1 (.inr hg)).mono (show 1 ≤ 3 * e + 2 by omega) (Nat.le_refl _) fun s h => h) h4).mono (by omega) (by omega) fun s h => h)
    rw [c]
    refine iteF ?_
    refine ⟨_, rfl, p, r, _, rfl, d1, by omega, fun x H2 hx k2 d2 => ?_⟩
    have hS2 := hS1.keep k2 d1
    obtain ⟨xs, hsc, hats⟩ := hS2.at'
    have hxl := ats_len hats
    rw [List.length_map] at hxl
    refine ⟨_, rfl, _, rfl, _, rfl, _, rfl, by show 2 ≤ sizeLine; decide, fun t ht => ⟨by show 1 ≤ sizeLine; decide, fun l1 hl1 => ?_⟩⟩
    have st := same_new ht (.tup [.str x, .str "I"])
    have sl := same_new hl1 (.lst [.ref t])
    refine ⟨sc, l1, xs, _, rfl, rfl, sl _ _ (st _ _ hsc), upd_same, by show xs.length + 1 ≤ _; omega, fun sc2 hsc2 => ?_⟩
    have s3 := same_new hsc2 (.lst (xs ++ [.ref t]))
    have sA := sameT st (sameT sl s3)
    have hS3 := sc_ext (sc := sc2) (t := t) (x := x) (kd := "I") hats hS.ok sA (s3 _ _ (sl _ _ upd_same)) upd_same hx (by decide +kernel)
    refine ⟨_, rfl, _, _, rfl, rfl, p, r, sc2, _, e, _, "I", ed4 _ _ _ _, by decide +kernel, hen, d2.same sA, hS3, by rw [List.length_append]; show _ + 1 + _ ≤ _; omega, by omega, fun v3 k3 H3 kk3 dd3 aa3 gg3 => ⟨by show 3 ≤ sizeLine; decide, fun t3 ht3 => ?_⟩⟩
    have s4 := same_new ht3 (.tup [.str "lam", .str x, v3])
    exact q _ (.tup [.str "lam", .str x, k3]) _ ((((k1.trans k2).trans (Keep.same sA)).trans kk3).trans (Keep.same s4)) ((dd3.same s4).more (by omega)) (at_tup upd_same (ats_cons (at_str' (by decide +kernel)) (ats_cons (at_str' hx.len) (ats_cons (aa3.keep (fr_same s4)) ats_nil)))) ((gz_lam hx.1 (gg3.mono (Nat.le_refl _) (Nat.le_refl _) fun s h => sn_snoc h)).mono (by omega) (by omega) fun s h => h)
  show if decide (V.str kd = V.str "F") = true then _ else _
  rw [wne c4]
  refine iteF ?_
  exact ⟨_, rfl, _, rfl, _, rfl, _, rfl, p, r, sc, _, e, S, kd, rfl, hen, hkd, d1, hS1, by omega, by rw [p4n]; omega, fun v k H2 kk dd aa gg => q v k H2 (k1.trans kk) (dd.more (by rw [p4n]; omega)) aa (by rw [p4n] at gg; exact gg)⟩
abbrev sTerm : Stmt := topS 49
theorem scTerm : FnScope ["d", "scope", "kind", "depth", "turn", "name", "other", "first", "body"] ["d", "scope", "kind", "depth"] (defScope sTerm) := ⟨rfl, rfl, rfl, by decide +kernel, rfl, by decide +kernel, by decide +kernel⟩
theorem c_term1 {f : Addr} {fd : FuncData} {n : Nat} (T : TxtY mg) (c_law_take : C8.Cal P w K mg base 1 "_law_take" spTake []) (c_law_fresh : C8.Cal P w K mg base 1 "_law_fresh" spFresh []) (c_law_leaf : C8.Cal P w K mg base 4 "_law_leaf" (spLeaf 2) []) (c_law_let : C8.Cal P w K mg base (3 * n + 6) "_law_let" (spLet n) []) (c_law_case : C8.Cal P w K mg base (3 * n + 7) "_law_case" (spHelp n) []) (c_law_choice : C8.Cal P w K mg base (3 * n + 7) "_law_choice" (spHelp n) []) (c_law_own : C8.Cal P w K mg base (3 * n + 7) "_law_own" (spOwnT n) []) (c_law_term : C8.Cal P w K mg base (3 * n + 5) "_law_term" (spTerm n) [])
    (F : Fun K "_law_term" "_law_term" sTerm f fd) (b : Binds K fd ["d", "scope", "kind", "depth"] []) (hm : mg "_law_term" = some (.ref f)) : C8.Cal P w K mg base (3 * (n + 1) + 5) "_law_term" (spTerm (n + 1)) [] := by
  refine cal_of F hm b scTerm (fun vs H Q E h => ?_) (fun cdv A outer s H vs Q E hr h => ?_)
  · obtain ⟨p, r, sc, B, e, S, kd, rfl, _⟩ := h
    rfl
  obtain ⟨p, r, sc, B, e, S, kd, rfl, hkd, hen, d0, hS, hSl, hB, q⟩ := h
  have hP := pow_pos4 e
  have hbig := big
  have hu := hu_of hr
  refine ⟨_, (pss_cons (ps_if (PW.pt (pw_or (pt_cmpR op_le (pv 3) pe_int (nomark _)) (pw_or1 (pt_cmpR op_le (pe_dget hu (pv 0) pe_str (fun _ _ => rfl)) pe_int (nomark _)))))
      (pss_one (ps_ret (C8.pe_c c_law_leaf hr (by omega) rfl (pa_cons (pv 0) (pa_cons (pv 1) (pa_cons (pv 2) pa_nil))))))
      pss_nil)
    (pss_cons (ps_dput hu (pv 0) pe_str (pe_op op_sub (pe_dget hu (pv 0) pe_str (fun _ _ => rfl)) pe_int) rfl)
    (pss_cons (ps_set (i := 4) scTerm.nd rfl (Or.inl rfl) (pe_op op_mod (C8.pe_c c_law_take hr (by omega) rfl (pa_cons (pv 0) pa_nil)) pe_int))
    (pss_cons (ps_if (pt_cmpR op_lt (pv 4) pe_int (nomark _))
      (pss_one (ps_ret (C8.pe_c c_law_leaf hr (by omega) rfl (pa_cons (pv 0) (pa_cons (pv 1) (pa_cons (pv 2) pa_nil))))))
      pss_nil)
    (pss_cons (ps_if (pt_cmpR op_eq (pv 4) pe_int (nomark _))
      (pss_one (ps_ret (pe_tup (pa_cons pe_str (pa_cons (pe_op op_mod (C8.pe_c c_law_take hr (by omega) rfl (pa_cons (pv 0) pa_nil)) pe_int) (pa_cons (C8.pe_c c_law_term hr (by omega) rfl (pa_cons (pv 0) (pa_cons (pv 1) (pa_cons (pv 2) (pa_cons (pe_op op_sub (pv 3) pe_int) pa_nil))))) pa_nil))))))
      pss_nil)
    (pss_cons (ps_if (PW.pt (pw_or (pt_cmpR op_eq (pv 4) pe_int (nomark _)) (pw_or1 (pt_cmpR op_eq (pv 4) pe_int (nomark _)))))
      (pss_one (ps_ret (C8.pe_c c_law_let hr (by omega) rfl (pa_cons (pv 0) (pa_cons (pv 1) (pa_cons (pv 2) (pa_cons (pv 3) (pa_cons (pe_op op_add pe_int (pe_callTy call_int1 rfl T.zint boot_int (pa_cons (pe_cmpR op_eq (pe_op op_mod (C8.pe_c c_law_take hr (by omega) rfl (pa_cons (pv 0) pa_nil)) pe_int) pe_int (nomark _)) pa_nil))) pa_nil))))))))
      pss_nil)
    (pss_cons (ps_if (pt_cmpR op_eq (pv 4) pe_int (nomark _))
      (pss_cons (ps_set (i := 5) scTerm.nd rfl (Or.inl rfl) (C8.pe_c c_law_fresh hr (by omega) rfl (pa_cons (pv 0) pa_nil)))
    (pss_cons (ps_set (i := 6) scTerm.nd rfl (Or.inl rfl) (pe_ix ix_list (pe_lst (pa_strs (zs := ["I", "L", "F"]) rfl)) (pe_op op_mod (C8.pe_c c_law_take hr (by omega) rfl (pa_cons (pv 0) pa_nil)) pe_int) (fun _ _ => rfl)))
    (pss_cons (ps_set (i := 7) scTerm.nd rfl (Or.inl rfl) (C8.pe_c c_law_term hr (by omega) rfl (pa_cons (pv 0) (pa_cons (pv 1) (pa_cons (pv 6) (pa_cons (pe_op op_sub (pv 3) pe_int) pa_nil))))))
    (pss_one (ps_ret (pe_tup (pa_cons pe_str (pa_cons (pv 5) (pa_cons (pv 7) (pa_cons (C8.pe_c c_law_term hr (by omega) rfl (pa_cons (pv 0) (pa_cons (pe_op op_cat (pv 1) (pe_lst (pa_cons (pe_tup (pa_cons (pv 5) (pa_cons (pv 6) pa_nil))) pa_nil))) (pa_cons (pv 2) (pa_cons (pe_op op_sub (pv 3) pe_int) pa_nil))))) pa_nil))))))))))
      pss_nil)
    (pss_cons (ps_if (PW.pt (pw_or (pt_cmpR op_eq (pv 4) pe_int (nomark _)) (pw_or1 (pt_cmpR op_eq (pv 4) pe_int (nomark _)))))
      (pss_one (ps_ret (C8.pe_c c_law_case hr (by omega) rfl (pa_cons (pv 0) (pa_cons (pv 1) (pa_cons (pv 2) (pa_cons (pv 3) pa_nil)))))))
      pss_nil)
    (pss_cons (ps_if (pt_cmpR op_eq (pv 4) pe_int (nomark _))
      (pss_one (ps_ret (C8.pe_c c_law_choice hr (by omega) rfl (pa_cons (pv 0) (pa_cons (pv 1) (pa_cons (pv 2) (pa_cons (pv 3) pa_nil)))))))
      pss_nil)
    (pss_cons (ps_if (pt_cmpR op_eq (pv 4) pe_int (nomark _))
      (pss_cons (ps_set (i := 5) scTerm.nd rfl (Or.inl rfl) (C8.pe_c c_law_fresh hr (by omega) rfl (pa_cons (pv 0) pa_nil)))
    (pss_cons (ps_set (i := 8) scTerm.nd rfl (Or.inl rfl) (C8.pe_c c_law_term hr (by omega) rfl (pa_cons (pv 0) (pa_cons (pe_op op_cat (pv 1) (pe_lst (pa_cons (pe_tup (pa_cons (pv 5) (pa_cons pe_str pa_nil))) pa_nil))) (pa_cons (pv 2) (pa_cons (pe_op op_sub (pv 3) pe_int) pa_nil))))))
    (pss_one (ps_ret (pe_tup (pa_cons pe_str (pa_cons (pe_tup (pa_cons pe_str (pa_cons (pv 5) (pa_cons (pv 8) pa_nil)))) (pa_cons (C8.pe_c c_law_term hr (by omega) rfl (pa_cons (pv 0) (pa_cons (pv 1) (pa_cons pe_str (pa_cons (pe_op op_sub (pv 3) pe_int) pa_nil))))) pa_nil))))))))
      pss_nil)
    (pss_cons (ps_if (PW.pt (pw_and (pt_cmpR op_eq (pv 4) pe_int (nomark _)) (pw_and1 (pt_cmpR op_eq (pv 2) pe_str (nomark _)))))
      (pss_one (ps_ret (pe_tup (pa_cons pe_str (pa_cons (C8.pe_c c_law_term hr (by omega) rfl (pa_cons (pv 0) (pa_cons (pv 1) (pa_cons pe_str (pa_cons (pe_op op_sub (pv 3) pe_int) pa_nil))))) (pa_cons (C8.pe_c c_law_term hr (by omega) rfl (pa_cons (pv 0) (pa_cons (pv 1) (pa_cons pe_str (pa_cons (pe_op op_sub (pv 3) pe_int) pa_nil))))) pa_nil))))))
      pss_nil)
    (pss_one (ps_ret (C8.pe_c c_law_own hr (by omega) rfl (pa_cons (pv 0) (pa_cons (pv 1) (pa_cons (pv 2) (pa_cons (pv 3) pa_nil)))))))))))))))))), ?_⟩
  obtain ⟨row, i1, nn, left, hp1, hrow1, ok1, hi1⟩ := d0
  have d0 : DAt H p r B := ⟨row, i1, nn, left, hp1, hrow1, ok1, hi1⟩
  refine ⟨_, rfl, _, _, rfl, rfl, _, rfl, ?_⟩
  show if decide ((e : Int) ≤ 0) = true then _ else _
  rcases Bool.eq_false_or_eq_true (decide ((e : Int) ≤ 0)) with c1 | c1
  · rw [c1]
    refine iteT (iteT ?_)
    exact ⟨_, rfl, _, rfl, _, rfl, p, r, sc, B, S, kd, rfl, by decide, fun h => absurd h (by decide), d0, hS, by omega, by omega, fun v k H' kk dd aa gg => q v k H' kk (dd.more (by omega)) aa (gg.mono (by omega) (by omega) fun s h => h)⟩
  rw [c1]
  refine iteF ?_
  refine ⟨_, rfl, p, _, rfl, (dk_left r _ _ _ ▸ DGet.k (k := Sum.inr "left") hp1), _, _, rfl, rfl, _, rfl, ?_⟩
  show if decide (left ≤ 0) = true then _ else _
  rcases Bool.eq_false_or_eq_true (decide (left ≤ 0)) with c2 | c2
  · rw [c2]
    refine iteT ?_
    exact ⟨_, rfl, _, rfl, _, rfl, p, r, sc, B, S, kd, rfl, by decide, fun h => absurd h (by decide), d0, hS, by omega, by omega, fun v k H' kk dd aa gg => q v k H' kk (dd.more (by omega)) aa (gg.mono (by omega) (by omega) fun s h => h)⟩
  rw [c2]
  refine iteF ?_
  obtain ⟨e', rfl⟩ : ∃ e', e = e' + 1 := ⟨e - 1, by have := of_decide_eq_false c1; omega⟩
  have hP := pow_pos4 e'
  have hen' : e' < n := by omega
  have hB' := hB
  have q' := q
  rw [p4n] at hB q
  refine ⟨_, rfl, p, _, rfl, (dk_left r _ _ _ ▸ DGet.k (k := Sum.inr "left") hp1), _, _, rfl, rfl, _, rfl, p, _, rfl, DPut.k (k := Sum.inr "left") hp1 (by show 4 < sizeLine; decide), ?_⟩
  rw [dk_putl]
  have npr : r ≠ p := ne_of hrow1 hp1 (by intro z; cases z)
  have dG : DAt (upd H p (.dK (dk4 r i1 nn (left - 1)))) p r B := ⟨row, i1, nn, left - 1, upd_same, by rw [upd_ne npr]; exact hrow1, ok1, hi1⟩
  have kG : Keep p H (upd H p (.dK (dk4 r i1 nn (left - 1)))) := fun b o hb e => by rw [upd_ne hb]; exact e
  generalize upd H p (.dK (dk4 r i1 nn (left - 1))) = G at dG kG ⊢
  have hSG := hS.keep kG d0
  clear hp1 hrow1 hS d0
  refine ⟨_, rfl, p, r, _, rfl, dG, fun n1 H1 n10 n11 k1 d1 => ?_⟩
  have m10 := Int.emod_nonneg n1 (show (16 : Int) ≠ 0 by decide)
  have m11 := Int.emod_lt_of_pos n1 (show (0 : Int) < 16 by decide)
  refine ⟨_, _, rfl, rfl, (show (0 : Int) < 16 by decide), ?_⟩
  show gName 4 (V.int (n1 % 16)) _ _ _
  generalize n1 % 16 = u at *
  have hS1 := hSG.keep k1 dG
  have kA := kG.trans k1
  clear kG k1 dG hSG
  refine ⟨_, rfl, _, _, rfl, rfl, _, rfl, ?_⟩
  show if decide (u < 2) = true then _ else _
  rcases Bool.eq_false_or_eq_true (decide (u < 2)) with c3 | c3
  · rw [c3]
    refine iteT ?_
    exact ⟨_, rfl, _, rfl, _, rfl, p, r, sc, _, S, kd, rfl, by decide, fun h => absurd h (by decide), d1, hS1, by omega, by omega, fun v k H' kk dd aa gg => q v k H' (kA.trans kk) (dd.more (by omega)) aa (gg.mono (by omega) (by omega) fun s h => h)⟩
  rw [c3]
  refine iteF ?_
  refine ⟨_, rfl, rfl, _, rfl, ?_⟩
  show if decide (V.int u = V.int 2) = true then _ else _
  rcases Bool.eq_false_or_eq_true (decide (V.int u = V.int 2)) with t1 | t1
  · rw [t1]
    refine iteT ?_
    refine ⟨_, rfl, p, r, _, rfl, d1, fun n2 H2 n20 n21 k2 d2 => ?_⟩
    have m20 := Int.emod_nonneg n2 (show (40 : Int) ≠ 0 by decide)
    have m21 := Int.emod_lt_of_pos n2 (show (0 : Int) < 40 by decide)
    refine ⟨_, _, rfl, rfl, (show (0 : Int) < 40 by decide), _, rfl, _, rfl, _, rfl, _, rfl, _, _, rfl, rfl, p, r, sc, _, e', S, kd, ed4 _ _ _ _, hkd, hen', d2, hS1.keep k2 d1, by omega, by omega, fun v3 g3 H3 k3 d3 a3 h3 => ⟨by show 3 ≤ sizeLine; decide, fun t ht => ?_⟩⟩
    have s4 := same_new ht (.tup [.str "note", .int (n2 % 40), v3])
    exact q _ (.tup [.str "note", .int (n2 % 40), g3]) _ (((kA.trans k2).trans k3).trans (Keep.same s4)) ((d3.same s4).more (by omega)) (at_tup upd_same (ats_cons (at_str' (by decide +kernel)) (ats_cons at_int' (ats_cons (a3.keep (fr_same s4)) ats_nil)))) ((gz_note m20 (by omega) h3).mono (by omega) (by omega) fun s h => h)
  rw [t1]
  refine iteF ?_
  have lt : ∃ X : Prop, X := ⟨True, trivial⟩
  refine ⟨_, rfl, rfl, _, rfl, ?_⟩
  show if decide (V.int u = V.int 3) = true then _ else _
  have goLet : ∀ (n2 : Int) (H2 : Hp) (bb : Bool), Keep p H1 H2 → DAt H2 p r (B + 1 + 1) → spLet n ([V.ref p, .ref sc, .str kd, .int ((e' + 1 : Nat) : Int), .int (1 + (if bb = true then 1 else 0))] ++ []) H2 Q C8.E0 := fun n2 H2 bb k2 d2 => by
    cases bb with
    | true => exact ⟨p, r, sc, _, e', 2, S, kd, rfl, hen', by decide, by decide, hkd, d2, hS1.keep k2 d1, by omega, by rw [p4n]; omega, fun v k H' kk dd aa gg => q' v k H' ((kA.trans k2).trans kk) (dd.more (by rw [p4n]; omega)) aa (gg.mono (Nat.le_refl _) (Nat.le_refl _) fun s h => h)⟩
    | false => exact ⟨p, r, sc, _, e', 1, S, kd, rfl, hen', by decide, by decide, hkd, d2, hS1.keep k2 d1, by omega, by rw [p4n]; omega, fun v k H' kk dd aa gg => q' v k H' ((kA.trans k2).trans kk) (dd.more (by rw [p4n]; omega)) aa (gg.mono (Nat.le_refl _) (Nat.le_refl _) fun s h => h)⟩
  rcases Bool.eq_false_or_eq_true (decide (V.int u = V.int 3)) with t2 | t2
  · rw [t2]
    refine iteT (iteT ?_)
    refine ⟨_, rfl, _, rfl, _, rfl, _, rfl, _, rfl, p, r, _, rfl, d1, fun n2 H2 n20 n21 k2 d2 => ?_⟩
    refine ⟨_, _, rfl, rfl, (show (0 : Int) < 4 by decide), rfl, .inr ⟨_, rfl, _, _, rfl, rfl, ?_⟩⟩
    exact goLet n2 H2 _ k2 d2
  rw [t2]
  refine iteF ?_
  refine ⟨_, rfl, rfl, _, rfl, ?_⟩
  show if decide (V.int u = V.int 4) = true then _ else _
  rcases Bool.eq_false_or_eq_true (decide (V.int u = V.int 4)) with t3 | t3
  · rw [t3]
    refine iteT ?_
    refine ⟨_, rfl, _, rfl, _, rfl, _, rfl, _, rfl, p, r, _, rfl, d1, fun n2 H2 n20 n21 k2 d2 => ?_⟩
    refine ⟨_, _, rfl, rfl, (show (0 : Int) < 4 by decide), rfl, .inr ⟨_, rfl, _, _, rfl, rfl, ?_⟩⟩
    exact goLet n2 H2 _ k2 d2
  rw [t3]
  refine iteF ?_
  clear goLet lt
  refine ⟨_, rfl, rfl, _, rfl, ?_⟩
  show if decide (V.int u = V.int 5) = true then _ else _
  rcases Bool.eq_false_or_eq_true (decide (V.int u = V.int 5)) with t4 | t4
  · rw [t4]
    refine iteT ?_
    refine ⟨_, rfl, p, r, _, rfl, d1, by omega, fun x H2 hx k2 d2 => ?_⟩
    have hS2 := hS1.keep k2 d1
    refine ⟨by show 3 ≤ sizeLine; decide, fun lz hlz => ?_⟩
    have s3 := same_new hlz (.lst (kin3.map V.str))
    have e3 : upd H2 lz (.lst (kin3.map V.str)) lz = some (.lst (kin3.map V.str)) := upd_same
    have d3 := d2.same s3
    have hS3 := hS2.same s3
    refine ⟨_, rfl, p, r, _, rfl, d3, fun n4 H4 n40 n41 k4 d4 => ?_⟩
    obtain ⟨z, hz, ez⟩ := at_str (zs := kin3) (i := n4 % 3) (Int.emod_nonneg _ (by decide)) (by show n4 % 3 < 3; exact Int.emod_lt_of_pos _ (by decide))
    refine ⟨_, _, rfl, rfl, (show (0 : Int) < 3 by decide), lz, _, _, _, rfl, rfl, SqL.of (k4 _ _ (d3.ne_list e3) e3), ez, ?_⟩
    have hS4 := hS3.keep k4 d3
    have kB := ((kA.trans k2).trans (Keep.same s3)).trans k4
    have hzl := kin3_ok z hz
    refine ⟨_, rfl, _, rfl, _, rfl, _, rfl, _, _, rfl, rfl, p, r, sc, _, e', S, z, ed4 _ _ _ _, hzl, hen', d4, hS4, by omega, by omega, fun v5 g5 H5 k5 d5 a5 h5 => ?_⟩
    have hS5 := hS4.keep k5 d4
    obtain ⟨xs, hsc, hats⟩ := hS5.at'
    have hxl := ats_len hats
    rw [List.length_map] at hxl
    refine ⟨_, rfl, _, rfl, _, rfl, _, rfl, _, rfl, _, rfl, by show 2 ≤ sizeLine; decide, fun t ht => ⟨by show 1 ≤ sizeLine; decide, fun l1 hl1 => ?_⟩⟩
    have st := same_new ht (.tup [.str x, .str z])
    have sl := same_new hl1 (.lst [.ref t])
    refine ⟨sc, l1, xs, _, rfl, rfl, sl _ _ (st _ _ hsc), upd_same, by show xs.length + 1 ≤ _; omega, fun sc2 hsc2 => ?_⟩
    have s6 := same_new hsc2 (.lst (xs ++ [.ref t]))
    have sA := sameT st (sameT sl s6)
    have hS6 := sc_ext (sc := sc2) (t := t) (x := x) (kd := z) hats hS5.ok sA (s6 _ _ (sl _ _ upd_same)) upd_same hx hzl
    refine ⟨_, rfl, _, rfl, _, _, rfl, rfl, p, r, sc2, _, e', _, kd, ed4 _ _ _ _, hkd, hen', d5.same sA, hS6, by rw [List.length_append]; show _ + 1 + _ ≤ _; omega, by omega, fun v7 g7 H7 k7 d7 a7 h7 => ⟨by show 4 ≤ sizeLine; decide, fun t8 ht8 => ?_⟩⟩
    have s8 := same_new ht8 (.tup [.str "seq", .str x, v5, v7])
    have f7 := (fr_same (B := F0) sA).trans (fr_keep k7 (d5.same sA))
    have f8 := fr_same (B := F0) s8
    exact q _ (.tup [.str "seq", .str x, g5, g7]) _ ((((kB.trans k5).trans (Keep.same sA)).trans k7).trans (Keep.same s8)) ((d7.same s8).more (by omega)) (at_tup upd_same (ats_cons (at_str' (by decide +kernel)) (ats_cons (at_str' hx.len) (ats_cons ((a5.keep f7).keep f8) (ats_cons (a7.keep f8) ats_nil))))) ((gz_seq hx.1 h5 (h7.mono (Nat.le_refl _) (Nat.le_refl _) fun s h => sn_snoc h)).mono (by omega) (by omega) fun s h => h)
  rw [t4]
  refine iteF ?_
  refine ⟨_, rfl, rfl, _, rfl, ?_⟩
  show if decide (V.int u = V.int 6) = true then _ else _
  rcases Bool.eq_false_or_eq_true (decide (V.int u = V.int 6)) with t5 | t5
  · rw [t5]
    refine iteT (iteT ?_)
    exact ⟨_, rfl, _, rfl, _, rfl, _, rfl, p, r, sc, _, e', S, kd, rfl, hen', hkd, d1, hS1, by omega, by rw [p4n]; omega, fun v k H' kk dd aa gg => q' v k H' (kA.trans kk) (dd.more (by rw [p4n]; omega)) aa gg⟩
  rw [t5]
  refine iteF ?_
  refine ⟨_, rfl, rfl, _, rfl, ?_⟩
  show if decide (V.int u = V.int 7) = true then _ else _
  rcases Bool.eq_false_or_eq_true (decide (V.int u = V.int 7)) with t6 | t6
  · rw [t6]
    refine iteT ?_
    exact ⟨_, rfl, _, rfl, _, rfl, _, rfl, p, r, sc, _, e', S, kd, rfl, hen', hkd, d1, hS1, by omega, by rw [p4n]; omega, fun v k H' kk dd aa gg => q' v k H' (kA.trans kk) (dd.more (by rw [p4n]; omega)) aa gg⟩
  rw [t6]
  refine iteF ?_
  refine ⟨_, rfl, rfl, _, rfl, ?_⟩
  show if decide (V.int u = V.int 8) = true then _ else _
  rcases Bool.eq_false_or_eq_true (decide (V.int u = V.int 8)) with t7 | t7
  · rw [t7]
    refine iteT ?_
    exact ⟨_, rfl, _, rfl, _, rfl, _, rfl, p, r, sc, _, e', S, kd, rfl, hen', hkd, d1, hS1, by omega, by rw [p4n]; omega, fun v k H' kk dd aa gg => q' v k H' (kA.trans kk) (dd.more (by rw [p4n]; omega)) aa gg⟩
  rw [t7]
  refine iteF ?_
  refine ⟨_, rfl, rfl, _, rfl, ?_⟩
  show if decide (V.int u = V.int 9) = true then _ else _
  rcases Bool.eq_false_or_eq_true (decide (V.int u = V.int 9)) with t8 | t8
  · rw [t8]
    refine iteT ?_
    refine ⟨_, rfl, p, r, _, rfl, d1, by omega, fun x H2 hx k2 d2 => ?_⟩
    have hS2 := hS1.keep k2 d1
    obtain ⟨xs, hsc, hats⟩ := hS2.at'
    have hxl := ats_len hats
    rw [List.length_map] at hxl
    refine ⟨_, rfl, _, rfl, _, rfl, by show 2 ≤ sizeLine; decide, fun t ht => ⟨by show 1 ≤ sizeLine; decide, fun l1 hl1 => ?_⟩⟩
    have st := same_new ht (.tup [.str x, .str "I"])
    have sl := same_new hl1 (.lst [.ref t])
    refine ⟨sc, l1, xs, _, rfl, rfl, sl _ _ (st _ _ hsc), upd_same, by show xs.length + 1 ≤ _; omega, fun sc2 hsc2 => ?_⟩
    have s6 := same_new hsc2 (.lst (xs ++ [.ref t]))
    have sA := sameT st (sameT sl s6)
    have hS6 := sc_ext (sc := sc2) (t := t) (x := x) (kd := "I") hats hS2.ok sA (s6 _ _ (sl _ _ upd_same)) upd_same hx (by decide +kernel)
    refine ⟨_, rfl, _, rfl, _, _, rfl, rfl, p, r, sc2, _, e', _, kd, ed4 _ _ _ _, hkd, hen', d2.same sA, hS6, by rw [List.length_append]; show _ + 1 + _ ≤ _; omega, by omega, fun v7 g7 H7 k7 d7 a7 h7 => ?_⟩
    have hS7 := (hS2.same sA).keep k7 (d2.same sA)
    refine ⟨_, rfl, _, rfl, by show 3 ≤ sizeLine; decide, fun t8 ht8 => ?_⟩
    have s8 := same_new ht8 (.tup [.str "lam", .str x, v7])
    have e8 : (Dd.tup [.str "lam", .str x, g7]).At F0 (upd H7 t8 (.tup [.str "lam", .str x, v7])) (.ref t8) := at_tup upd_same (ats_cons (at_str' (by decide +kernel)) (ats_cons (at_str' hx.len) (ats_cons (a7.keep (fr_same s8)) ats_nil)))
    have d8 := d7.same s8
    have hS8 := hS7.same s8
    have kB := (((kA.trans k2).trans (Keep.same sA)).trans k7).trans (Keep.same s8)
    generalize upd H7 t8 (.tup [.str "lam", .str x, v7]) = H8 at e8 d8 hS8 kB ⊢
    refine ⟨_, rfl, _, rfl, _, rfl, _, _, rfl, rfl, p, r, sc, _, e', S, "I", ed4 _ _ _ _, by decide +kernel, hen', d8, hS8, by omega, by omega, fun v9 g9 H9 k9 d9 a9 h9 => ⟨by show 3 ≤ sizeLine; decide, fun t10 ht10 => ?_⟩⟩
    have s10 := same_new ht10 (.tup [.str "app", .ref t8, v9])
    have f10 := fr_same (B := F0) s10
    exact q _ (.tup [.str "app", .tup [.str "lam", .str x, g7], g9]) _ ((kB.trans k9).trans (Keep.same s10)) ((d9.same s10).more (by omega)) (at_tup upd_same (ats_cons (at_str' (by decide +kernel)) (ats_cons ((e8.keep (fr_keep k9 d8)).keep f10) (ats_cons (a9.keep f10) ats_nil)))) ((gz_app (gz_lam hx.1 (h7.mono (Nat.le_refl _) (Nat.le_refl _) fun s h => sn_snoc h)) (h9.mono (Nat.le_succ _) (Nat.le_refl _) fun s h => h)).mono (by omega) (by omega) fun s h => h)
  rw [t8]
  refine iteF ?_
  refine ⟨_, rfl, rfl, _, rfl, ?_⟩
  show if decide (V.int u = V.int 10) = true then _ else _
  have own : spOwnT n ([V.ref p, .ref sc, .str kd, .int ((e' + 1 : Nat) : Int)] ++ []) H1 Q C8.E0 := ⟨p, r, sc, _, e', S, kd, rfl, hen', hkd, d1, hS1, by omega, by rw [p4n]; omega, fun v k H' kk dd aa gg => q' v k H' (kA.trans kk) (dd.more (by rw [p4n]; omega)) aa gg⟩
  rcases Bool.eq_false_or_eq_true (decide (V.int u = V.int 10)) with t9 | t9
  · rw [t9]
    refine iteT ?_
    refine ⟨_, rfl, rfl, _, rfl, ?_⟩
    show if decide (V.str kd = V.str "I") = true then _ else _
    rcases Bool.eq_false_or_eq_true (decide (V.str kd = V.str "I")) with t10 | t10
    · rw [t10]
      refine iteT ?_
      refine ⟨_, rfl, _, rfl, _, rfl, _, _, rfl, rfl, p, r, sc, _, e', S, "F", ed4 _ _ _ _, by decide +kernel, hen', d1, hS1, by omega, by omega, fun v4 g4 H4 k4 d4 a4 h4 => ?_⟩
      refine ⟨_, rfl, _, rfl, _, rfl, _, _, rfl, rfl, p, r, sc, _, e', S, "I", ed4 _ _ _ _, by decide +kernel, hen', d4, hS1.keep k4 d1, by omega, by omega, fun v5 g5 H5 k5 d5 a5 h5 => ⟨by show 3 ≤ sizeLine; decide, fun t ht => ?_⟩⟩
      have s6 := same_new ht (.tup [.str "app", v4, v5])
      have f6 := fr_same (B := F0) s6
      exact q _ (.tup [.str "app", g4, g5]) _ (((kA.trans k4).trans k5).trans (Keep.same s6)) ((d5.same s6).more (by omega)) (at_tup upd_same (ats_cons (at_str' (by decide +kernel)) (ats_cons ((a4.keep (fr_keep k5 d4)).keep f6) (ats_cons (a5.keep f6) ats_nil)))) ((gz_app h4 h5).mono (by omega) (by omega) fun s h => h)
    · rw [t10]
      refine iteF ?_
      exact ⟨_, rfl, _, rfl, _, rfl, _, rfl, own⟩
  rw [t9]
  refine iteF (iteF ?_)
  exact ⟨_, rfl, _, rfl, _, rfl, _, rfl, own⟩
end
end Toy

set_option Elab.async false
set_option linter.all false
set_option maxRecDepth 100000
set_option maxHeartbeats 4000000
/-! Part ZC: own rules: tuple(list) with the tuple's object kept, dict(tuple of pairs). -/
namespace L2
open PySem PySem.Spec PyProof.Rows
theorem pick_all {A B : Type} : ∀ {l : List A} {R : Nat → A → B → Prop}, (∀ j q, l[j]? = some q → ∃ u, R j q u) → ∃ us : List (B × A), us.length = l.length ∧ ∀ j q, l[j]? = some q → ∃ u, us[j]? = some (u, q) ∧ R j q u
  | [], _, _ => ⟨[], rfl, fun j q e => by simp at e⟩
  | a :: l, R, h => by
    obtain ⟨u, hu⟩ := h 0 a rfl
    obtain ⟨us, h1, h2⟩ := pick_all (l := l) (R := fun j => R (j + 1)) fun j q e => h (j + 1) q (by simpa using e)
    refine ⟨(u, a) :: us, by rw [List.length_cons, List.length_cons, h1], fun j q e => ?_⟩
    cases j with
    | zero =>
      have e' : a = q := Option.some.inj e
      subst e'
      exact ⟨u, rfl, hu⟩
    | succ j =>
      obtain ⟨v, e1, e2⟩ := h2 j q (by simpa using e)
      exact ⟨v, by simpa using e1, e2⟩
section
variable {X : Cx}
/-- tuple(list): the new tuple has no attributes of its own -/
theorem call_tupleF : CallR X (.type "tuple") (fun xs H Q => ∃ p ys, xs = [.ref p] ∧ SqL X.K H p ys ∧ ∀ (l : Addr) (o : Obj), H l = none → o.dict = none → Q (.ref l) (upd H l (.frz o (.tup ys)))) := by
  intro pins s σ H xs us Q I r h
  obtain ⟨p, ys, rfl, hq, q⟩ := h
  obtain ⟨u, rfl, rx⟩ := vals1 r
  cases rx
  obtain ⟨its, r', pl, hz⟩ := I.list hq
  have hlen := r'.length
  refine call_tuple_list pl.isList (fun h' kp => ?_) (by simp only [List.size_toArray] <;> omega)
  have I1 : Inv X pins σ H { s with heap := h' } := I.kept (t' := s.toks) kp
  have I2 : Inv X pins σ (upd H h'.objs.size (.frz { cls := .type "tuple", data := .seq its.toArray } (.tup ys))) { s with heap := h'.push { cls := .type "tuple", data := .seq its.toArray } } :=
    I1.laid (t' := s.toks) (fun b o e => Heap.get?_push_of_some _ e) (Nat.le_refl _) (show ObjOk X.prog X.w _ _ _ (.frz _ (.tup ys)) from ⟨Heap.get?_push_size _ rfl, hz, its, r', IsTup.new _ _⟩)
  exact ⟨.ref h'.objs.size, _, I2, rfl, q _ _ (I1.hok.fresh (Nat.le_refl _)) rfl⟩
/-- dict(xs) of a tuple of pairs (key, value) -/
theorem call_dictT (hcalm : X.calm = true) : CallR X (.type "dict") (fun xs H Q => ∃ (a : Addr) (ob : Obj) (ps : List Addr) (kvs : List (Key × V)), xs = [.ref a] ∧ H a = some (.frz ob (.tup (ps.map V.ref))) ∧ ob.dict = none ∧ Paired (fun p kv => SqT X.K H p [kV kv.1, kv.2]) ps kvs ∧
    ∀ p, H p = none → Q (.ref p) (upd H p (.dK (mergeK [] kvs)))) := by
  intro pins s σ H xs us Q I r q
  obtain ⟨a, ob, ps, kvs, ex, hq, hob, hp, q⟩ := q
  subst ex
  obtain ⟨u, eu, rx⟩ := vals1 r
  subst eu
  cases rx
  obtain ⟨eo, hz, its, rv, ot, eot, hc, n, hdat⟩ := (show ObjOk X.prog X.w H s.heap a (.frz ob (.tup (ps.map V.ref))) from I.hok a _ hq)
  rw [eo] at eot
  cases eot
  have ei := refs_at rv
  subst ei
  rw [List.length_map] at hz
  obtain ⟨prs, rel, hl, hpr⟩ := pairs_of I hp
  obtain ⟨us, h1, h2⟩ := pick_all (R := fun j (q : Key × Value) (u : Value) => ∃ b : Addr, ps[j]? = some b ∧ IsTup s.heap b #[u, q.2] ∧ keyIs q.1 u = true) (l := prs) fun j q e => by
    obtain ⟨b, u, e1, e2, e3⟩ := hpr j q e
    exact ⟨u, b, e1, e2, e3⟩
  let vs : List (Value × Value) := us.map fun x => (x.1, x.2.2)
  have hvl : vs.length = prs.length := by rw [List.length_map, h1]
  have get : ∀ j u v, vs[j]? = some (u, v) → ∃ k b, prs[j]? = some (k, v) ∧ ps[j]? = some b ∧ IsTup s.heap b #[u, v] ∧ keyIs k u = true := fun j u v e => by
    have hj : j < prs.length := by rw [← hvl]; exact (List.getElem?_eq_some_iff.mp e).1
    obtain ⟨u', e1, b, e2, e3, e4⟩ := h2 j prs[j] (List.getElem?_eq_getElem hj)
    rw [List.getElem?_map, e1] at e
    injection e with e
    injection e with ea eb
    subst ea
    refine ⟨prs[j].1, b, ?_, e2, by rw [← eb]; exact e3, e4⟩
    rw [List.getElem?_eq_getElem hj, ← eb]
  have P := PySem.PairArg.tuple (prog := X.prog) (w := X.w) a ((ps.map Value.ref).toArray) (fun j => (ps[j]?).getD 0) vs
  refine PySem.call_dict_pairs (knd := mixKind X.prog X.w) (kvs := prs) P (I.ok.hd hcalm) ⟨⟨ob, n, eo, hc, hob, hdat⟩, by simp [hvl, hl], fun j k v e => ?_⟩ ⟨hvl.symm, fun i key v e => ?_⟩ (by rw [hvl, hl]; exact hz) fun h' tk hd' k => ?_
  · obtain ⟨k', b, _, e2, e3, _⟩ := get j k v e
    refine ⟨by simp [e2], ?_⟩
    show PySem.PairAt s.heap ((ps[j]?).getD 0) k v
    rw [e2]
    exact .inl e3
  · obtain ⟨k', b, e1, _, _, e4⟩ := get i key v e
    exact ⟨k', e1, e4⟩
  · have hm : (s.heap.objs.size == sysModules) = false := beq_eq_false_iff_ne.mpr (Nat.ne_of_gt I.big)
    have hlen : (mergeK [] kvs).length ≤ sizeLine := by
      refine Nat.le_trans (length_mergeK kvs []) ?_
      rw [List.length_nil, Nat.zero_add, rel.length, hl]
      exact hz
    exact ⟨.ref s.heap.objs.size, upd H s.heap.objs.size (.dK (mergeK [] kvs)), I.laid (t' := tk) (fun b o e => k b o (by simp) e) (Nat.le_refl _) (show ObjOk X.prog X.w _ _ _ (.dK (mergeK [] kvs)) from ⟨hlen, hm, merged [] prs, KV.merge rel .nil, hd'⟩), rfl, q _ (I.hok.fresh (Nat.le_refl _))⟩
/-- t + u, none of them empty: the new tuple has no attributes of its own -/
def rCatF (K : PySem.W.Frag) : R2 := fun x y H Q => ∃ a b xs ys, x = .ref a ∧ y = .ref b ∧ SqT K H a xs ∧ SqT K H b ys ∧ xs ≠ [] ∧ ys ≠ [] ∧ xs.length + ys.length ≤ sizeLine ∧
  ∀ (p : Addr) (o : Obj), H p = none → o.dict = none → Q (.ref p) (upd H p (.frz o (.tup (xs ++ ys))))
theorem op_catF : OpR X (binaryOp .Add) (rCatF X.K) := by
  intro pins s σ H x y v u Q I rx ry h
  obtain ⟨a, b, xs, ys, rfl, rfl, ha, hb, hx, hy, hz, q2⟩ := h
  cases rx
  cases ry
  obtain ⟨its, r1, p1, _⟩ := I.tuple ha
  obtain ⟨its2, r2, p2, _⟩ := I.tuple hb
  refine HT.cat_tup p1 p2 (fun z => hx (r1.nil_iff.mp z)) (fun z => (hy (r2.nil_iff.mp z)).elim) (fun z => ?_) (by rw [← r1.length, ← r2.length]; exact hz)
  refine ⟨.ref s.heap.objs.size, _, I.laid (t' := s.toks) (o := .frz _ (.tup (xs ++ ys))) (fun b ob q => Heap.get?_push_of_some _ q) (Nat.le_refl _) ⟨Heap.get?_push_size _ rfl, by rw [List.length_append]; exact hz, _, r1.append r2, IsTup.new _ _⟩, rfl, q2 _ _ (I.hok.fresh (Nat.le_refl _)) rfl⟩
/-- a tuple of which the object is known -/
theorem SqT.frz {K : PySem.W.Frag} {H : Hp} {a : Addr} {o : Obj} {xs : List V} (h : H a = some (.frz o (.tup xs))) : SqT K H a xs := .inl (.inr ⟨o, h⟩)
end
end L2

set_option Elab.async false
set_option linter.all false
set_option maxRecDepth 100000
set_option maxHeartbeats 4000000
/-! Part I2: a typed program. -/
namespace Toy
open PySem L2
open PyProof.Rows (envOfC)
theorem cut_to (xs : List V) (k : Nat) (h : k ≤ xs.length) : cutV xs none (some (k : Int)) = xs.take k := by
  unfold cutV
  rw [HT.sIx_none, HT.sIx_nat, List.drop_zero, Nat.sub_zero, Nat.min_eq_left h]
theorem boot_reversed : bootBuiltins "reversed" = some (.type "reversed") := by decide +kernel
/-- a program: definitions, and the name of its main one -/
def defD (q : Str × Dd) : Dd := .tup [.str q.1, q.2]
def progD (l : List (Str × Dd)) (m : Str) : Dd := .tup [.tup (l.map defD), .str m]
/-- a program of which the definitions' tuple has no attributes of its own -/
def ProgAt (H : Hp) (l : List (Str × Dd)) (m : Str) (v : V) : Prop := ∃ (a t : Addr) (o : Obj) (xs : List V), v = .ref a ∧ H a = some (.tup [.ref t, .str m]) ∧ H t = some (.frz o (.tup xs)) ∧ o.dict = none ∧ Dd.Ats F0 H (l.map defD) xs ∧ m.length ≤ 1000
theorem ProgAt.keep {H H' : Hp} {l : List (Str × Dd)} {m : Str} {v : V} (h : ProgAt H l m v) (s : Same H H') : ProgAt H' l m v := by
  obtain ⟨a, t, o, xs, rfl, ha, ht, ho, hs, hm⟩ := h
  exact ⟨a, t, o, xs, rfl, s _ _ ha, s _ _ ht, ho, hs.keep (fr_same s), hm⟩
structure ProgOk (l : List (Str × Dd)) : Prop where
  gz : ∀ q ∈ l, Gz 17 31000 [] q.2
  nm : ∃ a, l.map (·.1) = globs.take a ++ [("main" : Str)] ++ globs.drop a
theorem glob_names : glob.map (·.1) = globs := rfl
theorem Dd.Ats.here2 {B : Addr → Prop} {H : Hp} {l : List Dd} {xs : List V} (h : Dd.Ats B H l xs) : Dd.Ats (fun a => B a ∧ H a ≠ none) H l xs := h.weak fun a xs e b => ⟨b, by rw [e]; exact fun z => by cases z⟩
theorem ats_take {B : Addr → Prop} {H : Hp} : ∀ {l : List Dd} {xs : List V} (n : Nat), Dd.Ats B H l xs → Dd.Ats B H (l.take n) (xs.take n)
  | [], _, n, h => by cases h; rw [List.take_nil, List.take_nil]; exact rfl
  | k :: l, _, 0, h => rfl
  | k :: l, _, n + 1, ⟨x, ys, e, h, hs⟩ => by
    cases e
    exact ⟨x, ys.take n, rfl, h, ats_take n hs⟩
theorem ats_dropN {B : Addr → Prop} {H : Hp} : ∀ {l : List Dd} {xs : List V} (n : Nat), Dd.Ats B H l xs → Dd.Ats B H (l.drop n) (xs.drop n)
  | [], _, n, h => by cases h; rw [List.drop_nil, List.drop_nil]; exact rfl
  | k :: l, _, 0, h => h
  | k :: l, _, n + 1, ⟨x, ys, e, h, hs⟩ => by
    cases e
    exact ats_dropN n hs
section
variable {P : Program} {w : World} {K : PySem.W.Frag} {mg : Str → Option Value} {base : Heap}
theorem c_term {f : Addr} {fd : FuncData} (T : TxtY mg) (c_law_take : C8.Cal P w K mg base 1 "_law_take" spTake []) (c_law_takeN : C8.Cal P w K mg base 1 "_law_take" spTakeN []) (c_law_fresh : C8.Cal P w K mg base 1 "_law_fresh" spFresh []) (c_law_freshN : C8.Cal P w K mg base 1 "_law_fresh" spFreshN []) (c_law_leaf : C8.Cal P w K mg base 4 "_law_leaf" (spLeaf 2) []) (c_law_globals : C8.Cal P w K mg base 1 "_law_globals" spGlobals [])
    {fl fdf fc fo fa fw : Addr} {dl ddf dc dO da dw : FuncData}
    (Fl : Fun K "_law_let" "_law_let" sLet fl dl) (bl : Binds K dl ["d", "scope", "kind", "depth", "many"] []) (ml : mg "_law_let" = some (.ref fl))
    (Fd : Fun K "_law_default" "_law_default" sDflt2 fdf ddf) (bd : Binds K ddf ["d", "scope", "kind", "other", "depth", "odds"] []) (md : mg "_law_default" = some (.ref fdf))
    (Fc : Fun K "_law_case" "_law_case" sCase fc dc) (bc : Binds K dc ["d", "scope", "kind", "depth"] []) (mc : mg "_law_case" = some (.ref fc))
    (Fo : Fun K "_law_choice" "_law_choice" sChoice fo dO) (bo : Binds K dO ["d", "scope", "kind", "depth"] []) (mo : mg "_law_choice" = some (.ref fo))
    (Fa : Fun K "_law_call" "_law_call" sLCall fa da) (ba : Binds K da ["d", "scope", "kind", "depth"] []) (ma : mg "_law_call" = some (.ref fa))
    (Fw : Fun K "_law_own" "_law_own" sLOwn2 fw dw) (bw : Binds K dw ["d", "scope", "kind", "depth"] []) (mw : mg "_law_own" = some (.ref fw))
    (F : Fun K "_law_term" "_law_term" sTerm f fd) (b : Binds K fd ["d", "scope", "kind", "depth"] []) (hm : mg "_law_term" = some (.ref f)) : ∀ n : Nat, C8.Cal P w K mg base (3 * n + 5) "_law_term" (spTerm n) []
  | 0 => cal_none F hm b fun vs H Q E h => by
    obtain ⟨p, r, sc, B, e, S, kd, _, _, h, _⟩ := h
    exact Nat.not_lt_zero _ h
  | n + 1 => by
    have ct := c_term T c_law_take c_law_takeN c_law_fresh c_law_freshN c_law_leaf c_law_globals Fl bl ml Fd bd md Fc bc mc Fo bo mo Fa ba ma Fw bw mw F b hm n
    have cl := c_let T c_law_takeN c_law_freshN ct Fl bl ml
    have cd := c_default c_law_take c_law_fresh ct Fd bd md
    have cc := c_case T c_law_take c_law_freshN ct cd Fc bc mc
    have co := c_choice T c_law_take ct cd Fo bo mo
    have ca := c_lcall T c_law_globals c_law_take c_law_leaf ct Fa ba ma
    have cw := c_own2 c_law_take c_law_fresh ct ca Fw bw mw
    exact c_term1 T c_law_take c_law_fresh c_law_leaf cl cc co cw ct F b hm
abbrev sProg : Stmt := topS 50
theorem scProg : FnScope ["d", "definitions", "name", "kinds", "kind", "scope", "other", "term", "param", "at", "main"] ["d"] (defScope sProg) := ⟨rfl, rfl, rfl, by decide +kernel, rfl, by decide +kernel, by decide +kernel⟩
def spProg : Sp := fun vs H Q _ => ∃ (p r : Addr) (B : Nat), vs = [.ref p] ∧ DAt H p r B ∧ B ≤ 900000000 ∧ ∀ (v : V) (l : List (Str × Dd)) (H' : Hp), Keep p H H' → DAt H' p r (B + 300000) → ProgAt H' l "main" v → ProgOk l → Q v H'
theorem c_prog {f : Addr} {fd : FuncData} (T : TxtY mg) (c_law_take : C8.Cal P w K mg base 1 "_law_take" spTake []) (c_law_fresh : C8.Cal P w K mg base 1 "_law_fresh" spFresh []) (c_law_globals : C8.Cal P w K mg base 1 "_law_globals" spGlobals []) {n : Nat} (hn : n = 5) (c_law_term : C8.Cal P w K mg base (3 * n + 5) "_law_term" (spTerm n) []) (F : Fun K "_law_program" "_law_program" sProg f fd) (b : Binds K fd ["d"] []) (hm : mg "_law_program" = some (.ref f)) : C8.Cal P w K mg base (3 * n + 6) "_law_program" spProg [] := by
  refine cal_of F hm b scProg (fun vs H Q E h => ?_) (fun cdv A outer s H vs Q E hr h => ?_)
  · obtain ⟨p, r, B, rfl, _⟩ := h
    rfl
  obtain ⟨p, r, B, rfl, d0, hB, q⟩ := h
  have hbig := big
  refine ⟨_, (pss_cons (ps_set (i := 1) scProg.nd rfl (Or.inl rfl) (pe_lst pa_nil))
    (pss_cons (ps_for PassesOwn.never rfl (pi_list (pe_c0 c_law_globals hr (by omega) rfl)) (pg_tup rfl (pgs_cons (pg_name (i := 2) scProg.nd rfl (Or.inl rfl)) (pgs_cons (pg_name (i := 3) scProg.nd rfl (Or.inl rfl)) (pgs_cons (pg_name (i := 4) scProg.nd rfl (Or.inl rfl)) pgs_nil))))
      (pss_cons (ps_set (i := 5) scProg.nd rfl (Or.inl rfl) (pe_lst pa_nil))
    (pss_cons (ps_for PassesOwn.never rfl (pi_list (pv 3)) (pg_name (i := 6) scProg.nd rfl (Or.inl rfl))
      (pss_one (ps_expr (pe_bm PySem.F.plainAttrs_list PySem.F.slot_list_append PySem.F.type_list_append mt_append (pv 5) (pa_cons (pe_tup (pa_cons (C8.pe_c c_law_fresh hr (by omega) rfl (pa_cons (pv 0) pa_nil)) (pa_cons (pv 6) pa_nil))) pa_nil)))))
    (pss_cons (ps_set (i := 7) scProg.nd rfl (Or.inl rfl) (C8.pe_c c_law_term hr (by omega) rfl (pa_cons (pv 0) (pa_cons (pv 5) (pa_cons (pv 4) (pa_cons (pe_op op_add pe_int (pe_op op_mod (C8.pe_c c_law_take hr (by omega) rfl (pa_cons (pv 0) pa_nil)) pe_int)) pa_nil))))))
    (pss_cons (ps_for PassesOwn.never rfl (RT.pi_revA rfl T.zreversed (pv 5)) (pg_tup rfl (pgs_cons (pg_name (i := 8) scProg.nd rfl (Or.inl rfl)) (pgs_cons (pg_name (i := 6) scProg.nd rfl (Or.inl rfl)) pgs_nil)))
      (pss_one (ps_set (i := 7) scProg.nd rfl (Or.inl rfl) (pe_tup (pa_cons pe_str (pa_cons (pv 8) (pa_cons (pv 7) pa_nil)))))))
    (pss_one (ps_expr (pe_bm PySem.F.plainAttrs_list PySem.F.slot_list_append PySem.F.type_list_append mt_append (pv 1) (pa_cons (pe_tup (pa_cons (pv 2) (pa_cons (pv 7) pa_nil))) pa_nil)))))))))
    (pss_cons (ps_set (i := 9) scProg.nd rfl (Or.inl rfl) (pe_op op_mod (C8.pe_c c_law_take hr (by omega) rfl (pa_cons (pv 0) pa_nil)) (pe_op op_add (pe_callB call_len_seq rfl T.zlen PySem.boot_len (pa_cons (pv 1) pa_nil)) pe_int)))
    (pss_cons (ps_set (i := 10) scProg.nd rfl (Or.inl rfl) (pe_tup (pa_cons pe_str (pa_cons pe_int (pa_cons (pe_tup (pa_cons (C8.pe_c c_law_term hr (by omega) rfl (pa_cons (pv 0) (pa_cons (pe_lst pa_nil) (pa_cons pe_str (pa_cons pe_int pa_nil))))) (pa_cons (C8.pe_c c_law_term hr (by omega) rfl (pa_cons (pv 0) (pa_cons (pe_lst pa_nil) (pa_cons pe_str (pa_cons pe_int pa_nil))))) pa_nil))) pa_nil)))))
    (pss_one (ps_ret (pe_tup (pa_cons (pe_callTy call_tupleF rfl T.ztuple boot_tuple (pa_cons (pe_op op_cat (pe_op op_cat (pe_slice sl_list (pv 1) po_none (po_some (pv 9))) (pe_lst (pa_cons (pe_tup (pa_cons pe_str (pa_cons (pv 10) pa_nil))) pa_nil))) (pe_slice sl_list (pv 1) (po_some (pv 9)) po_none)) pa_nil)) (pa_cons pe_str pa_nil))))))))), ?_⟩
  refine ⟨by show 0 ≤ sizeLine; decide, fun Df hDf => ?_⟩
  obtain ⟨nDp, nDr⟩ := d0.fresh hDf
  have s0 := same_new hDf (.lst [])
  have e0 : upd H Df (.lst []) Df = some (.lst []) := upd_same
  have d0' := d0.same s0
  generalize upd H Df (.lst []) = H0 at s0 e0 d0' ⊢
  refine ⟨rfl, fun L xs H1 s1 hL eL aL0 => ?_⟩
  have aL := aL0.here2
  have nLD : L ≠ Df := fun z => by rw [z, e0] at hL; cases hL
  have hxl := ats_len aL
  rw [List.length_map] at hxl
  have hgl : glob.length = 7 := rfl
  have d1 := d0'.same s1
  have nLp : L ≠ p := d1.ne_list eL
  have e1 := s1 _ _ e0
  have nBD : ¬ (Nw H0 Df ∧ H1 Df ≠ none) := fun z => by
    have := z.1
    unfold Nw at this
    rw [e0] at this; cases this
  refine ⟨L, rfl, ⟨_, SqL.of eL⟩, for_list (a := L) (xs := xs)
    (fun i σ G => ∃ (l : List (Str × Dd)) (dxs : List V) (v2 v3 v4 v5 v6 v7 v8 : Option V), σ = [some (.ref p), some (.ref Df), v2, v3, v4, v5, v6, v7, v8, none, none] ∧ Keep p H G ∧ (∀ a, a ≠ p → a ≠ Df → ∀ o, H1 a = some o → G a = some o) ∧ DAt G p r (B + i * 12000) ∧ G Df = some (.lst dxs) ∧ Dd.Ats F0 G (l.map defD) dxs ∧ l.map (·.1) = (glob.take i).map (·.1) ∧ ∀ q ∈ l, Gz 17 31000 [] q.2)
    ⟨[], [], none, none, none, none, none, none, none, rfl, Keep.same (sameT s0 s1), fun a _ _ o h => h, d1.more (by omega), e1, rfl, rfl, fun q h => absurd h List.not_mem_nil⟩ (fun i σ G _ ⟨_, _, _, _, _, _, _, _, _, _, _, h, _⟩ => SqL.of (h L nLp nLD _ eL)) ?_ ?_⟩
  · rintro i x σ G hx ⟨l, dxs, v2, v3, v4, v5, v6, v7, v8, rfl, kG, kD, dG, eD, aD, hln, hlg⟩
    obtain ⟨kk, hk, hkx⟩ := ats_get aL hx
    rw [List.getElem?_map] at hk
    cases hq : glob[i]? with
    | none => rw [hq] at hk; cases hk
    | some g =>
      rw [hq] at hk
      cases hk
      have hgm := List.mem_of_getElem? hq
      have hil : i < glob.length := (List.getElem?_eq_some_iff.mp hq).1
      obtain ⟨ok1, ok2, ok3, ok4⟩ := glob_ok g hgm
      obtain ⟨t, xs3, rfl, ht, x0, ys0, rfl, h0, x1, ys1, rfl, h1', x2, ys2, rfl, h2', hn2⟩ := id hkx
      cases (show ys2 = [] from hn2)
      obtain ⟨rfl, _⟩ := (show x0 = .str g.1 ∧ _ from h0)
      obtain ⟨rfl, _⟩ := (show x2 = .str g.2.2 ∧ _ from h2')
      obtain ⟨lk, zs, rfl, hBlk, hlk, hzs⟩ := h1'
      obtain ⟨rfl, _⟩ := ats_strs_eq hzs
      have nlkD : lk ≠ Df := fun z => nBD (z ▸ hBlk)
      have nlkp : lk ≠ p := d1.ne_list hlk
      have hlkG := kD lk nlkp nlkD _ hlk
      have htG := kD t (d1.ne_tup ht) (fun z => by rw [z, e1] at ht; cases ht) _ ht
      have hdl := ats_len aD
      rw [List.length_map] at hdl
      have hll : l.length = i := by
        have e := congrArg List.length hln
        rw [List.length_map, List.length_map, List.length_take] at e
        omega
      refine ⟨t, _, rfl, SqT.of htG, rfl, _, _, rfl, _, _, rfl, _, _, rfl, rfl, ?_⟩
      refine ⟨by show 0 ≤ sizeLine; decide, fun Sl hSl => ?_⟩
      obtain ⟨nSp, nSr⟩ := dG.fresh hSl
      have s2 := same_new hSl (.lst [])
      have e2 : upd G Sl (.lst []) Sl = some (.lst []) := upd_same
      have nDS : Df ≠ Sl := fun z => by rw [← z, eD] at hSl; cases hSl
      have nlkS : lk ≠ Sl := fun z => by rw [← z, hlkG] at hSl; cases hSl
      have d2 := dG.same s2
      have hlk2 := s2 _ _ hlkG
      generalize upd G Sl (.lst []) = G2 at s2 e2 d2 hlk2 ⊢
      have k2 := Keep.same (p := p) s2
      clear s2
      refine ⟨_, rfl, lk, rfl, ⟨_, SqL.of hlk2⟩, for_list (a := lk) (xs := g.2.1.map V.str)
        (fun j σ G' => ∃ (S : List (Str × Str)) (sxs : List V) (v6 : Option V), σ = [some (.ref p), some (.ref Df), some (.str g.1), some (.ref lk), some (.str g.2.2), some (.ref Sl), v6, v7, v8, none, none] ∧ Keep p G G' ∧ DAt G' p r (B + i * 12000 + j) ∧ G' Sl = some (.lst sxs) ∧ Dd.Ats F0 G' (S.map scD) sxs ∧ S.length = j ∧ ∀ q ∈ S, nameOk q.1 ∧ q.2.length ≤ 1000)
        ⟨[], [], _, rfl, k2, d2.more (by omega), e2, rfl, rfl, fun q h => absurd h List.not_mem_nil⟩ (fun j σ G' _ ⟨_, _, _, _, h, _⟩ => SqL.of (h _ _ nlkp hlkG)) ?_ ?_⟩
      · rintro j x' σ G' hxj ⟨S, sxs, v6, rfl, kG', dG', eS, aS, hSlen, hSok⟩
        rw [List.getElem?_map] at hxj
        obtain ⟨z, hzj, rfl⟩ := Option.map_eq_some_iff.mp hxj
        have hjl : j < g.2.1.length := (List.getElem?_eq_some_iff.mp hzj).1
        have hsl := ats_len aS
        rw [List.length_map] at hsl
        refine ⟨_, rfl, .inl ⟨rfl, _, SqL.of eS⟩, _, rfl, p, r, _, rfl, dG', by omega, fun nx G3 hnx k3 d3 => ⟨_, rfl, by show 2 ≤ sizeLine; decide, fun t3 ht3 => ?_⟩⟩
        have s4 := same_new ht3 (.tup [.str nx, .str z])
        have e4 : (scD (nx, z)).At F0 (upd G3 t3 (.tup [.str nx, .str z])) (.ref t3) := at_tup upd_same (ats_cons (at_str' hnx.len) (ats_cons (at_str' (ok3 z (List.mem_of_getElem? hzj))) ats_nil))
        have eS4 := s4 _ _ (k3 _ _ nSp eS)
        have d4 := d3.same s4
        have aS4 := (aS.keep (fr_keep k3 dG')).keep (fr_same s4)
        have k4 := (kG'.trans k3).trans (Keep.same s4)
        generalize upd G3 t3 (.tup [.str nx, .str z]) = G4 at e4 eS4 d4 aS4 k4 ⊢
        refine ⟨Sl, _, _, rfl, rfl, eS4, szl (by omega), ?_⟩
        have f5 : Fr F0 G4 (upd G4 Sl (.lst (sxs ++ [.ref t3]))) := fr_list eS4 fun z => z
        refine ⟨S ++ [(nx, z)], sxs ++ [.ref t3], _, rfl, keep_upd hSl k4 _, (d4.off nSp nSr _).more (by omega), upd_same, ?_, by rw [List.length_append, hSlen]; rfl, fun qq hqq => ?_⟩
        · rw [List.map_append]
          exact ats_app (aS4.keep f5) (ats_one (e4.keep f5))
        · rcases List.mem_append.mp hqq with e | e
          · exact hSok qq e
          · rw [List.mem_singleton.mp e]
            exact ⟨hnx, ok3 z (List.mem_of_getElem? hzj)⟩
      rintro σ G3 ⟨S, sxs, v6, rfl, k3, d3, eS, aS, hSlen, hSok⟩
      rw [List.length_map] at d3 hSlen
      have hsl := ats_len aS
      rw [List.length_map] at hsl
      have hSc : ScAt G3 Sl S := ⟨⟨_, eS, aS⟩, hSok⟩
      refine ⟨_, rfl, _, rfl, _, rfl, _, rfl, p, r, _, rfl, d3, fun n4 G4 n40 n41 k4 d4 => ?_⟩
      have m40 := Int.emod_nonneg n4 (show (3 : Int) ≠ 0 by decide)
      have m41 := Int.emod_lt_of_pos n4 (show (0 : Int) < 3 by decide)
      have hSc4 := hSc.keep k4 d3
      have he4 : (2 + n4 % 3).toNat ≤ 4 := by omega
      have hpe : 4 ^ (2 + n4 % 3).toNat ≤ 256 := Nat.pow_le_pow_right (show 0 < 4 by decide) he4
      have hpp := pow_pos4 (2 + n4 % 3).toNat
      refine ⟨_, _, rfl, rfl, (show (0 : Int) < 3 by decide), _, _, rfl, rfl, p, r, Sl, _, (2 + n4 % 3).toNat, S, _, by rw [Int.toNat_of_nonneg (by omega)]; rfl, ok4, by omega, d4, hSc4, by omega, by omega, fun v5 g5 G5 k5 d5 a5 h5 => ?_⟩
      have eS5 := k5 _ _ nSp (k4 _ _ nSp eS)
      have aS5 := (aS.keep (fr_keep k4 d3)).keep (fr_keep k5 d4)
      have k35 := (k3.trans k4).trans k5
      have d5 := d5.more (show _ ≤ B + i * 12000 + 11000 by omega)
      have h5 : Gz 14 15330 (sn S) g5 := h5.mono (by omega) (by omega) fun s h => h
      clear hpe hpp
      refine ⟨_, rfl, Sl, sxs, rfl, .inl ⟨SqL.of eS5, RT.for_Itv (K := K) (fun j σ G' => ∃ (v6 : Option V) (v7 : V) (k7 : Dd) (v8 : Option V), σ = [some (.ref p), some (.ref Df), some (.str g.1), some (.ref lk), some (.str g.2.2), some (.ref Sl), v6, some v7, v8, none, none] ∧ Same G5 G' ∧ k7.At F0 G' v7 ∧ Gz (14 + j) (15330 + 3 * j) (sn (S.take (S.length - j))) k7)
        ⟨_, _, _, _, rfl, fun _ _ e => e, a5, by rw [Nat.sub_zero, List.take_length]; exact h5⟩ (fun j σ G' ⟨_, _, _, _, _, h, _⟩ => SqL.of (h _ _ eS5)) ?_ ?_⟩⟩
      · rintro j x' σ G' hj hxj ⟨v6, v7, k7, v8, rfl, sG', a7, h7⟩
        obtain ⟨kk', hk', hkx'⟩ := ats_get aS5 hxj
        rw [List.getElem?_map] at hk'
        cases hq' : S[sxs.length - 1 - j]? with
        | none => rw [hq'] at hk'; cases hk'
        | some qq =>
          rw [hq'] at hk'
          cases hk'
          have hqm := List.mem_of_getElem? hq'
          have hqi := (List.getElem?_eq_some_iff.mp hq').1
          obtain ⟨t6, x6, y6, rfl, ht6, hx6, hy6⟩ := pair_at (m := [.str qq.1, .str qq.2]) hkx' rfl
          obtain ⟨rfl, _⟩ := (show x6 = .str qq.1 ∧ _ from hx6)
          obtain ⟨rfl, _⟩ := (show y6 = .str qq.2 ∧ _ from hy6)
          refine ⟨_, _, rfl, SqT.of (sG' _ _ ht6), rfl, _, _, rfl, _, _, rfl, rfl, ?_⟩
          refine ⟨_, rfl, _, rfl, by show 3 ≤ sizeLine; decide, fun t7 ht7 => ?_⟩
          have s8 := same_new ht7 (.tup [.str "lam", .str qq.1, v7])
          refine ⟨_, _, .tup [.str "lam", .str qq.1, k7], _, rfl, sameT sG' s8, at_tup upd_same (ats_cons (at_str' (by decide +kernel)) (ats_cons (at_str' (hSok qq hqm).1.len) (ats_cons (a7.keep (fr_same s8)) ats_nil))), ?_⟩
          refine (gz_lam (hSok qq hqm).1.1 (h7.mono (Nat.le_refl _) (Nat.le_refl _) fun s h => ?_)).mono (by omega) (by omega) fun s h => h
          have et : S.take (S.length - j) = S.take (S.length - (j + 1)) ++ [(qq.1, qq.2)] := by
            rw [show S.length - j = (S.length - (j + 1)) + 1 by omega, List.take_add_one, show S.length - (j + 1) = sxs.length - 1 - j by omega, hq']
            rfl
          rw [et] at h
          exact sn_snoc h
      rintro σ G6 ⟨v6, v7, k7, v8, rfl, sG6, a7, h7⟩
      rw [hsl, Nat.sub_self, List.take_zero] at h7
      have kG6 := (k35.trans (Keep.same (p := p) sG6))
      have d6 := d5.same sG6
      have eD6 := kG6 _ _ nDp eD
      have aD6 := aD.keep (fr_keep kG6 dG)
      refine ⟨_, rfl, .inl ⟨rfl, _, SqL.of eD6⟩, _, rfl, _, rfl, by show 2 ≤ sizeLine; decide, fun t8 ht8 => ?_⟩
      have s8 := same_new ht8 (.tup [.str g.1, v7])
      have e8 : (defD (g.1, k7)).At F0 (upd G6 t8 (.tup [.str g.1, v7])) (.ref t8) := at_tup upd_same (ats_cons (at_str' (globs_ok g.1 ok1).len) (ats_cons (a7.keep (fr_same s8)) ats_nil))
      have eD8 := s8 _ _ eD6
      have aD8 := aD6.keep (fr_same s8)
      have d8 := d6.same s8
      have k8 := kG6.trans (Keep.same s8)
      generalize upd G6 t8 (.tup [.str g.1, v7]) = G8 at e8 eD8 aD8 d8 k8 ⊢
      refine ⟨Df, _, _, rfl, rfl, eD8, szl (by omega), ?_⟩
      have f9 : Fr F0 G8 (upd G8 Df (.lst (dxs ++ [.ref t8]))) := fr_list eD8 fun z => z
      refine ⟨l ++ [(g.1, k7)], dxs ++ [.ref t8], _, _, _, _, _, _, _, rfl, keep_upd hDf (kG.trans k8) _, fun a na nb o h => by rw [upd_ne nb]; exact k8 _ _ na (kD a na nb o h), (d8.off nDp nDr _).more (by omega), upd_same, ?_, ?_, fun qq hqq => ?_⟩
      · rw [List.map_append]
        exact ats_app (aD8.keep f9) (ats_one (e8.keep f9))
      · rw [List.map_append, hln, List.take_add_one, hq, List.map_append]
        rfl
      · rcases List.mem_append.mp hqq with e | e
        · exact hlg qq e
        · rw [List.mem_singleton.mp e]
          exact h7.mono (by omega) (by omega) fun s h => h
  rintro σ G ⟨l, dxs, v2, v3, v4, v5, v6, v7, v8, rfl, kG, kD, dG, eD, aD, hln, hlg⟩
  rw [hxl] at dG hln
  rw [List.take_length, glob_names] at hln
  have hll : l.length = 7 := by
    have e := congrArg List.length hln
    rw [List.length_map] at e
    exact e
  have hdl := ats_len aD
  rw [List.length_map] at hdl
  refine ⟨_, rfl, p, r, _, rfl, dG, fun n1 G1 n10 n11 k1 d1 => ?_⟩
  have eD1 := k1 _ _ nDp eD
  have aD1 := aD.keep (fr_keep k1 dG)
  have m10 := Int.emod_nonneg n1 (b := ((dxs.length : Nat) : Int) + 1) (by omega)
  have m11 := Int.emod_lt_of_pos n1 (b := ((dxs.length : Nat) : Int) + 1) (by omega)
  refine ⟨_, rfl, Df, _, rfl, .inl (SqL.of eD1), _, _, rfl, rfl, _, _, rfl, rfl, by omega, ?_⟩
  show gName 9 (V.int (n1 % (((dxs.length : Nat) : Int) + 1))) _ _ _
  obtain ⟨a, ha⟩ : ∃ a : Nat, n1 % (((dxs.length : Nat) : Int) + 1) = (a : Int) := ⟨_, (Int.toNat_of_nonneg m10).symm⟩
  rw [ha] at m11 ⊢
  have ha7 : a ≤ dxs.length := by omega
  refine ⟨_, rfl, by show 0 ≤ sizeLine; decide, fun l2 hl2 => ?_⟩
  have s2 := same_new hl2 (.lst [])
  have hS2 : ScAt (upd G1 l2 (.lst [])) l2 [] := ⟨⟨[], upd_same, rfl⟩, fun q h => absurd h List.not_mem_nil⟩
  have d2 := d1.same s2
  have k2 := k1.trans (Keep.same s2)
  generalize upd G1 l2 (.lst []) = G2 at hS2 d2 k2 ⊢
  refine ⟨p, r, l2, _, 3, [], "I", rfl, by decide +kernel, by omega, d2, hS2, by decide, by omega, fun v3 g3 G3 k3 d3 a3 h3 => ?_⟩
  refine ⟨_, rfl, by show 0 ≤ sizeLine; decide, fun l4 hl4 => ?_⟩
  have s4 := same_new hl4 (.lst [])
  have hS4 : ScAt (upd G3 l4 (.lst [])) l4 [] := ⟨⟨[], upd_same, rfl⟩, fun q h => absurd h List.not_mem_nil⟩
  have d4 := d3.same s4
  have a34 := a3.keep (fr_same s4)
  have k4 := (k2.trans k3).trans (Keep.same s4)
  generalize upd G3 l4 (.lst []) = G4 at hS4 d4 a34 k4 ⊢
  refine ⟨p, r, l4, _, 4, [], "L", rfl, by decide +kernel, by omega, d4, hS4, by decide, by omega, fun v5 g5 G5 k5 d5 a5 h5 => ⟨by show 2 ≤ sizeLine; decide, fun t6 ht6 => ⟨by show 3 ≤ sizeLine; decide, fun t7 ht7 => ?_⟩⟩⟩
  have s6 := same_new ht6 (.tup [v3, v5])
  have s7 := same_new ht7 (.tup [.str "con", .int 1, .ref t6])
  have s67 := sameT s6 s7
  have f67 := fr_same (B := F0) s67
  have e7 : (Dd.tup [.str "con", .int 1, .tup [g3, g5]]).At F0 (upd (upd G5 t6 (.tup [v3, v5])) t7 (.tup [.str "con", .int 1, .ref t6])) (.ref t7) := at_tup upd_same (ats_cons (at_str' (by decide +kernel)) (ats_cons at_int' (ats_cons (at_tup (s7 _ _ upd_same) (ats_cons ((a34.keep (fr_keep k5 d4)).keep f67) (ats_cons (a5.keep f67) ats_nil))) ats_nil)))
  have d7 := d5.same s67
  have k7 := (k4.trans k5).trans (Keep.same s67)
  have hmg : Gz 17 31000 [] (.tup [.str "con", .int 1, .tup [g3, g5]]) := (gz_con (n := 14) (z := 15330) (c := 2) (i := 1) (l := [g3, g5]) (by omega) (by omega) (Nat.le_refl _) fun k h => by
    simp only [List.mem_cons, List.not_mem_nil, or_false] at h
    rcases h with rfl | rfl
    · exact h3.mono (by omega) (by decide) fun s h => h
    · exact h5.mono (by omega) (by decide) fun s h => h).mono (by omega) (by omega) fun s h => h
  have eD7 := k7 _ _ nDp eD
  have aD7 := aD.keep (fr_keep k7 dG)
  generalize upd (upd G5 t6 (.tup [v3, v5])) t7 (.tup [.str "con", .int 1, .ref t6]) = G7 at e7 d7 k7 eD7 aD7 ⊢
  show gName 10 (V.ref t7) _ _ _
  refine ⟨_, rfl, _, rfl, _, rfl, Df, _, rfl, SqL.of eD7, fun l1 hl1 => ?_⟩
  rw [cut_to _ _ ha7] at *
  have s8 := same_new hl1 (.lst (dxs.take a))
  have e8 := s8 _ _ eD7
  have c8 : upd G7 l1 (.lst (dxs.take a)) l1 = some (.lst (dxs.take a)) := upd_same
  have a8 := e7.keep (fr_same (B := F0) s8)
  have aD8 := aD7.keep (fr_same (B := F0) s8)
  have d8 := d7.same s8
  have k8 := k7.trans (Keep.same s8)
  generalize upd G7 l1 (.lst (dxs.take a)) = G8 at s8 e8 c8 a8 aD8 d8 k8 ⊢
  clear s8
  refine ⟨_, rfl, by show 2 ≤ sizeLine; decide, fun t9 ht9 => ⟨by show 1 ≤ sizeLine; decide, fun l9 hl9 => ?_⟩⟩
  have s9 := sameT (same_new ht9 (.tup [.str "main", .ref t7])) (same_new hl9 (.lst [.ref t9]))
  have m9 : (defD ("main", Dd.tup [.str "con", .int 1, .tup [g3, g5]])).At F0 (upd (upd G8 t9 (.tup [.str "main", .ref t7])) l9 (.lst [.ref t9])) (.ref t9) := at_tup ((same_new hl9 (.lst [.ref t9])) _ _ upd_same) (ats_cons (at_str' (show ("main" : Str).length ≤ 1000 by decide +kernel)) (ats_cons (a8.keep (fr_same s9)) ats_nil))
  have b9 : upd (upd G8 t9 (.tup [.str "main", .ref t7])) l9 (.lst [.ref t9]) l9 = some (.lst [.ref t9]) := upd_same
  have e9 := s9 _ _ e8
  have c9 := s9 _ _ c8
  have aD9 := aD8.keep (fr_same (B := F0) s9)
  have d9 := d8.same s9
  have k9 := k8.trans (Keep.same s9)
  generalize upd (upd G8 t9 (.tup [.str "main", .ref t7])) l9 (.lst [.ref t9]) = G9 at s9 m9 b9 e9 c9 aD9 d9 k9 ⊢
  clear s9
  have z1 : (dxs.take a).length ≤ 7 := by rw [List.length_take]; omega
  have z2 : (dxs.drop a).length ≤ 7 := by rw [List.length_drop]; omega
  have hs7 : 30 ≤ sizeLine := by decide
  refine ⟨l1, l9, _, _, rfl, rfl, c9, b9, by show _ + 1 ≤ sizeLine; omega, fun l10 hl10 => ?_⟩
  have s10 := same_new hl10 (.lst (dxs.take a ++ [.ref t9]))
  have c10 : upd G9 l10 (.lst (dxs.take a ++ [.ref t9])) l10 = some (.lst (dxs.take a ++ [.ref t9])) := upd_same
  have e10 := s10 _ _ e9
  have m10' := m9.keep (fr_same (B := F0) s10)
  have aD10 := aD9.keep (fr_same (B := F0) s10)
  have d10 := d9.same s10
  have k10 := k9.trans (Keep.same s10)
  generalize upd G9 l10 (.lst (dxs.take a ++ [.ref t9])) = G10 at s10 c10 e10 m10' aD10 d10 k10 ⊢
  clear s10
  refine ⟨_, rfl, _, rfl, _, rfl, Df, _, rfl, SqL.of e10, fun l11 hl11 => ?_⟩
  rw [cut_from _ _ ha7] at *
  have s11 := same_new hl11 (.lst (dxs.drop a))
  have b11 : upd G10 l11 (.lst (dxs.drop a)) l11 = some (.lst (dxs.drop a)) := upd_same
  have c11 := s11 _ _ c10
  have m11' := m10'.keep (fr_same (B := F0) s11)
  have aD11 := aD10.keep (fr_same (B := F0) s11)
  have d11 := d10.same s11
  have k11 := k10.trans (Keep.same s11)
  generalize upd G10 l11 (.lst (dxs.drop a)) = G11 at s11 b11 c11 m11' aD11 d11 k11 ⊢
  clear s11
  refine ⟨l10, l11, _, _, rfl, rfl, c11, b11, by rw [List.length_append]; show _ + 1 + _ ≤ sizeLine; omega, fun l12 hl12 => ?_⟩
  refine ⟨l12, _, rfl, SqL.of upd_same, fun t13 o13 ht13 ho13 => ?_⟩
  have s13 := sameT (same_new hl12 (.lst (dxs.take a ++ [.ref t9] ++ dxs.drop a))) (same_new ht13 (.frz o13 (.tup (dxs.take a ++ [.ref t9] ++ dxs.drop a))))
  refine ⟨by show 2 ≤ sizeLine; decide, fun t14 ht14 => ?_⟩
  have s14 := sameT s13 (same_new ht14 (.tup [.ref t13, .str "main"]))
  have f14 := fr_same (B := F0) s14
  have el : (l.take a ++ [(("main" : Str), Dd.tup [.str "con", .int 1, .tup [g3, g5]])] ++ l.drop a).map defD = (l.map defD).take a ++ [defD ("main", Dd.tup [.str "con", .int 1, .tup [g3, g5]])] ++ (l.map defD).drop a := by
    rw [List.map_append, List.map_append, List.map_take, List.map_drop]
    rfl
  refine q _ (l.take a ++ [(("main" : Str), Dd.tup [.str "con", .int 1, .tup [g3, g5]])] ++ l.drop a) _ (kG.trans (k11.trans (Keep.same s14))) ((d11.same s14).more (by omega)) ⟨t14, t13, o13, _, rfl, upd_same, (same_new ht14 (.tup [.ref t13, .str "main"])) _ _ upd_same, ho13, ?_, by decide +kernel⟩ ⟨fun q hq => ?_, a, ?_⟩
  · rw [el]
    exact ats_app (ats_app (ats_take a (aD11.keep f14)) (ats_one (m11'.keep f14))) (ats_dropN a (aD11.keep f14))
  · rcases List.mem_append.mp hq with h | h
    · rcases List.mem_append.mp h with h | h
      · exact hlg q (List.mem_of_mem_take h)
      · rw [List.mem_singleton.mp h]
        exact hmg
    · exact hlg q (List.mem_of_mem_drop h)
  · rw [List.map_append, List.map_append, List.map_take, List.map_drop, hln]
    rfl
end
end Toy

set_option Elab.async false
set_option linter.all false
set_option maxRecDepth 100000
set_option maxHeartbeats 4000000
/-! Part MA: a machine of heads in plain Lean. -/
namespace Toy
open PySem L2
mutual
/-- what names stand for: groups of a let, arguments, heads -/
inductive Env
  | nil
  | grp (rows : List (Str × Dd)) (e : Env)
  | bind (x : Str) (t : Dd) (te : Env) (e : Env)
  | hd (x : Str) (h : Head) (e : Env)
inductive Head
  | num (i : Int)
  | con (tag : Int) (args : List Dd) (e : Env)
  | fn (x : Str) (b : Dd) (e : Env)
end
inductive Ent
  | term (t : Dd) (e : Env)
  | head (h : Head)
def rowGet (rows : List (Str × Dd)) (s : Str) : Option Dd := (rows.find? fun q => decide (q.1 = s)).map (·.2)
def Env.look : Env → Str → Option Ent
  | .nil, _ => none
  | .grp rows e, s => match rowGet rows s with
    | some t => some (.term t (.grp rows e))
    | none => e.look s
  | .bind x t te e, s => if x = s then some (.term t te) else e.look s
  | .hd x h e, s => if x = s then some (.head h) else e.look s
inductive Frm
  | arg (t : Dd) (e : Env)
  | seq (x : Str) (b : Dd) (e : Env)
  | ch (w : Str) (rows : List Dd) (d : Dd) (e : Env)
  | snd (s : Str) (t : Dd) (e : Env)
  | fst (s : Str) (i : Int)
inductive Ctl
  | ev (t : Dd) (e : Env)
  | hd (h : Head)
structure Mst where
  ctl : Ctl
  stk : List Frm
  evs : List Int
inductive Out
  | stuck
  | fault (s : Str)
  | go (m : Mst)
def intOf : Dd → Int
  | .int i => i
  | _ => 0
def rowD (q : Dd) : Str × Dd := (strOf (nth 0 q), nth 1 q)
def bindAll : List Str → List Dd → Env → Env → Env
  | x :: xs, t :: ts, te, e => bindAll xs ts te (.bind x t te e)
  | _, _, _, e => e
/-- a term that is a head at once -/
def enterW (z : Str) (r : List Dd) (e : Env) : Option Head :=
  if z = "num" then some (.num (intOf (arg 0 r))) else if z = "con" then some (.con (intOf (arg 0 r)) (tl (arg 1 r)) e) else if z = "lam" then some (.fn (strOf (arg 0 r)) (arg 1 r) e)
  else if z = "var" then (match e.look (strOf (arg 0 r)) with
    | some (.head h) => some h
    | _ => none) else none
def enterA (t : Dd) (e : Env) : Option Head :=
  match t with
  | .tup (.str z :: r) => enterW z r e
  | _ => none
def downW (gl : Str → Option Dd) (z : Str) (r : List Dd) (e : Env) (stk : List Frm) (evs : List Int) : Out :=
  if z = "var" then (match e.look (strOf (arg 0 r)) with
    | some (.term t e') => .go ⟨.ev t e', stk, evs⟩
    | _ => match gl (strOf (arg 0 r)) with
      | some t => .go ⟨.ev t .nil, stk, evs⟩
      | none => .stuck)
  else if z = "app" then .go ⟨.ev (arg 0 r) e, stk ++ [.arg (arg 1 r) e], evs⟩
  else if z = "let" then .go ⟨.ev (arg 1 r) (.grp ((tl (arg 0 r)).map rowD) e), stk, evs⟩
  else if z = "seq" then .go ⟨.ev (arg 1 r) e, stk ++ [.seq (strOf (arg 0 r)) (arg 2 r) e], evs⟩
  else if z = "prim" then .go ⟨.ev (arg 1 r) e, stk ++ [.snd (strOf (arg 0 r)) (arg 2 r) e], evs⟩
  else if z = "note" then .go ⟨.ev (arg 1 r) e, stk, evs ++ [intOf (arg 0 r)]⟩
  else .go ⟨.ev (arg 0 r) e, stk ++ [.ch z (tl (arg 1 r)) (arg 2 r) e], evs⟩
def holdsA (s : Str) (i j : Int) : Bool := if s = "==" then decide (i = j) else if s = "<" then decide (i < j) else decide (i ≤ j)
def workA (s : Str) (i j : Int) : Int := if s = "+" then i + j else if s = "-" then i - j else if s = "*" then i * j else if s = "div" then i.fdiv j else i.fmod j
def primA (s : Str) (i j : Int) (stk : List Frm) (evs : List Int) : Out :=
  if s = "==" ∨ s = "<" ∨ s = "<=" then .go ⟨.hd (.con (if holdsA s i j = true then 1 else 0) [] .nil), stk, evs⟩
  else if (s = "div" ∨ s = "mod") ∧ j = 0 then .fault "division by zero"
  else if -1000000000000000 ≤ workA s i j ∧ workA s i j ≤ 1000000000000000 then .go ⟨.hd (.num (workA s i j)), stk, evs⟩ else .fault "overflow"
def dfltA (d : Dd) (h : Head) (e : Env) (stk : List Frm) (evs : List Int) : Out :=
  match d with
  | .tup [.str x, b] => .go ⟨.ev b (.hd x h e), stk, evs⟩
  | _ => .fault "no match"
def caseHit (tag : Int) (n : Nat) (q : Dd) : Bool := decide (intOf (nth 0 q) = tag) && decide ((tl (nth 1 q)).length = n)
def pickHit (i : Int) (q : Dd) : Bool := decide (intOf (nth 0 q) = i)
def upA (f : Frm) (h : Head) (stk : List Frm) (evs : List Int) : Out :=
  match f with
  | .arg t e => (match h with
    | .fn x b e' => .go ⟨.ev b (.bind x t e e'), stk, evs⟩
    | _ => .stuck)
  | .seq x b e => .go ⟨.ev b (.hd x h e), stk, evs⟩
  | .ch z rows d e => if z = "case" then (match h with
      | .con tag args e' => (match rows.find? (caseHit tag args.length) with
        | some q => .go ⟨.ev (nth 2 q) (bindAll (strsOf (nth 1 q)) args e' e), stk, evs⟩
        | none => dfltA d h e stk evs)
      | _ => .stuck)
    else (match h with
      | .num i => (match rows.find? (pickHit i) with
        | some q => .go ⟨.ev (nth 1 q) e, stk, evs⟩
        | none => dfltA d h e stk evs)
      | _ => .stuck)
  | .snd s t e => (match h with
    | .num i => .go ⟨.ev t e, stk ++ [.fst s i], evs⟩
    | _ => .stuck)
  | .fst s i => (match h with
    | .num j => primA s i j stk evs
    | _ => .stuck)
/-- heads that are there at once are looked for -/
def norm (m : Mst) : Mst :=
  match m.ctl with
  | .ev t e => (match enterA t e with
    | some h => ⟨.hd h, m.stk, m.evs⟩
    | none => m)
  | .hd _ => m
/-- a step of a state that is looked at -/
def stepA (gl : Str → Option Dd) (m : Mst) : Out :=
  match m.ctl with
  | .ev t e => (match t with
    | .tup (.str z :: r) => downW gl z r e m.stk m.evs
    | _ => .stuck)
  | .hd h => (match m.stk.reverse with
    | [] => .stuck
    | f :: rs => upA f h rs.reverse m.evs)
inductive Fin
  | head (h : Head)
  | more
  | stuck
  | fault (s : Str)
/-- what comes of it: with so much fuel left, so many steps done -/
def runA (gl : Str → Option Dd) : Nat → Mst → Fin × Nat × List Int
  | 0, m => (match (norm m).ctl, (norm m).stk with
    | .hd h, [] => (.head h, 0, (norm m).evs)
    | _, _ => (.more, 0, (norm m).evs))
  | k + 1, m => (match (norm m).ctl, (norm m).stk with
    | .hd h, [] => (.head h, 0, (norm m).evs)
    | _, _ => (match stepA gl (norm m) with
      | .stuck => (.stuck, 1, (norm m).evs)
      | .fault s => (.fault s, 1, (norm m).evs)
      | .go m' => ((runA gl k m').1, (runA gl k m').2.1 + 1, (runA gl k m').2.2)))
/-! ### what is asked of states -/
mutual
def Env.ok : Env → Prop
  | .nil => True
  | .grp rows e => (∀ q ∈ rows, isTT q.2 = true ∧ q.2.sz ≤ 40000) ∧ (rows.map (·.1)).Nodup ∧ rows.length ≤ 40000 ∧ e.ok
  | .bind _ t te e => (isTT t = true ∧ t.sz ≤ 40000) ∧ te.ok ∧ e.ok
  | .hd _ h e => h.ok ∧ e.ok
def Head.ok : Head → Prop
  | .num i => -1000000000000000 ≤ i ∧ i ≤ 1000000000000000
  | .con _ args e => (∀ t ∈ args, isTT t = true ∧ t.sz ≤ 40000) ∧ args.length ≤ 40000 ∧ e.ok
  | .fn _ b e => (isTT b = true ∧ b.sz ≤ 40000) ∧ e.ok
end
def Frm.ok : Frm → Prop
  | .arg t e => (isTT t = true ∧ t.sz ≤ 40000) ∧ e.ok
  | .seq x b e => isName (.str x) = true ∧ (isTT b = true ∧ b.sz ≤ 40000) ∧ e.ok
  | .ch z rows d e => (z = "case" ∨ z = "pick") ∧ (∃ f, isTT (.tup [.str z, f, .tup rows, d]) = true ∧ (Dd.tup [.str z, f, .tup rows, d]).sz ≤ 40000) ∧ e.ok
  | .snd s t e => s ∈ signs ∧ (isTT t = true ∧ t.sz ≤ 40000) ∧ e.ok
  | .fst s i => s ∈ signs ∧ -1000000000000000 ≤ i ∧ i ≤ 1000000000000000
def Ctl.ok : Ctl → Prop
  | .ev t e => (isTT t = true ∧ t.sz ≤ 40000) ∧ e.ok
  | .hd h => h.ok
structure Mst.ok (m : Mst) : Prop where
  ctl : m.ctl.ok
  stk : ∀ f ∈ m.stk, f.ok
def Ent.ok : Ent → Prop
  | .term t e => (isTT t = true ∧ t.sz ≤ 40000) ∧ e.ok
  | .head h => h.ok
theorem rowGet_mem {rows : List (Str × Dd)} {s : Str} {t : Dd} (h : rowGet rows s = some t) : (s, t) ∈ rows := by
  unfold rowGet at h
  obtain ⟨q, hq, rfl⟩ := Option.map_eq_some_iff.mp h
  have h1 := List.mem_of_find?_eq_some hq
  have h2 : q.1 = s := of_decide_eq_true (List.find?_some (p := fun q : Str × Dd => decide (q.1 = s)) hq)
  rw [← h2]
  exact h1
theorem Env.ok.look : ∀ {e : Env}, e.ok → ∀ {s : Str} {t : Ent}, e.look s = some t → t.ok
  | .nil, _, s, t, h => by simp [Env.look] at h
  | .grp rows e, ok, s, t, h => by
    have ok' := ok
    obtain ⟨h1, h2, h3, h4⟩ := (show (∀ q ∈ rows, isTT q.2 = true ∧ q.2.sz ≤ 40000) ∧ (rows.map (·.1)).Nodup ∧ rows.length ≤ 40000 ∧ e.ok by rw [Env.ok] at ok; exact ok)
    rw [Env.look] at h
    cases hg : rowGet rows s with
    | some u =>
      rw [hg] at h
      cases Option.some.inj h
      exact ⟨h1 _ (rowGet_mem hg), ok'⟩
    | none =>
      rw [hg] at h
      exact Env.ok.look h4 h
  | .bind x u te e, ok, s, t, h => by
    obtain ⟨h1, h2, h3⟩ := (show (isTT u = true ∧ u.sz ≤ 40000) ∧ te.ok ∧ e.ok by rw [Env.ok] at ok; exact ok)
    rw [Env.look] at h
    by_cases c : x = s
    · rw [if_pos c] at h
      cases Option.some.inj h
      exact ⟨h1, h2⟩
    · rw [if_neg c] at h
      exact Env.ok.look h3 h
  | .hd x u e, ok, s, t, h => by
    obtain ⟨h1, h2⟩ := (show u.ok ∧ e.ok by rw [Env.ok] at ok; exact ok)
    rw [Env.look] at h
    by_cases c : x = s
    · rw [if_pos c] at h
      cases Option.some.inj h
      exact h1
    · rw [if_neg c] at h
      exact Env.ok.look h2 h
end Toy

set_option Elab.async false
set_option linter.all false
set_option maxRecDepth 100000
set_option maxHeartbeats 4000000
/-! Part MB: own rules: == of a tuple and a text, of a list and an empty one; // of any two numbers; a field as one of several targets. -/
namespace L2
open PySem PySem.Spec PyProof.Rows
section
variable {X : Cx}
/-- flat values, or a tuple and a text -/
def rEqA (K : PySem.W.Frag) : R2 := fun x y H Q => (scal x y = true ∧ Q (.bl (decide (x = y))) H) ∨ ∃ a xs b, x = .ref a ∧ SqT K H a xs ∧ y = .str b ∧ Q (.bl false) H
theorem op_eqA (hu : X.A.units < cLine) : OpR X (compareOp .Eq) (rEqA X.K) := by
  intro pins s σ H x y v u Q I rx ry h
  rcases h with h | ⟨a, xs, b, rfl, hx, rfl, q⟩
  · exact op_eq pins s σ H x y v u Q I rx ry h
  · cases (show v = Value.ref a from rx)
    obtain ⟨t, rfl⟩ := (show ∃ t, u = Value.str b t from ry)
    obtain ⟨its, r, ht, hz⟩ := I.tuple hx
    exact SeqAt.RcAt.tuple_str b t ht hu _ _ _ _ ⟨.bl false, H, I, rfl, q⟩
/-- a list and an empty one -/
def rEqLN (K : PySem.W.Frag) : R2 := fun x y H Q => ∃ a b xs, x = .ref a ∧ y = .ref b ∧ SqL K H a xs ∧ SqL K H b [] ∧ Q (.bl xs.isEmpty) H
theorem op_eqLN (hu : X.A.units < cLine) : OpR X (compareOp .Eq) (rEqLN X.K) := by
  intro pins s σ H x y v u Q I rx ry h
  obtain ⟨a, b, xs, rfl, rfl, ha, hb, q⟩ := h
  cases (show v = Value.ref a from rx)
  cases (show u = Value.ref b from ry)
  obtain ⟨us, r1, p1, _⟩ := I.list ha
  obtain ⟨ws, r2, p2, _⟩ := I.list hb
  cases r2
  cases xs with
  | nil =>
    cases r1
    exact SeqAt.eq_listAt (e := fun _ => true) p1.isList p2.isList rfl hu (fun j h1 _ => absurd h1 (by simp)) ⟨.bl true, H, I, rfl, q⟩
  | cons x xs =>
    cases r1 with
    | cons a1 b1 => exact SeqAt.eq_list_lengthsAt p1.isList p2.isList (by simp) hu ⟨.bl false, H, I, rfl, q⟩
def CDivX (_ j : Int) : Prop := j ≠ 0 ∧ j.natAbs.log2 < 9000
theorem op_fdivX : OpR X (binaryOp .FloorDiv) (rI CDivX fun i j => .int (i.fdiv j)) := opI fun _ _ _ _ _ _ _ hc q => floordiv_int hc.1 q (.inl (PyProof.noPylong_of_log2 hc.2))
/-- o.f = .., one of several targets -/
def gFld (K : PySem.W.Frag) (to : TE) (f : Str) : TG := fun v σ H Q => to σ H fun x H1 => ∃ a C dx fs, x = .ref a ∧ H1 a = some (.ins C dx fs) ∧ Cls K C ∧ NoAttr K C f ∧ fs.length < 1000 ∧ Q σ (upd H1 a (.ins C dx (putF f v fs)))
theorem pg_fld {o : Expr} {to : TE} {f : Str} {pos : Pos} (ho : PE X o to)
    (ha : ∀ v, assign (.Attribute o f pos) X.env v = (do
      let ov ← holding [v] (eval o X.env)
      standAt pos.atName
      holding [v, ov] (setAttr ov f v)
      release [v, ov] []) := by intro _; rfl) : PG X (.Attribute o f pos) (gFld X.K to f) := by
  refine ⟨fun pins s σ H v u Q I r h => ?_⟩
  rw [ha]
  refine wpAny_bind (wpAny_holding (thn (ho.run pins s σ H _ I h) fun ov s1 ⟨x, H1, I1, rx, a, C, dx, fs, ex, ea, c, n, l, q1⟩ => ?_))
  subst ex
  obtain rfl : ov = Value.ref a := rx
  refine wpAny_bind (wpAny_standAt (wpAny_bind (wpAny_holding (setattr_ok I1 ea c n l r fun s3 I3 => ?_))))
  exact wpAny_release ⟨σ, _, I3, q1⟩
end
end L2

set_option Elab.async false
set_option linter.all false
set_option maxRecDepth 100000
set_option maxHeartbeats 4000000
/-! Part MC: how environments and heads stand in the law's heap. -/
namespace Toy
open PySem L2
open PyProof.Rows (envOfC)
mutual
def Env.L (H : Hp) : Env → V → Prop
  | .nil, v => v = .non
  | .grp rows e, v => ∃ (a rs : Addr) (xs : List V) (ev : V), v = .ref a ∧ H a = some (.tup [.str "group", .ref rs, ev]) ∧ H rs = some (.tup xs) ∧ Dd.Ats F0 H (rows.map defD) xs ∧ e.L H ev
  | .bind x t te e, v => ∃ (a : Addr) (tv tev ev : V), v = .ref a ∧ H a = some (.tup [.str "bind", .str x, tv, tev, ev]) ∧ t.At F0 H tv ∧ te.L H tev ∧ e.L H ev
  | .hd x h e, v => ∃ (a : Addr) (hv ev : V), v = .ref a ∧ H a = some (.tup [.str "head", .str x, hv, ev]) ∧ h.L H hv ∧ e.L H ev
def Head.L (H : Hp) : Head → V → Prop
  | .num i, v => ∃ (a : Addr), v = .ref a ∧ H a = some (.tup [.str "num", .int i])
  | .con tag args e, v => ∃ (a p : Addr) (xs : List V) (ev : V), v = .ref a ∧ H a = some (.tup [.str "con", .int tag, .ref p, ev]) ∧ H p = some (.tup xs) ∧ Dd.Ats F0 H args xs ∧ e.L H ev
  | .fn x b e, v => ∃ (a : Addr) (bv ev : V), v = .ref a ∧ H a = some (.tup [.str "fun", .str x, bv, ev]) ∧ b.At F0 H bv ∧ e.L H ev
end
mutual
theorem Env.L.keep {H H' : Hp} (f : Fr F0 H H') : ∀ {e : Env} {v : V}, e.L H v → e.L H' v
  | .nil, v, h => by
    rw [Env.L] at h ⊢
    exact h
  | .grp rows e, v, h => by
    rw [Env.L] at h ⊢
    obtain ⟨a, rs, xs, ev, h1, h2, h3, h4, h5⟩ := h
    exact ⟨a, rs, xs, ev, h1, f.1 _ _ h2, f.1 _ _ h3, h4.keep f, Env.L.keep f h5⟩
  | .bind x t te e, v, h => by
    rw [Env.L] at h ⊢
    obtain ⟨a, tv, tev, ev, h1, h2, h3, h4, h5⟩ := h
    exact ⟨a, tv, tev, ev, h1, f.1 _ _ h2, h3.keep f, Env.L.keep f h4, Env.L.keep f h5⟩
  | .hd x hh e, v, h => by
    rw [Env.L] at h ⊢
    obtain ⟨a, hv, ev, h1, h2, h3, h4⟩ := h
    exact ⟨a, hv, ev, h1, f.1 _ _ h2, Head.L.keep f h3, Env.L.keep f h4⟩
theorem Head.L.keep {H H' : Hp} (f : Fr F0 H H') : ∀ {h : Head} {v : V}, h.L H v → h.L H' v
  | .num i, v, h => by
    rw [Head.L] at h ⊢
    obtain ⟨a, h1, h2⟩ := h
    exact ⟨a, h1, f.1 _ _ h2⟩
  | .con tag args e, v, h => by
    rw [Head.L] at h ⊢
    obtain ⟨a, p, xs, ev, h1, h2, h3, h4, h5⟩ := h
    exact ⟨a, p, xs, ev, h1, f.1 _ _ h2, f.1 _ _ h3, h4.keep f, Env.L.keep f h5⟩
  | .fn x b e, v, h => by
    rw [Head.L] at h ⊢
    obtain ⟨a, bv, ev, h1, h2, h3, h4⟩ := h
    exact ⟨a, bv, ev, h1, f.1 _ _ h2, h3.keep f, Env.L.keep f h4⟩
end
/-- the terms of definitions, in a dict -/
def GlAt (H : Hp) (d : Addr) (gl : Str → Option Dd) : Prop := ∃ kvs, H d = some (.dK kvs) ∧ ∀ s, match gl s with
  | some t => ∃ v, valV kvs (Sum.inr s) = some v ∧ t.At F0 H v
  | none => valV kvs (Sum.inr s) = none
theorem GlAt.got {H : Hp} {d : Addr} {gl : Str → Option Dd} (h : GlAt H d gl) {s : Str} {t : Dd} (e : gl s = some t) : ∃ kvs v, H d = some (.dK kvs) ∧ valV kvs (Sum.inr s) = some v ∧ t.At F0 H v := by
  obtain ⟨kvs, h1, h2⟩ := h
  have := h2 s
  rw [e] at this
  obtain ⟨v, h3, h4⟩ := this
  exact ⟨kvs, v, h1, h3, h4⟩
theorem GlAt.not {H : Hp} {d : Addr} {gl : Str → Option Dd} (h : GlAt H d gl) {s : Str} (e : gl s = none) : ∃ kvs, H d = some (.dK kvs) ∧ valV kvs (Sum.inr s) = none := by
  obtain ⟨kvs, h1, h2⟩ := h
  have := h2 s
  rw [e] at this
  exact ⟨kvs, h1, this⟩
theorem GlAt.keep {H H' : Hp} {d : Addr} {gl : Str → Option Dd} (h : GlAt H d gl) (f : Fr F0 H H') (k : ∀ kvs, H d = some (.dK kvs) → H' d = some (.dK kvs)) : GlAt H' d gl := by
  obtain ⟨kvs, h1, h2⟩ := h
  refine ⟨kvs, k _ h1, fun s => ?_⟩
  have := h2 s
  cases e : gl s with
  | none => rw [e] at this; exact this
  | some t =>
    rw [e] at this
    obtain ⟨v, h3, h4⟩ := this
    exact ⟨v, h3, h4.keep f⟩
/-- what looking a name up tells -/
def lookG (gl : Str → Option Dd) (e : Env) (s : Str) : Option Ent := match e.look s with
  | some t => some t
  | none => (gl s).map fun t => .term t .nil
def FoundL (H : Hp) : Option Ent → V → Prop
  | none, v => v = .non
  | some (.term t e), v => ∃ a tv ev, v = .ref a ∧ t.At F0 H tv ∧ e.L H ev ∧ (H a = some (.tup [.str "term", tv, ev]) ∨ ∃ x r, H a = some (.tup [.str "bind", .str x, tv, ev, r]))
  | some (.head h), v => ∃ a x hv r, v = .ref a ∧ H a = some (.tup [.str "head", .str x, hv, r]) ∧ h.L H hv
theorem ats_rows {B : Addr → Prop} {H : Hp} {l : List (Str × Dd)} {xs : List V} (h : Dd.Ats B H (l.map defD) xs) {i : Nat} {x : V} (hx : xs[i]? = some x) : ∃ (q : Str × Dd) (t : Addr) (y : V), l[i]? = some q ∧ x = .ref t ∧ H t = some (.tup [.str q.1, y]) ∧ q.2.At B H y := by
  obtain ⟨kk, hk, hkx⟩ := ats_get h hx
  rw [List.getElem?_map] at hk
  obtain ⟨q, hq, rfl⟩ := Option.map_eq_some_iff.mp hk
  obtain ⟨t, x1, y1, rfl, ht, hx1, hy1⟩ := pair_at (m := [.str q.1, q.2]) hkx rfl
  obtain ⟨rfl, _⟩ := (show x1 = .str q.1 ∧ q.1.length ≤ 1000 from hx1)
  exact ⟨q, t, y1, hq, rfl, ht, hy1⟩
def Env.dp : Env → Nat
  | .nil => 0
  | .grp _ e => e.dp + 1
  | .bind _ _ _ e => e.dp + 1
  | .hd _ _ e => e.dp + 1
theorem rowGet_cons (q : Str × Dd) (l : List (Str × Dd)) (s : Str) : rowGet (q :: l) s = if q.1 = s then some q.2 else rowGet l s := by
  unfold rowGet
  rw [List.find?_cons]
  by_cases c : q.1 = s
  · rw [decide_eq_true c, if_pos c]
    rfl
  · rw [decide_eq_false c, if_neg c]
theorem drop_at {α : Type} {l : List α} {i : Nat} {q : α} (h : l[i]? = some q) : l.drop i = q :: l.drop (i + 1) := by
  rw [List.drop_eq_getElem_cons (List.getElem?_eq_some_iff.mp h).1, (List.getElem?_eq_some_iff.mp h).2]
section
variable {P : Program} {w : World} {K : PySem.W.Frag} {mg : Str → Option Value} {base : Heap}
abbrev sLLook : Stmt := topS 51
theorem scLLook : FnScope ["name", "env", "terms", "other", "term"] ["name", "env", "terms"] (defScope sLLook) := ⟨rfl, rfl, rfl, by decide +kernel, rfl, by decide +kernel, by decide +kernel⟩
def spLook : Sp := fun vs H Q _ => ∃ (s : Str) (ev : V) (e : Env) (td : Addr) (gl : Str → Option Dd), vs = [.str s, ev, .ref td] ∧ e.L H ev ∧ GlAt H td gl ∧ ∀ (v' : V) (H' : Hp), Same H H' → FoundL H' (lookG gl e s) v' → Q v' H'
theorem c_look {f : Addr} {fd : FuncData} (F : Fun K "_law_look" "_law_look" sLLook f fd) (b : Binds K fd ["name", "env", "terms"] []) (hm : mg "_law_look" = some (.ref f)) : C8.Cal P w K mg base 1 "_law_look" spLook [] := by
  refine cal_of F hm b scLLook (fun vs H Q E h => ?_) (fun cdv A outer s H vs Q E hr h => ?_)
  · obtain ⟨s, ev, e, td, gl, rfl, _⟩ := h
    rfl
  obtain ⟨s, ev, e0, td, gl, rfl, he0, hG, q⟩ := h
  have hu := hu_of hr
  refine ⟨_, (pss_cons (ps_while PassesOwn.never (pt_cmpR op_notN (pv 1) pe_non (nomark _))
      (pss_cons (ps_if (pt_cmpR op_eq (pe_ix ix_tup (pv 1) pe_int (fun _ _ => rfl)) pe_str (nomark _))
      (pss_one (ps_for PassesOwn.never rfl (pi_tup (pe_ix ix_tup (pv 1) pe_int (fun _ _ => rfl))) (pg_tup rfl (pgs_cons (pg_name (i := 3) scLLook.nd rfl (Or.inl rfl)) (pgs_cons (pg_name (i := 4) scLLook.nd rfl (Or.inl rfl)) pgs_nil)))
      (pss_one (ps_if (pt_cmpR op_eq (pv 3) (pv 0) (nomark _))
      (pss_one (ps_ret (pe_tup (pa_cons pe_str (pa_cons (pv 4) (pa_cons (pv 1) pa_nil))))))
      pss_nil))))
      (pss_one (ps_if (pt_cmpR op_eq (pe_ix ix_tup (pv 1) pe_int (fun _ _ => rfl)) (pv 0) (nomark _))
      (pss_one (ps_ret (pv 1)))
      pss_nil)))
    (pss_one (ps_set (i := 1) scLLook.nd rfl (Or.inl rfl) (pe_ix ix_tup (pv 1) (pe_un un_neg pe_int) (fun _ _ => rfl))))))
    (pss_cons (ps_if (pt_cmp (pc_din hu (pv 0) (pv 2)))
      (pss_one (ps_ret (pe_tup (pa_cons pe_str (pa_cons (pe_dget hu (pv 2) (pv 0) (fun _ _ => rfl)) (pa_cons pe_non pa_nil))))))
      pss_nil)
    (pss_one (ps_ret pe_non)))), ?_⟩
  have lookEq : ∀ {e : Env} {r : Option Ent}, e.look s = r → lookG gl e s = match r with | some t => some t | none => (gl s).map fun t => .term t .nil := fun h => by unfold lookG; rw [h]
  refine ⟨fun n' σ G => ∃ (e : Env) (ev : V) (v3 v4 : Option V), n' = e.dp ∧ σ = [some (.str s), some ev, some (.ref td), v3, v4] ∧ G = H ∧ e.L H ev ∧ lookG gl e s = lookG gl e0 s, ⟨_, e0, ev, none, none, rfl, rfl, rfl, he0, rfl⟩, ?_⟩
  rintro n' σ G ⟨e, ev, v3, v4, rfl, rfl, rfl, he, hlk⟩
  have go : ∀ {e' : Env} {ev' : V} {v3 v4 : Option V}, e'.dp < e.dp → e'.L G ev' → lookG gl e' s = lookG gl e0 s → ∃ (e2 : Env) (ev2 : V) (v3' v4' : Option V), e2.dp < e.dp ∧ [some (.str s), some ev', some (.ref td), v3, v4] = [some (.str s), some ev2, some (.ref td), v3', v4'] ∧ G = G ∧ e2.L G ev2 ∧ lookG gl e2 s = lookG gl e0 s := fun {e' ev' v3 v4} h1 h2 h3 => ⟨e', ev', v3, v4, h1, rfl, rfl, h2, h3⟩
  refine ⟨_, rfl, rfl, _, rfl, ?_⟩
  cases e with
  | nil =>
    have he' : ev = .non := by rw [Env.L] at he; exact he
    subst he'
    refine iteF ?_
    have hl0 : lookG gl e0 s = (gl s).map fun t => .term t .nil := by rw [← hlk]; exact lookEq (r := none) (by rw [Env.look])
    cases hg : gl s with
    | none =>
      obtain ⟨kvs, hd, hv⟩ := hG.not hg
      refine ⟨_, rfl, _, rfl, td, _, rfl, DGet.k (k := Sum.inr s) hd, _, rfl, ?_⟩
      rw [hv]
      refine iteF ?_
      refine q _ G (fun _ _ e => e) ?_
      rw [hl0, hg]
      exact rfl
    | some t =>
      obtain ⟨kvs, v, hd, hv, ht⟩ := hG.got hg
      refine ⟨_, rfl, _, rfl, td, _, rfl, DGet.k (k := Sum.inr s) hd, _, rfl, ?_⟩
      rw [hv]
      refine iteT ?_
      refine ⟨_, rfl, _, rfl, td, _, rfl, (by have g := DGet.k (k := Sum.inr s) hd; rw [hv] at g; exact g), by show 3 ≤ sizeLine; decide, fun t8 ht8 => ?_⟩
      have s8 := same_new ht8 (.tup [.str "term", v, .non])
      refine q _ _ s8 ?_
      rw [hl0, hg]
      exact ⟨t8, v, .non, rfl, ht.keep (fr_same s8), by rw [Env.L], .inl upd_same⟩
  | grp rows e' =>
    rw [Env.L] at he
    obtain ⟨a, rs, xs, ev', rfl, ha, hrs, hxs, he'⟩ := id he
    refine iteT ?_
    refine ⟨fun σ' G' => ∃ (e2 : Env) (ev2 : V) (v3' v4' : Option V), e2.dp < (Env.grp rows e').dp ∧ σ' = [some (.str s), some ev2, some (.ref td), v3', v4'] ∧ G' = G ∧ e2.L G ev2 ∧ lookG gl e2 s = lookG gl e0 s, fun σ' G' ⟨e2, ev2, v3', v4', lt, rest⟩ => ⟨_, lt, e2, ev2, v3', v4', rfl, rest⟩, ?_⟩
    refine ⟨_, rfl, a, _, 0, _, rfl, rfl, SqT.of ha, at0 _ _, rfl, _, rfl, ?_⟩
    show if decide (V.str "group" = V.str "group") = true then _ else _
    rw [wtt]
    refine iteT ?_
    have hxl := ats_len hxs
    rw [List.length_map] at hxl
    refine ⟨_, rfl, a, _, 1, _, rfl, rfl, SqT.of ha, at1 _ _ _, rs, rfl, ⟨_, SqT.of hrs⟩, for_tup (a := rs) (xs := xs) (fun i σ G' => ∃ (v3 v4 : Option V), σ = [some (.str s), some (.ref a), some (.ref td), v3, v4] ∧ G' = G ∧ rowGet (rows.drop i) s = rowGet rows s)
      ⟨_, _, rfl, rfl, rfl⟩ (fun i σ G' _ ⟨_, _, _, h, _⟩ => by rw [h]; exact SqT.of hrs) ?_ ?_⟩
    · rintro i x σ G' hx ⟨v3, v4, rfl, rfl, hgt⟩
      obtain ⟨qq, t, y, hq, rfl, ht, hy⟩ := ats_rows hxs hx
      rw [drop_at hq, rowGet_cons] at hgt
      refine ⟨t, _, rfl, SqT.of ht, rfl, _, _, rfl, _, _, rfl, rfl, ?_⟩
      refine ⟨_, rfl, _, rfl, rfl, _, rfl, ?_⟩
      show if decide (V.str qq.1 = V.str s) = true then _ else _
      by_cases c : qq.1 = s
      · rw [if_pos c] at hgt
        rw [c, wtt]
        refine iteT ?_
        refine ⟨_, rfl, _, rfl, by show 3 ≤ sizeLine; decide, fun t8 ht8 => ?_⟩
        have s8 := same_new ht8 (.tup [.str "term", y, .ref a])
        refine q _ _ s8 ?_
        rw [← hlk, lookEq (r := some (.term qq.2 (.grp rows e'))) (by rw [Env.look, ← hgt])]
        exact ⟨t8, y, .ref a, rfl, hy.keep (fr_same s8), (show (Env.grp rows e').L G' (.ref a) by rw [Env.L]; exact he).keep (fr_same s8), .inl upd_same⟩
      · rw [if_neg c] at hgt
        rw [wne c]
        refine iteF ?_
        exact ⟨_, _, rfl, rfl, hgt⟩
    · rintro σ G' ⟨v3, v4, rfl, rfl, hgt⟩
      rw [hxl, List.drop_length] at hgt
      have hgn : rowGet rows s = none := hgt.symm
      refine ⟨_, rfl, _, rfl, a, _, -1, _, rfl, rfl, SqT.of ha, (show atI ([V.str "group", .ref rs] ++ [ev']) (-1) = some ev' from atL _ _), ?_⟩
      refine go (Nat.lt_succ_self _) he' ?_
      rw [← hlk]
      unfold lookG
      rw [show (Env.grp rows e').look s = e'.look s by rw [Env.look, hgn]]
  | bind x t te e' =>
    rw [Env.L] at he
    obtain ⟨a, tv, tev, ev', rfl, ha, htv, hte, he'⟩ := id he
    refine iteT ?_
    refine ⟨fun σ' G' => ∃ (e2 : Env) (ev2 : V) (v3' v4' : Option V), e2.dp < (Env.bind x t te e').dp ∧ σ' = [some (.str s), some ev2, some (.ref td), v3', v4'] ∧ G' = G ∧ e2.L G ev2 ∧ lookG gl e2 s = lookG gl e0 s, fun σ' G' ⟨e2, ev2, v3', v4', lt, rest⟩ => ⟨_, lt, e2, ev2, v3', v4', rfl, rest⟩, ?_⟩
    refine ⟨_, rfl, a, _, 0, _, rfl, rfl, SqT.of ha, at0 _ _, rfl, _, rfl, ?_⟩
    show if decide (V.str "bind" = V.str "group") = true then _ else _
    rw [wne (by decide +kernel)]
    refine iteF ?_
    refine ⟨_, rfl, a, _, 1, _, rfl, rfl, SqT.of ha, at1 _ _ _, _, rfl, rfl, _, rfl, ?_⟩
    show if decide (V.str x = V.str s) = true then _ else _
    by_cases c : x = s
    · rw [c, wtt]
      refine iteT ?_
      refine ⟨_, rfl, q _ G (fun _ _ e => e) ?_⟩
      rw [← hlk, lookEq (r := some (.term t te)) (by rw [Env.look, if_pos c])]
      exact ⟨a, tv, tev, rfl, htv, hte, .inr ⟨x, ev', ha⟩⟩
    · rw [wne c]
      refine iteF ?_
      refine ⟨_, rfl, _, rfl, a, _, -1, _, rfl, rfl, SqT.of ha, (show atI ([V.str "bind", .str x, tv, tev] ++ [ev']) (-1) = some ev' from atL _ _), ?_⟩
      refine go (Nat.lt_succ_self _) he' ?_
      rw [← hlk]
      unfold lookG
      rw [show (Env.bind x t te e').look s = e'.look s by rw [Env.look, if_neg c]]
  | hd x h e' =>
    rw [Env.L] at he
    obtain ⟨a, hv, ev', rfl, ha, hhv, he'⟩ := id he
    refine iteT ?_
    refine ⟨fun σ' G' => ∃ (e2 : Env) (ev2 : V) (v3' v4' : Option V), e2.dp < (Env.hd x h e').dp ∧ σ' = [some (.str s), some ev2, some (.ref td), v3', v4'] ∧ G' = G ∧ e2.L G ev2 ∧ lookG gl e2 s = lookG gl e0 s, fun σ' G' ⟨e2, ev2, v3', v4', lt, rest⟩ => ⟨_, lt, e2, ev2, v3', v4', rfl, rest⟩, ?_⟩
    refine ⟨_, rfl, a, _, 0, _, rfl, rfl, SqT.of ha, at0 _ _, rfl, _, rfl, ?_⟩
    show if decide (V.str "head" = V.str "group") = true then _ else _
    rw [wne (by decide +kernel)]
    refine iteF ?_
    refine ⟨_, rfl, a, _, 1, _, rfl, rfl, SqT.of ha, at1 _ _ _, _, rfl, rfl, _, rfl, ?_⟩
    show if decide (V.str x = V.str s) = true then _ else _
    by_cases c : x = s
    · rw [c, wtt]
      refine iteT ?_
      refine ⟨_, rfl, q _ G (fun _ _ e => e) ?_⟩
      rw [← hlk, lookEq (r := some (.head h)) (by rw [Env.look, if_pos c])]
      exact ⟨a, x, hv, ev', rfl, ha, hhv⟩
    · rw [wne c]
      refine iteF ?_
      refine ⟨_, rfl, _, rfl, a, _, -1, _, rfl, rfl, SqT.of ha, (show atI ([V.str "head", .str x, hv] ++ [ev']) (-1) = some ev' from atL _ _), ?_⟩
      refine go (Nat.lt_succ_self _) he' ?_
      rw [← hlk]
      unfold lookG
      rw [show (Env.hd x h e').look s = e'.look s by rw [Env.look, if_neg c]]
end
end Toy

set_option Elab.async false
set_option linter.all false
set_option maxRecDepth 100000
set_option maxHeartbeats 4000000
/-! Part MD: what shapes terms have; the machine's functions, word by word. -/
namespace Toy
open PySem L2
open PyProof.Rows (envOfC)
theorem ddK_le : ∀ (ks acc : List Key), (ddK acc ks).length ≤ acc.length + ks.length
  | [], acc => Nat.le_refl _
  | k :: ks, acc => by
    rw [ddK]
    split
    · have := ddK_le ks acc
      rw [List.length_cons]; omega
    · have := ddK_le ks (acc ++ [k])
      rw [List.length_append] at this
      rw [List.length_cons]
      have e : ([k] : List Key).length = 1 := rfl
      omega
theorem nodup_ddK : ∀ (ks acc : List Key), (ddK acc ks).length = acc.length + ks.length → ks.Nodup ∧ ∀ k ∈ ks, k ∉ acc
  | [], acc, _ => ⟨List.nodup_nil, fun k h => absurd h List.not_mem_nil⟩
  | k :: ks, acc, h => by
    rw [ddK] at h
    by_cases c : (acc.any fun j => decide (j = k)) = true
    · rw [if_pos c] at h
      have := ddK_le ks acc
      have e : (k :: ks).length = ks.length + 1 := rfl
      omega
    · rw [if_neg c] at h
      obtain ⟨h1, h2⟩ := nodup_ddK ks (acc ++ [k]) (by rw [h, List.length_append, List.length_cons]; show _ = acc.length + 1 + _; omega)
      refine ⟨List.nodup_cons.mpr ⟨fun hk => h2 k hk (List.mem_append_right _ (List.mem_singleton.mpr rfl)), h1⟩, fun j hj => ?_⟩
      rcases List.mem_cons.mp hj with e | e
      · intro hm
        exact c (List.any_eq_true.mpr ⟨j, hm, decide_eq_true e⟩)
      · exact fun hm => h2 j e (List.mem_append_left _ hm)
theorem nodup_of {ks : List Key} (h : distK ks = true) : ks.Nodup := (nodup_ddK ks [] (by rw [of_decide_eq_true h]; show _ = 0 + _; omega)).1
theorem nodup_map {α β : Type} {f : α → β} {l : List α} (h : (l.map f).Nodup) : l.Nodup := (List.pairwise_map.mp h).imp fun hab e => hab (by rw [e])
theorem names_of_are {d : Dd} (h : areNames d = true) : ∃ ns, d = nameT ns ∧ ns.Nodup ∧ ∀ s ∈ ns, isName (.str s) = true := by
  have e := names_back h
  refine ⟨strsOf d, e, ?_, fun s hs => ?_⟩
  · have h0 := h
    rw [e] at h0
    have h1 := nodup_of (fand h0).2
    rw [List.map_map] at h1
    exact (nodup_map h1)
  · have h0 := h
    rw [e] at h0
    exact List.all_eq_true.mp (fand h0).1 _ (List.mem_map.mpr ⟨s, hs, rfl⟩)
theorem int_of {lo hi : Int} {d : Dd} (h : numIn lo hi d = true) : ∃ i, d = .int i ∧ lo ≤ i ∧ i ≤ hi := by
  match d, h with
  | .int i, h =>
    obtain ⟨h1, h2⟩ := fand h
    exact ⟨i, rfl, of_decide_eq_true h1, of_decide_eq_true h2⟩
theorem name_of {d : Dd} (h : isName d = true) : ∃ s, d = .str s ∧ isName (.str s) = true := by
  match d, h with
  | .str s, h => exact ⟨s, rfl, h⟩
theorem sign_of {d : Dd} (h : isSign d = true) : ∃ s, d = .str s ∧ s ∈ signs := by
  match d, h with
  | .str s, h => exact ⟨s, rfl, of_decide_eq_true h⟩
def DfShape (d : Dd) : Prop := d = .non ∨ ∃ x b, d = .tup [.str x, b] ∧ isName (.str x) = true
theorem df_shape {d : Dd} (h : isDflt d = true) : DfShape d := by
  match d, h with
  | .non, _ => exact .inl rfl
  | .tup l, h =>
    obtain ⟨h1, h2⟩ := fand h
    obtain ⟨a, b, rfl⟩ := len2 (of_decide_eq_true h1)
    obtain ⟨x, e, hx⟩ := name_of h2
    have e : a = .str x := e
    subst e
    exact .inr ⟨x, b, rfl, hx⟩
def CaseRow (q : Dd) : Prop := ∃ (i : Int) (ns : List Str) (b : Dd), q = .tup [.int i, nameT ns, b] ∧ ns.Nodup ∧ ∀ s ∈ ns, isName (.str s) = true
def PickRow (q : Dd) : Prop := ∃ (i : Int) (b : Dd), q = .tup [.int i, b]
/-- what stands behind a word -/
inductive Vw : Str → List Dd → Prop
  | num {i : Int} : -1000000000000000 ≤ i → i ≤ 1000000000000000 → Vw "num" [.int i]
  | var {s : Str} : isName (.str s) = true → Vw "var" [.str s]
  | app {a b : Dd} : Vw "app" [a, b]
  | lam {s : Str} {b : Dd} : isName (.str s) = true → Vw "lam" [.str s, b]
  | lt {rows : List (Str × Dd)} {b : Dd} : (rows.map (·.1)).Nodup → (∀ q ∈ rows, isName (.str q.1) = true) → Vw "let" [.tup (rows.map defD), b]
  | seq {s : Str} {a b : Dd} : isName (.str s) = true → Vw "seq" [.str s, a, b]
  | con {i : Int} {l : List Dd} : Vw "con" [.int i, .tup l]
  | case {f d : Dd} {rows : List Dd} : (∀ q ∈ rows, CaseRow q) → DfShape d → Vw "case" [f, .tup rows, d]
  | pick {f d : Dd} {rows : List Dd} : (∀ q ∈ rows, PickRow q) → DfShape d → Vw "pick" [f, .tup rows, d]
  | prim {s : Str} {a b : Dd} : s ∈ signs → Vw "prim" [.str s, a, b]
  | note {n : Int} {b : Dd} : Vw "note" [.int n, b]
theorem vw_of {z : Str} {r : List Dd} (h : formW z r = true) : Vw z r := by
  have hz := form_wordN h
  simp only [words, List.mem_cons, List.not_mem_nil, or_false] at hz
  rcases hz with rfl | rfl | rfl | rfl | rfl | rfl | rfl | rfl | rfl | rfl | rfl
  · rw [fw_num] at h
    obtain ⟨h1, h2⟩ := fand h
    obtain ⟨a, rfl⟩ := List.length_eq_one_iff.mp (of_decide_eq_true h1)
    obtain ⟨i, e, h3, h4⟩ := int_of (lo := -1000000000000000) (hi := 1000000000000000) h2
    have e : a = .int i := e
    subst e
    exact .num h3 h4
  · rw [fw_var] at h
    obtain ⟨h1, h2⟩ := fand h
    obtain ⟨a, rfl⟩ := List.length_eq_one_iff.mp (of_decide_eq_true h1)
    obtain ⟨s, e, h3⟩ := name_of h2
    have e : a = .str s := e
    subst e
    exact .var h3
  · rw [fw_app] at h
    obtain ⟨a, b, rfl⟩ := len2 (of_decide_eq_true (show decide (r.length = 2) = true from h))
    exact .app
  · rw [fw_lam] at h
    obtain ⟨h1, h2⟩ := fand h
    obtain ⟨a, b, rfl⟩ := len2 (of_decide_eq_true h1)
    obtain ⟨s, e, h3⟩ := name_of h2
    have e : a = .str s := e
    subst e
    exact .lam h3
  · rw [fw_let] at h
    obtain ⟨h12, h34⟩ := fand h
    obtain ⟨h1, h2⟩ := fand h12
    obtain ⟨h3, h4⟩ := fand h34
    obtain ⟨a, b, rfl⟩ := len2 (of_decide_eq_true h1)
    obtain ⟨rows, e, hr⟩ := rows_are (k := a) h2
    subst e
    have h4 : areNames (.tup (rows.map (nth 0))) = true := h4
    obtain ⟨h5, h6⟩ := fand (show ((rows.map (nth 0)).all isName && distK ((rows.map (nth 0)).map keyD)) = true from h4)
    have h5 := List.all_eq_true.mp h5
    have hq : ∀ q ∈ rows, ∃ s t, q = .tup [.str s, t] ∧ isName (.str s) = true := fun q hq => by
      obtain ⟨m, rfl, hm⟩ := hr q hq
      obtain ⟨x, y, rfl⟩ := len2 hm
      obtain ⟨s, e, hs⟩ := name_of (h5 _ (List.mem_map.mpr ⟨_, hq, rfl⟩))
      have e : x = .str s := e
      subst e
      exact ⟨s, y, rfl, hs⟩
    have er : rows = (rows.map rowD).map defD := by
      rw [List.map_map]
      have : rows.map (defD ∘ rowD) = rows.map id := List.map_congr_left fun q hq' => by
        obtain ⟨s, t, rfl, _⟩ := hq q hq'
        rfl
      rw [this, List.map_id]
    rw [er]
    refine .lt ?_ fun q hq' => ?_
    · have h7 := nodup_of h6
      rw [List.map_map] at h7 ⊢
      have e : rows.map (keyD ∘ nth 0) = (rows.map ((fun q : Str × Dd => q.1) ∘ rowD)).map Sum.inr := by
        rw [List.map_map]
        refine List.map_congr_left fun q hq' => ?_
        obtain ⟨s, t, rfl, _⟩ := hq q hq'
        rfl
      rw [e] at h7
      exact nodup_map h7
    · obtain ⟨q0, hq0, rfl⟩ := List.mem_map.mp hq'
      obtain ⟨s, t, rfl, hs⟩ := hq q0 hq0
      exact hs
  · rw [fw_seq] at h
    obtain ⟨h1, h2⟩ := fand h
    obtain ⟨a, b, c, rfl⟩ := len3 (of_decide_eq_true h1)
    obtain ⟨s, e, h3⟩ := name_of h2
    have e : a = .str s := e
    subst e
    exact .seq h3
  · rw [fw_con] at h
    obtain ⟨h1, h23⟩ := fand h
    obtain ⟨h2, h3⟩ := fand h23
    obtain ⟨a, b, rfl⟩ := len2 (of_decide_eq_true h1)
    obtain ⟨i, e, _⟩ := int_of h2
    have e : a = .int i := e
    subst e
    have h3 : isTup b = true := h3
    match b, h3 with
    | .tup l, _ => exact .con
  · rw [fw_case] at h
    obtain ⟨h123, h4⟩ := fand h
    obtain ⟨h12, h3⟩ := fand h123
    obtain ⟨h1, h2⟩ := fand h12
    obtain ⟨f, a, d, rfl⟩ := len3 (of_decide_eq_true h1)
    obtain ⟨rows, e, hr⟩ := rows_are (k := a) h2
    subst e
    have h4 := List.all_eq_true.mp (show (rows.all fun q => numIn 0 1000 (nth 0 q) && areNames (nth 1 q)) = true from h4)
    refine .case (fun q hq => ?_) (df_shape h3)
    obtain ⟨m, rfl, hm⟩ := hr q hq
    obtain ⟨x, y, u, rfl⟩ := len3 hm
    obtain ⟨h5, h6⟩ := fand (h4 _ hq)
    obtain ⟨i, e, _⟩ := int_of h5
    have e : x = .int i := e
    subst e
    obtain ⟨ns, e, hn1, hn2⟩ := names_of_are h6
    have e : y = nameT ns := e
    subst e
    exact ⟨i, ns, u, rfl, hn1, hn2⟩
  · rw [fw_pick] at h
    obtain ⟨h123, h4⟩ := fand h
    obtain ⟨h12, h3⟩ := fand h123
    obtain ⟨h1, h2⟩ := fand h12
    obtain ⟨f, a, d, rfl⟩ := len3 (of_decide_eq_true h1)
    obtain ⟨rows, e, hr⟩ := rows_are (k := a) h2
    subst e
    have h4 := List.all_eq_true.mp (show ((rows.map (nth 0)).all cNum) = true from (fand h4).1)
    refine .pick (fun q hq => ?_) (df_shape h3)
    obtain ⟨m, rfl, hm⟩ := hr q hq
    obtain ⟨x, y, rfl⟩ := len2 hm
    obtain ⟨i, e, _⟩ := int_of (lo := -1000000000000000) (hi := 1000000000000000) (h4 _ (List.mem_map.mpr ⟨_, hq, rfl⟩))
    have e : x = .int i := e
    subst e
    exact ⟨i, y, rfl⟩
  · rw [fw_prim] at h
    obtain ⟨h1, h2⟩ := fand h
    obtain ⟨a, b, c, rfl⟩ := len3 (of_decide_eq_true h1)
    obtain ⟨s, e, h3⟩ := sign_of h2
    have e : a = .str s := e
    subst e
    exact .prim h3
  · rw [fw_note] at h
    obtain ⟨h1, h2⟩ := fand h
    obtain ⟨a, b, rfl⟩ := len2 (of_decide_eq_true h1)
    obtain ⟨i, e, _⟩ := int_of h2
    have e : a = .int i := e
    subst e
    exact .note
/-! ### word by word -/
section
variable {gl : Str → Option Dd} {r : List Dd} {e : Env} {stk : List Frm} {evs : List Int}
theorem en_num : enterW "num" r e = some (.num (intOf (arg 0 r))) := by unfold enterW; rw [if_pos rfl]
theorem en_con : enterW "con" r e = some (.con (intOf (arg 0 r)) (tl (arg 1 r)) e) := by unfold enterW; rw [if_neg (by decide +kernel), if_pos rfl]
theorem en_lam : enterW "lam" r e = some (.fn (strOf (arg 0 r)) (arg 1 r) e) := by unfold enterW; rw [if_neg (by decide +kernel), if_neg (by decide +kernel), if_pos rfl]
theorem en_var : enterW "var" r e = (match e.look (strOf (arg 0 r)) with | some (.head h) => some h | _ => none) := by unfold enterW; rw [if_neg (by decide +kernel), if_neg (by decide +kernel), if_neg (by decide +kernel), if_pos rfl] <;> rfl
theorem en_other {z : Str} (h1 : z ≠ "num") (h2 : z ≠ "con") (h3 : z ≠ "lam") (h4 : z ≠ "var") : enterW z r e = none := by unfold enterW; rw [if_neg h1, if_neg h2, if_neg h3, if_neg h4]
theorem dn_var : downW gl "var" r e stk evs = (match e.look (strOf (arg 0 r)) with | some (.term t e') => .go ⟨.ev t e', stk, evs⟩ | _ => match gl (strOf (arg 0 r)) with | some t => .go ⟨.ev t .nil, stk, evs⟩ | none => .stuck) := by unfold downW; rw [if_pos rfl] <;> rfl
theorem dn_app : downW gl "app" r e stk evs = .go ⟨.ev (arg 0 r) e, stk ++ [.arg (arg 1 r) e], evs⟩ := by unfold downW; rw [if_neg (by decide +kernel), if_pos rfl]
theorem dn_let : downW gl "let" r e stk evs = .go ⟨.ev (arg 1 r) (.grp ((tl (arg 0 r)).map rowD) e), stk, evs⟩ := by unfold downW; rw [if_neg (by decide +kernel), if_neg (by decide +kernel), if_pos rfl]
theorem dn_seq : downW gl "seq" r e stk evs = .go ⟨.ev (arg 1 r) e, stk ++ [.seq (strOf (arg 0 r)) (arg 2 r) e], evs⟩ := by unfold downW; rw [if_neg (by decide +kernel), if_neg (by decide +kernel), if_neg (by decide +kernel), if_pos rfl]
theorem dn_prim : downW gl "prim" r e stk evs = .go ⟨.ev (arg 1 r) e, stk ++ [.snd (strOf (arg 0 r)) (arg 2 r) e], evs⟩ := by unfold downW; rw [if_neg (by decide +kernel), if_neg (by decide +kernel), if_neg (by decide +kernel), if_neg (by decide +kernel), if_pos rfl]
theorem dn_note : downW gl "note" r e stk evs = .go ⟨.ev (arg 1 r) e, stk, evs ++ [intOf (arg 0 r)]⟩ := by unfold downW; rw [if_neg (by decide +kernel), if_neg (by decide +kernel), if_neg (by decide +kernel), if_neg (by decide +kernel), if_neg (by decide +kernel), if_pos rfl]
theorem dn_ch {z : Str} (h : z = "case" ∨ z = "pick") : downW gl z r e stk evs = .go ⟨.ev (arg 0 r) e, stk ++ [.ch z (tl (arg 1 r)) (arg 2 r) e], evs⟩ := by
  unfold downW
  rcases h with rfl | rfl <;> rw [if_neg (by decide +kernel), if_neg (by decide +kernel), if_neg (by decide +kernel), if_neg (by decide +kernel), if_neg (by decide +kernel), if_neg (by decide +kernel)]
end
theorem rows_back (rows : List (Str × Dd)) : (rows.map defD).map rowD = rows := by
  rw [List.map_map]
  exact List.map_id _
theorem at4 (x y z u t : V) (l : List V) : atI (x :: y :: z :: u :: t :: l) 4 = some t := atI_nat (j := 4) rfl
end Toy

set_option Elab.async false
set_option linter.all false
set_option maxRecDepth 100000
set_option maxHeartbeats 4000000
/-! Part ME: the law's machine: prims, heads at once, a step down. -/
namespace Toy
open PySem L2
open PyProof.Rows (envOfC)
def Frm.L (H : Hp) : Frm → V → Prop
  | .arg t e, v => ∃ (a : Addr) (tv ev : V), v = .ref a ∧ H a = some (.tup [.str "app", tv, ev]) ∧ t.At F0 H tv ∧ e.L H ev
  | .seq x b e, v => ∃ (a : Addr) (bv ev : V), v = .ref a ∧ H a = some (.tup [.str "seq", .str x, bv, ev]) ∧ b.At F0 H bv ∧ e.L H ev
  | .ch z rows d e, v => ∃ (a p : Addr) (xs : List V) (dv ev : V), v = .ref a ∧ H a = some (.tup [.str z, .ref p, dv, ev]) ∧ H p = some (.tup xs) ∧ Dd.Ats F0 H rows xs ∧ d.At F0 H dv ∧ e.L H ev
  | .snd s t e, v => ∃ (a : Addr) (tv ev : V), v = .ref a ∧ H a = some (.tup [.str "prim", .str s, tv, ev]) ∧ t.At F0 H tv ∧ e.L H ev
  | .fst s i, v => ∃ (a : Addr), v = .ref a ∧ H a = some (.tup [.str "right", .str s, .int i])
theorem Frm.L.keep {H H' : Hp} (f : Fr F0 H H') : ∀ {g : Frm} {v : V}, g.L H v → g.L H' v
  | .arg t e, v, ⟨a, tv, ev, h1, h2, h3, h4⟩ => ⟨a, tv, ev, h1, f.1 _ _ h2, h3.keep f, h4.keep f⟩
  | .seq x b e, v, ⟨a, bv, ev, h1, h2, h3, h4⟩ => ⟨a, bv, ev, h1, f.1 _ _ h2, h3.keep f, h4.keep f⟩
  | .ch z rows d e, v, ⟨a, p, xs, dv, ev, h1, h2, h3, h4, h5, h6⟩ => ⟨a, p, xs, dv, ev, h1, f.1 _ _ h2, f.1 _ _ h3, h4.keep f, h5.keep f, h6.keep f⟩
  | .snd s t e, v, ⟨a, tv, ev, h1, h2, h3, h4⟩ => ⟨a, tv, ev, h1, f.1 _ _ h2, h3.keep f, h4.keep f⟩
  | .fst s i, v, ⟨a, h1, h2⟩ => ⟨a, h1, f.1 _ _ h2⟩
def FrmsL (H : Hp) : List Frm → List V → Prop
  | [], xs => xs = []
  | g :: gs, xs => ∃ x ys, xs = x :: ys ∧ g.L H x ∧ FrmsL H gs ys
theorem FrmsL.keep {H H' : Hp} (f : Fr F0 H H') : ∀ {gs : List Frm} {xs : List V}, FrmsL H gs xs → FrmsL H' gs xs
  | [], _, h => h
  | g :: gs, _, ⟨x, ys, e, h1, h2⟩ => ⟨x, ys, e, h1.keep f, FrmsL.keep f h2⟩
theorem FrmsL.snoc {H : Hp} {g : Frm} {x : V} (hg : g.L H x) : ∀ {gs : List Frm} {xs : List V}, FrmsL H gs xs → FrmsL H (gs ++ [g]) (xs ++ [x])
  | [], _, h => by cases h; exact ⟨x, [], rfl, hg, rfl⟩
  | g' :: gs, _, ⟨y, ys, e, h1, h2⟩ => by
    subst e
    exact ⟨y, _, rfl, h1, FrmsL.snoc hg h2⟩
theorem FrmsL.last {H : Hp} {g : Frm} : ∀ {gs : List Frm} {xs : List V}, FrmsL H (gs ++ [g]) xs → ∃ ys y, xs = ys ++ [y] ∧ FrmsL H gs ys ∧ g.L H y
  | [], _, ⟨x, ys, e, h1, h2⟩ => by
    cases (show ys = [] from h2)
    exact ⟨[], x, e, rfl, h1⟩
  | g' :: gs, _, ⟨x, ys, e, h1, h2⟩ => by
    obtain ⟨zs, y, e2, h3, h4⟩ := FrmsL.last (gs := gs) h2
    exact ⟨x :: zs, y, by rw [e, e2]; rfl, ⟨x, zs, rfl, h1, h3⟩, h4⟩
theorem FrmsL.len {H : Hp} : ∀ {gs : List Frm} {xs : List V}, FrmsL H gs xs → xs.length = gs.length
  | [], _, h => by cases h; rfl
  | g :: gs, _, ⟨x, ys, e, h1, h2⟩ => by rw [e, List.length_cons, List.length_cons, FrmsL.len h2]
def evD (n : Int) : Dd := .tup [.str "note", .int n]
def runKv (td ea : Addr) (fuel steps : Int) : List (Key × V) := [(Sum.inr "terms", .ref td), (Sum.inr "fuel", .int fuel), (Sum.inr "steps", .int steps), (Sum.inr "events", .ref ea)]
theorem rk_tf : ¬ (Sum.inr ("terms" : Str) : Key) = Sum.inr ("fuel" : Str) := by decide +kernel
theorem rk_ts : ¬ (Sum.inr ("terms" : Str) : Key) = Sum.inr ("steps" : Str) := by decide +kernel
theorem rk_te : ¬ (Sum.inr ("terms" : Str) : Key) = Sum.inr ("events" : Str) := by decide +kernel
theorem rk_fs : ¬ (Sum.inr ("fuel" : Str) : Key) = Sum.inr ("steps" : Str) := by decide +kernel
theorem rk_fe : ¬ (Sum.inr ("fuel" : Str) : Key) = Sum.inr ("events" : Str) := by decide +kernel
theorem rk_se : ¬ (Sum.inr ("steps" : Str) : Key) = Sum.inr ("events" : Str) := by decide +kernel
section
variable {H : Hp} {rn td ea : Addr} {fuel steps : Int}
theorem rk_terms (h : H rn = some (.dK (runKv td ea fuel steps))) : DGet H rn (.str "terms") (some (.ref td)) := by
  have g := DGet.k (k := Sum.inr "terms") h
  rw [show valV (runKv td ea fuel steps) (Sum.inr "terms") = some (V.ref td) from valV_pos rfl] at g
  exact g
theorem rk_fuel (h : H rn = some (.dK (runKv td ea fuel steps))) : DGet H rn (.str "fuel") (some (.int fuel)) := by
  have g := DGet.k (k := Sum.inr "fuel") h
  rw [show valV (runKv td ea fuel steps) (Sum.inr "fuel") = some (V.int fuel) from (valV_neg rk_tf).trans (valV_pos rfl)] at g
  exact g
theorem rk_steps (h : H rn = some (.dK (runKv td ea fuel steps))) : DGet H rn (.str "steps") (some (.int steps)) := by
  have g := DGet.k (k := Sum.inr "steps") h
  rw [show valV (runKv td ea fuel steps) (Sum.inr "steps") = some (V.int steps) from (valV_neg rk_ts).trans ((valV_neg rk_fs).trans (valV_pos rfl))] at g
  exact g
theorem rk_events (h : H rn = some (.dK (runKv td ea fuel steps))) : DGet H rn (.str "events") (some (.ref ea)) := by
  have g := DGet.k (k := Sum.inr "events") h
  rw [show valV (runKv td ea fuel steps) (Sum.inr "events") = some (V.ref ea) from (valV_neg rk_te).trans ((valV_neg rk_fe).trans ((valV_neg rk_se).trans (valV_pos rfl)))] at g
  exact g
end
/-- a state of the law's machine -/
structure LSt (H : Hp) (sa rn td ea : Addr) (gl : Str → Option Dd) (fuel steps : Int) (stk : List Frm) (evs : List Int) : Prop where
  ne : sa ≠ ea
  s : ∃ xs, H sa = some (.lst xs) ∧ FrmsL H stk xs
  r : H rn = some (.dK (runKv td ea fuel steps))
  v : ∃ ys, H ea = some (.lst ys) ∧ Dd.Ats F0 H (evs.map evD) ys
  g : GlAt H td gl
theorem LSt.same {H H' : Hp} {sa rn td ea : Addr} {gl : Str → Option Dd} {fuel steps : Int} {stk : List Frm} {evs : List Int} (h : LSt H sa rn td ea gl fuel steps stk evs) (s : Same H H') : LSt H' sa rn td ea gl fuel steps stk evs := by
  obtain ⟨xs, h1, h2⟩ := h.s
  obtain ⟨ys, h3, h4⟩ := h.v
  exact ⟨h.ne, ⟨xs, s _ _ h1, h2.keep (fr_same s)⟩, s _ _ h.r, ⟨ys, s _ _ h3, h4.keep (fr_same s)⟩, h.g.keep (fr_same s) fun kvs e => s _ _ e⟩
/-- kept but for two lists -/
def KeepB (sa ea : Addr) (H H' : Hp) : Prop := ∀ b u, b ≠ sa → b ≠ ea → H b = some u → H' b = some u
theorem KeepB.same {sa ea : Addr} {H H' : Hp} (s : Same H H') : KeepB sa ea H H' := fun b u _ _ e => s b u e
theorem KeepB.trans {sa ea : Addr} {H1 H2 H3 : Hp} (h : KeepB sa ea H1 H2) (k : KeepB sa ea H2 H3) : KeepB sa ea H1 H3 := fun b u n1 n2 e => k b u n1 n2 (h b u n1 n2 e)
/-- a frame is put on the stack -/
theorem LSt.push {H : Hp} {sa rn td ea : Addr} {gl : Str → Option Dd} {fuel steps : Int} {stk : List Frm} {evs : List Int} (h : LSt H sa rn td ea gl fuel steps stk evs) {xs : List V} (hx : H sa = some (.lst xs)) {g : Frm} {x : V} (hg : g.L H x) :
    LSt (upd H sa (.lst (xs ++ [x]))) sa rn td ea gl fuel steps (stk ++ [g]) evs ∧ KeepB sa ea H (upd H sa (.lst (xs ++ [x]))) ∧ Fr F0 H (upd H sa (.lst (xs ++ [x]))) := by
  obtain ⟨xs', h1, h2⟩ := h.s
  obtain ⟨ys, h3, h4⟩ := h.v
  rw [hx] at h1
  cases h1
  have f : Fr F0 H (upd H sa (.lst (xs ++ [x]))) := fr_list hx fun z => z
  have nr : rn ≠ sa := fun z => by have := h.r; rw [z, hx] at this; cases this
  refine ⟨⟨h.ne, ⟨_, upd_same, FrmsL.snoc (hg.keep f) (h2.keep f)⟩, by rw [upd_ne nr]; exact h.r, ⟨ys, by rw [upd_ne h.ne.symm]; exact h3, h4.keep f⟩, h.g.keep f fun kvs e => ?_⟩, fun b u n1 n2 e => by rw [upd_ne n1]; exact e, f⟩
  rw [upd_ne (fun z => by rw [z, hx] at e; cases e)]
  exact e
theorem LSt.pop {H : Hp} {sa rn td ea : Addr} {gl : Str → Option Dd} {fuel steps : Int} {stk : List Frm} {g : Frm} {evs : List Int} (h : LSt H sa rn td ea gl fuel steps (stk ++ [g]) evs) :
    ∃ ys y, H sa = some (.lst (ys ++ [y])) ∧ LSt (upd H sa (.lst ys)) sa rn td ea gl fuel steps stk evs ∧ g.L (upd H sa (.lst ys)) y ∧ KeepB sa ea H (upd H sa (.lst ys)) ∧ Fr F0 H (upd H sa (.lst ys)) := by
  obtain ⟨xs', h1, h2⟩ := h.s
  obtain ⟨zs, h3, h4⟩ := h.v
  obtain ⟨ys, y, rfl, h5, h6⟩ := h2.last
  have f : Fr F0 H (upd H sa (.lst ys)) := fr_list h1 fun z => z
  have nr : rn ≠ sa := fun z => by have := h.r; rw [z, h1] at this; cases this
  refine ⟨ys, y, h1, ⟨h.ne, ⟨_, upd_same, h5.keep f⟩, by rw [upd_ne nr]; exact h.r, ⟨zs, by rw [upd_ne h.ne.symm]; exact h3, h4.keep f⟩, h.g.keep f fun kvs e => ?_⟩, h6.keep f, fun b u n1 n2 e => by rw [upd_ne n1]; exact e, f⟩
  rw [upd_ne (fun z => by rw [z, h1] at e; cases e)]
  exact e
theorem LSt.note {H : Hp} {sa rn td ea : Addr} {gl : Str → Option Dd} {fuel steps : Int} {stk : List Frm} {evs : List Int} (h : LSt H sa rn td ea gl fuel steps stk evs) {ys : List V} (hy : H ea = some (.lst ys)) {n : Int} {y : V} (hg : (evD n).At F0 H y) :
    LSt (upd H ea (.lst (ys ++ [y]))) sa rn td ea gl fuel steps stk (evs ++ [n]) ∧ KeepB sa ea H (upd H ea (.lst (ys ++ [y]))) ∧ Fr F0 H (upd H ea (.lst (ys ++ [y]))) := by
  obtain ⟨xs, h1, h2⟩ := h.s
  obtain ⟨ys', h3, h4⟩ := h.v
  rw [hy] at h3
  cases h3
  have f : Fr F0 H (upd H ea (.lst (ys ++ [y]))) := fr_list hy fun z => z
  have nr : rn ≠ ea := fun z => by have := h.r; rw [z, hy] at this; cases this
  refine ⟨⟨h.ne, ⟨xs, by rw [upd_ne h.ne]; exact h1, h2.keep f⟩, by rw [upd_ne nr]; exact h.r, ⟨_, upd_same, ?_⟩, h.g.keep f fun kvs e => ?_⟩, fun b u n1 n2 e => by rw [upd_ne n2]; exact e, f⟩
  · rw [List.map_append]
    exact ats_app (h4.keep f) (ats_one (hg.keep f))
  · rw [upd_ne (fun z => by rw [z, hy] at e; cases e)]
    exact e
section
variable {P : Program} {w : World} {K : PySem.W.Frag} {mg : Str → Option Value} {base : Heap}
abbrev sLEnter : Stmt := topS 53
theorem scLEnter : FnScope ["term", "env", "terms", "found"] ["term", "env", "terms"] (defScope sLEnter) := ⟨rfl, rfl, rfl, by decide +kernel, rfl, by decide +kernel, by decide +kernel⟩
def spEnter : Sp := fun vs H Q _ => ∃ (t : Dd) (tv : V) (e : Env) (ev : V) (td : Addr) (gl : Str → Option Dd), vs = [tv, ev, .ref td] ∧ t.At F0 H tv ∧ isTT t = true ∧ e.L H ev ∧ GlAt H td gl ∧ ∀ (v' : V) (H' : Hp), Same H H' → (match enterA t e with | some h => h.L H' v' | none => v' = .non) → Q v' H'
theorem c_enter {f : Addr} {fd : FuncData} (c_law_look : C8.Cal P w K mg base 1 "_law_look" spLook []) (F : Fun K "_law_enter" "_law_enter" sLEnter f fd) (b : Binds K fd ["term", "env", "terms"] []) (hm : mg "_law_enter" = some (.ref f)) : C8.Cal P w K mg base 2 "_law_enter" spEnter [] := by
  refine cal_of F hm b scLEnter (fun vs H Q E h => ?_) (fun cdv A outer s H vs Q E hr h => ?_)
  · obtain ⟨t, tv, e, ev, td, gl, rfl, _⟩ := h
    rfl
  obtain ⟨t, tv, e, ev, td, gl, rfl, hat, htt, he, hG, q⟩ := h
  refine ⟨_, (pss_cons (ps_if (pt_cmpR op_eq (pe_ix ix_tup (pv 0) pe_int (fun _ _ => rfl)) pe_str (nomark _))
      (pss_one (ps_ret (pv 0)))
      pss_nil)
    (pss_cons (ps_if (pt_cmpR op_eq (pe_ix ix_tup (pv 0) pe_int (fun _ _ => rfl)) pe_str (nomark _))
      (pss_one (ps_ret (pe_tup (pa_cons pe_str (pa_cons (pe_ix ix_tup (pv 0) pe_int (fun _ _ => rfl)) (pa_cons (pe_ix ix_tup (pv 0) pe_int (fun _ _ => rfl)) (pa_cons (pv 1) pa_nil)))))))
      pss_nil)
    (pss_cons (ps_if (pt_cmpR op_eq (pe_ix ix_tup (pv 0) pe_int (fun _ _ => rfl)) pe_str (nomark _))
      (pss_one (ps_ret (pe_tup (pa_cons pe_str (pa_cons (pe_ix ix_tup (pv 0) pe_int (fun _ _ => rfl)) (pa_cons (pe_ix ix_tup (pv 0) pe_int (fun _ _ => rfl)) (pa_cons (pv 1) pa_nil)))))))
      pss_nil)
    (pss_cons (ps_if (pt_cmpR op_eq (pe_ix ix_tup (pv 0) pe_int (fun _ _ => rfl)) pe_str (nomark _))
      (pss_cons (ps_set (i := 3) scLEnter.nd rfl (Or.inl rfl) (C8.pe_c c_law_look hr (by decide) rfl (pa_cons (pe_ix ix_tup (pv 0) pe_int (fun _ _ => rfl)) (pa_cons (pv 1) (pa_cons (pv 2) pa_nil)))))
    (pss_one (ps_if (PW.pt (pw_and (pt_cmpR op_notN (pv 3) pe_non (nomark _)) (pw_and1 (pt_cmpR op_eq (pe_ix ix_tup (pv 3) pe_int (fun _ _ => rfl)) pe_str (nomark _)))))
      (pss_one (ps_ret (pe_ix ix_tup (pv 3) pe_int (fun _ _ => rfl))))
      pss_nil)))
      pss_nil)
    (pss_one (ps_ret pe_non)))))), ?_⟩
  obtain ⟨z, r, rfl, hfz⟩ := form_tup (tt_parts htt).1
  have q : ∀ (v' : V) (H' : Hp), Same H H' → (match enterW z r e with | some h => h.L H' v' | none => v' = .non) → Q v' H' := q
  obtain ⟨a, ys0, rfl, ha, hys, hyl, hzl⟩ := head_at hat
  have hvw := vw_of hfz
  have no : ∀ {w' : Str} {A B : Prop}, z ≠ w' → B → if decide (V.str z = V.str w') = true then A else B := fun h hb => by rw [wne h]; exact iteF hb
  have yes : ∀ {A B : Prop}, A → if decide (V.str z = V.str z) = true then A else B := fun hb => by rw [wtt]; exact iteT hb
  cases hvw with
  | @num i h1 h2 =>
    obtain ⟨x1, zs, rfl, hx1, hn⟩ := hys
    cases (show zs = [] from hn)
    cases (show x1 = .int i from hx1)
    refine ⟨_, rfl, a, _, 0, _, rfl, rfl, SqT.of ha, at0 _ _, rfl, _, rfl, yes ?_⟩
    refine ⟨_, rfl, q _ _ (fun _ _ e => e) ?_⟩
    rw [en_num]
    show Head.L H (.num i) _
    rw [Head.L]
    exact ⟨a, rfl, ha⟩
  | @lam x b hx =>
    obtain ⟨x1, zs, rfl, hx1, y1, zs2, rfl, hy1, hn⟩ := hys
    cases (show zs2 = [] from hn)
    obtain ⟨rfl, _⟩ := (show x1 = .str x ∧ _ from hx1)
    refine ⟨_, rfl, a, _, 0, _, rfl, rfl, SqT.of ha, at0 _ _, rfl, _, rfl, no (by decide +kernel) ?_⟩
    refine ⟨_, rfl, a, _, 0, _, rfl, rfl, SqT.of ha, at0 _ _, rfl, _, rfl, yes ?_⟩
    refine ⟨_, rfl, a, _, 1, _, rfl, rfl, SqT.of ha, at1 _ _ _, _, rfl, a, _, 2, _, rfl, rfl, SqT.of ha, at2 _ _ _ _, _, rfl, by show 4 ≤ sizeLine; decide, fun t8 ht8 => ?_⟩
    have s8 := same_new ht8 (.tup [.str "fun", .str x, y1, ev])
    refine q _ _ s8 ?_
    rw [en_lam]
    show Head.L _ (.fn x b e) _
    rw [Head.L]
    exact ⟨t8, y1, ev, rfl, upd_same, hy1.keep (fr_same s8), he.keep (fr_same s8)⟩
  | @con i l =>
    obtain ⟨x1, zs, rfl, hx1, y1, zs2, rfl, ⟨p, xs, rfl, hp, hxs⟩, hn⟩ := hys
    cases (show zs2 = [] from hn)
    cases (show x1 = .int i from hx1)
    refine ⟨_, rfl, a, _, 0, _, rfl, rfl, SqT.of ha, at0 _ _, rfl, _, rfl, no (by decide +kernel) ?_⟩
    refine ⟨_, rfl, a, _, 0, _, rfl, rfl, SqT.of ha, at0 _ _, rfl, _, rfl, no (by decide +kernel) ?_⟩
    refine ⟨_, rfl, a, _, 0, _, rfl, rfl, SqT.of ha, at0 _ _, rfl, _, rfl, yes ?_⟩
    refine ⟨_, rfl, a, _, 1, _, rfl, rfl, SqT.of ha, at1 _ _ _, _, rfl, a, _, 2, _, rfl, rfl, SqT.of ha, at2 _ _ _ _, _, rfl, by show 4 ≤ sizeLine; decide, fun t8 ht8 => ?_⟩
    have s8 := same_new ht8 (.tup [.str "con", .int i, .ref p, ev])
    refine q _ _ s8 ?_
    rw [en_con]
    show Head.L _ (.con i l e) _
    rw [Head.L]
    exact ⟨t8, p, xs, ev, rfl, upd_same, s8 _ _ hp, hxs.keep (fr_same s8), he.keep (fr_same s8)⟩
  | @var x hx =>
    obtain ⟨x1, zs, rfl, hx1, hn⟩ := hys
    cases (show zs = [] from hn)
    obtain ⟨rfl, _⟩ := (show x1 = .str x ∧ _ from hx1)
    refine ⟨_, rfl, a, _, 0, _, rfl, rfl, SqT.of ha, at0 _ _, rfl, _, rfl, no (by decide +kernel) ?_⟩
    refine ⟨_, rfl, a, _, 0, _, rfl, rfl, SqT.of ha, at0 _ _, rfl, _, rfl, no (by decide +kernel) ?_⟩
    refine ⟨_, rfl, a, _, 0, _, rfl, rfl, SqT.of ha, at0 _ _, rfl, _, rfl, no (by decide +kernel) ?_⟩
    refine ⟨_, rfl, a, _, 0, _, rfl, rfl, SqT.of ha, at0 _ _, rfl, _, rfl, yes ?_⟩
    refine ⟨_, rfl, a, _, 1, _, rfl, rfl, SqT.of ha, at1 _ _ _, _, rfl, _, rfl, x, ev, e, td, gl, rfl, he, hG, fun v' H' s' hf => ?_⟩
    have hen : enterW "var" [.str x] e = (match e.look x with | some (.head h) => some h | _ => none) := en_var
    rw [hen] at q
    cases hl : e.look x with
    | none =>
      rw [hl] at q
      have hlg : lookG gl e x = (gl x).map fun t => .term t .nil := by unfold lookG; rw [hl]
      cases hg : gl x with
      | none =>
        rw [hlg, hg] at hf
        have hf : v' = .non := hf
        subst hf
        refine ⟨_, rfl, rfl, _, rfl, ?_⟩
        refine iteF ?_
        exact q _ _ s' rfl
      | some t =>
        rw [hlg, hg] at hf
        obtain ⟨a2, tv2, ev2, rfl, _, _, h4⟩ := hf
        refine ⟨_, rfl, rfl, _, rfl, ?_⟩
        refine iteT ?_
        rcases h4 with h4 | ⟨x2, r2, h4⟩
        · refine ⟨_, rfl, a2, _, 0, _, rfl, rfl, SqT.of h4, at0 _ _, rfl, _, rfl, ?_⟩
          show if decide (V.str "term" = V.str "head") = true then _ else _
          rw [wne (by decide +kernel)]
          refine iteF ?_
          exact q _ _ s' rfl
        · refine ⟨_, rfl, a2, _, 0, _, rfl, rfl, SqT.of h4, at0 _ _, rfl, _, rfl, ?_⟩
          show if decide (V.str "bind" = V.str "head") = true then _ else _
          rw [wne (by decide +kernel)]
          refine iteF ?_
          exact q _ _ s' rfl
    | some en =>
      rw [hl] at q
      have hlg : lookG gl e x = some en := by unfold lookG; rw [hl]
      rw [hlg] at hf
      cases en with
      | head h =>
        obtain ⟨a2, x2, hv, r2, rfl, h4, h5⟩ := hf
        refine ⟨_, rfl, rfl, _, rfl, ?_⟩
        refine iteT ?_
        refine ⟨_, rfl, a2, _, 0, _, rfl, rfl, SqT.of h4, at0 _ _, rfl, _, rfl, ?_⟩
        show if decide (V.str "head" = V.str "head") = true then _ else _
        rw [wtt]
        refine iteT ?_
        exact ⟨_, rfl, a2, _, 2, _, rfl, rfl, SqT.of h4, at2 _ _ _ _, q _ _ s' h5⟩
      | term t e2 =>
        obtain ⟨a2, tv2, ev2, rfl, _, _, h4⟩ := hf
        refine ⟨_, rfl, rfl, _, rfl, ?_⟩
        refine iteT ?_
        rcases h4 with h4 | ⟨x2, r2, h4⟩
        · refine ⟨_, rfl, a2, _, 0, _, rfl, rfl, SqT.of h4, at0 _ _, rfl, _, rfl, ?_⟩
          show if decide (V.str "term" = V.str "head") = true then _ else _
          rw [wne (by decide +kernel)]
          refine iteF ?_
          exact q _ _ s' rfl
        · refine ⟨_, rfl, a2, _, 0, _, rfl, rfl, SqT.of h4, at0 _ _, rfl, _, rfl, ?_⟩
          show if decide (V.str "bind" = V.str "head") = true then _ else _
          rw [wne (by decide +kernel)]
          refine iteF ?_
          exact q _ _ s' rfl
  | _ =>
    all_goals
      refine ⟨_, rfl, a, _, 0, _, rfl, rfl, SqT.of ha, at0 _ _, rfl, _, rfl, no (by decide +kernel) ?_⟩
      refine ⟨_, rfl, a, _, 0, _, rfl, rfl, SqT.of ha, at0 _ _, rfl, _, rfl, no (by decide +kernel) ?_⟩
      refine ⟨_, rfl, a, _, 0, _, rfl, rfl, SqT.of ha, at0 _ _, rfl, _, rfl, no (by decide +kernel) ?_⟩
      refine ⟨_, rfl, a, _, 0, _, rfl, rfl, SqT.of ha, at0 _ _, rfl, _, rfl, no (by decide +kernel) ?_⟩
      refine q _ _ (fun _ _ e => e) ?_
      rw [en_other (by decide +kernel) (by decide +kernel) (by decide +kernel) (by decide +kernel)]
end
end Toy

set_option Elab.async false
set_option linter.all false
set_option maxRecDepth 100000
set_option maxHeartbeats 4000000
/-! Part MF: the law's machine: a step down. -/
namespace Toy
open PySem L2
open PyProof.Rows (envOfC)
theorem LSt.fr {H H' : Hp} {sa rn td ea : Addr} {gl : Str → Option Dd} {fuel steps : Int} {stk : List Frm} {evs : List Int} (h : LSt H sa rn td ea gl fuel steps stk evs) (k : KeepB sa ea H H') : Fr F0 H H' := by
  obtain ⟨xs, h1, _⟩ := h.s
  obtain ⟨ys, h3, _⟩ := h.v
  exact ⟨fun a zs e => k a _ (fun z => by rw [z, h1] at e; cases e) (fun z => by rw [z, h3] at e; cases e) e, fun a zs b _ => b.elim⟩
/-- what a step gives -/
def OutL (H : Hp) (sa rn td ea : Addr) (gl : Str → Option Dd) (fuel steps : Int) (evs : List Int) (o : Out) (v : V) : Prop := match o with
  | .stuck => v = .non ∧ ∃ stk, LSt H sa rn td ea gl fuel steps stk evs
  | .fault s => (∃ a, v = .ref a ∧ H a = some (.tup [.str "fault", .str s])) ∧ ∃ stk, LSt H sa rn td ea gl fuel steps stk evs
  | .go m => LSt H sa rn td ea gl fuel steps m.stk m.evs ∧ match m.ctl with
    | .ev t e => ∃ (a : Addr) (tv ev : V), v = .ref a ∧ H a = some (.tup [tv, ev]) ∧ t.At F0 H tv ∧ e.L H ev
    | .hd h => ∃ (a : Addr) (hv : V), v = .ref a ∧ H a = some (.tup [.str "give", hv]) ∧ h.L H hv
section
variable {P : Program} {w : World} {K : PySem.W.Frag} {mg : Str → Option Value} {base : Heap}
abbrev sLDown : Stmt := topS 54
theorem scLDown : FnScope ["term", "env", "stack", "run", "kind", "found"] ["term", "env", "stack", "run"] (defScope sLDown) := ⟨rfl, rfl, rfl, by decide +kernel, rfl, by decide +kernel, by decide +kernel⟩
def spDown : Sp := fun vs H Q _ => ∃ (z : Str) (r : List Dd) (tv : V) (e : Env) (ev : V) (sa rn td ea : Addr) (gl : Str → Option Dd) (fuel steps : Int) (stk : List Frm) (evs : List Int), vs = [tv, ev, .ref sa, .ref rn] ∧ (Dd.tup (.str z :: r)).At F0 H tv ∧ formW z r = true ∧ enterW z r e = none ∧ e.L H ev ∧ LSt H sa rn td ea gl fuel steps stk evs ∧ stk.length ≤ 1000000 ∧ evs.length ≤ 1000000 ∧
  ∀ (v' : V) (H' : Hp), KeepB sa ea H H' → OutL H' sa rn td ea gl fuel steps evs (downW gl z r e stk evs) v' → Q v' H'
theorem c_down {f : Addr} {fd : FuncData} (c_law_look : C8.Cal P w K mg base 1 "_law_look" spLook []) (F : Fun K "_law_down" "_law_down" sLDown f fd) (b : Binds K fd ["term", "env", "stack", "run"] []) (hm : mg "_law_down" = some (.ref f)) : C8.Cal P w K mg base 2 "_law_down" spDown [] := by
  refine cal_of F hm b scLDown (fun vs H Q E h => ?_) (fun cdv A outer s H vs Q E hr h => ?_)
  · obtain ⟨z, r, tv, e, ev, sa, rn, td, ea, gl, fuel, steps, stk, evs, rfl, _⟩ := h
    rfl
  obtain ⟨z, r, tv, e, ev, sa, rn, td, ea, gl, fuel, steps, stk, evs, rfl, hat, hfz, hen, he, hL, hsl, hel, q⟩ := h
  have hu := hu_of hr
  have hbig : 5000000 < sizeLine := by decide
  refine ⟨_, (pss_cons (ps_set (i := 4) scLDown.nd rfl (Or.inl rfl) (pe_ix ix_tup (pv 0) pe_int (fun _ _ => rfl)))
    (pss_cons (ps_if (pt_cmpR op_eq (pv 4) pe_str (nomark _))
      (pss_cons (ps_set (i := 5) scLDown.nd rfl (Or.inl rfl) (C8.pe_c c_law_look hr (by decide) rfl (pa_cons (pe_ix ix_tup (pv 0) pe_int (fun _ _ => rfl)) (pa_cons (pv 1) (pa_cons (pe_dget hu (pv 3) pe_str (fun _ _ => rfl)) pa_nil)))))
    (pss_cons (ps_if (pt_cmpR op_isN (pv 5) pe_non (nomark _))
      (pss_one (ps_ret pe_non))
      pss_nil)
    (pss_cons (ps_if (pt_cmpR op_eq (pe_ix ix_tup (pv 5) pe_int (fun _ _ => rfl)) pe_str (nomark _))
      (pss_one (ps_ret (pe_tup (pa_cons (pe_ix ix_tup (pv 5) pe_int (fun _ _ => rfl)) (pa_cons (pe_ix ix_tup (pv 5) pe_int (fun _ _ => rfl)) pa_nil)))))
      pss_nil)
    (pss_one (ps_ret (pe_tup (pa_cons (pe_ix ix_tup (pv 5) pe_int (fun _ _ => rfl)) (pa_cons (pe_ix ix_tup (pv 5) pe_int (fun _ _ => rfl)) pa_nil))))))))
      pss_nil)
    (pss_cons (ps_if (pt_cmpR op_eq (pv 4) pe_str (nomark _))
      (pss_cons (ps_expr (pe_bm PySem.F.plainAttrs_list PySem.F.slot_list_append PySem.F.type_list_append mt_append (pv 2) (pa_cons (pe_tup (pa_cons pe_str (pa_cons (pe_ix ix_tup (pv 0) pe_int (fun _ _ => rfl)) (pa_cons (pv 1) pa_nil)))) pa_nil)))
    (pss_one (ps_ret (pe_tup (pa_cons (pe_ix ix_tup (pv 0) pe_int (fun _ _ => rfl)) (pa_cons (pv 1) pa_nil))))))
      pss_nil)
    (pss_cons (ps_if (pt_cmpR op_eq (pv 4) pe_str (nomark _))
      (pss_one (ps_ret (pe_tup (pa_cons (pe_ix ix_tup (pv 0) pe_int (fun _ _ => rfl)) (pa_cons (pe_tup (pa_cons pe_str (pa_cons (pe_ix ix_tup (pv 0) pe_int (fun _ _ => rfl)) (pa_cons (pv 1) pa_nil)))) pa_nil)))))
      pss_nil)
    (pss_cons (ps_if (pt_cmpR op_eq (pv 4) pe_str (nomark _))
      (pss_cons (ps_expr (pe_bm PySem.F.plainAttrs_list PySem.F.slot_list_append PySem.F.type_list_append mt_append (pe_dget hu (pv 3) pe_str (fun _ _ => rfl)) (pa_cons (pe_tup (pa_cons pe_str (pa_cons (pe_ix ix_tup (pv 0) pe_int (fun _ _ => rfl)) pa_nil))) pa_nil)))
    (pss_one (ps_ret (pe_tup (pa_cons (pe_ix ix_tup (pv 0) pe_int (fun _ _ => rfl)) (pa_cons (pv 1) pa_nil))))))
      pss_nil)
    (pss_cons (ps_if (PW.pt (pw_or (pt_cmpR op_eq (pv 4) pe_str (nomark _)) (pw_or1 (pt_cmpR op_eq (pv 4) pe_str (nomark _)))))
      (pss_cons (ps_expr (pe_bm PySem.F.plainAttrs_list PySem.F.slot_list_append PySem.F.type_list_append mt_append (pv 2) (pa_cons (pe_tup (pa_cons (pv 4) (pa_cons (pe_ix ix_tup (pv 0) pe_int (fun _ _ => rfl)) (pa_cons (pe_ix ix_tup (pv 0) pe_int (fun _ _ => rfl)) (pa_cons (pv 1) pa_nil))))) pa_nil)))
    (pss_one (ps_ret (pe_tup (pa_cons (pe_ix ix_tup (pv 0) pe_int (fun _ _ => rfl)) (pa_cons (pv 1) pa_nil))))))
      pss_nil)
    (pss_cons (ps_expr (pe_bm PySem.F.plainAttrs_list PySem.F.slot_list_append PySem.F.type_list_append mt_append (pv 2) (pa_cons (pe_tup (pa_cons (pv 4) (pa_cons (pe_ix ix_tup (pv 0) pe_int (fun _ _ => rfl)) (pa_cons (pe_ix ix_tup (pv 0) pe_int (fun _ _ => rfl)) (pa_cons (pv 1) pa_nil))))) pa_nil)))
    (pss_one (ps_ret (pe_tup (pa_cons (pe_ix ix_tup (pv 0) pe_int (fun _ _ => rfl)) (pa_cons (pv 1) pa_nil)))))))))))), ?_⟩
  obtain ⟨a, ys0, rfl, ha, hys, hyl, hzl⟩ := head_at hat
  obtain ⟨xs, hsa, hfr⟩ := hL.s
  have hxl := hfr.len
  obtain ⟨es, hea, hes⟩ := hL.v
  have hesl := ats_len hes
  rw [List.length_map] at hesl
  have hvw := vw_of hfz
  have no : ∀ {w' : Str} {A B : Prop}, z ≠ w' → B → if decide (V.str z = V.str w') = true then A else B := fun h hb => by rw [wne h]; exact iteF hb
  have yes : ∀ {A B : Prop}, A → if decide (V.str z = V.str z) = true then A else B := fun hb => by rw [wtt]; exact iteT hb
  refine ⟨_, rfl, a, _, 0, _, rfl, rfl, SqT.of ha, at0 _ _, ?_⟩
  -- a frame is put on the stack, a part comes next
  have push : ∀ {g : Frm} {t : Dd} {tv2 : V} {i : Nat} (H1 : Hp) (t8 : Addr), Same H H1 → (g.L H1 (.ref t8)) → atI (V.str z :: ys0) (i : Int) = some tv2 → t.At F0 H tv2 → downW gl z r e stk evs = .go ⟨.ev t e, stk ++ [g], evs⟩ →
      ∀ t9, upd H1 sa (.lst (xs ++ [V.ref t8])) t9 = none → Q (.ref t9) (upd (upd H1 sa (.lst (xs ++ [V.ref t8]))) t9 (.tup [tv2, ev])) := by
    intro g t tv2 i H1 t8 s1 hg hi ht hd t9 ht9
    obtain ⟨l1, k1, f1⟩ := (hL.same s1).push (s1 _ _ hsa) hg
    have s9 := same_new ht9 (.tup [tv2, ev])
    refine q _ _ ((KeepB.same s1).trans (k1.trans (KeepB.same s9))) ?_
    rw [hd]
    exact ⟨l1.same s9, t9, tv2, ev, rfl, upd_same, ((ht.keep (fr_same s1)).keep f1).keep (fr_same s9), ((he.keep (fr_same s1)).keep f1).keep (fr_same s9)⟩
  have haP : ∀ {H1 : Hp} {ws : List V}, Same H H1 → upd H1 sa (.lst ws) a = some (.tup (V.str z :: ys0)) := fun {H1 ws} s1 => by
    rw [upd_ne (fun z => by rw [z, hsa] at ha; cases ha)]
    exact s1 _ _ ha
  cases hvw with
  | @num i h1 h2 => rw [en_num] at hen; cases hen
  | @lam x b hx => rw [en_lam] at hen; cases hen
  | @con i l => rw [en_con] at hen; cases hen
  | @var x hx =>
    obtain ⟨x1, zs, rfl, hx1, hn⟩ := hys
    cases (show zs = [] from hn)
    obtain ⟨rfl, _⟩ := (show x1 = .str x ∧ _ from hx1)
    refine ⟨_, rfl, rfl, _, rfl, yes ?_⟩
    refine ⟨_, rfl, a, _, 1, _, rfl, rfl, SqT.of ha, at1 _ _ _, _, rfl, _, rfl, rn, _, rfl, rk_terms hL.r, x, ev, e, td, gl, rfl, he, hL.g, fun v' H' s' hf => ?_⟩
    have hL' := hL.same s'
    have hdn : downW gl "var" [.str x] e stk evs = (match e.look x with | some (.term t e') => .go ⟨.ev t e', stk, evs⟩ | _ => match gl x with | some t => .go ⟨.ev t .nil, stk, evs⟩ | none => .stuck) := dn_var
    have hen2 : (match e.look x with | some (.head h) => some h | _ => none) = none := (en_var (r := [.str x]) (e := e)).symm.trans hen
    rw [hdn] at q
    have fin : ∀ {t : Dd} {e2 : Env}, FoundL H' (some (.term t e2)) v' → downW gl "var" [.str x] e stk evs = .go ⟨.ev t e2, stk, evs⟩ → True := fun _ _ => trivial
    have two : ∀ {t : Dd} {e2 : Env} {a2 : Addr} {tv2 ev2 : V}, t.At F0 H' tv2 → e2.L H' ev2 → ∀ t9, H' t9 = none → OutL (upd H' t9 (.tup [tv2, ev2])) sa rn td ea gl fuel steps evs (.go ⟨.ev t e2, stk, evs⟩) (.ref t9) := fun {t e2 a2 tv2 ev2} h2 h3 t9 ht9 => by
      have s9 := same_new ht9 (.tup [tv2, ev2])
      exact ⟨hL'.same s9, t9, tv2, ev2, rfl, upd_same, h2.keep (fr_same s9), h3.keep (fr_same s9)⟩
    have run : ∀ {t : Dd} {e2 : Env}, FoundL H' (some (.term t e2)) v' → (∀ (v'' : V) (H'' : Hp), KeepB sa ea H H'' → OutL H'' sa rn td ea gl fuel steps evs (.go ⟨.ev t e2, stk, evs⟩) v'' → Q v'' H'') → ∃ a2 tv2 ev2, v' = .ref a2 ∧ t.At F0 H' tv2 ∧ e2.L H' ev2 ∧ (H' a2 = some (.tup [.str "term", tv2, ev2]) ∨ ∃ x r, H' a2 = some (.tup [.str "bind", .str x, tv2, ev2, r])) ∧ ∀ t9, H' t9 = none → Q (.ref t9) (upd H' t9 (.tup [tv2, ev2])) := fun {t e2} hf q2 => by
      obtain ⟨a2, tv2, ev2, rfl, h2, h3, h4⟩ := hf
      exact ⟨a2, tv2, ev2, rfl, h2, h3, h4, fun t9 ht9 => q2 _ _ (KeepB.same (sameT s' (same_new ht9 _))) (two (a2 := a2) h2 h3 t9 ht9)⟩
    cases hl : e.look x with
    | none =>
      rw [hl] at q
      have hlg : lookG gl e x = (gl x).map fun t => .term t .nil := by unfold lookG; rw [hl]
      cases hg : gl x with
      | none =>
        rw [hg] at q
        rw [hlg, hg] at hf
        have hf : v' = .non := hf
        subst hf
        refine ⟨_, rfl, rfl, _, rfl, ?_⟩
        refine iteT ?_
        exact q _ _ (KeepB.same s') ⟨rfl, stk, hL'⟩
      | some t =>
        rw [hg] at q
        rw [hlg, hg] at hf
        obtain ⟨a2, tv2, ev2, rfl, h2, h3, h4, h5⟩ := run hf q
        refine ⟨_, rfl, rfl, _, rfl, ?_⟩
        refine iteF ?_
        rcases h4 with h4 | ⟨x2, r2, h4⟩
        · refine ⟨_, rfl, a2, _, 0, _, rfl, rfl, SqT.of h4, at0 _ _, rfl, _, rfl, ?_⟩
          show if decide (V.str "term" = V.str "bind") = true then _ else _
          rw [wne (by decide +kernel)]
          refine iteF ?_
          exact ⟨_, rfl, a2, _, 1, _, rfl, rfl, SqT.of h4, at1 _ _ _, _, rfl, a2, _, 2, _, rfl, rfl, SqT.of h4, at2 _ _ _ _, by show 2 ≤ sizeLine; decide, h5⟩
        · refine ⟨_, rfl, a2, _, 0, _, rfl, rfl, SqT.of h4, at0 _ _, rfl, _, rfl, ?_⟩
          show if decide (V.str "bind" = V.str "bind") = true then _ else _
          rw [wtt]
          refine iteT ?_
          exact ⟨_, rfl, a2, _, 2, _, rfl, rfl, SqT.of h4, at2 _ _ _ _, _, rfl, a2, _, 3, _, rfl, rfl, SqT.of h4, at3 _ _ _ _ _, by show 2 ≤ sizeLine; decide, h5⟩
    | some en =>
      rw [hl] at q
      have hlg : lookG gl e x = some en := by unfold lookG; rw [hl]
      rw [hlg] at hf
      cases en with
      | head h => rw [hl] at hen2; cases hen2
      | term t e2 =>
        obtain ⟨a2, tv2, ev2, rfl, h2, h3, h4, h5⟩ := run hf q
        refine ⟨_, rfl, rfl, _, rfl, ?_⟩
        refine iteF ?_
        rcases h4 with h4 | ⟨x2, r2, h4⟩
        · refine ⟨_, rfl, a2, _, 0, _, rfl, rfl, SqT.of h4, at0 _ _, rfl, _, rfl, ?_⟩
          show if decide (V.str "term" = V.str "bind") = true then _ else _
          rw [wne (by decide +kernel)]
          refine iteF ?_
          exact ⟨_, rfl, a2, _, 1, _, rfl, rfl, SqT.of h4, at1 _ _ _, _, rfl, a2, _, 2, _, rfl, rfl, SqT.of h4, at2 _ _ _ _, by show 2 ≤ sizeLine; decide, h5⟩
        · refine ⟨_, rfl, a2, _, 0, _, rfl, rfl, SqT.of h4, at0 _ _, rfl, _, rfl, ?_⟩
          show if decide (V.str "bind" = V.str "bind") = true then _ else _
          rw [wtt]
          refine iteT ?_
          exact ⟨_, rfl, a2, _, 2, _, rfl, rfl, SqT.of h4, at2 _ _ _ _, _, rfl, a2, _, 3, _, rfl, rfl, SqT.of h4, at3 _ _ _ _ _, by show 2 ≤ sizeLine; decide, h5⟩
  | @app u1 u2 =>
    obtain ⟨x1, zs, rfl, hx1, y1, zs2, rfl, hy1, hn⟩ := hys
    cases (show zs2 = [] from hn)
    refine ⟨_, rfl, rfl, _, rfl, no (by decide +kernel) ?_⟩
    refine ⟨_, rfl, rfl, _, rfl, yes ?_⟩
    refine ⟨_, rfl, .inl ⟨rfl, _, SqL.of hsa⟩, _, rfl, a, _, 2, _, rfl, rfl, SqT.of ha, at2 _ _ _ _, _, rfl, by show 3 ≤ sizeLine; decide, fun t8 ht8 => ?_⟩
    have s8 := same_new ht8 (.tup [.str "app", y1, ev])
    refine ⟨sa, _, _, rfl, rfl, s8 _ _ hsa, by omega, ?_⟩
    refine ⟨_, rfl, a, _, 1, _, rfl, rfl, SqT.of (haP s8), at1 _ _ _, _, rfl, by show 2 ≤ sizeLine; decide, fun t9 ht9 => ?_⟩
    exact push (g := .arg u2 e) (t := u1) (i := 1) _ t8 s8 ⟨t8, y1, ev, rfl, upd_same, hy1.keep (fr_same s8), he.keep (fr_same s8)⟩ (at1 _ _ _) hx1 dn_app t9 ht9
  | @lt rows u2 hnd hnn =>
    obtain ⟨x1, zs, rfl, ⟨rs, rxs, rfl, hrs, hrx⟩, y1, zs2, rfl, hy1, hn⟩ := hys
    cases (show zs2 = [] from hn)
    refine ⟨_, rfl, rfl, _, rfl, no (by decide +kernel) ?_⟩
    refine ⟨_, rfl, rfl, _, rfl, no (by decide +kernel) ?_⟩
    refine ⟨_, rfl, rfl, _, rfl, yes ?_⟩
    refine ⟨_, rfl, a, _, 2, _, rfl, rfl, SqT.of ha, at2 _ _ _ _, _, rfl, a, _, 1, _, rfl, rfl, SqT.of ha, at1 _ _ _, _, rfl, by show 3 ≤ sizeLine; decide, fun t8 ht8 => ⟨by show 2 ≤ sizeLine; decide, fun t9 ht9 => ?_⟩⟩
    have s8 := same_new ht8 (.tup [.str "group", .ref rs, ev])
    have s9 := same_new ht9 (.tup [y1, .ref t8])
    have s89 := sameT s8 s9
    refine q _ _ (KeepB.same s89) ?_
    rw [dn_let]
    refine ⟨hL.same s89, t9, y1, .ref t8, rfl, upd_same, hy1.keep (fr_same s89), ?_⟩
    show Env.L _ (.grp ((rows.map defD).map rowD) e) _
    rw [rows_back, Env.L]
    exact ⟨t8, rs, rxs, ev, rfl, s9 _ _ upd_same, s89 _ _ hrs, hrx.keep (fr_same s89), he.keep (fr_same s89)⟩
  | @note n u2 =>
    obtain ⟨x1, zs, rfl, hx1, y1, zs2, rfl, hy1, hn⟩ := hys
    cases (show zs2 = [] from hn)
    cases (show x1 = .int n from hx1)
    refine ⟨_, rfl, rfl, _, rfl, no (by decide +kernel) ?_⟩
    refine ⟨_, rfl, rfl, _, rfl, no (by decide +kernel) ?_⟩
    refine ⟨_, rfl, rfl, _, rfl, no (by decide +kernel) ?_⟩
    refine ⟨_, rfl, rfl, _, rfl, yes ?_⟩
    refine ⟨_, rfl, rn, _, rfl, rk_events hL.r, .inl ⟨rfl, _, SqL.of hea⟩, _, rfl, a, _, 1, _, rfl, rfl, SqT.of ha, at1 _ _ _, by show 2 ≤ sizeLine; decide, fun t8 ht8 => ?_⟩
    have s8 := same_new ht8 (.tup [.str "note", .int n])
    obtain ⟨l1, k1, f1⟩ := (hL.same s8).note (s8 _ _ hea) (n := n) (y := .ref t8) (at_tup upd_same (ats_cons (at_str' (by decide +kernel)) (ats_cons at_int' ats_nil)))
    refine ⟨ea, _, _, rfl, rfl, s8 _ _ hea, by omega, ?_⟩
    have ha2 := f1.1 _ _ (s8 _ _ ha)
    refine ⟨_, rfl, a, _, 2, _, rfl, rfl, SqT.of ha2, at2 _ _ _ _, _, rfl, by show 2 ≤ sizeLine; decide, fun t9 ht9 => ?_⟩
    have s9 := same_new ht9 (.tup [y1, ev])
    refine q _ _ ((KeepB.same s8).trans (k1.trans (KeepB.same s9))) ?_
    rw [dn_note]
    exact ⟨l1.same s9, t9, y1, ev, rfl, upd_same, ((hy1.keep (fr_same s8)).keep f1).keep (fr_same s9), ((he.keep (fr_same s8)).keep f1).keep (fr_same s9)⟩
  | @prim sg u1 u2 hsg =>
    obtain ⟨x1, zs, rfl, hx1, y1, zs2, rfl, hy1, y2, zs3, rfl, hy2, hn⟩ := hys
    cases (show zs3 = [] from hn)
    obtain ⟨rfl, _⟩ := (show x1 = .str sg ∧ _ from hx1)
    refine ⟨_, rfl, rfl, _, rfl, no (by decide +kernel) ?_⟩
    refine ⟨_, rfl, rfl, _, rfl, no (by decide +kernel) ?_⟩
    refine ⟨_, rfl, rfl, _, rfl, no (by decide +kernel) ?_⟩
    refine ⟨_, rfl, rfl, _, rfl, no (by decide +kernel) ?_⟩
    refine ⟨_, rfl, rfl, _, rfl, yes ?_⟩
    refine iteT ?_
    refine ⟨_, rfl, .inl ⟨rfl, _, SqL.of hsa⟩, _, rfl, _, rfl, a, _, 1, _, rfl, rfl, SqT.of ha, at1 _ _ _, _, rfl, a, _, 3, _, rfl, rfl, SqT.of ha, at3 _ _ _ _ _, _, rfl, by show 4 ≤ sizeLine; decide, fun t8 ht8 => ?_⟩
    have s8 := same_new ht8 (.tup [.str "prim", .str sg, y2, ev])
    refine ⟨sa, _, _, rfl, rfl, s8 _ _ hsa, by omega, ?_⟩
    refine ⟨_, rfl, a, _, 2, _, rfl, rfl, SqT.of (haP s8), at2 _ _ _ _, _, rfl, by show 2 ≤ sizeLine; decide, fun t9 ht9 => ?_⟩
    exact push (g := .snd sg u2 e) (t := u1) (i := 2) _ t8 s8 ⟨t8, y2, ev, rfl, upd_same, hy2.keep (fr_same s8), he.keep (fr_same s8)⟩ (at2 _ _ _ _) hy1 dn_prim t9 ht9
  | @seq sg u1 u2 hsg =>
    obtain ⟨x1, zs, rfl, hx1, y1, zs2, rfl, hy1, y2, zs3, rfl, hy2, hn⟩ := hys
    cases (show zs3 = [] from hn)
    obtain ⟨rfl, _⟩ := (show x1 = .str sg ∧ _ from hx1)
    refine ⟨_, rfl, rfl, _, rfl, no (by decide +kernel) ?_⟩
    refine ⟨_, rfl, rfl, _, rfl, no (by decide +kernel) ?_⟩
    refine ⟨_, rfl, rfl, _, rfl, no (by decide +kernel) ?_⟩
    refine ⟨_, rfl, rfl, _, rfl, no (by decide +kernel) ?_⟩
    refine ⟨_, rfl, rfl, _, rfl, no (by decide +kernel) ?_⟩
    refine ⟨_, rfl, rfl, _, rfl, yes ?_⟩
    refine ⟨_, rfl, .inl ⟨rfl, _, SqL.of hsa⟩, _, rfl, _, rfl, a, _, 1, _, rfl, rfl, SqT.of ha, at1 _ _ _, _, rfl, a, _, 3, _, rfl, rfl, SqT.of ha, at3 _ _ _ _ _, _, rfl, by show 4 ≤ sizeLine; decide, fun t8 ht8 => ?_⟩
    have s8 := same_new ht8 (.tup [.str "seq", .str sg, y2, ev])
    refine ⟨sa, _, _, rfl, rfl, s8 _ _ hsa, by omega, ?_⟩
    refine ⟨_, rfl, a, _, 2, _, rfl, rfl, SqT.of (haP s8), at2 _ _ _ _, _, rfl, by show 2 ≤ sizeLine; decide, fun t9 ht9 => ?_⟩
    exact push (g := .seq sg u2 e) (t := u1) (i := 2) _ t8 s8 ⟨t8, y2, ev, rfl, upd_same, hy2.keep (fr_same s8), he.keep (fr_same s8)⟩ (at2 _ _ _ _) hy1 dn_seq t9 ht9
  | @case u1 u2 rows hrw hdf =>
    obtain ⟨x1, zs, rfl, hx1, y1, zs2, rfl, ⟨rs, rxs, rfl, hrs, hrx⟩, y2, zs3, rfl, hy2, hn⟩ := hys
    cases (show zs3 = [] from hn)
    refine ⟨_, rfl, rfl, _, rfl, no (by decide +kernel) ?_⟩
    refine ⟨_, rfl, rfl, _, rfl, no (by decide +kernel) ?_⟩
    refine ⟨_, rfl, rfl, _, rfl, no (by decide +kernel) ?_⟩
    refine ⟨_, rfl, rfl, _, rfl, no (by decide +kernel) ?_⟩
    refine ⟨_, rfl, rfl, _, rfl, no (by decide +kernel) ?_⟩
    refine ⟨_, rfl, rfl, _, rfl, no (by decide +kernel) ?_⟩
    refine ⟨_, rfl, .inl ⟨rfl, _, SqL.of hsa⟩, _, rfl, _, rfl, a, _, 2, _, rfl, rfl, SqT.of ha, at2 _ _ _ _, _, rfl, a, _, 3, _, rfl, rfl, SqT.of ha, at3 _ _ _ _ _, _, rfl, by show 4 ≤ sizeLine; decide, fun t8 ht8 => ?_⟩
    have s8 := same_new ht8 (.tup [.str "case", .ref rs, y2, ev])
    refine ⟨sa, _, _, rfl, rfl, s8 _ _ hsa, by omega, ?_⟩
    refine ⟨_, rfl, a, _, 1, _, rfl, rfl, SqT.of (haP s8), at1 _ _ _, _, rfl, by show 2 ≤ sizeLine; decide, fun t9 ht9 => ?_⟩
    exact push (g := .ch "case" rows u2 e) (t := u1) (i := 1) _ t8 s8 ⟨t8, rs, rxs, y2, ev, rfl, upd_same, s8 _ _ hrs, hrx.keep (fr_same s8), hy2.keep (fr_same s8), he.keep (fr_same s8)⟩ (at1 _ _ _) hx1 (dn_ch (.inl rfl)) t9 ht9
  | @pick u1 u2 rows hrw hdf =>
    obtain ⟨x1, zs, rfl, hx1, y1, zs2, rfl, ⟨rs, rxs, rfl, hrs, hrx⟩, y2, zs3, rfl, hy2, hn⟩ := hys
    cases (show zs3 = [] from hn)
    refine ⟨_, rfl, rfl, _, rfl, no (by decide +kernel) ?_⟩
    refine ⟨_, rfl, rfl, _, rfl, no (by decide +kernel) ?_⟩
    refine ⟨_, rfl, rfl, _, rfl, no (by decide +kernel) ?_⟩
    refine ⟨_, rfl, rfl, _, rfl, no (by decide +kernel) ?_⟩
    refine ⟨_, rfl, rfl, _, rfl, no (by decide +kernel) ?_⟩
    refine ⟨_, rfl, rfl, _, rfl, no (by decide +kernel) ?_⟩
    refine ⟨_, rfl, .inl ⟨rfl, _, SqL.of hsa⟩, _, rfl, _, rfl, a, _, 2, _, rfl, rfl, SqT.of ha, at2 _ _ _ _, _, rfl, a, _, 3, _, rfl, rfl, SqT.of ha, at3 _ _ _ _ _, _, rfl, by show 4 ≤ sizeLine; decide, fun t8 ht8 => ?_⟩
    have s8 := same_new ht8 (.tup [.str "pick", .ref rs, y2, ev])
    refine ⟨sa, _, _, rfl, rfl, s8 _ _ hsa, by omega, ?_⟩
    refine ⟨_, rfl, a, _, 1, _, rfl, rfl, SqT.of (haP s8), at1 _ _ _, _, rfl, by show 2 ≤ sizeLine; decide, fun t9 ht9 => ?_⟩
    exact push (g := .ch "pick" rows u2 e) (t := u1) (i := 1) _ t8 s8 ⟨t8, rs, rxs, y2, ev, rfl, upd_same, s8 _ _ hrs, hrx.keep (fr_same s8), hy2.keep (fr_same s8), he.keep (fr_same s8)⟩ (at1 _ _ _) hx1 (dn_ch (.inr rfl)) t9 ht9
end
end Toy

set_option Elab.async false
set_option linter.all false
set_option maxRecDepth 100000
set_option maxHeartbeats 4000000
/-! Part MG: the law's machine: what prims give. -/
namespace Toy
open PySem L2
open PyProof.Rows (envOfC)
/-- what a prim gives: a head or a fault -/
def ResL (H : Hp) (o : Out) (v : V) : Prop := match o with
  | .stuck => False
  | .fault s => ∃ a, v = .ref a ∧ H a = some (.tup [.str "fault", .str s])
  | .go m => match m.ctl with
    | .hd h => h.L H v
    | .ev _ _ => False
theorem prim_ok {s : Str} {i j : Int} {stk : List Frm} {evs : List Int} : (∃ h, primA s i j stk evs = .go ⟨.hd h, stk, evs⟩ ∧ primA s i j [] [] = .go ⟨.hd h, [], []⟩ ∧ h.ok) ∨ ∃ f, primA s i j stk evs = .fault f ∧ primA s i j [] [] = .fault f := by
  unfold primA
  split
  · refine .inl ⟨_, rfl, rfl, ?_⟩
    rw [Head.ok, Env.ok]
    exact ⟨fun t h => absurd h List.not_mem_nil, by show 0 ≤ 40000; decide, trivial⟩
  · split
    · exact .inr ⟨_, rfl, rfl⟩
    · split
      · rename_i h
        refine .inl ⟨_, rfl, rfl, ?_⟩
        rw [Head.ok]
        exact h
      · exact .inr ⟨_, rfl, rfl⟩
theorem log15 {j : Int} (h0 : -1000000000000000 ≤ j) (h1 : j ≤ 1000000000000000) : j.natAbs.log2 < 9000 := by
  rcases Nat.eq_zero_or_pos j.natAbs with e | e
  · rw [e]; decide
  · exact (Nat.log2_lt (by omega)).mpr (Nat.lt_of_lt_of_le (show j.natAbs < 2 ^ 60 by omega) (Nat.pow_le_pow_right (by decide) (by decide)))
section
variable {P : Program} {w : World} {K : PySem.W.Frag} {mg : Str → Option Value} {base : Heap}
structure TxtRs (mg : Str → Option Value) : Prop where
  zint : mg "int" = none
  zabs : mg "abs" = none
abbrev sLResult : Stmt := topS 52
theorem scLResult : FnScope ["sign", "one", "two", "holds", "result"] ["sign", "one", "two"] (defScope sLResult) := ⟨rfl, rfl, rfl, by decide +kernel, rfl, by decide +kernel, by decide +kernel⟩
def spResult : Sp := fun vs H Q _ => ∃ (s : Str) (i j : Int), vs = [.str s, .int i, .int j] ∧ s ∈ signs ∧ (-1000000000000000 ≤ i ∧ i ≤ 1000000000000000) ∧ (-1000000000000000 ≤ j ∧ j ≤ 1000000000000000) ∧ ∀ (v' : V) (H' : Hp), Same H H' → ResL H' (primA s i j [] []) v' → Q v' H'
theorem c_result {f : Addr} {fd : FuncData} (T : TxtRs mg) (F : Fun K "_law_result" "_law_result" sLResult f fd) (b : Binds K fd ["sign", "one", "two"] []) (hm : mg "_law_result" = some (.ref f)) : C8.Cal P w K mg base 1 "_law_result" spResult [] := by
  refine cal_of F hm b scLResult (fun vs H Q E h => ?_) (fun cdv A outer s H vs Q E hr h => ?_)
  · obtain ⟨s, i, j, rfl, _⟩ := h
    rfl
  obtain ⟨s, i, j, rfl, hs, ⟨hi0, hi1⟩, ⟨hj0, hj1⟩, q⟩ := h
  refine ⟨_, (pss_cons (ps_if (pt_cmpR op_in_seq (pv 0) (pe_tup (pa_strs (zs := ["==", "<", "<="]) rfl)) rfl)
      (pss_cons (ps_set (i := 3) scLResult.nd rfl (Or.inl rfl) (pe_cmpR op_eq (pv 1) (pv 2) (nomark _)))
    (pss_cons (ps_if (pt_cmpR op_eq (pv 0) pe_str (nomark _))
      (pss_one (ps_set (i := 3) scLResult.nd rfl (Or.inl rfl) (pe_cmpR op_lt (pv 1) (pv 2) (nomark _))))
      pss_nil)
    (pss_cons (ps_if (pt_cmpR op_eq (pv 0) pe_str (nomark _))
      (pss_one (ps_set (i := 3) scLResult.nd rfl (Or.inl rfl) (pe_cmpR op_le (pv 1) (pv 2) (nomark _))))
      pss_nil)
    (pss_one (ps_ret (pe_tup (pa_cons pe_str (pa_cons (pe_callTy call_int1 rfl T.zint boot_int (pa_cons (pv 3) pa_nil)) (pa_cons (pe_tup pa_nil) (pa_cons pe_non pa_nil))))))))))
      pss_nil)
    (pss_cons (ps_if (PW.pt (pw_and (pt_cmpR op_in_seq (pv 0) (pe_tup (pa_cons pe_str (pa_cons pe_str pa_nil))) rfl) (pw_and1 (pt_cmpR op_eq (pv 2) pe_int (nomark _)))))
      (pss_one (ps_ret (pe_tup (pa_cons pe_str (pa_cons pe_str pa_nil)))))
      pss_nil)
    (pss_cons (ps_set (i := 4) scLResult.nd rfl (Or.inl rfl) (pe_op op_sub (pv 1) (pv 2)))
    (pss_cons (ps_if (pt_cmpR op_eq (pv 0) pe_str (nomark _))
      (pss_one (ps_set (i := 4) scLResult.nd rfl (Or.inl rfl) (pe_op op_add (pv 1) (pv 2))))
      pss_nil)
    (pss_cons (ps_if (pt_cmpR op_eq (pv 0) pe_str (nomark _))
      (pss_one (ps_set (i := 4) scLResult.nd rfl (Or.inl rfl) (pe_op op_mul (pv 1) (pv 2))))
      pss_nil)
    (pss_cons (ps_if (pt_cmpR op_eq (pv 0) pe_str (nomark _))
      (pss_one (ps_set (i := 4) scLResult.nd rfl (Or.inl rfl) (pe_op op_fdivX (pv 1) (pv 2))))
      pss_nil)
    (pss_cons (ps_if (pt_cmpR op_eq (pv 0) pe_str (nomark _))
      (pss_one (ps_set (i := 4) scLResult.nd rfl (Or.inl rfl) (pe_op op_sub (pv 1) (pe_op op_mul (pv 2) (pe_op op_fdivX (pv 1) (pv 2))))))
      pss_nil)
    (pss_cons (ps_if (pt_cmpR op_gt (pe_callB call_abs rfl T.zabs boot_abs (pa_cons (pv 4) pa_nil)) (pe_op op_pow pe_int pe_int) (nomark _))
      (pss_one (ps_ret (pe_tup (pa_cons pe_str (pa_cons pe_str pa_nil)))))
      pss_nil)
    (pss_one (ps_ret (pe_tup (pa_cons pe_str (pa_cons (pv 4) pa_nil))))))))))))), ?_⟩
  refine ⟨_, rfl, by show 3 ≤ sizeLine; decide, fun t1 ht1 => ?_⟩
  have s1 := same_new ht1 (.tup ([("==" : Str), "<", "<="].map V.str))
  have e1 : upd H t1 (.tup ([("==" : Str), "<", "<="].map V.str)) t1 = some (.tup ([("==" : Str), "<", "<="].map V.str)) := upd_same
  refine ⟨t1, _, rfl, .inr (SqT.of e1), rfl, flat_strs _, ?_⟩
  rw [show (if false = true then !inV (.str s) ([("==" : Str), "<", "<="].map V.str) else inV (.str s) ([("==" : Str), "<", "<="].map V.str)) = decide (s ∈ [("==" : Str), "<", "<="]) by rw [if_neg (by decide), inV_strs]]
  refine ⟨_, rfl, ?_⟩
  generalize upd H t1 (.tup ([("==" : Str), "<", "<="].map V.str)) = H1 at s1 ⊢
  have no : ∀ {z w' : Str} {A B : Prop}, z ≠ w' → B → if decide (V.str z = V.str w') = true then A else B := fun h hb => by rw [wne h]; exact iteF hb
  have yes : ∀ {z : Str} {A B : Prop}, A → if decide (V.str z = V.str z) = true then A else B := fun hb => by rw [wtt]; exact iteT hb
  have cmp : ∀ (b : Bool), primA s i j [] [] = .go ⟨.hd (.con (if b = true then 1 else 0) [] .nil), [], []⟩ → ∀ u, H1 u = none → ∀ t, upd H1 u (.tup []) t = none → Q (.ref t) (upd (upd H1 u (.tup [])) t (.tup [.str "con", .int (if b = true then 1 else 0), .ref u, .non])) := fun b hb u hu t ht => by
    have su := same_new hu (.tup [])
    have st := same_new ht (.tup [.str "con", .int (if b = true then 1 else 0), .ref u, .non])
    refine q _ _ (sameT s1 (sameT su st)) ?_
    rw [hb]
    show Head.L _ (.con (if b = true then 1 else 0) [] .nil) _
    rw [Head.L]
    exact ⟨t, u, [], .non, rfl, upd_same, st _ _ upd_same, rfl, by rw [Env.L]⟩
  have flt : ∀ (m : Str), primA s i j [] [] = .fault m → ∀ (H2 : Hp), Same H1 H2 → ∀ t, H2 t = none → Q (.ref t) (upd H2 t (.tup [.str "fault", .str m])) := fun m hb H2 s2 t ht => by
    refine q _ _ (sameT s1 (sameT s2 (same_new ht _))) ?_
    rw [hb]
    exact ⟨t, rfl, upd_same⟩
  have nmb : ∀ (n : Int), primA s i j [] [] = .go ⟨.hd (.num n), [], []⟩ → ∀ (H2 : Hp), Same H1 H2 → ∀ t, H2 t = none → Q (.ref t) (upd H2 t (.tup [.str "num", .int n])) := fun n hb H2 s2 t ht => by
    refine q _ _ (sameT s1 (sameT s2 (same_new ht _))) ?_
    rw [hb]
    show Head.L _ (.num n) _
    rw [Head.L]
    exact ⟨t, rfl, upd_same⟩
  have hP : ∀ (z : Str), primA z i j [] [] = (if z = "==" ∨ z = "<" ∨ z = "<=" then .go ⟨.hd (.con (if holdsA z i j = true then 1 else 0) [] .nil), [], []⟩ else if (z = "div" ∨ z = "mod") ∧ j = 0 then .fault "division by zero" else if -1000000000000000 ≤ workA z i j ∧ workA z i j ≤ 1000000000000000 then .go ⟨.hd (.num (workA z i j)), [], []⟩ else .fault "overflow") := fun z => rfl
  simp only [signs, List.mem_cons, List.not_mem_nil, or_false] at hs
  rcases hs with rfl | rfl | rfl | rfl | rfl | rfl | rfl | rfl
  · rw [show decide (("+" : Str) ∈ [("==" : Str), "<", "<="]) = false by decide +kernel]
    refine iteF ?_
    refine ⟨_, rfl, by show 2 ≤ sizeLine; decide, fun t2 ht2 => ?_⟩
    have s2 := same_new ht2 (.tup [.str "div", .str "mod"])
    have e2 : upd H1 t2 (.tup [.str "div", .str "mod"]) t2 = some (.tup ([("div" : Str), "mod"].map V.str)) := upd_same
    generalize upd H1 t2 (.tup [.str "div", .str "mod"]) = H2 at s2 e2 ⊢
    refine ⟨t2, _, rfl, .inr (SqT.of e2), rfl, flat_strs _, ?_⟩
    rw [show (if false = true then !inV (.str "+") ([("div" : Str), "mod"].map V.str) else inV (.str "+") ([("div" : Str), "mod"].map V.str)) = false by decide +kernel]
    refine ⟨_, rfl, ?_⟩
    have hp := hP "+"
    rw [if_neg (by decide +kernel)] at hp
    refine iteF ?_
    rw [if_neg (by rintro ⟨h, _⟩; exact absurd h (by decide +kernel))] at hp
    refine ⟨_, rfl, _, rfl, _, _, rfl, rfl, ?_⟩
    refine ⟨_, rfl, rfl, _, rfl, yes ?_⟩
    refine ⟨_, rfl, _, rfl, _, _, rfl, rfl, ?_⟩
    refine ⟨_, rfl, rfl, _, rfl, no (by decide +kernel) ?_⟩
    refine ⟨_, rfl, rfl, _, rfl, no (by decide +kernel) ?_⟩
    refine ⟨_, rfl, rfl, _, rfl, no (by decide +kernel) ?_⟩
    have hw : workA "+" i j = i + j := by
      unfold workA
      rw [if_pos rfl]
    rw [hw] at hp
    have e15 : ((10 : Int) ^ Int.toNat 15) = 1000000000000000 := by decide
    refine ⟨_, rfl, _, rfl, _, _, rfl, rfl, ⟨by decide, by decide, by decide⟩, _, _, rfl, rfl, _, rfl, ?_⟩
    refine ite2 (fun h => ?_) (fun h => ?_)
    · have h := of_decide_eq_true h
      rw [e15] at h
      rw [if_neg (by split at h <;> omega)] at hp
      exact ⟨by show 2 ≤ sizeLine; decide, fun t ht => flt _ hp _ s2 t ht⟩
    · have h := of_decide_eq_false (Bool.eq_false_iff.mpr h)
      rw [e15] at h
      rw [if_pos (by split at h <;> omega)] at hp
      exact ⟨_, rfl, by show 2 ≤ sizeLine; decide, fun t ht => nmb _ hp _ s2 t ht⟩
  · rw [show decide (("-" : Str) ∈ [("==" : Str), "<", "<="]) = false by decide +kernel]
    refine iteF ?_
    refine ⟨_, rfl, by show 2 ≤ sizeLine; decide, fun t2 ht2 => ?_⟩
    have s2 := same_new ht2 (.tup [.str "div", .str "mod"])
    have e2 : upd H1 t2 (.tup [.str "div", .str "mod"]) t2 = some (.tup ([("div" : Str), "mod"].map V.str)) := upd_same
    generalize upd H1 t2 (.tup [.str "div", .str "mod"]) = H2 at s2 e2 ⊢
    refine ⟨t2, _, rfl, .inr (SqT.of e2), rfl, flat_strs _, ?_⟩
    rw [show (if false = true then !inV (.str "-") ([("div" : Str), "mod"].map V.str) else inV (.str "-") ([("div" : Str), "mod"].map V.str)) = false by decide +kernel]
    refine ⟨_, rfl, ?_⟩
    have hp := hP "-"
    rw [if_neg (by decide +kernel)] at hp
    refine iteF ?_
    rw [if_neg (by rintro ⟨h, _⟩; exact absurd h (by decide +kernel))] at hp
    refine ⟨_, rfl, _, rfl, _, _, rfl, rfl, ?_⟩
    refine ⟨_, rfl, rfl, _, rfl, no (by decide +kernel) ?_⟩
    refine ⟨_, rfl, rfl, _, rfl, no (by decide +kernel) ?_⟩
    refine ⟨_, rfl, rfl, _, rfl, no (by decide +kernel) ?_⟩
    refine ⟨_, rfl, rfl, _, rfl, no (by decide +kernel) ?_⟩
    have hw : workA "-" i j = i - j := by
      unfold workA
      rw [if_neg (by decide +kernel), if_pos rfl]
    rw [hw] at hp
    have e15 : ((10 : Int) ^ Int.toNat 15) = 1000000000000000 := by decide
    refine ⟨_, rfl, _, rfl, _, _, rfl, rfl, ⟨by decide, by decide, by decide⟩, _, _, rfl, rfl, _, rfl, ?_⟩
    refine ite2 (fun h => ?_) (fun h => ?_)
    · have h := of_decide_eq_true h
      rw [e15] at h
      rw [if_neg (by split at h <;> omega)] at hp
      exact ⟨by show 2 ≤ sizeLine; decide, fun t ht => flt _ hp _ s2 t ht⟩
    · have h := of_decide_eq_false (Bool.eq_false_iff.mpr h)
      rw [e15] at h
      rw [if_pos (by split at h <;> omega)] at hp
      exact ⟨_, rfl, by show 2 ≤ sizeLine; decide, fun t ht => nmb _ hp _ s2 t ht⟩
  · rw [show decide (("*" : Str) ∈ [("==" : Str), "<", "<="]) = false by decide +kernel]
    refine iteF ?_
    refine ⟨_, rfl, by show 2 ≤ sizeLine; decide, fun t2 ht2 => ?_⟩
    have s2 := same_new ht2 (.tup [.str "div", .str "mod"])
    have e2 : upd H1 t2 (.tup [.str "div", .str "mod"]) t2 = some (.tup ([("div" : Str), "mod"].map V.str)) := upd_same
    generalize upd H1 t2 (.tup [.str "div", .str "mod"]) = H2 at s2 e2 ⊢
    refine ⟨t2, _, rfl, .inr (SqT.of e2), rfl, flat_strs _, ?_⟩
    rw [show (if false = true then !inV (.str "*") ([("div" : Str), "mod"].map V.str) else inV (.str "*") ([("div" : Str), "mod"].map V.str)) = false by decide +kernel]
    refine ⟨_, rfl, ?_⟩
    have hp := hP "*"
    rw [if_neg (by decide +kernel)] at hp
    refine iteF ?_
    rw [if_neg (by rintro ⟨h, _⟩; exact absurd h (by decide +kernel))] at hp
    refine ⟨_, rfl, _, rfl, _, _, rfl, rfl, ?_⟩
    refine ⟨_, rfl, rfl, _, rfl, no (by decide +kernel) ?_⟩
    refine ⟨_, rfl, rfl, _, rfl, yes ?_⟩
    refine ⟨_, rfl, _, rfl, _, _, rfl, rfl, .inl ⟨by omega, by omega⟩, ?_⟩
    refine ⟨_, rfl, rfl, _, rfl, no (by decide +kernel) ?_⟩
    refine ⟨_, rfl, rfl, _, rfl, no (by decide +kernel) ?_⟩
    have hw : workA "*" i j = i * j := by
      unfold workA
      rw [if_neg (by decide +kernel), if_neg (by decide +kernel), if_pos rfl]
    rw [hw] at hp
    have e15 : ((10 : Int) ^ Int.toNat 15) = 1000000000000000 := by decide
    refine ⟨_, rfl, _, rfl, _, _, rfl, rfl, ⟨by decide, by decide, by decide⟩, _, _, rfl, rfl, _, rfl, ?_⟩
    refine ite2 (fun h => ?_) (fun h => ?_)
    · have h := of_decide_eq_true h
      rw [e15] at h
      rw [if_neg (by split at h <;> omega)] at hp
      exact ⟨by show 2 ≤ sizeLine; decide, fun t ht => flt _ hp _ s2 t ht⟩
    · have h := of_decide_eq_false (Bool.eq_false_iff.mpr h)
      rw [e15] at h
      rw [if_pos (by split at h <;> omega)] at hp
      exact ⟨_, rfl, by show 2 ≤ sizeLine; decide, fun t ht => nmb _ hp _ s2 t ht⟩
  · rw [show decide (("div" : Str) ∈ [("==" : Str), "<", "<="]) = false by decide +kernel]
    refine iteF ?_
    refine ⟨_, rfl, by show 2 ≤ sizeLine; decide, fun t2 ht2 => ?_⟩
    have s2 := same_new ht2 (.tup [.str "div", .str "mod"])
    have e2 : upd H1 t2 (.tup [.str "div", .str "mod"]) t2 = some (.tup ([("div" : Str), "mod"].map V.str)) := upd_same
    generalize upd H1 t2 (.tup [.str "div", .str "mod"]) = H2 at s2 e2 ⊢
    refine ⟨t2, _, rfl, .inr (SqT.of e2), rfl, flat_strs _, ?_⟩
    rw [show (if false = true then !inV (.str "div") ([("div" : Str), "mod"].map V.str) else inV (.str "div") ([("div" : Str), "mod"].map V.str)) = true by decide +kernel]
    refine ⟨_, rfl, ?_⟩
    have hp := hP "div"
    rw [if_neg (by decide +kernel)] at hp
    refine iteT ?_
    refine ⟨_, rfl, rfl, _, rfl, ?_⟩
    by_cases hj : j = 0
    · rw [show decide (V.int j = V.int 0) = true from decide_eq_true (by rw [hj])]
      refine iteT ?_
      rw [if_pos ⟨by decide +kernel, hj⟩] at hp
      exact ⟨by show 2 ≤ sizeLine; decide, fun t ht => flt _ hp _ s2 t ht⟩
    rw [show decide (V.int j = V.int 0) = false from decide_eq_false fun e => hj (V.int.inj e)]
    refine iteF ?_
    rw [if_neg (fun h => hj h.2)] at hp
    refine ⟨_, rfl, _, rfl, _, _, rfl, rfl, ?_⟩
    refine ⟨_, rfl, rfl, _, rfl, no (by decide +kernel) ?_⟩
    refine ⟨_, rfl, rfl, _, rfl, no (by decide +kernel) ?_⟩
    refine ⟨_, rfl, rfl, _, rfl, yes ?_⟩
    refine ⟨_, rfl, _, rfl, _, _, rfl, rfl, ⟨hj, log15 hj0 hj1⟩, ?_⟩
    refine ⟨_, rfl, rfl, _, rfl, no (by decide +kernel) ?_⟩
    have hw : workA "div" i j = i.fdiv j := by
      unfold workA
      rw [if_neg (by decide +kernel), if_neg (by decide +kernel), if_neg (by decide +kernel), if_pos rfl]
    rw [hw] at hp
    have e15 : ((10 : Int) ^ Int.toNat 15) = 1000000000000000 := by decide
    refine ⟨_, rfl, _, rfl, _, _, rfl, rfl, ⟨by decide, by decide, by decide⟩, _, _, rfl, rfl, _, rfl, ?_⟩
    refine ite2 (fun h => ?_) (fun h => ?_)
    · have h := of_decide_eq_true h
      rw [e15] at h
      rw [if_neg (by split at h <;> omega)] at hp
      exact ⟨by show 2 ≤ sizeLine; decide, fun t ht => flt _ hp _ s2 t ht⟩
    · have h := of_decide_eq_false (Bool.eq_false_iff.mpr h)
      rw [e15] at h
      rw [if_pos (by split at h <;> omega)] at hp
      exact ⟨_, rfl, by show 2 ≤ sizeLine; decide, fun t ht => nmb _ hp _ s2 t ht⟩
  · rw [show decide (("mod" : Str) ∈ [("==" : Str), "<", "<="]) = false by decide +kernel]
    refine iteF ?_
    refine ⟨_, rfl, by show 2 ≤ sizeLine; decide, fun t2 ht2 => ?_⟩
    have s2 := same_new ht2 (.tup [.str "div", .str "mod"])
    have e2 : upd H1 t2 (.tup [.str "div", .str "mod"]) t2 = some (.tup ([("div" : Str), "mod"].map V.str)) := upd_same
    generalize upd H1 t2 (.tup [.str "div", .str "mod"]) = H2 at s2 e2 ⊢
    refine ⟨t2, _, rfl, .inr (SqT.of e2), rfl, flat_strs _, ?_⟩
    rw [show (if false = true then !inV (.str "mod") ([("div" : Str), "mod"].map V.str) else inV (.str "mod") ([("div" : Str), "mod"].map V.str)) = true by decide +kernel]
    refine ⟨_, rfl, ?_⟩
    have hp := hP "mod"
    rw [if_neg (by decide +kernel)] at hp
    refine iteT ?_
    refine ⟨_, rfl, rfl, _, rfl, ?_⟩
    by_cases hj : j = 0
    · rw [show decide (V.int j = V.int 0) = true from decide_eq_true (by rw [hj])]
      refine iteT ?_
      rw [if_pos ⟨by decide +kernel, hj⟩] at hp
      exact ⟨by show 2 ≤ sizeLine; decide, fun t ht => flt _ hp _ s2 t ht⟩
    rw [show decide (V.int j = V.int 0) = false from decide_eq_false fun e => hj (V.int.inj e)]
    refine iteF ?_
    rw [if_neg (fun h => hj h.2)] at hp
    refine ⟨_, rfl, _, rfl, _, _, rfl, rfl, ?_⟩
    refine ⟨_, rfl, rfl, _, rfl, no (by decide +kernel) ?_⟩
    refine ⟨_, rfl, rfl, _, rfl, no (by decide +kernel) ?_⟩
    refine ⟨_, rfl, rfl, _, rfl, no (by decide +kernel) ?_⟩
    refine ⟨_, rfl, rfl, _, rfl, yes ?_⟩
    refine ⟨_, rfl, _, rfl, _, rfl, _, rfl, _, _, rfl, rfl, ⟨hj, log15 hj0 hj1⟩, _, _, rfl, rfl, .inl ⟨by omega, by omega⟩, _, _, rfl, rfl, ?_⟩
    have hw : workA "mod" i j = i - j * i.fdiv j := by
      unfold workA
      rw [if_neg (by decide +kernel), if_neg (by decide +kernel), if_neg (by decide +kernel), if_neg (by decide +kernel)]
      exact Int.fmod_def i j
    rw [hw] at hp
    have e15 : ((10 : Int) ^ Int.toNat 15) = 1000000000000000 := by decide
    refine ⟨_, rfl, _, rfl, _, _, rfl, rfl, ⟨by decide, by decide, by decide⟩, _, _, rfl, rfl, _, rfl, ?_⟩
    refine ite2 (fun h => ?_) (fun h => ?_)
    · have h := of_decide_eq_true h
      rw [e15] at h
      rw [if_neg (by split at h <;> omega)] at hp
      exact ⟨by show 2 ≤ sizeLine; decide, fun t ht => flt _ hp _ s2 t ht⟩
    · have h := of_decide_eq_false (Bool.eq_false_iff.mpr h)
      rw [e15] at h
      rw [if_pos (by split at h <;> omega)] at hp
      exact ⟨_, rfl, by show 2 ≤ sizeLine; decide, fun t ht => nmb _ hp _ s2 t ht⟩
  · rw [show decide (("==" : Str) ∈ [("==" : Str), "<", "<="]) = true by decide +kernel]
    refine iteT ?_
    refine ⟨_, rfl, _, rfl, rfl, ?_⟩
    refine ⟨_, rfl, rfl, _, rfl, no (by decide +kernel) ?_⟩
    refine ⟨_, rfl, rfl, _, rfl, no (by decide +kernel) ?_⟩
    have hp := hP "=="
    rw [if_pos (by decide +kernel)] at hp
    have hh : holdsA "==" i j = decide (V.int i = V.int j) := by
      unfold holdsA
      rw [if_pos rfl]
      exact decide_eq_decide.mpr ⟨fun e => by rw [e], fun e => V.int.inj e⟩
    rw [hh] at hp
    refine ⟨_, rfl, .inr ⟨_, rfl, ?_⟩⟩
    refine ⟨by show 0 ≤ sizeLine; decide, fun u hu => ⟨by show 4 ≤ sizeLine; decide, fun t ht => ?_⟩⟩
    exact cmp _ hp u hu t ht
  · rw [show decide (("<" : Str) ∈ [("==" : Str), "<", "<="]) = true by decide +kernel]
    refine iteT ?_
    refine ⟨_, rfl, _, rfl, rfl, ?_⟩
    refine ⟨_, rfl, rfl, _, rfl, yes ?_⟩
    refine ⟨_, rfl, _, rfl, _, _, rfl, rfl, ?_⟩
    refine ⟨_, rfl, rfl, _, rfl, no (by decide +kernel) ?_⟩
    have hp := hP "<"
    rw [if_pos (by decide +kernel)] at hp
    have hh : holdsA "<" i j = decide (i < j) := by
      unfold holdsA
      rw [if_neg (by decide +kernel), if_pos rfl]
    rw [hh] at hp
    refine ⟨_, rfl, .inr ⟨_, rfl, ?_⟩⟩
    refine ⟨by show 0 ≤ sizeLine; decide, fun u hu => ⟨by show 4 ≤ sizeLine; decide, fun t ht => ?_⟩⟩
    exact cmp _ hp u hu t ht
  · rw [show decide (("<=" : Str) ∈ [("==" : Str), "<", "<="]) = true by decide +kernel]
    refine iteT ?_
    refine ⟨_, rfl, _, rfl, rfl, ?_⟩
    refine ⟨_, rfl, rfl, _, rfl, no (by decide +kernel) ?_⟩
    refine ⟨_, rfl, rfl, _, rfl, yes ?_⟩
    refine ⟨_, rfl, _, rfl, _, _, rfl, rfl, ?_⟩
    have hp := hP "<="
    rw [if_pos (by decide +kernel)] at hp
    have hh : holdsA "<=" i j = decide (i ≤ j) := by
      unfold holdsA
      rw [if_neg (by decide +kernel), if_neg (by decide +kernel)]
    rw [hh] at hp
    refine ⟨_, rfl, .inr ⟨_, rfl, ?_⟩⟩
    refine ⟨by show 0 ≤ sizeLine; decide, fun u hu => ⟨by show 4 ≤ sizeLine; decide, fun t ht => ?_⟩⟩
    exact cmp _ hp u hu t ht
end
end Toy

set_option Elab.async false
set_option linter.all false
set_option maxRecDepth 100000
set_option maxHeartbeats 4000000
/-! Part MH: the law's machine: choices, a step up. -/
namespace Toy
open PySem L2
open PyProof.Rows (envOfC)
def Head.word : Head → Str
  | .num _ => "num"
  | .con _ _ _ => "con"
  | .fn _ _ _ => "fun"
theorem hd_word {H : Hp} {h : Head} {v : V} (hh : h.L H v) : ∃ a xs, v = .ref a ∧ H a = some (.tup (.str h.word :: xs)) := by
  cases h with
  | num i => rw [Head.L] at hh; obtain ⟨a, h1, h2⟩ := hh; exact ⟨a, _, h1, h2⟩
  | con t l e => rw [Head.L] at hh; obtain ⟨a, p, xs, ev, h1, h2, _⟩ := hh; exact ⟨a, _, h1, h2⟩
  | fn x b e => rw [Head.L] at hh; obtain ⟨a, bv, ev, h1, h2, _⟩ := hh; exact ⟨a, _, h1, h2⟩
/-- what a choice gives -/
def ResB (H : Hp) (o : Out) (v : V) : Prop := match o with
  | .stuck => False
  | .fault s => ∃ a, v = .ref a ∧ H a = some (.tup [.str "fault", .str s])
  | .go m => match m.ctl with
    | .ev t e => ∃ (a : Addr) (tv ev : V), v = .ref a ∧ H a = some (.tup [tv, ev]) ∧ t.At F0 H tv ∧ e.L H ev
    | .hd _ => False
theorem bindAll_at {x : Str} {t : Dd} {te e : Env} {xs : List Str} {ts : List Dd} : bindAll (x :: xs) (t :: ts) te e = bindAll xs ts te (.bind x t te e) := by rw [bindAll]
theorem bindAll_nil {te e : Env} {ts : List Dd} : bindAll [] ts te e = e := by rw [bindAll]; intro _ _ _ _ h; cases h
/-- choices: what is chosen does not hang on the stack and the events -/
theorem dflt_ok (d : Dd) (h : Head) (e : Env) (stk : List Frm) (evs : List Int) : (∃ x b, d = .tup [.str x, b] ∧ ∀ stk evs, dfltA d h e stk evs = .go ⟨.ev b (.hd x h e), stk, evs⟩) ∨ ∀ stk evs, dfltA d h e stk evs = .fault "no match" := by
  unfold dfltA
  split
  · exact .inl ⟨_, _, rfl, fun _ _ => rfl⟩
  · exact .inr fun _ _ => rfl
section
variable {P : Program} {w : World} {K : PySem.W.Frag} {mg : Str → Option Value} {base : Heap}
structure TxtBr (mg : Str → Option Value) : Prop where
  zlen : mg "len" = none
  zrange : mg "range" = none
abbrev sLBranch : Stmt := topS 55
theorem scLBranch : FnScope ["frame", "head", "tag", "names", "body", "env", "k", "number"] ["frame", "head"] (defScope sLBranch) := ⟨rfl, rfl, rfl, by decide +kernel, rfl, by decide +kernel, by decide +kernel⟩
def spLBr : Sp := fun vs H Q _ => ∃ (z : Str) (rows : List Dd) (d : Dd) (e : Env) (fv : V) (h : Head) (hv : V), vs = [fv, hv] ∧ (Frm.ch z rows d e).L H fv ∧ h.L H hv ∧ rows.length ≤ 1000000 ∧ DfShape d ∧
  ((z = "case" ∧ (∃ t l e', h = .con t l e' ∧ l.length ≤ 1000000) ∧ ∀ q ∈ rows, CaseRow q) ∨ (z = "pick" ∧ (∃ i, h = .num i) ∧ ∀ q ∈ rows, PickRow q)) ∧ ∀ (v' : V) (H' : Hp), Same H H' → ResB H' (upA (.ch z rows d e) h [] []) v' → Q v' H'
theorem c_lbr {f : Addr} {fd : FuncData} (T : TxtBr mg) (F : Fun K "_law_branch" "_law_branch" sLBranch f fd) (b : Binds K fd ["frame", "head"] []) (hm : mg "_law_branch" = some (.ref f)) : C8.Cal P w K mg base 1 "_law_branch" spLBr [] := by
  refine cal_of F hm b scLBranch (fun vs H Q E h => ?_) (fun cdv A outer s H vs Q E hr h => ?_)
  · obtain ⟨z, rows, d, e, fv, h, hv, rfl, _⟩ := h
    rfl
  obtain ⟨z, rows, d, e, fv, h, hv, rfl, hf, hh, hrl, hdf, hz, q⟩ := h
  refine ⟨_, (pss_cons (ps_if (pt_cmpR op_eq (pe_ix ix_tup (pv 0) pe_int (fun _ _ => rfl)) pe_str (nomark _))
      (pss_one (ps_for PassesOwn.never rfl (pi_tup (pe_ix ix_tup (pv 0) pe_int (fun _ _ => rfl))) (pg_tup rfl (pgs_cons (pg_name (i := 2) scLBranch.nd rfl (Or.inl rfl)) (pgs_cons (pg_name (i := 3) scLBranch.nd rfl (Or.inl rfl)) (pgs_cons (pg_name (i := 4) scLBranch.nd rfl (Or.inl rfl)) pgs_nil))))
      (pss_one (ps_if (PW.pt (pw_and (pt_cmpR op_eq (pv 2) (pe_ix ix_tup (pv 1) pe_int (fun _ _ => rfl)) (nomark _)) (pw_and1 (pt_cmpR op_eq (pe_callB call_len_seq rfl T.zlen PySem.boot_len (pa_cons (pv 3) pa_nil)) (pe_callB call_len_seq rfl T.zlen PySem.boot_len (pa_cons (pe_ix ix_tup (pv 1) pe_int (fun _ _ => rfl)) pa_nil)) (nomark _)))))
      (pss_cons (ps_set (i := 5) scLBranch.nd rfl (Or.inl rfl) (pe_ix ix_tup (pv 0) pe_int (fun _ _ => rfl)))
    (pss_cons (ps_for PassesOwn.never rfl (pi_range1 rfl T.zrange (pa_cons (pe_callB call_len_seq rfl T.zlen PySem.boot_len (pa_cons (pv 3) pa_nil)) pa_nil)) (pg_name (i := 6) scLBranch.nd rfl (Or.inl rfl))
      (pss_one (ps_set (i := 5) scLBranch.nd rfl (Or.inl rfl) (pe_tup (pa_cons pe_str (pa_cons (pe_ix ix_tup (pv 3) (pv 6) (fun _ _ => rfl)) (pa_cons (pe_ix ix_tup (pe_ix ix_tup (pv 1) pe_int (fun _ _ => rfl)) (pv 6) (fun _ _ => rfl)) (pa_cons (pe_ix ix_tup (pv 1) pe_int (fun _ _ => rfl)) (pa_cons (pv 5) pa_nil)))))))))
    (pss_one (ps_ret (pe_tup (pa_cons (pv 4) (pa_cons (pv 5) pa_nil)))))))
      pss_nil))))
      (pss_one (ps_for PassesOwn.never rfl (pi_tup (pe_ix ix_tup (pv 0) pe_int (fun _ _ => rfl))) (pg_tup rfl (pgs_cons (pg_name (i := 7) scLBranch.nd rfl (Or.inl rfl)) (pgs_cons (pg_name (i := 4) scLBranch.nd rfl (Or.inl rfl)) pgs_nil)))
      (pss_one (ps_if (pt_cmpR op_eq (pv 7) (pe_ix ix_tup (pv 1) pe_int (fun _ _ => rfl)) (nomark _))
      (pss_one (ps_ret (pe_tup (pa_cons (pv 4) (pa_cons (pe_ix ix_tup (pv 0) pe_int (fun _ _ => rfl)) pa_nil)))))
      pss_nil)))))
    (pss_cons (ps_if (pt_cmpR op_isN (pe_ix ix_tup (pv 0) pe_int (fun _ _ => rfl)) pe_non (nomark _))
      (pss_one (ps_ret (pe_tup (pa_cons pe_str (pa_cons pe_str pa_nil)))))
      pss_nil)
    (pss_one (ps_ret (pe_tup (pa_cons (pe_ix ix_tup (pe_ix ix_tup (pv 0) pe_int (fun _ _ => rfl)) pe_int (fun _ _ => rfl)) (pa_cons (pe_tup (pa_cons pe_str (pa_cons (pe_ix ix_tup (pe_ix ix_tup (pv 0) pe_int (fun _ _ => rfl)) pe_int (fun _ _ => rfl)) (pa_cons (pv 1) (pa_cons (pe_ix ix_tup (pv 0) pe_int (fun _ _ => rfl)) pa_nil))))) pa_nil))))))), ?_⟩
  obtain ⟨a, p, xs, dv, ev, rfl, ha, hp, hxs, hd, he⟩ := hf
  have hxl := ats_len hxs
  have hbig : 5000000 < sizeLine := by decide
  -- the default
  have dflt : (∀ stk evs, upA (.ch z rows d e) h stk evs = dfltA d h e stk evs) → (d = .non ∧ dv = .non ∧ (∀ t, H t = none → Q (.ref t) (upd H t (.tup [.str "fault", .str "no match"])))) ∨
      ∃ (ta : Addr) (x : Str) (bv : V), dv = .ref ta ∧ H ta = some (.tup [.str x, bv]) ∧ ∀ t1, H t1 = none → ∀ t2, upd H t1 (.tup [.str "head", .str x, hv, ev]) t2 = none → Q (.ref t2) (upd (upd H t1 (.tup [.str "head", .str x, hv, ev])) t2 (.tup [bv, .ref t1])) := by
    intro hup
    rcases hdf with rfl | ⟨x, b, rfl, hx⟩
    · cases (show dv = .non from hd)
      refine .inl ⟨rfl, rfl, fun t ht => ?_⟩
      refine q _ _ (same_new ht _) ?_
      rw [hup]
      exact ⟨t, rfl, upd_same⟩
    · obtain ⟨ta, x1, bv, rfl, hta, hx1, hbv⟩ := pair_at (m := [.str x, b]) hd rfl
      obtain ⟨rfl, _⟩ := (show x1 = .str x ∧ _ from hx1)
      refine .inr ⟨ta, x, bv, rfl, hta, fun t1 ht1 t2 ht2 => ?_⟩
      have s1 := same_new ht1 (.tup [.str "head", .str x, hv, ev])
      have s2 := same_new ht2 (.tup [bv, .ref t1])
      have s12 := sameT s1 s2
      refine q _ _ s12 ?_
      rw [hup]
      refine ⟨t2, bv, .ref t1, rfl, upd_same, (show b.At F0 H bv from hbv).keep (fr_same s12), ?_⟩
      rw [Env.L]
      exact ⟨t1, hv, ev, rfl, s2 _ _ upd_same, hh.keep (fr_same s12), he.keep (fr_same s12)⟩
  refine ⟨_, rfl, a, _, 0, _, rfl, rfl, SqT.of ha, at0 _ _, rfl, _, rfl, ?_⟩
  rcases hz with ⟨rfl, ⟨tg, l, e', rfl, hll⟩, hrw⟩ | ⟨rfl, ⟨i, rfl⟩, hrw⟩
  · show if decide (V.str "case" = V.str "case") = true then _ else _
    rw [wtt]
    refine iteT ?_
    have hh2 := hh
    rw [Head.L] at hh2
    obtain ⟨ha2, lp, lxs, lev, rfl, hha, hlp, hlx, hle⟩ := hh2
    have hlxl := ats_len hlx
    have hup : ∀ stk evs, upA (.ch "case" rows d e) (.con tg l e') stk evs = (match rows.find? (caseHit tg l.length) with
        | some q => .go ⟨.ev (nth 2 q) (bindAll (strsOf (nth 1 q)) l e' e), stk, evs⟩
        | none => dfltA d (.con tg l e') e stk evs) := fun stk evs => by
      unfold upA
      exact if_pos rfl
    refine ⟨_, rfl, a, _, 1, _, rfl, rfl, SqT.of ha, at1 _ _ _, p, rfl, ⟨_, SqT.of hp⟩, for_tup (a := p) (xs := xs) (fun i σ G => ∃ (v2 v3 v4 v5 v6 v7 : Option V), σ = [some (.ref a), some (.ref ha2), v2, v3, v4, v5, v6, v7] ∧ G = H ∧ (rows.drop i).find? (caseHit tg l.length) = rows.find? (caseHit tg l.length))
      ⟨_, _, _, _, _, _, rfl, rfl, rfl⟩ (fun i σ G _ ⟨_, _, _, _, _, _, _, h, _⟩ => by rw [h]; exact SqT.of hp) ?_ ?_⟩
    · rintro i x σ G hx ⟨v2, v3, v4, v5, v6, v7, rfl, rfl, hfd⟩
      obtain ⟨qq, hq, hqa⟩ := ats_get hxs hx
      obtain ⟨ti, ns, bb, rfl, hnd, hnn⟩ := hrw qq (List.mem_of_getElem? hq)
      rw [drop_at hq, List.find?_cons] at hfd
      obtain ⟨tt, ws, rfl, htt, y1, w1, rfl, hy1, y2, w2, rfl, hy2, y3, w3, rfl, hy3, hn⟩ := hqa
      cases (show w3 = [] from hn)
      cases (show y1 = .int ti from hy1)
      obtain ⟨np, nxs, rfl, hnp, hnx⟩ := hy2
      obtain ⟨rfl, hns⟩ := ats_strs_eq hnx
      refine ⟨tt, _, rfl, SqT.of htt, rfl, _, _, rfl, _, _, rfl, _, _, rfl, rfl, ?_⟩
      refine ⟨_, rfl, _, rfl, ha2, _, 1, _, rfl, rfl, SqT.of hha, at1 _ _ _, rfl, _, rfl, ?_⟩
      have hhit : caseHit tg l.length (.tup [.int ti, nameT ns, bb]) = (decide (ti = tg) && decide (ns.length = l.length)) := by
        show (decide (ti = tg) && decide ((ns.map Dd.str).length = l.length)) = _
        rw [List.length_map]
      rw [hhit] at hfd
      by_cases c1 : ti = tg
      · rw [show decide (V.int ti = V.int tg) = true from decide_eq_true (by rw [c1])]
        refine iteT ?_
        refine ⟨_, rfl, np, _, rfl, .inr (SqT.of hnp), _, rfl, ha2, _, 2, _, rfl, rfl, SqT.of hha, at2 _ _ _ _, lp, _, rfl, .inr (SqT.of hlp), rfl, _, rfl, ?_⟩
        rw [List.length_map, hlxl]
        by_cases c2 : ns.length = l.length
        · rw [show decide (V.int ((ns.length : Nat) : Int) = V.int ((l.length : Nat) : Int)) = true from decide_eq_true (by rw [c2])]
          refine iteT ?_
          rw [decide_eq_true c1, decide_eq_true c2] at hfd
          have hfd : some (Dd.tup [.int ti, nameT ns, bb]) = rows.find? (caseHit tg l.length) := hfd
          refine ⟨_, rfl, a, _, 3, _, rfl, rfl, SqT.of ha, at3 _ _ _ _ _, ?_⟩
          refine ⟨_, rfl, np, _, rfl, .inr (SqT.of hnp), _, rfl, by omega, by rw [List.length_map]; omega, for_range
            (fun (k : Nat) σ G' => ∃ (ek : Env) (evk : V) (vk : Option V), σ = [some (.ref a), some (.ref ha2), some (.int ti), some (.ref np), some y3, some evk, vk, v7] ∧ Same G G' ∧ ek.L G' evk ∧ bindAll (ns.drop k) (l.drop k) e' ek = bindAll ns l e' e)
            ⟨e, ev, _, rfl, fun _ _ e => e, he, rfl⟩ ?_ ?_⟩
          · rintro k σ G' hk ⟨ek, evk, vk, rfl, sG, hek, hba⟩
            rw [List.length_map] at hk
            have hk : k < ns.length := by omega
            rw [show (0 : Int) + (k : Int) = (k : Int) from Int.zero_add _]
            obtain ⟨nk, hnk⟩ : ∃ z, ns[k]? = some z := ⟨ns[k], List.getElem?_eq_getElem _⟩
            obtain ⟨lk, hlk⟩ : ∃ z, l[k]? = some z := ⟨l[k]'(by omega), List.getElem?_eq_getElem _⟩
            obtain ⟨xk, hxk, hxk2⟩ := ats_getI hlx hlk
            rw [drop_at hnk, drop_at hlk, bindAll_at] at hba
            refine ⟨_, rfl, _, rfl, np, _, (k : Int), _, rfl, rfl, SqT.of (sG _ _ hnp), atI_nat (by rw [List.getElem?_map, hnk]; rfl), _, rfl, ha2, _, 2, _, rfl, rfl, SqT.of (sG _ _ hha), at2 _ _ _ _, _, rfl, lp, _, (k : Int), _, rfl, rfl, SqT.of (sG _ _ hlp), atI_nat hxk, _, rfl, ha2, _, 3, _, rfl, rfl, SqT.of (sG _ _ hha), at3 _ _ _ _ _, _, rfl, by show 5 ≤ sizeLine; decide, fun t8 ht8 => ?_⟩
            have s8 := same_new ht8 (.tup [.str "bind", .str nk, xk, lev, evk])
            refine ⟨.bind nk lk e' ek, .ref t8, _, rfl, sameT sG s8, ?_, hba⟩
            rw [Env.L]
            exact ⟨t8, xk, lev, evk, rfl, upd_same, hxk2.keep (fr_same (sameT sG s8)), hle.keep (fr_same (sameT sG s8)), hek.keep (fr_same s8)⟩
          · rintro σ G' ⟨ek, evk, vk, rfl, sG, hek, hba⟩
            rw [List.length_map, show ((ns.length : Int)).toNat = ns.length by omega, List.drop_length, bindAll_nil] at hba
            refine ⟨_, rfl, _, rfl, by show 2 ≤ sizeLine; decide, fun t9 ht9 => ?_⟩
            have s9 := same_new ht9 (.tup [y3, evk])
            refine q _ _ (sameT sG s9) ?_
            rw [hup, ← hfd]
            refine ⟨t9, y3, evk, rfl, upd_same, hy3.keep (fr_same (sameT sG s9)), ?_⟩
            show Env.L _ (bindAll ((ns.map Dd.str).map strOf) l e' e) _
            rw [show (ns.map Dd.str).map strOf = ns by rw [List.map_map]; exact List.map_id _, ← hba]
            exact hek.keep (fr_same s9)
        · rw [show decide (V.int ((ns.length : Nat) : Int) = V.int ((l.length : Nat) : Int)) = false from decide_eq_false fun e => c2 (by have := V.int.inj e; omega)]
          refine iteF ?_
          rw [decide_eq_false c2, Bool.and_false] at hfd
          exact ⟨_, _, _, _, _, _, rfl, rfl, hfd⟩
      · rw [show decide (V.int ti = V.int tg) = false from decide_eq_false fun e => c1 (V.int.inj e)]
        refine iteF ?_
        rw [decide_eq_false c1, Bool.false_and] at hfd
        exact ⟨_, _, _, _, _, _, rfl, rfl, hfd⟩
    · rintro σ G ⟨v2, v3, v4, v5, v6, v7, rfl, rfl, hfd⟩
      rw [hxl, List.drop_length] at hfd
      have hfd : rows.find? (caseHit tg l.length) = none := hfd.symm
      rcases dflt fun stk evs => by rw [hup, hfd] with ⟨rfl, rfl, h1⟩ | ⟨ta, x, bv, rfl, hta, h1⟩
      · refine ⟨_, rfl, a, _, 2, _, rfl, rfl, SqT.of ha, at2 _ _ _ _, rfl, _, rfl, ?_⟩
        refine iteT ?_
        exact ⟨by show 2 ≤ sizeLine; decide, h1⟩
      · refine ⟨_, rfl, a, _, 2, _, rfl, rfl, SqT.of ha, at2 _ _ _ _, rfl, _, rfl, ?_⟩
        refine iteF ?_
        exact ⟨_, rfl, a, _, 2, _, rfl, rfl, SqT.of ha, at2 _ _ _ _, ta, _, 1, _, rfl, rfl, SqT.of hta, at1 _ _ _, _, rfl, a, _, 2, _, rfl, rfl, SqT.of ha, at2 _ _ _ _, ta, _, 0, _, rfl, rfl, SqT.of hta, at0 _ _, _, rfl, _, rfl, a, _, 3, _, rfl, rfl, SqT.of ha, at3 _ _ _ _ _, by show 4 ≤ sizeLine; decide, fun t1 ht1 => ⟨by show 2 ≤ sizeLine; decide, h1 t1 ht1⟩⟩
  · show if decide (V.str "pick" = V.str "case") = true then _ else _
    rw [wne (by decide +kernel)]
    refine iteF ?_
    have hh2 := hh
    rw [Head.L] at hh2
    obtain ⟨ha2, rfl, hha⟩ := hh2
    have hup : ∀ stk evs, upA (.ch "pick" rows d e) (.num i) stk evs = (match rows.find? (pickHit i) with
        | some q => .go ⟨.ev (nth 1 q) e, stk, evs⟩
        | none => dfltA d (.num i) e stk evs) := fun stk evs => by
      unfold upA
      exact if_neg (show ¬ ("pick" : Str) = "case" by decide +kernel)
    refine ⟨_, rfl, a, _, 1, _, rfl, rfl, SqT.of ha, at1 _ _ _, p, rfl, ⟨_, SqT.of hp⟩, for_tup (a := p) (xs := xs) (fun j σ G => ∃ (v2 v3 v4 v5 v6 v7 : Option V), σ = [some (.ref a), some (.ref ha2), v2, v3, v4, v5, v6, v7] ∧ G = H ∧ (rows.drop j).find? (pickHit i) = rows.find? (pickHit i))
      ⟨_, _, _, _, _, _, rfl, rfl, rfl⟩ (fun i σ G _ ⟨_, _, _, _, _, _, _, h, _⟩ => by rw [h]; exact SqT.of hp) ?_ ?_⟩
    · rintro j x σ G hx ⟨v2, v3, v4, v5, v6, v7, rfl, rfl, hfd⟩
      obtain ⟨qq, hq, hqa⟩ := ats_get hxs hx
      obtain ⟨ti, bb, rfl⟩ := hrw qq (List.mem_of_getElem? hq)
      rw [drop_at hq, List.find?_cons] at hfd
      obtain ⟨tt, ws, rfl, htt, y1, w1, rfl, hy1, y3, w3, rfl, hy3, hn⟩ := hqa
      cases (show w3 = [] from hn)
      cases (show y1 = .int ti from hy1)
      refine ⟨tt, _, rfl, SqT.of htt, rfl, _, _, rfl, _, _, rfl, rfl, ?_⟩
      refine ⟨_, rfl, _, rfl, ha2, _, 1, _, rfl, rfl, SqT.of hha, at1 _ _ _, rfl, _, rfl, ?_⟩
      have hhit : pickHit i (.tup [.int ti, bb]) = decide (ti = i) := rfl
      rw [hhit] at hfd
      by_cases c1 : ti = i
      · rw [show decide (V.int ti = V.int i) = true from decide_eq_true (by rw [c1])]
        refine iteT ?_
        rw [decide_eq_true c1] at hfd
        refine ⟨_, rfl, _, rfl, a, _, 3, _, rfl, rfl, SqT.of ha, at3 _ _ _ _ _, by show 2 ≤ sizeLine; decide, fun t9 ht9 => ?_⟩
        have s9 := same_new ht9 (.tup [y3, ev])
        refine q _ _ s9 ?_
        rw [hup, ← hfd]
        exact ⟨t9, y3, ev, rfl, upd_same, hy3.keep (fr_same s9), he.keep (fr_same s9)⟩
      · rw [show decide (V.int ti = V.int i) = false from decide_eq_false fun e => c1 (V.int.inj e)]
        refine iteF ?_
        rw [decide_eq_false c1] at hfd
        exact ⟨_, _, _, _, _, _, rfl, rfl, hfd⟩
    · rintro σ G ⟨v2, v3, v4, v5, v6, v7, rfl, rfl, hfd⟩
      rw [hxl, List.drop_length] at hfd
      have hfd : rows.find? (pickHit i) = none := hfd.symm
      rcases dflt fun stk evs => by rw [hup, hfd] with ⟨rfl, rfl, h1⟩ | ⟨ta, x, bv, rfl, hta, h1⟩
      · refine ⟨_, rfl, a, _, 2, _, rfl, rfl, SqT.of ha, at2 _ _ _ _, rfl, _, rfl, ?_⟩
        refine iteT ?_
        exact ⟨by show 2 ≤ sizeLine; decide, h1⟩
      · refine ⟨_, rfl, a, _, 2, _, rfl, rfl, SqT.of ha, at2 _ _ _ _, rfl, _, rfl, ?_⟩
        refine iteF ?_
        exact ⟨_, rfl, a, _, 2, _, rfl, rfl, SqT.of ha, at2 _ _ _ _, ta, _, 1, _, rfl, rfl, SqT.of hta, at1 _ _ _, _, rfl, a, _, 2, _, rfl, rfl, SqT.of ha, at2 _ _ _ _, ta, _, 0, _, rfl, rfl, SqT.of hta, at0 _ _, _, rfl, _, rfl, a, _, 3, _, rfl, rfl, SqT.of ha, at3 _ _ _ _ _, by show 4 ≤ sizeLine; decide, fun t1 ht1 => ⟨by show 2 ≤ sizeLine; decide, h1 t1 ht1⟩⟩
end
end Toy

set_option Elab.async false
set_option linter.all false
set_option maxRecDepth 100000
set_option maxHeartbeats 4000000
/-! Part MI: the law's machine: a step up. -/
namespace Toy
open PySem L2
open PyProof.Rows (envOfC)
theorem up_ch {z : Str} {rows : List Dd} {d : Dd} {e : Env} {h : Head} (stk : List Frm) (evs : List Int) :
    (upA (.ch z rows d e) h [] [] = .stuck ∧ upA (.ch z rows d e) h stk evs = .stuck) ∨ (∃ f, upA (.ch z rows d e) h [] [] = .fault f ∧ upA (.ch z rows d e) h stk evs = .fault f) ∨
    ∃ t1 e1, upA (.ch z rows d e) h [] [] = .go ⟨.ev t1 e1, [], []⟩ ∧ upA (.ch z rows d e) h stk evs = .go ⟨.ev t1 e1, stk, evs⟩ := by
  have df : ∀ h : Head, (dfltA d h e [] [] = .stuck ∧ dfltA d h e stk evs = .stuck) ∨ (∃ f, dfltA d h e [] [] = .fault f ∧ dfltA d h e stk evs = .fault f) ∨ ∃ t1 e1, dfltA d h e [] [] = .go ⟨.ev t1 e1, [], []⟩ ∧ dfltA d h e stk evs = .go ⟨.ev t1 e1, stk, evs⟩ := by
    intro h
    rcases dflt_ok d h e stk evs with ⟨x, b, rfl, h1⟩ | h1
    · exact .inr (.inr ⟨_, _, h1 _ _, h1 _ _⟩)
    · exact .inr (.inl ⟨_, h1 _ _, h1 _ _⟩)
  by_cases hz : z = "case"
  · have e1 : ∀ stk evs, upA (.ch z rows d e) h stk evs = (match h with
      | .con tag args e' => (match rows.find? (caseHit tag args.length) with
        | some q => .go ⟨.ev (nth 2 q) (bindAll (strsOf (nth 1 q)) args e' e), stk, evs⟩
        | none => dfltA d h e stk evs)
      | _ => .stuck) := fun stk evs => by
      unfold upA
      exact if_pos hz
    rw [e1, e1]
    cases h with
    | num i => exact .inl ⟨rfl, rfl⟩
    | fn x b e2 => exact .inl ⟨rfl, rfl⟩
    | con tg l e2 =>
      dsimp only
      cases rows.find? (caseHit tg l.length) with
      | some q => exact .inr (.inr ⟨_, _, rfl, rfl⟩)
      | none => exact df _
  · have e1 : ∀ stk evs, upA (.ch z rows d e) h stk evs = (match h with
      | .num i => (match rows.find? (pickHit i) with
        | some q => .go ⟨.ev (nth 1 q) e, stk, evs⟩
        | none => dfltA d h e stk evs)
      | _ => .stuck) := fun stk evs => by
      unfold upA
      exact if_neg hz
    rw [e1, e1]
    cases h with
    | con tg l e2 => exact .inl ⟨rfl, rfl⟩
    | fn x b e2 => exact .inl ⟨rfl, rfl⟩
    | num i =>
      dsimp only
      cases rows.find? (pickHit i) with
      | some q => exact .inr (.inr ⟨_, _, rfl, rfl⟩)
      | none => exact df _
theorem case_ns {H : Hp} {o : Out} {v : V} (h : ResB H o v) : o ≠ .stuck := fun e => by
  rw [e] at h
  exact h
section
variable {P : Program} {w : World} {K : PySem.W.Frag} {mg : Str → Option Value} {base : Heap}
abbrev sLUp : Stmt := topS 56
theorem scLUp : FnScope ["frame", "head", "stack", "kind", "result"] ["frame", "head", "stack"] (defScope sLUp) := ⟨rfl, rfl, rfl, by decide +kernel, rfl, by decide +kernel, by decide +kernel⟩
def spUp : Sp := fun vs H Q _ => ∃ (g : Frm) (gv : V) (h : Head) (hv : V) (sa rn td ea : Addr) (gl : Str → Option Dd) (fuel steps : Int) (stk : List Frm) (evs : List Int), vs = [gv, hv, .ref sa] ∧ g.L H gv ∧ g.ok ∧ h.L H hv ∧ h.ok ∧ LSt H sa rn td ea gl fuel steps stk evs ∧ stk.length ≤ 1000000 ∧
  ∀ (v' : V) (H' : Hp), KeepB sa ea H H' → OutL H' sa rn td ea gl fuel steps evs (upA g h stk evs) v' → Q v' H'
theorem c_lup {f : Addr} {fd : FuncData} (T : TxtRs mg) (c_law_branch : C8.Cal P w K mg base 1 "_law_branch" spLBr []) (c_law_result : C8.Cal P w K mg base 1 "_law_result" spResult []) (F : Fun K "_law_up" "_law_up" sLUp f fd) (b : Binds K fd ["frame", "head", "stack"] []) (hm : mg "_law_up" = some (.ref f)) : C8.Cal P w K mg base 2 "_law_up" spUp [] := by
  refine cal_of F hm b scLUp (fun vs H Q E h => ?_) (fun cdv A outer s H vs Q E hr h => ?_)
  · obtain ⟨g, gv, h, hv, sa, rn, td, ea, gl, fuel, steps, stk, evs, rfl, _⟩ := h
    rfl
  obtain ⟨g, gv, h, hv, sa, rn, td, ea, gl, fuel, steps, stk, evs, rfl, hg, hgo, hh, hho, hL, hsl, q⟩ := h
  have hu := hu_of hr
  have hbig : 5000000 < sizeLine := by decide
  refine ⟨_, (pss_cons (ps_set (i := 3) scLUp.nd rfl (Or.inl rfl) (pe_ix ix_tup (pv 0) pe_int (fun _ _ => rfl)))
    (pss_cons (ps_if (pt_cmpR op_eq (pv 3) pe_str (nomark _))
      (pss_one (ps_ret (pe_tup (pa_cons (pe_ix ix_tup (pv 0) pe_int (fun _ _ => rfl)) (pa_cons (pe_tup (pa_cons pe_str (pa_cons (pe_ix ix_tup (pv 0) pe_int (fun _ _ => rfl)) (pa_cons (pv 1) (pa_cons (pe_ix ix_tup (pv 0) pe_int (fun _ _ => rfl)) pa_nil))))) pa_nil)))))
      pss_nil)
    (pss_cons (ps_if (pt_cmpR op_eq (pv 3) pe_str (nomark _))
      (pss_cons (ps_if (pt_cmpR op_ne (pe_ix ix_tup (pv 1) pe_int (fun _ _ => rfl)) pe_str (nomark _))
      (pss_one (ps_ret pe_non))
      pss_nil)
    (pss_one (ps_ret (pe_tup (pa_cons (pe_ix ix_tup (pv 1) pe_int (fun _ _ => rfl)) (pa_cons (pe_tup (pa_cons pe_str (pa_cons (pe_ix ix_tup (pv 1) pe_int (fun _ _ => rfl)) (pa_cons (pe_ix ix_tup (pv 0) pe_int (fun _ _ => rfl)) (pa_cons (pe_ix ix_tup (pv 0) pe_int (fun _ _ => rfl)) (pa_cons (pe_ix ix_tup (pv 1) pe_int (fun _ _ => rfl)) pa_nil)))))) pa_nil))))))
      pss_nil)
    (pss_cons (ps_if (PW.pt (pw_or (pt_cmpR op_eq (pv 3) pe_str (nomark _)) (pw_or1 (pt_cmpR op_eq (pv 3) pe_str (nomark _)))))
      (pss_cons (ps_if (pt_cmpR op_ne (pe_ix ix_tup (pv 1) pe_int (fun _ _ => rfl)) (pe_ix ix_list (pe_lst (pa_cons pe_str (pa_cons pe_str pa_nil))) (pe_callTy call_int1 rfl T.zint boot_int (pa_cons (pe_cmpR op_eq (pv 3) pe_str (nomark _)) pa_nil)) (fun _ _ => rfl)) (nomark _))
      (pss_one (ps_ret pe_non))
      pss_nil)
    (pss_one (ps_ret (C8.pe_c c_law_branch hr (by decide) rfl (pa_cons (pv 0) (pa_cons (pv 1) pa_nil))))))
      pss_nil)
    (pss_cons (ps_if (pt_cmpR op_ne (pe_ix ix_tup (pv 1) pe_int (fun _ _ => rfl)) pe_str (nomark _))
      (pss_one (ps_ret pe_non))
      pss_nil)
    (pss_cons (ps_if (pt_cmpR op_eq (pv 3) pe_str (nomark _))
      (pss_cons (ps_expr (pe_bm PySem.F.plainAttrs_list PySem.F.slot_list_append PySem.F.type_list_append mt_append (pv 2) (pa_cons (pe_tup (pa_cons pe_str (pa_cons (pe_ix ix_tup (pv 0) pe_int (fun _ _ => rfl)) (pa_cons (pe_ix ix_tup (pv 1) pe_int (fun _ _ => rfl)) pa_nil)))) pa_nil)))
    (pss_one (ps_ret (pe_tup (pa_cons (pe_ix ix_tup (pv 0) pe_int (fun _ _ => rfl)) (pa_cons (pe_ix ix_tup (pv 0) pe_int (fun _ _ => rfl)) pa_nil))))))
      pss_nil)
    (pss_cons (ps_set (i := 4) scLUp.nd rfl (Or.inl rfl) (C8.pe_c c_law_result hr (by decide) rfl (pa_cons (pe_ix ix_tup (pv 0) pe_int (fun _ _ => rfl)) (pa_cons (pe_ix ix_tup (pv 0) pe_int (fun _ _ => rfl)) (pa_cons (pe_ix ix_tup (pv 1) pe_int (fun _ _ => rfl)) pa_nil)))))
    (pss_cons (ps_if (pt_cmpR op_eq (pe_ix ix_tup (pv 4) pe_int (fun _ _ => rfl)) pe_str (nomark _))
      (pss_one (ps_ret (pv 4)))
      pss_nil)
    (pss_one (ps_ret (pe_tup (pa_cons pe_str (pa_cons (pv 4) pa_nil))))))))))))), ?_⟩
  obtain ⟨xs, hsa, hfr⟩ := hL.s
  have hxl := hfr.len
  obtain ⟨ha, hxs0, rfl, hha⟩ := hd_word hh
  have hhw : h.word = "num" ∨ h.word = "con" ∨ h.word = "fun" := by cases h <;> simp [Head.word]
  have no : ∀ {z w' : Str} {A B : Prop}, z ≠ w' → B → if decide (V.str z = V.str w') = true then A else B := fun h hb => by rw [wne h]; exact iteF hb
  have yes : ∀ {z : Str} {A B : Prop}, A → if decide (V.str z = V.str z) = true then A else B := fun hb => by rw [wtt]; exact iteT hb
  have nno : ∀ {z w' : Str} {A B : Prop}, z ≠ w' → A → if (!decide (V.str z = V.str w')) = true then A else B := fun h hb => by rw [wne h]; exact iteT hb
  have nyes : ∀ {z : Str} {A B : Prop}, B → if (!decide (V.str z = V.str z)) = true then A else B := fun hb => by rw [wtt]; exact iteF hb
  have stuckQ : upA g h stk evs = .stuck → Q .non H := fun hu => by
    refine q _ _ (fun _ _ _ _ e => e) ?_
    rw [hu]
    exact ⟨rfl, stk, hL⟩
  have stuckQ' : ∀ {H1 : Hp}, Same H H1 → upA g h stk evs = .stuck → Q .non H1 := fun s1 hu => by
    refine q _ _ (KeepB.same s1) ?_
    rw [hu]
    exact ⟨rfl, stk, hL.same s1⟩
  -- a pair of a term and its environment, after steps that only add
  have pair : ∀ {t : Dd} {e : Env} {tv ev : V} (H1 : Hp), Same H H1 → t.At F0 H1 tv → e.L H1 ev → upA g h stk evs = .go ⟨.ev t e, stk, evs⟩ → ∀ t9, H1 t9 = none → Q (.ref t9) (upd H1 t9 (.tup [tv, ev])) := fun {t e tv ev} H1 s1 ht he hd t9 ht9 => by
    have s9 := same_new ht9 (.tup [tv, ev])
    refine q _ _ (KeepB.same (sameT s1 s9)) ?_
    rw [hd]
    exact ⟨hL.same (sameT s1 s9), t9, tv, ev, rfl, upd_same, ht.keep (fr_same s9), he.keep (fr_same s9)⟩
  cases g with
  | seq x b e =>
    obtain ⟨a, bv, ev, rfl, ha1, hb1, he1⟩ := hg
    refine ⟨_, rfl, a, _, 0, _, rfl, rfl, SqT.of ha1, at0 _ _, ?_⟩
    refine ⟨_, rfl, rfl, _, rfl, yes ?_⟩
    refine ⟨_, rfl, a, _, 2, _, rfl, rfl, SqT.of ha1, at2 _ _ _ _, _, rfl, a, _, 1, _, rfl, rfl, SqT.of ha1, at1 _ _ _, _, rfl, _, rfl, a, _, 3, _, rfl, rfl, SqT.of ha1, at3 _ _ _ _ _, by show 4 ≤ sizeLine; decide, fun t8 ht8 => ⟨by show 2 ≤ sizeLine; decide, ?_⟩⟩
    have s8 := same_new ht8 (.tup [.str "head", .str x, .ref ha, ev])
    refine pair (t := b) (e := .hd x h e) _ s8 (hb1.keep (fr_same s8)) ?_ rfl
    rw [Env.L]
    exact ⟨t8, .ref ha, ev, rfl, upd_same, hh.keep (fr_same s8), he1.keep (fr_same s8)⟩
  | arg t e =>
    obtain ⟨a, tv, ev, rfl, ha1, ht1, he1⟩ := hg
    refine ⟨_, rfl, a, _, 0, _, rfl, rfl, SqT.of ha1, at0 _ _, ?_⟩
    refine ⟨_, rfl, rfl, _, rfl, no (by decide +kernel) ?_⟩
    refine ⟨_, rfl, rfl, _, rfl, yes ?_⟩
    refine ⟨_, rfl, ha, _, 0, _, rfl, rfl, SqT.of hha, at0 _ _, rfl, _, rfl, ?_⟩
    show if (!decide (V.str h.word = V.str "fun")) = true then _ else _
    cases h with
    | num i => exact nno (show ("num" : Str) ≠ "fun" by decide +kernel) (stuckQ rfl)
    | con tg l e2 => exact nno (show ("con" : Str) ≠ "fun" by decide +kernel) (stuckQ rfl)
    | fn x b e2 =>
      refine nyes ?_
      have hh2 := hh
      rw [Head.L] at hh2
      obtain ⟨_, bv, ev2, e0, hha2, hb2, he2⟩ := hh2
      cases e0
      refine ⟨_, rfl, ha, _, 2, _, rfl, rfl, SqT.of hha2, at2 _ _ _ _, _, rfl, ha, _, 1, _, rfl, rfl, SqT.of hha2, at1 _ _ _, _, rfl, a, _, 1, _, rfl, rfl, SqT.of ha1, at1 _ _ _, _, rfl, a, _, 2, _, rfl, rfl, SqT.of ha1, at2 _ _ _ _, _, rfl, ha, _, 3, _, rfl, rfl, SqT.of hha2, at3 _ _ _ _ _, by show 5 ≤ sizeLine; decide, fun t8 ht8 => ⟨by show 2 ≤ sizeLine; decide, ?_⟩⟩
      have s8 := same_new ht8 (.tup [.str "bind", .str x, tv, ev, ev2])
      refine pair (t := b) (e := .bind x t e e2) _ s8 (hb2.keep (fr_same s8)) ?_ rfl
      rw [Env.L]
      exact ⟨t8, tv, ev, ev2, rfl, upd_same, ht1.keep (fr_same s8), he1.keep (fr_same s8), he2.keep (fr_same s8)⟩
  | ch z rows d e =>
    obtain ⟨hz, ⟨f0, htt, hsz⟩, heo⟩ := hgo
    have hgL : (Frm.ch z rows d e).L H gv := hg
    obtain ⟨a, p, rxs, dv, ev, rfl, ha1, hp, hrx, hd1, he1⟩ := hg
    refine ⟨_, rfl, a, _, 0, _, rfl, rfl, SqT.of ha1, at0 _ _, ?_⟩
    obtain ⟨hform, -⟩ := tt_parts htt
    have hfw : formW z [f0, .tup rows, d] = true := hform
    have hvw := vw_of hfw
    have hrl : rows.length ≤ 1000000 := by
      have h1 := ats_len hrx
      have h2 := szs_len (l := rows)
      simp only [Dd.sz, Dd.szs] at hsz
      omega
    have hll : ∀ {tg l e'}, h = .con tg l e' → l.length ≤ 1000000 := fun hc => by
      subst hc
      rw [Head.ok] at hho
      omega
    -- what a choice gives is what the step gives
    have fin : ∀ (v' : V) (H' : Hp), Same H H' → ResB H' (upA (.ch z rows d e) h [] []) v' → upA (.ch z rows d e) h [] [] ≠ .stuck → Q v' H' := fun v' H' s' hr hns => by
      refine q _ _ (KeepB.same s') ?_
      rcases up_ch (z := z) (rows := rows) (d := d) (e := e) (h := h) stk evs with ⟨h1, h2⟩ | ⟨f1, h1, h2⟩ | ⟨t1, e1, h1, h2⟩
      · exact absurd h1 hns
      · rw [h1] at hr
        rw [h2]
        exact ⟨hr, stk, hL.same s'⟩
      · rw [h1] at hr
        rw [h2]
        exact ⟨hL.same s', hr⟩
    have lst2 : ∀ {t1 : Addr}, H t1 = none → Same H (upd H t1 (.lst [.str "con", .str "num"])) := fun ht1 => same_new ht1 _
    rcases hz with rfl | rfl
    · refine ⟨_, rfl, rfl, _, rfl, no (by decide +kernel) ?_⟩
      refine ⟨_, rfl, rfl, _, rfl, no (by decide +kernel) ?_⟩
      refine ⟨_, rfl, rfl, _, rfl, yes ?_⟩
      refine ⟨_, rfl, ha, _, 0, _, rfl, rfl, SqT.of hha, at0 _ _, by show 2 ≤ sizeLine; decide, fun t1 ht1 => ?_⟩
      have s1 := lst2 ht1
      refine ⟨_, rfl, rfl, .inr ⟨_, rfl, ?_⟩⟩
      rw [show (if decide (V.str "case" = V.str "pick") = true then (1 : Int) else 0) = 0 by rw [wne (by decide +kernel)]; rfl]
      refine ⟨t1, _, 0, _, rfl, rfl, SqL.of upd_same, at0 _ _, rfl, _, rfl, ?_⟩
      show if (!decide (V.str h.word = V.str "con")) = true then _ else _
      cases h with
      | num i => exact nno (show ("num" : Str) ≠ "con" by decide +kernel) (stuckQ' s1 rfl)
      | fn x b e2 => exact nno (show ("fun" : Str) ≠ "con" by decide +kernel) (stuckQ' s1 rfl)
      | con tg l e2 =>
        refine nyes ?_
        cases hvw with
        | @case _ _ _ hrw hdf =>
          refine ⟨_, rfl, _, rfl, "case", rows, d, e, _, .con tg l e2, _, rfl, hgL.keep (fr_same s1), hh.keep (fr_same s1), hrl, hdf, .inl ⟨rfl, ⟨tg, l, e2, rfl, hll rfl⟩, hrw⟩, fun v' H' s' hr => fin v' H' (sameT s1 s') hr (case_ns hr)⟩
    · refine ⟨_, rfl, rfl, _, rfl, no (by decide +kernel) ?_⟩
      refine ⟨_, rfl, rfl, _, rfl, no (by decide +kernel) ?_⟩
      refine ⟨_, rfl, rfl, _, rfl, no (by decide +kernel) ⟨_, rfl, rfl, _, rfl, yes ?_⟩⟩
      refine ⟨_, rfl, ha, _, 0, _, rfl, rfl, SqT.of hha, at0 _ _, by show 2 ≤ sizeLine; decide, fun t1 ht1 => ?_⟩
      have s1 := lst2 ht1
      refine ⟨_, rfl, rfl, .inr ⟨_, rfl, ?_⟩⟩
      rw [show (if decide (V.str "pick" = V.str "pick") = true then (1 : Int) else 0) = 1 by rw [wtt]; rfl]
      refine ⟨t1, _, 1, _, rfl, rfl, SqL.of upd_same, at1 _ _ _, rfl, _, rfl, ?_⟩
      show if (!decide (V.str h.word = V.str "num")) = true then _ else _
      cases h with
      | con tg l e2 => exact nno (show ("con" : Str) ≠ "num" by decide +kernel) (stuckQ' s1 rfl)
      | fn x b e2 => exact nno (show ("fun" : Str) ≠ "num" by decide +kernel) (stuckQ' s1 rfl)
      | num i =>
        refine nyes ?_
        cases hvw with
        | @pick _ _ _ hrw hdf =>
          refine ⟨_, rfl, _, rfl, "pick", rows, d, e, _, .num i, _, rfl, hgL.keep (fr_same s1), hh.keep (fr_same s1), hrl, hdf, .inr ⟨rfl, ⟨i, rfl⟩, hrw⟩, fun v' H' s' hr => fin v' H' (sameT s1 s') hr (case_ns hr)⟩
  | snd sg t e =>
    obtain ⟨a, tv, ev, rfl, ha1, ht1, he1⟩ := hg
    refine ⟨_, rfl, a, _, 0, _, rfl, rfl, SqT.of ha1, at0 _ _, ?_⟩
    refine ⟨_, rfl, rfl, _, rfl, no (by decide +kernel) ?_⟩
    refine ⟨_, rfl, rfl, _, rfl, no (by decide +kernel) ?_⟩
    refine ⟨_, rfl, rfl, _, rfl, no (by decide +kernel) ⟨_, rfl, rfl, _, rfl, no (by decide +kernel) ?_⟩⟩
    refine ⟨_, rfl, ha, _, 0, _, rfl, rfl, SqT.of hha, at0 _ _, rfl, _, rfl, ?_⟩
    show if (!decide (V.str h.word = V.str "num")) = true then _ else _
    cases h with
    | con tg l e2 => exact nno (show ("con" : Str) ≠ "num" by decide +kernel) (stuckQ rfl)
    | fn x b e2 => exact nno (show ("fun" : Str) ≠ "num" by decide +kernel) (stuckQ rfl)
    | num i =>
      refine nyes ?_
      have hh2 := hh
      rw [Head.L] at hh2
      obtain ⟨_, e0, hha2⟩ := hh2
      cases e0
      refine ⟨_, rfl, rfl, _, rfl, yes ?_⟩
      refine ⟨_, rfl, .inl ⟨rfl, _, SqL.of hsa⟩, _, rfl, a, _, 1, _, rfl, rfl, SqT.of ha1, at1 _ _ _, _, rfl, ha, _, 1, _, rfl, rfl, SqT.of hha2, at1 _ _ _, by show 3 ≤ sizeLine; decide, fun t8 ht8 => ?_⟩
      have s8 := same_new ht8 (.tup [.str "right", .str sg, .int i])
      refine ⟨sa, _, _, rfl, rfl, s8 _ _ hsa, by omega, ?_⟩
      obtain ⟨l1, k1, f1⟩ := (hL.same s8).push (s8 _ _ hsa) (g := .fst sg i) (x := .ref t8) ⟨t8, rfl, upd_same⟩
      have ha2 : upd (upd H t8 (.tup [.str "right", .str sg, .int i])) sa (.lst (xs ++ [V.ref t8])) a = some (.tup [.str "prim", .str sg, tv, ev]) := by
        rw [upd_ne (fun z => by rw [z, hsa] at ha1; cases ha1)]
        exact s8 _ _ ha1
      refine ⟨_, rfl, a, _, 2, _, rfl, rfl, SqT.of ha2, at2 _ _ _ _, _, rfl, a, _, 3, _, rfl, rfl, SqT.of ha2, at3 _ _ _ _ _, by show 2 ≤ sizeLine; decide, fun t9 ht9 => ?_⟩
      have s9 := same_new ht9 (.tup [tv, ev])
      refine q _ _ ((KeepB.same s8).trans (k1.trans (KeepB.same s9))) ?_
      exact ⟨l1.same s9, t9, tv, ev, rfl, upd_same, ((ht1.keep (fr_same s8)).keep f1).keep (fr_same s9), ((he1.keep (fr_same s8)).keep f1).keep (fr_same s9)⟩
  | fst sg i =>
    obtain ⟨a, rfl, ha1⟩ := hg
    obtain ⟨hsg, hi0, hi1⟩ := hgo
    refine ⟨_, rfl, a, _, 0, _, rfl, rfl, SqT.of ha1, at0 _ _, ?_⟩
    refine ⟨_, rfl, rfl, _, rfl, no (by decide +kernel) ?_⟩
    refine ⟨_, rfl, rfl, _, rfl, no (by decide +kernel) ?_⟩
    refine ⟨_, rfl, rfl, _, rfl, no (by decide +kernel) ⟨_, rfl, rfl, _, rfl, no (by decide +kernel) ?_⟩⟩
    refine ⟨_, rfl, ha, _, 0, _, rfl, rfl, SqT.of hha, at0 _ _, rfl, _, rfl, ?_⟩
    show if (!decide (V.str h.word = V.str "num")) = true then _ else _
    cases h with
    | con tg l e2 => exact nno (show ("con" : Str) ≠ "num" by decide +kernel) (stuckQ rfl)
    | fn x b e2 => exact nno (show ("fun" : Str) ≠ "num" by decide +kernel) (stuckQ rfl)
    | num j =>
      refine nyes ?_
      have hh2 := hh
      rw [Head.L] at hh2
      obtain ⟨_, e0, hha2⟩ := hh2
      cases e0
      rw [Head.ok] at hho
      refine ⟨_, rfl, rfl, _, rfl, no (by decide +kernel) ?_⟩
      refine ⟨_, rfl, a, _, 1, _, rfl, rfl, SqT.of ha1, at1 _ _ _, _, rfl, a, _, 2, _, rfl, rfl, SqT.of ha1, at2 _ _ _ _, _, rfl, ha, _, 1, _, rfl, rfl, SqT.of hha2, at1 _ _ _, sg, i, j, rfl, hsg, ⟨hi0, hi1⟩, hho, fun v' H' s' hr => ?_⟩
      have hL' := hL.same s'
      have hup : upA (.fst sg i) (.num j) stk evs = primA sg i j stk evs := rfl
      rw [hup] at q
      rcases prim_ok (s := sg) (i := i) (j := j) (stk := stk) (evs := evs) with ⟨h2, p1, p2, _⟩ | ⟨f2, p1, p2⟩
      · rw [p2] at hr
        rw [p1] at q
        have hr : h2.L H' v' := hr
        obtain ⟨hb, hbx, rfl, hhb⟩ := hd_word hr
        refine ⟨_, rfl, hb, _, 0, _, rfl, rfl, SqT.of hhb, at0 _ _, rfl, _, rfl, ?_⟩
        refine no (by cases h2 <;> (show (_ : Str) ≠ _; simp only [Head.word]; decide +kernel)) ?_
        refine ⟨_, rfl, by show 2 ≤ sizeLine; decide, fun t9 ht9 => ?_⟩
        have s9 := same_new ht9 (.tup [.str "give", .ref hb])
        refine q _ _ ((KeepB.same s').trans (KeepB.same s9)) ?_
        exact ⟨hL'.same s9, t9, .ref hb, rfl, upd_same, hr.keep (fr_same s9)⟩
      · rw [p2] at hr
        rw [p1] at q
        obtain ⟨hb, rfl, hhb⟩ := hr
        refine ⟨_, rfl, hb, _, 0, _, rfl, rfl, SqT.of hhb, at0 _ _, rfl, _, rfl, yes ?_⟩
        refine ⟨_, rfl, ?_⟩
        exact q _ _ (KeepB.same s') ⟨⟨hb, rfl, hhb⟩, stk, hL'⟩
end
end Toy

set_option Elab.async false
set_option linter.all false
set_option maxRecDepth 100000
set_option maxHeartbeats 4000000
/-! Part MJ: states stay good; the run in plain Lean. -/
namespace Toy
open PySem L2
def TOk (t : Dd) : Prop := isTT t = true ∧ t.sz ≤ 40000
theorem ok_part {k p : Dd} (h : TOk k) (hp : p ∈ partsD k) : TOk p := by
  obtain ⟨h1, h2⟩ := tt_parts h.1
  have h3 := parts_sz h1
  have h4 := szs_mem hp
  have h5 := h.2
  exact ⟨h2 _ hp, by omega⟩
theorem ok_partW {z : Str} {r : List Dd} {p : Dd} (h : TOk (.tup (.str z :: r))) (hp : p ∈ partsW z r) : TOk p := ok_part h hp
theorem ok_vw {z : Str} {r : List Dd} (h : TOk (.tup (.str z :: r))) : Vw z r := vw_of (show formW z r = true from (tt_parts h.1).1)
theorem enter_ok {t : Dd} {e : Env} {h : Head} (ht : TOk t) (he : e.ok) (hh : enterA t e = some h) : h.ok := by
  obtain ⟨z, r, rfl, hfz⟩ := form_tup (tt_parts ht.1).1
  have hh : enterW z r e = some h := hh
  have hp : ∀ p ∈ partsW z r, TOk p := fun p hp => ok_partW ht hp
  have hsz := ht.2
  cases vw_of hfz with
  | @num i h1 h2 =>
    rw [en_num] at hh
    cases hh
    rw [Head.ok]
    exact ⟨h1, h2⟩
  | @lam x b hx =>
    rw [en_lam] at hh
    cases hh
    rw [pw_lam] at hp
    rw [Head.ok]
    exact ⟨hp _ (List.mem_singleton.mpr rfl), he⟩
  | @con i l =>
    rw [en_con] at hh
    cases hh
    rw [pw_con] at hp
    rw [Head.ok]
    refine ⟨hp, ?_, he⟩
    have h2 := szs_len l
    simp only [Dd.sz, Dd.szs] at hsz
    show l.length ≤ 40000
    omega
  | @var x hx =>
    rw [en_var] at hh
    cases hl : e.look (strOf (arg 0 [Dd.str x])) with
    | none => rw [hl] at hh; cases hh
    | some en =>
      rw [hl] at hh
      cases en with
      | term t e2 => cases hh
      | head h2 =>
        cases hh
        exact he.look hl
  | app => rw [en_other (by decide +kernel) (by decide +kernel) (by decide +kernel) (by decide +kernel)] at hh; cases hh
  | lt _ _ => rw [en_other (by decide +kernel) (by decide +kernel) (by decide +kernel) (by decide +kernel)] at hh; cases hh
  | seq _ => rw [en_other (by decide +kernel) (by decide +kernel) (by decide +kernel) (by decide +kernel)] at hh; cases hh
  | case _ _ => rw [en_other (by decide +kernel) (by decide +kernel) (by decide +kernel) (by decide +kernel)] at hh; cases hh
  | pick _ _ => rw [en_other (by decide +kernel) (by decide +kernel) (by decide +kernel) (by decide +kernel)] at hh; cases hh
  | prim _ => rw [en_other (by decide +kernel) (by decide +kernel) (by decide +kernel) (by decide +kernel)] at hh; cases hh
  | note => rw [en_other (by decide +kernel) (by decide +kernel) (by decide +kernel) (by decide +kernel)] at hh; cases hh
theorem norm_ok {m : Mst} (h : m.ok) : (norm m).ok := by
  unfold norm
  have hc := h.ctl
  split
  · rename_i t e hm
    rw [hm] at hc
    split
    · rename_i hd hen
      exact ⟨enter_ok hc.1 hc.2 hen, h.stk⟩
    · exact h
  · exact h
theorem norm_hd {h : Head} {stk : List Frm} {evs : List Int} : norm ⟨.hd h, stk, evs⟩ = ⟨.hd h, stk, evs⟩ := rfl
theorem norm_some {t : Dd} {e : Env} {h : Head} {stk : List Frm} {evs : List Int} (he : enterA t e = some h) : norm ⟨.ev t e, stk, evs⟩ = ⟨.hd h, stk, evs⟩ := by
  unfold norm
  dsimp only
  rw [he]
theorem norm_none {t : Dd} {e : Env} {stk : List Frm} {evs : List Int} (he : enterA t e = none) : norm ⟨.ev t e, stk, evs⟩ = ⟨.ev t e, stk, evs⟩ := by
  unfold norm
  dsimp only
  rw [he]
theorem bindAll_ok : ∀ {xs : List Str} {ts : List Dd} {te e : Env}, (∀ t ∈ ts, TOk t) → te.ok → e.ok → (bindAll xs ts te e).ok
  | [], _, te, e, _, _, h => by rw [bindAll_nil]; exact h
  | x :: xs, [], te, e, _, _, h => by rw [bindAll]; · exact h
                                      · intro _ _ _ _ _ hh; cases hh
  | x :: xs, t :: ts, te, e, h1, h2, h3 => by
    rw [bindAll_at]
    refine bindAll_ok (fun t ht => h1 t (List.mem_cons_of_mem _ ht)) h2 ?_
    rw [Env.ok]
    exact ⟨h1 t List.mem_cons_self, h2, h3⟩
def StkOk (stk : List Frm) : Prop := ∀ f ∈ stk, f.ok
theorem StkOk.snoc {stk : List Frm} {g : Frm} (h : StkOk stk) (hg : g.ok) : StkOk (stk ++ [g]) := fun f hf => by
  rcases List.mem_append.mp hf with h1 | h1
  · exact h f h1
  · rw [List.mem_singleton.mp h1]; exact hg
theorem last_two {a b : Dd} : lastD (.tup [a, b]) = b := rfl
theorem last_three {a b c : Dd} : lastD (.tup [a, b, c]) = c := rfl
theorem down_ok {gl : Str → Option Dd} {z : Str} {r : List Dd} {e : Env} {stk : List Frm} {evs : List Int} {m : Mst} (hg : ∀ s t, gl s = some t → TOk t) (ht : TOk (.tup (.str z :: r))) (he : e.ok) (hs : StkOk stk) (hen : enterW z r e = none) (hd : downW gl z r e stk evs = .go m) :
    m.ok ∧ m.stk.length ≤ stk.length + 1 ∧ m.evs.length ≤ evs.length + 1 := by
  have hp : ∀ p ∈ partsW z r, TOk p := fun p hp => ok_partW ht hp
  have hsz := ht.2
  have l1 : ∀ g : Frm, (stk ++ [g]).length ≤ stk.length + 1 := fun g => by rw [List.length_append]; exact Nat.le_refl _
  have l2 : ∀ n : Int, (evs ++ [n]).length ≤ evs.length + 1 := fun g => by rw [List.length_append]; exact Nat.le_refl _
  have l3 : stk.length ≤ stk.length + 1 := Nat.le_succ _
  have l4 : evs.length ≤ evs.length + 1 := Nat.le_succ _
  cases ok_vw ht with
  | @num i h1 h2 => rw [en_num] at hen; cases hen
  | @lam x b hx => rw [en_lam] at hen; cases hen
  | @con i l => rw [en_con] at hen; cases hen
  | @var x hx =>
    rw [dn_var] at hd
    cases hl : e.look (strOf (arg 0 [Dd.str x])) with
    | none =>
      rw [hl] at hd
      dsimp only at hd
      cases hgl : gl (strOf (arg 0 [Dd.str x])) with
      | none => rw [hgl] at hd; cases hd
      | some t =>
        rw [hgl] at hd
        cases hd
        exact ⟨⟨⟨hg _ _ hgl, by rw [Env.ok]; trivial⟩, hs⟩, l3, l4⟩
    | some en =>
      rw [hl] at hd
      cases en with
      | term t e2 =>
        cases hd
        obtain ⟨h1, h2⟩ := (show TOk t ∧ e2.ok from he.look hl)
        exact ⟨⟨⟨h1, h2⟩, hs⟩, l3, l4⟩
      | head h2 =>
        rw [en_var, hl] at hen
        cases hen
  | @app a b =>
    rw [dn_app] at hd
    rw [pw_app] at hp
    cases hd
    exact ⟨⟨⟨hp _ (show a ∈ [a, b] by simp), he⟩, StkOk.snoc hs ⟨hp _ (show b ∈ [a, b] by simp), he⟩⟩, l1 _, l4⟩
  | @lt rows b hnd hnm =>
    rw [dn_let] at hd
    rw [pw_let] at hp
    cases hd
    refine ⟨⟨⟨hp _ (List.mem_append_right _ (List.mem_singleton.mpr rfl)), ?_⟩, hs⟩, l3, l4⟩
    rw [show (tl (arg 0 [Dd.tup (rows.map defD), b])).map rowD = rows from rows_back rows, Env.ok]
    refine ⟨fun q hq => hp _ (List.mem_append_left _ (List.mem_map.mpr ⟨defD q, List.mem_map.mpr ⟨q, hq, rfl⟩, rfl⟩)), hnd, ?_, he⟩
    have h2 := szs_len (rows.map defD)
    simp only [Dd.sz, Dd.szs] at hsz
    rw [List.length_map] at h2
    omega
  | @seq x a b hx =>
    rw [dn_seq] at hd
    rw [pw_seq] at hp
    cases hd
    exact ⟨⟨⟨hp _ (show a ∈ [a, b] by simp), he⟩, StkOk.snoc hs ⟨hx, hp _ (show b ∈ [a, b] by simp), he⟩⟩, l1 _, l4⟩
  | @case f d rows hrw hdf =>
    rw [dn_ch (.inl rfl)] at hd
    rw [pw_case] at hp
    cases hd
    exact ⟨⟨⟨hp _ List.mem_cons_self, he⟩, StkOk.snoc hs ⟨.inl rfl, ⟨f, ht⟩, he⟩⟩, l1 _, l4⟩
  | @pick f d rows hrw hdf =>
    rw [dn_ch (.inr rfl)] at hd
    rw [pw_pick] at hp
    cases hd
    exact ⟨⟨⟨hp _ List.mem_cons_self, he⟩, StkOk.snoc hs ⟨.inr rfl, ⟨f, ht⟩, he⟩⟩, l1 _, l4⟩
  | @prim sg a b hsg =>
    rw [dn_prim] at hd
    rw [pw_prim] at hp
    cases hd
    exact ⟨⟨⟨hp _ (show a ∈ [a, b] by simp), he⟩, StkOk.snoc hs ⟨hsg, hp _ (show b ∈ [a, b] by simp), he⟩⟩, l1 _, l4⟩
  | @note n b =>
    rw [dn_note] at hd
    rw [pw_note] at hp
    cases hd
    exact ⟨⟨⟨hp _ (show b ∈ [b] by simp), he⟩, hs⟩, l3, l2 _⟩
theorem up_ok {g : Frm} {h : Head} {stk : List Frm} {evs : List Int} {m : Mst} (hgo : g.ok) (hho : h.ok) (hs : StkOk stk) (hd : upA g h stk evs = .go m) : m.ok ∧ m.stk.length ≤ stk.length + 1 ∧ m.evs.length ≤ evs.length := by
  have l1 : ∀ g : Frm, (stk ++ [g]).length ≤ stk.length + 1 := fun g => by rw [List.length_append]; exact Nat.le_refl _
  have l3 : stk.length ≤ stk.length + 1 := Nat.le_succ _
  have l4 : evs.length ≤ evs.length := Nat.le_refl _
  cases g with
  | arg t e =>
    obtain ⟨h1, h2⟩ := hgo
    cases h with
    | num i => cases hd
    | con tg l e2 => cases hd
    | fn x b e2 =>
      cases hd
      rw [Head.ok] at hho
      refine ⟨⟨⟨hho.1, ?_⟩, hs⟩, l3, l4⟩
      rw [Env.ok]
      exact ⟨h1, h2, hho.2⟩
  | seq x b e =>
    obtain ⟨h1, h2, h3⟩ := hgo
    cases hd
    refine ⟨⟨⟨h2, ?_⟩, hs⟩, l3, l4⟩
    rw [Env.ok]
    exact ⟨hho, h3⟩
  | ch z rows d e =>
    obtain ⟨hz, ⟨f0, htt⟩, heo⟩ := hgo
    have ht : TOk (.tup [.str z, f0, .tup rows, d]) := htt
    have hp : ∀ p ∈ gChoice [f0, .tup rows, d], TOk p := fun p hp => ok_partW ht (by
      rcases hz with rfl | rfl
      · rw [pw_case]; exact hp
      · rw [pw_pick]; exact hp)
    have df : dfltA d h e stk evs = .go m → m.ok ∧ m.stk.length ≤ stk.length + 1 ∧ m.evs.length ≤ evs.length := fun hd => by
      rcases dflt_ok d h e stk evs with ⟨x, b, rfl, h1⟩ | h1
      · rw [h1] at hd
        cases hd
        refine ⟨⟨⟨hp _ (List.mem_cons_of_mem _ (List.mem_append_right _ (List.mem_singleton.mpr rfl))), ?_⟩, hs⟩, l3, l4⟩
        rw [Env.ok]
        exact ⟨hho, heo⟩
      · rw [h1] at hd
        cases hd
    have hvw := ok_vw ht
    rcases hz with rfl | rfl
    · cases hvw with
      | @case _ _ _ hrw hdf =>
        cases h with
        | num i => unfold upA at hd; dsimp only at hd; rw [if_pos rfl] at hd; cases hd
        | fn x b e2 => unfold upA at hd; dsimp only at hd; rw [if_pos rfl] at hd; cases hd
        | con tg l e2 =>
          unfold upA at hd
          dsimp only at hd
          rw [if_pos rfl] at hd
          cases hf : rows.find? (caseHit tg l.length) with
          | none => rw [hf] at hd; exact df hd
          | some q =>
            rw [hf] at hd
            cases hd
            have hq := List.mem_of_find?_eq_some hf
            obtain ⟨i, ns, b, rfl, _⟩ := hrw q hq
            rw [Head.ok] at hho
            exact ⟨⟨⟨hp _ (List.mem_cons_of_mem _ (List.mem_append_left _ (List.mem_map.mpr ⟨_, hq, rfl⟩))), bindAll_ok hho.1 hho.2.2 heo⟩, hs⟩, l3, l4⟩
    · cases hvw with
      | @pick _ _ _ hrw hdf =>
        have hne : ¬ ("pick" : Str) = "case" := by decide +kernel
        cases h with
        | con tg l e2 => unfold upA at hd; dsimp only at hd; rw [if_neg hne] at hd; cases hd
        | fn x b e2 => unfold upA at hd; dsimp only at hd; rw [if_neg hne] at hd; cases hd
        | num i =>
          unfold upA at hd
          dsimp only at hd
          rw [if_neg hne] at hd
          cases hf : rows.find? (pickHit i) with
          | none => rw [hf] at hd; exact df hd
          | some q =>
            rw [hf] at hd
            cases hd
            have hq := List.mem_of_find?_eq_some hf
            obtain ⟨i, b, rfl⟩ := hrw q hq
            exact ⟨⟨⟨hp _ (List.mem_cons_of_mem _ (List.mem_append_left _ (List.mem_map.mpr ⟨_, hq, rfl⟩))), heo⟩, hs⟩, l3, l4⟩
  | snd sg t e =>
    obtain ⟨h1, h2, h3⟩ := hgo
    cases h with
    | con tg l e2 => cases hd
    | fn x b e2 => cases hd
    | num i =>
      cases hd
      rw [Head.ok] at hho
      exact ⟨⟨⟨h2, h3⟩, StkOk.snoc hs ⟨h1, hho⟩⟩, l1 _, l4⟩
  | fst sg i =>
    cases h with
    | con tg l e2 => cases hd
    | fn x b e2 => cases hd
    | num j =>
      have hd : primA sg i j stk evs = .go m := hd
      rcases prim_ok (s := sg) (i := i) (j := j) (stk := stk) (evs := evs) with ⟨h2, p1, p2, p3⟩ | ⟨f2, p1, p2⟩
      · rw [p1] at hd
        cases hd
        exact ⟨⟨p3, hs⟩, l3, l4⟩
      · rw [p1] at hd
        cases hd
/-! ### a run -/
section
variable {gl : Str → Option Dd}
theorem norm_norm {m : Mst} : norm (norm m) = norm m := by
  obtain ⟨c, s, v⟩ := m
  cases c with
  | hd h => rfl
  | ev t e =>
    cases he : enterA t e with
    | some h => rw [norm_some he]; rfl
    | none => rw [norm_none he, norm_none he]
theorem runA_norm {k : Nat} {m : Mst} : runA gl k (norm m) = runA gl k m := by
  cases k with
  | zero => unfold runA; rw [norm_norm]
  | succ k => unfold runA; rw [norm_norm]
/-- a head, and nothing waits for it -/
theorem runA_hd {k : Nat} {h : Head} {evs : List Int} : runA gl k ⟨.hd h, [], evs⟩ = (.head h, 0, evs) := by
  cases k <;> rfl
theorem runA_zero {m : Mst} (h : ∀ h0, m.ctl = .hd h0 → m.stk ≠ []) (hn : norm m = m) : runA gl 0 m = (.more, 0, m.evs) := by
  unfold runA
  rw [hn]
  obtain ⟨c, s, v⟩ := m
  cases c with
  | ev t e => rfl
  | hd h0 =>
    cases s with
    | nil => exact absurd rfl (h h0 rfl)
    | cons x s => rfl
theorem runA_succ {k : Nat} {m : Mst} (h : ∀ h0, m.ctl = .hd h0 → m.stk ≠ []) (hn : norm m = m) : runA gl (k + 1) m = (match stepA gl m with
    | .stuck => (.stuck, 1, m.evs)
    | .fault s => (.fault s, 1, m.evs)
    | .go m' => ((runA gl k m').1, (runA gl k m').2.1 + 1, (runA gl k m').2.2)) := by
  conv => lhs; unfold runA
  rw [hn]
  obtain ⟨c, s, v⟩ := m
  cases c with
  | ev t e => rfl
  | hd h0 =>
    cases s with
    | nil => exact absurd rfl (h h0 rfl)
    | cons x s => rfl
theorem step_hd {h : Head} {stk : List Frm} {g : Frm} {evs : List Int} : stepA gl ⟨.hd h, stk ++ [g], evs⟩ = upA g h stk evs := by
  unfold stepA
  dsimp only
  rw [List.reverse_append]
  show upA g h stk.reverse.reverse evs = _
  rw [List.reverse_reverse]
theorem step_ev {z : Str} {r : List Dd} {e : Env} {stk : List Frm} {evs : List Int} : stepA gl ⟨.ev (.tup (.str z :: r)) e, stk, evs⟩ = downW gl z r e stk evs := rfl
end
end Toy

set_option Elab.async false
set_option linter.all false
set_option maxRecDepth 100000
set_option maxHeartbeats 4000000
/-! Part MK: the law's machine: a run. -/
namespace Toy
open PySem L2
open PyProof.Rows (envOfC)
/-- how a run ends, as the law tells it -/
def FinL (H : Hp) : Fin → V → Prop
  | .head h, v => h.L H v
  | .more, v => ∃ a, v = .ref a ∧ H a = some (.tup [.str "more"])
  | .stuck, v => ∃ a, v = .ref a ∧ H a = some (.tup [.str "stuck"])
  | .fault s, v => ∃ a, v = .ref a ∧ H a = some (.tup [.str "fault", .str s])
theorem FinL.keep {H H' : Hp} (f : Fr F0 H H') : ∀ {o : Fin} {v : V}, FinL H o v → FinL H' o v
  | .head h, v, e => Head.L.keep f e
  | .more, v, ⟨a, e1, e2⟩ => ⟨a, e1, f.1 _ _ e2⟩
  | .stuck, v, ⟨a, e1, e2⟩ => ⟨a, e1, f.1 _ _ e2⟩
  | .fault s, v, ⟨a, e1, e2⟩ => ⟨a, e1, f.1 _ _ e2⟩
theorem rk_put {td ea : Addr} {fuel steps n : Int} : putK (runKv td ea fuel steps) (Sum.inr "steps") (.int n) = runKv td ea fuel n := by
  unfold putK runKv
  have hany : (List.any [((Sum.inr "terms" : Key), V.ref td), (Sum.inr "fuel", .int fuel), (Sum.inr "steps", .int steps), (Sum.inr "events", .ref ea)] fun kv => decide (kv.1 = (Sum.inr "steps" : Key))) = true := List.any_eq_true.mpr ⟨(Sum.inr "steps", V.int steps), List.mem_cons_of_mem _ (List.mem_cons_of_mem _ List.mem_cons_self), decide_eq_true rfl⟩
  refine (if_pos hany).trans ?_
  simp only [List.map_cons, List.map_nil]
  rw [if_neg rk_ts, if_neg rk_fs, if_pos trivial, if_neg (show ¬ (Sum.inr ("events" : Str) : Key) = Sum.inr ("steps" : Str) from fun h => rk_se h.symm)]
/-- the count of steps is put -/
theorem LSt.step {H : Hp} {sa rn td ea : Addr} {gl : Str → Option Dd} {fuel steps n : Int} {stk : List Frm} {evs : List Int} (h : LSt H sa rn td ea gl fuel steps stk evs) (hd : td ≠ rn) :
    LSt (upd H rn (.dK (runKv td ea fuel n))) sa rn td ea gl fuel n stk evs ∧ Fr F0 H (upd H rn (.dK (runKv td ea fuel n))) := by
  have hr := h.r
  have f : Fr F0 H (upd H rn (.dK (runKv td ea fuel n))) := ⟨fun a xs e => by rw [upd_ne (fun z => by rw [z, hr] at e; cases e)]; exact e, fun a zs b _ => b.elim⟩
  obtain ⟨xs, h1, h2⟩ := h.s
  obtain ⟨ys, h3, h4⟩ := h.v
  refine ⟨⟨h.ne, ⟨xs, ?_, h2.keep f⟩, upd_same, ⟨ys, ?_, h4.keep f⟩, ?_⟩, f⟩
  · rw [upd_ne (fun z => by rw [z, hr] at h1; cases h1)]
    exact h1
  · rw [upd_ne (fun z => by rw [z, hr] at h3; cases h3)]
    exact h3
  · refine h.g.keep f fun kvs e => ?_
    rw [upd_ne hd]
    exact e
section
variable {P : Program} {w : World} {K : PySem.W.Frag} {mg : Str → Option Value} {base : Heap}
structure TxtLe (mg : Str → Option Value) : Prop where
  zrange : mg "range" = none
abbrev sLEval : Stmt := topS 57
theorem scLEval : FnScope ["term", "env", "run", "stack", "head", "turn", "found"] ["term", "env", "run"] (defScope sLEval) := ⟨rfl, rfl, rfl, by decide +kernel, rfl, by decide +kernel, by decide +kernel⟩
def spEval : Sp := fun vs H Q _ => ∃ (t : Dd) (tv : V) (e : Env) (ev : V) (rn td ea : Addr) (gl : Str → Option Dd) (F : Nat), vs = [tv, ev, .ref rn] ∧ t.At F0 H tv ∧ TOk t ∧ e.L H ev ∧ e.ok ∧ H rn = some (.dK (runKv td ea (F : Int) 0)) ∧ H ea = some (.lst []) ∧ GlAt H td gl ∧ td ≠ rn ∧ (∀ s t, gl s = some t → TOk t) ∧ F ≤ 100000 ∧
  ∀ (v' : V) (H' : Hp) (ys : List V), KeepB rn ea H H' → FinL H' (runA gl F ⟨.ev t e, [], []⟩).1 v' → H' rn = some (.dK (runKv td ea (F : Int) ((runA gl F ⟨.ev t e, [], []⟩).2.1 : Nat))) → H' ea = some (.lst ys) → Dd.Ats F0 H' ((runA gl F ⟨.ev t e, [], []⟩).2.2.map evD) ys → Q v' H'
theorem c_leval {f : Addr} {fd : FuncData} (T : TxtLe mg) (c_law_enter : C8.Cal P w K mg base 2 "_law_enter" spEnter []) (c_law_down : C8.Cal P w K mg base 2 "_law_down" spDown []) (c_law_up : C8.Cal P w K mg base 2 "_law_up" spUp []) (F : Fun K "_law_evaluate" "_law_evaluate" sLEval f fd) (b : Binds K fd ["term", "env", "run"] []) (hm : mg "_law_evaluate" = some (.ref f)) : C8.Cal P w K mg base 3 "_law_evaluate" spEval [] := by
  refine cal_of F hm b scLEval (fun vs H Q E h => ?_) (fun cdv A outer s H vs Q E hr h => ?_)
  · obtain ⟨t, tv, e, ev, rn, td, ea, gl, fu, rfl, _⟩ := h
    rfl
  obtain ⟨t, tv, e, ev, rn, td, ea, gl, fu, rfl, hat, htk, he, heo, hrn, hea, hG, htd, hgl, hF, q⟩ := h
  have hu := hu_of hr
  have hbig : 5000000 < sizeLine := by decide
  refine ⟨_, (pss_cons (ps_set (i := 3) scLEval.nd rfl (Or.inl rfl) (pe_lst pa_nil))
    (pss_cons (ps_set (i := 4) scLEval.nd rfl (Or.inl rfl) (C8.pe_c c_law_enter hr (by decide) rfl (pa_cons (pv 0) (pa_cons (pv 1) (pa_cons (pe_dget hu (pv 2) pe_str (fun _ _ => rfl)) pa_nil)))))
    (pss_cons (ps_for PassesOwn.never rfl (pi_range1 rfl T.zrange (pa_cons (pe_op op_add (pe_dget hu (pv 2) pe_str (fun _ _ => rfl)) pe_int) pa_nil)) (pg_name (i := 5) scLEval.nd rfl (Or.inl rfl))
      (C8.pss_cut (ps_if (PW.pt (pw_and (pt_cmpR op_notN (pv 4) pe_non (nomark _)) (pw_and1 (pt_cmpR (op_eqLN (Nat.lt_of_succ_lt hu)) (pv 3) (pe_lst pa_nil) (nomark _)))))
      (pss_one (ps_ret (pv 4)))
      pss_nil)
    (pss_cons (ps_if (pt_cmpR op_ge (pe_dget hu (pv 2) pe_str (fun _ _ => rfl)) (pe_dget hu (pv 2) pe_str (fun _ _ => rfl)) (nomark _))
      (pss_one (ps_ret (pe_tup (pa_cons pe_str pa_nil))))
      pss_nil)
    (pss_cons (ps_dput hu (pv 2) pe_str (pe_op op_add (pe_dget hu (pv 2) pe_str (fun _ _ => rfl)) pe_int) rfl)
    (C8.pss_cut (ps_if (pt_cmpR op_isN (pv 4) pe_non (nomark _))
      (pss_one (ps_set (i := 6) scLEval.nd rfl (Or.inl rfl) (C8.pe_c c_law_down hr (by decide) rfl (pa_cons (pv 0) (pa_cons (pv 1) (pa_cons (pv 3) (pa_cons (pv 2) pa_nil)))))))
      (pss_one (ps_set (i := 6) scLEval.nd rfl (Or.inl rfl) (C8.pe_c c_law_up hr (by decide) rfl (pa_cons (pe_bm0 PySem.F.plainAttrs_list PySem.F.slot_list_pop PySem.F.type_list_pop mt_pop (pv 3)) (pa_cons (pv 4) (pa_cons (pv 3) pa_nil)))))))
    (pss_cons (ps_if (pt_cmpR op_isN (pv 6) pe_non (nomark _))
      (pss_one (ps_ret (pe_tup (pa_cons pe_str pa_nil))))
      pss_nil)
    (pss_cons (ps_if (pt_cmpR (op_eqA (Nat.lt_of_succ_lt hu)) (pe_ix ix_tup (pv 6) pe_int (fun _ _ => rfl)) pe_str (nomark _))
      (pss_one (ps_ret (pv 6)))
      pss_nil)
    (pss_one (ps_if (pt_cmpR (op_eqA (Nat.lt_of_succ_lt hu)) (pe_ix ix_tup (pv 6) pe_int (fun _ _ => rfl)) pe_str (nomark _))
      (pss_one (ps_set (i := 4) scLEval.nd rfl (Or.inl rfl) (pe_ix ix_tup (pv 6) pe_int (fun _ _ => rfl))))
      (pss_cons (ps_asg (pv 6) (pg_tup rfl (pgs_cons (pg_name (i := 0) scLEval.nd rfl (Or.inl rfl)) (pgs_cons (pg_name (i := 1) scLEval.nd rfl (Or.inl rfl)) pgs_nil))))
    (pss_one (ps_set (i := 4) scLEval.nd rfl (Or.inl rfl) (C8.pe_c c_law_enter hr (by decide) rfl (pa_cons (pv 0) (pa_cons (pv 1) (pa_cons (pe_dget hu (pv 2) pe_str (fun _ _ => rfl)) pa_nil))))))))))))))))
    (pss_one (ps_ret (pe_tup (pa_cons pe_str pa_nil))))))), ?_⟩
  refine ⟨by show 0 ≤ sizeLine; exact Nat.zero_le _, fun sa hsa => ?_⟩
  have s0 := same_new hsa (.lst [])
  generalize hG0 : upd H sa (.lst []) = G0 at s0
  have hsa0 : G0 sa = some (.lst []) := by rw [← hG0]; exact upd_same
  have hL0 : LSt G0 sa rn td ea gl (fu : Int) 0 [] [] := ⟨fun z => (by rw [z, hea] at hsa; cases hsa), ⟨[], hsa0, rfl⟩, s0 _ _ hrn, ⟨[], s0 _ _ hea, rfl⟩, hG.keep (fr_same s0) fun kvs e => s0 _ _ e⟩
  refine ⟨_, rfl, _, rfl, _, rfl, rn, _, rfl, rk_terms hL0.r, t, tv, e, ev, td, gl, rfl, hat.keep (fr_same s0), htk.1, he.keep (fr_same s0), hL0.g, fun v1 G1 s1 hen => ?_⟩
  have hL1 := hL0.same s1
  have s01 := sameT s0 s1
  -- what stands is kept
  have keepH : ∀ {G G' : Hp}, KeepB rn ea H G → (∀ b u, b ≠ sa → b ≠ ea → b ≠ rn → G b = some u → G' b = some u) → KeepB rn ea H G' := fun k1 k2 b u n1 n2 e => k2 b u (fun z => by rw [z, hsa] at e; cases e) n2 n1 (k1 b u n1 n2 e)
  -- the end
  generalize hR : runA gl fu ⟨.ev t e, [], []⟩ = R at q
  have done : ∀ (v' : V) (G' : Hp) (stk : List Frm) (evs : List Int) (n : Nat), KeepB rn ea H G' → LSt G' sa rn td ea gl (fu : Int) (n : Int) stk evs → FinL G' R.1 v' → R.2.1 = n → R.2.2 = evs → Q v' G' := fun v' G' stk evs n k l hf h1 h2 => by
    obtain ⟨ys, h3, h4⟩ := l.v
    have h5 := l.r
    refine q v' G' ys k hf ?_ h3 ?_
    · rw [h1]; exact h5
    · rw [h2]; exact h4
  have two : ∀ {G : Hp} {m : Mst} {v6 : V}, (match m.ctl with | .ev t e => ∃ tv ev, v6 = .non ∧ t.At F0 G tv ∧ e.L G ev | .hd h => h.L G v6) → True := fun _ => trivial
  refine ⟨_, rfl, rn, _, rfl, rk_fuel hL1.r, ?_⟩
  refine ⟨_, _, rfl, rfl, _, rfl, by omega, by omega, for_range (fun (i : Nat) σ G => ∃ (m : Mst) (tv ev hv : V) (v5 v6 : Option V), σ = [some tv, some ev, some (.ref rn), some (.ref sa), some hv, v5, v6] ∧ i ≤ fu ∧ KeepB rn ea H G ∧ LSt G sa rn td ea gl (fu : Int) (i : Int) m.stk m.evs ∧ m.ok ∧ norm m = m ∧ m.stk.length ≤ i ∧ m.evs.length ≤ i ∧
    (match m.ctl with | .ev t e => hv = .non ∧ t.At F0 G tv ∧ e.L G ev | .hd h => h.L G hv) ∧ R.1 = (runA gl (fu - i) m).1 ∧ R.2.1 = (runA gl (fu - i) m).2.1 + i ∧ R.2.2 = (runA gl (fu - i) m).2.2) ?_ ?_ ?_⟩
  · cases hq : enterA t e with
    | none =>
      rw [hq] at hen
      have hen : v1 = .non := hen
      subst hen
      refine ⟨⟨.ev t e, [], []⟩, tv, ev, .non, _, _, rfl, Nat.zero_le _, KeepB.same s01, hL1, ⟨⟨htk, heo⟩, fun f hf => absurd hf List.not_mem_nil⟩, norm_none hq, Nat.le_refl _, Nat.le_refl _, ⟨rfl, hat.keep (fr_same s01), he.keep (fr_same s01)⟩, ?_⟩
      rw [Nat.sub_zero, hR]
      exact ⟨rfl, rfl, rfl⟩
    | some h =>
      rw [hq] at hen
      have hen : h.L G1 v1 := hen
      refine ⟨⟨.hd h, [], []⟩, tv, ev, v1, _, _, rfl, Nat.zero_le _, KeepB.same s01, hL1, ⟨enter_ok htk heo hq, fun f hf => absurd hf List.not_mem_nil⟩, rfl, Nat.le_refl _, Nat.le_refl _, hen, ?_⟩
      have hrn := runA_norm (gl := gl) (k := fu) (m := ⟨.ev t e, [], []⟩)
      rw [norm_some hq] at hrn
      rw [Nat.sub_zero, hrn, hR]
      exact ⟨rfl, rfl, rfl⟩
  · rintro i σ G hi ⟨m, tv, ev, hv, v5, v6, rfl, hif, hk, hL, hmo, hnm, hsl, hel, hct, r1, r2, r3⟩
    refine ⟨fun σ' G' => σ' = [some tv, some ev, some (.ref rn), some (.ref sa), some hv, some (.int (0 + (i : Int))), v6] ∧ Same G G' ∧ ∀ h0, m.ctl = .hd h0 → m.stk ≠ [], ?_, ?_⟩
    · obtain ⟨ct, stk, evs⟩ := m
      cases ct with
      | ev t e =>
        obtain ⟨rfl, hta, hea'⟩ := hct
        refine ⟨_, rfl, rfl, _, rfl, ?_⟩
        refine iteF ?_
        exact ⟨rfl, fun _ _ e => e, fun h0 h => by cases h⟩
      | hd h =>
        obtain ⟨ha, hxs, rfl, hha⟩ := hd_word hct
        refine ⟨_, rfl, rfl, _, rfl, ?_⟩
        refine iteT ?_
        obtain ⟨xs, hsa1, hfr⟩ := hL.s
        refine ⟨_, rfl, by show 0 ≤ sizeLine; exact Nat.zero_le _, fun tb htb => ?_⟩
        have sb := same_new htb (.lst [])
        refine ⟨sa, tb, xs, rfl, rfl, SqL.of (sb _ _ hsa1), SqL.of upd_same, _, rfl, ?_⟩
        cases stk with
        | nil =>
          cases (show xs = [] from hfr)
          refine iteT ?_
          rw [runA_hd] at r1 r2 r3
          refine ⟨_, rfl, done _ _ [] evs i (keepH hk fun b u _ _ _ e => sb b u e) (hL.same sb) ?_ (r2.trans (Nat.zero_add i)) r3⟩
          rw [r1]
          exact Head.L.keep (fr_same sb) hct
        | cons g stk =>
          obtain ⟨x, ys, rfl, _⟩ := hfr
          refine iteF ?_
          exact ⟨rfl, sb, fun h0 _ h => by cases h⟩
    · rintro _ G1 ⟨rfl, sG, hne⟩
      have hL1 := hL.same sG
      have hk1 : KeepB rn ea H G1 := keepH hk fun b u _ _ _ e => sG b u e
      refine ⟨_, rfl, rn, _, rfl, rk_steps hL1.r, _, rfl, rn, _, rfl, rk_fuel hL1.r, ?_⟩
      refine ⟨_, _, rfl, rfl, _, rfl, ?_⟩
      refine ite2 (fun h => ?_) (fun h => ?_)
      · have h := of_decide_eq_true h
        have e0 : fu - i = 0 := by omega
        rw [e0, runA_zero hne hnm] at r1 r2 r3
        refine ⟨by show 1 ≤ sizeLine; decide, fun t9 ht9 => ?_⟩
        have s9 := same_new ht9 (.tup [.str "more"])
        refine done _ _ m.stk m.evs i (keepH hk1 fun b u _ _ _ e => s9 b u e) (hL1.same s9) ?_ (r2.trans (Nat.zero_add i)) r3
        rw [r1]
        exact ⟨t9, rfl, upd_same⟩
      · have h := of_decide_eq_false (Bool.eq_false_iff.mpr h)
        have hlt : i < fu := by omega
        obtain ⟨k, hkk⟩ : ∃ k, fu - i = k + 1 := ⟨fu - i - 1, by omega⟩
        rw [hkk, runA_succ hne hnm] at r1 r2 r3
        refine ⟨_, rfl, rn, _, rfl, rk_steps hL1.r, ?_⟩
        refine ⟨_, _, rfl, rfl, _, rfl, rn, _, rfl, DPut.k (k := Sum.inr "steps") hL1.r (by show 4 < sizeLine; decide), ?_⟩
        rw [rk_put, show (i : Int) + 1 = ((i + 1 : Nat) : Int) by omega]
        obtain ⟨hL2, f2⟩ := hL1.step (n := ((i + 1 : Nat) : Int)) htd
        have k2 : ∀ b u, b ≠ rn → G1 b = some u → upd G1 rn (.dK (runKv td ea (fu : Int) ((i + 1 : Nat) : Int))) b = some u := fun b u n1 e => by rw [upd_ne n1]; exact e
        have hk2 : KeepB rn ea H (upd G1 rn (.dK (runKv td ea (fu : Int) ((i + 1 : Nat) : Int)))) := keepH hk1 fun b u _ _ n3 e => k2 b u n3 e
        generalize upd G1 rn (.dK (runKv td ea (fu : Int) ((i + 1 : Nat) : Int))) = G2 at hL2 f2 k2 hk2 ⊢
        have fG2 : Fr F0 G G2 := ⟨fun a xs e => f2.1 _ _ (sG _ _ e), fun a zs b _ => b.elim⟩
        refine ⟨fun σ' G' => ∃ v6', σ' = [some tv, some ev, some (.ref rn), some (.ref sa), some hv, some (.int (0 + (i : Int))), some v6'] ∧ KeepB sa ea G2 G' ∧ OutL G' sa rn td ea gl (fu : Int) ((i + 1 : Nat) : Int) m.evs (stepA gl m) v6', ?_, ?_⟩
        · obtain ⟨ct, stk, evs⟩ := m
          have hsl : stk.length ≤ i := hsl
          have hel : evs.length ≤ i := hel
          cases ct with
          | ev t e =>
            obtain ⟨rfl, hta, hev⟩ := hct
            have hmc : TOk t ∧ e.ok := hmo.ctl
            obtain ⟨z, r, rfl, hfz⟩ := form_tup (tt_parts hmc.1.1).1
            have hen : enterA (.tup (.str z :: r)) e = none := by
              cases hq : enterA (.tup (.str z :: r)) e with
              | none => rfl
              | some h0 => rw [norm_some hq] at hnm; cases hnm
            refine ⟨_, rfl, rfl, _, rfl, ?_⟩
            refine iteT ?_
            exact ⟨_, rfl, _, rfl, _, rfl, _, rfl, z, r, _, e, _, sa, rn, td, ea, gl, _, _, stk, evs, rfl, hta.keep fG2, hfz, hen, hev.keep fG2, hL2, by omega, by omega, fun v' H' kb ho => ⟨v', rfl, kb, ho⟩⟩
          | hd h =>
            obtain ⟨ha, hxs, rfl, hha⟩ := hd_word hct
            have hho : h.ok := hmo.ctl
            refine ⟨_, rfl, rfl, _, rfl, ?_⟩
            refine iteF ?_
            rcases List.eq_nil_or_concat stk with rfl | ⟨stk', g, rfl⟩
            · exact absurd rfl (hne h rfl)
            rw [List.concat_eq_append] at hL2 hsl ⊢
            obtain ⟨ys, y, h1, l1, g1, kb1, f1⟩ := hL2.pop
            rw [step_hd]
            have hgo : g.ok := hmo.stk g (by rw [List.concat_eq_append]; exact List.mem_append_right _ (List.mem_singleton.mpr rfl))
            rw [List.length_append] at hsl
            refine ⟨_, rfl, .inl ⟨rfl, _, SqL.of h1⟩, sa, _, y, rfl, rfl, h1, by rw [List.length_append]; exact List.getElem?_concat_length, ?_⟩
            rw [List.dropLast_concat]
            exact ⟨_, rfl, _, rfl, g, y, h, _, sa, rn, td, ea, gl, _, _, stk', evs, rfl, g1, hgo, (Head.L.keep fG2 hct).keep f1, hho, l1, by omega, fun v' H' kb ho => ⟨v', rfl, kb1.trans kb, ho⟩⟩
        · rintro _ G' ⟨v6', rfl, kb, ho⟩
          have hk3 : KeepB rn ea H G' := keepH hk2 fun b u n1 n2 _ e => kb b u n1 n2 e
          cases hst : stepA gl m with
          | stuck =>
            rw [hst] at ho r1 r2 r3
            obtain ⟨rfl, stk, l3⟩ := ho
            refine ⟨_, rfl, rfl, _, rfl, ?_⟩
            refine iteT ?_
            refine ⟨by show 1 ≤ sizeLine; decide, fun t9 ht9 => ?_⟩
            have s9 := same_new ht9 (.tup [.str "stuck"])
            refine done _ _ stk m.evs (i + 1) (keepH hk3 fun b u _ _ _ e => s9 b u e) (l3.same s9) ?_ (r2.trans (Nat.add_comm 1 i)) r3
            rw [r1]
            exact ⟨t9, rfl, upd_same⟩
          | fault sf =>
            rw [hst] at ho r1 r2 r3
            obtain ⟨⟨a, rfl, ha⟩, stk, l3⟩ := ho
            refine ⟨_, rfl, rfl, _, rfl, ?_⟩
            refine iteF ?_
            refine ⟨_, rfl, a, _, 0, _, rfl, rfl, SqT.of ha, at0 _ _, .inl ⟨rfl, _, rfl, ?_⟩⟩
            refine iteT ?_
            refine ⟨_, rfl, done _ _ stk m.evs (i + 1) hk3 l3 ?_ (r2.trans (Nat.add_comm 1 i)) r3⟩
            rw [r1]
            exact ⟨a, rfl, ha⟩
          | go m' =>
            rw [hst] at ho r1 r2 r3
            obtain ⟨l3, hc⟩ := ho
            have hm' : m'.ok ∧ m'.stk.length ≤ i + 1 ∧ m'.evs.length ≤ i + 1 := by
              obtain ⟨ct, stk, evs⟩ := m
              have hsl : stk.length ≤ i := hsl
              have hel : evs.length ≤ i := hel
              cases ct with
              | ev t e =>
                have hmc : TOk t ∧ e.ok := hmo.ctl
                obtain ⟨z, r, rfl, hfz⟩ := form_tup (tt_parts hmc.1.1).1
                have hen : enterA (.tup (.str z :: r)) e = none := by
                  cases hq : enterA (.tup (.str z :: r)) e with
                  | none => rfl
                  | some h0 => rw [norm_some hq] at hnm; cases hnm
                obtain ⟨h1, h2, h3⟩ := down_ok hgl hmc.1 hmc.2 hmo.stk hen hst
                exact ⟨h1, by omega, by omega⟩
              | hd h =>
                rcases List.eq_nil_or_concat stk with rfl | ⟨stk', g, rfl⟩
                · exact absurd rfl (hne h rfl)
                rw [List.concat_eq_append] at hst hsl
                rw [step_hd] at hst
                have hgo : g.ok := hmo.stk g (by rw [List.concat_eq_append]; exact List.mem_append_right _ (List.mem_singleton.mpr rfl))
                rw [List.length_append] at hsl
                obtain ⟨h1, h2, h3⟩ := up_ok hgo hmo.ctl (fun f hf => hmo.stk f (by rw [List.concat_eq_append]; exact List.mem_append_left _ hf)) hst
                have e1 : [g].length = 1 := rfl
                exact ⟨h1, by omega, by omega⟩
            obtain ⟨hmo', hsl', hel'⟩ := hm'
            have e2 : fu - (i + 1) = k := by omega
            have r2' : R.2.1 = (runA gl k m').2.1 + (i + 1) := by rw [r2]; show (runA gl k m').2.1 + 1 + i = _; omega
            obtain ⟨ct', stk', evs'⟩ := m'
            cases ct' with
            | hd h =>
              obtain ⟨a, hv', rfl, ha, hh⟩ := hc
              refine ⟨_, rfl, rfl, _, rfl, ?_⟩
              refine iteF ?_
              refine ⟨_, rfl, a, _, 0, _, rfl, rfl, SqT.of ha, at0 _ _, .inl ⟨rfl, _, rfl, ?_⟩⟩
              refine (show ∀ {A B : Prop}, B → if decide (V.str "give" = V.str "fault") = true then A else B from fun hb => by rw [wne (by decide +kernel)]; exact iteF hb) ?_
              refine ⟨_, rfl, a, _, 0, _, rfl, rfl, SqT.of ha, at0 _ _, .inl ⟨rfl, _, rfl, ?_⟩⟩
              refine iteT ?_
              refine ⟨_, rfl, a, _, 1, _, rfl, rfl, SqT.of ha, at1 _ _ _, ?_⟩
              refine ⟨⟨.hd h, stk', evs'⟩, tv, ev, hv', _, _, rfl, hlt, hk3, l3, hmo', rfl, hsl', hel', hh, ?_⟩
              rw [e2]
              exact ⟨r1, r2', r3⟩
            | ev t2 e2' =>
              obtain ⟨a, tv2, ev2, rfl, ha, ht2, he2⟩ := hc
              have hmc : TOk t2 ∧ e2'.ok := hmo'.ctl
              obtain ⟨z, r, rfl, hfz⟩ := form_tup (tt_parts hmc.1.1).1
              obtain ⟨ta, ys0, rfl, hta, _⟩ := head_at ht2
              refine ⟨_, rfl, rfl, _, rfl, ?_⟩
              refine iteF ?_
              refine ⟨_, rfl, a, _, 0, _, rfl, rfl, SqT.of ha, at0 _ _, .inr ⟨ta, _, _, rfl, SqT.of hta, rfl, _, rfl, ?_⟩⟩
              refine iteF ?_
              refine ⟨_, rfl, a, _, 0, _, rfl, rfl, SqT.of ha, at0 _ _, .inr ⟨ta, _, _, rfl, SqT.of hta, rfl, _, rfl, ?_⟩⟩
              refine iteF ?_
              refine ⟨_, rfl, a, _, rfl, SqT.of ha, rfl, _, _, rfl, _, _, rfl, rfl, ?_⟩
              refine ⟨_, rfl, _, rfl, _, rfl, rn, _, rfl, rk_terms l3.r, _, _, e2', ev2, td, gl, rfl, ht2, hmc.1.1, he2, l3.g, fun v4 G4 s4 hen => ?_⟩
              have hk4 : KeepB rn ea H G4 := keepH hk3 fun b u _ _ _ e => s4 b u e
              cases hq : enterA (.tup (.str z :: r)) e2' with
              | none =>
                rw [hq] at hen
                have hen : v4 = .non := hen
                subst hen
                refine ⟨⟨.ev (.tup (.str z :: r)) e2', stk', evs'⟩, _, ev2, .non, _, _, rfl, hlt, hk4, l3.same s4, hmo', norm_none hq, hsl', hel', ⟨rfl, ht2.keep (fr_same s4), he2.keep (fr_same s4)⟩, ?_⟩
                rw [e2]
                exact ⟨r1, r2', r3⟩
              | some h =>
                rw [hq] at hen
                have hen : h.L G4 v4 := hen
                refine ⟨⟨.hd h, stk', evs'⟩, _, ev2, v4, _, _, rfl, hlt, hk4, l3.same s4, ⟨enter_ok hmc.1 hmc.2 hq, hmo'.stk⟩, rfl, hsl', hel', hen, ?_⟩
                have hrn := runA_norm (gl := gl) (k := k) (m := ⟨.ev (.tup (.str z :: r)) e2', stk', evs'⟩)
                rw [norm_some hq] at hrn
                rw [e2, hrn]
                exact ⟨r1, r2', r3⟩
  · rintro σ G ⟨m, tv, ev, hv, v5, v6, rfl, hif, _⟩
    exact absurd hif (by omega)
end
end Toy

set_option Elab.async false
set_option linter.all false
set_option maxRecDepth 100000
set_option maxHeartbeats 4000000
/-! Part MM: the program's machine in the heap. -/
namespace Toy
open PySem L2
open PyProof.Rows (envOfC)
theorem met_of {P : Program} {w : World} {K : PySem.W.Frag} {mg : Str → Option Value} {base : Heap} {C : Addr} {m qual : Str} {st : Stmt} {f : Addr} {fd : FuncData} {N ps : List Str} {k : Nat} {sp : Sp} (c : Cls K C) (me : Meth K C m f) (F : Fun K m qual st f fd) (b : Binds K fd ps []) (S : FnScope N ps (defScope st)) (len : ∀ vs H Q E, sp vs H Q E → vs.length = ps.length)
    (hbody : ∀ (cdv : Value) (A : Around) (outer : List PySem.Env) (s : Shared) (H : Hp) (vs : List V) (Q : VK) (E : XK), Room k (A.deeper (envOfC qual (defScope st) s.heap.objs.size f cdv)) → sp vs H Q E →
      ∃ t, PSs (cxOf CX0 P w K mg base N qual (defScope st) f cdv A outer s H E).nox (defBody st) t ∧ t { nx := fun _ H' => Q .non H', rt := Q } (start N vs) H) : C8.Met P w K mg base (k + 1) C m sp [] :=
  ⟨f, fd, ps, [], c, me, F.ok S len hbody, b, .nil⟩
/-- the fields of an evaluation -/
def fE (td : Addr) (fu st : Int) (ea sa : Addr) (tm ar hd : V) : List (Str × V) := [("terms", .ref td), ("fuel", .int fu), ("steps", .int st), ("events", .ref ea), ("stack", .ref sa), ("term", tm), ("around", ar), ("head", hd)]
section
variable (td : Addr) (fu st : Int) (ea sa : Addr) (tm ar hd : V)
theorem fE_terms : (fE td fu st ea sa tm ar hd).lookup ("terms" : Str) = some (.ref td) := by rfl
theorem fE_fuel : (fE td fu st ea sa tm ar hd).lookup ("fuel" : Str) = some (.int fu) := by rfl
theorem fE_steps : (fE td fu st ea sa tm ar hd).lookup ("steps" : Str) = some (.int st) := by rfl
theorem fE_events : (fE td fu st ea sa tm ar hd).lookup ("events" : Str) = some (.ref ea) := by rfl
theorem fE_stack : (fE td fu st ea sa tm ar hd).lookup ("stack" : Str) = some (.ref sa) := by rfl
theorem fE_term : (fE td fu st ea sa tm ar hd).lookup ("term" : Str) = some (tm) := by rfl
theorem fE_around : (fE td fu st ea sa tm ar hd).lookup ("around" : Str) = some (ar) := by rfl
theorem fE_head : (fE td fu st ea sa tm ar hd).lookup ("head" : Str) = some (hd) := by rfl
theorem fEp_term (v : V) : putF "term" v (fE td fu st ea sa tm ar hd) = fE td fu st ea sa v ar hd := by rfl
theorem fEp_around (v : V) : putF "around" v (fE td fu st ea sa tm ar hd) = fE td fu st ea sa tm v hd := by rfl
theorem fEp_head (v : V) : putF "head" v (fE td fu st ea sa tm ar hd) = fE td fu st ea sa tm ar v := by rfl
theorem fEp_steps (n : Int) : putF "steps" (.int n) (fE td fu st ea sa tm ar hd) = fE td fu n ea sa tm ar hd := by rfl
theorem fE_no_begin : (fE td fu st ea sa tm ar hd).lookup ("begin" : Str) = none := by rfl
theorem fE_no_put : (fE td fu st ea sa tm ar hd).lookup ("put" : Str) = none := by rfl
theorem fE_no_run : (fE td fu st ea sa tm ar hd).lookup ("run" : Str) = none := by rfl
theorem fE_no_look_for_head : (fE td fu st ea sa tm ar hd).lookup ("look_for_head" : Str) = none := by rfl
theorem fE_len : (fE td fu st ea sa tm ar hd).length < 1000 := by show 8 < 1000; decide
end
/-! ### ghosts: which environment a dict stands for -/
abbrev Rho := Addr → Option Env
def Rle (r s : Rho) : Prop := ∀ d e, r d = some e → s d = some e
theorem Rle.refl (r : Rho) : Rle r r := fun _ _ h => h
theorem Rle.trans {r s t : Rho} (h : Rle r s) (k : Rle s t) : Rle r t := fun d e x => k d e (h d e x)
/-- tuples and dicts stay -/
def Kp (H H' : Hp) : Prop := (∀ a xs, H a = some (.tup xs) → H' a = some (.tup xs)) ∧ ∀ a kvs, H a = some (.dK kvs) → H' a = some (.dK kvs)
theorem Kp.fr {H H' : Hp} (k : Kp H H') : Fr F0 H H' := ⟨k.1, fun a zs b _ => b.elim⟩
theorem Kp.trans {H1 H2 H3 : Hp} (h : Kp H1 H2) (k : Kp H2 H3) : Kp H1 H3 := ⟨fun a xs e => k.1 a xs (h.1 a xs e), fun a xs e => k.2 a xs (h.2 a xs e)⟩
theorem Kp.same {H H' : Hp} (s : Same H H') : Kp H H' := ⟨fun a xs e => s _ _ e, fun a xs e => s _ _ e⟩
theorem Kp.upd {H : Hp} {a : Addr} {u v : HO} (e : H a = some u) (h1 : ∀ xs, u ≠ .tup xs) (h2 : ∀ kvs, u ≠ .dK kvs) : Kp H (upd H a v) :=
  ⟨fun b xs f => by rw [upd_ne (fun z => by rw [z, e] at f; exact h1 xs (Option.some.inj f))]; exact f, fun b xs f => by rw [upd_ne (fun z => by rw [z, e] at f; exact h2 xs (Option.some.inj f))]; exact f⟩
def HdP (H : Hp) (r : Rho) : Head → V → Prop
  | .num i, v => ∃ (a : Addr), v = .ref a ∧ H a = some (.tup [.str "num", .int i])
  | .con tag args e, v => ∃ (a p : Addr) (xs : List V) (d : Addr), v = .ref a ∧ H a = some (.tup [.str "con", .int tag, .ref p, .ref d]) ∧ H p = some (.tup xs) ∧ Dd.Ats F0 H args xs ∧ r d = some e
  | .fn x b e, v => ∃ (a : Addr) (bv : V) (d : Addr), v = .ref a ∧ H a = some (.tup [.str "fun", .str x, bv, .ref d]) ∧ b.At F0 H bv ∧ r d = some e
theorem HdP.keep {H H' : Hp} {r r' : Rho} (f : Fr F0 H H') (g : Rle r r') : ∀ {h : Head} {v : V}, HdP H r h v → HdP H' r' h v
  | .num i, v, ⟨a, h1, h2⟩ => ⟨a, h1, f.1 _ _ h2⟩
  | .con tag args e, v, ⟨a, p, xs, d, h1, h2, h3, h4, h5⟩ => ⟨a, p, xs, d, h1, f.1 _ _ h2, f.1 _ _ h3, h4.keep f, g _ _ h5⟩
  | .fn x b e, v, ⟨a, bv, d, h1, h2, h3, h4⟩ => ⟨a, bv, d, h1, f.1 _ _ h2, h3.keep f, g _ _ h4⟩
theorem hdP_word {H : Hp} {r : Rho} {h : Head} {v : V} (hh : HdP H r h v) : ∃ a xs, v = .ref a ∧ H a = some (.tup (.str h.word :: xs)) := by
  cases h with
  | num i => obtain ⟨a, h1, h2⟩ := hh; exact ⟨a, _, h1, h2⟩
  | con t l e => obtain ⟨a, p, xs, d, h1, h2, _⟩ := hh; exact ⟨a, _, h1, h2⟩
  | fn x b e => obtain ⟨a, bv, d, h1, h2, _⟩ := hh; exact ⟨a, _, h1, h2⟩
def EntP (H : Hp) (r : Rho) (kvs : List (Key × V)) (s : Str) : Option Ent → Prop
  | none => valV kvs (Sum.inr s) = none
  | some (.term t e) => ∃ (a : Addr) (tv : V) (d : Addr), valV kvs (Sum.inr s) = some (.ref a) ∧ H a = some (.tup [.str "term", tv, .ref d]) ∧ t.At F0 H tv ∧ r d = some e
  | some (.head h) => ∃ (a : Addr) (hv : V), valV kvs (Sum.inr s) = some (.ref a) ∧ H a = some (.tup [.str "head", hv]) ∧ HdP H r h hv
theorem EntP.keep {H H' : Hp} {r r' : Rho} {kvs : List (Key × V)} {s : Str} (f : Fr F0 H H') (g : Rle r r') : ∀ {o : Option Ent}, EntP H r kvs s o → EntP H' r' kvs s o
  | none, h => h
  | some (.term t e), ⟨a, tv, d, h1, h2, h3, h4⟩ => ⟨a, tv, d, h1, f.1 _ _ h2, h3.keep f, g _ _ h4⟩
  | some (.head h), ⟨a, hv, h1, h2, h3⟩ => ⟨a, hv, h1, f.1 _ _ h2, h3.keep f g⟩
def EnvP (H : Hp) (r : Rho) (N : Nat) (d : Addr) (e : Env) : Prop := ∃ kvs, H d = some (.dK kvs) ∧ kvs.length ≤ N ∧ ∀ s, EntP H r kvs s (e.look s)
def RhoOk (H : Hp) (r : Rho) (N : Nat) : Prop := ∀ d e, r d = some e → EnvP H r N d e
theorem EnvP.keep {H H' : Hp} {r r' : Rho} {N M : Nat} {d : Addr} {e : Env} (k : Kp H H') (g : Rle r r') (hn : N ≤ M) (h : EnvP H r N d e) : EnvP H' r' M d e := by
  obtain ⟨kvs, h1, h2, h3⟩ := h
  exact ⟨kvs, k.2 _ _ h1, Nat.le_trans h2 hn, fun s => (h3 s).keep k.fr g⟩
theorem RhoOk.keep {H H' : Hp} {r : Rho} {N M : Nat} (k : Kp H H') (hn : N ≤ M) (h : RhoOk H r N) : RhoOk H' r M := fun d e x => (h d e x).keep k (Rle.refl r) hn
/-- a dict more -/
def Rho.put (r : Rho) (d : Addr) (e : Env) : Rho := fun b => if b = d then some e else r b
theorem Rho.put_self (r : Rho) (d : Addr) (e : Env) : r.put d e d = some e := if_pos rfl
theorem Rho.put_le {r : Rho} {d : Addr} {e : Env} (h : r d = none) : Rle r (r.put d e) := fun b e' x => by
  unfold Rho.put
  rw [if_neg (fun z => by rw [z, h] at x; cases x)]
  exact x
theorem RhoOk.off {H : Hp} {r : Rho} {N : Nat} {d : Addr} (h : RhoOk H r N) (hd : H d = none) : r d = none := by
  cases e : r d with
  | none => rfl
  | some x =>
    obtain ⟨kvs, h1, _⟩ := h d x e
    rw [hd] at h1
    cases h1
theorem RhoOk.put {H H' : Hp} {r : Rho} {N M : Nat} {d : Addr} {e : Env} (h : RhoOk H r N) (hd : H d = none) (k : Kp H H') (hn : N ≤ M) (he : EnvP H' (r.put d e) M d e) : RhoOk H' (r.put d e) M := fun b e' x => by
  by_cases c : b = d
  · subst c
    rw [Rho.put_self] at x
    cases x
    exact he
  · have x' : r b = some e' := by
      unfold Rho.put at x
      rwa [if_neg c] at x
    exact (h b e' x').keep k (Rho.put_le (h.off hd)) hn
def FrmP (H : Hp) (r : Rho) : Frm → V → Prop
  | .arg t e, v => ∃ (a : Addr) (tv : V) (d : Addr), v = .ref a ∧ H a = some (.tup [.str "argument", tv, .ref d]) ∧ t.At F0 H tv ∧ r d = some e
  | .seq x b e, v => ∃ (a : Addr) (bv : V) (d : Addr), v = .ref a ∧ H a = some (.tup [.str "seq", .str x, bv, .ref d]) ∧ b.At F0 H bv ∧ r d = some e
  | .ch z rows dd e, v => ∃ (a p : Addr) (xs : List V) (dv : V) (d : Addr), v = .ref a ∧ H a = some (.tup [.str z, .ref p, dv, .ref d]) ∧ H p = some (.tup xs) ∧ Dd.Ats F0 H rows xs ∧ dd.At F0 H dv ∧ r d = some e
  | .snd s t e, v => ∃ (a : Addr) (tv : V) (d : Addr), v = .ref a ∧ H a = some (.tup [.str "second", .str s, tv, .ref d]) ∧ t.At F0 H tv ∧ r d = some e
  | .fst s i, v => ∃ (a : Addr), v = .ref a ∧ H a = some (.tup [.str "first", .str s, .int i])
theorem FrmP.keep {H H' : Hp} {r r' : Rho} (f : Fr F0 H H') (gr : Rle r r') : ∀ {g : Frm} {v : V}, FrmP H r g v → FrmP H' r' g v
  | .arg t e, v, ⟨a, tv, d, h1, h2, h3, h4⟩ => ⟨a, tv, d, h1, f.1 _ _ h2, h3.keep f, gr _ _ h4⟩
  | .seq x b e, v, ⟨a, bv, d, h1, h2, h3, h4⟩ => ⟨a, bv, d, h1, f.1 _ _ h2, h3.keep f, gr _ _ h4⟩
  | .ch z rows dd e, v, ⟨a, p, xs, dv, d, h1, h2, h3, h4, h5, h6⟩ => ⟨a, p, xs, dv, d, h1, f.1 _ _ h2, f.1 _ _ h3, h4.keep f, h5.keep f, gr _ _ h6⟩
  | .snd s t e, v, ⟨a, tv, d, h1, h2, h3, h4⟩ => ⟨a, tv, d, h1, f.1 _ _ h2, h3.keep f, gr _ _ h4⟩
  | .fst s i, v, ⟨a, h1, h2⟩ => ⟨a, h1, f.1 _ _ h2⟩
def FrmsP (H : Hp) (r : Rho) : List Frm → List V → Prop
  | [], xs => xs = []
  | g :: gs, xs => ∃ x ys, xs = x :: ys ∧ FrmP H r g x ∧ FrmsP H r gs ys
theorem FrmsP.keep {H H' : Hp} {r r' : Rho} (f : Fr F0 H H') (gr : Rle r r') : ∀ {gs : List Frm} {xs : List V}, FrmsP H r gs xs → FrmsP H' r' gs xs
  | [], _, h => h
  | g :: gs, _, ⟨x, ys, e, h1, h2⟩ => ⟨x, ys, e, h1.keep f gr, FrmsP.keep f gr h2⟩
theorem FrmsP.snoc {H : Hp} {r : Rho} {g : Frm} {x : V} (hg : FrmP H r g x) : ∀ {gs : List Frm} {xs : List V}, FrmsP H r gs xs → FrmsP H r (gs ++ [g]) (xs ++ [x])
  | [], _, h => by cases h; exact ⟨x, [], rfl, hg, rfl⟩
  | g' :: gs, _, ⟨y, ys, e, h1, h2⟩ => by
    subst e
    exact ⟨y, _, rfl, h1, FrmsP.snoc hg h2⟩
theorem FrmsP.last {H : Hp} {r : Rho} {g : Frm} : ∀ {gs : List Frm} {xs : List V}, FrmsP H r (gs ++ [g]) xs → ∃ ys y, xs = ys ++ [y] ∧ FrmsP H r gs ys ∧ FrmP H r g y
  | [], _, ⟨x, ys, e, h1, h2⟩ => by
    cases (show ys = [] from h2)
    exact ⟨[], x, e, rfl, h1⟩
  | g' :: gs, _, ⟨x, ys, e, h1, h2⟩ => by
    obtain ⟨zs, y, e2, h3, h4⟩ := FrmsP.last (gs := gs) h2
    exact ⟨x :: zs, y, by rw [e, e2]; rfl, ⟨x, zs, rfl, h1, h3⟩, h4⟩
theorem FrmsP.len {H : Hp} {r : Rho} : ∀ {gs : List Frm} {xs : List V}, FrmsP H r gs xs → xs.length = gs.length
  | [], _, h => by cases h; rfl
  | g :: gs, _, ⟨x, ys, e, h1, h2⟩ => by rw [e, List.length_cons, List.length_cons, FrmsP.len h2]
/-! ### a state of the machine -/
/-- where it keeps what changes -/
structure Pl where
  mo : Addr
  td : Addr
  sa : Addr
  ea : Addr
  fu : Int
/-- kept but for the machine and its two lists -/
def KeepM (p : Pl) (H H' : Hp) : Prop := ∀ b u, b ≠ p.mo → b ≠ p.sa → b ≠ p.ea → H b = some u → H' b = some u
theorem KeepM.same {p : Pl} {H H' : Hp} (s : Same H H') : KeepM p H H' := fun b u _ _ _ e => s b u e
theorem KeepM.trans {p : Pl} {H1 H2 H3 : Hp} (h : KeepM p H1 H2) (k : KeepM p H2 H3) : KeepM p H1 H3 := fun b u n1 n2 n3 e => k b u n1 n2 n3 (h b u n1 n2 n3 e)
/-- lists, terms and ghosts -/
structure MB (C : Addr) (H : Hp) (r : Rho) (N : Nat) (p : Pl) (gl : Str → Option Dd) (stk : List Frm) (evs : List Int) : Prop where
  ne : p.sa ≠ p.ea
  nm : p.mo ≠ p.sa ∧ p.mo ≠ p.ea
  s : ∃ xs, H p.sa = some (.lst xs) ∧ FrmsP H r stk xs
  v : ∃ ys, H p.ea = some (.lst ys) ∧ Dd.Ats F0 H (evs.map evD) ys
  g : GlAt H p.td gl
  r : RhoOk H r N
/-- the machine's own fields -/
def MO (C : Addr) (H : Hp) (p : Pl) (st : Int) (tm ar hd : V) : Prop := ∃ dx, H p.mo = some (.ins C dx (fE p.td p.fu st p.ea p.sa tm ar hd))
theorem MB.keep {C : Addr} {H H' : Hp} {r : Rho} {N M : Nat} {p : Pl} {gl : Str → Option Dd} {stk : List Frm} {evs : List Int} (h : MB C H r N p gl stk evs) (k : Kp H H') (hn : N ≤ M) (h1 : ∀ xs, H p.sa = some (.lst xs) → H' p.sa = some (.lst xs)) (h2 : ∀ xs, H p.ea = some (.lst xs) → H' p.ea = some (.lst xs)) : MB C H' r M p gl stk evs := by
  obtain ⟨xs, h3, h4⟩ := h.s
  obtain ⟨ys, h5, h6⟩ := h.v
  exact ⟨h.ne, h.nm, ⟨xs, h1 _ h3, h4.keep k.fr (Rle.refl r)⟩, ⟨ys, h2 _ h5, h6.keep k.fr⟩, h.g.keep k.fr fun kvs e => k.2 _ _ e, h.r.keep k hn⟩
theorem MB.same {C : Addr} {H H' : Hp} {r : Rho} {N : Nat} {p : Pl} {gl : Str → Option Dd} {stk : List Frm} {evs : List Int} (h : MB C H r N p gl stk evs) (s : Same H H') : MB C H' r N p gl stk evs := h.keep (Kp.same s) (Nat.le_refl _) (fun xs e => s _ _ e) fun xs e => s _ _ e
/-- the machine's fields are put -/
theorem MB.own {C dx : Addr} {fs fs' : List (Str × V)} {H : Hp} {r : Rho} {N : Nat} {p : Pl} {gl : Str → Option Dd} {stk : List Frm} {evs : List Int} (h : MB C H r N p gl stk evs) (ho : H p.mo = some (.ins C dx fs)) : MB C (upd H p.mo (.ins C dx fs')) r N p gl stk evs ∧ Kp H (upd H p.mo (.ins C dx fs')) ∧ KeepM p H (upd H p.mo (.ins C dx fs')) := by
  have k : Kp H (upd H p.mo (.ins C dx fs')) := Kp.upd ho (fun _ z => by cases z) fun _ z => by cases z
  exact ⟨h.keep k (Nat.le_refl _) (fun xs e => by rw [upd_ne h.nm.1.symm]; exact e) (fun xs e => by rw [upd_ne h.nm.2.symm]; exact e), k, fun b u n1 n2 n3 e => by rw [upd_ne n1]; exact e⟩
/-- another dict stands for an environment -/
theorem MB.ghost {C : Addr} {H H' : Hp} {r : Rho} {N M : Nat} {p : Pl} {gl : Str → Option Dd} {stk : List Frm} {evs : List Int} {d : Addr} {e : Env} (h : MB C H r N p gl stk evs) (hd : H d = none) (s : Same H H') (hn : N ≤ M) (he : EnvP H' (r.put d e) M d e) : MB C H' (r.put d e) M p gl stk evs ∧ Rle r (r.put d e) := by
  have g : Rle r (r.put d e) := Rho.put_le (h.r.off hd)
  have k := Kp.same s
  obtain ⟨xs, h3, h4⟩ := h.s
  obtain ⟨ys, h5, h6⟩ := h.v
  exact ⟨⟨h.ne, h.nm, ⟨xs, s _ _ h3, h4.keep k.fr g⟩, ⟨ys, s _ _ h5, h6.keep k.fr⟩, h.g.keep k.fr fun kvs e => k.2 _ _ e, h.r.put hd k hn he⟩, g⟩
def CtlP (H : Hp) (r : Rho) : Ctl → V → V → V → Prop
  | .ev t e, tm, ar, hd => t.At F0 H tm ∧ ∃ d, ar = .ref d ∧ r d = some e
  | .hd h, tm, ar, hd => tm = .non ∧ HdP H r h hd
theorem CtlP.keep {H H' : Hp} {r r' : Rho} (f : Fr F0 H H') (g : Rle r r') : ∀ {c : Ctl} {tm ar hd : V}, CtlP H r c tm ar hd → CtlP H' r' c tm ar hd
  | .ev t e, _, _, _, ⟨h1, d, h2, h3⟩ => ⟨h1.keep f, d, h2, g _ _ h3⟩
  | .hd h, _, _, _, ⟨h1, h2⟩ => ⟨h1, h2.keep f g⟩
/-- a state of the machine -/
def MAt (C : Addr) (H : Hp) (r : Rho) (N : Nat) (p : Pl) (gl : Str → Option Dd) (st : Int) (m : Mst) : Prop := MB C H r N p gl m.stk m.evs ∧ ∃ tm ar hd, MO C H p st tm ar hd ∧ CtlP H r m.ctl tm ar hd
/-- what a step gives -/
def OutP (K : PySem.W.Frag) (C : Addr) (H : Hp) (N : Nat) (p : Pl) (gl : Str → Option Dd) (st : Int) (evs : List Int) (o : Out) (v : V) : Prop := match o with
  | .stuck => (∃ a, v = .ref a ∧ SqT K H a [.str "stuck"]) ∧ ∃ r M m, MAt C H r M p gl st m ∧ m.evs = evs
  | .fault s => (∃ a, v = .ref a ∧ SqT K H a [.str "fault", .str s]) ∧ ∃ r M m, MAt C H r M p gl st m ∧ m.evs = evs
  | .go m => v = .non ∧ ∃ r, MAt C H r N p gl st m
structure TxtEv (K : PySem.W.Frag) (C : Addr) : Prop where
  cl : Cls K C
  n_terms : NoAttr K C "terms"
  n_fuel : NoAttr K C "fuel"
  n_steps : NoAttr K C "steps"
  n_events : NoAttr K C "events"
  n_stack : NoAttr K C "stack"
  n_term : NoAttr K C "term"
  n_around : NoAttr K C "around"
  n_head : NoAttr K C "head"
section
variable {P : Program} {w : World} {K : PySem.W.Frag} {mg : Str → Option Value} {base : Heap} {C : Addr}
abbrev sEvBegin : Stmt := inClass (topS 9) 1
theorem scEvBegin : FnScope ["self", "term", "around"] ["self", "term", "around"] (defScope sEvBegin) := ⟨rfl, rfl, rfl, by decide +kernel, rfl, by decide +kernel, by decide +kernel⟩
def spBegin (C : Addr) : Sp := fun vs H Q _ => ∃ (p : Pl) (st : Int) (tm ar hd tm' ar' : V) (dx : Addr), vs = [.ref p.mo, tm', ar'] ∧ H p.mo = some (.ins C dx (fE p.td p.fu st p.ea p.sa tm ar hd)) ∧ Q .non (upd H p.mo (.ins C dx (fE p.td p.fu st p.ea p.sa tm' ar' hd)))
theorem c_begin {f : Addr} {fd : FuncData} (T : TxtEv K C) (me : Meth K C "begin" f) (F : Fun K "begin" "Evaluation.begin" sEvBegin f fd) (b : Binds K fd ["self", "term", "around"] []) : C8.Met P w K mg base 1 C "begin" (spBegin C) [] := by
  refine met_of T.cl me F b scEvBegin (fun vs H Q E h => ?_) (fun cdv A outer s H vs Q E hr h => ?_)
  · obtain ⟨p, st, tm, ar, hd, tm', ar', dx, rfl, _⟩ := h
    rfl
  obtain ⟨p, st, tm, ar, hd, tm', ar', dx, rfl, ho, q⟩ := h
  refine ⟨_, (pss_cons (ps_fld (pv 0) (pv 1) rfl)
    (pss_one (ps_fld (pv 0) (pv 2) rfl))), ?_⟩
  refine ⟨_, rfl, _, rfl, p.mo, C, dx, _, rfl, ho, T.cl, T.n_term, fE_len .., ?_⟩
  rw [fEp_term]
  refine ⟨_, rfl, _, rfl, p.mo, C, dx, _, rfl, upd_same, T.cl, T.n_around, fE_len .., ?_⟩
  rw [fEp_around, upd_upd]
  exact q
abbrev sEvPut : Stmt := inClass (topS 9) 4
theorem scEvPut : FnScope ["self", "head"] ["self", "head"] (defScope sEvPut) := ⟨rfl, rfl, rfl, by decide +kernel, rfl, by decide +kernel, by decide +kernel⟩
def spPut (C : Addr) : Sp := fun vs H Q _ => ∃ (p : Pl) (st : Int) (tm ar hd hd' : V) (dx : Addr), vs = [.ref p.mo, hd'] ∧ H p.mo = some (.ins C dx (fE p.td p.fu st p.ea p.sa tm ar hd)) ∧ Q .non (upd H p.mo (.ins C dx (fE p.td p.fu st p.ea p.sa .non ar hd')))
theorem c_put {f : Addr} {fd : FuncData} (T : TxtEv K C) (me : Meth K C "put" f) (F : Fun K "put" "Evaluation.put" sEvPut f fd) (b : Binds K fd ["self", "head"] []) : C8.Met P w K mg base 1 C "put" (spPut C) [] := by
  refine met_of T.cl me F b scEvPut (fun vs H Q E h => ?_) (fun cdv A outer s H vs Q E hr h => ?_)
  · obtain ⟨p, st, tm, ar, hd, hd', dx, rfl, _⟩ := h
    rfl
  obtain ⟨p, st, tm, ar, hd, hd', dx, rfl, ho, q⟩ := h
  refine ⟨_, (pss_cons (ps_fld (pv 0) (pv 1) rfl)
    (pss_one (ps_fld (pv 0) pe_non rfl))), ?_⟩
  refine ⟨_, rfl, _, rfl, p.mo, C, dx, _, rfl, ho, T.cl, T.n_head, fE_len .., ?_⟩
  rw [fEp_head]
  refine ⟨_, rfl, p.mo, C, dx, _, rfl, upd_same, T.cl, T.n_term, fE_len .., ?_⟩
  rw [fEp_term, upd_upd]
  exact q
end
end Toy

set_option Elab.async false
set_option linter.all false
set_option maxRecDepth 100000
set_option maxHeartbeats 4000000
/-! Part MN: the program's machine: heads at once, names. -/
namespace Toy
open PySem L2
open PyProof.Rows (envOfC)
section
variable {P : Program} {w : World} {K : PySem.W.Frag} {mg : Str → Option Value} {base : Heap} {C : Addr}
abbrev sEvLook : Stmt := inClass (topS 9) 3
theorem scEvLook : FnScope ["self", "term", "word"] ["self"] (defScope sEvLook) := ⟨rfl, rfl, rfl, by decide +kernel, rfl, by decide +kernel, by decide +kernel⟩
def spLFH (C : Addr) : Sp := fun vs H Q _ => ∃ (p : Pl) (st : Int) (tm hd : V) (d dx : Addr) (r : Rho) (N : Nat) (gl : Str → Option Dd) (t : Dd) (e : Env) (stk : List Frm) (evs : List Int), vs = [.ref p.mo] ∧ MB C H r N p gl stk evs ∧ H p.mo = some (.ins C dx (fE p.td p.fu st p.ea p.sa tm (.ref d) hd)) ∧ t.At F0 H tm ∧ isTT t = true ∧ r d = some e ∧
  ∀ H', KeepM p H H' → MAt C H' r N p gl st (norm ⟨.ev t e, stk, evs⟩) → Q .non H'
theorem c_lfh {f : Addr} {fd : FuncData} (T : TxtEv K C) (cput : C8.Met P w K mg base 1 C "put" (spPut C) []) (me : Meth K C "look_for_head" f) (F : Fun K "look_for_head" "Evaluation.look_for_head" sEvLook f fd) (b : Binds K fd ["self"] []) : C8.Met P w K mg base 2 C "look_for_head" (spLFH C) [] := by
  refine met_of T.cl me F b scEvLook (fun vs H Q E h => ?_) (fun cdv A outer s H vs Q E hr h => ?_)
  · obtain ⟨p, st, tm, hd, d, dx, r, N, gl, t, e, stk, evs, rfl, _⟩ := h
    rfl
  obtain ⟨p, st, tm, hd, d, dx, r, N, gl, t, e, stk, evs, rfl, hB, ho, hat, htt, hd0, q⟩ := h
  have hu := hu_of hr
  refine ⟨_, (pss_cons (ps_set (i := 1) scEvLook.nd rfl (Or.inl rfl) (pe_fld (pv 0) rfl))
    (pss_cons (ps_set (i := 2) scEvLook.nd rfl (Or.inl rfl) (pe_ix ix_tup (pv 1) pe_int (fun _ _ => rfl)))
    (pss_one (ps_if (pt_cmpR op_eq (pv 2) pe_str (nomark _))
      (pss_one (ps_expr (C8.pe_mt cput hr (by decide) (pv 0) (pa_cons (pv 1) pa_nil))))
      (pss_one (ps_if (pt_cmpR op_eq (pv 2) pe_str (nomark _))
      (pss_one (ps_expr (C8.pe_mt cput hr (by decide) (pv 0) (pa_cons (pe_tup (pa_cons pe_str (pa_cons (pe_ix ix_tup (pv 1) pe_int (fun _ _ => rfl)) (pa_cons (pe_ix ix_tup (pv 1) pe_int (fun _ _ => rfl)) (pa_cons (pe_fld (pv 0) rfl) pa_nil))))) pa_nil))))
      (pss_one (ps_if (pt_cmpR op_eq (pv 2) pe_str (nomark _))
      (pss_one (ps_expr (C8.pe_mt cput hr (by decide) (pv 0) (pa_cons (pe_tup (pa_cons pe_str (pa_cons (pe_ix ix_tup (pv 1) pe_int (fun _ _ => rfl)) (pa_cons (pe_ix ix_tup (pv 1) pe_int (fun _ _ => rfl)) (pa_cons (pe_fld (pv 0) rfl) pa_nil))))) pa_nil))))
      (pss_one (ps_if (PW.pt (pw_and (pt_cmpR op_eq (pv 2) pe_str (nomark _)) (pw_and (pt_cmp (pc_din hu (pe_ix ix_tup (pv 1) pe_int (fun _ _ => rfl)) (pe_fld (pv 0) rfl))) (pw_and1 (pt_cmpR op_eq (pe_ix ix_tup (pe_dget hu (pe_fld (pv 0) rfl) (pe_ix ix_tup (pv 1) pe_int (fun _ _ => rfl)) (fun _ _ => rfl)) pe_int (fun _ _ => rfl)) pe_str (nomark _))))))
      (pss_one (ps_expr (C8.pe_mt cput hr (by decide) (pv 0) (pa_cons (pe_ix ix_tup (pe_dget hu (pe_fld (pv 0) rfl) (pe_ix ix_tup (pv 1) pe_int (fun _ _ => rfl)) (fun _ _ => rfl)) pe_int (fun _ _ => rfl)) pa_nil))))
      pss_nil)))))))))), ?_⟩
  obtain ⟨z, rr, rfl, hfz⟩ := form_tup (tt_parts htt).1
  obtain ⟨a, ys0, rfl, ha, hys, hyl, hzl⟩ := head_at hat
  have hvw := vw_of hfz
  have no : ∀ {w' : Str} {A B : Prop}, z ≠ w' → B → if decide (V.str z = V.str w') = true then A else B := fun h hb => by rw [wne h]; exact iteF hb
  have yes : ∀ {A B : Prop}, A → if decide (V.str z = V.str z) = true then A else B := fun hb => by rw [wtt]; exact iteT hb
  -- a head is put
  have fin : ∀ {H1 : Hp} {h : Head} {hv : V}, Same H H1 → HdP H1 r h hv → enterA (.tup (.str z :: rr)) e = some h → Q .non (upd H1 p.mo (.ins C dx (fE p.td p.fu st p.ea p.sa .non (.ref d) hv))) := fun {H1 h hv} s1 hh he => by
    obtain ⟨b1, k1, m1⟩ := (hB.same s1).own (fs' := fE p.td p.fu st p.ea p.sa .non (.ref d) hv) (s1 _ _ ho)
    refine q _ ((KeepM.same s1).trans m1) ?_
    rw [norm_some he]
    exact ⟨b1, _, _, _, ⟨dx, upd_same⟩, rfl, hh.keep k1.fr (Rle.refl r)⟩
  -- no head is there
  have non : enterA (.tup (.str z :: rr)) e = none → Q .non H := fun he => by
    refine q _ (fun _ _ _ _ _ e => e) ?_
    rw [norm_none he]
    exact ⟨hB, _, _, _, ⟨dx, ho⟩, hat, d, rfl, hd0⟩
  refine ⟨_, rfl, p.mo, C, dx, _, _, rfl, ho, T.cl, T.n_term, fE_term .., ?_⟩
  refine ⟨_, rfl, a, _, 0, _, rfl, rfl, SqT.of ha, at0 _ _, ?_⟩
  cases hvw with
  | @num i h1 h2 =>
    obtain ⟨x1, zs, rfl, hx1, hn⟩ := hys
    cases (show zs = [] from hn)
    cases (show x1 = .int i from hx1)
    refine ⟨_, rfl, rfl, _, rfl, yes ?_⟩
    exact ⟨_, rfl, p.mo, dx, _, rfl, ho, fE_no_put .., _, rfl, p, st, _, _, hd, _, dx, rfl, ho, fin (h := .num i) (fun _ _ e => e) ⟨a, rfl, ha⟩ en_num⟩
  | @con i l =>
    obtain ⟨x1, zs, rfl, hx1, y1, zs2, rfl, ⟨pp, xs, rfl, hp, hxs⟩, hn⟩ := hys
    cases (show zs2 = [] from hn)
    cases (show x1 = .int i from hx1)
    refine ⟨_, rfl, rfl, _, rfl, no (by decide +kernel) ?_⟩
    refine ⟨_, rfl, rfl, _, rfl, yes ?_⟩
    refine ⟨_, rfl, p.mo, dx, _, rfl, ho, fE_no_put .., _, rfl, a, _, 1, _, rfl, rfl, SqT.of ha, at1 _ _ _, _, rfl, a, _, 2, _, rfl, rfl, SqT.of ha, at2 _ _ _ _, _, rfl, p.mo, C, dx, _, _, rfl, ho, T.cl, T.n_around, fE_around .., by show 4 ≤ sizeLine; decide, fun t8 ht8 => ?_⟩
    have s8 := same_new ht8 (.tup [.str "con", .int i, .ref pp, .ref d])
    exact ⟨p, st, _, _, hd, _, dx, rfl, s8 _ _ ho, fin (h := .con i l e) s8 ⟨t8, pp, xs, d, rfl, upd_same, s8 _ _ hp, hxs.keep (fr_same s8), hd0⟩ en_con⟩
  | @lam x bb hx =>
    obtain ⟨x1, zs, rfl, hx1, y1, zs2, rfl, hy1, hn⟩ := hys
    cases (show zs2 = [] from hn)
    obtain ⟨rfl, _⟩ := (show x1 = .str x ∧ _ from hx1)
    refine ⟨_, rfl, rfl, _, rfl, no (by decide +kernel) ?_⟩
    refine ⟨_, rfl, rfl, _, rfl, no (by decide +kernel) ?_⟩
    refine ⟨_, rfl, rfl, _, rfl, yes ?_⟩
    refine ⟨_, rfl, p.mo, dx, _, rfl, ho, fE_no_put .., _, rfl, a, _, 1, _, rfl, rfl, SqT.of ha, at1 _ _ _, _, rfl, a, _, 2, _, rfl, rfl, SqT.of ha, at2 _ _ _ _, _, rfl, p.mo, C, dx, _, _, rfl, ho, T.cl, T.n_around, fE_around .., by show 4 ≤ sizeLine; decide, fun t8 ht8 => ?_⟩
    have s8 := same_new ht8 (.tup [.str "fun", .str x, y1, .ref d])
    exact ⟨p, st, _, _, hd, _, dx, rfl, s8 _ _ ho, fin (h := .fn x bb e) s8 ⟨t8, y1, d, rfl, upd_same, hy1.keep (fr_same s8), hd0⟩ en_lam⟩
  | @var x hx =>
    obtain ⟨x1, zs, rfl, hx1, hn⟩ := hys
    cases (show zs = [] from hn)
    obtain ⟨rfl, _⟩ := (show x1 = .str x ∧ _ from hx1)
    refine ⟨_, rfl, rfl, _, rfl, no (by decide +kernel) ?_⟩
    refine ⟨_, rfl, rfl, _, rfl, no (by decide +kernel) ?_⟩
    refine ⟨_, rfl, rfl, _, rfl, no (by decide +kernel) ?_⟩
    refine ⟨_, rfl, rfl, _, rfl, yes ?_⟩
    obtain ⟨kvs, hdk, hkl, hent⟩ := hB.r d e hd0
    have hex := hent x
    have hg := DGet.k (k := Sum.inr x) hdk
    have hen : enterA (.tup [.str "var", .str x]) e = (match e.look x with | some (.head h) => some h | _ => none) := en_var
    refine ⟨_, rfl, a, _, 1, _, rfl, rfl, SqT.of ha, at1 _ _ _, _, rfl, p.mo, C, dx, _, .ref d, rfl, ho, T.cl, T.n_around, fE_around .., d, _, rfl, hg, _, rfl, ?_⟩
    cases hl : e.look x with
    | none =>
      rw [hl] at hex hen
      rw [show valV kvs (Sum.inr x) = none from hex]
      exact iteF (iteF (non hen))
    | some en =>
      rw [hl] at hex hen
      cases en with
      | term t2 e2 =>
        obtain ⟨a2, tv2, d2, hv, ha2, _⟩ := hex
        rw [hv] at hg ⊢
        refine iteT ?_
        refine ⟨_, rfl, p.mo, C, dx, _, .ref d, rfl, ho, T.cl, T.n_around, fE_around .., _, rfl, a, _, 1, _, rfl, rfl, SqT.of ha, at1 _ _ _, d, _, rfl, hg, a2, _, 0, _, rfl, rfl, SqT.of ha2, at0 _ _, rfl, _, rfl, ?_⟩
        exact iteF (non hen)
      | head h =>
        obtain ⟨a2, hv2, hv, ha2, hh⟩ := hex
        rw [hv] at hg ⊢
        refine iteT ?_
        refine ⟨_, rfl, p.mo, C, dx, _, .ref d, rfl, ho, T.cl, T.n_around, fE_around .., _, rfl, a, _, 1, _, rfl, rfl, SqT.of ha, at1 _ _ _, d, _, rfl, hg, a2, _, 0, _, rfl, rfl, SqT.of ha2, at0 _ _, rfl, _, rfl, ?_⟩
        refine iteT ?_
        exact ⟨_, rfl, p.mo, dx, _, rfl, ho, fE_no_put .., _, rfl, p.mo, C, dx, _, .ref d, rfl, ho, T.cl, T.n_around, fE_around .., _, rfl, a, _, 1, _, rfl, rfl, SqT.of ha, at1 _ _ _, d, _, rfl, hg, a2, _, 1, _, rfl, rfl, SqT.of ha2, at1 _ _ _, p, st, _, _, hd, _, dx, rfl, ho, fin (h := h) (fun _ _ e => e) hh hen⟩
  | app =>
    refine ⟨_, rfl, rfl, _, rfl, no (by decide +kernel) ?_⟩
    refine ⟨_, rfl, rfl, _, rfl, no (by decide +kernel) ?_⟩
    refine ⟨_, rfl, rfl, _, rfl, no (by decide +kernel) ?_⟩
    refine ⟨_, rfl, rfl, _, rfl, no (by decide +kernel) ?_⟩
    exact iteF (non (en_other (by decide +kernel) (by decide +kernel) (by decide +kernel) (by decide +kernel)))
  | lt _ _ =>
    refine ⟨_, rfl, rfl, _, rfl, no (by decide +kernel) ?_⟩
    refine ⟨_, rfl, rfl, _, rfl, no (by decide +kernel) ?_⟩
    refine ⟨_, rfl, rfl, _, rfl, no (by decide +kernel) ?_⟩
    refine ⟨_, rfl, rfl, _, rfl, no (by decide +kernel) ?_⟩
    exact iteF (non (en_other (by decide +kernel) (by decide +kernel) (by decide +kernel) (by decide +kernel)))
  | seq _ =>
    refine ⟨_, rfl, rfl, _, rfl, no (by decide +kernel) ?_⟩
    refine ⟨_, rfl, rfl, _, rfl, no (by decide +kernel) ?_⟩
    refine ⟨_, rfl, rfl, _, rfl, no (by decide +kernel) ?_⟩
    refine ⟨_, rfl, rfl, _, rfl, no (by decide +kernel) ?_⟩
    exact iteF (non (en_other (by decide +kernel) (by decide +kernel) (by decide +kernel) (by decide +kernel)))
  | case _ _ =>
    refine ⟨_, rfl, rfl, _, rfl, no (by decide +kernel) ?_⟩
    refine ⟨_, rfl, rfl, _, rfl, no (by decide +kernel) ?_⟩
    refine ⟨_, rfl, rfl, _, rfl, no (by decide +kernel) ?_⟩
    refine ⟨_, rfl, rfl, _, rfl, no (by decide +kernel) ?_⟩
    exact iteF (non (en_other (by decide +kernel) (by decide +kernel) (by decide +kernel) (by decide +kernel)))
  | pick _ _ =>
    refine ⟨_, rfl, rfl, _, rfl, no (by decide +kernel) ?_⟩
    refine ⟨_, rfl, rfl, _, rfl, no (by decide +kernel) ?_⟩
    refine ⟨_, rfl, rfl, _, rfl, no (by decide +kernel) ?_⟩
    refine ⟨_, rfl, rfl, _, rfl, no (by decide +kernel) ?_⟩
    exact iteF (non (en_other (by decide +kernel) (by decide +kernel) (by decide +kernel) (by decide +kernel)))
  | prim _ =>
    refine ⟨_, rfl, rfl, _, rfl, no (by decide +kernel) ?_⟩
    refine ⟨_, rfl, rfl, _, rfl, no (by decide +kernel) ?_⟩
    refine ⟨_, rfl, rfl, _, rfl, no (by decide +kernel) ?_⟩
    refine ⟨_, rfl, rfl, _, rfl, no (by decide +kernel) ?_⟩
    exact iteF (non (en_other (by decide +kernel) (by decide +kernel) (by decide +kernel) (by decide +kernel)))
  | note =>
    refine ⟨_, rfl, rfl, _, rfl, no (by decide +kernel) ?_⟩
    refine ⟨_, rfl, rfl, _, rfl, no (by decide +kernel) ?_⟩
    refine ⟨_, rfl, rfl, _, rfl, no (by decide +kernel) ?_⟩
    refine ⟨_, rfl, rfl, _, rfl, no (by decide +kernel) ?_⟩
    exact iteF (non (en_other (by decide +kernel) (by decide +kernel) (by decide +kernel) (by decide +kernel)))
end
end Toy

set_option Elab.async false
set_option linter.all false
set_option maxRecDepth 100000
set_option maxHeartbeats 4000000
/-! Part MO: the program's machine: steps down. -/
namespace Toy
open PySem L2
open PyProof.Rows (envOfC)
theorem MB.more {C : Addr} {H : Hp} {r : Rho} {N M : Nat} {p : Pl} {gl : Str → Option Dd} {stk : List Frm} {evs : List Int} (h : MB C H r N p gl stk evs) (hn : N ≤ M) : MB C H r M p gl stk evs := h.keep ⟨fun _ _ e => e, fun _ _ e => e⟩ hn (fun _ e => e) fun _ e => e
theorem MB.push {C : Addr} {H : Hp} {r : Rho} {N : Nat} {p : Pl} {gl : Str → Option Dd} {stk : List Frm} {evs : List Int} (h : MB C H r N p gl stk evs) {xs : List V} (hx : H p.sa = some (.lst xs)) {g : Frm} {x : V} (hg : FrmP H r g x) :
    MB C (upd H p.sa (.lst (xs ++ [x]))) r N p gl (stk ++ [g]) evs ∧ Kp H (upd H p.sa (.lst (xs ++ [x]))) ∧ KeepM p H (upd H p.sa (.lst (xs ++ [x]))) ∧ upd H p.sa (.lst (xs ++ [x])) p.mo = H p.mo := by
  obtain ⟨xs', h3, h4⟩ := h.s
  rw [hx] at h3
  cases h3
  obtain ⟨ys, h5, h6⟩ := h.v
  have k : Kp H (upd H p.sa (.lst (xs ++ [x]))) := Kp.upd hx (fun _ z => by cases z) fun _ z => by cases z
  exact ⟨⟨h.ne, h.nm, ⟨_, upd_same, FrmsP.snoc (hg.keep k.fr (Rle.refl r)) (h4.keep k.fr (Rle.refl r))⟩, ⟨ys, by rw [upd_ne h.ne.symm]; exact h5, h6.keep k.fr⟩, h.g.keep k.fr fun kvs e => k.2 _ _ e, h.r.keep k (Nat.le_refl _)⟩, k, fun b u n1 n2 n3 e => by rw [upd_ne n2]; exact e, upd_ne h.nm.1⟩
theorem MB.pop {C : Addr} {H : Hp} {r : Rho} {N : Nat} {p : Pl} {gl : Str → Option Dd} {stk : List Frm} {g : Frm} {evs : List Int} (h : MB C H r N p gl (stk ++ [g]) evs) :
    ∃ ys y, H p.sa = some (.lst (ys ++ [y])) ∧ FrmP H r g y ∧ MB C (upd H p.sa (.lst ys)) r N p gl stk evs ∧ Kp H (upd H p.sa (.lst ys)) ∧ KeepM p H (upd H p.sa (.lst ys)) ∧ upd H p.sa (.lst ys) p.mo = H p.mo := by
  obtain ⟨xs', h3, h4⟩ := h.s
  obtain ⟨ys, y, rfl, h7, h8⟩ := h4.last
  obtain ⟨zs, h5, h6⟩ := h.v
  have k : Kp H (upd H p.sa (.lst ys)) := Kp.upd h3 (fun _ z => by cases z) fun _ z => by cases z
  exact ⟨ys, y, h3, h8, ⟨h.ne, h.nm, ⟨_, upd_same, h7.keep k.fr (Rle.refl r)⟩, ⟨zs, by rw [upd_ne h.ne.symm]; exact h5, h6.keep k.fr⟩, h.g.keep k.fr fun kvs e => k.2 _ _ e, h.r.keep k (Nat.le_refl _)⟩, k, fun b u n1 n2 n3 e => by rw [upd_ne n2]; exact e, upd_ne h.nm.1⟩
theorem MB.note {C : Addr} {H : Hp} {r : Rho} {N : Nat} {p : Pl} {gl : Str → Option Dd} {stk : List Frm} {evs : List Int} (h : MB C H r N p gl stk evs) {ys : List V} (hy : H p.ea = some (.lst ys)) {n : Int} {y : V} (hg : (evD n).At F0 H y) :
    MB C (upd H p.ea (.lst (ys ++ [y]))) r N p gl stk (evs ++ [n]) ∧ Kp H (upd H p.ea (.lst (ys ++ [y]))) ∧ KeepM p H (upd H p.ea (.lst (ys ++ [y]))) ∧ upd H p.ea (.lst (ys ++ [y])) p.mo = H p.mo := by
  obtain ⟨xs, h3, h4⟩ := h.s
  obtain ⟨ys', h5, h6⟩ := h.v
  rw [hy] at h5
  cases h5
  have k : Kp H (upd H p.ea (.lst (ys ++ [y]))) := Kp.upd hy (fun _ z => by cases z) fun _ z => by cases z
  refine ⟨⟨h.ne, h.nm, ⟨xs, by rw [upd_ne h.ne]; exact h3, h4.keep k.fr (Rle.refl r)⟩, ⟨_, upd_same, ?_⟩, h.g.keep k.fr fun kvs e => k.2 _ _ e, h.r.keep k (Nat.le_refl _)⟩, k, fun b u n1 n2 n3 e => by rw [upd_ne n3]; exact e, upd_ne h.nm.2⟩
  rw [List.map_append]
  exact ats_app (h6.keep k.fr) (ats_one (hg.keep k.fr))
structure TxtEc (K : PySem.W.Frag) (mg : Str → Option Value) (C aS aN : Addr) : Prop extends TxtEv K C where
  zdict : mg "dict" = none
  zzip : mg "zip" = none
  zlen : mg "len" = none
  gSTUCK : ∃ u, mg "STUCK" = some u ∧ RelV (.ref aS) u
  sSTUCK : ∀ H, SqT K H aS [.str "stuck"]
  gNO_MATCH : ∃ u, mg "NO_MATCH" = some u ∧ RelV (.ref aN) u
  sNO_MATCH : ∀ H, SqT K H aN [.str "fault", .str "no match"]
section
variable {P : Program} {w : World} {K : PySem.W.Frag} {mg : Str → Option Value} {base : Heap} {C aS aN : Addr}
/-- a step down, by the word z -/
def spEv (K : PySem.W.Frag) (C : Addr) (z : Str) : Sp := fun vs H Q _ => ∃ (p : Pl) (st : Int) (tm hd : V) (d dx : Addr) (r : Rho) (N : Nat) (gl : Str → Option Dd) (rr : List Dd) (e : Env) (stk : List Frm) (evs : List Int), vs = [.ref p.mo, tm, .ref d] ∧ MB C H r N p gl stk evs ∧ H p.mo = some (.ins C dx (fE p.td p.fu st p.ea p.sa tm (.ref d) hd)) ∧ (Dd.tup (.str z :: rr)).At F0 H tm ∧ TOk (.tup (.str z :: rr)) ∧ r d = some e ∧ enterW z rr e = none ∧ stk.length ≤ 1000000 ∧ evs.length ≤ 1000000 ∧ N + 40000 ≤ 16700000 ∧
  ∀ (v' : V) (H' : Hp), KeepM p H H' → OutP K C H' (N + 40000) p gl st evs (downW gl z rr e stk evs) v' → Q v' H'
abbrev sEvApp : Stmt := topS 11
theorem scEvApp : FnScope ["machine", "term", "around"] ["machine", "term", "around"] (defScope sEvApp) := ⟨rfl, rfl, rfl, by decide +kernel, rfl, by decide +kernel, by decide +kernel⟩
theorem c_evaluate_app {f : Addr} {fd : FuncData} (T : TxtEc K mg C aS aN) (F : Fun K "_evaluate_app" "_evaluate_app" sEvApp f fd) (b : Binds K fd ["machine", "term", "around"] []) (hm : mg "_evaluate_app" = some (.ref f)) : C8.Cal P w K mg base 2 "_evaluate_app" (spEv K C "app") [] := by
  refine cal_of F hm b scEvApp (fun vs H Q E h => ?_) (fun cdv A outer s H vs Q E hr h => ?_)
  · obtain ⟨p, st, tm, hd, d, dx, r, N, gl, rr, e, stk, evs, rfl, _⟩ := h
    rfl
  obtain ⟨p, st, tm, hd, d, dx, r, N, gl, rr, e, stk, evs, rfl, hB, ho, hat, htk, hrd, hen, hsl, hel, hN, q⟩ := h
  have hu := hu_of hr
  have hbig : (16700000 : Nat) < sizeLine := by decide
  refine ⟨_, (pss_cons (ps_expr (pe_bm PySem.F.plainAttrs_list PySem.F.slot_list_append PySem.F.type_list_append mt_append (pe_fld (pv 0) rfl) (pa_cons (pe_tup (pa_cons pe_str (pa_cons (pe_ix ix_tup (pv 1) pe_int (fun _ _ => rfl)) (pa_cons (pv 2) pa_nil)))) pa_nil)))
    (pss_one (ps_fld (pv 0) (pe_ix ix_tup (pv 1) pe_int (fun _ _ => rfl)) rfl))), ?_⟩
  obtain ⟨a, ys0, rfl, ha, hys, hyl, hzl⟩ := head_at hat
  obtain ⟨xs, hsa, hfr⟩ := hB.s
  have hxl := hfr.len
  obtain ⟨es, hea, hes⟩ := hB.v
  have hesl := ats_len hes
  rw [List.length_map] at hesl
  have hvw := ok_vw htk
  -- a frame is put on the stack, a part comes next
  have push : ∀ {g : Frm} {t : Dd} {tv : V} (H1 : Hp) (t8 : Addr), Same H H1 → FrmP H1 r g (.ref t8) → t.At F0 H tv → downW gl "app" rr e stk evs = .go ⟨.ev t e, stk ++ [g], evs⟩ →
      Q .non (upd (upd H1 p.sa (.lst (xs ++ [V.ref t8]))) p.mo (.ins C dx (fE p.td p.fu st p.ea p.sa tv (.ref d) hd))) ∧ upd H1 p.sa (.lst (xs ++ [V.ref t8])) a = some (.tup (V.str "app" :: ys0)) ∧ upd H1 p.sa (.lst (xs ++ [V.ref t8])) p.mo = some (.ins C dx (fE p.td p.fu st p.ea p.sa (.ref a) (.ref d) hd)) := by
    intro g t tv H1 t8 s1 hg ht hdn
    obtain ⟨b1, k1, m1, e1⟩ := (hB.same s1).push (s1 _ _ hsa) hg
    have ho1 := e1.trans (s1 _ _ ho)
    obtain ⟨b2, k2, m2⟩ := b1.own (fs' := fE p.td p.fu st p.ea p.sa tv (.ref d) hd) ho1
    refine ⟨q _ _ ((KeepM.same s1).trans (m1.trans m2)) ?_, k1.1 _ _ (s1 _ _ ha), ho1⟩
    rw [hdn]
    exact ⟨rfl, r, b2.more (by omega), _, _, hd, ⟨dx, upd_same⟩, ((ht.keep (fr_same s1)).keep k1.fr).keep k2.fr, d, rfl, hrd⟩
  cases hvw with
  | @app t1 t2 =>
    obtain ⟨x1, zs, rfl, hx1, y1, zs2, rfl, hy1, hn⟩ := hys
    cases (show zs2 = [] from hn)
    refine ⟨_, rfl, p.mo, C, dx, _, .ref p.sa, rfl, ho, T.cl, T.n_stack, fE_stack .., .inl ⟨rfl, _, SqL.of hsa⟩, _, rfl, a, _, 2, _, rfl, rfl, SqT.of ha, at2 _ _ _ _, _, rfl, by show 3 ≤ sizeLine; decide, fun t8 ht8 => ?_⟩
    have s8 := same_new ht8 (.tup [.str "argument", y1, .ref d])
    refine ⟨p.sa, _, _, rfl, rfl, s8 _ _ hsa, by omega, ?_⟩
    obtain ⟨q1, ha2, ho2⟩ := push (g := .arg t2 e) (t := t1) _ t8 s8 ⟨t8, y1, d, rfl, upd_same, hy1.keep (fr_same s8), hrd⟩ hx1 dn_app
    exact ⟨_, rfl, a, _, 1, _, rfl, rfl, SqT.of ha2, at1 _ _ _, _, rfl, p.mo, C, dx, _, rfl, ho2, T.cl, T.n_term, fE_len .., q1⟩
abbrev sEvSeq : Stmt := topS 13
theorem scEvSeq : FnScope ["machine", "term", "around"] ["machine", "term", "around"] (defScope sEvSeq) := ⟨rfl, rfl, rfl, by decide +kernel, rfl, by decide +kernel, by decide +kernel⟩
theorem c_evaluate_seq {f : Addr} {fd : FuncData} (T : TxtEc K mg C aS aN) (F : Fun K "_evaluate_seq" "_evaluate_seq" sEvSeq f fd) (b : Binds K fd ["machine", "term", "around"] []) (hm : mg "_evaluate_seq" = some (.ref f)) : C8.Cal P w K mg base 2 "_evaluate_seq" (spEv K C "seq") [] := by
  refine cal_of F hm b scEvSeq (fun vs H Q E h => ?_) (fun cdv A outer s H vs Q E hr h => ?_)
  · obtain ⟨p, st, tm, hd, d, dx, r, N, gl, rr, e, stk, evs, rfl, _⟩ := h
    rfl
  obtain ⟨p, st, tm, hd, d, dx, r, N, gl, rr, e, stk, evs, rfl, hB, ho, hat, htk, hrd, hen, hsl, hel, hN, q⟩ := h
  have hu := hu_of hr
  have hbig : (16700000 : Nat) < sizeLine := by decide
  refine ⟨_, (pss_cons (ps_expr (pe_bm PySem.F.plainAttrs_list PySem.F.slot_list_append PySem.F.type_list_append mt_append (pe_fld (pv 0) rfl) (pa_cons (pe_tup (pa_cons pe_str (pa_cons (pe_ix ix_tup (pv 1) pe_int (fun _ _ => rfl)) (pa_cons (pe_ix ix_tup (pv 1) pe_int (fun _ _ => rfl)) (pa_cons (pv 2) pa_nil))))) pa_nil)))
    (pss_one (ps_fld (pv 0) (pe_ix ix_tup (pv 1) pe_int (fun _ _ => rfl)) rfl))), ?_⟩
  obtain ⟨a, ys0, rfl, ha, hys, hyl, hzl⟩ := head_at hat
  obtain ⟨xs, hsa, hfr⟩ := hB.s
  have hxl := hfr.len
  obtain ⟨es, hea, hes⟩ := hB.v
  have hesl := ats_len hes
  rw [List.length_map] at hesl
  have hvw := ok_vw htk
  -- a frame is put on the stack, a part comes next
  have push : ∀ {g : Frm} {t : Dd} {tv : V} (H1 : Hp) (t8 : Addr), Same H H1 → FrmP H1 r g (.ref t8) → t.At F0 H tv → downW gl "seq" rr e stk evs = .go ⟨.ev t e, stk ++ [g], evs⟩ →
      Q .non (upd (upd H1 p.sa (.lst (xs ++ [V.ref t8]))) p.mo (.ins C dx (fE p.td p.fu st p.ea p.sa tv (.ref d) hd))) ∧ upd H1 p.sa (.lst (xs ++ [V.ref t8])) a = some (.tup (V.str "seq" :: ys0)) ∧ upd H1 p.sa (.lst (xs ++ [V.ref t8])) p.mo = some (.ins C dx (fE p.td p.fu st p.ea p.sa (.ref a) (.ref d) hd)) := by
    intro g t tv H1 t8 s1 hg ht hdn
    obtain ⟨b1, k1, m1, e1⟩ := (hB.same s1).push (s1 _ _ hsa) hg
    have ho1 := e1.trans (s1 _ _ ho)
    obtain ⟨b2, k2, m2⟩ := b1.own (fs' := fE p.td p.fu st p.ea p.sa tv (.ref d) hd) ho1
    refine ⟨q _ _ ((KeepM.same s1).trans (m1.trans m2)) ?_, k1.1 _ _ (s1 _ _ ha), ho1⟩
    rw [hdn]
    exact ⟨rfl, r, b2.more (by omega), _, _, hd, ⟨dx, upd_same⟩, ((ht.keep (fr_same s1)).keep k1.fr).keep k2.fr, d, rfl, hrd⟩
  cases hvw with
  | @seq x t1 t2 hx =>
    obtain ⟨x1, zs, rfl, hx1, y1, zs2, rfl, hy1, y2, zs3, rfl, hy2, hn⟩ := hys
    cases (show zs3 = [] from hn)
    obtain ⟨rfl, _⟩ := (show x1 = .str x ∧ _ from hx1)
    refine ⟨_, rfl, p.mo, C, dx, _, .ref p.sa, rfl, ho, T.cl, T.n_stack, fE_stack .., .inl ⟨rfl, _, SqL.of hsa⟩, _, rfl, a, _, 1, _, rfl, rfl, SqT.of ha, at1 _ _ _, _, rfl, a, _, 3, _, rfl, rfl, SqT.of ha, at3 _ _ _ _ _, _, rfl, by show 4 ≤ sizeLine; decide, fun t8 ht8 => ?_⟩
    have s8 := same_new ht8 (.tup [.str "seq", .str x, y2, .ref d])
    refine ⟨p.sa, _, _, rfl, rfl, s8 _ _ hsa, by omega, ?_⟩
    obtain ⟨q1, ha2, ho2⟩ := push (g := .seq x t2 e) (t := t1) _ t8 s8 ⟨t8, y2, d, rfl, upd_same, hy2.keep (fr_same s8), hrd⟩ hy1 dn_seq
    exact ⟨_, rfl, a, _, 2, _, rfl, rfl, SqT.of ha2, at2 _ _ _ _, _, rfl, p.mo, C, dx, _, rfl, ho2, T.cl, T.n_term, fE_len .., q1⟩
abbrev sEvPrim : Stmt := topS 15
theorem scEvPrim : FnScope ["machine", "term", "around"] ["machine", "term", "around"] (defScope sEvPrim) := ⟨rfl, rfl, rfl, by decide +kernel, rfl, by decide +kernel, by decide +kernel⟩
theorem c_evaluate_prim {f : Addr} {fd : FuncData} (T : TxtEc K mg C aS aN) (F : Fun K "_evaluate_prim" "_evaluate_prim" sEvPrim f fd) (b : Binds K fd ["machine", "term", "around"] []) (hm : mg "_evaluate_prim" = some (.ref f)) : C8.Cal P w K mg base 2 "_evaluate_prim" (spEv K C "prim") [] := by
  refine cal_of F hm b scEvPrim (fun vs H Q E h => ?_) (fun cdv A outer s H vs Q E hr h => ?_)
  · obtain ⟨p, st, tm, hd, d, dx, r, N, gl, rr, e, stk, evs, rfl, _⟩ := h
    rfl
  obtain ⟨p, st, tm, hd, d, dx, r, N, gl, rr, e, stk, evs, rfl, hB, ho, hat, htk, hrd, hen, hsl, hel, hN, q⟩ := h
  have hu := hu_of hr
  have hbig : (16700000 : Nat) < sizeLine := by decide
  refine ⟨_, (pss_cons (ps_expr (pe_bm PySem.F.plainAttrs_list PySem.F.slot_list_append PySem.F.type_list_append mt_append (pe_fld (pv 0) rfl) (pa_cons (pe_tup (pa_cons pe_str (pa_cons (pe_ix ix_tup (pv 1) pe_int (fun _ _ => rfl)) (pa_cons (pe_ix ix_tup (pv 1) pe_int (fun _ _ => rfl)) (pa_cons (pv 2) pa_nil))))) pa_nil)))
    (pss_one (ps_fld (pv 0) (pe_ix ix_tup (pv 1) pe_int (fun _ _ => rfl)) rfl))), ?_⟩
  obtain ⟨a, ys0, rfl, ha, hys, hyl, hzl⟩ := head_at hat
  obtain ⟨xs, hsa, hfr⟩ := hB.s
  have hxl := hfr.len
  obtain ⟨es, hea, hes⟩ := hB.v
  have hesl := ats_len hes
  rw [List.length_map] at hesl
  have hvw := ok_vw htk
  -- a frame is put on the stack, a part comes next
  have push : ∀ {g : Frm} {t : Dd} {tv : V} (H1 : Hp) (t8 : Addr), Same H H1 → FrmP H1 r g (.ref t8) → t.At F0 H tv → downW gl "prim" rr e stk evs = .go ⟨.ev t e, stk ++ [g], evs⟩ →
      Q .non (upd (upd H1 p.sa (.lst (xs ++ [V.ref t8]))) p.mo (.ins C dx (fE p.td p.fu st p.ea p.sa tv (.ref d) hd))) ∧ upd H1 p.sa (.lst (xs ++ [V.ref t8])) a = some (.tup (V.str "prim" :: ys0)) ∧ upd H1 p.sa (.lst (xs ++ [V.ref t8])) p.mo = some (.ins C dx (fE p.td p.fu st p.ea p.sa (.ref a) (.ref d) hd)) := by
    intro g t tv H1 t8 s1 hg ht hdn
    obtain ⟨b1, k1, m1, e1⟩ := (hB.same s1).push (s1 _ _ hsa) hg
    have ho1 := e1.trans (s1 _ _ ho)
    obtain ⟨b2, k2, m2⟩ := b1.own (fs' := fE p.td p.fu st p.ea p.sa tv (.ref d) hd) ho1
    refine ⟨q _ _ ((KeepM.same s1).trans (m1.trans m2)) ?_, k1.1 _ _ (s1 _ _ ha), ho1⟩
    rw [hdn]
    exact ⟨rfl, r, b2.more (by omega), _, _, hd, ⟨dx, upd_same⟩, ((ht.keep (fr_same s1)).keep k1.fr).keep k2.fr, d, rfl, hrd⟩
  cases hvw with
  | @prim sg t1 t2 hx =>
    obtain ⟨x1, zs, rfl, hx1, y1, zs2, rfl, hy1, y2, zs3, rfl, hy2, hn⟩ := hys
    cases (show zs3 = [] from hn)
    obtain ⟨rfl, _⟩ := (show x1 = .str sg ∧ _ from hx1)
    refine ⟨_, rfl, p.mo, C, dx, _, .ref p.sa, rfl, ho, T.cl, T.n_stack, fE_stack .., .inl ⟨rfl, _, SqL.of hsa⟩, _, rfl, a, _, 1, _, rfl, rfl, SqT.of ha, at1 _ _ _, _, rfl, a, _, 3, _, rfl, rfl, SqT.of ha, at3 _ _ _ _ _, _, rfl, by show 4 ≤ sizeLine; decide, fun t8 ht8 => ?_⟩
    have s8 := same_new ht8 (.tup [.str "second", .str sg, y2, .ref d])
    refine ⟨p.sa, _, _, rfl, rfl, s8 _ _ hsa, by omega, ?_⟩
    obtain ⟨q1, ha2, ho2⟩ := push (g := .snd sg t2 e) (t := t1) _ t8 s8 ⟨t8, y2, d, rfl, upd_same, hy2.keep (fr_same s8), hrd⟩ hy1 dn_prim
    exact ⟨_, rfl, a, _, 2, _, rfl, rfl, SqT.of ha2, at2 _ _ _ _, _, rfl, p.mo, C, dx, _, rfl, ho2, T.cl, T.n_term, fE_len .., q1⟩
/-- a choice, by either word -/
def spEvU (K : PySem.W.Frag) (C : Addr) : Sp := fun vs H Q E => ∃ (z : Str), (z = "case" ∨ z = "pick") ∧ spEv K C z vs H Q E
abbrev sEvChoice : Stmt := topS 14
theorem scEvChoice : FnScope ["machine", "term", "around"] ["machine", "term", "around"] (defScope sEvChoice) := ⟨rfl, rfl, rfl, by decide +kernel, rfl, by decide +kernel, by decide +kernel⟩
theorem c_evaluate_choice {f : Addr} {fd : FuncData} (T : TxtEc K mg C aS aN) (F : Fun K "_evaluate_choice" "_evaluate_choice" sEvChoice f fd) (b : Binds K fd ["machine", "term", "around"] []) (hm : mg "_evaluate_choice" = some (.ref f)) : C8.Cal P w K mg base 2 "_evaluate_choice" (spEvU K C) [] := by
  refine cal_of F hm b scEvChoice (fun vs H Q E h => ?_) (fun cdv A outer s H vs Q E hr h => ?_)
  · obtain ⟨z, hz, p, st, tm, hd, d, dx, r, N, gl, rr, e, stk, evs, rfl, _⟩ := h
    rfl
  obtain ⟨z, hz, p, st, tm, hd, d, dx, r, N, gl, rr, e, stk, evs, rfl, hB, ho, hat, htk, hrd, hen, hsl, hel, hN, q⟩ := h
  have hu := hu_of hr
  have hbig : (16700000 : Nat) < sizeLine := by decide
  refine ⟨_, (pss_cons (ps_expr (pe_bm PySem.F.plainAttrs_list PySem.F.slot_list_append PySem.F.type_list_append mt_append (pe_fld (pv 0) rfl) (pa_cons (pe_tup (pa_cons (pe_ix ix_tup (pv 1) pe_int (fun _ _ => rfl)) (pa_cons (pe_ix ix_tup (pv 1) pe_int (fun _ _ => rfl)) (pa_cons (pe_ix ix_tup (pv 1) pe_int (fun _ _ => rfl)) (pa_cons (pv 2) pa_nil))))) pa_nil)))
    (pss_one (ps_fld (pv 0) (pe_ix ix_tup (pv 1) pe_int (fun _ _ => rfl)) rfl))), ?_⟩
  obtain ⟨a, ys0, rfl, ha, hys, hyl, hzl⟩ := head_at hat
  obtain ⟨xs, hsa, hfr⟩ := hB.s
  have hxl := hfr.len
  obtain ⟨es, hea, hes⟩ := hB.v
  have hesl := ats_len hes
  rw [List.length_map] at hesl
  have hvw := ok_vw htk
  -- a frame is put on the stack, a part comes next
  have push : ∀ {g : Frm} {t : Dd} {tv : V} (H1 : Hp) (t8 : Addr), Same H H1 → FrmP H1 r g (.ref t8) → t.At F0 H tv → downW gl z rr e stk evs = .go ⟨.ev t e, stk ++ [g], evs⟩ →
      Q .non (upd (upd H1 p.sa (.lst (xs ++ [V.ref t8]))) p.mo (.ins C dx (fE p.td p.fu st p.ea p.sa tv (.ref d) hd))) ∧ upd H1 p.sa (.lst (xs ++ [V.ref t8])) a = some (.tup (V.str z :: ys0)) ∧ upd H1 p.sa (.lst (xs ++ [V.ref t8])) p.mo = some (.ins C dx (fE p.td p.fu st p.ea p.sa (.ref a) (.ref d) hd)) := by
    intro g t tv H1 t8 s1 hg ht hdn
    obtain ⟨b1, k1, m1, e1⟩ := (hB.same s1).push (s1 _ _ hsa) hg
    have ho1 := e1.trans (s1 _ _ ho)
    obtain ⟨b2, k2, m2⟩ := b1.own (fs' := fE p.td p.fu st p.ea p.sa tv (.ref d) hd) ho1
    refine ⟨q _ _ ((KeepM.same s1).trans (m1.trans m2)) ?_, k1.1 _ _ (s1 _ _ ha), ho1⟩
    rw [hdn]
    exact ⟨rfl, r, b2.more (by omega), _, _, hd, ⟨dx, upd_same⟩, ((ht.keep (fr_same s1)).keep k1.fr).keep k2.fr, d, rfl, hrd⟩
  have hrow : ∃ f dd rows, rr = [f, .tup rows, dd] := by
    rcases hz with rfl | rfl
    · cases hvw with
      | @case f dd rows _ _ => exact ⟨_, _, _, rfl⟩
    · cases hvw with
      | @pick f dd rows _ _ => exact ⟨_, _, _, rfl⟩
  obtain ⟨u1, u2, rows, rfl⟩ := hrow
  obtain ⟨x1, zs, rfl, hx1, y1, zs2, rfl, ⟨rs, rxs, rfl, hrs, hrx⟩, y2, zs3, rfl, hy2, hn⟩ := hys
  cases (show zs3 = [] from hn)
  refine ⟨_, rfl, p.mo, C, dx, _, .ref p.sa, rfl, ho, T.cl, T.n_stack, fE_stack .., .inl ⟨rfl, _, SqL.of hsa⟩, _, rfl, a, _, 0, _, rfl, rfl, SqT.of ha, at0 _ _, _, rfl, a, _, 2, _, rfl, rfl, SqT.of ha, at2 _ _ _ _, _, rfl, a, _, 3, _, rfl, rfl, SqT.of ha, at3 _ _ _ _ _, _, rfl, by show 4 ≤ sizeLine; decide, fun t8 ht8 => ?_⟩
  have s8 := same_new ht8 (.tup [.str z, .ref rs, y2, .ref d])
  refine ⟨p.sa, _, _, rfl, rfl, s8 _ _ hsa, by omega, ?_⟩
  obtain ⟨q1, ha2, ho2⟩ := push (g := .ch z rows u2 e) (t := u1) _ t8 s8 ⟨t8, rs, rxs, y2, d, rfl, upd_same, s8 _ _ hrs, hrx.keep (fr_same s8), hy2.keep (fr_same s8), hrd⟩ hx1 (dn_ch hz)
  exact ⟨_, rfl, a, _, 1, _, rfl, rfl, SqT.of ha2, at1 _ _ _, _, rfl, p.mo, C, dx, _, rfl, ho2, T.cl, T.n_term, fE_len .., q1⟩
abbrev sEvNote : Stmt := topS 16
theorem scEvNote : FnScope ["machine", "term", "around"] ["machine", "term", "around"] (defScope sEvNote) := ⟨rfl, rfl, rfl, by decide +kernel, rfl, by decide +kernel, by decide +kernel⟩
theorem c_evaluate_note {f : Addr} {fd : FuncData} (T : TxtEc K mg C aS aN) (F : Fun K "_evaluate_note" "_evaluate_note" sEvNote f fd) (b : Binds K fd ["machine", "term", "around"] []) (hm : mg "_evaluate_note" = some (.ref f)) : C8.Cal P w K mg base 2 "_evaluate_note" (spEv K C "note") [] := by
  refine cal_of F hm b scEvNote (fun vs H Q E h => ?_) (fun cdv A outer s H vs Q E hr h => ?_)
  · obtain ⟨p, st, tm, hd, d, dx, r, N, gl, rr, e, stk, evs, rfl, _⟩ := h
    rfl
  obtain ⟨p, st, tm, hd, d, dx, r, N, gl, rr, e, stk, evs, rfl, hB, ho, hat, htk, hrd, hen, hsl, hel, hN, q⟩ := h
  have hu := hu_of hr
  have hbig : (16700000 : Nat) < sizeLine := by decide
  refine ⟨_, (pss_cons (ps_expr (pe_bm PySem.F.plainAttrs_list PySem.F.slot_list_append PySem.F.type_list_append mt_append (pe_fld (pv 0) rfl) (pa_cons (pe_tup (pa_cons pe_str (pa_cons (pe_ix ix_tup (pv 1) pe_int (fun _ _ => rfl)) pa_nil))) pa_nil)))
    (pss_one (ps_fld (pv 0) (pe_ix ix_tup (pv 1) pe_int (fun _ _ => rfl)) rfl))), ?_⟩
  obtain ⟨a, ys0, rfl, ha, hys, hyl, hzl⟩ := head_at hat
  obtain ⟨xs, hsa, hfr⟩ := hB.s
  have hxl := hfr.len
  obtain ⟨es, hea, hes⟩ := hB.v
  have hesl := ats_len hes
  rw [List.length_map] at hesl
  have hvw := ok_vw htk
  cases hvw with
  | @note n t1 =>
    obtain ⟨x1, zs, rfl, hx1, y1, zs2, rfl, hy1, hn⟩ := hys
    cases (show zs2 = [] from hn)
    cases (show x1 = .int n from hx1)
    refine ⟨_, rfl, p.mo, C, dx, _, .ref p.ea, rfl, ho, T.cl, T.n_events, fE_events .., .inl ⟨rfl, _, SqL.of hea⟩, _, rfl, a, _, 1, _, rfl, rfl, SqT.of ha, at1 _ _ _, by show 2 ≤ sizeLine; decide, fun t8 ht8 => ?_⟩
    have s8 := same_new ht8 (.tup [.str "note", .int n])
    refine ⟨p.ea, _, _, rfl, rfl, s8 _ _ hea, by omega, ?_⟩
    obtain ⟨b1, k1, m1, e1⟩ := (hB.same s8).note (s8 _ _ hea) (n := n) (y := .ref t8) (at_tup upd_same (ats_cons (at_str' (by decide +kernel)) (ats_one rfl)))
    have ho1 := e1.trans (s8 _ _ ho)
    have ha2 := k1.1 _ _ (s8 _ _ ha)
    obtain ⟨b2, k2, m2⟩ := b1.own (fs' := fE p.td p.fu st p.ea p.sa y1 (.ref d) hd) ho1
    refine ⟨_, rfl, a, _, 2, _, rfl, rfl, SqT.of ha2, at2 _ _ _ _, _, rfl, p.mo, C, dx, _, rfl, ho1, T.cl, T.n_term, fE_len .., q _ _ ((KeepM.same s8).trans (m1.trans m2)) ?_⟩
    rw [dn_note]
    exact ⟨rfl, r, b2.more (by omega), _, _, hd, ⟨dx, upd_same⟩, ((hy1.keep (fr_same s8)).keep k1.fr).keep k2.fr, d, rfl, hrd⟩
abbrev sEvVar : Stmt := topS 10
theorem scEvVar : FnScope ["machine", "term", "around", "name", "_"] ["machine", "term", "around"] (defScope sEvVar) := ⟨rfl, rfl, rfl, by decide +kernel, rfl, by decide +kernel, by decide +kernel⟩
theorem c_evaluate_var {f : Addr} {fd : FuncData} (T : TxtEc K mg C aS aN) (cbegin : C8.Met P w K mg base 1 C "begin" (spBegin C) []) (F : Fun K "_evaluate_var" "_evaluate_var" sEvVar f fd) (b : Binds K fd ["machine", "term", "around"] []) (hm : mg "_evaluate_var" = some (.ref f)) : C8.Cal P w K mg base 2 "_evaluate_var" (spEv K C "var") [] := by
  refine cal_of F hm b scEvVar (fun vs H Q E h => ?_) (fun cdv A outer s H vs Q E hr h => ?_)
  · obtain ⟨p, st, tm, hd, d, dx, r, N, gl, rr, e, stk, evs, rfl, _⟩ := h
    rfl
  obtain ⟨p, st, tm, hd, d, dx, r, N, gl, rr, e, stk, evs, rfl, hB, ho, hat, htk, hrd, hen, hsl, hel, hN, q⟩ := h
  have hu := hu_of hr
  have hbig : (16700000 : Nat) < sizeLine := by decide
  refine ⟨_, (pss_cons (ps_set (i := 3) scEvVar.nd rfl (Or.inl rfl) (pe_ix ix_tup (pv 1) pe_int (fun _ _ => rfl)))
    (pss_cons (ps_if (pt_cmp (pc_din hu (pv 3) (pv 2)))
      (pss_one (ps_asg (pe_dget hu (pv 2) (pv 3) (fun _ _ => rfl)) (pg_tup rfl (pgs_cons (pg_name (i := 4) scEvVar.nd rfl (Or.inl rfl)) (pgs_cons (pg_fld (pv 0)) (pgs_cons (pg_fld (pv 0)) pgs_nil))))))
      (pss_one (ps_if (pt_cmp (pc_din hu (pv 3) (pe_fld (pv 0) rfl)))
      (pss_one (ps_expr (C8.pe_mt cbegin hr (by decide) (pv 0) (pa_cons (pe_dget hu (pe_fld (pv 0) rfl) (pv 3) (fun _ _ => rfl)) (pa_cons pe_dnewK pa_nil)))))
      (pss_one (ps_ret (C8.pe_gc rfl T.gSTUCK))))))
    (pss_one (ps_ret pe_non)))), ?_⟩
  obtain ⟨a, ys0, rfl, ha, hys, hyl, hzl⟩ := head_at hat
  obtain ⟨xs, hsa, hfr⟩ := hB.s
  have hxl := hfr.len
  obtain ⟨es, hea, hes⟩ := hB.v
  have hesl := ats_len hes
  rw [List.length_map] at hesl
  have hvw := ok_vw htk
  cases hvw with
  | @var x hx =>
    obtain ⟨x1, zs, rfl, hx1, hn⟩ := hys
    cases (show zs = [] from hn)
    obtain ⟨rfl, _⟩ := (show x1 = .str x ∧ _ from hx1)
    obtain ⟨kvs, hdk, hkl, hent⟩ := hB.r d e hrd
    have hex := hent x
    have hg := DGet.k (k := Sum.inr x) hdk
    have hdn : downW gl "var" [.str x] e stk evs = (match e.look x with | some (.term t e') => .go ⟨.ev t e', stk, evs⟩ | _ => match gl x with | some t => .go ⟨.ev t .nil, stk, evs⟩ | none => .stuck) := dn_var
    have hen2 : (match e.look x with | some (.head h) => some h | _ => none) = none := (en_var (r := [.str x]) (e := e)).symm.trans hen
    rw [hdn] at q
    refine ⟨_, rfl, a, _, 1, _, rfl, rfl, SqT.of ha, at1 _ _ _, ?_⟩
    refine ⟨_, rfl, _, rfl, d, _, rfl, hg, _, rfl, ?_⟩
    cases hl : e.look x with
    | none =>
      rw [hl] at hex hen2 q
      rw [show valV kvs (Sum.inr x) = none from hex]
      refine iteF ?_
      cases hgl : gl x with
      | none =>
        rw [hgl] at q
        obtain ⟨kt, h1, h2⟩ := hB.g.not hgl
        refine ⟨_, rfl, _, rfl, p.mo, C, dx, _, .ref p.td, rfl, ho, T.cl, T.n_terms, fE_terms .., p.td, _, rfl, DGet.k (k := Sum.inr x) h1, _, rfl, ?_⟩
        rw [h2]
        refine iteF ?_
        exact q _ _ (fun _ _ _ _ _ e => e) ⟨⟨aS, rfl, T.sSTUCK _⟩, r, N, ⟨.ev (.tup [.str "var", .str x]) e, stk, evs⟩, ⟨hB, _, _, hd, ⟨dx, ho⟩, hat, d, rfl, hrd⟩, rfl⟩
      | some t =>
        rw [hgl] at q
        obtain ⟨kt, v, h1, h2, ht⟩ := hB.g.got hgl
        have hg2 := DGet.k (k := Sum.inr x) h1
        refine ⟨_, rfl, _, rfl, p.mo, C, dx, _, .ref p.td, rfl, ho, T.cl, T.n_terms, fE_terms .., p.td, _, rfl, hg2, _, rfl, ?_⟩
        rw [h2] at hg2 ⊢
        refine iteT ?_
        refine ⟨_, rfl, p.mo, dx, _, rfl, ho, fE_no_begin .., _, rfl, p.mo, C, dx, _, .ref p.td, rfl, ho, T.cl, T.n_terms, fE_terms .., _, rfl, p.td, _, rfl, hg2, fun d2 hd2 => ?_⟩
        have s2 := same_new hd2 (.dK [])
        have he2 : EnvP (upd H d2 (.dK [])) (r.put d2 .nil) (N + 40000) d2 .nil := ⟨[], upd_same, Nat.zero_le _, fun s => by rw [Env.look]; rfl⟩
        obtain ⟨b1, g1⟩ := hB.ghost hd2 s2 (Nat.le_add_right N 40000) he2
        obtain ⟨b2, k2, m2⟩ := b1.own (fs' := fE p.td p.fu st p.ea p.sa v (.ref d2) hd) (s2 _ _ ho)
        refine ⟨p, st, _, _, hd, v, .ref d2, dx, rfl, s2 _ _ ho, ?_⟩
        exact q _ _ ((KeepM.same s2).trans m2) ⟨rfl, _, b2, _, _, hd, ⟨dx, upd_same⟩, (ht.keep (fr_same s2)).keep k2.fr, d2, rfl, Rho.put_self ..⟩
    | some en =>
      rw [hl] at hex hen2 q
      cases en with
      | head h => cases hen2
      | term t2 e2 =>
        obtain ⟨a2, tv2, d2, hv, ha2, ht2, hr2⟩ := hex
        rw [hv] at hg ⊢
        refine iteT ?_
        obtain ⟨b2, k2, m2⟩ := hB.own (fs' := fE p.td p.fu st p.ea p.sa tv2 (.ref d2) hd) ho
        refine ⟨_, rfl, _, rfl, d, _, rfl, hg, a2, _, rfl, SqT.of ha2, rfl, _, _, rfl, _, _, rfl, _, rfl, p.mo, C, dx, _, rfl, ho, T.cl, T.n_term, fE_len .., _, _, rfl, _, rfl, p.mo, C, dx, _, rfl, upd_same, T.cl, T.n_around, fE_len .., rfl, ?_⟩
        rw [fEp_term, fEp_around, upd_upd]
        exact q _ _ m2 ⟨rfl, r, b2.more (by omega), _, _, hd, ⟨dx, upd_same⟩, ht2.keep k2.fr, d2, rfl, hr2⟩
end
end Toy

set_option Elab.async false
set_option linter.all false
set_option maxRecDepth 100000
set_option maxHeartbeats 4000000
/-! Part MP: the program's machine: a let. -/
namespace Toy
open PySem L2
open PyProof.Rows (envOfC)
theorem rowGet_snoc {l : List (Str × Dd)} {q : Str × Dd} {s : Str} (h : q.1 ∉ l.map (·.1)) : rowGet (l ++ [q]) s = if q.1 = s then some q.2 else rowGet l s := by
  unfold rowGet
  rw [List.find?_append]
  by_cases c : q.1 = s
  · rw [if_pos c]
    have hn : l.find? (fun q : Str × Dd => decide (q.1 = s)) = none := List.find?_eq_none.mpr fun x hx => by
      intro hd
      have hd := of_decide_eq_true hd
      exact h (List.mem_map.mpr ⟨x, hx, hd.trans c.symm⟩)
    rw [hn, Option.none_or, List.find?_cons, decide_eq_true c]
    rfl
  · rw [if_neg c]
    have e : [q].find? (fun q : Str × Dd => decide (q.1 = s)) = none := by
      rw [List.find?_cons, decide_eq_false c]
      rfl
    rw [e, Option.or_none]
theorem take_snoc {α : Type} {l : List α} {i : Nat} {q : α} (h : l[i]? = some q) : l.take (i + 1) = l.take i ++ [q] := by
  rw [List.take_add_one, h]
  rfl
theorem boot_dict : bootBuiltins "dict" = some (.type "dict") := by decide +kernel
theorem EntP.cong {H : Hp} {r : Rho} {ks ks' : List (Key × V)} {s : Str} (hv : valV ks' (Sum.inr s) = valV ks (Sum.inr s)) : ∀ {o : Option Ent}, EntP H r ks s o → EntP H r ks' s o
  | none, h => hv.trans h
  | some (.term t e), ⟨a, tv, d, h1, h2⟩ => ⟨a, tv, d, hv.trans h1, h2⟩
  | some (.head h), ⟨a, x, h1, h2⟩ => ⟨a, x, hv.trans h1, h2⟩
section
variable {P : Program} {w : World} {K : PySem.W.Frag} {mg : Str → Option Value} {base : Heap} {C aS aN : Addr}
abbrev sEvLet : Stmt := topS 12
theorem scEvLet : FnScope ["machine", "term", "around", "inner", "name", "own"] ["machine", "term", "around"] (defScope sEvLet) := ⟨rfl, rfl, rfl, by decide +kernel, rfl, by decide +kernel, by decide +kernel⟩
theorem c_evaluate_let {f : Addr} {fd : FuncData} (T : TxtEc K mg C aS aN) (cbegin : C8.Met P w K mg base 1 C "begin" (spBegin C) []) (F : Fun K "_evaluate_let" "_evaluate_let" sEvLet f fd) (b : Binds K fd ["machine", "term", "around"] []) (hm : mg "_evaluate_let" = some (.ref f)) : C8.Cal P w K mg base 2 "_evaluate_let" (spEv K C "let") [] := by
  refine cal_of F hm b scEvLet (fun vs H Q E h => ?_) (fun cdv A outer s H vs Q E hr h => ?_)
  · obtain ⟨p, st, tm, hd, d, dx, r, N, gl, rr, e, stk, evs, rfl, _⟩ := h
    rfl
  obtain ⟨p, st, tm, hd, d, dx, r, N, gl, rr, e, stk, evs, rfl, hB, ho, hat, htk, hrd, hen, hsl, hel, hN, q⟩ := h
  have hu := hu_of hr
  have hbig : (16700000 : Nat) < sizeLine := by decide
  refine ⟨_, (pss_cons (ps_set (i := 3) scEvLet.nd rfl (Or.inl rfl) (pe_callTy call_dictD rfl T.zdict boot_dict (pa_cons (pv 2) pa_nil)))
    (pss_cons (ps_for PassesOwn.never rfl (pi_tup (pe_ix ix_tup (pv 1) pe_int (fun _ _ => rfl))) (pg_tup rfl (pgs_cons (pg_name (i := 4) scEvLet.nd rfl (Or.inl rfl)) (pgs_cons (pg_name (i := 5) scEvLet.nd rfl (Or.inl rfl)) pgs_nil)))
      (pss_one (ps_dput hu (pv 3) (pv 4) (pe_tup (pa_cons pe_str (pa_cons (pv 5) (pa_cons (pv 3) pa_nil)))) rfl)))
    (pss_one (ps_expr (C8.pe_mt cbegin hr (by decide) (pv 0) (pa_cons (pe_ix ix_tup (pv 1) pe_int (fun _ _ => rfl)) (pa_cons (pv 3) pa_nil))))))), ?_⟩
  obtain ⟨a, ys0, rfl, ha, hys, hyl, hzl⟩ := head_at hat
  obtain ⟨xs, hsa, hfr⟩ := hB.s
  have hxl := hfr.len
  obtain ⟨es, hea, hes⟩ := hB.v
  have hesl := ats_len hes
  rw [List.length_map] at hesl
  have hvw := ok_vw htk
  have hsz := htk.2
  cases hvw with
  | @lt rows t1 hnd hnm =>
    obtain ⟨x1, zs, rfl, ⟨pr, rxs, rfl, hpr, hrx⟩, y1, zs2, rfl, hy1, hn⟩ := hys
    cases (show zs2 = [] from hn)
    have hrl : rows.length ≤ 40000 := by
      have h2 := szs_len (rows.map defD)
      simp only [Dd.sz, Dd.szs] at hsz
      rw [List.length_map] at h2
      omega
    have hrxl := ats_len hrx
    rw [List.length_map] at hrxl
    obtain ⟨kvs, hdk, hkl, hent⟩ := hB.r d e hrd
    refine ⟨_, rfl, d, kvs, rfl, Rd.of hdk, fun n hnn => ?_⟩
    have s1 := same_new hnn (.dK kvs)
    have e1 : upd H n (.dK kvs) n = some (.dK kvs) := upd_same
    generalize upd H n (.dK kvs) = H1 at s1 e1 ⊢
    have hrn : r n = none := hB.r.off hnn
    have hle : Rle r (r.put n (.grp rows e)) := Rho.put_le hrn
    refine ⟨_, rfl, a, _, 1, _, rfl, rfl, SqT.of (s1 _ _ ha), at1 _ _ _, pr, rfl, ⟨_, SqT.of (s1 _ _ hpr)⟩, for_tup (a := pr) (xs := rxs) (fun i σ G => ∃ (v4 v5 : Option V) (ks : List (Key × V)), σ = [some (.ref p.mo), some (.ref a), some (.ref d), some (.ref n), v4, v5] ∧ Same H G ∧ G n = some (.dK ks) ∧ ks.length ≤ N + i ∧ ∀ s, EntP G (r.put n (.grp rows e)) ks s (match rowGet (rows.take i) s with | some t => some (.term t (.grp rows e)) | none => e.look s))
      ⟨none, none, kvs, rfl, s1, e1, hkl, fun s => by
        rw [List.take_zero]
        exact (hent s).keep (fr_same s1) hle⟩ (fun i σ G _ ⟨_, _, _, _, h, _⟩ => SqT.of (h _ _ hpr)) ?_ ?_⟩
    · rintro i x σ G hx ⟨v4, v5, ks, rfl, sG, eG, kl, hks⟩
      obtain ⟨qq, t, y, hq, rfl, ht, hy⟩ := ats_rows (hrx.keep (fr_same sG)) hx
      have hil := (List.getElem?_eq_some_iff.mp hq).1
      refine ⟨t, _, rfl, SqT.of ht, rfl, _, _, rfl, _, _, rfl, rfl, ?_⟩
      refine ⟨_, rfl, _, rfl, by show 3 ≤ sizeLine; decide, fun t8 ht8 => ?_⟩
      have s8 := same_new ht8 (.tup [.str "term", y, .ref n])
      have e8 : upd G t8 (.tup [.str "term", y, .ref n]) t8 = some (.tup [.str "term", y, .ref n]) := upd_same
      generalize upd G t8 (.tup [.str "term", y, .ref n]) = G1 at s8 e8 ⊢
      refine ⟨_, rfl, _, rfl, n, _, rfl, DPut.k (k := Sum.inr qq.1) (s8 _ _ eG) (by omega), ?_⟩
      have f9 : Fr F0 G1 (upd G1 n (.dK (putK ks (Sum.inr qq.1) (.ref t8)))) := ⟨fun b xs e => by rw [upd_ne (fun z => by rw [z, s8 _ _ eG] at e; cases e)]; exact e, fun b zs h _ => h.elim⟩
      refine ⟨_, _, _, rfl, fun b u e => ?_, upd_same, Nat.le_trans (length_putK ..) (by omega), fun s => ?_⟩
      · rw [upd_ne (ne_of_none e hnn)]
        exact s8 _ _ (sG _ _ e)
      · rw [take_snoc hq, rowGet_snoc (fun hm => ?_)]
        · by_cases c : qq.1 = s
          · rw [if_pos c]
            refine ⟨t8, y, n, by rw [valV_put, if_pos (by rw [c])], f9.1 _ _ e8, (hy.keep (fr_same s8)).keep f9, Rho.put_self ..⟩
          · rw [if_neg c]
            have h1 := (hks s).keep ((fr_same (B := F0) s8).trans f9) (Rle.refl _)
            have hv : valV (putK ks (Sum.inr qq.1) (.ref t8)) (Sum.inr s) = valV ks (Sum.inr s) := by rw [valV_put, if_neg (fun z => c (Sum.inr.inj z).symm)]
            exact h1.cong hv
        · rw [List.map_take] at hm
          have h3 : (rows.map (·.1))[i]? = some qq.1 := by rw [List.getElem?_map, hq]; rfl
          have e : rows.map (·.1) = (rows.map (·.1)).take i ++ qq.1 :: (rows.map (·.1)).drop (i + 1) := by rw [← drop_at h3, List.take_append_drop]
          rw [e] at hnd
          exact (List.nodup_append.mp hnd).2.2 _ hm _ List.mem_cons_self rfl
    · rintro σ G ⟨v4, v5, ks, rfl, sG, eG, kl, hks⟩
      rw [hrxl, List.take_length] at hks
      have he2 : EnvP G (r.put n (.grp rows e)) (N + 40000) n (.grp rows e) := ⟨ks, eG, by omega, fun s => by
        rw [Env.look]
        exact hks s⟩
      obtain ⟨b1, g1⟩ := hB.ghost hnn sG (Nat.le_add_right N 40000) he2
      obtain ⟨b2, k2, m2⟩ := b1.own (fs' := fE p.td p.fu st p.ea p.sa y1 (.ref n) hd) (sG _ _ ho)
      refine ⟨_, rfl, p.mo, dx, _, rfl, sG _ _ ho, fE_no_begin .., _, rfl, a, _, 2, _, rfl, rfl, SqT.of (sG _ _ ha), at2 _ _ _ _, _, rfl, p, st, _, _, hd, y1, .ref n, dx, rfl, sG _ _ ho, ?_⟩
      refine q _ _ ((KeepM.same sG).trans m2) ?_
      rw [dn_let, show (tl (arg 0 [Dd.tup (rows.map defD), t1])).map rowD = rows from rows_back rows]
      exact ⟨rfl, _, b2, _, _, hd, ⟨dx, upd_same⟩, (hy1.keep (fr_same sG)).keep k2.fr, n, rfl, Rho.put_self ..⟩
end
end Toy

set_option Elab.async false
set_option linter.all false
set_option maxRecDepth 100000
set_option maxHeartbeats 4000000
/-! Part Z4: own rules: zip of two rows, each a tuple or a list. -/
namespace Mix
open PySem PySem.Spec PyProof.Rows L2
section
variable {prog : Program} {w : World} {A : Around} {E : Value → Shared → Prop} {s : Shared}
abbrev itr (c : Bool) (ta : Addr) : Obj := { cls := .type (if c then "tuple_iterator" else "list_iterator"), data := .fields #[.ref ta, .int 0 0] }
abbrev gh1 (c : Bool) (g : Heap) (ta : Addr) : Heap := g.push (itr c ta)
abbrev gh2 (c d : Bool) (g : Heap) (ta tb : Addr) : Heap := (gh1 c g ta).push (itr d tb)
abbrev gh3 (c d : Bool) (g : Heap) (ta tb : Addr) : Heap := (gh2 c d g ta tb).push { cls := .type "tuple", data := .seq #[.ref g.objs.size, .ref (gh1 c g ta).objs.size] }
abbrev gh4 (c d : Bool) (g : Heap) (ta tb : Addr) : Heap := (gh3 c d g ta tb).push { cls := .type "tuple", data := .seq #[.none, .none] }
abbrev gh5 (c d : Bool) (g : Heap) (ta tb : Addr) : Heap := (gh4 c d g ta tb).push { cls := .type "zip", data := .fields #[.none, .bool false, .bool false, .ref (gh2 c d g ta tb).objs.size, .ref (gh3 c d g ta tb).objs.size] }
theorem new_zip_tt (ta tb : Addr) (us vs : Array Value) :
    Meets (Builtin.«zip.__new__» ⟨[.type "zip", .ref ta, .ref tb], []⟩) (fun _ R s => s.heap.IsTuple ta us ∧ s.heap.IsTuple tb vs ∧
      R (.ok (.ret (.ref (gh4 true true s.heap ta tb).objs.size))) { s with heap := gh5 true true s.heap ta tb }) :=
  .of_wp fun prog w A R s q => by
    obtain ⟨hp, g, d, tk, os⟩ := s; obtain ⟨t1, t2, q⟩ := q
    have sub := sub_zip
    have u1 : Heap.IsTuple (Shared.heap ⟨hp, g, d, tk, os⟩) ta us := t1
    have u2 : Heap.IsTuple (Shared.heap ⟨hp.push { cls := .type "tuple_iterator", data := .fields #[.ref ta, .int 0 0] }, g, d, tk, os⟩) tb vs := Heap.IsTuple.push t2 _
    wp_walk using wpAny_pyIter_tuple u1, wpAny_pyIter_tuple u2
    exact ⟨_, rfl, q⟩
theorem new_zip_tl (ta tb : Addr) (us vs : Array Value) :
    Meets (Builtin.«zip.__new__» ⟨[.type "zip", .ref ta, .ref tb], []⟩) (fun _ R s => s.heap.IsTuple ta us ∧ s.heap.IsList tb vs ∧
      R (.ok (.ret (.ref (gh4 true false s.heap ta tb).objs.size))) { s with heap := gh5 true false s.heap ta tb }) :=
  .of_wp fun prog w A R s q => by
    obtain ⟨hp, g, d, tk, os⟩ := s; obtain ⟨t1, t2, q⟩ := q
    have sub := sub_zip
    have u1 : Heap.IsTuple (Shared.heap ⟨hp, g, d, tk, os⟩) ta us := t1
    have u2 : Heap.IsList (Shared.heap ⟨hp.push { cls := .type "tuple_iterator", data := .fields #[.ref ta, .int 0 0] }, g, d, tk, os⟩) tb vs := Heap.IsList.push t2 _
    wp_walk using wpAny_pyIter_tuple u1, wpAny_pyIter_list u2
    exact ⟨_, rfl, q⟩
theorem new_zip_lt (ta tb : Addr) (us vs : Array Value) :
    Meets (Builtin.«zip.__new__» ⟨[.type "zip", .ref ta, .ref tb], []⟩) (fun _ R s => s.heap.IsList ta us ∧ s.heap.IsTuple tb vs ∧
      R (.ok (.ret (.ref (gh4 false true s.heap ta tb).objs.size))) { s with heap := gh5 false true s.heap ta tb }) :=
  .of_wp fun prog w A R s q => by
    obtain ⟨hp, g, d, tk, os⟩ := s; obtain ⟨t1, t2, q⟩ := q
    have sub := sub_zip
    have u1 : Heap.IsList (Shared.heap ⟨hp, g, d, tk, os⟩) ta us := t1
    have u2 : Heap.IsTuple (Shared.heap ⟨hp.push { cls := .type "list_iterator", data := .fields #[.ref ta, .int 0 0] }, g, d, tk, os⟩) tb vs := Heap.IsTuple.push t2 _
    wp_walk using wpAny_pyIter_list u1, wpAny_pyIter_tuple u2
    exact ⟨_, rfl, q⟩
theorem new_zip_ll (ta tb : Addr) (us vs : Array Value) :
    Meets (Builtin.«zip.__new__» ⟨[.type "zip", .ref ta, .ref tb], []⟩) (fun _ R s => s.heap.IsList ta us ∧ s.heap.IsList tb vs ∧
      R (.ok (.ret (.ref (gh4 false false s.heap ta tb).objs.size))) { s with heap := gh5 false false s.heap ta tb }) :=
  .of_wp fun prog w A R s q => by
    obtain ⟨hp, g, d, tk, os⟩ := s; obtain ⟨t1, t2, q⟩ := q
    have sub := sub_zip
    have u1 : Heap.IsList (Shared.heap ⟨hp, g, d, tk, os⟩) ta us := t1
    have u2 : Heap.IsList (Shared.heap ⟨hp.push { cls := .type "list_iterator", data := .fields #[.ref ta, .int 0 0] }, g, d, tk, os⟩) tb vs := Heap.IsList.push t2 _
    wp_walk using wpAny_pyIter_list u1, wpAny_pyIter_list u2
    exact ⟨_, rfl, q⟩
theorem new_zipG : ∀ (c d : Bool) (ta tb : Addr) (us vs : Array Value), Meets (Builtin.«zip.__new__» ⟨[.type "zip", .ref ta, .ref tb], []⟩) (fun _ R s => Row c s.heap ta us ∧ Row d s.heap tb vs ∧
      R (.ok (.ret (.ref (gh4 c d s.heap ta tb).objs.size))) { s with heap := gh5 c d s.heap ta tb })
  | true, true => new_zip_tt
  | true, false => new_zip_tl
  | false, true => new_zip_lt
  | false, false => new_zip_ll
theorem wlk_new {c : Bool} {g : Heap} {j p : Addr} (e : g.get? j = some (itr c p)) : Wlk c g j p 0 := by
  cases c
  · exact ⟨_, e, rfl, rfl⟩
  · exact ⟨_, e, rfl, rfl⟩
theorem Row.up {c : Bool} {g g' : Heap} {p : Addr} {us : Array Value} (r : Row c g p us) (k : ∀ o, g.get? p = some o → g'.get? p = some o) : Row c g' p us := by
  cases c
  · exact Heap.IsList.at r k
  · exact Heap.IsTuple.at r k
theorem Row.low {c : Bool} {g : Heap} {p : Addr} {us : Array Value} (r : Row c g p us) : p < g.objs.size := by
  cases c
  · obtain ⟨o, e, _⟩ := (show g.IsList p us from r)
    exact Heap.lt_size e
  · obtain ⟨o, e, _⟩ := (show g.IsTuple p us from r)
    exact Heap.lt_size e
theorem call_zipG {c d : Bool} {ta tb : Addr} {us vs : Array Value} {Q : Value → Shared → Prop} (t1 : Row c s.heap ta us) (t2 : Row d s.heap tb vs)
    (q : ∀ g, IsZip g (s.heap.objs.size + 4) (s.heap.objs.size + 2) (s.heap.objs.size + 3) .none → IsPair g (s.heap.objs.size + 2) (.ref s.heap.objs.size) (.ref (s.heap.objs.size + 1)) →
      IsPair g (s.heap.objs.size + 3) .none .none → Wlk c g s.heap.objs.size ta 0 → Wlk d g (s.heap.objs.size + 1) tb 0 → g.objs.size = s.heap.objs.size + 5 →
      (∀ x o, s.heap.get? x = some o → g.get? x = some o) → Q (.ref (s.heap.objs.size + 4)) { s with heap := g }) : wpAny (model prog w) A (call (.type "zip") [.ref ta, .ref tb]) Q E s := by
  refine callType_new F.called_zip (by decide) (F.typeCall_zip_2 _ _) (F.newCall_zip_2 _ _) (fun obj => F.args_object_init_3 obj _ _) F.entry_zip_new (new_zipG c d ta tb us vs) ⟨t1, t2, ?_⟩
  have y1 : (gh1 c s.heap ta).objs.size = s.heap.objs.size + 1 := Heap.size_push ..
  have y2 : (gh2 c d s.heap ta tb).objs.size = s.heap.objs.size + 2 := by rw [Heap.size_push, y1]
  have y3 : (gh3 c d s.heap ta tb).objs.size = s.heap.objs.size + 3 := by rw [Heap.size_push, y2]
  have y4 : (gh4 c d s.heap ta tb).objs.size = s.heap.objs.size + 4 := by rw [Heap.size_push, y3]
  have y5 : (gh5 c d s.heap ta tb).objs.size = s.heap.objs.size + 5 := by rw [Heap.size_push, y4]
  have g5 : (gh5 c d s.heap ta tb).get? (gh4 c d s.heap ta tb).objs.size = some _ := Heap.get?_push_size _ rfl
  have g4 : (gh5 c d s.heap ta tb).get? (gh3 c d s.heap ta tb).objs.size = some _ := Heap.get?_push_of_some _ (Heap.get?_push_size _ rfl)
  have g3 : (gh5 c d s.heap ta tb).get? (gh2 c d s.heap ta tb).objs.size = some _ := Heap.get?_push_of_some _ (Heap.get?_push_of_some _ (Heap.get?_push_size _ rfl))
  have g2 : (gh5 c d s.heap ta tb).get? (gh1 c s.heap ta).objs.size = some _ := Heap.get?_push_of_some _ (Heap.get?_push_of_some _ (Heap.get?_push_of_some _ (Heap.get?_push_size _ rfl)))
  have g1 : (gh5 c d s.heap ta tb).get? s.heap.objs.size = some _ := Heap.get?_push_of_some _ (Heap.get?_push_of_some _ (Heap.get?_push_of_some _ (Heap.get?_push_of_some _ (Heap.get?_push_size _ rfl))))
  show _ ∧ _
  rw [y2, y3, y4] at g5
  rw [y1, y2] at g3
  rw [y3] at g4
  rw [y1] at g2
  rw [y4]
  exact ⟨⟨_, g5, rfl⟩, q _ g5 g3 g4 (wlk_new g1) (wlk_new g2) y5 fun x o e => Heap.get?_push_of_some _ (Heap.get?_push_of_some _ (Heap.get?_push_of_some _ (Heap.get?_push_of_some _ (Heap.get?_push_of_some _ e))))⟩
end
/-- the rows at a and b, their items in new pairs -/
def SqG (c : Bool) (K : PySem.W.Frag) (H : Hp) (a : Addr) (xs : List V) : Prop := match c with
  | true => SqT K H a xs
  | false => SqL K H a xs
def Itg (c d : Bool) (K : PySem.W.Frag) (a b : Addr) : It :=
  ⟨fun i H => ∃ (xs ys : List V) (x y : V), SqG c K H a xs ∧ SqG d K H b ys ∧ xs[i]? = some x ∧ ys[i]? = some y,
    fun i H v H' => ∃ T x y, v = .ref T ∧ H T = none ∧ H' = upd H T (.tup [x, y]) ∧ (∀ xs, SqG c K H a xs → xs[i]? = some x) ∧ ∀ ys, SqG d K H b ys → ys[i]? = some y,
    fun i H => ∃ xs ys : List V, SqG c K H a xs ∧ SqG d K H b ys ∧ (xs.length ≤ i ∨ ys.length ≤ i)⟩
theorem row_of {X : Cx} {pins : List (Addr × Obj)} {σ : L2.St} {H : Hp} {s : Shared} (I : Inv X pins σ H s) : ∀ {c : Bool} {a : Addr} {xs : List V}, SqG c X.K H a xs → ∃ us : List Value, Vals xs us ∧ Row c s.heap a us.toArray ∧ xs.length ≤ sizeLine
  | true, a, xs, h => by
    obtain ⟨us, rv, p, z⟩ := I.tuple h
    exact ⟨us, rv, p, z⟩
  | false, a, xs, h => by
    obtain ⟨us, rv, p, z⟩ := I.list h
    exact ⟨us, rv, p.isList, z⟩
theorem inj_of {X : Cx} {pins : List (Addr × Obj)} {σ : L2.St} {H : Hp} {s : Shared} (I : Inv X pins σ H s) : ∀ {c : Bool} {a : Addr} {xs ys : List V}, SqG c X.K H a xs → SqG c X.K H a ys → xs = ys
  | true, a, xs, ys, h, k => I.tuple_inj h k
  | false, a, xs, ys, h, k => I.list_inj h k
theorem turn_g {c d : Bool} {P : Program} {w : World} {K : PySem.W.Frag} {elts : List Expr} {kk : Nat} {tpos : Pos} {a b zz ti to j1 j2 : Addr} (D : ZipApart zz ti to j1 j2 a b) :
    Turn P w K (.Tuple elts kk tpos) (Itg c d K a b) [zz, ti, to, j1, j2] zz (fun i g => IsZip g zz ti to .none ∧ IsPair g ti (.ref j1) (.ref j2) ∧ (∃ x y, IsPair g to x y) ∧ Wlk c g j1 a i ∧ Wlk d g j2 b i) where
  mem := by simp
  obj := fun i g st c hc => by
    obtain ⟨q1, q2, ⟨x, y, q3⟩, q4, q5⟩ := st
    have e' : c = zz ∨ c = ti ∨ c = to ∨ c = j1 ∨ c = j2 := by simpa using hc
    rcases e' with q | q | q | q | q
    · rw [q]; exact ⟨_, q1, fun v z => nomatch z⟩
    · rw [q]; exact ⟨_, q2, fun v z => nomatch z⟩
    · rw [q]; exact ⟨_, q3, fun v z => nomatch z⟩
    · rw [q]; exact Wlk.there q4
    · rw [q]; exact Wlk.there q5
  keep := fun i g g' st k => by
    obtain ⟨q1, q2, ⟨x, y, q3⟩, q4, q5⟩ := st
    exact ⟨k zz (by simp) _ q1, k ti (by simp) _ q2, ⟨x, y, k to (by simp) _ q3⟩, q4.at fun o q => k j1 (by simp) o q, q5.at fun o q => k j2 (by simp) o q⟩
  item := by
    intro X hP hw hK hc i pins s σ H E I hf st hg
    subst hP hw hK
    obtain ⟨q1, q2, ⟨x0, y0, q3⟩, q4, q5⟩ := st
    obtain ⟨xs, ys, x, y, hqx, hqy, hx, hy⟩ := hg
    obtain ⟨us, rv, p, _⟩ := row_of I hqx
    obtain ⟨vs, rv2, p2, _⟩ := row_of I hqy
    obtain ⟨u, hu, ru⟩ := rv.get hx
    obtain ⟨v, hv, rv'⟩ := rv2.get hy
    have lz : zz < s.heap.objs.size := Heap.lt_size q1
    refine next_item (c := c) (d := d) D q1 q2 q3 q4 q5 p p2 (u := u) (v := v) (by simpa using hu) (by simpa using hv) fun g c1 c2 c3 c4 c5 c6 c7 => ?_
    refine ⟨_, rfl, wpAny_letOwnedTupleGo_zip (s := { s with heap := g }) c1 fun g' c8 sb => ?_⟩
    have c9 : g'.get? s.heap.objs.size = some { cls := .type "tuple", data := .seq #[u, v] } := (sb.2 _ (Nat.ne_of_gt lz)).trans c5
    have new : ObjOk X.prog X.w (upd H s.heap.objs.size (.tup [x, y])) g' s.heap.objs.size (.tup [x, y]) := ⟨by show 2 ≤ sizeLine; decide, [u, v], .cons ru (.cons rv' .nil), ⟨_, c9, rfl, _, rfl⟩⟩
    have I1 : Inv X pins σ (upd H s.heap.objs.size (.tup [x, y])) { s with heap := g' } :=
      I.turnedNew (t' := s.toks) (ch := [zz, ti, to, j1, j2]) (fun e o hb q => (sb.2 e (fun z => hb (by simp [z]))).trans (c7 e o (fun z => hb (by simp [z])) (fun z => hb (by simp [z])) (fun z => hb (by simp [z])) (fun z => hb (by simp [z])) q)) hf (Nat.le_refl _) new
    refine ⟨.ref s.heap.objs.size, _, I1, rfl, ⟨_, x, y, rfl, I.hok.fresh (Nat.le_refl _), rfl, fun l hl => by rw [inj_of I hl hqx]; exact hx, fun l hl => by rw [inj_of I hl hqy]; exact hy⟩, ⟨c8, ?_, ⟨u, v, ?_⟩, ?_, ?_⟩, fun e hcm => ?_⟩
    · exact (sb.2 _ D.TIz).trans (c7 _ _ D.TIz D.TITO D.TIi1 D.TIi2 q2)
    · exact (sb.2 _ D.TOz).trans c2
    · exact c3.at fun o q => (sb.2 _ D.i1z).trans q
    · exact c4.at fun o q => (sb.2 _ D.i2z).trans q
    · have hlt : e < s.heap.objs.size := by
        have e' : e = zz ∨ e = ti ∨ e = to ∨ e = j1 ∨ e = j2 := by simpa using hcm
        rcases e' with q | q | q | q | q
        · rw [q]; exact lz
        · rw [q]; exact Heap.lt_size q2
        · rw [q]; exact Heap.lt_size q3
        · rw [q]; exact Wlk.lt q4
        · rw [q]; exact Wlk.lt q5
      rw [upd_ne (Nat.ne_of_lt hlt)]
      exact (hf e hcm).1
  done := by
    intro X hP hw hK hc i pins s σ H E I hf st hg
    subst hP hw hK
    obtain ⟨q1, q2, ⟨x0, y0, q3⟩, q4, q5⟩ := st
    obtain ⟨xs, ys, hqx, hqy, hend⟩ := hg
    obtain ⟨us, rv, p, _⟩ := row_of I hqx
    obtain ⟨vs, rv2, p2, _⟩ := row_of I hqy
    have l1 := rv.length
    have l2 := rv2.length
    have fin : us.toArray[i]? = none ∨ vs.toArray[i]? = none := by
      rcases hend with q | q
      · exact .inl (by simp; omega)
      · exact .inr (by simp; omega)
    exact next_end (c := c) (d := d) (I.ok.hd hc) D q1 q2 q3 q4 q5 p p2 fin fun g kp => ⟨rfl, I.turnedL (t' := s.toks) (ch := [zz, ti, to, j1, j2]) (fun e o hb q =>
      kp e o (fun z => hb (by simp [z])) (fun z => hb (by simp [z])) (fun z => hb (by simp [z])) (fun z => hb (by simp [z])) q) hf⟩
  self := fun A i s Q E st h => wpAny_pyIter_zip st.1 h
def iZipG (c d : Bool) (K : PySem.W.Frag) (ta : TA) : TI := fun σ H R => ta σ H fun vs H1 => ∃ a b xs ys, vs = [.ref a, .ref b] ∧ SqG c K H1 a xs ∧ SqG d K H1 b ys ∧ R (Itg c d K a b) H1
theorem pi_zipG (c d : Bool) {X : Cx} {e e2 : Expr} {ta : TA} {p pos tpos : Pos} {elts : List Expr} {kk : Nat} (hg : Gl X "zip") (hm : X.mg "zip" = none) (ha : PA X [e, e2] ta)
    (hs : starEach [e, e2] X.env = (false, eval e X.env) :: starEach [e2] X.env := by rfl) (hpl : (backTo pos (starEach [e2] X.env)).any (·.1) = false := by rfl) :
    PI X (.Tuple elts kk tpos) (.Call (.Name "zip" p) [e, e2] [] pos) (iZipG c d X.K ta) := by
  refine ⟨fun pins s σ H R I h => ?_⟩
  refine Call_ (ld_blt I hg hm PyProof.Rows.boot_zip (PyProof.Rows.callWith_type1 (thn (ha.run pos pins s σ H _ I h) fun ws s1 ⟨vs, H1, I1, rw1, qw⟩ => ?_) hs hpl))
  obtain ⟨a, b, xs, ys, ex, hqx, hqy, q⟩ := qw
  subst ex
  cases rw1 with
  | cons r rr =>
    cases rr with
    | cons r' rr =>
      cases rr
      cases r
      cases r'
      obtain ⟨its, rv, p1, _⟩ := row_of I1 hqx
      obtain ⟨its2, rv2, p2, _⟩ := row_of I1 hqy
      refine call_zipG p1 p2 fun g cz ci co r1 r2 cs kp => wpAny_pyIter_zip cz ?_
      have I2 : Inv X pins σ H1 { s1 with heap := g } := I1.kept (t' := s1.toks) kp
      refine ⟨s1.heap.objs.size + 4, [s1.heap.objs.size + 4, s1.heap.objs.size + 2, s1.heap.objs.size + 3, s1.heap.objs.size, s1.heap.objs.size + 1], _, _, H1, rfl, I2, turn_g (PySem.W.ktu_apart s1.heap.objs.size a b p1.low p2.low), ⟨cz, ci, ⟨_, _, co⟩, r1, r2⟩, fun x hcm => ?_, q⟩
      have hle : s1.heap.objs.size ≤ x := by
        simp only [List.mem_cons, List.not_mem_nil, or_false] at hcm
        rcases hcm with z | z | z | z | z <;> rw [z] <;> omega
      exact I1.fpOk hle (I1.hok.fresh hle)
/-- a loop over such a zip, both of one length -/
theorem for_zipG {c d : Bool} {K : PySem.W.Frag} {a b : Addr} {xs ys : List V} {g : TG} {tb : TS} {D : Ends} {σ : L2.St} {H : Hp} (hl : xs.length = ys.length) (Pv : Nat → L2.St → Hp → Prop) (h0 : Pv 0 σ H) (hq : ∀ i σ H, Pv i σ H → SqG c K H a xs ∧ SqG d K H b ys)
    (hs : ∀ (i : Nat) (x y : V) (T : Addr) (σ : L2.St) (H : Hp), xs[i]? = some x → ys[i]? = some y → Pv i σ H → H T = none → g (.ref T) σ (upd H T (.tup [x, y])) fun σ2 H2 => tb { D with nx := Pv (i + 1), ct := Pv (i + 1), bk := D.nx } σ2 H2) (hd : ∀ σ H, Pv xs.length σ H → D.nx σ H) :
    ∃ W : Nat → Nat → L2.St → Hp → Prop, (∃ m, W 0 m σ H) ∧ ∀ i m σ H, W i m σ H →
      ((Itg c d K a b).stop i H ∧ D.nx σ H) ∨ ((Itg c d K a b).go i H ∧ ∃ N : L2.St → Hp → Prop, (∀ σ' H', N σ' H' → ∃ m', m' < m ∧ W (i + 1) m' σ' H') ∧ ∀ v H', (Itg c d K a b).yld i H v H' → g v σ H' fun σ2 H2 => tb { D with nx := N, ct := N, bk := D.nx } σ2 H2) := by
  refine ⟨fun i m σ H => m = xs.length - i ∧ i ≤ xs.length ∧ Pv i σ H, ⟨xs.length, rfl, Nat.zero_le _, h0⟩, ?_⟩
  rintro i m σ H ⟨rfl, hi, p⟩
  obtain ⟨qx, qy⟩ := hq i σ H p
  rcases Nat.lt_or_ge i xs.length with lt | ge
  · refine .inr ⟨⟨xs, ys, xs[i], ys[i]'(by omega), qx, qy, List.getElem?_eq_getElem lt, List.getElem?_eq_getElem (by omega)⟩, Pv (i + 1), fun σ' H' p' => ⟨xs.length - (i + 1), by omega, rfl, lt, p'⟩, fun v H' hy => ?_⟩
    obtain ⟨T, x', y', rfl, hT, rfl, f1, f2⟩ := hy
    exact hs i x' y' T σ H (f1 xs qx) (f2 ys qy) p hT
  · have e : i = xs.length := by omega
    subst e
    exact .inl ⟨⟨xs, ys, qx, qy, .inl (Nat.le_refl _)⟩, hd σ H p⟩
end Mix

set_option Elab.async false
set_option linter.all false
set_option maxRecDepth 100000
set_option maxHeartbeats 4000000
/-! Part MQ: the program's machine: steps up. -/
namespace Toy
open PySem L2
open PyProof.Rows (envOfC)
section
variable {P : Program} {w : World} {K : PySem.W.Frag} {mg : Str → Option Value} {base : Heap} {C aS aN : Addr}
/-- what a step up works on -/
structure UpAt (C : Addr) (H : Hp) (p : Pl) (st : Int) (dx : Addr) (tm ar hv : V) (r : Rho) (N : Nat) (gl : Str → Option Dd) (h : Head) (stk : List Frm) (evs : List Int) : Prop where
  b : MB C H r N p gl stk evs
  o : H p.mo = some (.ins C dx (fE p.td p.fu st p.ea p.sa tm ar hv))
  hp : HdP H r h hv
  hn : tm = .non
  hk : h.ok
  n : N + 40000 ≤ 16700000
  sl : stk.length ≤ 1000000
theorem UpAt.stuck {C : Addr} {H : Hp} {p : Pl} {st : Int} {dx : Addr} {tm ar hv : V} {r : Rho} {N : Nat} {gl : Str → Option Dd} {h : Head} {stk : List Frm} {evs : List Int} (U : UpAt C H p st dx tm ar hv r N gl h stk evs) : ∃ (r : Rho) (M : Nat) (m : Mst), MAt C H r M p gl st m ∧ m.evs = evs :=
  ⟨r, N, ⟨.hd h, stk, evs⟩, ⟨U.b, _, _, _, ⟨dx, U.o⟩, U.hn, U.hp⟩, rfl⟩
theorem UpAt.same {C : Addr} {H H' : Hp} {p : Pl} {st : Int} {dx : Addr} {tm ar hv : V} {r : Rho} {N : Nat} {gl : Str → Option Dd} {h : Head} {stk : List Frm} {evs : List Int} (U : UpAt C H p st dx tm ar hv r N gl h stk evs) (s : Same H H') : UpAt C H' p st dx tm ar hv r N gl h stk evs :=
  ⟨U.b.same s, s _ _ U.o, U.hp.keep (fr_same s) (Rle.refl r), U.hn, U.hk, U.n, U.sl⟩
/-- a new dict stands for an environment, a term is begun in it -/
theorem UpAt.begun {C : Addr} {H G : Hp} {p : Pl} {st : Int} {dx : Addr} {tm ar hv : V} {r : Rho} {N : Nat} {gl : Str → Option Dd} {h : Head} {stk : List Frm} {evs : List Int} (U : UpAt C H p st dx tm ar hv r N gl h stk evs) {n : Addr} (hn : H n = none) (s : Same H G) {e : Env} (he : EnvP G (r.put n e) (N + 40000) n e) {b : Dd} {bv : V} (hb : b.At F0 G bv) :
    KeepM p H (upd G p.mo (.ins C dx (fE p.td p.fu st p.ea p.sa bv (.ref n) hv))) ∧ ∃ r', MAt C (upd G p.mo (.ins C dx (fE p.td p.fu st p.ea p.sa bv (.ref n) hv))) r' (N + 40000) p gl st ⟨.ev b e, stk, evs⟩ := by
  obtain ⟨b1, g1⟩ := U.b.ghost hn s (Nat.le_add_right N 40000) he
  obtain ⟨b2, k2, m2⟩ := b1.own (fs' := fE p.td p.fu st p.ea p.sa bv (.ref n) hv) (s _ _ U.o)
  exact ⟨(KeepM.same s).trans m2, _, b2, _, _, hv, ⟨dx, upd_same⟩, hb.keep k2.fr, n, rfl, Rho.put_self ..⟩
abbrev sGoHead : Stmt := topS 19
theorem scGoHead : FnScope ["machine", "name", "body", "around", "inner"] ["machine", "name", "body", "around"] (defScope sGoHead) := ⟨rfl, rfl, rfl, by decide +kernel, rfl, by decide +kernel, by decide +kernel⟩
def spGH (C : Addr) : Sp := fun vs H Q _ => ∃ (p : Pl) (st : Int) (dx d : Addr) (tm ar hv bv : V) (r : Rho) (N : Nat) (gl : Str → Option Dd) (h : Head) (stk : List Frm) (evs : List Int) (x : Str) (b : Dd) (e : Env), vs = [.ref p.mo, .str x, bv, .ref d] ∧ UpAt C H p st dx tm ar hv r N gl h stk evs ∧ b.At F0 H bv ∧ r d = some e ∧
  ∀ (H' : Hp), KeepM p H H' → (∃ r', MAt C H' r' (N + 40000) p gl st ⟨.ev b (.hd x h e), stk, evs⟩) → Q .non H'
theorem c_gohead {f : Addr} {fd : FuncData} (T : TxtEc K mg C aS aN) (cbegin : C8.Met P w K mg base 1 C "begin" (spBegin C) []) (F : Fun K "_go_on_with_head" "_go_on_with_head" sGoHead f fd) (b : Binds K fd ["machine", "name", "body", "around"] []) (hm : mg "_go_on_with_head" = some (.ref f)) : C8.Cal P w K mg base 2 "_go_on_with_head" (spGH C) [] := by
  refine cal_of F hm b scGoHead (fun vs H Q E h => ?_) (fun cdv A outer s H vs Q E hr h => ?_)
  · obtain ⟨p, st, dx, d, tm, ar, hv, bv, r, N, gl, h, stk, evs, x, b, e, rfl, _⟩ := h
    rfl
  obtain ⟨p, st, dx, d, tm, ar, hv, bv, r, N, gl, h, stk, evs, x, b, e, rfl, U, hb, hrd, q⟩ := h
  have hu := hu_of hr
  have hbig : (16700000 : Nat) < sizeLine := by decide
  refine ⟨_, (pss_cons (ps_set (i := 4) scGoHead.nd rfl (Or.inl rfl) (pe_callTy call_dictD rfl T.zdict boot_dict (pa_cons (pv 3) pa_nil)))
    (pss_cons (ps_dput hu (pv 4) (pv 1) (pe_tup (pa_cons pe_str (pa_cons (pe_fld (pv 0) rfl) pa_nil))) rfl)
    (pss_one (ps_expr (C8.pe_mt cbegin hr (by decide) (pv 0) (pa_cons (pv 2) (pa_cons (pv 4) pa_nil))))))), ?_⟩
  obtain ⟨kvs, hdk, hkl, hent⟩ := U.b.r d e hrd
  have hN := U.n
  refine ⟨_, rfl, d, kvs, rfl, Rd.of hdk, fun n hnn => ?_⟩
  have s1 := same_new hnn (.dK kvs)
  have e1 : upd H n (.dK kvs) n = some (.dK kvs) := upd_same
  generalize upd H n (.dK kvs) = H1 at s1 e1 ⊢
  refine ⟨_, rfl, p.mo, C, dx, _, hv, rfl, s1 _ _ U.o, T.cl, T.n_head, fE_head .., by show 2 ≤ sizeLine; decide, fun t8 ht8 => ?_⟩
  have s8 := same_new ht8 (.tup [.str "head", hv])
  have e8 : upd H1 t8 (.tup [.str "head", hv]) t8 = some (.tup [.str "head", hv]) := upd_same
  generalize upd H1 t8 (.tup [.str "head", hv]) = H2 at s8 e8 ⊢
  refine ⟨_, rfl, _, rfl, n, _, rfl, DPut.k (k := Sum.inr x) (s8 _ _ e1) (by omega), ?_⟩
  have f9 : Fr F0 H2 (upd H2 n (.dK (putK kvs (Sum.inr x) (.ref t8)))) := ⟨fun b xs e => by rw [upd_ne (fun z => by rw [z, s8 _ _ e1] at e; cases e)]; exact e, fun b zs h _ => h.elim⟩
  have s9 : Same H (upd H2 n (.dK (putK kvs (Sum.inr x) (.ref t8)))) := fun b u e => by rw [upd_ne (ne_of_none e hnn)]; exact s8 _ _ (s1 _ _ e)
  have hle : Rle r (r.put n (.hd x h e)) := Rho.put_le (U.b.r.off hnn)
  have he2 : EnvP (upd H2 n (.dK (putK kvs (Sum.inr x) (.ref t8)))) (r.put n (.hd x h e)) (N + 40000) n (.hd x h e) := ⟨_, upd_same, Nat.le_trans (length_putK ..) (by omega), fun s => by
    rw [Env.look]
    by_cases c : x = s
    · rw [if_pos c]
      exact ⟨t8, hv, by rw [valV_put, if_pos (by rw [c])], f9.1 _ _ e8, U.hp.keep (fr_same s9) hle⟩
    · rw [if_neg c]
      exact ((hent s).keep (fr_same s9) hle).cong (by rw [valV_put, if_neg (fun z => c (Sum.inr.inj z).symm)])⟩
  obtain ⟨m1, hm1⟩ := U.begun hnn s9 he2 (hb.keep (fr_same s9))
  exact ⟨_, rfl, p.mo, dx, _, rfl, s9 _ _ U.o, fE_no_begin .., _, rfl, _, rfl, p, st, _, _, hv, bv, .ref n, dx, rfl, s9 _ _ U.o, q _ m1 hm1⟩
abbrev sGoDflt : Stmt := topS 23
theorem scGoDflt : FnScope ["machine", "default", "around"] ["machine", "default", "around"] (defScope sGoDflt) := ⟨rfl, rfl, rfl, by decide +kernel, rfl, by decide +kernel, by decide +kernel⟩
def spGD (K : PySem.W.Frag) (C : Addr) : Sp := fun vs H Q _ => ∃ (p : Pl) (st : Int) (dx d : Addr) (tm ar hv dv : V) (r : Rho) (N : Nat) (gl : Str → Option Dd) (h : Head) (stk : List Frm) (evs : List Int) (dd : Dd) (e : Env), vs = [.ref p.mo, dv, .ref d] ∧ UpAt C H p st dx tm ar hv r N gl h stk evs ∧ dd.At F0 H dv ∧ DfShape dd ∧ r d = some e ∧
  ∀ (v' : V) (H' : Hp), KeepM p H H' → OutP K C H' (N + 40000) p gl st evs (dfltA dd h e stk evs) v' → Q v' H'
theorem c_godflt {f : Addr} {fd : FuncData} (T : TxtEc K mg C aS aN) (c_go_on_with_head : C8.Cal P w K mg base 2 "_go_on_with_head" (spGH C) []) (F : Fun K "_go_on_with_default" "_go_on_with_default" sGoDflt f fd) (b : Binds K fd ["machine", "default", "around"] []) (hm : mg "_go_on_with_default" = some (.ref f)) : C8.Cal P w K mg base 3 "_go_on_with_default" (spGD K C) [] := by
  refine cal_of F hm b scGoDflt (fun vs H Q E h => ?_) (fun cdv A outer s H vs Q E hr h => ?_)
  · obtain ⟨p, st, dx, d, tm, ar, hv, dv, r, N, gl, h, stk, evs, dd, e, rfl, _⟩ := h
    rfl
  obtain ⟨p, st, dx, d, tm, ar, hv, dv, r, N, gl, h, stk, evs, dd, e, rfl, U, hdd, hdf, hrd, q⟩ := h
  refine ⟨_, (pss_cons (ps_if (pt_cmpR op_isN (pv 1) pe_non (nomark _))
      (pss_one (ps_ret (C8.pe_gc rfl T.gNO_MATCH)))
      pss_nil)
    (pss_cons (ps_expr (C8.pe_c c_go_on_with_head hr (by decide) rfl (pa_cons (pv 0) (pa_cons (pe_ix ix_tup (pv 1) pe_int (fun _ _ => rfl)) (pa_cons (pe_ix ix_tup (pv 1) pe_int (fun _ _ => rfl)) (pa_cons (pv 2) pa_nil))))))
    (pss_one (ps_ret pe_non)))), ?_⟩
  rcases hdf with rfl | ⟨x, b, rfl, hx⟩
  · cases (show dv = .non from hdd)
    refine ⟨_, rfl, rfl, _, rfl, ?_⟩
    refine iteT ?_
    exact q _ _ (fun _ _ _ _ _ e => e) ⟨⟨aN, rfl, T.sNO_MATCH _⟩, U.stuck⟩
  · obtain ⟨ta, x1, bv, rfl, hta, hx1, hbv⟩ := pair_at (m := [.str x, b]) hdd rfl
    obtain ⟨rfl, _⟩ := (show x1 = .str x ∧ _ from hx1)
    refine ⟨_, rfl, rfl, _, rfl, ?_⟩
    refine iteF ?_
    refine ⟨_, rfl, _, rfl, ta, _, 0, _, rfl, rfl, SqT.of hta, at0 _ _, _, rfl, ta, _, 1, _, rfl, rfl, SqT.of hta, at1 _ _ _, _, rfl, p, st, dx, d, tm, ar, hv, bv, r, N, gl, h, stk, evs, x, b, e, rfl, U, hbv, hrd, fun H' k' hm' => ?_⟩
    exact q _ _ k' ⟨rfl, hm'⟩
/-- a step up, by what kind of frame it is -/
def spCt (K : PySem.W.Frag) (C : Addr) (kind : Frm → Prop) : Sp := fun vs H Q _ => ∃ (p : Pl) (st : Int) (dx : Addr) (tm ar hv gv : V) (r : Rho) (N : Nat) (gl : Str → Option Dd) (g : Frm) (h : Head) (stk : List Frm) (evs : List Int), vs = [.ref p.mo, gv] ∧ kind g ∧ UpAt C H p st dx tm ar hv r N gl h stk evs ∧ FrmP H r g gv ∧ g.ok ∧
  ∀ (v' : V) (H' : Hp), KeepM p H H' → OutP K C H' (N + 40000) p gl st evs (upA g h stk evs) v' → Q v' H'
abbrev sGoSeq : Stmt := topS 20
theorem scGoSeq : FnScope ["machine", "frame", "_", "name", "body", "around"] ["machine", "frame"] (defScope sGoSeq) := ⟨rfl, rfl, rfl, by decide +kernel, rfl, by decide +kernel, by decide +kernel⟩
theorem c_go_on_with_seq {f : Addr} {fd : FuncData} (T : TxtEc K mg C aS aN) (c_go_on_with_head : C8.Cal P w K mg base 2 "_go_on_with_head" (spGH C) []) (F : Fun K "_go_on_with_seq" "_go_on_with_seq" sGoSeq f fd) (b : Binds K fd ["machine", "frame"] []) (hm : mg "_go_on_with_seq" = some (.ref f)) : C8.Cal P w K mg base 3 "_go_on_with_seq" (spCt K C (fun g => ∃ x b e, g = .seq x b e)) [] := by
  refine cal_of F hm b scGoSeq (fun vs H Q E h => ?_) (fun cdv A outer s H vs Q E hr h => ?_)
  · obtain ⟨p, st, dx, tm, ar, hv, gv, r, N, gl, g, h, stk, evs, rfl, _⟩ := h
    rfl
  obtain ⟨p, st, dx, tm, ar, hv, gv, r, N, gl, g, h, stk, evs, rfl, hki, U, hg, hgo, q⟩ := h
  have hu := hu_of hr
  have hbig : (16700000 : Nat) < sizeLine := by decide
  have hN := U.n
  have hsl := U.sl
  refine ⟨_, (pss_cons (ps_asg (pv 1) (pg_tup rfl (pgs_cons (pg_name (i := 2) scGoSeq.nd rfl (Or.inl rfl)) (pgs_cons (pg_name (i := 3) scGoSeq.nd rfl (Or.inl rfl)) (pgs_cons (pg_name (i := 4) scGoSeq.nd rfl (Or.inl rfl)) (pgs_cons (pg_name (i := 5) scGoSeq.nd rfl (Or.inl rfl)) pgs_nil))))))
    (pss_one (ps_expr (C8.pe_c c_go_on_with_head hr (by decide) rfl (pa_cons (pv 0) (pa_cons (pv 3) (pa_cons (pv 4) (pa_cons (pv 5) pa_nil)))))))), ?_⟩
  have nno : ∀ {z w' : Str} {A B : Prop}, z ≠ w' → A → if (!decide (V.str z = V.str w')) = true then A else B := fun h hb => by rw [wne h]; exact iteT hb
  have nyes : ∀ {z : Str} {A B : Prop}, B → if (!decide (V.str z = V.str z)) = true then A else B := fun hb => by rw [wtt]; exact iteF hb
  have stuckQ : upA g h stk evs = .stuck → Q (.ref aS) H := fun hu => by
    refine q _ _ (fun _ _ _ _ _ e => e) ?_
    rw [hu]
    exact ⟨⟨aS, rfl, T.sSTUCK _⟩, U.stuck⟩
  obtain ⟨ha, hxs0, hve, hha⟩ := hdP_word U.hp
  obtain ⟨x, b, e, rfl⟩ := hki
  obtain ⟨a, bv, d, rfl, hga, hb, hrd⟩ := hg
  refine ⟨_, rfl, a, _, rfl, SqT.of hga, rfl, _, _, rfl, _, _, rfl, _, _, rfl, _, _, rfl, rfl, ?_⟩
  refine ⟨_, rfl, _, rfl, _, rfl, _, rfl, p, st, dx, d, tm, ar, hv, bv, r, N, gl, h, stk, evs, x, b, e, rfl, U, hb, hrd, fun H' k' hm' => ?_⟩
  exact q _ _ k' ⟨rfl, hm'⟩
abbrev sGoApply : Stmt := topS 18
theorem scGoApply : FnScope ["machine", "frame", "head", "inner"] ["machine", "frame"] (defScope sGoApply) := ⟨rfl, rfl, rfl, by decide +kernel, rfl, by decide +kernel, by decide +kernel⟩
theorem c_apply {f : Addr} {fd : FuncData} (T : TxtEc K mg C aS aN) (cbegin : C8.Met P w K mg base 1 C "begin" (spBegin C) []) (F : Fun K "_apply" "_apply" sGoApply f fd) (b : Binds K fd ["machine", "frame"] []) (hm : mg "_apply" = some (.ref f)) : C8.Cal P w K mg base 2 "_apply" (spCt K C (fun g => ∃ t e, g = .arg t e)) [] := by
  refine cal_of F hm b scGoApply (fun vs H Q E h => ?_) (fun cdv A outer s H vs Q E hr h => ?_)
  · obtain ⟨p, st, dx, tm, ar, hv, gv, r, N, gl, g, h, stk, evs, rfl, _⟩ := h
    rfl
  obtain ⟨p, st, dx, tm, ar, hv, gv, r, N, gl, g, h, stk, evs, rfl, hki, U, hg, hgo, q⟩ := h
  have hu := hu_of hr
  have hbig : (16700000 : Nat) < sizeLine := by decide
  have hN := U.n
  have hsl := U.sl
  refine ⟨_, (pss_cons (ps_set (i := 2) scGoApply.nd rfl (Or.inl rfl) (pe_fld (pv 0) rfl))
    (pss_cons (ps_if (pt_cmpR op_ne (pe_ix ix_tup (pv 2) pe_int (fun _ _ => rfl)) pe_str (nomark _))
      (pss_one (ps_ret (C8.pe_gc rfl T.gSTUCK)))
      pss_nil)
    (pss_cons (ps_set (i := 3) scGoApply.nd rfl (Or.inl rfl) (pe_callTy call_dictD rfl T.zdict boot_dict (pa_cons (pe_ix ix_tup (pv 2) pe_int (fun _ _ => rfl)) pa_nil)))
    (pss_cons (ps_dput hu (pv 3) (pe_ix ix_tup (pv 2) pe_int (fun _ _ => rfl)) (pe_tup (pa_cons pe_str (pa_cons (pe_ix ix_tup (pv 1) pe_int (fun _ _ => rfl)) (pa_cons (pe_ix ix_tup (pv 1) pe_int (fun _ _ => rfl)) pa_nil)))) rfl)
    (pss_cons (ps_expr (C8.pe_mt cbegin hr (by decide) (pv 0) (pa_cons (pe_ix ix_tup (pv 2) pe_int (fun _ _ => rfl)) (pa_cons (pv 3) pa_nil))))
    (pss_one (ps_ret pe_non))))))), ?_⟩
  have nno : ∀ {z w' : Str} {A B : Prop}, z ≠ w' → A → if (!decide (V.str z = V.str w')) = true then A else B := fun h hb => by rw [wne h]; exact iteT hb
  have nyes : ∀ {z : Str} {A B : Prop}, B → if (!decide (V.str z = V.str z)) = true then A else B := fun hb => by rw [wtt]; exact iteF hb
  have stuckQ : upA g h stk evs = .stuck → Q (.ref aS) H := fun hu => by
    refine q _ _ (fun _ _ _ _ _ e => e) ?_
    rw [hu]
    exact ⟨⟨aS, rfl, T.sSTUCK _⟩, U.stuck⟩
  obtain ⟨ha, hxs0, hve, hha⟩ := hdP_word U.hp
  obtain ⟨t, e, rfl⟩ := hki
  obtain ⟨a, tv, d, rfl, hga, ht, hrd⟩ := hg
  subst hve
  refine ⟨_, rfl, p.mo, C, dx, _, _, rfl, U.o, T.cl, T.n_head, fE_head .., ?_⟩
  refine ⟨_, rfl, ha, _, 0, _, rfl, rfl, SqT.of hha, at0 _ _, rfl, _, rfl, ?_⟩
  show if (!decide (V.str h.word = V.str "fun")) = true then _ else _
  cases h with
  | num i => exact nno (show ("num" : Str) ≠ "fun" by decide +kernel) (stuckQ rfl)
  | con tg l e2 => exact nno (show ("con" : Str) ≠ "fun" by decide +kernel) (stuckQ rfl)
  | fn x b e2 =>
    refine nyes ?_
    obtain ⟨_, bv, d2, e0, hha2, hb2, hr2⟩ := U.hp
    cases e0
    obtain ⟨kvs, hdk, hkl, hent⟩ := U.b.r d2 e2 hr2
    refine ⟨_, rfl, ha, _, 3, _, rfl, rfl, SqT.of hha2, at3 _ _ _ _ _, d2, kvs, rfl, Rd.of hdk, fun n hnn => ?_⟩
    have s1 := same_new hnn (.dK kvs)
    have e1 : upd H n (.dK kvs) n = some (.dK kvs) := upd_same
    generalize upd H n (.dK kvs) = H1 at s1 e1 ⊢
    have hga1 := s1 _ _ hga
    have hha1 := s1 _ _ hha2
    refine ⟨_, rfl, a, _, 1, _, rfl, rfl, SqT.of hga1, at1 _ _ _, _, rfl, a, _, 2, _, rfl, rfl, SqT.of hga1, at2 _ _ _ _, by show 3 ≤ sizeLine; decide, fun t8 ht8 => ?_⟩
    have s8 := same_new ht8 (.tup [.str "term", tv, .ref d])
    have e8 : upd H1 t8 (.tup [.str "term", tv, .ref d]) t8 = some (.tup [.str "term", tv, .ref d]) := upd_same
    generalize upd H1 t8 (.tup [.str "term", tv, .ref d]) = H2 at s8 e8 ⊢
    refine ⟨_, rfl, _, rfl, ha, _, 1, _, rfl, rfl, SqT.of (s8 _ _ hha1), at1 _ _ _, n, _, rfl, DPut.k (k := Sum.inr x) (s8 _ _ e1) (by omega), ?_⟩
    have f9 : Fr F0 H2 (upd H2 n (.dK (putK kvs (Sum.inr x) (.ref t8)))) := ⟨fun b xs e => by rw [upd_ne (fun z => by rw [z, s8 _ _ e1] at e; cases e)]; exact e, fun b zs h _ => h.elim⟩
    have s9 : Same H (upd H2 n (.dK (putK kvs (Sum.inr x) (.ref t8)))) := fun b u e => by rw [upd_ne (ne_of_none e hnn)]; exact s8 _ _ (s1 _ _ e)
    have hle : Rle r (r.put n (.bind x t e e2)) := Rho.put_le (U.b.r.off hnn)
    have he2 : EnvP (upd H2 n (.dK (putK kvs (Sum.inr x) (.ref t8)))) (r.put n (.bind x t e e2)) (N + 40000) n (.bind x t e e2) := ⟨_, upd_same, Nat.le_trans (length_putK ..) (by omega), fun s => by
      rw [Env.look]
      by_cases c : x = s
      · rw [if_pos c]
        exact ⟨t8, tv, d, by rw [valV_put, if_pos (by rw [c])], f9.1 _ _ e8, ht.keep (fr_same s9), hle _ _ hrd⟩
      · rw [if_neg c]
        exact ((hent s).keep (fr_same s9) hle).cong (by rw [valV_put, if_neg (fun z => c (Sum.inr.inj z).symm)])⟩
    obtain ⟨m1, hm1⟩ := U.begun hnn s9 he2 (hb2.keep (fr_same s9))
    refine ⟨_, rfl, p.mo, dx, _, rfl, s9 _ _ U.o, fE_no_begin .., _, rfl, ha, _, 2, _, rfl, rfl, SqT.of (s9 _ _ hha2), at2 _ _ _ _, _, rfl, p, st, _, _, _, bv, .ref n, dx, rfl, s9 _ _ U.o, ?_⟩
    exact q _ _ m1 ⟨rfl, hm1⟩
abbrev sGoSecond : Stmt := topS 24
theorem scGoSecond : FnScope ["machine", "frame", "_", "sign", "second", "around"] ["machine", "frame"] (defScope sGoSecond) := ⟨rfl, rfl, rfl, by decide +kernel, rfl, by decide +kernel, by decide +kernel⟩
theorem c_go_on_with_second {f : Addr} {fd : FuncData} (T : TxtEc K mg C aS aN) (cbegin : C8.Met P w K mg base 1 C "begin" (spBegin C) []) (F : Fun K "_go_on_with_second" "_go_on_with_second" sGoSecond f fd) (b : Binds K fd ["machine", "frame"] []) (hm : mg "_go_on_with_second" = some (.ref f)) : C8.Cal P w K mg base 2 "_go_on_with_second" (spCt K C (fun g => ∃ s t e, g = .snd s t e)) [] := by
  refine cal_of F hm b scGoSecond (fun vs H Q E h => ?_) (fun cdv A outer s H vs Q E hr h => ?_)
  · obtain ⟨p, st, dx, tm, ar, hv, gv, r, N, gl, g, h, stk, evs, rfl, _⟩ := h
    rfl
  obtain ⟨p, st, dx, tm, ar, hv, gv, r, N, gl, g, h, stk, evs, rfl, hki, U, hg, hgo, q⟩ := h
  have hu := hu_of hr
  have hbig : (16700000 : Nat) < sizeLine := by decide
  have hN := U.n
  have hsl := U.sl
  refine ⟨_, (pss_cons (ps_asg (pv 1) (pg_tup rfl (pgs_cons (pg_name (i := 2) scGoSecond.nd rfl (Or.inl rfl)) (pgs_cons (pg_name (i := 3) scGoSecond.nd rfl (Or.inl rfl)) (pgs_cons (pg_name (i := 4) scGoSecond.nd rfl (Or.inl rfl)) (pgs_cons (pg_name (i := 5) scGoSecond.nd rfl (Or.inl rfl)) pgs_nil))))))
    (pss_cons (ps_if (pt_cmpR op_ne (pe_ix ix_tup (pe_fld (pv 0) rfl) pe_int (fun _ _ => rfl)) pe_str (nomark _))
      (pss_one (ps_ret (C8.pe_gc rfl T.gSTUCK)))
      pss_nil)
    (pss_cons (ps_expr (pe_bm PySem.F.plainAttrs_list PySem.F.slot_list_append PySem.F.type_list_append mt_append (pe_fld (pv 0) rfl) (pa_cons (pe_tup (pa_cons pe_str (pa_cons (pv 3) (pa_cons (pe_ix ix_tup (pe_fld (pv 0) rfl) pe_int (fun _ _ => rfl)) pa_nil)))) pa_nil)))
    (pss_cons (ps_expr (C8.pe_mt cbegin hr (by decide) (pv 0) (pa_cons (pv 4) (pa_cons (pv 5) pa_nil))))
    (pss_one (ps_ret pe_non)))))), ?_⟩
  have nno : ∀ {z w' : Str} {A B : Prop}, z ≠ w' → A → if (!decide (V.str z = V.str w')) = true then A else B := fun h hb => by rw [wne h]; exact iteT hb
  have nyes : ∀ {z : Str} {A B : Prop}, B → if (!decide (V.str z = V.str z)) = true then A else B := fun hb => by rw [wtt]; exact iteF hb
  have stuckQ : upA g h stk evs = .stuck → Q (.ref aS) H := fun hu => by
    refine q _ _ (fun _ _ _ _ _ e => e) ?_
    rw [hu]
    exact ⟨⟨aS, rfl, T.sSTUCK _⟩, U.stuck⟩
  obtain ⟨ha, hxs0, hve, hha⟩ := hdP_word U.hp
  obtain ⟨sg, t, e, rfl⟩ := hki
  obtain ⟨a, tv, d, rfl, hga, ht, hrd⟩ := hg
  subst hve
  refine ⟨_, rfl, a, _, rfl, SqT.of hga, rfl, _, _, rfl, _, _, rfl, _, _, rfl, _, _, rfl, rfl, ?_⟩
  refine ⟨_, rfl, p.mo, C, dx, _, _, rfl, U.o, T.cl, T.n_head, fE_head .., ha, _, 0, _, rfl, rfl, SqT.of hha, at0 _ _, rfl, _, rfl, ?_⟩
  show if (!decide (V.str h.word = V.str "num")) = true then _ else _
  cases h with
  | con tg l e2 => exact nno (show ("con" : Str) ≠ "num" by decide +kernel) (stuckQ rfl)
  | fn x b e2 => exact nno (show ("fun" : Str) ≠ "num" by decide +kernel) (stuckQ rfl)
  | num i =>
    refine nyes ?_
    obtain ⟨_, e0, hha2⟩ := U.hp
    cases e0
    obtain ⟨xs, hsa, hfr⟩ := U.b.s
    have hxl := hfr.len
    refine ⟨_, rfl, p.mo, C, dx, _, .ref p.sa, rfl, U.o, T.cl, T.n_stack, fE_stack .., .inl ⟨rfl, _, SqL.of hsa⟩, _, rfl, _, rfl, p.mo, C, dx, _, .ref ha, rfl, U.o, T.cl, T.n_head, fE_head .., ha, _, 1, _, rfl, rfl, SqT.of hha2, at1 _ _ _, by show 3 ≤ sizeLine; decide, fun t8 ht8 => ?_⟩
    have s8 := same_new ht8 (.tup [.str "first", .str sg, .int i])
    refine ⟨p.sa, _, _, rfl, rfl, s8 _ _ hsa, by omega, ?_⟩
    obtain ⟨b1, k1, m1, e1⟩ := (U.b.same s8).push (s8 _ _ hsa) (g := .fst sg i) (x := .ref t8) ⟨t8, rfl, upd_same⟩
    have ho1 := e1.trans (s8 _ _ U.o)
    obtain ⟨b2, k2, m2⟩ := b1.own (fs' := fE p.td p.fu st p.ea p.sa tv (.ref d) (.ref ha)) ho1
    refine ⟨_, rfl, p.mo, dx, _, rfl, ho1, fE_no_begin .., _, rfl, _, rfl, p, st, _, _, _, tv, .ref d, dx, rfl, ho1, ?_⟩
    exact q _ _ ((KeepM.same s8).trans (m1.trans m2)) ⟨rfl, r, b2.more (by omega), _, _, _, ⟨dx, upd_same⟩, ((ht.keep (fr_same s8)).keep k1.fr).keep k2.fr, d, rfl, hrd⟩
end
end Toy

set_option Elab.async false
set_option linter.all false
set_option maxRecDepth 100000
set_option maxHeartbeats 4000000
/-! Part MR: the program's machine: choices. -/
namespace Toy
open PySem L2
open PyProof.Rows (envOfC)
theorem up_case {rows : List Dd} {dd : Dd} {e : Env} {h : Head} {stk : List Frm} {evs : List Int} : upA (.ch "case" rows dd e) h stk evs = (match h with
      | .con tag args e' => (match rows.find? (caseHit tag args.length) with
        | some q => .go ⟨.ev (nth 2 q) (bindAll (strsOf (nth 1 q)) args e' e), stk, evs⟩
        | none => dfltA dd h e stk evs)
      | _ => .stuck) := by
  unfold upA
  exact if_pos rfl
theorem up_pick {rows : List Dd} {dd : Dd} {e : Env} {h : Head} {stk : List Frm} {evs : List Int} : upA (.ch "pick" rows dd e) h stk evs = (match h with
      | .num i => (match rows.find? (pickHit i) with
        | some q => .go ⟨.ev (nth 1 q) e, stk, evs⟩
        | none => dfltA dd h e stk evs)
      | _ => .stuck) := by
  unfold upA
  exact if_neg (show ¬ ("pick" : Str) = "case" by decide +kernel)
section
variable {P : Program} {w : World} {K : PySem.W.Frag} {mg : Str → Option Value} {base : Heap} {C aS aN : Addr}
abbrev sGoCase : Stmt := topS 21
theorem scGoCase : FnScope ["machine", "frame", "_", "alternatives", "default", "around", "head", "tag", "names", "body", "inner", "name", "argument"] ["machine", "frame"] (defScope sGoCase) := ⟨rfl, rfl, rfl, by decide +kernel, rfl, by decide +kernel, by decide +kernel⟩
theorem c_go_on_with_case {f : Addr} {fd : FuncData} (T : TxtEc K mg C aS aN) (cbegin : C8.Met P w K mg base 1 C "begin" (spBegin C) []) (c_go_on_with_default : C8.Cal P w K mg base 3 "_go_on_with_default" (spGD K C) []) (F : Fun K "_go_on_with_case" "_go_on_with_case" sGoCase f fd) (b : Binds K fd ["machine", "frame"] []) (hm : mg "_go_on_with_case" = some (.ref f)) : C8.Cal P w K mg base 4 "_go_on_with_case" (spCt K C (fun g => ∃ rows d e, g = .ch "case" rows d e)) [] := by
  refine cal_of F hm b scGoCase (fun vs H Q E h => ?_) (fun cdv A outer s H vs Q E hr h => ?_)
  · obtain ⟨p, st, dx, tm, ar, hv, gv, r, N, gl, g, h, stk, evs, rfl, _⟩ := h
    rfl
  obtain ⟨p, st, dx, tm, ar, hv, gv, r, N, gl, g, h, stk, evs, rfl, hki, U, hg, hgo, q⟩ := h
  have hu := hu_of hr
  have hbig : (16700000 : Nat) < sizeLine := by decide
  have hN := U.n
  have hsl := U.sl
  refine ⟨_, (pss_cons (ps_asg (pv 1) (pg_tup rfl (pgs_cons (pg_name (i := 2) scGoCase.nd rfl (Or.inl rfl)) (pgs_cons (pg_name (i := 3) scGoCase.nd rfl (Or.inl rfl)) (pgs_cons (pg_name (i := 4) scGoCase.nd rfl (Or.inl rfl)) (pgs_cons (pg_name (i := 5) scGoCase.nd rfl (Or.inl rfl)) pgs_nil))))))
    (pss_cons (ps_set (i := 6) scGoCase.nd rfl (Or.inl rfl) (pe_fld (pv 0) rfl))
    (pss_cons (ps_if (pt_cmpR op_ne (pe_ix ix_tup (pv 6) pe_int (fun _ _ => rfl)) pe_str (nomark _))
      (pss_one (ps_ret (C8.pe_gc rfl T.gSTUCK)))
      pss_nil)
    (pss_cons (ps_for PassesOwn.never rfl (pi_tup (pv 3)) (pg_tup rfl (pgs_cons (pg_name (i := 7) scGoCase.nd rfl (Or.inl rfl)) (pgs_cons (pg_name (i := 8) scGoCase.nd rfl (Or.inl rfl)) (pgs_cons (pg_name (i := 9) scGoCase.nd rfl (Or.inl rfl)) pgs_nil))))
      (pss_one (ps_if (PW.pt (pw_and (pt_cmpR op_eq (pv 7) (pe_ix ix_tup (pv 6) pe_int (fun _ _ => rfl)) (nomark _)) (pw_and1 (pt_cmpR op_eq (pe_callB call_len_seq rfl T.zlen PySem.boot_len (pa_cons (pv 8) pa_nil)) (pe_callB call_len_seq rfl T.zlen PySem.boot_len (pa_cons (pe_ix ix_tup (pv 6) pe_int (fun _ _ => rfl)) pa_nil)) (nomark _)))))
      (pss_cons (ps_set (i := 10) scGoCase.nd rfl (Or.inl rfl) (pe_callTy call_dictD rfl T.zdict boot_dict (pa_cons (pv 5) pa_nil)))
    (pss_cons (ps_for PassesOwn.never rfl (Mix.pi_zipG true true rfl T.zzip (pa_cons (pv 8) (pa_cons (pe_ix ix_tup (pv 6) pe_int (fun _ _ => rfl)) pa_nil))) (pg_tup rfl (pgs_cons (pg_name (i := 11) scGoCase.nd rfl (Or.inl rfl)) (pgs_cons (pg_name (i := 12) scGoCase.nd rfl (Or.inl rfl)) pgs_nil)))
      (pss_one (ps_dput hu (pv 10) (pv 11) (pe_tup (pa_cons pe_str (pa_cons (pv 12) (pa_cons (pe_ix ix_tup (pv 6) pe_int (fun _ _ => rfl)) pa_nil)))) rfl)))
    (pss_cons (ps_expr (C8.pe_mt cbegin hr (by decide) (pv 0) (pa_cons (pv 9) (pa_cons (pv 10) pa_nil))))
    (pss_one (ps_ret pe_non)))))
      pss_nil)))
    (pss_one (ps_ret (C8.pe_c c_go_on_with_default hr (by decide) rfl (pa_cons (pv 0) (pa_cons (pv 4) (pa_cons (pv 5) pa_nil)))))))))), ?_⟩
  have nno : ∀ {z w' : Str} {A B : Prop}, z ≠ w' → A → if (!decide (V.str z = V.str w')) = true then A else B := fun h hb => by rw [wne h]; exact iteT hb
  have nyes : ∀ {z : Str} {A B : Prop}, B → if (!decide (V.str z = V.str z)) = true then A else B := fun hb => by rw [wtt]; exact iteF hb
  have stuckQ : upA g h stk evs = .stuck → Q (.ref aS) H := fun hu => by
    refine q _ _ (fun _ _ _ _ _ e => e) ?_
    rw [hu]
    exact ⟨⟨aS, rfl, T.sSTUCK _⟩, U.stuck⟩
  obtain ⟨ha, hxs0, hve, hha⟩ := hdP_word U.hp
  obtain ⟨rows, dd, e, rfl⟩ := hki
  obtain ⟨a, pr, rxs, dv, d, rfl, hga, hpr, hrx, hdd, hrd⟩ := hg
  obtain ⟨-, ⟨f0, htt, hsz⟩, heo⟩ := hgo
  subst hve
  have hrxl := ats_len hrx
  have hrl : rows.length ≤ 1000000 := by
    have h2 := szs_len rows
    simp only [Dd.sz, Dd.szs] at hsz
    omega
  have hvw := vw_of (show formW "case" [f0, .tup rows, dd] = true from (tt_parts htt).1)
  refine ⟨_, rfl, a, _, rfl, SqT.of hga, rfl, _, _, rfl, _, _, rfl, _, _, rfl, _, _, rfl, rfl, ?_⟩
  refine ⟨_, rfl, p.mo, C, dx, _, _, rfl, U.o, T.cl, T.n_head, fE_head .., ?_⟩
  refine ⟨_, rfl, ha, _, 0, _, rfl, rfl, SqT.of hha, at0 _ _, rfl, _, rfl, ?_⟩
  show if (!decide (V.str h.word = V.str "con")) = true then _ else _
  have hup := fun stk evs => up_case (rows := rows) (dd := dd) (e := e) (h := h) (stk := stk) (evs := evs)
  cases h with
  | num i => exact nno (show ("num" : Str) ≠ "con" by decide +kernel) (stuckQ (hup _ _))
  | fn x b e2 => exact nno (show ("fun" : Str) ≠ "con" by decide +kernel) (stuckQ (hup _ _))
  | con tg l e2 =>
    refine nyes ?_
    cases hvw with
    | @case _ _ _ hrw hdf =>
    rw [hup] at q
    dsimp only at q
    have hho := U.hk
    rw [Head.ok] at hho
    obtain ⟨_, lp, lxs, d2, e0, hha2, hlp, hlx, hr2⟩ := U.hp
    cases e0
    have hlxl := ats_len hlx
    obtain ⟨kvs, hdk, hkl, hent⟩ := U.b.r d e hrd
    refine ⟨_, rfl, pr, rfl, ⟨_, SqT.of hpr⟩, for_tup (a := pr) (xs := rxs) (fun i σ G => ∃ (v7 v8 v9 v10 v11 v12 : Option V), σ = [some (.ref p.mo), some (.ref a), some (.str "case"), some (.ref pr), some dv, some (.ref d), some (.ref ha), v7, v8, v9, v10, v11, v12] ∧ G = H ∧ (rows.drop i).find? (caseHit tg l.length) = rows.find? (caseHit tg l.length))
      ⟨_, _, _, _, _, _, rfl, rfl, rfl⟩ (fun i σ G _ ⟨_, _, _, _, _, _, _, h, _⟩ => by rw [h]; exact SqT.of hpr) ?_ ?_⟩
    · rintro i x σ G hx ⟨v7, v8, v9, v10, v11, v12, rfl, rfl, hfd⟩
      obtain ⟨qq, hq, hqa⟩ := ats_get hrx hx
      obtain ⟨ti, ns, bb, rfl, hnd, hnn⟩ := hrw qq (List.mem_of_getElem? hq)
      rw [drop_at hq, List.find?_cons] at hfd
      obtain ⟨tt, ws, rfl, htt, y1, w1, rfl, hy1, y2, w2, rfl, hy2, y3, w3, rfl, hy3, hn⟩ := hqa
      cases (show w3 = [] from hn)
      cases (show y1 = .int ti from hy1)
      obtain ⟨np, nxs, rfl, hnp, hnx⟩ := hy2
      obtain ⟨rfl, hns⟩ := ats_strs_eq hnx
      refine ⟨tt, _, rfl, SqT.of htt, rfl, _, _, rfl, _, _, rfl, _, _, rfl, rfl, ?_⟩
      refine ⟨_, rfl, _, rfl, ha, _, 1, _, rfl, rfl, SqT.of hha2, at1 _ _ _, rfl, _, rfl, ?_⟩
      have hhit : caseHit tg l.length (.tup [.int ti, nameT ns, bb]) = (decide (ti = tg) && decide (ns.length = l.length)) := by
        show (decide (ti = tg) && decide ((ns.map Dd.str).length = l.length)) = _
        rw [List.length_map]
      rw [hhit] at hfd
      by_cases c1 : ti = tg
      · rw [show decide (V.int ti = V.int tg) = true from decide_eq_true (by rw [c1])]
        refine iteT ?_
        refine ⟨_, rfl, np, _, rfl, .inr (SqT.of hnp), _, rfl, ha, _, 2, _, rfl, rfl, SqT.of hha2, at2 _ _ _ _, lp, _, rfl, .inr (SqT.of hlp), rfl, _, rfl, ?_⟩
        rw [List.length_map, hlxl]
        by_cases c2 : ns.length = l.length
        · rw [show decide (V.int ((ns.length : Nat) : Int) = V.int ((l.length : Nat) : Int)) = true from decide_eq_true (by rw [c2])]
          refine iteT ?_
          rw [decide_eq_true c1, decide_eq_true c2] at hfd
          have hfd : some (Dd.tup [.int ti, nameT ns, bb]) = rows.find? (caseHit tg l.length) := hfd
          refine ⟨_, rfl, d, kvs, rfl, Rd.of hdk, fun n hnn1 => ?_⟩
          have s1 := same_new hnn1 (.dK kvs)
          have e1 : upd G n (.dK kvs) n = some (.dK kvs) := upd_same
          generalize upd G n (.dK kvs) = H1 at s1 e1 ⊢
          refine ⟨_, rfl, _, rfl, ha, _, 2, _, rfl, rfl, SqT.of (s1 _ _ hha2), at2 _ _ _ _, np, lp, _, _, rfl, SqT.of (s1 _ _ hnp), SqT.of (s1 _ _ hlp), ?_⟩
          refine Mix.for_zipG (c := true) (d := true) (xs := ns.map V.str) (ys := lxs) (by rw [List.length_map]; omega)
            (fun (k : Nat) σ G' => ∃ (ek : Env) (ks : List (Key × V)) (w11 w12 : Option V), σ = [some (.ref p.mo), some (.ref a), some (.str "case"), some (.ref pr), some dv, some (.ref d), some (.ref ha), some (.int ti), some (.ref np), some y3, some (.ref n), w11, w12] ∧ Same G G' ∧ G' n = some (.dK ks) ∧ ks.length ≤ N + k ∧ (∀ s, EntP G' r ks s (ek.look s)) ∧ bindAll (ns.drop k) (l.drop k) e2 ek = bindAll ns l e2 e)
            ⟨e, kvs, _, _, rfl, s1, e1, hkl, fun s => (hent s).keep (fr_same s1) (Rle.refl r), rfl⟩ (fun k σ G' ⟨_, _, _, _, _, h, _⟩ => ⟨SqT.of (h _ _ hnp), SqT.of (h _ _ hlp)⟩) ?_ ?_
          · rintro k x y T σ G' hxk hyk ⟨ek, ks, w11, w12, rfl, sG, eG, kl, hks, hba⟩ hT
            rw [List.getElem?_map] at hxk
            obtain ⟨nk, hnk, rfl⟩ := Option.map_eq_some_iff.mp hxk
            obtain ⟨lk, hlk, hly⟩ := ats_get hlx hyk
            have hkn := (List.getElem?_eq_some_iff.mp hnk).1
            rw [drop_at hnk, drop_at hlk, bindAll_at] at hba
            have sT := same_new hT (.tup [.str nk, y])
            have eT : upd G' T (.tup [.str nk, y]) T = some (.tup [.str nk, y]) := upd_same
            generalize upd G' T (.tup [.str nk, y]) = G2 at sT eT ⊢
            have sG2 := sameT sG sT
            refine ⟨T, _, rfl, SqT.of eT, rfl, _, _, rfl, _, _, rfl, rfl, ?_⟩
            refine ⟨_, rfl, _, rfl, ha, _, 3, _, rfl, rfl, SqT.of (sG2 _ _ hha2), at3 _ _ _ _ _, by show 3 ≤ sizeLine; decide, fun t8 ht8 => ?_⟩
            have s8 := same_new ht8 (.tup [.str "term", y, .ref d2])
            have e8 : upd G2 t8 (.tup [.str "term", y, .ref d2]) t8 = some (.tup [.str "term", y, .ref d2]) := upd_same
            generalize upd G2 t8 (.tup [.str "term", y, .ref d2]) = G3 at s8 e8 ⊢
            have eG3 := s8 _ _ (sT _ _ eG)
            refine ⟨_, rfl, _, rfl, n, _, rfl, DPut.k (k := Sum.inr nk) eG3 (by omega), ?_⟩
            have f9 : Fr F0 G3 (upd G3 n (.dK (putK ks (Sum.inr nk) (.ref t8)))) := ⟨fun b xs e => by rw [upd_ne (fun z => by rw [z, eG3] at e; cases e)]; exact e, fun b zs h _ => h.elim⟩
            have s9 : Same G (upd G3 n (.dK (putK ks (Sum.inr nk) (.ref t8)))) := fun b u e => by rw [upd_ne (ne_of_none e hnn1)]; exact s8 _ _ (sG2 _ _ e)
            refine ⟨.bind nk lk e2 ek, _, _, _, rfl, s9, upd_same, Nat.le_trans (length_putK ..) (by omega), fun s => ?_, hba⟩
            rw [Env.look]
            by_cases c : nk = s
            · rw [if_pos c]
              exact ⟨t8, y, d2, by rw [valV_put, if_pos (by rw [c])], f9.1 _ _ e8, hly.keep (fr_same s9), hr2⟩
            · rw [if_neg c]
              exact ((hks s).keep ((fr_same (B := F0) (sameT sT s8)).trans f9) (Rle.refl r)).cong (by rw [valV_put, if_neg (fun z => c (Sum.inr.inj z).symm)])
          · rintro σ G' ⟨ek, ks, w11, w12, rfl, sG, eG, kl, hks, hba⟩
            rw [List.length_map] at kl hba
            rw [List.drop_length, bindAll_nil] at hba
            have he2 : EnvP G' (r.put n ek) (N + 40000) n ek := ⟨ks, eG, by omega, fun s => (hks s).keep ⟨fun _ _ e => e, fun _ _ h _ => h.elim⟩ (Rho.put_le (U.b.r.off hnn1))⟩
            obtain ⟨m1, hm1⟩ := U.begun hnn1 sG he2 (hy3.keep (fr_same sG))
            refine ⟨_, rfl, p.mo, dx, _, rfl, sG _ _ U.o, fE_no_begin .., _, rfl, _, rfl, p, st, _, _, _, y3, .ref n, dx, rfl, sG _ _ U.o, ?_⟩
            refine q _ _ m1 ?_
            rw [← hfd]
            refine ⟨rfl, ?_⟩
            show ∃ r', MAt C _ r' (N + 40000) p gl st ⟨.ev bb (bindAll ((ns.map Dd.str).map strOf) l e2 e), stk, evs⟩
            rw [show (ns.map Dd.str).map strOf = ns by rw [List.map_map]; exact List.map_id _, ← hba]
            exact hm1
        · rw [show decide (V.int ((ns.length : Nat) : Int) = V.int ((l.length : Nat) : Int)) = false from decide_eq_false fun e => c2 (by have := V.int.inj e; omega)]
          refine iteF ?_
          rw [decide_eq_false c2, Bool.and_false] at hfd
          exact ⟨_, _, _, _, _, _, rfl, rfl, hfd⟩
      · rw [show decide (V.int ti = V.int tg) = false from decide_eq_false fun e => c1 (V.int.inj e)]
        refine iteF ?_
        refine iteF ?_
        rw [decide_eq_false c1, Bool.false_and] at hfd
        exact ⟨_, _, _, _, _, _, rfl, rfl, hfd⟩
    · rintro σ G ⟨v7, v8, v9, v10, v11, v12, rfl, rfl, hfd⟩
      rw [hrxl, List.drop_length] at hfd
      have hfd : rows.find? (caseHit tg l.length) = none := hfd.symm
      rw [hfd] at q
      exact ⟨_, rfl, _, rfl, _, rfl, p, st, dx, d, tm, ar, .ref ha, dv, r, N, gl, .con tg l e2, stk, evs, dd, e, rfl, U, hdd, hdf, hrd, q⟩
abbrev sGoPick : Stmt := topS 22
theorem scGoPick : FnScope ["machine", "frame", "_", "alternatives", "default", "around", "number", "body"] ["machine", "frame"] (defScope sGoPick) := ⟨rfl, rfl, rfl, by decide +kernel, rfl, by decide +kernel, by decide +kernel⟩
theorem c_go_on_with_pick {f : Addr} {fd : FuncData} (T : TxtEc K mg C aS aN) (cbegin : C8.Met P w K mg base 1 C "begin" (spBegin C) []) (c_go_on_with_default : C8.Cal P w K mg base 3 "_go_on_with_default" (spGD K C) []) (F : Fun K "_go_on_with_pick" "_go_on_with_pick" sGoPick f fd) (b : Binds K fd ["machine", "frame"] []) (hm : mg "_go_on_with_pick" = some (.ref f)) : C8.Cal P w K mg base 4 "_go_on_with_pick" (spCt K C (fun g => ∃ rows d e, g = .ch "pick" rows d e)) [] := by
  refine cal_of F hm b scGoPick (fun vs H Q E h => ?_) (fun cdv A outer s H vs Q E hr h => ?_)
  · obtain ⟨p, st, dx, tm, ar, hv, gv, r, N, gl, g, h, stk, evs, rfl, _⟩ := h
    rfl
  obtain ⟨p, st, dx, tm, ar, hv, gv, r, N, gl, g, h, stk, evs, rfl, hki, U, hg, hgo, q⟩ := h
  have hu := hu_of hr
  have hbig : (16700000 : Nat) < sizeLine := by decide
  have hN := U.n
  have hsl := U.sl
  refine ⟨_, (pss_cons (ps_asg (pv 1) (pg_tup rfl (pgs_cons (pg_name (i := 2) scGoPick.nd rfl (Or.inl rfl)) (pgs_cons (pg_name (i := 3) scGoPick.nd rfl (Or.inl rfl)) (pgs_cons (pg_name (i := 4) scGoPick.nd rfl (Or.inl rfl)) (pgs_cons (pg_name (i := 5) scGoPick.nd rfl (Or.inl rfl)) pgs_nil))))))
    (pss_cons (ps_if (pt_cmpR op_ne (pe_ix ix_tup (pe_fld (pv 0) rfl) pe_int (fun _ _ => rfl)) pe_str (nomark _))
      (pss_one (ps_ret (C8.pe_gc rfl T.gSTUCK)))
      pss_nil)
    (pss_cons (ps_for PassesOwn.never rfl (pi_tup (pv 3)) (pg_tup rfl (pgs_cons (pg_name (i := 6) scGoPick.nd rfl (Or.inl rfl)) (pgs_cons (pg_name (i := 7) scGoPick.nd rfl (Or.inl rfl)) pgs_nil)))
      (pss_one (ps_if (pt_cmpR op_eq (pv 6) (pe_ix ix_tup (pe_fld (pv 0) rfl) pe_int (fun _ _ => rfl)) (nomark _))
      (pss_cons (ps_expr (C8.pe_mt cbegin hr (by decide) (pv 0) (pa_cons (pv 7) (pa_cons (pv 5) pa_nil))))
    (pss_one (ps_ret pe_non)))
      pss_nil)))
    (pss_one (ps_ret (C8.pe_c c_go_on_with_default hr (by decide) rfl (pa_cons (pv 0) (pa_cons (pv 4) (pa_cons (pv 5) pa_nil))))))))), ?_⟩
  have nno : ∀ {z w' : Str} {A B : Prop}, z ≠ w' → A → if (!decide (V.str z = V.str w')) = true then A else B := fun h hb => by rw [wne h]; exact iteT hb
  have nyes : ∀ {z : Str} {A B : Prop}, B → if (!decide (V.str z = V.str z)) = true then A else B := fun hb => by rw [wtt]; exact iteF hb
  have stuckQ : upA g h stk evs = .stuck → Q (.ref aS) H := fun hu => by
    refine q _ _ (fun _ _ _ _ _ e => e) ?_
    rw [hu]
    exact ⟨⟨aS, rfl, T.sSTUCK _⟩, U.stuck⟩
  obtain ⟨ha, hxs0, hve, hha⟩ := hdP_word U.hp
  obtain ⟨rows, dd, e, rfl⟩ := hki
  obtain ⟨a, pr, rxs, dv, d, rfl, hga, hpr, hrx, hdd, hrd⟩ := hg
  obtain ⟨-, ⟨f0, htt, hsz⟩, heo⟩ := hgo
  subst hve
  have hrxl := ats_len hrx
  have hrl : rows.length ≤ 1000000 := by
    have h2 := szs_len rows
    simp only [Dd.sz, Dd.szs] at hsz
    omega
  have hvw := vw_of (show formW "pick" [f0, .tup rows, dd] = true from (tt_parts htt).1)
  refine ⟨_, rfl, a, _, rfl, SqT.of hga, rfl, _, _, rfl, _, _, rfl, _, _, rfl, _, _, rfl, rfl, ?_⟩
  refine ⟨_, rfl, p.mo, C, dx, _, _, rfl, U.o, T.cl, T.n_head, fE_head .., ha, _, 0, _, rfl, rfl, SqT.of hha, at0 _ _, rfl, _, rfl, ?_⟩
  show if (!decide (V.str h.word = V.str "num")) = true then _ else _
  have hup := fun stk evs => up_pick (rows := rows) (dd := dd) (e := e) (h := h) (stk := stk) (evs := evs)
  cases h with
  | con tg l e2 => exact nno (show ("con" : Str) ≠ "num" by decide +kernel) (stuckQ (hup _ _))
  | fn x b e2 => exact nno (show ("fun" : Str) ≠ "num" by decide +kernel) (stuckQ (hup _ _))
  | num i0 =>
    refine nyes ?_
    cases hvw with
    | @pick _ _ _ hrw hdf =>
    rw [hup] at q
    dsimp only at q
    obtain ⟨_, e0, hha2⟩ := U.hp
    cases e0
    refine ⟨_, rfl, pr, rfl, ⟨_, SqT.of hpr⟩, for_tup (a := pr) (xs := rxs) (fun i σ G => ∃ (v6 v7 : Option V), σ = [some (.ref p.mo), some (.ref a), some (.str "pick"), some (.ref pr), some dv, some (.ref d), v6, v7] ∧ G = H ∧ (rows.drop i).find? (pickHit i0) = rows.find? (pickHit i0))
      ⟨_, _, rfl, rfl, rfl⟩ (fun i σ G _ ⟨_, _, _, h, _⟩ => by rw [h]; exact SqT.of hpr) ?_ ?_⟩
    · rintro i x σ G hx ⟨v6, v7, rfl, rfl, hfd⟩
      obtain ⟨qq, hq, hqa⟩ := ats_get hrx hx
      obtain ⟨ti, bb, rfl⟩ := hrw qq (List.mem_of_getElem? hq)
      rw [drop_at hq, List.find?_cons] at hfd
      obtain ⟨tt, ws, rfl, htt, y1, w1, rfl, hy1, y3, w3, rfl, hy3, hn⟩ := hqa
      cases (show w3 = [] from hn)
      cases (show y1 = .int ti from hy1)
      refine ⟨tt, _, rfl, SqT.of htt, rfl, _, _, rfl, _, _, rfl, rfl, ?_⟩
      refine ⟨_, rfl, _, rfl, p.mo, C, dx, _, .ref ha, rfl, U.o, T.cl, T.n_head, fE_head .., ha, _, 1, _, rfl, rfl, SqT.of hha2, at1 _ _ _, rfl, _, rfl, ?_⟩
      have hhit : pickHit i0 (.tup [.int ti, bb]) = decide (ti = i0) := rfl
      rw [hhit] at hfd
      by_cases c1 : ti = i0
      · rw [show decide (V.int ti = V.int i0) = true from decide_eq_true (by rw [c1])]
        refine iteT ?_
        rw [decide_eq_true c1] at hfd
        obtain ⟨b2, k2, m2⟩ := U.b.own (fs' := fE p.td p.fu st p.ea p.sa y3 (.ref d) (.ref ha)) U.o
        refine ⟨_, rfl, p.mo, dx, _, rfl, U.o, fE_no_begin .., _, rfl, _, rfl, p, st, _, _, _, y3, .ref d, dx, rfl, U.o, ?_⟩
        refine q _ _ m2 ?_
        rw [← hfd]
        exact ⟨rfl, r, b2.more (by omega), _, _, _, ⟨dx, upd_same⟩, hy3.keep k2.fr, d, rfl, hrd⟩
      · rw [show decide (V.int ti = V.int i0) = false from decide_eq_false fun e => c1 (V.int.inj e)]
        refine iteF ?_
        rw [decide_eq_false c1] at hfd
        exact ⟨_, _, rfl, rfl, hfd⟩
    · rintro σ G ⟨v6, v7, rfl, rfl, hfd⟩
      rw [hrxl, List.drop_length] at hfd
      have hfd : rows.find? (pickHit i0) = none := hfd.symm
      rw [hfd] at q
      exact ⟨_, rfl, _, rfl, _, rfl, p, st, dx, d, tm, ar, .ref ha, dv, r, N, gl, .num i0, stk, evs, dd, e, rfl, U, hdd, hdf, hrd, q⟩
end
end Toy

set_option Elab.async false
set_option linter.all false
set_option maxRecDepth 100000
set_option maxHeartbeats 4000000
/-! Part MS: the program's machine: prims. -/
namespace Toy
open PySem L2
open PyProof.Rows (envOfC)
def ineqs : List Str := ["==", "<", "<="]
def works : List Str := ["+", "-", "*", "div", "mod"]
section
variable {P : Program} {w : World} {K : PySem.W.Frag} {mg : Str → Option Value} {base : Heap} {C aS aN aZ aO : Addr}
abbrev sHolds : Stmt := topS 28
theorem scHolds : FnScope ["sign", "one", "other"] ["sign", "one", "other"] (defScope sHolds) := ⟨rfl, rfl, rfl, by decide +kernel, rfl, by decide +kernel, by decide +kernel⟩
def spHolds : Sp := fun vs H Q _ => ∃ (s : Str) (i j : Int), vs = [.str s, .int i, .int j] ∧ s ∈ ineqs ∧ Q (.bl (holdsA s i j)) H
theorem c_holdsT {f : Addr} {fd : FuncData} (F : Fun K "_holds" "_holds" sHolds f fd) (b : Binds K fd ["sign", "one", "other"] []) (hm : mg "_holds" = some (.ref f)) : C8.Cal P w K mg base 1 "_holds" spHolds [] := by
  refine cal_of F hm b scHolds (fun vs H Q E h => ?_) (fun cdv A outer s H vs Q E hr h => ?_)
  · obtain ⟨s, i, j, rfl, _⟩ := h
    rfl
  obtain ⟨s, i, j, rfl, hs, q⟩ := h
  refine ⟨_, (pss_cons (ps_if (pt_cmpR op_eq (pv 0) pe_str (nomark _))
      (pss_one (ps_ret (pe_cmpR op_eq (pv 1) (pv 2) (nomark _))))
      pss_nil)
    (pss_cons (ps_if (pt_cmpR op_eq (pv 0) pe_str (nomark _))
      (pss_one (ps_ret (pe_cmpR op_lt (pv 1) (pv 2) (nomark _))))
      pss_nil)
    (pss_one (ps_ret (pe_cmpR op_le (pv 1) (pv 2) (nomark _)))))), ?_⟩
  have no : ∀ {z w' : Str} {A B : Prop}, z ≠ w' → B → if decide (V.str z = V.str w') = true then A else B := fun h hb => by rw [wne h]; exact iteF hb
  have yes : ∀ {z : Str} {A B : Prop}, A → if decide (V.str z = V.str z) = true then A else B := fun hb => by rw [wtt]; exact iteT hb
  simp only [ineqs, List.mem_cons, List.not_mem_nil, or_false] at hs
  rcases hs with rfl | rfl | rfl
  · refine ⟨_, rfl, rfl, _, rfl, yes ?_⟩
    have hh : holdsA "==" i j = decide (V.int i = V.int j) := by
      unfold holdsA
      rw [if_pos rfl]
      exact decide_eq_decide.mpr ⟨fun e => by rw [e], fun e => V.int.inj e⟩
    rw [hh] at q
    exact ⟨_, rfl, _, rfl, rfl, q⟩
  · refine ⟨_, rfl, rfl, _, rfl, no (by decide +kernel) ?_⟩
    refine ⟨_, rfl, rfl, _, rfl, yes ?_⟩
    have hh : holdsA "<" i j = decide (i < j) := by
      unfold holdsA
      rw [if_neg (by decide +kernel), if_pos rfl]
    rw [hh] at q
    exact ⟨_, rfl, _, rfl, _, _, rfl, rfl, q⟩
  · refine ⟨_, rfl, rfl, _, rfl, no (by decide +kernel) ?_⟩
    refine ⟨_, rfl, rfl, _, rfl, no (by decide +kernel) ?_⟩
    have hh : holdsA "<=" i j = decide (i ≤ j) := by
      unfold holdsA
      rw [if_neg (by decide +kernel), if_neg (by decide +kernel)]
    rw [hh] at q
    exact ⟨_, rfl, _, rfl, _, _, rfl, rfl, q⟩
abbrev sWorked : Stmt := topS 29
theorem scWorked : FnScope ["sign", "one", "other"] ["sign", "one", "other"] (defScope sWorked) := ⟨rfl, rfl, rfl, by decide +kernel, rfl, by decide +kernel, by decide +kernel⟩
def spWorked : Sp := fun vs H Q _ => ∃ (s : Str) (i j : Int), vs = [.str s, .int i, .int j] ∧ s ∈ works ∧ (-1000000000000000 ≤ i ∧ i ≤ 1000000000000000) ∧ (-1000000000000000 ≤ j ∧ j ≤ 1000000000000000) ∧ (s = "div" ∨ s = "mod" → j ≠ 0) ∧ Q (.int (workA s i j)) H
theorem c_worked {f : Addr} {fd : FuncData} (F : Fun K "_worked_out" "_worked_out" sWorked f fd) (b : Binds K fd ["sign", "one", "other"] []) (hm : mg "_worked_out" = some (.ref f)) : C8.Cal P w K mg base 1 "_worked_out" spWorked [] := by
  refine cal_of F hm b scWorked (fun vs H Q E h => ?_) (fun cdv A outer s H vs Q E hr h => ?_)
  · obtain ⟨s, i, j, rfl, _⟩ := h
    rfl
  obtain ⟨s, i, j, rfl, hs, ⟨hi0, hi1⟩, ⟨hj0, hj1⟩, hj, q⟩ := h
  refine ⟨_, (pss_cons (ps_if (pt_cmpR op_eq (pv 0) pe_str (nomark _))
      (pss_one (ps_ret (pe_op op_add (pv 1) (pv 2))))
      pss_nil)
    (pss_cons (ps_if (pt_cmpR op_eq (pv 0) pe_str (nomark _))
      (pss_one (ps_ret (pe_op op_sub (pv 1) (pv 2))))
      pss_nil)
    (pss_cons (ps_if (pt_cmpR op_eq (pv 0) pe_str (nomark _))
      (pss_one (ps_ret (pe_op op_mul (pv 1) (pv 2))))
      pss_nil)
    (pss_cons (ps_if (pt_cmpR op_eq (pv 0) pe_str (nomark _))
      (pss_one (ps_ret (pe_op op_fdivX (pv 1) (pv 2))))
      pss_nil)
    (pss_one (ps_ret (pe_op op_sub (pv 1) (pe_op op_mul (pv 2) (pe_op op_fdivX (pv 1) (pv 2)))))))))), ?_⟩
  have no : ∀ {z w' : Str} {A B : Prop}, z ≠ w' → B → if decide (V.str z = V.str w') = true then A else B := fun h hb => by rw [wne h]; exact iteF hb
  have yes : ∀ {z : Str} {A B : Prop}, A → if decide (V.str z = V.str z) = true then A else B := fun hb => by rw [wtt]; exact iteT hb
  simp only [works, List.mem_cons, List.not_mem_nil, or_false] at hs
  rcases hs with rfl | rfl | rfl | rfl | rfl
  · refine ⟨_, rfl, rfl, _, rfl, yes ?_⟩
    have hw : workA "+" i j = i + j := by
      unfold workA
      rw [if_pos rfl]
    rw [hw] at q
    exact ⟨_, rfl, _, rfl, _, _, rfl, rfl, q⟩
  · refine ⟨_, rfl, rfl, _, rfl, no (by decide +kernel) ?_⟩
    refine ⟨_, rfl, rfl, _, rfl, yes ?_⟩
    have hw : workA "-" i j = i - j := by
      unfold workA
      rw [if_neg (by decide +kernel), if_pos rfl]
    rw [hw] at q
    exact ⟨_, rfl, _, rfl, _, _, rfl, rfl, q⟩
  · refine ⟨_, rfl, rfl, _, rfl, no (by decide +kernel) ?_⟩
    refine ⟨_, rfl, rfl, _, rfl, no (by decide +kernel) ?_⟩
    refine ⟨_, rfl, rfl, _, rfl, yes ?_⟩
    have hw : workA "*" i j = i * j := by
      unfold workA
      rw [if_neg (by decide +kernel), if_neg (by decide +kernel), if_pos rfl]
    rw [hw] at q
    exact ⟨_, rfl, _, rfl, _, _, rfl, rfl, .inl ⟨by omega, by omega⟩, q⟩
  · refine ⟨_, rfl, rfl, _, rfl, no (by decide +kernel) ?_⟩
    refine ⟨_, rfl, rfl, _, rfl, no (by decide +kernel) ?_⟩
    refine ⟨_, rfl, rfl, _, rfl, no (by decide +kernel) ?_⟩
    refine ⟨_, rfl, rfl, _, rfl, yes ?_⟩
    have hw : workA "div" i j = i.fdiv j := by
      unfold workA
      rw [if_neg (by decide +kernel), if_neg (by decide +kernel), if_neg (by decide +kernel), if_pos rfl]
    rw [hw] at q
    exact ⟨_, rfl, _, rfl, _, _, rfl, rfl, ⟨hj (.inl rfl), log15 hj0 hj1⟩, q⟩
  · refine ⟨_, rfl, rfl, _, rfl, no (by decide +kernel) ?_⟩
    refine ⟨_, rfl, rfl, _, rfl, no (by decide +kernel) ?_⟩
    refine ⟨_, rfl, rfl, _, rfl, no (by decide +kernel) ?_⟩
    refine ⟨_, rfl, rfl, _, rfl, no (by decide +kernel) ?_⟩
    have hw : workA "mod" i j = i - j * i.fdiv j := by
      unfold workA
      rw [if_neg (by decide +kernel), if_neg (by decide +kernel), if_neg (by decide +kernel), if_neg (by decide +kernel)]
      exact Int.fmod_def i j
    rw [hw] at q
    exact ⟨_, rfl, _, rfl, _, rfl, _, rfl, _, _, rfl, rfl, ⟨hj (.inr rfl), log15 hj0 hj1⟩, _, _, rfl, rfl, .inl ⟨by omega, by omega⟩, _, _, rfl, rfl, q⟩
structure TxtPr (K : PySem.W.Frag) (mg : Str → Option Value) (aZ aO : Addr) : Prop where
  gBY_ZERO : ∃ u, mg "BY_ZERO" = some u ∧ RelV (.ref aZ) u
  sBY_ZERO : ∀ H, SqT K H aZ [.str "fault", .str "division by zero"]
  gOVERFLOW : ∃ u, mg "OVERFLOW" = some u ∧ RelV (.ref aO) u
  sOVERFLOW : ∀ H, SqT K H aO [.str "fault", .str "overflow"]
  gLARGEST_NUMBER : ∃ u, mg "LARGEST_NUMBER" = some u ∧ RelV (.int 1000000000000000) u
/-- what a prim gives -/
def ResP (K : PySem.W.Frag) (H : Hp) (o : Out) (v : V) : Prop := match o with
  | .stuck => False
  | .fault s => ∃ a, v = .ref a ∧ SqT K H a [.str "fault", .str s]
  | .go m => (∃ i a, m.ctl = .hd (.num i) ∧ v = .ref a ∧ H a = some (.tup [.str "num", .int i])) ∨ ∃ t a u, m.ctl = .hd (.con t [] .nil) ∧ v = .ref a ∧ H a = some (.tup [.str "con", .int t, .ref u])
abbrev sPrimRes : Stmt := topS 27
theorem scPrimRes : FnScope ["sign", "one", "other", "number"] ["sign", "one", "other"] (defScope sPrimRes) := ⟨rfl, rfl, rfl, by decide +kernel, rfl, by decide +kernel, by decide +kernel⟩
def spPrimR (K : PySem.W.Frag) : Sp := fun vs H Q _ => ∃ (s : Str) (i j : Int), vs = [.str s, .int i, .int j] ∧ s ∈ signs ∧ (-1000000000000000 ≤ i ∧ i ≤ 1000000000000000) ∧ (-1000000000000000 ≤ j ∧ j ≤ 1000000000000000) ∧ ∀ (v' : V) (H' : Hp), Same H H' → ResP K H' (primA s i j [] []) v' → Q v' H'
theorem c_primres {f : Addr} {fd : FuncData} (T : TxtPr K mg aZ aO) (c_holds : C8.Cal P w K mg base 1 "_holds" spHolds []) (c_worked_out : C8.Cal P w K mg base 1 "_worked_out" spWorked []) (F : Fun K "prim_result" "prim_result" sPrimRes f fd) (b : Binds K fd ["sign", "one", "other"] []) (hm : mg "prim_result" = some (.ref f)) : C8.Cal P w K mg base 2 "prim_result" (spPrimR K) [] := by
  refine cal_of F hm b scPrimRes (fun vs H Q E h => ?_) (fun cdv A outer s H vs Q E hr h => ?_)
  · obtain ⟨s, i, j, rfl, _⟩ := h
    rfl
  obtain ⟨s, i, j, rfl, hs, ⟨hi0, hi1⟩, ⟨hj0, hj1⟩, q⟩ := h
  refine ⟨_, (pss_cons (ps_if (pt_cmpR op_in_seq (pv 0) (pe_tup (pa_strs (zs := ["==", "<", "<="]) rfl)) rfl)
      (pss_one (ps_ret (pe_tup (pa_cons pe_str (pa_cons (pe_ifExp (pt_val (C8.pe_c c_holds hr (by decide) rfl (pa_cons (pv 0) (pa_cons (pv 1) (pa_cons (pv 2) pa_nil))))) pe_int pe_int) (pa_cons (pe_tup pa_nil) pa_nil))))))
      pss_nil)
    (C8.pss_cut (ps_if (PW.pt (pw_and (pt_cmpR op_in_seq (pv 0) (pe_tup (pa_cons pe_str (pa_cons pe_str pa_nil))) rfl) (pw_and1 (pt_cmpR op_eq (pv 2) pe_int (nomark _)))))
      (pss_one (ps_ret (C8.pe_gc rfl T.gBY_ZERO)))
      pss_nil)
    (pss_cons (ps_set (i := 3) scPrimRes.nd rfl (Or.inl rfl) (C8.pe_c c_worked_out hr (by decide) rfl (pa_cons (pv 0) (pa_cons (pv 1) (pa_cons (pv 2) pa_nil)))))
    (pss_cons (ps_if (pt_not (pt_chain op_le op_le (pe_un un_neg (C8.pe_gc rfl T.gLARGEST_NUMBER)) (pv 3) (C8.pe_gc rfl T.gLARGEST_NUMBER)))
      (pss_one (ps_ret (C8.pe_gc rfl T.gOVERFLOW)))
      pss_nil)
    (pss_one (ps_ret (pe_tup (pa_cons pe_str (pa_cons (pv 3) pa_nil))))))))), ?_⟩
  refine ⟨_, rfl, by show 3 ≤ sizeLine; decide, fun t1 ht1 => ?_⟩
  have s1 := same_new ht1 (.tup ([("==" : Str), "<", "<="].map V.str))
  have e1 : upd H t1 (.tup ([("==" : Str), "<", "<="].map V.str)) t1 = some (.tup ([("==" : Str), "<", "<="].map V.str)) := upd_same
  refine ⟨t1, _, rfl, .inr (SqT.of e1), rfl, flat_strs _, ?_⟩
  rw [show (if false = true then !inV (.str s) ([("==" : Str), "<", "<="].map V.str) else inV (.str s) ([("==" : Str), "<", "<="].map V.str)) = decide (s ∈ ineqs) by rw [if_neg (by decide), inV_strs]; rfl]
  refine ⟨_, rfl, ?_⟩
  generalize upd H t1 (.tup ([("==" : Str), "<", "<="].map V.str)) = H1 at s1 ⊢
  have hP : primA s i j [] [] = (if s = "==" ∨ s = "<" ∨ s = "<=" then .go ⟨.hd (.con (if holdsA s i j = true then 1 else 0) [] .nil), [], []⟩ else if (s = "div" ∨ s = "mod") ∧ j = 0 then .fault "division by zero" else if -1000000000000000 ≤ workA s i j ∧ workA s i j ≤ 1000000000000000 then .go ⟨.hd (.num (workA s i j)), [], []⟩ else .fault "overflow") := rfl
  have hmem : s ∈ ineqs ↔ (s = "==" ∨ s = "<" ∨ s = "<=") := by simp [ineqs]
  by_cases hc : s ∈ ineqs
  · rw [decide_eq_true hc]
    refine iteT ?_
    rw [if_pos (hmem.mp hc)] at hP
    have con : ∀ (n : Int), primA s i j [] [] = .go ⟨.hd (.con n [] .nil), [], []⟩ → ∀ u, H1 u = none → ∀ t, upd H1 u (.tup []) t = none → Q (.ref t) (upd (upd H1 u (.tup [])) t (.tup [.str "con", .int n, .ref u])) := fun n hb u hu t ht => by
      have su := same_new hu (.tup [])
      have st := same_new ht (.tup [.str "con", .int n, .ref u])
      refine q _ _ (sameT s1 (sameT su st)) ?_
      rw [hb]
      exact .inr ⟨n, t, u, rfl, rfl, upd_same⟩
    refine ⟨_, rfl, _, rfl, _, rfl, s, i, j, rfl, hc, _, rfl, ?_⟩
    refine ite2 (fun h => ?_) (fun h => ?_)
    · rw [if_pos h] at hP
      exact ⟨by show 0 ≤ sizeLine; decide, fun u hu => ⟨by show 3 ≤ sizeLine; decide, fun t ht => con 1 hP u hu t ht⟩⟩
    · rw [if_neg h] at hP
      exact ⟨by show 0 ≤ sizeLine; decide, fun u hu => ⟨by show 3 ≤ sizeLine; decide, fun t ht => con 0 hP u hu t ht⟩⟩
  · rw [decide_eq_false hc]
    refine iteF ?_
    rw [if_neg (fun h => hc (hmem.mpr h))] at hP
    have hwk : s ∈ works := by
      simp only [signs, List.mem_cons, List.not_mem_nil, or_false] at hs
      simp only [ineqs, List.mem_cons, List.not_mem_nil, or_false, not_or] at hc
      simp only [works, List.mem_cons, List.not_mem_nil, or_false]
      rcases hs with h | h | h | h | h | h | h | h
      · exact .inl h
      · exact .inr (.inl h)
      · exact .inr (.inr (.inl h))
      · exact .inr (.inr (.inr (.inl h)))
      · exact .inr (.inr (.inr (.inr h)))
      · exact absurd h hc.1
      · exact absurd h hc.2.1
      · exact absurd h hc.2.2
    refine ⟨fun σ' G => σ' = [some (.str s), some (.int i), some (.int j), none] ∧ Same H1 G ∧ ¬ ((s = "div" ∨ s = "mod") ∧ j = 0), ?_, ?_⟩
    · refine ⟨_, rfl, by show 2 ≤ sizeLine; decide, fun t2 ht2 => ?_⟩
      have s2 := same_new ht2 (.tup [.str "div", .str "mod"])
      have e2 : upd H1 t2 (.tup [.str "div", .str "mod"]) t2 = some (.tup ([("div" : Str), "mod"].map V.str)) := upd_same
      have s12 := sameT s1 s2
      generalize upd H1 t2 (.tup [.str "div", .str "mod"]) = H2 at s2 e2 s12 ⊢
      refine ⟨t2, _, rfl, .inr (SqT.of e2), rfl, flat_strs _, ?_⟩
      rw [show (if false = true then !inV (.str s) ([("div" : Str), "mod"].map V.str) else inV (.str s) ([("div" : Str), "mod"].map V.str)) = decide (s = "div" ∨ s = "mod") by rw [if_neg (by decide), inV_strs]; exact decide_eq_decide.mpr (by simp)]
      refine ⟨_, rfl, ?_⟩
      by_cases hd : s = "div" ∨ s = "mod"
      · rw [decide_eq_true hd]
        refine iteT ?_
        refine ⟨_, rfl, rfl, _, rfl, ?_⟩
        by_cases hj : j = 0
        · rw [show decide (V.int j = V.int 0) = true from decide_eq_true (by rw [hj])]
          refine iteT ?_
          rw [if_pos ⟨hd, hj⟩] at hP
          refine q _ _ s12 ?_
          rw [hP]
          exact ⟨aZ, rfl, T.sBY_ZERO _⟩
        · rw [show decide (V.int j = V.int 0) = false from decide_eq_false fun e => hj (V.int.inj e)]
          refine iteF ?_
          exact ⟨rfl, s2, fun h => hj h.2⟩
      · rw [decide_eq_false hd]
        refine iteF ?_
        refine iteF ?_
        exact ⟨rfl, s2, fun h => hd h.1⟩
    · rintro _ G ⟨rfl, sG, hz⟩
      have s12 := sameT s1 sG
      rw [if_neg hz] at hP
      refine ⟨_, rfl, _, rfl, _, rfl, s, i, j, rfl, hwk, ⟨hi0, hi1⟩, ⟨hj0, hj1⟩, fun h e => hz ⟨h, e⟩, ?_⟩
      have num : primA s i j [] [] = .go ⟨.hd (.num (workA s i j)), [], []⟩ → 2 ≤ sizeLine ∧ ∀ t, G t = none → Q (.ref t) (upd G t (.tup [.str "num", .int (workA s i j)])) := fun hb => ⟨by decide, fun t ht => by
        refine q _ _ (sameT s12 (same_new ht _)) ?_
        rw [hb]
        exact .inl ⟨_, t, rfl, rfl, upd_same⟩⟩
      have ovf : primA s i j [] [] = .fault "overflow" → Q (.ref aO) G := fun hb => by
        refine q _ _ s12 ?_
        rw [hb]
        exact ⟨aO, rfl, T.sOVERFLOW _⟩
      generalize workA s i j = x at hP num ⊢
      refine ⟨_, rfl, _, rfl, _, _, rfl, rfl, _, rfl, ?_⟩
      by_cases h1 : -1000000000000000 ≤ x
      · rw [decide_eq_true h1]
        refine iteT ?_
        refine ⟨_, _, rfl, rfl, _, rfl, ?_⟩
        by_cases h2 : x ≤ 1000000000000000
        · rw [decide_eq_true h2]
          refine iteF ?_
          rw [if_pos ⟨h1, h2⟩] at hP
          exact ⟨_, rfl, num hP⟩
        · rw [decide_eq_false h2]
          refine iteT ?_
          rw [if_neg (fun h => h2 h.2)] at hP
          exact ovf hP
      · rw [decide_eq_false h1]
        refine iteF ?_
        refine ⟨_, rfl, ?_⟩
        refine iteT ?_
        rw [if_neg (fun h => h1 h.1)] at hP
        exact ovf hP

end
end Toy

set_option Elab.async false
set_option linter.all false
set_option maxRecDepth 100000
set_option maxHeartbeats 4000000
/-! Part MT: the program's machine: a prim's second number. -/
namespace Toy
open PySem L2
open PyProof.Rows (envOfC)
section
variable {P : Program} {w : World} {K : PySem.W.Frag} {mg : Str → Option Value} {base : Heap} {C aS aN : Addr}
abbrev sGoFirst : Stmt := topS 25
theorem scGoFirst : FnScope ["machine", "frame", "_", "sign", "first", "result"] ["machine", "frame"] (defScope sGoFirst) := ⟨rfl, rfl, rfl, by decide +kernel, rfl, by decide +kernel, by decide +kernel⟩
theorem c_go_on_with_first {f : Addr} {fd : FuncData} (T : TxtEc K mg C aS aN) (cprim_result : C8.Cal P w K mg base 2 "prim_result" (spPrimR K) []) (cput : C8.Met P w K mg base 1 C "put" (spPut C) []) (F : Fun K "_go_on_with_first" "_go_on_with_first" sGoFirst f fd) (b : Binds K fd ["machine", "frame"] []) (hm : mg "_go_on_with_first" = some (.ref f)) : C8.Cal P w K mg base 3 "_go_on_with_first" (spCt K C (fun g => ∃ s i, g = .fst s i)) [] := by
  refine cal_of F hm b scGoFirst (fun vs H Q E h => ?_) (fun cdv A outer s H vs Q E hr h => ?_)
  · obtain ⟨p, st, dx, tm, ar, hv, gv, r, N, gl, g, h, stk, evs, rfl, _⟩ := h
    rfl
  obtain ⟨p, st, dx, tm, ar, hv, gv, r, N, gl, g, h, stk, evs, rfl, hki, U, hg, hgo, q⟩ := h
  have hu := hu_of hr
  have hbig : (16700000 : Nat) < sizeLine := by decide
  have hN := U.n
  have hsl := U.sl
  refine ⟨_, (pss_cons (ps_asg (pv 1) (pg_tup rfl (pgs_cons (pg_name (i := 2) scGoFirst.nd rfl (Or.inl rfl)) (pgs_cons (pg_name (i := 3) scGoFirst.nd rfl (Or.inl rfl)) (pgs_cons (pg_name (i := 4) scGoFirst.nd rfl (Or.inl rfl)) pgs_nil)))))
    (pss_cons (ps_if (pt_cmpR op_ne (pe_ix ix_tup (pe_fld (pv 0) rfl) pe_int (fun _ _ => rfl)) pe_str (nomark _))
      (pss_one (ps_ret (C8.pe_gc rfl T.gSTUCK)))
      pss_nil)
    (pss_cons (ps_set (i := 5) scGoFirst.nd rfl (Or.inl rfl) (C8.pe_c cprim_result hr (by decide) rfl (pa_cons (pv 3) (pa_cons (pv 4) (pa_cons (pe_ix ix_tup (pe_fld (pv 0) rfl) pe_int (fun _ _ => rfl)) pa_nil)))))
    (pss_cons (ps_if (pt_cmpR op_eq (pe_ix ix_tup (pv 5) pe_int (fun _ _ => rfl)) pe_str (nomark _))
      (pss_one (ps_ret (pv 5)))
      pss_nil)
    (pss_cons (ps_expr (C8.pe_mt cput hr (by decide) (pv 0) (pa_cons (pe_ifExp (pt_cmpR op_eq (pe_ix ix_tup (pv 5) pe_int (fun _ _ => rfl)) pe_str (nomark _)) (pv 5) (pe_tup (pa_cons pe_str (pa_cons (pe_ix ix_tup (pv 5) pe_int (fun _ _ => rfl)) (pa_cons (pe_tup pa_nil) (pa_cons pe_dnewK pa_nil)))))) pa_nil)))
    (pss_one (ps_ret pe_non))))))), ?_⟩
  have nno : ∀ {z w' : Str} {A B : Prop}, z ≠ w' → A → if (!decide (V.str z = V.str w')) = true then A else B := fun h hb => by rw [wne h]; exact iteT hb
  have nyes : ∀ {z : Str} {A B : Prop}, B → if (!decide (V.str z = V.str z)) = true then A else B := fun hb => by rw [wtt]; exact iteF hb
  have stuckQ : upA g h stk evs = .stuck → Q (.ref aS) H := fun hu => by
    refine q _ _ (fun _ _ _ _ _ e => e) ?_
    rw [hu]
    exact ⟨⟨aS, rfl, T.sSTUCK _⟩, U.stuck⟩
  obtain ⟨ha, hxs0, hve, hha⟩ := hdP_word U.hp
  obtain ⟨sg, i, rfl⟩ := hki
  obtain ⟨a, rfl, hga⟩ := hg
  obtain ⟨hsg, hi0, hi1⟩ := hgo
  subst hve
  refine ⟨_, rfl, a, _, rfl, SqT.of hga, rfl, _, _, rfl, _, _, rfl, _, _, rfl, rfl, ?_⟩
  refine ⟨_, rfl, p.mo, C, dx, _, _, rfl, U.o, T.cl, T.n_head, fE_head .., ha, _, 0, _, rfl, rfl, SqT.of hha, at0 _ _, rfl, _, rfl, ?_⟩
  show if (!decide (V.str h.word = V.str "num")) = true then _ else _
  cases h with
  | con tg l e2 => exact nno (show ("con" : Str) ≠ "num" by decide +kernel) (stuckQ rfl)
  | fn x b e2 => exact nno (show ("fun" : Str) ≠ "num" by decide +kernel) (stuckQ rfl)
  | num k =>
    refine nyes ?_
    obtain ⟨_, e0, hha2⟩ := U.hp
    cases e0
    have hk := U.hk
    rw [Head.ok] at hk
    refine ⟨_, rfl, _, rfl, _, rfl, p.mo, C, dx, _, .ref ha, rfl, U.o, T.cl, T.n_head, fE_head .., ha, _, 1, _, rfl, rfl, SqT.of hha2, at1 _ _ _, sg, i, k, rfl, hsg, ⟨hi0, hi1⟩, hk, fun v' H' s' hres => ?_⟩
    have U' := U.same s'
    have hup : upA (.fst sg i) (.num k) stk evs = primA sg i k stk evs := rfl
    rw [hup] at q
    rcases prim_ok (s := sg) (i := i) (j := k) (stk := stk) (evs := evs) with ⟨h2, p1, p2, _⟩ | ⟨f2, p1, p2⟩
    · rw [p2] at hres
      rw [p1] at q
      rcases hres with ⟨n, ra, e1, rfl, hra⟩ | ⟨t, ra, ua, e1, rfl, hra⟩
      · have e1 : Ctl.hd h2 = .hd (.num n) := e1
        injection e1 with e1
        subst e1
        refine ⟨_, rfl, ra, _, 0, _, rfl, rfl, SqT.of hra, at0 _ _, rfl, _, rfl, ?_⟩
        refine iteF ?_
        obtain ⟨b2, k2, m2⟩ := U'.b.own (fs' := fE p.td p.fu st p.ea p.sa .non ar (.ref ra)) U'.o
        refine ⟨_, rfl, p.mo, dx, _, rfl, U'.o, fE_no_put .., _, rfl, ra, _, 0, _, rfl, rfl, SqT.of hra, at0 _ _, rfl, _, rfl, ?_⟩
        refine iteT ?_
        refine ⟨_, rfl, p, st, _, _, _, .ref ra, dx, rfl, U'.o, ?_⟩
        exact q _ _ ((KeepM.same s').trans m2) ⟨rfl, r, b2.more (by omega), _, _, _, ⟨dx, upd_same⟩, rfl, ra, rfl, k2.1 _ _ hra⟩
      · have e1 : Ctl.hd h2 = .hd (.con t [] .nil) := e1
        injection e1 with e1
        subst e1
        refine ⟨_, rfl, ra, _, 0, _, rfl, rfl, SqT.of hra, at0 _ _, rfl, _, rfl, ?_⟩
        refine iteF ?_
        refine ⟨_, rfl, p.mo, dx, _, rfl, U'.o, fE_no_put .., _, rfl, ra, _, 0, _, rfl, rfl, SqT.of hra, at0 _ _, rfl, _, rfl, ?_⟩
        refine iteF ?_
        refine ⟨_, rfl, ra, _, 1, _, rfl, rfl, SqT.of hra, at1 _ _ _, by show 0 ≤ sizeLine; decide, fun t7 ht7 d2 hd2 => ⟨by show 4 ≤ sizeLine; decide, fun t8 ht8 => ?_⟩⟩
        have s7 := same_new ht7 (.tup [])
        have e7 : upd H' t7 (.tup []) t7 = some (.tup []) := upd_same
        generalize upd H' t7 (.tup []) = H1 at s7 e7 hd2 ht8 ⊢
        have s2 := same_new hd2 (.dK [])
        have he2 : EnvP (upd H1 d2 (.dK [])) (r.put d2 .nil) (N + 40000) d2 .nil := ⟨[], upd_same, Nat.zero_le _, fun s => by rw [Env.look]; rfl⟩
        obtain ⟨b1, g1⟩ := (U'.b.same s7).ghost hd2 s2 (Nat.le_add_right N 40000) he2
        have e72 := s2 _ _ e7
        have ho2 := s2 _ _ (s7 _ _ U'.o)
        generalize upd H1 d2 (.dK []) = H2 at s2 b1 e72 ho2 ht8 ⊢
        have s8 := same_new ht8 (.tup [.str "con", .int t, .ref t7, .ref d2])
        have e8 : upd H2 t8 (.tup [.str "con", .int t, .ref t7, .ref d2]) t8 = some (.tup [.str "con", .int t, .ref t7, .ref d2]) := upd_same
        generalize upd H2 t8 (.tup [.str "con", .int t, .ref t7, .ref d2]) = H3 at s8 e8 ⊢
        obtain ⟨b2, k2, m2⟩ := (b1.same s8).own (fs' := fE p.td p.fu st p.ea p.sa .non ar (.ref t8)) (s8 _ _ ho2)
        refine ⟨p, st, _, _, _, .ref t8, dx, rfl, s8 _ _ ho2, ?_⟩
        refine q _ _ ((KeepM.same (sameT s' (sameT s7 (sameT s2 s8)))).trans m2) ⟨rfl, _, b2, _, _, _, ⟨dx, upd_same⟩, rfl, t8, t7, [], d2, rfl, k2.1 _ _ e8, k2.1 _ _ (s8 _ _ e72), rfl, Rho.put_self ..⟩
    · rw [p2] at hres
      rw [p1] at q
      obtain ⟨ra, rfl, hra⟩ := hres
      refine ⟨_, rfl, ra, _, 0, _, rfl, rfl, hra, at0 _ _, rfl, _, rfl, ?_⟩
      refine iteT ?_
      exact ⟨_, rfl, q _ _ (KeepM.same s') ⟨⟨ra, rfl, hra⟩, U'.stuck⟩⟩
end
end Toy

set_option Elab.async false
set_option linter.all false
set_option maxRecDepth 100000
set_option maxHeartbeats 4000000
/-! Part MU: the program's machine: a run. -/
namespace Toy
open PySem L2
open PyProof.Rows (envOfC)
/-- d[key], d a dict of the module with text keys -/
theorem ix_kd {X : Cx} {d : Addr} {es : Array DictEntry} {n : Nat} (D : KDict X.K X.w d es n) :
    IxR X (fun x y H Q => ∃ (z : Str) (u0 : Value) (v0 : V), x = .ref d ∧ y = .str z ∧ PySem.W.nsIn X.K d z = some (some u0) ∧ RelV v0 u0 ∧ Q v0 H) := by
  intro value slice pins s σ H x y v u Q I rx ry h hs
  obtain ⟨z, u0, v0, rfl, rfl, e, r, q⟩ := h
  cases rx
  obtain ⟨t, rfl⟩ := ry
  exact PyProof.Rows.tail_any (kd_type D I) slot_dict_getitem.lookup (PySem.wpAny_getItem_of (PySem.strKind_is X.prog X.w z t) (PySem.W.mapOf_K (prog := X.prog) I.kIn D.at_ D.lit) (PySem.W.find_K D.at_ e) ⟨v0, H, I.tok _, r, q⟩) hs
def evWords : List Str := ["var", "app", "let", "seq", "case", "pick", "prim", "note"]
theorem ev_word {z : Str} {r : List Dd} {e : Env} (h : Vw z r) (hn : enterW z r e = none) : z ∈ evWords := by
  cases h with
  | num _ _ => rw [en_num] at hn; cases hn
  | lam _ => rw [en_lam] at hn; cases hn
  | con => rw [en_con] at hn; cases hn
  | _ => decide +kernel
def wordP : Frm → Str
  | .arg _ _ => "argument"
  | .seq _ _ _ => "seq"
  | .ch z _ _ _ => z
  | .snd _ _ _ => "second"
  | .fst _ _ => "first"
theorem frmP_word {H : Hp} {r : Rho} {g : Frm} {v : V} (hg : FrmP H r g v) : ∃ a xs, v = .ref a ∧ H a = some (.tup (.str (wordP g) :: xs)) := by
  cases g with
  | arg t e => obtain ⟨a, tv, d, h1, h2, _⟩ := hg; exact ⟨a, _, h1, h2⟩
  | seq x b e => obtain ⟨a, tv, d, h1, h2, _⟩ := hg; exact ⟨a, _, h1, h2⟩
  | ch z rows dd e => obtain ⟨a, p, xs, dv, d, h1, h2, _⟩ := hg; exact ⟨a, _, h1, h2⟩
  | snd s t e => obtain ⟨a, tv, d, h1, h2, _⟩ := hg; exact ⟨a, _, h1, h2⟩
  | fst s i => obtain ⟨a, h1, h2⟩ := hg; exact ⟨a, _, h1, h2⟩
structure TxtRun (P : Program) (w : World) (K : PySem.W.Frag) (mg : Str → Option Value) (base : Heap) (C aM aE aC : Addr) (esE esC : Array DictEntry) (nE nC : Nat) (sE sC : Addr → Option Sp) : Prop extends TxtEv K C where
  gMORE : ∃ u, mg "MORE" = some u ∧ RelV (.ref aM) u
  sMORE : ∀ H, SqT K H aM [.str "more"]
  kE : KDict K w aE esE nE
  gEVALUATIONS : ∃ u, mg "EVALUATIONS" = some u ∧ RelV (.ref aE) u
  evIn : ∀ z ∈ evWords, ∃ f sp, PySem.W.nsIn K aE z = some (some (.ref f)) ∧ sE f = some sp ∧ ∀ vs H Q E, spEv K C z vs H Q E → sp vs H Q E
  heldE : ∀ f sp, sE f = some sp → Held P w K mg base 4 f sp
  kC : KDict K w aC esC nC
  gCONTINUATIONS : ∃ u, mg "CONTINUATIONS" = some u ∧ RelV (.ref aC) u
  ctIn : ∀ g : Frm, g.ok → ∃ (f : Addr) (kind : Frm → Prop), PySem.W.nsIn K aC (wordP g) = some (some (.ref f)) ∧ sC f = some (spCt K C kind) ∧ kind g
  heldC : ∀ f sp, sC f = some sp → Held P w K mg base 4 f sp
/-- how a run ends, as the program tells it -/
def FinP (K : PySem.W.Frag) (H : Hp) : Fin → V → Prop
  | .head h, v => ∃ r, HdP H r h v
  | .more, v => ∃ a, v = .ref a ∧ SqT K H a [.str "more"]
  | .stuck, v => ∃ a, v = .ref a ∧ SqT K H a [.str "stuck"]
  | .fault s, v => ∃ a, v = .ref a ∧ SqT K H a [.str "fault", .str s]
/-- within a run -/
def RunI (C : Addr) (H : Hp) (p : Pl) (gl : Str → Option Dd) (F : Nat) (R : Fin × Nat × List Int) (i : Nat) (G : Hp) : Prop := ∃ (r : Rho) (m : Mst), KeepM p H G ∧ MAt C G r (40000 * i) p gl (i : Int) m ∧ m.ok ∧ m.stk.length ≤ i ∧ m.evs.length ≤ i ∧ i ≤ F ∧ R.1 = (runA gl (F - i) m).1 ∧ R.2.1 = (runA gl (F - i) m).2.1 + i ∧ R.2.2 = (runA gl (F - i) m).2.2
section
variable {P : Program} {w : World} {K : PySem.W.Frag} {mg : Str → Option Value} {base : Heap} {C aM aE aC : Addr} {esE esC : Array DictEntry} {nE nC : Nat} {sE sC : Addr → Option Sp}
abbrev sEvRun : Stmt := inClass (topS 9) 2
theorem scEvRun : FnScope ["self", "go_on", "end", "evaluate"] ["self"] (defScope sEvRun) := ⟨rfl, rfl, rfl, by decide +kernel, rfl, by decide +kernel, by decide +kernel⟩
def spRun (K : PySem.W.Frag) (C : Addr) : Sp := fun vs H Q _ => ∃ (p : Pl) (r : Rho) (gl : Str → Option Dd) (t : Dd) (e : Env) (F : Nat), vs = [.ref p.mo] ∧ MAt C H r 0 p gl 0 ⟨.ev t e, [], []⟩ ∧ TOk t ∧ e.ok ∧ (∀ s t, gl s = some t → TOk t) ∧ p.fu = (F : Int) ∧ F ≤ 400 ∧
  ∀ (v' : V) (H' : Hp) (tm ar hd : V) (ys : List V), KeepM p H H' → FinP K H' (runA gl F ⟨.ev t e, [], []⟩).1 v' → MO C H' p ((runA gl F ⟨.ev t e, [], []⟩).2.1 : Nat) tm ar hd → H' p.ea = some (.lst ys) → Dd.Ats F0 H' ((runA gl F ⟨.ev t e, [], []⟩).2.2.map evD) ys → ys.length ≤ 400 → Q v' H'
theorem c_run {f : Addr} {fd : FuncData} (T : TxtRun P w K mg base C aM aE aC esE esC nE nC sE sC) (clook_for_head : C8.Met P w K mg base 2 C "look_for_head" (spLFH C) []) (me : Meth K C "run" f) (F : Fun K "run" "Evaluation.run" sEvRun f fd) (b : Binds K fd ["self"] []) : C8.Met P w K mg base 5 C "run" (spRun K C) [] := by
  refine met_of T.cl me F b scEvRun (fun vs H Q E h => ?_) (fun cdv A outer s H vs Q E hr h => ?_)
  · obtain ⟨p, r, gl, t, e, F, rfl, _⟩ := h
    rfl
  obtain ⟨p, r0, gl, t, e, F, rfl, hM, htk, heo, hgl, hF, hF4, q⟩ := h
  have hu := hu_of hr
  have hbig : (16700000 : Nat) < sizeLine := by decide
  refine ⟨_, (pss_one (ps_while PassesOwn.never (pt_val pe_bl)
      (C8.pss_cut (ps_if (pt_cmpR op_notN (pe_fld (pv 0) rfl) pe_non (nomark _))
      (pss_one (ps_expr (C8.pe_mt0 clook_for_head hr (by decide) (pv 0))))
      pss_nil)
    (C8.pss_cut (ps_if (PW.pt (pw_and (pt_cmpR op_isN (pe_fld (pv 0) rfl) pe_non (nomark _)) (pw_and1 (pt_not (pt_truth (pe_fld (pv 0) rfl) (fun _ => rfl))))))
      (pss_one (ps_ret (pe_fld (pv 0) rfl)))
      pss_nil)
    (pss_cons (ps_if (pt_cmpR op_eq (pe_fld (pv 0) rfl) (pe_fld (pv 0) rfl) (nomark _))
      (pss_one (ps_ret (C8.pe_gc rfl T.gMORE)))
      pss_nil)
    (pss_cons (ps_fldaug (pv 0) pe_int ip_add)
    (C8.pss_cut (ps_if (pt_cmpR op_isN (pe_fld (pv 0) rfl) pe_non (nomark _))
      (pss_cons (ps_set (i := 1) scEvRun.nd rfl (Or.inl rfl) (pe_ix (ix_kd T.kC) (C8.pe_gc rfl T.gCONTINUATIONS) (pe_ix ix_tup (pe_ix ix_list (pe_fld (pv 0) rfl) (pe_un un_neg pe_int) (fun _ _ => rfl)) pe_int (fun _ _ => rfl)) (fun _ _ => rfl)))
    (pss_one (ps_set (i := 2) scEvRun.nd rfl (Or.inl rfl) (pe_callA (i := 1) T.heldC (hr.mono (by decide)) rfl (Or.inl rfl) (pa_cons (pv 0) (pa_cons (pe_bm0 PySem.F.plainAttrs_list PySem.F.slot_list_pop PySem.F.type_list_pop mt_pop (pe_fld (pv 0) rfl)) pa_nil))))))
      (pss_cons (ps_set (i := 3) scEvRun.nd rfl (Or.inl rfl) (pe_ix (ix_kd T.kE) (C8.pe_gc rfl T.gEVALUATIONS) (pe_ix ix_tup (pe_fld (pv 0) rfl) pe_int (fun _ _ => rfl)) (fun _ _ => rfl)))
    (pss_one (ps_set (i := 2) scEvRun.nd rfl (Or.inl rfl) (pe_callA (i := 3) T.heldE (hr.mono (by decide)) rfl (Or.inl rfl) (pa_cons (pv 0) (pa_cons (pe_fld (pv 0) rfl) (pa_cons (pe_fld (pv 0) rfl) pa_nil))))))))
    (pss_one (ps_if (pt_cmpR op_notN (pv 2) pe_non (nomark _))
      (pss_one (ps_ret (pv 2)))
      pss_nil))))))))), ?_⟩
  generalize hR : runA gl F ⟨.ev t e, [], []⟩ = R at q
  have done : ∀ (v' : V) (G : Hp) (r : Rho) (N : Nat) (st : Nat) (m : Mst), KeepM p H G → MAt C G r N p gl (st : Int) m → FinP K G R.1 v' → R.2.1 = st → R.2.2 = m.evs → m.evs.length ≤ 400 → Q v' G := fun v' G r N st m k hM hf h1 h2 h5 => by
    obtain ⟨hb, tm, ar, hd, ho, _⟩ := hM
    obtain ⟨ys, h3, h4⟩ := hb.v
    have hyl := ats_len h4
    rw [List.length_map] at hyl
    refine q v' G tm ar hd ys k hf ?_ h3 ?_ (by omega)
    · rw [h1]; exact ho
    · rw [h2]; exact h4
  refine ⟨fun n' σ G => ∃ (i : Nat) (v1 v2 v3 : Option V), n' = F - i ∧ σ = [some (.ref p.mo), v1, v2, v3] ∧ RunI C H p gl F R i G, ⟨_, 0, _, _, _, rfl, rfl, r0, ⟨.ev t e, [], []⟩, fun _ _ _ _ _ e => e, hM, ⟨⟨htk, heo⟩, fun f hf => absurd hf List.not_mem_nil⟩, Nat.le_refl _, Nat.le_refl _, Nat.zero_le _, by rw [Nat.sub_zero, hR]; exact ⟨rfl, rfl, rfl⟩⟩, ?_⟩
  rintro n' σ G ⟨i, v1, v2, v3, rfl, rfl, r, m, hk, hMG, hmo, hsl, hel, hiF, r1, r2, r3⟩
  refine ⟨_, rfl, iteT ?_⟩
  refine ⟨fun σ' G' => ∃ (j : Nat) (v1 v2 v3 : Option V), F - j < F - i ∧ σ' = [some (.ref p.mo), v1, v2, v3] ∧ RunI C H p gl F R j G', fun σ' G' ⟨j, v1, v2, v3, lt, e, h⟩ => ⟨_, lt, j, v1, v2, v3, rfl, e, h⟩, ?_⟩
  -- heads that are there at once
  refine ⟨fun σ' G' => σ' = [some (.ref p.mo), v1, v2, v3] ∧ KeepM p H G' ∧ MAt C G' r (40000 * i) p gl (i : Int) (norm m), ?_, ?_⟩
  · obtain ⟨ct, stk, evs⟩ := m
    obtain ⟨hb, tm, ar, hd, ⟨dx, ho⟩, hct⟩ := hMG
    cases ct with
    | ev t1 e1 =>
      obtain ⟨hat, d, rfl, hrd⟩ := hct
      have hmc : TOk t1 ∧ e1.ok := hmo.ctl
      obtain ⟨z, rr, rfl, hfz⟩ := form_tup (tt_parts hmc.1.1).1
      obtain ⟨ta, ys0, rfl, hta, _⟩ := head_at hat
      refine ⟨_, rfl, p.mo, C, dx, _, _, rfl, ho, T.cl, T.n_term, fE_term .., rfl, _, rfl, ?_⟩
      refine iteT ?_
      exact ⟨_, rfl, p.mo, dx, _, rfl, ho, fE_no_look_for_head .., p, _, _, hd, d, dx, r, _, gl, _, e1, stk, evs, rfl, hb, ho, hat, hmc.1.1, hrd, fun H' k' hm' => ⟨rfl, hk.trans k', hm'⟩⟩
    | hd h =>
      obtain ⟨rfl, hh⟩ := hct
      refine ⟨_, rfl, p.mo, C, dx, _, _, rfl, ho, T.cl, T.n_term, fE_term .., rfl, _, rfl, ?_⟩
      refine iteF ?_
      exact ⟨rfl, hk, hb, .non, ar, hd, ⟨dx, ho⟩, rfl, hh⟩
  rintro _ G1 ⟨rfl, hk1, hM1⟩
  have hno := norm_ok hmo
  have hns : (norm m).stk = m.stk ∧ (norm m).evs = m.evs := by
    obtain ⟨ct, stk, evs⟩ := m
    cases ct with
    | hd h => exact ⟨rfl, rfl⟩
    | ev t e =>
      cases he : enterA t e with
      | some h => rw [norm_some he]; exact ⟨rfl, rfl⟩
      | none => rw [norm_none he]; exact ⟨rfl, rfl⟩
  rw [← hns.1] at hsl
  rw [← hns.2] at hel
  rw [← runA_norm] at r1 r2 r3
  have hnn : norm (norm m) = norm m := norm_norm
  generalize norm m = m1 at hM1 hno hsl hel r1 r2 r3 hnn
  -- a head, and nothing waits for it
  refine ⟨fun σ' G' => σ' = [some (.ref p.mo), v1, v2, v3] ∧ G' = G1 ∧ ∀ h0, m1.ctl = .hd h0 → m1.stk ≠ [], ?_, ?_⟩
  · obtain ⟨ct, stk, evs⟩ := m1
    obtain ⟨hb, tm, ar, hd, ⟨dx, ho⟩, hct⟩ := id hM1
    cases ct with
    | ev t1 e1 =>
      obtain ⟨hat, d, rfl, hrd⟩ := hct
      have hmc : TOk t1 ∧ e1.ok := hno.ctl
      obtain ⟨z, rr, rfl, hfz⟩ := form_tup (tt_parts hmc.1.1).1
      obtain ⟨ta, ys0, rfl, hta, _⟩ := head_at hat
      refine ⟨_, rfl, p.mo, C, dx, _, _, rfl, ho, T.cl, T.n_term, fE_term .., rfl, _, rfl, ?_⟩
      refine iteF ?_
      exact ⟨rfl, rfl, fun h0 h => by cases h⟩
    | hd h =>
      obtain ⟨rfl, hh⟩ := hct
      obtain ⟨xs, hsa, hfr⟩ := hb.s
      refine ⟨_, rfl, p.mo, C, dx, _, _, rfl, ho, T.cl, T.n_term, fE_term .., rfl, _, rfl, ?_⟩
      refine iteT ?_
      refine ⟨_, rfl, p.mo, C, dx, _, .ref p.sa, rfl, ho, T.cl, T.n_stack, fE_stack .., _, .inl ⟨xs, SqL.of hsa, rfl⟩, ?_⟩
      cases stk with
      | nil =>
        cases (show xs = [] from hfr)
        refine iteT ?_
        rw [runA_hd] at r1 r2 r3
        refine ⟨_, rfl, p.mo, C, dx, _, _, rfl, ho, T.cl, T.n_head, fE_head .., done _ _ _ _ i _ hk1 hM1 ?_ (r2.trans (Nat.zero_add i)) r3 (Nat.le_trans (show evs.length ≤ i from hel) (by omega))⟩
        rw [r1]
        exact ⟨r, hh⟩
      | cons g stk =>
        obtain ⟨x, ys, rfl, _⟩ := hfr
        refine iteF ?_
        exact ⟨rfl, rfl, fun h0 _ h => by cases h⟩
  rintro _ G1 ⟨rfl, rfl, hne⟩
  obtain ⟨hb, tm, ar, hd, ⟨dx, ho⟩, hct⟩ := id hM1
  refine ⟨_, rfl, p.mo, C, dx, _, _, rfl, ho, T.cl, T.n_steps, fE_steps .., _, rfl, p.mo, C, dx, _, _, rfl, ho, T.cl, T.n_fuel, fE_fuel .., rfl, _, rfl, ?_⟩
  rw [hF]
  by_cases hlt : i = F
  · rw [show decide (V.int (i : Int) = V.int (F : Int)) = true from decide_eq_true (by rw [hlt])]
    refine iteT ?_
    rw [show F - i = 0 by omega, runA_zero hne hnn] at r1 r2 r3
    refine done _ _ _ _ i _ hk1 hM1 ?_ (r2.trans (Nat.zero_add i)) r3 (by omega)
    rw [r1]
    exact ⟨aM, rfl, T.sMORE _⟩
  rw [show decide (V.int (i : Int) = V.int (F : Int)) = false from decide_eq_false fun e => hlt (by have := V.int.inj e; omega)]
  refine iteF ?_
  obtain ⟨k, hkk⟩ : ∃ k, F - i = k + 1 := ⟨F - i - 1, by omega⟩
  rw [hkk, runA_succ hne hnn] at r1 r2 r3
  refine ⟨_, rfl, p.mo, C, dx, _, _, rfl, ho, T.cl, T.n_steps, fE_steps .., _, _, rfl, rfl, dx, _, ho, fE_len .., ?_⟩
  rw [fEp_steps]
  dsimp only
  rw [show (i : Int) + 1 = ((i + 1 : Nat) : Int) by omega]
  obtain ⟨hb2, kp2, km2⟩ := hb.own (fs' := fE p.td p.fu ((i + 1 : Nat) : Int) p.ea p.sa tm ar hd) ho
  have ho2 : upd G1 p.mo (.ins C dx (fE p.td p.fu ((i + 1 : Nat) : Int) p.ea p.sa tm ar hd)) p.mo = some (.ins C dx (fE p.td p.fu ((i + 1 : Nat) : Int) p.ea p.sa tm ar hd)) := upd_same
  have hct2 := hct.keep kp2.fr (Rle.refl r)
  have hk2 := hk1.trans km2
  generalize upd G1 p.mo (.ins C dx (fE p.td p.fu ((i + 1 : Nat) : Int) p.ea p.sa tm ar hd)) = G2 at hb2 ho2 hct2 hk2 ⊢
  clear kp2 km2
  have hN : 40000 * i + 40000 ≤ 16700000 := by omega
  -- a step
  refine ⟨fun σ' G' => ∃ (w1 w3 : Option V) (v2' : V), σ' = [some (.ref p.mo), w1, some v2', w3] ∧ KeepM p H G' ∧ OutP K C G' (40000 * i + 40000) p gl ((i + 1 : Nat) : Int) m1.evs (stepA gl m1) v2', ?_, ?_⟩
  · obtain ⟨ct, stk, evs⟩ := m1
    have hsl : stk.length ≤ i := hsl
    have hel : evs.length ≤ i := hel
    cases ct with
    | ev t1 e1 =>
      obtain ⟨hat, d, rfl, hrd⟩ := hct2
      have hmc : TOk t1 ∧ e1.ok := hno.ctl
      obtain ⟨z, rr, rfl, hfz⟩ := form_tup (tt_parts hmc.1.1).1
      have hen : enterA (.tup (.str z :: rr)) e1 = none := by
        cases hq : enterA (.tup (.str z :: rr)) e1 with
        | none => rfl
        | some h0 => rw [norm_some hq] at hnn; cases hnn
      obtain ⟨ta, ys0, rfl, hta, _⟩ := head_at hat
      obtain ⟨fz, sp, hns1, hsE, himp⟩ := T.evIn z (ev_word (vw_of hfz) hen)
      refine ⟨_, rfl, p.mo, C, dx, _, _, rfl, ho2, T.cl, T.n_term, fE_term .., rfl, _, rfl, ?_⟩
      refine iteF ?_
      refine ⟨_, rfl, p.mo, C, dx, _, _, rfl, ho2, T.cl, T.n_term, fE_term .., ta, _, 0, _, rfl, rfl, SqT.of hta, at0 _ _, z, .ref fz, .ref fz, rfl, rfl, hns1, rfl, ?_⟩
      refine ⟨fz, sp, rfl, hsE, _, rfl, _, rfl, p.mo, C, dx, _, _, rfl, ho2, T.cl, T.n_term, fE_term .., _, rfl, p.mo, C, dx, _, _, rfl, ho2, T.cl, T.n_around, fE_around .., himp _ _ _ _ ?_⟩
      exact ⟨p, _, _, hd, d, dx, r, _, gl, rr, e1, stk, evs, rfl, hb2, ho2, hat, hmc.1, hrd, hen, by omega, by omega, hN, fun v' H' k' ho' => ⟨_, _, _, rfl, hk2.trans k', ho'⟩⟩
    | hd h =>
      obtain ⟨rfl, hh⟩ := hct2
      have hho : h.ok := hno.ctl
      rcases List.eq_nil_or_concat stk with rfl | ⟨stk', g, rfl⟩
      · exact absurd rfl (hne h rfl)
      rw [List.concat_eq_append] at hsl hb2 ⊢
      have hgo : g.ok := hno.stk g (by rw [List.concat_eq_append]; exact List.mem_append_right _ (List.mem_singleton.mpr rfl))
      obtain ⟨ys, y, h1, hg, b3, k3, m3, e3⟩ := hb2.pop
      obtain ⟨a, gxs, rfl, hga⟩ := frmP_word hg
      obtain ⟨fz, kind, hns1, hsC, hkd⟩ := T.ctIn g hgo
      rw [List.length_append] at hsl
      refine ⟨_, rfl, p.mo, C, dx, _, _, rfl, ho2, T.cl, T.n_term, fE_term .., rfl, _, rfl, ?_⟩
      refine iteT ?_
      refine ⟨_, rfl, p.mo, C, dx, _, .ref p.sa, rfl, ho2, T.cl, T.n_stack, fE_stack .., _, rfl, p.sa, _, -1, _, rfl, rfl, SqL.of h1, atL _ _, a, _, 0, _, rfl, rfl, SqT.of hga, at0 _ _, wordP g, .ref fz, .ref fz, rfl, rfl, hns1, rfl, ?_⟩
      refine ⟨fz, _, rfl, hsC, _, rfl, _, rfl, p.mo, C, dx, _, .ref p.sa, rfl, ho2, T.cl, T.n_stack, fE_stack .., .inl ⟨rfl, _, SqL.of h1⟩, p.sa, _, .ref a, rfl, rfl, h1, by rw [List.length_append]; exact List.getElem?_concat_length, ?_⟩
      rw [List.dropLast_concat, step_hd]
      have ho3 := e3.trans ho2
      refine ⟨p, _, dx, .non, ar, hd, .ref a, r, _, gl, g, h, stk', evs, rfl, hkd, ⟨b3, ho3, hh.keep k3.fr (Rle.refl r), rfl, hho, hN, by omega⟩, hg.keep k3.fr (Rle.refl r), hgo, fun v' H' k' ho' => ⟨_, _, _, rfl, (hk2.trans m3).trans k', ho'⟩⟩
  · rintro _ G3 ⟨w1, w3, v2', rfl, hk3, hout⟩
    cases hst : stepA gl m1 with
    | stuck =>
      rw [hst] at hout r1 r2 r3
      obtain ⟨⟨a, rfl, ha⟩, r', M, m', hm', he'⟩ := hout
      refine ⟨_, rfl, rfl, _, rfl, ?_⟩
      refine iteT ?_
      refine ⟨_, rfl, done _ _ _ _ (i + 1) _ hk3 hm' ?_ (r2.trans (Nat.add_comm 1 i)) (r3.trans he'.symm) (by rw [he']; omega)⟩
      rw [r1]
      exact ⟨a, rfl, ha⟩
    | fault sf =>
      rw [hst] at hout r1 r2 r3
      obtain ⟨⟨a, rfl, ha⟩, r', M, m', hm', he'⟩ := hout
      refine ⟨_, rfl, rfl, _, rfl, ?_⟩
      refine iteT ?_
      refine ⟨_, rfl, done _ _ _ _ (i + 1) _ hk3 hm' ?_ (r2.trans (Nat.add_comm 1 i)) (r3.trans he'.symm) (by rw [he']; omega)⟩
      rw [r1]
      exact ⟨a, rfl, ha⟩
    | go m' =>
      rw [hst] at hout r1 r2 r3
      obtain ⟨rfl, r', hm'⟩ := hout
      refine ⟨_, rfl, rfl, _, rfl, ?_⟩
      refine iteF ?_
      have hok : m'.ok ∧ m'.stk.length ≤ i + 1 ∧ m'.evs.length ≤ i + 1 := by
        obtain ⟨ct, stk, evs⟩ := m1
        have hsl : stk.length ≤ i := hsl
        have hel : evs.length ≤ i := hel
        cases ct with
        | ev t e =>
          have hmc : TOk t ∧ e.ok := hno.ctl
          obtain ⟨z, rr, rfl, hfz⟩ := form_tup (tt_parts hmc.1.1).1
          have hen : enterA (.tup (.str z :: rr)) e = none := by
            cases hq : enterA (.tup (.str z :: rr)) e with
            | none => rfl
            | some h0 => rw [norm_some hq] at hnn; cases hnn
          obtain ⟨h1, h2, h3⟩ := down_ok hgl hmc.1 hmc.2 hno.stk hen hst
          exact ⟨h1, by omega, by omega⟩
        | hd h =>
          rcases List.eq_nil_or_concat stk with rfl | ⟨stk', g, rfl⟩
          · exact absurd rfl (hne h rfl)
          rw [List.concat_eq_append] at hst hsl
          rw [step_hd] at hst
          have hgo : g.ok := hno.stk g (by rw [List.concat_eq_append]; exact List.mem_append_right _ (List.mem_singleton.mpr rfl))
          rw [List.length_append] at hsl
          obtain ⟨h1, h2, h3⟩ := up_ok hgo hno.ctl (fun f hf => hno.stk f (by rw [List.concat_eq_append]; exact List.mem_append_left _ hf)) hst
          have e1 : [g].length = 1 := rfl
          exact ⟨h1, by omega, by omega⟩
      refine ⟨i + 1, w1, _, w3, by omega, rfl, r', m', hk3, hm', hok.1, hok.2.1, hok.2.2, by omega, ?_⟩
      rw [show F - (i + 1) = k by omega]
      exact ⟨r1, by rw [r2]; show (runA gl k m').2.1 + 1 + i = _; omega, r3⟩
end
end Toy

set_option Elab.async false
set_option linter.all false
set_option maxRecDepth 100000
set_option maxHeartbeats 4000000
/-! Part MV: the program's machine is made, told what it found. -/
namespace Toy
open PySem L2
open PyProof.Rows (envOfC)
/-- what dict(definitions) is -/
theorem defs_paired {K : PySem.W.Frag} {B : Addr → Prop} {H : Hp} : ∀ {l : List (Str × Dd)} {xs : List V}, Dd.Ats B H (l.map defD) xs → ∃ (ps : List Addr) (ys : List V), xs = ps.map V.ref ∧ ys.length = l.length ∧ Paired (fun p (kv : Key × V) => SqT K H p [kV kv.1, kv.2]) ps (List.zipWith (fun (q : Str × Dd) y => ((Sum.inr q.1 : Key), y)) l ys) ∧ Dd.Ats B H (l.map (·.2)) ys
  | [], xs, h => by
    cases (show xs = [] from h)
    exact ⟨[], [], rfl, rfl, .nil, rfl⟩
  | q :: l, xs, h => by
    obtain ⟨x, zs, rfl, hx, hs⟩ := h
    obtain ⟨ps, ys, rfl, hl, hp, ha⟩ := defs_paired (K := K) hs
    obtain ⟨t, x1, y1, rfl, ht, hx1, hy1⟩ := pair_at (m := [.str q.1, q.2]) hx rfl
    obtain ⟨rfl, _⟩ := (show x1 = .str q.1 ∧ q.1.length ≤ 1000 from hx1)
    exact ⟨t :: ps, y1 :: ys, rfl, by rw [List.length_cons, List.length_cons, hl], .cons (SqT.of ht) hp, ats_cons hy1 ha⟩
def kvD (l : List (Str × Dd)) (ys : List V) : List (Key × V) := List.zipWith (fun (q : Str × Dd) y => ((Sum.inr q.1 : Key), y)) l ys
theorem merge_off {k : Str} : ∀ {l : List (Str × Dd)} {ys : List V} {acc : List (Key × V)}, k ∉ l.map (·.1) → valV (mergeK acc (kvD l ys)) (Sum.inr k) = valV acc (Sum.inr k)
  | [], _, _, _ => rfl
  | q :: l, [], _, _ => rfl
  | q :: l, y :: ys, acc, h => by
    have h1 : ¬ k = q.1 := fun e => h (by rw [e]; exact List.mem_cons_self ..)
    have h2 : k ∉ l.map (·.1) := fun e => h (List.mem_cons_of_mem _ e)
    show valV (mergeK (putK acc (Sum.inr q.1) y) (kvD l ys)) (Sum.inr k) = _
    rw [merge_off h2, valV_put, if_neg (fun e => h1 (Sum.inr.inj e))]
theorem merge_val : ∀ {l : List (Str × Dd)} {ys : List V} {acc : List (Key × V)}, (l.map (·.1)).Nodup → ∀ (i : Nat) (q : Str × Dd) (y : V), l[i]? = some q → ys[i]? = some y → valV (mergeK acc (kvD l ys)) (Sum.inr q.1) = some y
  | [], _, _, _, i, q, y, h, _ => by simp at h
  | p :: l, [], _, _, i, q, y, _, h => by simp at h
  | p :: l, z :: ys, acc, hn, i, q, y, h1, h2 => by
    have hn2 := List.nodup_cons.mp (show (p.1 :: l.map (·.1)).Nodup from hn)
    show valV (mergeK (putK acc (Sum.inr p.1) z) (kvD l ys)) (Sum.inr q.1) = _
    cases i with
    | zero =>
      cases Option.some.inj h1
      cases Option.some.inj h2
      rw [merge_off hn2.1, valV_put, if_pos rfl]
    | succ i => exact merge_val hn2.2 i q y (by simpa using h1) (by simpa using h2)
theorem eqv_self {d : PyData} (h : SeqAt.shaped d = true) : PyData.eqv d d = true := SeqAt.eqv_refl d (SeqAt.canLay_of_shaped h)
def KeepO (o : Addr) (H H' : Hp) : Prop := ∀ b u, b ≠ o → H b = some u → H' b = some u
theorem sqT_keep {K : PySem.W.Frag} {H H' : Hp} {a : Addr} {xs : List V} (h : SqT K H a xs) (s : Same H H') : SqT K H' a xs := by
  rcases h with (h | ⟨o, h⟩) | h
  · exact .inl (.inl (s _ _ h))
  · exact .inl (.inr ⟨o, s _ _ h⟩)
  · exact .inr h
theorem glAt_merge {H : Hp} {td : Addr} : ∀ {l : List (Str × Dd)} {ys : List V}, H td = some (.dK (mergeK [] (kvD l ys))) → (l.map (·.1)).Nodup → ys.length = l.length → Dd.Ats F0 H (l.map (·.2)) ys → GlAt H td (rowGet l) := by
  intro l ys h hn hl hs
  refine ⟨_, h, fun s => ?_⟩
  cases hg : rowGet l s with
  | some t =>
    have hm := rowGet_mem hg
    obtain ⟨i, hi⟩ := List.getElem?_of_mem hm
    have hil := (List.getElem?_eq_some_iff.mp hi).1
    have hyi : ys[i]? = some (ys[i]'(by omega)) := List.getElem?_eq_getElem _
    refine ⟨_, merge_val hn i (s, t) _ hi hyi, ?_⟩
    obtain ⟨kk, hk, hkx⟩ := ats_get hs hyi
    rw [List.getElem?_map, hi] at hk
    cases Option.some.inj hk
    exact hkx
  | none =>
    have hno : s ∉ l.map (·.1) := fun hm => by
      obtain ⟨q, hq, rfl⟩ := List.mem_map.mp hm
      unfold rowGet at hg
      rw [Option.map_eq_none_iff, List.find?_eq_none] at hg
      exact hg q hq (decide_eq_true rfl)
    show valV _ _ = none
    rw [merge_off hno]
    rfl
/-- what is told of a run's end -/
def finV : Fin → List V
  | .head (.num i) => [.str "num", .int i]
  | .head (.con t args _) => [.str "con", .int t, .int (args.length : Nat)]
  | .head (.fn _ _ _) => [.str "fun"]
  | .more => [.str "more"]
  | .stuck => [.str "stuck"]
  | .fault s => [.str "fault", .str s]
def Told (K : PySem.W.Frag) (H : Hp) (R : Fin × Nat × List Int) (v : V) : Prop := ∃ a ra b : Addr, v = .ref a ∧ SqT K H a [.ref ra, .int (R.2.1 : Nat), .ref b] ∧ SqT K H ra (finV R.1) ∧ SqT K H b (R.2.2.map V.int)
theorem Told.keep {K : PySem.W.Frag} {H H' : Hp} {R : Fin × Nat × List Int} {v : V} (s : Same H H') : Told K H R v → Told K H' R v := fun ⟨a, ra, b, h1, h2, h3, h4⟩ => ⟨a, ra, b, h1, sqT_keep h2 s, sqT_keep h3 s, sqT_keep h4 s⟩
section
variable {P : Program} {w : World} {K : PySem.W.Frag} {mg : Str → Option Value} {base : Heap} {C aS : Addr}
abbrev sEvInit : Stmt := inClass (topS 9) 0
theorem scEvInit : FnScope ["self", "program", "fuel"] ["self", "program", "fuel"] (defScope sEvInit) := ⟨rfl, rfl, rfl, by decide +kernel, rfl, by decide +kernel, by decide +kernel⟩
structure TxtEi (K : PySem.W.Frag) (mg : Str → Option Value) (C : Addr) : Prop extends TxtEv K C where
  zdict : mg "dict" = none
def spEvInit (C : Addr) : Sp := fun vs H Q _ => ∃ (o dx : Addr) (gv : V) (fu : Int) (l : List (Str × Dd)) (m : Str), vs = [.ref o, gv, .int fu] ∧ H o = some (.ins C dx []) ∧ ProgAt H l m gv ∧ (l.map (·.1)).Nodup ∧
  ∀ (p : Pl) (H' : Hp), p.mo = o → p.fu = fu → H p.sa = none → H p.ea = none → KeepO o H H' → MB C H' (fun _ => none) 0 p (rowGet l) [] [] → (∃ ar, MO C H' p 0 .non ar .non) → Q .non H'
theorem c_evinit {f : Addr} {fd : FuncData} (T : TxtEi K mg C) (M : L2.Mk K C f) (mC : mg "Evaluation" = some (.ref C)) (F : Fun K "__init__" "Evaluation.__init__" sEvInit f fd) (b : Binds K fd ["self", "program", "fuel"] []) : C8.Mak P w K mg base 1 "Evaluation" C (spEvInit C) [] := by
  refine ⟨f, fd, ["self", "program", "fuel"], [], M, F.ok scEvInit (fun vs H Q E h => ?_) (fun cdv A outer s H vs Q E hr h => ?_), mC, b, .nil⟩
  · obtain ⟨o, dx, gv, fu, l, m, rfl, _⟩ := h
    rfl
  obtain ⟨o, dx, gv, fu, l, m, rfl, ho, hat, hnd, q⟩ := h
  refine ⟨_, (pss_cons (ps_fld (pv 0) (pe_callTy (call_dictT rfl) rfl T.zdict boot_dict (pa_cons (pe_ix ix_tup (pv 1) pe_int (fun _ _ => rfl)) pa_nil)) rfl)
    (pss_cons (ps_fld (pv 0) (pv 2) rfl)
    (pss_cons (ps_fld (pv 0) pe_int rfl)
    (pss_cons (ps_fld (pv 0) (pe_lst pa_nil) rfl)
    (pss_cons (ps_fld (pv 0) (pe_lst pa_nil) rfl)
    (pss_cons (ps_fld (pv 0) pe_non rfl)
    (pss_cons (ps_fld (pv 0) pe_dnewK rfl)
    (pss_one (ps_fld (pv 0) pe_non rfl))))))))), ?_⟩
  obtain ⟨a, t, ob, xs, rfl, ha, ht, hob, hats, _⟩ := hat
  obtain ⟨ps, ys, rfl, hyl, hpp, hyats⟩ := defs_paired (K := K) hats
  refine ⟨_, rfl, a, _, 0, _, rfl, rfl, SqT.of ha, at0 _ _, t, ob, ps, kvD l ys, rfl, ht, hob, hpp, fun td htd => ?_⟩
  have s1 := same_new htd (.dK (mergeK [] (kvD l ys)))
  have e1 : upd H td (.dK (mergeK [] (kvD l ys))) td = some (.dK (mergeK [] (kvD l ys))) := upd_same
  have hG1 := glAt_merge e1 hnd hyl (hyats.keep (fr_same s1))
  generalize upd H td (.dK (mergeK [] (kvD l ys))) = H1 at s1 e1 hG1 ⊢
  refine ⟨_, rfl, o, C, dx, _, rfl, s1 _ _ ho, T.cl, T.n_terms, (by show 0 < 1000; decide), ?_⟩
  refine ⟨_, rfl, _, rfl, o, C, dx, _, rfl, upd_same, T.cl, T.n_fuel, (by show 1 < 1000; decide), ?_⟩
  refine ⟨_, rfl, o, C, dx, _, rfl, upd_same, T.cl, T.n_steps, (by show 2 < 1000; decide), ?_⟩
  rw [upd_upd, upd_upd]
  have e2 : upd H1 o (.ins C dx (putF "steps" (.int 0) (putF "fuel" (.int fu) (putF "terms" (.ref td) [])))) o = some (.ins C dx (putF "steps" (.int 0) (putF "fuel" (.int fu) (putF "terms" (.ref td) [])))) := upd_same
  have k2 : KeepO o H (upd H1 o (.ins C dx (putF "steps" (.int 0) (putF "fuel" (.int fu) (putF "terms" (.ref td) []))))) := fun b u n e => by rw [upd_ne n]; exact s1 _ _ e
  have p2 : Kp H1 (upd H1 o (.ins C dx (putF "steps" (.int 0) (putF "fuel" (.int fu) (putF "terms" (.ref td) []))))) := Kp.upd (s1 _ _ ho) (fun _ z => by cases z) fun _ z => by cases z
  have g2 := hG1.keep p2.fr fun kvs e => p2.2 _ _ e
  generalize upd H1 o (.ins C dx (putF "steps" (.int 0) (putF "fuel" (.int fu) (putF "terms" (.ref td) [])))) = H2 at e2 k2 g2 ⊢
  refine ⟨by show 0 ≤ sizeLine; decide, fun ea hea => ?_⟩
  have s3 := same_new hea (.lst [])
  have a3 : upd H2 ea (.lst []) ea = some (.lst []) := upd_same
  generalize upd H2 ea (.lst []) = H3 at s3 a3 ⊢
  have noe : o ≠ ea := fun z => by rw [z, hea] at e2; cases e2
  refine ⟨_, rfl, o, C, dx, _, rfl, s3 _ _ e2, T.cl, T.n_events, (by show 3 < 1000; decide), ?_⟩
  have e4 : ∀ {fs : List (Str × V)}, upd H3 o (.ins C dx fs) o = some (.ins C dx fs) := upd_same
  refine ⟨by show 0 ≤ sizeLine; decide, fun sa hsa => ?_⟩
  have nos : o ≠ sa := fun z => by rw [z, upd_same] at hsa; cases hsa
  have nea : sa ≠ ea := fun z => by rw [z, upd_ne noe.symm, a3] at hsa; cases hsa
  have hsa3 : H3 sa = none := by rw [upd_ne nos.symm] at hsa; exact hsa
  have s5 := same_new hsa (.lst [])
  refine ⟨_, rfl, o, C, dx, _, rfl, s5 _ _ e4, T.cl, T.n_stack, (by show 4 < 1000; decide), ?_⟩
  refine ⟨_, rfl, o, C, dx, _, rfl, upd_same, T.cl, T.n_term, (by show 5 < 1000; decide), ?_⟩
  intro ad had
  have noa : o ≠ ad := fun z => by rw [z, upd_same] at had; cases had
  have had3 : H3 ad = none := by
    rw [upd_ne noa.symm, upd_ne noa.symm] at had
    by_cases c : ad = sa
    · rw [c]; exact hsa3
    · rw [upd_ne c, upd_ne noa.symm] at had; exact had
  refine ⟨_, rfl, o, C, dx, _, rfl, (by rw [upd_ne noa]; exact upd_same), T.cl, T.n_around, (by show 6 < 1000; decide), ?_⟩
  refine ⟨_, rfl, o, C, dx, _, rfl, upd_same, T.cl, T.n_head, (by show 7 < 1000; decide), ?_⟩
  rw [upd_upd]
  have fre : ∀ {b : Addr}, b ≠ o → H2 b = none → H b = none := fun {b} n h => by
    cases e : H b with
    | none => rfl
    | some u =>
      have := k2 _ _ n e
      rw [h] at this
      cases this
  refine q ⟨o, td, sa, ea, fu⟩ _ rfl rfl (fre nos.symm (free_of s3 hsa3)) (fre noe.symm hea) ?_ ⟨nea, ⟨nos, noe⟩, ⟨[], ?_, rfl⟩, ⟨[], ?_, rfl⟩, ?_, fun d e h => by cases h⟩ ⟨.ref ad, dx, upd_same⟩
  · intro b u n e
    have e3 := s3 _ _ (k2 b u n e)
    rw [upd_ne n, upd_ne (ne_of_none e3 had3), upd_ne n, upd_ne n, upd_ne (ne_of_none e3 hsa3), upd_ne n]
    exact e3
  · show upd _ o _ sa = _
    rw [upd_ne nos.symm]
    by_cases c : sa = ad
    · exfalso
      rw [← c, upd_ne nos.symm, upd_ne nos.symm, upd_same] at had
      cases had
    · rw [upd_ne c, upd_ne nos.symm, upd_ne nos.symm]
      exact upd_same
  · show upd _ o _ ea = _
    rw [upd_ne noe.symm, upd_ne (ne_of_none a3 had3), upd_ne noe.symm, upd_ne noe.symm, upd_ne nea.symm, upd_ne noe.symm]
    exact a3
  · have kk : ∀ (f1 f2 f3 f4 : List (Str × V)) (b : Addr) (u : HO), b ≠ o → H2 b = some u → upd (upd (upd (upd (upd (upd H3 o (HO.ins C dx f1)) sa (HO.lst [])) o (HO.ins C dx f2)) o (HO.ins C dx f3)) ad (HO.dK [])) o (HO.ins C dx f4) b = some u := fun f1 f2 f3 f4 b u n e => by
      have e3 := s3 _ _ e
      rw [upd_ne n, upd_ne (ne_of_none e3 had3), upd_ne n, upd_ne n, upd_ne (ne_of_none e3 hsa3), upd_ne n]
      exact e3
    refine g2.keep ⟨fun a xs e => kk _ _ _ _ _ _ (fun z => by rw [z, e2] at e; cases e) e, fun a zs b _ => b.elim⟩ fun kvs e => kk _ _ _ _ _ _ (fun z => by rw [z, e2] at e; cases e) e
end
end Toy

set_option Elab.async false
set_option linter.all false
set_option maxRecDepth 100000
set_option maxHeartbeats 4000000
/-! Part MW: both sides tell the same. -/
namespace Toy
open PySem L2
open PyProof.Rows (envOfC)
structure TxtHo (K : PySem.W.Frag) (mg : Str → Option Value) (C : Addr) : Prop extends TxtEv K C where
  zlen : mg "len" = none
  ztuple : mg "tuple" = none
section
variable {P : Program} {w : World} {K : PySem.W.Frag} {mg : Str → Option Value} {base : Heap} {C : Addr}
abbrev sHeadOf : Stmt := topS 8
theorem scHeadOf : FnScope ["program", "term", "fuel", "machine", "result", "_", "number"] ["program", "term", "fuel"] (defScope sHeadOf) := ⟨rfl, rfl, rfl, by decide +kernel, rfl, by decide +kernel, by decide +kernel⟩
/-- a program that is run -/
structure RunOk (l : List (Str × Dd)) : Prop where
  nd : (l.map (·.1)).Nodup
  ok : ∀ q ∈ l, TOk q.2
  few : l.length ≤ 1000
def spHeadOf (K : PySem.W.Frag) : Sp := fun vs H Q _ => ∃ (gv tv : V) (F : Nat) (l : List (Str × Dd)) (m : Str) (t : Dd), vs = [gv, tv, .int (F : Int)] ∧ ProgAt H l m gv ∧ RunOk l ∧ t.At F0 H tv ∧ TOk t ∧ F ≤ 400 ∧
  ∀ (v' : V) (H' : Hp), Same H H' → Told K H' (runA (rowGet l) F ⟨.ev t .nil, [], []⟩) v' → Q v' H'
theorem c_headof {f : Addr} {fd : FuncData} (T : TxtHo K mg C) (cEvaluation : C8.Mak P w K mg base 1 "Evaluation" C (spEvInit C) []) (cbegin : C8.Met P w K mg base 1 C "begin" (spBegin C) []) (crun : C8.Met P w K mg base 5 C "run" (spRun K C) []) (F : Fun K "head_of" "head_of" sHeadOf f fd) (b : Binds K fd ["program", "term", "fuel"] []) (hm : mg "head_of" = some (.ref f)) : C8.Cal P w K mg base 6 "head_of" (spHeadOf K) [] := by
  refine cal_of F hm b scHeadOf (fun vs H Q E h => ?_) (fun cdv A outer s H vs Q E hr h => ?_)
  · obtain ⟨gv, tv, F, l, m, t, rfl, _⟩ := h
    rfl
  obtain ⟨gv, tv, F, l, m, t, rfl, hat, hok, ht, htk, hF, q⟩ := h
  refine ⟨_, (pss_cons (ps_set (i := 3) scHeadOf.nd rfl (Or.inl rfl) (C8.pe_mk cEvaluation hr (by decide) rfl (pa_cons (pv 0) (pa_cons (pv 2) pa_nil))))
    (pss_cons (ps_expr (C8.pe_mt cbegin hr (by decide) (pv 3) (pa_cons (pv 1) (pa_cons pe_dnewK pa_nil))))
    (pss_cons (ps_set (i := 4) scHeadOf.nd rfl (Or.inl rfl) (C8.pe_mt0 crun hr (by decide) (pv 3)))
    (C8.pss_cut (ps_if (pt_cmpR op_eq (pe_ix ix_tup (pv 4) pe_int (fun _ _ => rfl)) pe_str (nomark _))
      (pss_one (ps_set (i := 4) scHeadOf.nd rfl (Or.inl rfl) (pe_tup (pa_cons pe_str (pa_cons (pe_ix ix_tup (pv 4) pe_int (fun _ _ => rfl)) (pa_cons (pe_callB call_len_seq rfl T.zlen PySem.boot_len (pa_cons (pe_ix ix_tup (pv 4) pe_int (fun _ _ => rfl)) pa_nil)) pa_nil))))))
      (pss_one (ps_if (pt_cmpR op_eq (pe_ix ix_tup (pv 4) pe_int (fun _ _ => rfl)) pe_str (nomark _))
      (pss_one (ps_set (i := 4) scHeadOf.nd rfl (Or.inl rfl) (pe_tup (pa_cons pe_str pa_nil))))
      pss_nil)))
    (pss_one (ps_ret (pe_tup (pa_cons (pv 4) (pa_cons (pe_fld (pv 3) rfl) (pa_cons (pe_callTy call_tuple_of rfl T.ztuple boot_tuple (pa_cons (pe_lc (own := [("_", 5), ("number", 6)]) (g := gTup K 2 (gCons (gName 5) (gCons (gName 6) (gNil)))) (tt := tYes) rfl scHeadOf.nd (pi_list (pe_fld (pv 3) rfl)) (blkOk_by (own := [("_", 5), ("number", 6)]) (N := ["program", "term", "fuel", "machine", "result", "_", "number"]) (sc := defScope sHeadOf) (by decide +kernel)) (fun _ _ _ _ _ => (pg_tup rfl (pgs_cons (pg_name (i := 5) scHeadOf.nd rfl (Or.inl rfl)) (pgs_cons (pg_name (i := 6) scHeadOf.nd rfl (Or.inl rfl)) pgs_nil)))) (fun _ _ _ _ _ => pts_nil) (fun _ _ _ _ _ => (pv 6))) pa_nil)) pa_nil)))))))))), ?_⟩
  refine ⟨_, rfl, _, rfl, fun o dx ho hdx nex => ?_⟩
  have s1 : Same H (upd (upd H dx (.own o)) o (.ins C dx [])) := fun b u e => by
    rw [upd_ne (ne_of_none e ho), upd_ne (ne_of_none e hdx)]
    exact e
  refine ⟨o, dx, gv, F, l, m, rfl, upd_same, hat.keep s1, hok.nd, fun p H1 hpo hpf hps hpe k1 hB ⟨ar, dx1, ho1⟩ => ⟨rfl, ?_⟩⟩
  subst hpo
  have sH1 : Same H H1 := fun b u e => k1 b u (ne_of_none e ho) (s1 b u e)
  refine ⟨_, rfl, p.mo, dx1, _, rfl, ho1, fE_no_begin .., _, rfl, fun d hd => ?_⟩
  have s2 := same_new hd (.dK [])
  have he2 : EnvP (upd H1 d (.dK [])) (Rho.put (fun _ => none) d .nil) 0 d .nil := ⟨[], upd_same, Nat.le_refl _, fun s => by rw [Env.look]; rfl⟩
  obtain ⟨b2, g2⟩ := hB.ghost hd s2 (Nat.le_refl 0) he2
  have ho2 := s2 _ _ ho1
  have sH2 := sameT sH1 s2
  generalize upd H1 d (.dK []) = H2 at s2 b2 ho2 sH2 ⊢
  refine ⟨p, _, _, _, _, tv, .ref d, dx1, rfl, ho2, ?_⟩
  obtain ⟨b3, kp3, km3⟩ := b2.own (fs' := fE p.td p.fu 0 p.ea p.sa tv (.ref d) .non) ho2
  have ho3 : upd H2 p.mo (.ins C dx1 (fE p.td p.fu 0 p.ea p.sa tv (.ref d) .non)) p.mo = some (.ins C dx1 (fE p.td p.fu 0 p.ea p.sa tv (.ref d) .non)) := upd_same
  have ht3 := (ht.keep (fr_same sH2)).keep kp3.fr
  -- the machine and its lists are new
  have newM : ∀ {G : Hp}, KeepM p (upd H2 p.mo (.ins C dx1 (fE p.td p.fu 0 p.ea p.sa tv (.ref d) .non))) G → Same H G := fun {G} k b u e => by
    have e1 := s1 _ _ e
    have n1 : b ≠ p.mo := ne_of_none e ho
    have n2 : b ≠ p.sa := ne_of_none e1 hps
    have n3 : b ≠ p.ea := ne_of_none e1 hpe
    refine k b u n1 n2 n3 ?_
    rw [upd_ne n1]
    exact s2 _ _ (k1 _ _ n1 e1)
  generalize upd H2 p.mo (.ins C dx1 (fE p.td p.fu 0 p.ea p.sa tv (.ref d) .non)) = H3 at b3 kp3 km3 ho3 ht3 newM ⊢
  refine ⟨_, rfl, p.mo, dx1, _, rfl, ho3, fE_no_run .., p, _, rowGet l, t, .nil, F, rfl, ⟨b3, _, _, _, ⟨dx1, ho3⟩, ht3, d, rfl, Rho.put_self ..⟩, htk, by rw [Env.ok]; trivial, fun s u hg => hok.ok _ (rowGet_mem hg), hpf, hF, fun v4 H4 tm4 ar4 hd4 ys k4 hfin hmo hea hys hyb => ?_⟩
  have sH4 := newM k4
  generalize runA (rowGet l) F ⟨.ev t .nil, [], []⟩ = R at hfin hmo hys q
  obtain ⟨dx4, ho4⟩ := hmo
  -- what is told of the head
  refine ⟨fun σ' G => ∃ ra, σ' = [some gv, some tv, some (.int (F : Int)), some (.ref p.mo), some (.ref ra), none, none] ∧ Same H4 G ∧ SqT K G ra (finV R.1), ?_, ?_⟩
  · have flat : ∀ {w' : Str} {a : Addr} {xs : List V}, v4 = .ref a → SqT K H4 a (.str w' :: xs) → w' ≠ "con" → w' ≠ "fun" → True := fun _ _ _ _ => trivial
    cases hR1 : R.1 with
    | head h =>
      rw [hR1] at hfin
      obtain ⟨r, hh⟩ := hfin
      cases h with
      | num i =>
        obtain ⟨a, rfl, ha⟩ := hh
        refine ⟨_, rfl, a, _, 0, _, rfl, rfl, SqT.of ha, at0 _ _, rfl, _, rfl, ?_⟩
        refine iteF ?_
        refine ⟨_, rfl, a, _, 0, _, rfl, rfl, SqT.of ha, at0 _ _, rfl, _, rfl, ?_⟩
        refine iteF ?_
        exact ⟨a, rfl, fun _ _ e => e, SqT.of ha⟩
      | con tg l2 e2 =>
        obtain ⟨a, pp, xs, d2, rfl, ha, hp, hxs, _⟩ := hh
        have hxl := ats_len hxs
        refine ⟨_, rfl, a, _, 0, _, rfl, rfl, SqT.of ha, at0 _ _, rfl, _, rfl, ?_⟩
        refine iteT ?_
        refine ⟨_, rfl, a, _, 1, _, rfl, rfl, SqT.of ha, at1 _ _ _, _, rfl, a, _, 2, _, rfl, rfl, SqT.of ha, at2 _ _ _ _, pp, _, rfl, .inr (SqT.of hp), by show 3 ≤ sizeLine; decide, fun t8 ht8 => ?_⟩
        rw [hxl]
        exact ⟨t8, rfl, same_new ht8 _, SqT.of upd_same⟩
      | fn x b e2 =>
        obtain ⟨a, bv, d2, rfl, ha, _⟩ := hh
        refine ⟨_, rfl, a, _, 0, _, rfl, rfl, SqT.of ha, at0 _ _, rfl, _, rfl, ?_⟩
        refine iteF ?_
        refine ⟨_, rfl, a, _, 0, _, rfl, rfl, SqT.of ha, at0 _ _, rfl, _, rfl, ?_⟩
        refine iteT ?_
        refine ⟨by show 1 ≤ sizeLine; decide, fun t8 ht8 => ?_⟩
        exact ⟨t8, rfl, same_new ht8 _, SqT.of upd_same⟩
    | more =>
      rw [hR1] at hfin
      obtain ⟨a, rfl, ha⟩ := hfin
      refine ⟨_, rfl, a, _, 0, _, rfl, rfl, ha, at0 _ _, rfl, _, rfl, ?_⟩
      refine iteF ?_
      refine ⟨_, rfl, a, _, 0, _, rfl, rfl, ha, at0 _ _, rfl, _, rfl, ?_⟩
      refine iteF ?_
      exact ⟨a, rfl, fun _ _ e => e, ha⟩
    | stuck =>
      rw [hR1] at hfin
      obtain ⟨a, rfl, ha⟩ := hfin
      refine ⟨_, rfl, a, _, 0, _, rfl, rfl, ha, at0 _ _, rfl, _, rfl, ?_⟩
      refine iteF ?_
      refine ⟨_, rfl, a, _, 0, _, rfl, rfl, ha, at0 _ _, rfl, _, rfl, ?_⟩
      refine iteF ?_
      exact ⟨a, rfl, fun _ _ e => e, ha⟩
    | fault sf =>
      rw [hR1] at hfin
      obtain ⟨a, rfl, ha⟩ := hfin
      refine ⟨_, rfl, a, _, 0, _, rfl, rfl, ha, at0 _ _, rfl, _, rfl, ?_⟩
      refine iteF ?_
      refine ⟨_, rfl, a, _, 0, _, rfl, rfl, ha, at0 _ _, rfl, _, rfl, ?_⟩
      refine iteF ?_
      exact ⟨a, rfl, fun _ _ e => e, ha⟩
  · rintro _ G ⟨ra, rfl, sG, hra⟩
    have hoG := sG _ _ ho4
    have heaG := sG _ _ hea
    refine ⟨_, rfl, _, rfl, p.mo, C, dx4, _, _, rfl, hoG, T.cl, T.n_steps, fE_steps .., _, rfl, p.mo, C, dx4, _, .ref p.ea, rfl, hoG, T.cl, T.n_events, fE_events .., p.ea, rfl, ⟨_, SqL.of heaG⟩, fun D hD => ?_⟩
    refine lc_list (a := p.ea) (xs := ys) (fun i G' => Same G G' ∧ G' D = some (.lst ((R.2.2.take i).map V.int))) ⟨same_new hD _, upd_same⟩ (fun i G' _ ⟨s, _⟩ => SqL.of (s _ _ heaG)) ?_ ?_
    · rintro i x G' hx ⟨sG', hG'⟩
      obtain ⟨kk, hk, hkx⟩ := ats_get hys hx
      rw [List.getElem?_map] at hk
      obtain ⟨n, hn, rfl⟩ := Option.map_eq_some_iff.mp hk
      obtain ⟨te, x1, y1, rfl, hte, hx1, hy1⟩ := pair_at (m := [.str "note", .int n]) hkx rfl
      cases (show y1 = .int n from hy1)
      have hteG := sG' _ _ (sG _ _ hte)
      refine ⟨te, _, rfl, SqT.of hteG, rfl, _, _, rfl, _, _, rfl, rfl, rfl, ?_⟩
      refine tYes_if ?_
      have hil := (List.getElem?_eq_some_iff.mp hn).1
      refine ⟨_, rfl, _, hG', ?_, same_upd hD sG' _, ?_⟩
      · rw [List.length_map, List.length_take]
        have hyl := ats_len hys
        rw [List.length_map] at hyl
        have h1 := Nat.min_le_right i R.2.2.length
        have h2 : 400 < sizeLine := by decide
        omega
      · rw [upd_same, List.take_add_one, hn, List.map_append]
        rfl
    · rintro G2 ⟨sG2, hG2⟩
      have hyl := ats_len hys
      rw [List.length_map] at hyl
      rw [hyl, List.take_length] at hG2
      refine ⟨D, _, rfl, .inl ⟨SqL.of hG2, fun t8 ht8 => ?_⟩⟩
      have s8 := same_new ht8 (.tup (R.2.2.map V.int))
      have e8 : upd G2 t8 (.tup (R.2.2.map V.int)) t8 = some (.tup (R.2.2.map V.int)) := upd_same
      generalize upd G2 t8 (.tup (R.2.2.map V.int)) = G3 at s8 e8 ⊢
      refine ⟨by show 3 ≤ sizeLine; decide, fun t9 ht9 => ?_⟩
      have s9 := same_new ht9 (.tup [.ref ra, .int (R.2.1 : Nat), .ref t8])
      have s49 := sameT sG2 (sameT s8 s9)
      refine q _ _ (sameT sH4 (sameT sG s49)) ⟨t9, ra, t8, rfl, SqT.of upd_same, sqT_keep hra s49, SqT.of (s9 _ _ e8)⟩
end
end Toy

set_option Elab.async false
set_option linter.all false
set_option maxRecDepth 100000
set_option maxHeartbeats 4000000
/-! Part MX: the law's own answer; one question. -/
namespace Toy
open PySem L2
open PyProof.Rows (envOfC)
theorem rk_merge (td ea : Addr) (fu : Int) : mergeK [] [((Sum.inr "terms" : Key), V.ref td), (Sum.inr "fuel", .int fu), (Sum.inr "steps", .int 0), (Sum.inr "events", .ref ea)] = runKv td ea fu 0 := by
  have h1 : ¬ ("terms" : Str) = "fuel" := by decide +kernel
  have h2 : ¬ ("terms" : Str) = "steps" := by decide +kernel
  have h3 : ¬ ("terms" : Str) = "events" := by decide +kernel
  have h4 : ¬ ("fuel" : Str) = "steps" := by decide +kernel
  have h5 : ¬ ("fuel" : Str) = "events" := by decide +kernel
  have h6 : ¬ ("steps" : Str) = "events" := by decide +kernel
  simp [mergeK, putK, runKv, h1, h2, h3, h4, h5, h6]
theorem GlAt.put {H H' : Hp} {td : Addr} {l : List (Str × Dd)} {q : Str × Dd} {kvs : List (Key × V)} {y : V} (hd : H td = some (.dK kvs)) (g : GlAt H td (rowGet l)) (f : Fr F0 H H') (e : H' td = some (.dK (putK kvs (Sum.inr q.1) y))) (hn : q.1 ∉ l.map (·.1)) (hy : q.2.At F0 H' y) : GlAt H' td (rowGet (l ++ [q])) := by
  obtain ⟨kvs', h1, h2⟩ := g
  rw [hd] at h1
  cases h1
  refine ⟨_, e, fun s => ?_⟩
  rw [rowGet_snoc hn]
  by_cases c : q.1 = s
  · rw [if_pos c]
    exact ⟨y, by rw [valV_put, if_pos (by rw [c])], hy⟩
  · rw [if_neg c]
    have h3 := h2 s
    have hv : valV (putK kvs (Sum.inr q.1) y) (Sum.inr s) = valV kvs (Sum.inr s) := by rw [valV_put, if_neg (fun z => c (Sum.inr.inj z).symm)]
    cases hg : rowGet l s with
    | none =>
      rw [hg] at h3
      exact hv.trans h3
    | some t =>
      rw [hg] at h3
      obtain ⟨v, h4, h5⟩ := h3
      exact ⟨v, hv.trans h4, h5.keep f⟩
theorem up_evs {g : Frm} {h : Head} {stk : List Frm} {evs : List Int} {m : Mst} (hd : upA g h stk evs = .go m) : m.evs = evs := by
  cases g with
  | arg t e =>
    cases h with
    | num i => cases hd
    | con tg l e2 => cases hd
    | fn x b e2 => cases hd; rfl
  | seq x b e => cases hd; rfl
  | ch z rows d e =>
    rcases up_ch (z := z) (rows := rows) (d := d) (e := e) (h := h) stk evs with ⟨h1, h2⟩ | ⟨f1, h1, h2⟩ | ⟨t1, e1, h1, h2⟩
    · rw [h2] at hd; cases hd
    · rw [h2] at hd; cases hd
    · rw [h2] at hd; cases hd; rfl
  | snd sg t e =>
    cases h with
    | con tg l e2 => cases hd
    | fn x b e2 => cases hd
    | num i => cases hd; rfl
  | fst sg i =>
    cases h with
    | con tg l e2 => cases hd
    | fn x b e2 => cases hd
    | num j =>
      have hd : primA sg i j stk evs = .go m := hd
      rcases prim_ok (s := sg) (i := i) (j := j) (stk := stk) (evs := evs) with ⟨h2, p1, p2, p3⟩ | ⟨f2, p1, p2⟩
      · rw [p1] at hd; cases hd; rfl
      · rw [p1] at hd; cases hd
theorem down_evs {gl : Str → Option Dd} {z : Str} {r : List Dd} {e : Env} {stk : List Frm} {evs : List Int} {m : Mst} (hd : downW gl z r e stk evs = .go m) : m.evs.length ≤ evs.length + 1 := by
  have l2 : ∀ n : Int, (evs ++ [n]).length ≤ evs.length + 1 := fun g => by rw [List.length_append]; exact Nat.le_refl _
  unfold downW at hd
  split at hd
  · split at hd
    · cases hd; exact Nat.le_succ _
    · split at hd
      · cases hd; exact Nat.le_succ _
      · cases hd
  · split at hd
    · cases hd; exact Nat.le_succ _
    · split at hd
      · cases hd; exact Nat.le_succ _
      · split at hd
        · cases hd; exact Nat.le_succ _
        · split at hd
          · cases hd; exact Nat.le_succ _
          · split at hd
            · cases hd; exact l2 _
            · cases hd; exact Nat.le_succ _
theorem step_evs {gl : Str → Option Dd} {m m' : Mst} (hd : stepA gl m = .go m') : m'.evs.length ≤ m.evs.length + 1 := by
  obtain ⟨c, s, v⟩ := m
  cases c with
  | ev t e =>
    unfold stepA at hd
    dsimp only at hd
    split at hd
    · exact down_evs hd
    · cases hd
  | hd h =>
    unfold stepA at hd
    dsimp only at hd
    split at hd
    · cases hd
    · rw [up_evs hd]
      exact Nat.le_succ _
theorem norm_evs (m : Mst) : (norm m).evs = m.evs := by
  obtain ⟨c, s, v⟩ := m
  cases c with
  | hd h => rfl
  | ev t e =>
    cases he : enterA t e with
    | some h => rw [norm_some he]
    | none => rw [norm_none he]
theorem runA_evs {gl : Str → Option Dd} : ∀ (k : Nat) (m : Mst), (runA gl k m).2.2.length ≤ m.evs.length + k
  | 0, m => by
    unfold runA
    split
    · show (norm m).evs.length ≤ _; rw [norm_evs]; exact Nat.le_refl _
    · show (norm m).evs.length ≤ _; rw [norm_evs]; exact Nat.le_refl _
  | k + 1, m => by
    unfold runA
    split
    · show (norm m).evs.length ≤ _; rw [norm_evs]; omega
    · split
      · show (norm m).evs.length ≤ _; rw [norm_evs]; omega
      · show (norm m).evs.length ≤ _; rw [norm_evs]; omega
      · rename_i m' hst
        have h1 := step_evs hst
        have h2 := runA_evs (gl := gl) k m'
        rw [norm_evs] at h1
        show (runA gl k m').2.2.length ≤ _
        omega
structure TxtDu (mg : Str → Option Value) : Prop where
  zlen : mg "len" = none
  ztuple : mg "tuple" = none
section
variable {P : Program} {w : World} {K : PySem.W.Frag} {mg : Str → Option Value} {base : Heap} {C : Addr}
abbrev sLRun : Stmt := topS 58
theorem scLRun : FnScope ["program", "fuel", "terms", "name", "term"] ["program", "fuel"] (defScope sLRun) := ⟨rfl, rfl, rfl, by decide +kernel, rfl, by decide +kernel, by decide +kernel⟩
def spLRun : Sp := fun vs H Q _ => ∃ (gv : V) (F : Int) (l : List (Str × Dd)) (m : Str), vs = [gv, .int F] ∧ ProgAt H l m gv ∧ RunOk l ∧ ∀ (rn td ea : Addr) (H' : Hp), Same H H' → H rn = none → H ea = none → td ≠ rn → H' rn = some (.dK (runKv td ea F 0)) → H' ea = some (.lst []) → GlAt H' td (rowGet l) → Q (.ref rn) H'
theorem c_lrun {f : Addr} {fd : FuncData} (F : Fun K "_law_run" "_law_run" sLRun f fd) (b : Binds K fd ["program", "fuel"] []) (hm : mg "_law_run" = some (.ref f)) : C8.Cal P w K mg base 1 "_law_run" spLRun [] := by
  refine cal_of F hm b scLRun (fun vs H Q E h => ?_) (fun cdv A outer s H vs Q E hr h => ?_)
  · obtain ⟨gv, F, l, m, rfl, _⟩ := h
    rfl
  obtain ⟨gv, F, l, m, rfl, hat, hok, q⟩ := h
  have hu := hu_of hr
  have hbig : (16700000 : Nat) < sizeLine := by decide
  refine ⟨_, (pss_cons (ps_set (i := 2) scLRun.nd rfl (Or.inl rfl) pe_dnewK)
    (pss_cons (ps_for PassesOwn.never rfl (pi_tup (pe_ix ix_tup (pv 0) pe_int (fun _ _ => rfl))) (pg_tup rfl (pgs_cons (pg_name (i := 3) scLRun.nd rfl (Or.inl rfl)) (pgs_cons (pg_name (i := 4) scLRun.nd rfl (Or.inl rfl)) pgs_nil)))
      (pss_one (ps_dput hu (pv 2) (pv 3) (pv 4) rfl)))
    (pss_one (ps_ret (pe_disp (pps_cons pe_str (pv 2) (pps_cons pe_str (pv 1) (pps_cons pe_str pe_int (pps_cons pe_str (pe_lst pa_nil) pps_nil)))) rfl rfl (by decide) (by decide)))))), ?_⟩
  obtain ⟨a, t, ob, xs, rfl, ha, ht, hob, hats, _⟩ := hat
  have hxl := ats_len hats
  rw [List.length_map] at hxl
  have hfew := hok.few
  have hnd := hok.nd
  intro td htd
  have s0 := same_new htd (.dK [])
  have e0 : upd H td (.dK []) td = some (.dK []) := upd_same
  have g0 : GlAt (upd H td (.dK [])) td (rowGet []) := ⟨[], upd_same, fun s => rfl⟩
  generalize upd H td (.dK []) = H0 at s0 e0 g0 ⊢
  refine ⟨_, rfl, a, _, 0, _, rfl, rfl, SqT.of (s0 _ _ ha), at0 _ _, t, rfl, ⟨_, SqT.frz (s0 _ _ ht)⟩, for_tup (a := t) (xs := xs) (fun i σ G => ∃ (v3 v4 : Option V) (ks : List (Key × V)), σ = [some (.ref a), some (.int F), some (.ref td), v3, v4] ∧ Same H G ∧ G td = some (.dK ks) ∧ ks.length ≤ i ∧ GlAt G td (rowGet (l.take i)))
    ⟨_, _, [], rfl, s0, e0, Nat.le_refl _, g0⟩ (fun i σ G _ ⟨_, _, _, _, h, _⟩ => SqT.frz (h _ _ ht)) ?_ ?_⟩
  · rintro i x σ G hx ⟨v3, v4, ks, rfl, sG, eG, kl, gG⟩
    obtain ⟨qq, tt, y, hq, rfl, htt, hy⟩ := ats_rows (hats.keep (fr_same sG)) hx
    have hil := (List.getElem?_eq_some_iff.mp hq).1
    refine ⟨tt, _, rfl, SqT.of htt, rfl, _, _, rfl, _, _, rfl, rfl, ?_⟩
    refine ⟨_, rfl, _, rfl, _, rfl, td, _, rfl, DPut.k (k := Sum.inr qq.1) eG (by omega), ?_⟩
    have f9 : Fr F0 G (upd G td (.dK (putK ks (Sum.inr qq.1) y))) := ⟨fun b xs e => by rw [upd_ne (fun z => by rw [z, eG] at e; cases e)]; exact e, fun b zs h _ => h.elim⟩
    refine ⟨_, _, _, rfl, fun b u e => ?_, upd_same, Nat.le_trans (length_putK ..) (by omega), ?_⟩
    · rw [upd_ne (ne_of_none e htd)]
      exact sG _ _ e
    · rw [take_snoc hq]
      refine GlAt.put eG gG f9 upd_same (fun hm => ?_) (hy.keep f9)
      rw [List.map_take] at hm
      have h3 : (l.map (·.1))[i]? = some qq.1 := by rw [List.getElem?_map, hq]; rfl
      have e : l.map (·.1) = (l.map (·.1)).take i ++ qq.1 :: (l.map (·.1)).drop (i + 1) := by rw [← drop_at h3, List.take_append_drop]
      rw [e] at hnd
      exact (List.nodup_append.mp hnd).2.2 _ hm _ List.mem_cons_self rfl
  · rintro σ G ⟨v3, v4, ks, rfl, sG, eG, kl, gG⟩
    rw [hxl, List.take_length] at gG
    intro rn hrn
    have s1 := same_new hrn (.dK [])
    have e1 : upd G rn (.dK []) rn = some (.dK []) := upd_same
    have ntr : td ≠ rn := fun z => by rw [← z, eG] at hrn; cases hrn
    have g1 := gG.keep (fr_same s1) fun kvs e => s1 _ _ e
    generalize upd G rn (.dK []) = H1 at s1 e1 g1 ⊢
    refine ⟨_, rfl, _, rfl, by show 0 ≤ sizeLine; decide, fun ea hea => ?_⟩
    have s2 := same_new hea (.lst [])
    have a2 : upd H1 ea (.lst []) ea = some (.lst []) := upd_same
    have e2 := s2 _ _ e1
    have nre : ea ≠ rn := fun z => by rw [z, e1] at hea; cases hea
    have g2 := g1.keep (fr_same s2) fun kvs e => s2 _ _ e
    generalize upd H1 ea (.lst []) = H2 at s2 a2 e2 g2 ⊢
    refine ⟨e2, [(Sum.inr "terms", V.ref td), (Sum.inr "fuel", V.int F), (Sum.inr "steps", V.int 0), (Sum.inr "events", V.ref ea)], rfl, (by show 4 ≤ 15; decide), ?_⟩
    rw [rk_merge]
    have f3 : Fr F0 H2 (upd H2 rn (.dK (runKv td ea F 0))) := ⟨fun b xs e => by rw [upd_ne (fun z => by rw [z, e2] at e; cases e)]; exact e, fun b zs h _ => h.elim⟩
    refine q rn td ea _ (fun b u e => ?_) (free_of sG hrn) (free_of sG (free_of s1 hea)) ntr upd_same (by rw [upd_ne nre]; exact a2) (g2.keep f3 fun kvs e => by rw [upd_ne ntr]; exact e)
    have e3 := sG _ _ e
    rw [upd_ne (ne_of_none e3 hrn)]
    exact s2 _ _ (s1 _ _ e3)
abbrev sLDue : Stmt := topS 59
theorem scLDue : FnScope ["program", "term", "fuel", "run", "head", "event"] ["program", "term", "fuel"] (defScope sLDue) := ⟨rfl, rfl, rfl, by decide +kernel, rfl, by decide +kernel, by decide +kernel⟩
theorem c_ldue {f : Addr} {fd : FuncData} (T : TxtDu mg) (c_law_run : C8.Cal P w K mg base 1 "_law_run" spLRun []) (c_law_evaluate : C8.Cal P w K mg base 3 "_law_evaluate" spEval []) (F : Fun K "_law_due" "_law_due" sLDue f fd) (b : Binds K fd ["program", "term", "fuel"] []) (hm : mg "_law_due" = some (.ref f)) : C8.Cal P w K mg base 6 "_law_due" (spHeadOf K) [] := by
  refine cal_of F hm b scLDue (fun vs H Q E h => ?_) (fun cdv A outer s H vs Q E hr h => ?_)
  · obtain ⟨gv, tv, F, l, m, t, rfl, _⟩ := h
    rfl
  obtain ⟨gv, tv, F, l, m, t, rfl, hat, hok, ht, htk, hF, q⟩ := h
  have hu := hu_of hr
  refine ⟨_, (pss_cons (ps_set (i := 3) scLDue.nd rfl (Or.inl rfl) (C8.pe_c c_law_run hr (by decide) rfl (pa_cons (pv 0) (pa_cons (pv 2) pa_nil))))
    (pss_cons (ps_set (i := 4) scLDue.nd rfl (Or.inl rfl) (C8.pe_c c_law_evaluate hr (by decide) rfl (pa_cons (pv 1) (pa_cons pe_non (pa_cons (pv 3) pa_nil)))))
    (C8.pss_cut (ps_if (pt_cmpR op_eq (pe_ix ix_tup (pv 4) pe_int (fun _ _ => rfl)) pe_str (nomark _))
      (pss_one (ps_set (i := 4) scLDue.nd rfl (Or.inl rfl) (pe_tup (pa_cons pe_str (pa_cons (pe_ix ix_tup (pv 4) pe_int (fun _ _ => rfl)) (pa_cons (pe_callB call_len_seq rfl T.zlen PySem.boot_len (pa_cons (pe_ix ix_tup (pv 4) pe_int (fun _ _ => rfl)) pa_nil)) pa_nil))))))
      pss_nil)
    (C8.pss_cut (ps_if (pt_cmpR op_eq (pe_ix ix_tup (pv 4) pe_int (fun _ _ => rfl)) pe_str (nomark _))
      (pss_one (ps_set (i := 4) scLDue.nd rfl (Or.inl rfl) (pe_tup (pa_cons pe_str pa_nil))))
      pss_nil)
    (pss_one (ps_ret (pe_tup (pa_cons (pv 4) (pa_cons (pe_dget hu (pv 3) pe_str (fun _ _ => rfl)) (pa_cons (pe_callTy call_tuple_of rfl T.ztuple boot_tuple (pa_cons (pe_lc (own := [("event", 5)]) (g := gName 5) (tt := tYes) (te := (tOp (rIxT K) (tVar 5) (tC (.int 1)))) rfl scLDue.nd (pi_list (pe_dget hu (pv 3) pe_str (fun _ _ => rfl))) (blkOk_by (own := [("event", 5)]) (N := ["program", "term", "fuel", "run", "head", "event"]) (sc := defScope sLDue) (by decide +kernel)) (fun _ _ _ _ _ => (pg_name (i := 5) scLDue.nd rfl (Or.inl rfl))) (fun _ _ _ _ _ => pts_nil) (fun _ _ _ _ _ => (pe_ix ix_tup (pv 5) pe_int (fun _ _ => rfl)))) pa_nil)) pa_nil)))))))))), ?_⟩
  refine ⟨_, rfl, _, rfl, gv, (F : Int), l, m, rfl, hat, hok, fun rn td ea H1 s1 nrn nea ntr hrn hea hG => ?_⟩
  refine ⟨_, rfl, _, rfl, t, tv, .nil, .non, rn, td, ea, rowGet l, F, rfl, ht.keep (fr_same s1), htk, by rw [Env.L], by rw [Env.ok]; trivial, hrn, hea, hG, ntr, fun s u hg => hok.ok _ (rowGet_mem hg), by omega, fun v2 H2 ys k2 hfin hr2 he2 hys => ?_⟩
  have sH2 : Same H H2 := fun b u e => k2 b u (ne_of_none e nrn) (ne_of_none e nea) (s1 _ _ e)
  have hevl : ys.length ≤ 1000000 := by
    have hyl := ats_len hys
    rw [List.length_map] at hyl
    have := runA_evs (gl := rowGet l) F ⟨.ev t .nil, [], []⟩
    have e0 : (⟨.ev t .nil, [], []⟩ : Mst).evs.length = 0 := rfl
    omega
  generalize runA (rowGet l) F ⟨.ev t .nil, [], []⟩ = R at hfin hr2 hys q
  refine ⟨fun σ' G => ∃ hv, σ' = [some gv, some tv, some (.int (F : Int)), some (.ref rn), some hv, none] ∧ Same H2 G ∧ ∃ ra, hv = .ref ra ∧ ((∃ x b e bv ev, R.1 = .head (.fn x b e) ∧ G ra = some (.tup [.str "fun", .str x, bv, ev])) ∨ ((∀ x b e, R.1 ≠ .head (.fn x b e)) ∧ G ra = some (.tup (finV R.1)))), ?_, ?_⟩
  · cases hR1 : R.1 with
    | head h =>
      rw [hR1] at hfin
      have hfin : h.L H2 v2 := hfin
      cases h with
      | num i =>
        rw [Head.L] at hfin
        obtain ⟨a, rfl, ha⟩ := hfin
        refine ⟨_, rfl, a, _, 0, _, rfl, rfl, SqT.of ha, at0 _ _, rfl, _, rfl, ?_⟩
        refine iteF ?_
        exact ⟨_, rfl, fun _ _ e => e, a, rfl, .inr ⟨fun _ _ _ h => (by cases h), ha⟩⟩
      | con tg l2 e2 =>
        rw [Head.L] at hfin
        obtain ⟨a, pp, xs, ev, rfl, ha, hp, hxs, _⟩ := hfin
        have hxl := ats_len hxs
        refine ⟨_, rfl, a, _, 0, _, rfl, rfl, SqT.of ha, at0 _ _, rfl, _, rfl, ?_⟩
        refine iteT ?_
        refine ⟨_, rfl, a, _, 1, _, rfl, rfl, SqT.of ha, at1 _ _ _, _, rfl, a, _, 2, _, rfl, rfl, SqT.of ha, at2 _ _ _ _, pp, _, rfl, .inr (SqT.of hp), by show 3 ≤ sizeLine; decide, fun t8 ht8 => ?_⟩
        rw [hxl]
        exact ⟨_, rfl, same_new ht8 _, t8, rfl, .inr ⟨fun _ _ _ h => (by cases h), upd_same⟩⟩
      | fn x b e2 =>
        rw [Head.L] at hfin
        obtain ⟨a, bv, ev, rfl, ha, _⟩ := hfin
        refine ⟨_, rfl, a, _, 0, _, rfl, rfl, SqT.of ha, at0 _ _, rfl, _, rfl, ?_⟩
        refine iteF ?_
        exact ⟨_, rfl, fun _ _ e => e, a, rfl, .inl ⟨x, b, e2, bv, ev, rfl, ha⟩⟩
    | more =>
      rw [hR1] at hfin
      obtain ⟨a, rfl, ha⟩ := hfin
      refine ⟨_, rfl, a, _, 0, _, rfl, rfl, SqT.of ha, at0 _ _, rfl, _, rfl, ?_⟩
      refine iteF ?_
      exact ⟨_, rfl, fun _ _ e => e, a, rfl, .inr ⟨fun _ _ _ h => (by cases h), ha⟩⟩
    | stuck =>
      rw [hR1] at hfin
      obtain ⟨a, rfl, ha⟩ := hfin
      refine ⟨_, rfl, a, _, 0, _, rfl, rfl, SqT.of ha, at0 _ _, rfl, _, rfl, ?_⟩
      refine iteF ?_
      exact ⟨_, rfl, fun _ _ e => e, a, rfl, .inr ⟨fun _ _ _ h => (by cases h), ha⟩⟩
    | fault sf =>
      rw [hR1] at hfin
      obtain ⟨a, rfl, ha⟩ := hfin
      refine ⟨_, rfl, a, _, 0, _, rfl, rfl, SqT.of ha, at0 _ _, rfl, _, rfl, ?_⟩
      refine iteF ?_
      exact ⟨_, rfl, fun _ _ e => e, a, rfl, .inr ⟨fun _ _ _ h => (by cases h), ha⟩⟩
  rintro _ G ⟨hv, rfl, sG, ra, rfl, hra⟩
  refine ⟨fun σ' G' => ∃ rb, σ' = [some gv, some tv, some (.int (F : Int)), some (.ref rn), some (.ref rb), none] ∧ Same G G' ∧ SqT K G' rb (finV R.1), ?_, ?_⟩
  · rcases hra with ⟨x, b, e, bv, ev, hR1, ha⟩ | ⟨hno, ha⟩
    · refine ⟨_, rfl, ra, _, 0, _, rfl, rfl, SqT.of ha, at0 _ _, rfl, _, rfl, ?_⟩
      refine iteT ?_
      refine ⟨by show 1 ≤ sizeLine; decide, fun t8 ht8 => ?_⟩
      exact ⟨t8, rfl, same_new ht8 _, by rw [hR1]; exact SqT.of upd_same⟩
    · have two : ∃ (z : Str) (zs : List V), finV R.1 = .str z :: zs ∧ z ≠ "fun" := by
        cases hR1 : R.1 with
        | head h =>
          cases h with
          | num i => exact ⟨_, _, rfl, by decide +kernel⟩
          | con tg l2 e2 => exact ⟨_, _, rfl, by decide +kernel⟩
          | fn x b e2 => exact absurd hR1 (hno x b e2)
        | more => exact ⟨_, _, rfl, by decide +kernel⟩
        | stuck => exact ⟨_, _, rfl, by decide +kernel⟩
        | fault sf => exact ⟨_, _, rfl, by decide +kernel⟩
      obtain ⟨z, zs, hz, hne⟩ := two
      have ha2 := ha
      rw [hz] at ha2
      refine ⟨_, rfl, ra, _, 0, _, rfl, rfl, SqT.of ha2, at0 _ _, rfl, _, rfl, ?_⟩
      show if decide (V.str z = V.str "fun") = true then _ else _
      rw [wne hne]
      refine iteF ?_
      exact ⟨ra, rfl, fun _ _ e => e, SqT.of ha⟩
  rintro _ G1 ⟨rb, rfl, sG1, hrb⟩
  have s21 := sameT sG sG1
  have heG := s21 _ _ he2
  have hrG := s21 _ _ hr2
  refine ⟨_, rfl, _, rfl, rn, _, rfl, rk_steps hrG, _, rfl, rn, _, rfl, rk_events hrG, ea, rfl, ⟨_, SqL.of heG⟩, fun D hD => ?_⟩
  refine lc_list (a := ea) (xs := ys) (fun i G' => Same G1 G' ∧ G' D = some (.lst ((R.2.2.take i).map V.int))) ⟨same_new hD _, upd_same⟩ (fun i G' _ ⟨s, _⟩ => SqL.of (s _ _ heG)) ?_ ?_
  · rintro i x G' hx ⟨sG', hG'⟩
    obtain ⟨kk, hk, hkx⟩ := ats_get hys hx
    rw [List.getElem?_map] at hk
    obtain ⟨n, hn, rfl⟩ := Option.map_eq_some_iff.mp hk
    obtain ⟨te, x1, y1, rfl, hte, hx1, hy1⟩ := pair_at (m := [.str "note", .int n]) hkx rfl
    cases (show y1 = .int n from hy1)
    have hteG := sG' _ _ (s21 _ _ hte)
    refine ⟨rfl, ?_⟩
    refine tYes_if ?_
    have hyl := ats_len hys
    rw [List.length_map] at hyl
    have hbig : (1000000 : Nat) < sizeLine := by decide
    refine ⟨_, rfl, te, _, 1, _, rfl, rfl, SqT.of hteG, at1 _ _ _, _, hG', ?_, same_upd hD sG' _, ?_⟩
    · rw [List.length_map, List.length_take]
      have h1 := Nat.min_le_right i R.2.2.length
      omega
    · rw [upd_same, List.take_add_one, hn, List.map_append]
      rfl
  · rintro G2 ⟨sG2, hG2⟩
    have hyl := ats_len hys
    rw [List.length_map] at hyl
    rw [hyl, List.take_length] at hG2
    refine ⟨D, _, rfl, .inl ⟨SqL.of hG2, fun t8 ht8 => ?_⟩⟩
    have s8 := same_new ht8 (.tup (R.2.2.map V.int))
    have e8 : upd G2 t8 (.tup (R.2.2.map V.int)) t8 = some (.tup (R.2.2.map V.int)) := upd_same
    generalize upd G2 t8 (.tup (R.2.2.map V.int)) = G3 at s8 e8 ⊢
    refine ⟨by show 3 ≤ sizeLine; decide, fun t9 ht9 => ?_⟩
    have s9 := same_new ht9 (.tup [.ref rb, .int (R.2.1 : Nat), .ref t8])
    have s49 := sameT sG2 (sameT s8 s9)
    refine q _ _ (sameT sH2 (sameT s21 s49)) ⟨t9, rb, t8, rfl, SqT.of upd_same, sqT_keep hrb s49, SqT.of (s9 _ _ e8)⟩
end
end Toy

set_option Elab.async false
set_option linter.all false
set_option maxRecDepth 100000
set_option maxHeartbeats 4000000
/-! Part MY: one question, asked of both. -/
namespace Toy
open PySem L2
open PyProof.Rows (envOfC)
theorem tyX_sqT {K : PySem.W.Frag} {H : Hp} {a : Addr} {xs : List V} (h : SqT K H a xs) : TyX K H (.ref a) (.type "tuple") := by
  rcases h with (h | ⟨o, h⟩) | ⟨o, its, n, h1, h2, _⟩
  · exact .base (.tup h)
  · exact .fTuple h
  · exact .kTuple h1 h2
mutual
def Dd.D : Dd → PyData
  | .non => .none
  | .bl b => .bool b
  | .int i => .int i
  | .str s => .str s
  | .tup l => .tuple (Dd.Ds l)
  | .lst l => .list (Dd.Ds l)
def Dd.Ds : List Dd → List PyData
  | [] => []
  | k :: l => k.D :: Dd.Ds l
end
mutual
theorem Dd.At.dp {K : PySem.W.Frag} {H : Hp} : ∀ {k : Dd} {v : V}, k.At F0 H v → Dp K H v k.D
  | .non, _, h => by cases (show _ = V.non from h); exact .non
  | .bl b, _, h => by cases (show _ = V.bl b from h); exact .bl b
  | .int i, _, h => by cases (show _ = V.int i from h); exact .int i
  | .str s, _, h => by obtain ⟨e, _⟩ := (show _ = V.str s ∧ _ from h); cases e; exact .str s
  | .tup l, _, ⟨a, xs, e, h, hs⟩ => by cases e; exact .tup (SqT.of h) (Dd.Ats.dp hs)
  | .lst l, _, ⟨a, xs, e, h, _⟩ => h.elim
theorem Dd.Ats.dp {K : PySem.W.Frag} {H : Hp} : ∀ {l : List Dd} {xs : List V}, Dd.Ats F0 H l xs → DpAll K H xs (Dd.Ds l)
  | [], _, h => by cases h; exact .nil
  | k :: l, _, ⟨x, ys, e, h, hs⟩ => by cases e; exact .cons (Dd.At.dp h) (Dd.Ats.dp hs)
end
mutual
def Dd.lay : Dd → Bool
  | .str s => PyData.strOk s
  | .tup l => Dd.lays l
  | .lst l => Dd.lays l
  | _ => true
def Dd.lays : List Dd → Bool
  | [] => true
  | k :: l => k.lay && Dd.lays l
end
mutual
def Dd.dep : Dd → Nat
  | .tup l => 1 + Dd.deps l
  | .lst l => 1 + Dd.deps l
  | _ => 0
def Dd.deps : List Dd → Nat
  | [] => 0
  | k :: l => max k.dep (Dd.deps l)
end
mutual
theorem Dd.canLay : ∀ k : Dd, k.lay = true → k.D.canLay0 = true
  | .non, _ => by simp [Dd.D, PyData.canLay0]
  | .bl _, _ => by simp [Dd.D, PyData.canLay0]
  | .int i, _ => by simp [Dd.D, PyData.canLay0]
  | .str s, h => by
    have h : PyData.strOk s = true := h
    simp [Dd.D, PyData.canLay0, h]
  | .tup l, h => by
    have h : Dd.lays l = true := h
    simp [Dd.D, PyData.canLay0, Dd.canLays l h]
  | .lst l, h => by
    have h : Dd.lays l = true := h
    simp [Dd.D, PyData.canLay0, Dd.canLays l h]
theorem Dd.canLays : ∀ l : List Dd, Dd.lays l = true → PyData.canLayAll0 (Dd.Ds l) = true
  | [], _ => by simp [Dd.Ds, PyData.canLayAll0]
  | k :: l, h => by
    have h : (k.lay && Dd.lays l) = true := h
    rw [Bool.and_eq_true] at h
    simp [Dd.Ds, PyData.canLayAll0, Dd.canLay k h.1, Dd.canLays l h.2]
end
mutual
theorem Dd.depth_le : ∀ k : Dd, k.D.depth ≤ k.dep
  | .non => by simp [Dd.D, PyData.depth, Dd.dep]
  | .bl _ => by simp [Dd.D, PyData.depth, Dd.dep]
  | .int i => by simp [Dd.D, PyData.depth, Dd.dep]
  | .str s => by simp [Dd.D, PyData.depth, Dd.dep]
  | .tup l => by
    have h := Dd.depths_le l
    simp [Dd.D, PyData.depth, Dd.dep]
    omega
  | .lst l => by
    have h := Dd.depths_le l
    simp [Dd.D, PyData.depth, Dd.dep]
    omega
theorem Dd.depths_le : ∀ l : List Dd, PyData.depthAll (Dd.Ds l) ≤ Dd.deps l
  | [] => by simp [Dd.Ds, PyData.depthAll, Dd.deps]
  | k :: l => by
    have h1 := Dd.depth_le k
    have h2 := Dd.depths_le l
    simp [Dd.Ds, PyData.depthAll, Dd.deps]
    omega
end
theorem Dd.shaped {k : Dd} (h : k.lay = true) (d : k.dep ≤ 60) : SeqAt.shaped k.D = true := by
  have h1 := Dd.depth_le k
  show (PyData.canLay0 k.D && decide (PyData.depth k.D ≤ 64)) = true
  rw [Bool.and_eq_true]
  exact ⟨Dd.canLay k h, decide_eq_true (by omega)⟩
theorem band {a b : Bool} (h : a = true) (k : b = true) : (a && b) = true := by rw [h, k]; rfl
theorem lays_of : ∀ {l : List Dd}, (∀ k ∈ l, k.lay = true) → Dd.lays l = true
  | [], _ => rfl
  | k :: l, h => band (h k (List.mem_cons_self ..)) (lays_of fun q hq => h q (List.mem_cons_of_mem _ hq))
theorem deps_of {n : Nat} : ∀ {l : List Dd}, (∀ k ∈ l, k.dep ≤ n) → Dd.deps l ≤ n
  | [], _ => Nat.zero_le _
  | k :: l, h => Nat.max_le.mpr ⟨h k (List.mem_cons_self ..), deps_of fun q hq => h q (List.mem_cons_of_mem _ hq)⟩
/-- such data can be compared -/
structure Cmp (n : Nat) (k : Dd) : Prop where
  lay : k.lay = true
  dep : k.dep ≤ n
theorem Cmp.mono {n m : Nat} {k : Dd} (h : Cmp n k) (hm : n ≤ m) : Cmp m k := ⟨h.lay, Nat.le_trans h.dep hm⟩
theorem cmp_tup {n : Nat} {l : List Dd} (h : ∀ k ∈ l, Cmp n k) : Cmp (n + 1) (.tup l) := ⟨lays_of fun k hk => (h k hk).lay, by
  have := deps_of fun k hk => (h k hk).dep
  show 1 + Dd.deps l ≤ n + 1
  omega⟩
theorem cmp_str {n : Nat} {s : Str} (h : PyData.strOk s = true) : Cmp n (.str s) := ⟨h, Nat.zero_le _⟩
theorem cmp_int {n : Nat} {i : Int} : Cmp n (.int i) := ⟨rfl, Nat.zero_le _⟩
theorem cmp_non {n : Nat} : Cmp n .non := ⟨rfl, Nat.zero_le _⟩
theorem cmp_cons {n : Nat} {k : Dd} {l : List Dd} (h : Cmp n k) (hs : ∀ q ∈ l, Cmp n q) : ∀ q ∈ k :: l, Cmp n q := fun q hq => by
  rcases List.mem_cons.mp hq with e | e
  · rw [e]; exact h
  · exact hs q e
theorem cmp_nil {n : Nat} : ∀ q ∈ ([] : List Dd), Cmp n q := fun q h => absurd h List.not_mem_nil

def finK : Fin → List Dd
  | .head (.num i) => [.str "num", .int i]
  | .head (.con t args _) => [.str "con", .int t, .int (args.length : Nat)]
  | .head (.fn _ _ _) => [.str "fun"]
  | .more => [.str "more"]
  | .stuck => [.str "stuck"]
  | .fault s => [.str "fault", .str s]
theorem fin_dp {K : PySem.W.Frag} {H : Hp} (o : Fin) : DpAll K H (finV o) (Dd.Ds (finK o)) := by
  cases o with
  | head h =>
    cases h with
    | num i => exact .cons (.str _) (.cons (.int _) .nil)
    | con t l e => exact .cons (.str _) (.cons (.int _) (.cons (.int _) .nil))
    | fn x b e => exact .cons (.str _) .nil
  | more => exact .cons (.str _) .nil
  | stuck => exact .cons (.str _) .nil
  | fault s => exact .cons (.str _) (.cons (.str _) .nil)
theorem ints_dp {K : PySem.W.Frag} {H : Hp} : ∀ l : List Int, DpAll K H (l.map V.int) (Dd.Ds (l.map Dd.int))
  | [] => .nil
  | i :: l => .cons (.int i) (ints_dp l)
def toldK (R : Fin × Nat × List Int) : Dd := .tup [.tup (finK R.1), .int (R.2.1 : Nat), .tup (R.2.2.map Dd.int)]
theorem told_dp {K : PySem.W.Frag} {H : Hp} {R : Fin × Nat × List Int} {a ra b : Addr} (h1 : SqT K H a [.ref ra, .int (R.2.1 : Nat), .ref b]) (h2 : SqT K H ra (finV R.1)) (h3 : SqT K H b (R.2.2.map V.int)) : Dp K H (.ref a) (toldK R).D :=
  .tup h1 (.cons (.tup h2 (fin_dp _)) (.cons (.int _) (.cons (.tup h3 (ints_dp _)) .nil)))
theorem told_shape {R : Fin × Nat × List Int} (h : ∀ s, R.1 = .fault s → PyData.strOk s = true) : SeqAt.shaped (toldK R).D = true := by
  have hs : ∀ z : Str, z ∈ [("num" : Str), "con", "fun", "more", "stuck", "fault"] → PyData.strOk z = true := by decide +kernel
  have hf : ∀ q ∈ finK R.1, Cmp 0 q := by
    cases hR : R.1 with
    | head h0 =>
      cases h0 with
      | num i => exact cmp_cons (cmp_str (hs _ (by simp))) (cmp_cons cmp_int cmp_nil)
      | con t l e => exact cmp_cons (cmp_str (hs _ (by simp))) (cmp_cons cmp_int (cmp_cons cmp_int cmp_nil))
      | fn x b e => exact cmp_cons (cmp_str (hs _ (by simp))) cmp_nil
    | more => exact cmp_cons (cmp_str (hs _ (by simp))) cmp_nil
    | stuck => exact cmp_cons (cmp_str (hs _ (by simp))) cmp_nil
    | fault s => exact cmp_cons (cmp_str (hs _ (by simp))) (cmp_cons (cmp_str (h s hR)) cmp_nil)
  have c : Cmp 2 (toldK R) := cmp_tup (cmp_cons (cmp_tup hf) (cmp_cons cmp_int (cmp_cons (cmp_tup fun q hq => by
    obtain ⟨i, _, rfl⟩ := List.mem_map.mp hq
    exact cmp_int) cmp_nil)))
  exact Dd.shaped c.lay (Nat.le_trans c.dep (by decide))
theorem dflt_fault {d : Dd} {h : Head} {e : Env} {stk : List Frm} {evs : List Int} {s : Str} (hd : dfltA d h e stk evs = .fault s) : PyData.strOk s = true := by
  rcases dflt_ok d h e stk evs with ⟨x, b, rfl, h1⟩ | h1
  · rw [h1] at hd; cases hd
  · rw [h1] at hd; cases hd; decide +kernel
theorem up_fault {g : Frm} {h : Head} {stk : List Frm} {evs : List Int} {s : Str} (hd : upA g h stk evs = .fault s) : PyData.strOk s = true := by
  cases g with
  | arg t e => cases h <;> cases hd
  | seq x b e => cases hd
  | ch z rows d e =>
    unfold upA at hd
    dsimp only at hd
    split at hd
    · split at hd
      · split at hd
        · cases hd
        · exact dflt_fault hd
      · cases hd
    · split at hd
      · split at hd
        · cases hd
        · exact dflt_fault hd
      · cases hd
  | snd sg t e => cases h <;> cases hd
  | fst sg i =>
    cases h with
    | con tg l e2 => cases hd
    | fn x b e2 => cases hd
    | num j =>
      have hd : primA sg i j stk evs = .fault s := hd
      unfold primA at hd
      split at hd
      · cases hd
      · split at hd
        · cases hd; decide +kernel
        · split at hd
          · cases hd
          · cases hd; decide +kernel
theorem down_fault {gl : Str → Option Dd} {z : Str} {r : List Dd} {e : Env} {stk : List Frm} {evs : List Int} {s : Str} (hd : downW gl z r e stk evs = .fault s) : False := by
  unfold downW at hd
  split at hd
  · split at hd
    · cases hd
    · split at hd <;> cases hd
  · split at hd
    · cases hd
    · split at hd
      · cases hd
      · split at hd
        · cases hd
        · split at hd
          · cases hd
          · split at hd <;> cases hd
theorem step_fault {gl : Str → Option Dd} {m : Mst} {s : Str} (hd : stepA gl m = .fault s) : PyData.strOk s = true := by
  obtain ⟨c, st, v⟩ := m
  cases c with
  | ev t e =>
    unfold stepA at hd
    dsimp only at hd
    split at hd
    · exact (down_fault hd).elim
    · cases hd
  | hd h =>
    unfold stepA at hd
    dsimp only at hd
    split at hd
    · cases hd
    · exact up_fault hd
theorem runA_fault {gl : Str → Option Dd} : ∀ (k : Nat) (m : Mst) (s : Str), (runA gl k m).1 = .fault s → PyData.strOk s = true
  | 0, m, s, h => by
    unfold runA at h
    split at h <;> cases h
  | k + 1, m, s, h => by
    unfold runA at h
    split at h
    · cases h
    · split at h
      · cases h
      · rename_i s' hst
        have h : Fin.fault s' = .fault s := h
        cases h
        exact step_fault hst
      · rename_i m' hst
        exact runA_fault k m' s h
structure TxtLo (mg : Str → Option Value) : Prop where
  zisinstance : mg "isinstance" = none
  ztuple : mg "tuple" = none
  zlen : mg "len" = none
  zint : mg "int" = none
  zbool : mg "bool" = none
section
variable {P : Program} {w : World} {K : PySem.W.Frag} {mg : Str → Option Value} {base : Heap} {C : Addr}
abbrev sLOne : Stmt := topS 60
theorem scLOne : FnScope ["program", "term", "fuel", "told", "due"] ["program", "term", "fuel"] (defScope sLOne) := ⟨rfl, rfl, rfl, by decide +kernel, rfl, by decide +kernel, by decide +kernel⟩
def spLOne : Sp := fun vs H Q _ => ∃ (gv tv : V) (F : Nat) (l : List (Str × Dd)) (m : Str) (t : Dd), vs = [gv, tv, .int (F : Int)] ∧ ProgAt H l m gv ∧ RunOk l ∧ t.At F0 H tv ∧ TOk t ∧ F ≤ 400 ∧ ∀ (H' : Hp), Same H H' → Q (.bl true) H'
theorem c_lone {f : Addr} {fd : FuncData} (T : TxtLo mg) (chead_of : C8.Cal P w K mg base 6 "head_of" (spHeadOf K) []) (c_law_due : C8.Cal P w K mg base 6 "_law_due" (spHeadOf K) []) (F : Fun K "_law_one" "_law_one" sLOne f fd) (b : Binds K fd ["program", "term", "fuel"] []) (hm : mg "_law_one" = some (.ref f)) : C8.Cal P w K mg base 7 "_law_one" spLOne [] := by
  refine cal_of F hm b scLOne (fun vs H Q E h => ?_) (fun cdv A outer s H vs Q E hr h => ?_)
  · obtain ⟨gv, tv, F, l, m, t, rfl, _⟩ := h
    rfl
  obtain ⟨gv, tv, F, l, m, t, rfl, hat, hok, ht, htk, hF, q⟩ := h
  have hu64 := hr.units
  refine ⟨_, (pss_cons (ps_set (i := 3) scLOne.nd rfl (Or.inl rfl) (C8.pe_c chead_of hr (by decide) rfl (pa_cons (pv 0) (pa_cons (pv 1) (pa_cons (pv 2) pa_nil)))))
    (pss_cons (ps_if (PW.pt (pw_or (pt_not (pt_val (pe_callB call_isi rfl T.zisinstance boot_isinstance (pa_cons (pv 3) (pa_cons (pe_bltn (v := .ty "tuple") rfl T.ztuple boot_tuple rfl) pa_nil))))) (pw_or (pt_cmpR op_ne (pe_callB call_len_seq rfl T.zlen PySem.boot_len (pa_cons (pv 3) pa_nil)) pe_int (nomark _)) (pw_or1 (pt_not (pt_val (pe_callB call_isi rfl T.zisinstance boot_isinstance (pa_cons (pe_ix ix_tup (pv 3) pe_int (fun _ _ => rfl)) (pa_cons (pe_bltn (v := .ty "tuple") rfl T.ztuple boot_tuple rfl) pa_nil)))))))))
      (pss_one (ps_ret pe_bl))
      pss_nil)
    (pss_cons (ps_if (PW.pt (pw_or (pt_not (pt_val (pe_callB call_isi rfl T.zisinstance boot_isinstance (pa_cons (pe_ix ix_tup (pv 3) pe_int (fun _ _ => rfl)) (pa_cons (pe_bltn (v := .ty "int") rfl T.zint boot_int rfl) pa_nil))))) (pw_or1 (pt_val (pe_callB call_isi rfl T.zisinstance boot_isinstance (pa_cons (pe_ix ix_tup (pv 3) pe_int (fun _ _ => rfl)) (pa_cons (pe_bltn (v := .ty "bool") rfl T.zbool boot_bool rfl) pa_nil)))))))
      (pss_one (ps_ret pe_bl))
      pss_nil)
    (pss_cons (ps_set (i := 4) scLOne.nd rfl (Or.inl rfl) (C8.pe_c c_law_due hr (by decide) rfl (pa_cons (pv 0) (pa_cons (pv 1) (pa_cons (pv 2) pa_nil)))))
    (pss_one (ps_ret (pe_and (pe_cmpR (op_eqD hu64) (pv 3) (pv 4) (nomark _)) (pe_and (pe_callB call_isi rfl T.zisinstance boot_isinstance (pa_cons (pe_ix ix_tup (pv 3) pe_int (fun _ _ => rfl)) (pa_cons (pe_bltn (v := .ty "tuple") rfl T.ztuple boot_tuple rfl) pa_nil))) (pe_one (pe_cmpR op_eq (pe_callB call_len_seq rfl T.zlen PySem.boot_len (pa_cons (pe_ix ix_tup (pv 3) pe_int (fun _ _ => rfl)) pa_nil)) (pe_callB call_len_seq rfl T.zlen PySem.boot_len (pa_cons (pe_ix ix_tup (pv 4) pe_int (fun _ _ => rfl)) pa_nil)) (nomark _))))))))))), ?_⟩
  have kt : PySem.W.kitOne K (.type "tuple") (.type "tuple") = some true := kit_ty (a := "tuple") (b := "tuple") (r := true) (by decide +kernel)
  have ki : PySem.W.kitOne K (.type "int") (.type "int") = some true := kit_ty (a := "int") (b := "int") (r := true) (by decide +kernel)
  have kb : PySem.W.kitOne K (.type "int") (.type "bool") = some false := kit_ty (a := "int") (b := "bool") (r := false) (by decide +kernel)
  refine ⟨_, rfl, _, rfl, _, rfl, gv, tv, F, l, m, t, rfl, hat, hok, ht, htk, hF, fun v1 H1 s1 ht1 => ?_⟩
  have hsh := told_shape (runA_fault (gl := rowGet l) F ⟨.ev t .nil, [], []⟩)
  generalize hR : runA (rowGet l) F ⟨.ev t .nil, [], []⟩ = R at ht1 hsh
  obtain ⟨a1, ra1, b1, rfl, ha1, hra1, hb1⟩ := ht1
  refine ⟨_, rfl, .ref a1, .ty "tuple", _, _, _, rfl, .ty "tuple", tyX_sqT ha1, kt, ?_⟩
  refine ⟨_, rfl, ?_⟩
  refine iteF ?_
  refine ⟨_, rfl, a1, _, rfl, .inr ha1, rfl, _, rfl, ?_⟩
  refine iteF ?_
  refine ⟨_, rfl, a1, _, 2, _, rfl, rfl, ha1, at2 _ _ _ _, .ref b1, .ty "tuple", _, _, _, rfl, .ty "tuple", tyX_sqT hb1, kt, ?_⟩
  refine ⟨_, rfl, ?_⟩
  refine iteF ?_
  refine ⟨_, rfl, a1, _, 1, _, rfl, rfl, ha1, at1 _ _ _, .int (R.2.1 : Nat), .ty "int", _, _, _, rfl, .ty "int", .base (.int _), ki, ?_⟩
  refine ⟨_, rfl, ?_⟩
  refine iteF ?_
  refine ⟨_, rfl, a1, _, 1, _, rfl, rfl, ha1, at1 _ _ _, .int (R.2.1 : Nat), .ty "bool", _, _, _, rfl, .ty "bool", .base (.int _), kb, ?_⟩
  refine ⟨_, rfl, ?_⟩
  refine iteF ?_
  refine ⟨_, rfl, _, rfl, _, rfl, gv, tv, F, l, m, t, rfl, hat.keep s1, hok, ht.keep (fr_same s1), htk, hF, fun v2 H2 s2 ht2 => ?_⟩
  rw [hR] at ht2
  obtain ⟨a2, ra2, b2, rfl, ha2, hra2, hb2⟩ := ht2
  have ha1' := sqT_keep ha1 s2
  have hra1' := sqT_keep hra1 s2
  have hb1' := sqT_keep hb1 s2
  refine ⟨_, rfl, _, rfl, (toldK R).D, (toldK R).D, told_dp ha1' hra1' hb1', told_dp ha2 hra2 hb2, hsh, hsh, ?_⟩
  rw [eqv_self hsh]
  refine ⟨_, rfl, ?_⟩
  refine iteT ?_
  refine ⟨_, rfl, a1, _, 0, _, rfl, rfl, ha1', at0 _ _, .ref ra1, .ty "tuple", _, _, _, rfl, .ty "tuple", tyX_sqT hra1', kt, ?_⟩
  refine ⟨_, rfl, ?_⟩
  refine iteT ?_
  refine ⟨_, rfl, a1, _, 0, _, rfl, rfl, ha1', at0 _ _, ra1, _, rfl, .inr hra1', _, rfl, a2, _, 0, _, rfl, rfl, ha2, at0 _ _, ra2, _, rfl, .inr hra2, rfl, ?_⟩
  rw [show decide (V.int (((finV R.1).length : Nat) : Int) = V.int (((finV R.1).length : Nat) : Int)) = true from decide_eq_true rfl]
  exact q _ (sameT s1 s2)
end
end Toy

set_option Elab.async false
set_option linter.all false
set_option maxRecDepth 100000
set_option maxHeartbeats 4000000
/-! Part MZ: a definition that is applied. -/
namespace Toy
open PySem L2
open PyProof.Rows (envOfC)
mutual
def Dd.nl : Dd → Bool
  | .lst _ => false
  | .tup l => Dd.nls l
  | _ => true
def Dd.nls : List Dd → Bool
  | [] => true
  | k :: l => k.nl && Dd.nls l
end
mutual
theorem Dd.At.nl {B : Addr → Prop} {H : Hp} : ∀ {k : Dd} {v : V}, k.nl = true → k.At B H v → k.At F0 H v
  | .non, _, _, h => h
  | .bl _, _, _, h => h
  | .int _, _, _, h => h
  | .str _, _, _, h => h
  | .tup l, _, n, ⟨a, xs, e, h, hs⟩ => ⟨a, xs, e, h, Dd.Ats.nl (show Dd.nls l = true from n) hs⟩
theorem Dd.Ats.nl {B : Addr → Prop} {H : Hp} : ∀ {l : List Dd} {xs : List V}, Dd.nls l = true → Dd.Ats B H l xs → Dd.Ats F0 H l xs
  | [], _, _, h => h
  | k :: l, _, n, ⟨x, ys, e, h, hs⟩ => by
    obtain ⟨n1, n2⟩ := fand (show (k.nl && Dd.nls l) = true from n)
    exact ⟨x, ys, e, Dd.At.nl n1 h, Dd.Ats.nl n2 hs⟩
end
def rowI : Dd := .tup [.str "num", .int 4]
def rowL : Dd := .tup [.str "con", .int 1, .tup [.tup [.str "num", .int 2], .tup [.str "con", .int 0, .tup []]]]
def rowF : Dd := .tup [.str "lam", .str "z", .tup [.str "prim", .str "+", .tup [.str "var", .str "z"], .tup [.str "num", .int 1]]]
def rowK (z : Str) : Dd := if z = "I" then rowI else if z = "L" then rowL else rowF
def appT (x : Str) (zs : List Str) : Dd := zs.foldl (fun t z => .tup [.str "app", t, rowK z]) (.tup [.str "var", .str x])
theorem appT_snoc (x : Str) (zs : List Str) (z : Str) : appT x (zs ++ [z]) = .tup [.str "app", appT x zs, rowK z] := by
  unfold appT
  rw [List.foldl_append]
  rfl
theorem app_ok : ∀ g ∈ glob, isTT (appT g.1 g.2.1) = true ∧ (appT g.1 g.2.1).sz ≤ 40000 := by decide +kernel
theorem glob_kinds : ∀ g ∈ glob, ∀ z ∈ g.2.1, z = "I" ∨ z = "L" ∨ z = "F" := by decide +kernel
theorem glob_one : ∀ g ∈ glob, glob.filter (fun q => decide (q.1 = g.1)) = [g] := by decide +kernel
theorem app_at {H : Hp} {xs : List V} (h : Dd.Ats F0 H [rowI, rowL, rowF] xs) {z : Str} (hz : z = "I" ∨ z = "L" ∨ z = "F") :
    ∃ (j : Nat) (y : V), ([("I" : Str), "L", "F"].map V.str)[j]? = some (.str z) ∧ (∀ (m : Nat) (z' : V), m < j → ([("I" : Str), "L", "F"].map V.str)[m]? = some z' → eqV z' (.str z) = false) ∧ xs[j]? = some y ∧ (rowK z).At F0 H y := by
  obtain ⟨x0, ys0, rfl, h0, x1, ys1, rfl, h1, x2, ys2, rfl, h2, hn⟩ := h
  cases (show ys2 = [] from hn)
  rcases hz with rfl | rfl | rfl
  · exact ⟨0, x0, rfl, fun m z' h => absurd h (Nat.not_lt_zero m), rfl, h0⟩
  · refine ⟨1, x1, rfl, fun m z' h e => ?_, rfl, h1⟩
    have hm : m = 0 := by omega
    subst hm
    cases Option.some.inj e
    show (("I" : Str) == "L") = false
    exact beq_eq_false_iff_ne.mpr (by decide +kernel)
  · refine ⟨2, x2, rfl, fun m z' h e => ?_, rfl, h2⟩
    have hm : m = 0 ∨ m = 1 := by omega
    rcases hm with hm | hm
    · subst hm
      cases Option.some.inj e
      show (("I" : Str) == "F") = false
      exact beq_eq_false_iff_ne.mpr (by decide +kernel)
    · subst hm
      cases Option.some.inj e
      show (("L" : Str) == "F") = false
      exact beq_eq_false_iff_ne.mpr (by decide +kernel)
theorem eqV_str (z : Str) : eqV (.str z) (.str z) = true := by
  show (z == z) = true
  exact beq_self_eq_true z
theorem gn_intro {i : Nat} {v : V} {σ : L2.St} {H : Hp} {Q : L2.St → Hp → Prop} (h : Q (σ.set i (some v)) H) : gName i v σ H Q := h
theorem mk_int {i : Int} : Mk (tC (.int i)) (.int i) := fun _ σ H Q _ q => q _ H (same_refl H) rfl
section
variable {P : Program} {w : World} {K : PySem.W.Frag} {mg : Str → Option Value} {base : Heap} {C : Addr}
abbrev sLApp : Stmt := topS 61
theorem scLApp : FnScope ["program", "k", "name", "rows", "kinds", "term", "kind", "row"] ["program", "k"] (defScope sLApp) := ⟨rfl, rfl, rfl, by decide +kernel, rfl, by decide +kernel, by decide +kernel⟩
def spApp : Sp := fun vs H Q _ => ∃ (gv : V) (k : Nat), vs = [gv, .int (k : Int)] ∧ k < 7 ∧ ∀ (v' : V) (H' : Hp) (t : Dd), Same H H' → t.At F0 H' v' → TOk t → Q v' H'
theorem c_lapp {f : Addr} {fd : FuncData} (c_law_globals : C8.Cal P w K mg base 1 "_law_globals" spGlobals []) (F : Fun K "_law_applied" "_law_applied" sLApp f fd) (b : Binds K fd ["program", "k"] []) (hm : mg "_law_applied" = some (.ref f)) : C8.Cal P w K mg base 2 "_law_applied" spApp [] := by
  refine cal_of F hm b scLApp (fun vs H Q E h => ?_) (fun cdv A outer s H vs Q E hr h => ?_)
  · obtain ⟨gv, k, rfl, _⟩ := h
    rfl
  obtain ⟨gv, k, rfl, hk, q⟩ := h
  have hbig : (1000000 : Nat) < sizeLine := by decide
  refine ⟨_, (pss_cons (ps_set (i := 2) scLApp.nd rfl (Or.inr rfl) (pe_ix ix_list (pe_lst (pa_strs (zs := ["f", "g", "h", "k", "c", "m", "b"]) rfl)) (pv 1) (fun _ _ => rfl)))
    (pss_cons (ps_set (i := 3) scLApp.nd rfl (Or.inl rfl) (pe_lst (pa_cons (pe_tup (pa_cons pe_str (pa_cons pe_int pa_nil))) (pa_cons (pe_tup (pa_cons pe_str (pa_cons pe_int (pa_cons (pe_tup (pa_cons (pe_tup (pa_cons pe_str (pa_cons pe_int pa_nil))) (pa_cons (pe_tup (pa_cons pe_str (pa_cons pe_int (pa_cons (pe_tup pa_nil) pa_nil)))) pa_nil))) pa_nil)))) (pa_cons (pe_tup (pa_cons pe_str (pa_cons pe_str (pa_cons (pe_tup (pa_cons pe_str (pa_cons pe_str (pa_cons (pe_tup (pa_cons pe_str (pa_cons pe_str pa_nil))) (pa_cons (pe_tup (pa_cons pe_str (pa_cons pe_int pa_nil))) pa_nil))))) pa_nil)))) pa_nil)))))
    (pss_cons (ps_set (i := 4) scLApp.nd rfl (Or.inl rfl) (pe_ix ix_list (pe_lc (own := [("row", 7)]) (g := gName 7) (tt := (tTest (tOp rEq (tOp (rIxT K) (tVar 7) (tC (.int 0))) (tVar 2)))) (te := (tOp (rIxT K) (tVar 7) (tC (.int 1)))) rfl scLApp.nd (pi_list (pe_c0 c_law_globals hr (by decide) rfl)) (blkOk_by (own := [("row", 7)]) (N := ["program", "k", "name", "rows", "kinds", "term", "kind", "row"]) (sc := defScope sLApp) (by decide +kernel)) (fun _ _ _ _ _ => (pg_name (i := 7) scLApp.nd rfl (Or.inl rfl))) (fun _ _ _ _ _ => pts_one (pt_cmpR op_eq (pe_ix ix_tup (pv 7) pe_int (fun _ _ => rfl)) (pv 2) (nomark _))) (fun _ _ _ _ _ => (pe_ix ix_tup (pv 7) pe_int (fun _ _ => rfl)))) pe_int (fun _ _ => rfl)))
    (pss_cons (ps_set (i := 5) scLApp.nd rfl (Or.inl rfl) (pe_tup (pa_cons pe_str (pa_cons (pv 2) pa_nil))))
    (pss_cons (ps_for PassesOwn.never rfl (pi_list (pv 4)) (pg_name (i := 6) scLApp.nd rfl (Or.inl rfl))
      (pss_one (ps_set (i := 5) scLApp.nd rfl (Or.inl rfl) (pe_tup (pa_cons pe_str (pa_cons (pv 5) (pa_cons (pe_ix ix_list (pv 3) (pe_bm PySem.F.plainAttrs_list PySem.F.slot_list_index PySem.F.type_list_index mt_index (pe_lst (pa_strs (zs := ["I", "L", "F"]) rfl)) (pa_cons (pv 6) pa_nil)) (fun _ _ => rfl)) pa_nil)))))))
    (pss_one (ps_ret (pv 5)))))))), ?_⟩
  obtain ⟨gk, hgk⟩ : ∃ g, glob[k]? = some g := ⟨glob[k]'hk, List.getElem?_eq_getElem _⟩
  have hgm := List.mem_of_getElem? hgk
  have hnm : ([("f" : Str), "g", "h", "k", "c", "m", "b"].map V.str)[k]? = some (.str gk.1) := by
    have e : ([("f" : Str), "g", "h", "k", "c", "m", "b"] : List Str) = glob.map (·.1) := rfl
    rw [e, List.getElem?_map, List.getElem?_map, hgk]
    rfl
  refine ⟨by show 7 ≤ sizeLine; decide, fun l7 hl7 => ?_⟩
  have s7 := same_new hl7 (.lst ([("f" : Str), "g", "h", "k", "c", "m", "b"].map V.str))
  refine ⟨_, rfl, l7, _, (k : Int), _, rfl, rfl, SqL.of upd_same, atI_nat hnm, ?_⟩
  generalize upd H l7 (.lst ([("f" : Str), "g", "h", "k", "c", "m", "b"].map V.str)) = H0 at s7 ⊢
  refine gn_intro ?_
  have st : ∀ z ∈ [("num" : Str), "con", "lam", "prim", "var", "z", "+"], z.length ≤ 1000 := by decide +kernel
  refine run_asgL (l := [rowI, rowL, rowF])
    (mks_cons (mk_tup (mks_cons (mk_str (st _ (by simp))) (mks_cons mk_int mks_nil)) (by decide))
      (mks_cons (mk_tup (mks_cons (mk_str (st _ (by simp))) (mks_cons mk_int (mks_cons (mk_tup (mks_cons (mk_tup (mks_cons (mk_str (st _ (by simp))) (mks_cons mk_int mks_nil)) (by decide)) (mks_cons (mk_tup (mks_cons (mk_str (st _ (by simp))) (mks_cons mk_int (mks_cons (mk_tup mks_nil (by decide)) mks_nil))) (by decide)) mks_nil)) (by decide)) mks_nil))) (by decide))
        (mks_cons (mk_tup (mks_cons (mk_str (st _ (by simp))) (mks_cons (mk_str (st _ (by simp))) (mks_cons (mk_tup (mks_cons (mk_str (st _ (by simp))) (mks_cons (mk_str (st _ (by simp))) (mks_cons (mk_tup (mks_cons (mk_str (st _ (by simp))) (mks_cons (mk_str (st _ (by simp))) mks_nil)) (by decide)) (mks_cons (mk_tup (mks_cons (mk_str (st _ (by simp))) (mks_cons mk_int mks_nil)) (by decide)) mks_nil)))) (by decide)) mks_nil))) (by decide)) mks_nil))) (by decide) ?_
  intro rl rxs H1 s1 hrl erl arl0
  have arl : Dd.Ats F0 H1 [rowI, rowL, rowF] rxs := Dd.Ats.nl (by decide +kernel) arl0
  clear arl0
  refine ⟨rfl, fun L xs H2 s2 hL eL aL0 => ?_⟩
  have aL := aL0.here
  have hxl := ats_len aL
  rw [List.length_map] at hxl
  refine ⟨L, rfl, ⟨_, SqL.of eL⟩, fun D hD => ?_⟩
  have nD : ¬ Ex H2 D := fun z => z hD
  refine lc_list (a := L) (xs := xs) (fun i G => Same H2 G ∧ ∃ (ys : List V), G D = some (.lst ys) ∧ Dd.Ats (Ex H2) G (((glob.take i).filter fun q => decide (q.1 = gk.1)).map fun q => .lst (q.2.1.map Dd.str)) ys ∧ ys.length ≤ i) ⟨same_new hD _, [], upd_same, rfl, Nat.le_refl _⟩ (fun i G hi ⟨h, _⟩ => SqL.of (h _ _ eL)) ?_ ?_
  · rintro i x G hx ⟨h1, ys, h2, h3, h4⟩
    obtain ⟨kk, hk0, hkx⟩ := ats_get aL hx
    rw [List.getElem?_map] at hk0
    obtain ⟨g, hq, rfl⟩ := Option.map_eq_some_iff.mp hk0
    have hil : i < glob.length := (List.getElem?_eq_some_iff.mp hq).1
    have hil : i < 7 := hil
    obtain ⟨t, xs3, rfl, ht, x0, ys0, rfl, h0, x1, ys1, rfl, h1', x2, ys2, rfl, h2', hn⟩ := id hkx
    obtain ⟨rfl, _⟩ := (show x0 = .str g.1 ∧ _ from h0)
    refine ⟨rfl, ?_⟩
    refine ⟨_, rfl, t, _, 0, _, rfl, rfl, SqT.of (h1 _ _ ht), at0 _ _, _, rfl, rfl, _, rfl, ?_⟩
    show if decide (V.str g.1 = V.str gk.1) = true then _ else _
    rw [take_snoc hq, List.filter_append]
    by_cases c : g.1 = gk.1
    · rw [show decide (V.str g.1 = V.str gk.1) = true from decide_eq_true (by rw [c])]
      refine iteT ?_
      have fD : Fr (Ex H2) G (upd G D (.lst (ys ++ [x1]))) := fr_list h2 nD
      refine ⟨_, rfl, t, _, 1, _, rfl, rfl, SqT.of (h1 _ _ ht), at1 _ _ _, ys, h2, szl (by omega), same_upd hD h1 _, ys ++ [x1], upd_same, ?_, by rw [List.length_append]; show _ + 1 ≤ _; omega⟩
      rw [List.filter_cons_of_pos (by rw [decide_eq_true_eq]; exact c), List.filter_nil, List.map_append]
      exact ats_app (h3.keep fD) (ats_one ((h1'.keep (fr_same h1)).keep fD))
    · rw [show decide (V.str g.1 = V.str gk.1) = false from decide_eq_false fun e => c (V.str.inj e)]
      refine iteF ?_
      rw [List.filter_cons_of_neg (by rw [decide_eq_true_eq]; exact c), List.filter_nil, List.append_nil]
      exact ⟨h1, ys, h2, h3, by omega⟩
  rintro H3 ⟨s3, ys, eD, aD, _⟩
  rw [hxl, List.take_length, glob_one gk hgm] at aD
  obtain ⟨x, zs0, rfl, ⟨lk, kxs, rfl, _, elk, akx⟩, hn⟩ := aD
  cases (show zs0 = [] from hn)
  obtain ⟨rfl, _⟩ := ats_strs_eq akx
  refine ⟨D, _, 0, _, rfl, rfl, SqL.of eD, at0 _ _, ?_⟩
  refine ⟨_, rfl, by show 2 ≤ sizeLine; decide, fun tv htv => ?_⟩
  have s4 := same_new htv (.tup [.str "var", .str gk.1])
  have e4 : upd H3 tv (.tup [.str "var", .str gk.1]) tv = some (.tup [.str "var", .str gk.1]) := upd_same
  have s23 := sameT s2 s3
  generalize upd H3 tv (.tup [.str "var", .str gk.1]) = H4 at s4 e4 ⊢
  have elk4 := s4 _ _ elk
  have s14 := sameT s23 s4
  have erl4 := s14 _ _ erl
  have arl4 := arl.keep (fr_same s14)
  obtain ⟨_, _, hzl, hnl⟩ := glob_ok gk hgm
  have hgn : gk.1.length ≤ 1000 := (show ∀ g ∈ glob, g.1.length ≤ 1000 by decide +kernel) gk hgm
  refine ⟨_, rfl, lk, rfl, ⟨_, SqL.of elk4⟩, for_list (a := lk) (xs := gk.2.1.map V.str) (fun i σ G => ∃ (t : V) (v6 : Option V), σ = [some gv, some (.int (k : Int)), some (.str gk.1), some (.ref rl), some (.ref lk), some t, v6, none] ∧ Same H4 G ∧ (appT gk.1 (gk.2.1.take i)).At F0 G t)
    ⟨.ref tv, _, rfl, fun _ _ e => e, at_tup e4 (ats_cons (at_str' (by decide +kernel)) (ats_one (at_str' hgn)))⟩ (fun i σ G _ ⟨_, _, _, h, _⟩ => SqL.of (h _ _ elk4)) ?_ ?_⟩
  · rintro i x σ G hx ⟨t, v6, rfl, sG, hat⟩
    rw [List.getElem?_map] at hx
    obtain ⟨z, hz, rfl⟩ := Option.map_eq_some_iff.mp hx
    have hzk := glob_kinds gk hgm z (List.mem_of_getElem? hz)
    obtain ⟨j, y, hj, hno, hxj, hy⟩ := app_at (arl4.keep (fr_same sG)) hzk
    refine ⟨_, rfl, _, rfl, by show 3 ≤ sizeLine; decide, fun l8 hl8 => ?_⟩
    have s8 := same_new hl8 (.lst ([("I" : Str), "L", "F"].map V.str))
    have e8 : upd G l8 (.lst ([("I" : Str), "L", "F"].map V.str)) l8 = some (.lst ([("I" : Str), "L", "F"].map V.str)) := upd_same
    generalize upd G l8 (.lst ([("I" : Str), "L", "F"].map V.str)) = G1 at s8 e8 ⊢
    refine ⟨.inl ⟨rfl, _, SqL.of e8⟩, _, rfl, l8, _, .str z, j, .str z, rfl, rfl, SqL.of e8, rfl, flat_strs _, hj, eqV_str z, hno, rl, _, (j : Int), _, rfl, rfl, SqL.of (s8 _ _ (sG _ _ erl4)), atI_nat hxj, by show 3 ≤ sizeLine; decide, fun t9 ht9 => ?_⟩
    have s9 := same_new ht9 (.tup [.str "app", t, y])
    have s89 := sameT s8 s9
    refine ⟨.ref t9, _, rfl, sameT sG s89, ?_⟩
    rw [take_snoc hz, appT_snoc]
    exact at_tup upd_same (ats_cons (at_str' (by decide +kernel)) (ats_cons (hat.keep (fr_same s89)) (ats_one (hy.keep (fr_same s89)))))
  · rintro σ G ⟨t, v6, rfl, sG, hat⟩
    rw [List.length_map, List.take_length] at hat
    obtain ⟨o1, o2⟩ := app_ok gk hgm
    exact ⟨_, rfl, q _ _ _ (sameT s7 (sameT s1 (sameT s14 sG))) hat ⟨o1, o2⟩⟩
end
end Toy

set_option Elab.async false
set_option linter.all false
set_option maxRecDepth 100000
set_option maxHeartbeats 8000000
/-! Part NA: the law. -/
namespace Toy
open PySem L2
open PyProof.Rows (envOfC)
def pnames (a : Nat) : List Str := globs.take a ++ [("main" : Str)] ++ globs.drop a
theorem pn_small (a : Nat) : ∃ b : _root_.Fin 8, pnames a = pnames b := by
  by_cases h : a < 8
  · exact ⟨⟨a, h⟩, rfl⟩
  · refine ⟨⟨7, by omega⟩, ?_⟩
    have e7 : globs.length = 7 := rfl
    show pnames a = pnames 7
    unfold pnames
    rw [List.take_of_length_le (by omega), List.drop_of_length_le (by omega), List.take_of_length_le (by omega), List.drop_of_length_le (by omega)]
theorem pn_nd : ∀ b : _root_.Fin 8, (pnames b).Nodup := by decide +kernel
theorem runOk_of {l : List (Str × Dd)} (h : ProgOk l) : RunOk l := by
  obtain ⟨a, ha⟩ := h.nm
  have ha : l.map (·.1) = pnames a := ha
  obtain ⟨b, hb⟩ := pn_small a
  refine ⟨by rw [ha, hb]; exact pn_nd b, fun q hq => ?_, ?_⟩
  · have g := h.gz q hq
    exact ⟨isN_T _ _ g.ok, Nat.le_trans g.sz (by decide)⟩
  · have e := congrArg List.length ha
    rw [hb, List.length_map] at e
    have h8 : ∀ b : _root_.Fin 8, (pnames b).length ≤ 1000 := by decide +kernel
    rw [e]
    exact h8 b
theorem ProgAt.keepP {H H' : Hp} {l : List (Str × Dd)} {m : Str} {v : V} {p r : Addr} {B : Nat} (h : ProgAt H l m v) (k : Keep p H H') (d : DAt H p r B) : ProgAt H' l m v := by
  have f := fr_keep (B := F0) k d
  obtain ⟨a, t, o, xs, rfl, ha, ht, ho, hs, hm⟩ := h
  obtain ⟨_, _, _, _, hp, _⟩ := d
  exact ⟨a, t, o, xs, rfl, f.1 _ _ ha, k _ _ (fun e => by rw [e, hp] at ht; cases ht) ht, ho, hs.keep f, hm⟩
def faults : List Str := ["no match", "division by zero", "overflow"]
theorem strs_dpV {K : PySem.W.Frag} {H : Hp} : ∀ l : List Str, DpAll K H (l.map V.str) (Dd.Ds (l.map Dd.str))
  | [] => .nil
  | s :: l => .cons (.str s) (strs_dpV l)
theorem faults_shape : SeqAt.shaped (Dd.tup (faults.map Dd.str)).D = true := Dd.shaped (by decide +kernel) (by decide +kernel)
def three : List Str := ["f", "g", "main"]
structure TxtLw (K : PySem.W.Frag) (mg : Str → Option Value) (aF : Addr) : Prop where
  zrange : mg "range" = none
  ztuple : mg "tuple" = none
  gFAULTS : ∃ u, mg "FAULTS" = some u ∧ RelV (.ref aF) u
  sFAULTS : ∀ H, SqT K H aF (faults.map V.str)
section
variable {P : Program} {w : World} {K : PySem.W.Frag} {mg : Str → Option Value} {base : Heap} {aF : Addr}
abbrev sStart : Stmt := topS 34
theorem scStart : FnScope ["script", "left"] ["script", "left"] (defScope sStart) := ⟨rfl, rfl, rfl, by decide +kernel, rfl, by decide +kernel, by decide +kernel⟩
def spStart (K : PySem.W.Frag) : Sp := fun vs H Q _ => ∃ (a : Addr) (ns : List Int) (l : Int), vs = [.ref a, .int l] ∧ SqL K H a (ns.map V.int) ∧ ns.length ≤ 63 ∧ ∀ (p r : Addr) (H' : Hp), H p = none → Same H H' → DAt H' p r 0 → Q (.ref p) H'
theorem c_start {f : Addr} {fd : FuncData} (c_law_draws : C8.Cal P w K mg base 1 "_law_draws" (spDraws K) []) (F : Fun K "_law_start" "_law_start" sStart f fd) (b : Binds K fd ["script", "left"] []) (hm : mg "_law_start" = some (.ref f)) : C8.Cal P w K mg base 2 "_law_start" (spStart K) [] := by
  refine cal_of F hm b scStart (fun vs H Q E h => ?_) (fun cdv A outer s H vs Q E hr h => ?_)
  · obtain ⟨a, ns, l, rfl, _⟩ := h
    rfl
  obtain ⟨a, ns, l, rfl, hS, h63, q⟩ := h
  refine ⟨_, (pss_one (ps_ret (pe_disp (pps_cons pe_str (C8.pe_c c_law_draws hr (by decide) rfl (pa_cons (pv 0) (pa_cons pe_int pa_nil))) (pps_cons pe_str pe_int (pps_cons pe_str pe_int (pps_cons pe_str (pv 1) pps_nil)))) rfl rfl (by decide) (by decide)))), ?_⟩
  intro p hp
  have s1 := same_new hp (.dK [])
  have e1 : upd H p (.dK []) p = some (.dK []) := upd_same
  generalize upd H p (.dK []) = H1 at s1 e1 ⊢
  refine ⟨_, rfl, a, ns, 400, rfl, s1.seq hS, h63, by decide, by decide, fun r row H2 hr0 s2 hl hrow => ?_⟩
  have e2 := s2 _ _ e1
  refine ⟨_, rfl, e2, [(Sum.inr "row", V.ref r), (Sum.inr "at", V.int 0), (Sum.inr "names", V.int 0), (Sum.inr "left", V.int l)], rfl, (by show 4 ≤ 15; decide), ?_⟩
  have npr : r ≠ p := ne_of hl e2 (by intro z; cases z)
  rw [dk_merge]
  refine q p r _ hp (fun b u e => ?_) ⟨row, 0, 0, l, upd_same, by rw [upd_ne npr]; exact hl, hrow, Nat.le_refl _, Int.le_refl _, Int.le_refl _⟩
  rw [upd_ne (fun z => by rw [z, hp] at e; cases e)]
  exact s2 _ _ (s1 _ _ e)
abbrev sLaw : Stmt := topS 62
theorem scLaw : FnScope ["script", "d", "k", "definitions", "name", "program", "term", "fuel"] ["script"] (defScope sLaw) := ⟨rfl, rfl, rfl, by decide +kernel, rfl, by decide +kernel, by decide +kernel⟩
def spLaw (K : PySem.W.Frag) : Sp := fun vs H Q _ => ∃ (a : Addr) (ns : List Int), vs = [.ref a] ∧ SqL K H a (ns.map V.int) ∧ ns.length ≤ 63 ∧ ∀ H', Q (.bl true) H'
theorem c_law {f : Addr} {fd : FuncData} (T : TxtLw K mg aF) (c_law_start : C8.Cal P w K mg base 2 "_law_start" (spStart K) []) (c_law_take : C8.Cal P w K mg base 1 "_law_take" spTake []) (c_law_any : C8.Cal P w K mg base 18 "_law_any" (spAny 7) []) (c_law_one : C8.Cal P w K mg base 7 "_law_one" spLOne [])
    (c_law_program : C8.Cal P w K mg base (3 * 5 + 6) "_law_program" spProg []) (c_law_applied : C8.Cal P w K mg base 2 "_law_applied" spApp [])
    (F : Fun K "law" "law" sLaw f fd) : FnOk P w K mg base CX0 22 f fd ["script"] (spLaw K) := by
  refine F.ok scLaw (fun vs H Q E h => ?_) (fun cdv A outer s H vs Q E hr h => ?_)
  · obtain ⟨a, ns, rfl, _⟩ := h
    rfl
  obtain ⟨a, ns, rfl, hS, h63, q⟩ := h
  have hu := hu_of hr
  have hu64 := hr.units
  have hbig := big
  refine ⟨_, (pss_cons (ps_set (i := 1) scLaw.nd rfl (Or.inl rfl) (C8.pe_c c_law_start hr (by decide) rfl (pa_cons (pv 0) (pa_cons pe_int pa_nil))))
    (pss_cons (ps_if (pt_cmpR (op_neD hu64) (C8.pe_gc rfl T.gFAULTS) (pe_tup (pa_strs (zs := ["no match", "division by zero", "overflow"]) rfl)) (nomark _))
      (pss_one (ps_ret pe_bl))
      pss_nil)
    (pss_cons (ps_for PassesOwn.never rfl (pi_range1 rfl T.zrange (pa_cons pe_int pa_nil)) (pg_name (i := 2) scLaw.nd rfl (Or.inl rfl))
      (pss_cons (ps_set (i := 3) scLaw.nd rfl (Or.inl rfl) (pe_lst pa_nil))
    (pss_cons (ps_for PassesOwn.never rfl (pi_list (pe_lst (pa_strs (zs := ["f", "g", "main"]) rfl))) (pg_name (i := 4) scLaw.nd rfl (Or.inl rfl))
      (pss_cons (ps_dput hu (pv 1) pe_str pe_int rfl)
    (pss_one (ps_expr (pe_bm PySem.F.plainAttrs_list PySem.F.slot_list_append PySem.F.type_list_append mt_append (pv 3) (pa_cons (pe_tup (pa_cons (pv 4) (pa_cons (C8.pe_c c_law_any hr (by decide) rfl (pa_cons (pv 1) (pa_cons pe_int pa_nil))) pa_nil))) pa_nil))))))
    (pss_cons (ps_dput hu (pv 1) pe_str pe_int rfl)
    (pss_cons (ps_set (i := 5) scLaw.nd rfl (Or.inl rfl) (pe_tup (pa_cons (pe_callTy call_tupleF rfl T.ztuple boot_tuple (pa_cons (pv 3) pa_nil)) (pa_cons pe_str pa_nil))))
    (pss_cons (ps_set (i := 6) scLaw.nd rfl (Or.inl rfl) (C8.pe_c c_law_any hr (by decide) rfl (pa_cons (pv 1) (pa_cons pe_int pa_nil))))
    (pss_one (ps_for PassesOwn.never rfl (pi_list (pe_lst (pa_cons (pe_op op_mod (C8.pe_c c_law_take hr (by decide) rfl (pa_cons (pv 1) pa_nil)) pe_int) (pa_cons pe_int pa_nil)))) (pg_name (i := 7) scLaw.nd rfl (Or.inl rfl))
      (pss_one (ps_if (pt_not (pt_val (C8.pe_c c_law_one hr (by decide) rfl (pa_cons (pv 5) (pa_cons (pv 6) (pa_cons (pv 7) pa_nil))))))
      (pss_one (ps_ret pe_bl))
      pss_nil))))))))))
    (pss_cons (ps_dput hu (pv 1) pe_str pe_int rfl)
    (pss_cons (ps_set (i := 5) scLaw.nd rfl (Or.inl rfl) (C8.pe_c c_law_program hr (by decide) rfl (pa_cons (pv 1) pa_nil)))
    (pss_cons (ps_for PassesOwn.never rfl (pi_range1 rfl T.zrange (pa_cons pe_int pa_nil)) (pg_name (i := 2) scLaw.nd rfl (Or.inl rfl))
      (pss_one (ps_for PassesOwn.never rfl (pi_list (pe_lst (pa_cons pe_int (pa_cons (pe_op op_mod (C8.pe_c c_law_take hr (by decide) rfl (pa_cons (pv 1) pa_nil)) pe_int) (pa_cons (pe_op op_add pe_int (pe_op op_mod (C8.pe_c c_law_take hr (by decide) rfl (pa_cons (pv 1) pa_nil)) pe_int)) pa_nil))))) (pg_name (i := 7) scLaw.nd rfl (Or.inl rfl))
      (pss_one (ps_if (pt_not (pt_val (C8.pe_c c_law_one hr (by decide) rfl (pa_cons (pv 5) (pa_cons (C8.pe_c c_law_applied hr (by decide) rfl (pa_cons (pv 5) (pa_cons (pv 2) pa_nil))) (pa_cons (pv 7) pa_nil))))))
      (pss_one (ps_ret pe_bl))
      pss_nil)))))
    (pss_one (ps_ret pe_bl)))))))), ?_⟩
  refine ⟨_, rfl, a, ns, 30, rfl, hS, h63, fun p r H1 hp s1 d1 => ?_⟩
  -- the faults' names
  refine ⟨by show 3 ≤ sizeLine; decide, fun t0 ht0 => ?_⟩
  have s2 := same_new ht0 (.tup ([("no match" : Str), "division by zero", "overflow"].map V.str))
  have e2 : upd H1 t0 (.tup ([("no match" : Str), "division by zero", "overflow"].map V.str)) t0 = some (.tup (faults.map V.str)) := upd_same
  refine ⟨(Dd.tup (faults.map Dd.str)).D, (Dd.tup (faults.map Dd.str)).D, .tup (T.sFAULTS _) (strs_dpV _), .tup (SqT.of e2) (strs_dpV _), faults_shape, faults_shape, _, rfl, ?_⟩
  rw [eqv_self faults_shape]
  refine iteF ?_
  have d2 := d1.same s2
  generalize upd H1 t0 (.tup ([("no match" : Str), "division by zero", "overflow"].map V.str)) = H2 at d2 ⊢
  clear s2 e2
  refine ⟨_, rfl, by omega, by omega, for_range
    (fun (i : Nat) σ G => ∃ (v2 v3 v4 v5 v6 v7 : Option V), σ = [some (.ref a), some (.ref p), v2, v3, v4, v5, v6, v7] ∧ DAt G p r (i * 100000))
    ⟨_, _, _, _, _, _, rfl, d2.more (by omega)⟩ ?_ ?_⟩
  · rintro i σ G hi ⟨v2, v3, v4, v5, v6, v7, rfl, dG⟩
    have hi : i < 5 := hi
    refine ⟨by show 0 ≤ sizeLine; decide, fun Df hDf => ?_⟩
    have s3 := same_new hDf (.lst [])
    have e3 : upd G Df (.lst []) Df = some (.lst []) := upd_same
    have d3 := dG.same s3
    obtain ⟨nDp, nDr⟩ := dG.fresh hDf
    generalize upd G Df (.lst []) = G1 at s3 e3 d3 ⊢
    refine ⟨by show 3 ≤ sizeLine; decide, fun nl hnl => ?_⟩
    have s4 := same_new hnl (.lst ([("f" : Str), "g", "main"].map V.str))
    have e4 : upd G1 nl (.lst ([("f" : Str), "g", "main"].map V.str)) nl = some (.lst (three.map V.str)) := upd_same
    have d4 := d3.same s4
    have e34 := s4 _ _ e3
    have nlD : nl ≠ Df := fun z => by rw [z, e3] at hnl; cases hnl
    generalize upd G1 nl (.lst ([("f" : Str), "g", "main"].map V.str)) = G2 at s4 e4 d4 e34 ⊢
    refine ⟨nl, rfl, ⟨_, SqL.of e4⟩, for_list (a := nl) (xs := three.map V.str) (fun j σ G' => ∃ (l : List (Str × Dd)) (dxs : List V) (v4 : Option V), σ = [some (.ref a), some (.ref p), some (.int (0 + (i : Int))), some (.ref Df), v4, v5, v6, v7] ∧ DAt G' p r (i * 100000 + j * 3000) ∧ G' nl = some (.lst (three.map V.str)) ∧ G' Df = some (.lst dxs) ∧ Dd.Ats F0 G' (l.map defD) dxs ∧ l.map (·.1) = three.take j ∧ ∀ q ∈ l, TOk q.2)
      ⟨[], [], _, rfl, d4.more (by omega), e4, e34, rfl, rfl, fun q h => absurd h List.not_mem_nil⟩ (fun j σ G' _ ⟨_, _, _, _, _, h, _⟩ => SqL.of h) ?_ ?_⟩
    · rintro j x σ G' hx ⟨l, dxs, w4, rfl, dG', eN, eD, aD, hln, hok⟩
      rw [List.getElem?_map] at hx
      obtain ⟨z, hz, rfl⟩ := Option.map_eq_some_iff.mp hx
      have hj : j < 3 := (List.getElem?_eq_some_iff.mp hz).1
      have hzl : z.length ≤ 1000 := (show ∀ z ∈ three, z.length ≤ 1000 by decide +kernel) z (List.mem_of_getElem? hz)
      have hdl := ats_len aD
      rw [List.length_map] at hdl
      have hll : l.length ≤ 3 := by
        have e := congrArg List.length hln
        rw [List.length_map, List.length_take] at e
        have e3 : three.length = 3 := rfl
        omega
      obtain ⟨row, i1, nn, left, hp1, hrow1, ok1, hi1⟩ := dG'
      have npr : r ≠ p := ne_of hrow1 hp1 (by intro z; cases z)
      have nNp : nl ≠ p := fun z => by rw [z, hp1] at eN; cases eN
      refine ⟨_, rfl, p, _, rfl, DPut.k (k := Sum.inr "left") hp1 (by show 4 < sizeLine; decide), ?_⟩
      rw [dk_putl]
      have d5 : DAt (upd G' p (.dK (dk4 r i1 nn 25))) p r (i * 100000 + j * 3000) := ⟨row, i1, nn, 25, upd_same, by rw [upd_ne npr]; exact hrow1, ok1, hi1⟩
      have aD5 : Dd.Ats F0 (upd G' p (.dK (dk4 r i1 nn 25))) (l.map defD) dxs := aD.keep (fr_dict hp1)
      have eD5 : upd G' p (.dK (dk4 r i1 nn 25)) Df = some (.lst dxs) := by rw [upd_ne nDp]; exact eD
      have eN5 : upd G' p (.dK (dk4 r i1 nn 25)) nl = some (.lst (three.map V.str)) := by rw [upd_ne nNp]; exact eN
      generalize upd G' p (.dK (dk4 r i1 nn 25)) = G3 at d5 aD5 eD5 eN5 ⊢
      refine ⟨_, rfl, .inl ⟨rfl, _, SqL.of eD5⟩, _, rfl, _, rfl, p, r, _, 4, rfl, by decide, d5, by omega, fun v k G4 k4 d6 a6 g6 => ⟨by show 2 ≤ sizeLine; decide, fun t8 ht8 => ?_⟩⟩
      have eD6 := k4 _ _ nDp eD5
      have eN6 := k4 _ _ nNp eN5
      have aD6 := aD5.keep (fr_keep (B := F0) k4 d5)
      have s8 := same_new ht8 (.tup [.str z, v])
      have e8 : upd G4 t8 (.tup [.str z, v]) t8 = some (.tup [.str z, v]) := upd_same
      have d7 := d6.same s8
      have a7 := a6.keep (fr_same (B := F0) s8)
      have aD7 := aD6.keep (fr_same (B := F0) s8)
      have eD7 := s8 _ _ eD6
      have eN7 := s8 _ _ eN6
      generalize upd G4 t8 (.tup [.str z, v]) = G5 at e8 d7 a7 aD7 eD7 eN7 ⊢
      refine ⟨Df, _, _, rfl, rfl, eD7, szl (by omega), ?_⟩
      have f9 : Fr F0 G5 (upd G5 Df (.lst (dxs ++ [V.ref t8]))) := fr_list eD7 fun z => z
      refine ⟨l ++ [(z, k)], _, _, rfl, (d7.off nDp nDr _).more (by omega), by rw [upd_ne nlD]; exact eN7, upd_same, ?_, by rw [List.map_append, hln, take_snoc hz]; rfl, fun qq hqq => ?_⟩
      · rw [List.map_append]
        exact ats_app (aD7.keep f9) (ats_one (at_tup (f9.1 _ _ e8) (ats_cons (at_str' hzl) (ats_one (a7.keep f9)))))
      · rcases List.mem_append.mp hqq with e | e
        · exact hok qq e
        · rw [List.mem_singleton.mp e]
          exact ⟨isN_T _ _ g6.ok, by have := g6.sz; show k.sz ≤ 40000; omega⟩
    · rintro σ G' ⟨l, dxs, w4, rfl, dG', eN, eD, aD, hln, hok⟩
      rw [show (three.map V.str).length = 3 from rfl] at dG'
      have hln : l.map (·.1) = three := hln
      have hRO : RunOk l := ⟨by rw [hln]; decide +kernel, hok, by
        have e := congrArg List.length hln
        rw [List.length_map] at e
        rw [e]
        decide⟩
      obtain ⟨row, i1, nn, left, hp1, hrow1, ok1, hi1⟩ := dG'
      have npr : r ≠ p := ne_of hrow1 hp1 (by intro z; cases z)
      refine ⟨_, rfl, p, _, rfl, DPut.k (k := Sum.inr "left") hp1 (by show 4 < sizeLine; decide), ?_⟩
      rw [dk_putl]
      have d5 : DAt (upd G' p (.dK (dk4 r i1 nn 30))) p r (i * 100000 + 9000) := ⟨row, i1, nn, 30, upd_same, by rw [upd_ne npr]; exact hrow1, ok1, hi1⟩
      have aD5 : Dd.Ats F0 (upd G' p (.dK (dk4 r i1 nn 30))) (l.map defD) dxs := aD.keep (fr_dict hp1)
      have eD5 : upd G' p (.dK (dk4 r i1 nn 30)) Df = some (.lst dxs) := by rw [upd_ne nDp]; exact eD
      generalize upd G' p (.dK (dk4 r i1 nn 30)) = G3 at d5 aD5 eD5 ⊢
      refine ⟨_, rfl, Df, _, rfl, SqL.of eD5, fun t13 o13 ht13 ho13 => ⟨by show 2 ≤ sizeLine; decide, fun t14 ht14 => ?_⟩⟩
      have s13 := same_new ht13 (.frz o13 (.tup dxs))
      have s14 := same_new ht14 (.tup [.ref t13, .str "main"])
      have hPA : ProgAt (upd (upd G3 t13 (.frz o13 (.tup dxs))) t14 (.tup [.ref t13, .str "main"])) l "main" (.ref t14) := ⟨t14, t13, o13, dxs, rfl, upd_same, s14 _ _ upd_same, ho13, aD5.keep (fr_same (sameT s13 s14)), by decide +kernel⟩
      have d6 := d5.same (sameT s13 s14)
      generalize upd (upd G3 t13 (.frz o13 (.tup dxs))) t14 (.tup [.ref t13, .str "main"]) = G4 at hPA d6 ⊢
      refine ⟨_, rfl, p, r, _, 6, rfl, by decide, d6, by omega, fun v k G5 k5 d7 a7 g7 => ?_⟩
      have hPA5 := hPA.keepP k5 d6
      have htk : TOk k := ⟨isN_T _ _ g7.ok, by have := g7.sz; show k.sz ≤ 40000; omega⟩
      refine ⟨_, rfl, p, r, _, rfl, d7, fun x G6 x0 x1 k6 d8 => ?_⟩
      have hPA6 := hPA5.keepP k6 d7
      have a8 := a7.keep (fr_keep (B := F0) k6 d7)
      refine ⟨_, _, rfl, rfl, (show (0 : Int) < 40 by decide), ?_⟩
      obtain ⟨F1, hF1⟩ : ∃ F1 : Nat, x % 40 = (F1 : Int) := ⟨(x % 40).toNat, by omega⟩
      have hF1b : F1 ≤ 400 := by omega
      refine ⟨by show 2 ≤ sizeLine; decide, fun fl hfl => ?_⟩
      have s9 := same_new hfl (.lst [V.int (x % 40), V.int 200])
      have e9 : upd G6 fl (.lst [V.int (x % 40), V.int 200]) fl = some (.lst ([F1, 200].map fun n : Nat => V.int (n : Int))) := by rw [upd_same, hF1]; rfl
      have d9 := d8.same s9
      have hPA9 := hPA6.keep s9
      have a9 := a8.keep (fr_same (B := F0) s9)
      generalize upd G6 fl (.lst [V.int (x % 40), V.int 200]) = G7 at e9 d9 hPA9 a9 ⊢
      refine ⟨fl, rfl, ⟨_, SqL.of e9⟩, for_list (a := fl) (xs := [F1, 200].map fun n : Nat => V.int (n : Int)) (fun j σ G' => ∃ (v7 : Option V), σ = [some (.ref a), some (.ref p), some (.int (0 + (i : Int))), some (.ref Df), w4, some (.ref t14), some v, v7] ∧ Same G7 G')
        ⟨_, rfl, fun _ _ e => e⟩ (fun j σ G' _ ⟨_, _, h⟩ => SqL.of (h _ _ e9)) ?_ ?_⟩
      · rintro j y σ G' hy ⟨w7, rfl, sG'⟩
        rw [List.getElem?_map] at hy
        obtain ⟨F2, hF2, rfl⟩ := Option.map_eq_some_iff.mp hy
        have hF2b : F2 ≤ 400 := by
          have hm := List.mem_of_getElem? hF2
          simp only [List.mem_cons, List.not_mem_nil, or_false] at hm
          omega
        refine ⟨_, rfl, _, rfl, _, rfl, .ref t14, v, F2, l, "main", k, rfl, hPA9.keep sG', hRO, a9.keep (fr_same sG'), htk, hF2b, fun H' s' => ⟨_, rfl, ?_⟩⟩
        refine iteF ?_
        exact ⟨_, rfl, sameT sG' s'⟩
      · rintro σ G' ⟨w7, rfl, sG'⟩
        exact ⟨_, _, _, _, _, _, rfl, (d9.same sG').more (by omega)⟩
  · rintro σ G ⟨v2, v3, v4, v5, v6, v7, rfl, dG⟩
    have dG : DAt G p r 500000 := dG.more (by decide)
    obtain ⟨row, i1, nn, left, hp1, hrow1, ok1, hi1⟩ := dG
    have npr : r ≠ p := ne_of hrow1 hp1 (by intro z; cases z)
    refine ⟨_, rfl, p, _, rfl, DPut.k (k := Sum.inr "left") hp1 (by show 4 < sizeLine; decide), ?_⟩
    rw [dk_putl]
    have d3 : DAt (upd G p (.dK (dk4 r i1 nn 60))) p r 500000 := ⟨row, i1, nn, 60, upd_same, by rw [upd_ne npr]; exact hrow1, ok1, hi1⟩
    generalize upd G p (.dK (dk4 r i1 nn 60)) = G3 at d3 ⊢
    refine ⟨_, rfl, p, r, _, rfl, d3, by omega, fun gv l G4 k4 d4 aP hP => ?_⟩
    have hRO := runOk_of hP
    refine ⟨_, rfl, by omega, by omega, for_range
      (fun (i : Nat) σ G => ∃ (w2 w3 w4 w6 w7 : Option V), σ = [some (.ref a), some (.ref p), w2, w3, w4, some gv, w6, w7] ∧ DAt G p r (900000 + i * 100) ∧ ProgAt G l "main" gv)
      ⟨_, _, _, _, _, rfl, d4.more (by omega), aP⟩ ?_ ?_⟩
    · rintro i σ G hi ⟨w2, w3, w4, w6, w7, rfl, dG, hPA⟩
      have hi : i < 7 := hi
      rw [show (0 : Int) + (i : Int) = (i : Int) from Int.zero_add _]
      refine ⟨_, rfl, p, r, _, rfl, dG, fun x G5 x0 x1 k5 d5 => ?_⟩
      have hPA5 := hPA.keepP k5 dG
      refine ⟨_, _, rfl, rfl, (show (0 : Int) < 60 by decide), ?_⟩
      obtain ⟨F1, hF1⟩ : ∃ F1 : Nat, x % 60 = (F1 : Int) := ⟨(x % 60).toNat, by omega⟩
      have hF1b : F1 ≤ 400 := by omega
      refine ⟨_, rfl, p, r, _, rfl, d5, fun y G6 y0 y1 k6 d6 => ?_⟩
      have hPA6 := hPA5.keepP k6 d5
      refine ⟨_, _, rfl, rfl, (show (0 : Int) < 100 by decide), _, _, rfl, rfl, ?_⟩
      obtain ⟨F2, hF2⟩ : ∃ F2 : Nat, 300 + y % 100 = (F2 : Int) := ⟨(300 + y % 100).toNat, by omega⟩
      have hF2b : F2 ≤ 400 := by omega
      refine ⟨by show 3 ≤ sizeLine; decide, fun fl hfl => ?_⟩
      have s9 := same_new hfl (.lst [V.int 0, V.int (x % 60), V.int (300 + y % 100)])
      have e9 : upd G6 fl (.lst [V.int 0, V.int (x % 60), V.int (300 + y % 100)]) fl = some (.lst ([0, F1, F2].map fun n : Nat => V.int (n : Int))) := by rw [upd_same, hF1, hF2]; rfl
      have d9 := d6.same s9
      have hPA9 := hPA6.keep s9
      generalize upd G6 fl (.lst [V.int 0, V.int (x % 60), V.int (300 + y % 100)]) = G7 at e9 d9 hPA9 ⊢
      refine ⟨fl, rfl, ⟨_, SqL.of e9⟩, for_list (a := fl) (xs := [0, F1, F2].map fun n : Nat => V.int (n : Int)) (fun j σ G' => ∃ (v7 : Option V), σ = [some (.ref a), some (.ref p), some (.int (i : Int)), w3, w4, some gv, w6, v7] ∧ Same G7 G')
        ⟨_, rfl, fun _ _ e => e⟩ (fun j σ G' _ ⟨_, _, h⟩ => SqL.of (h _ _ e9)) ?_ ?_⟩
      · rintro j z σ G' hy ⟨w7, rfl, sG'⟩
        rw [List.getElem?_map] at hy
        obtain ⟨F3, hF3, rfl⟩ := Option.map_eq_some_iff.mp hy
        have hF3b : F3 ≤ 400 := by
          have hm := List.mem_of_getElem? hF3
          simp only [List.mem_cons, List.not_mem_nil, or_false] at hm
          omega
        have hPG := hPA9.keep sG'
        refine ⟨_, rfl, _, rfl, _, rfl, gv, i, rfl, hi, fun v H' t s' hat htk => ?_⟩
        refine ⟨_, rfl, gv, v, F3, l, "main", t, rfl, hPG.keep s', hRO, hat, htk, hF3b, fun H'' s'' => ⟨_, rfl, ?_⟩⟩
        refine iteF ?_
        exact ⟨_, rfl, sameT sG' (sameT s' s'')⟩
      · rintro σ G' ⟨w7, rfl, sG'⟩
        exact ⟨_, _, _, _, _, rfl, (d9.same sG').more (by omega), hPA9.keep sG'⟩
    · rintro σ G' ⟨w2, w3, w4, w6, w7, rfl, _, _⟩
      exact q _
end
end Toy

set_option Elab.async false
set_option linter.all false
set_option maxRecDepth 100000
set_option maxHeartbeats 4000000
/-! Part NB: written tuples and dicts. -/
namespace Toy
open PySem L2
open PyProof.Rows (envOfC)
def strsAre : List Str → List Value → Bool
  | [], [] => true
  | z :: zs, .str x _ :: us => decide (x = z) && strsAre zs us
  | _, _ => false
theorem strsAre_ok : ∀ {zs : List Str} {us : List Value}, strsAre zs us = true → Vals (zs.map V.str) us
  | [], [], _ => .nil
  | [], _ :: _, h => by simp [strsAre] at h
  | _ :: _, [], h => by simp [strsAre] at h
  | z :: zs, u :: us, h => by
    cases u with
    | str x t =>
      simp only [strsAre, Bool.and_eq_true, decide_eq_true_eq] at h
      exact .cons ⟨t, by rw [h.1]⟩ (strsAre_ok h.2)
    | _ => simp [strsAre] at h
theorem written_tup {K : PySem.W.Frag} {a : Addr} {zs : List Str} {oc : Value} {od : Option Addr} {its : Array Value} {n : Nat} {sl : Array (Option Value)} (hz : zs.length ≤ 1000) (l : K.lookup a = some ⟨oc, od, .seq its n, sl⟩) (c : oc = .type "tuple") (v : strsAre zs its.toList = true) : ∀ H : Hp, SqT K H a (zs.map V.str) := fun H => by
  subst c
  have hv := strsAre_ok v
  have hl := hv.length
  rw [List.length_map] at hl
  have hl' : zs.length = its.size := by rw [hl]; exact Array.length_toList
  exact .inr ⟨_, its, n, l, rfl, rfl, Nat.le_of_lt (szl (by omega)), hv⟩
theorem held_of {P : Program} {w : World} {K : PySem.W.Frag} {mg : Str → Option Value} {base : Heap} {k : Nat} {x : Str} {f : Addr} {sp : Sp} (c : C8.Cal P w K mg base k x sp []) (hm : mg x = some (.ref f)) : Held P w K mg base k f sp := by
  obtain ⟨f', fd, ps, ds, F, hm', kp, b, d⟩ := c.ex
  rw [hm] at hm'
  cases hm'
  cases d
  exact ⟨fd, ps, F, kp, b⟩
def tab (l : List (Addr × Sp)) (f : Addr) : Option Sp := (l.find? fun q => decide (q.1 = f)).map (·.2)
theorem tab_mem : ∀ {l : List (Addr × Sp)}, (l.map (·.1)).Nodup → ∀ {f : Addr} {sp : Sp}, (f, sp) ∈ l → tab l f = some sp
  | q :: l, h, f, sp, m => by
    rw [List.map_cons, List.nodup_cons] at h
    unfold tab
    rw [List.find?_cons]
    rcases List.mem_cons.mp m with e | e
    · rw [← e, show decide ((f, sp).1 = f) = true from decide_eq_true rfl]
      rfl
    · rw [show decide (q.1 = f) = false from decide_eq_false fun z => h.1 (by rw [z]; exact List.mem_map.mpr ⟨_, e, rfl⟩)]
      exact tab_mem h.2 e
theorem tab_of {l : List (Addr × Sp)} {f : Addr} {sp : Sp} (h : tab l f = some sp) : (f, sp) ∈ l := by
  unfold tab at h
  obtain ⟨q, hq, rfl⟩ := Option.map_eq_some_iff.mp h
  have h1 := List.mem_of_find?_eq_some hq
  have h2 := List.find?_some (p := fun q : Addr × Sp => decide (q.1 = f)) hq
  have h2 : q.1 = f := of_decide_eq_true h2
  rw [← h2]
  exact h1
theorem held_up {P : Program} {w : World} {K : PySem.W.Frag} {mg : Str → Option Value} {base : Heap} {j k : Nat} {f : Addr} {sp : Sp} (h : Held P w K mg base j f sp) (hj : j ≤ k) : Held P w K mg base k f sp := by
  obtain ⟨fd, ps, F, kp, b⟩ := h
  exact ⟨fd, ps, F.mono hj, kp, b⟩
end Toy

set_option Elab.async false
set_option linter.all false
set_option maxRecDepth 100000
set_option maxHeartbeats 4000000
/-! The last part: what the program's top has left, and the end. -/
namespace Toy
open PySem L2
open PyProof.Rows (envOfC)
theorem all_mk {l : PySem.W.OpenLaw} {w : World} {K : PySem.W.Frag} {h : Heap} {mg : Str → Option Value} {fa : Addr} {f0 f1 f2 f3 f4 f5 f6 f7 f8 f9 f10 f11 f12 f13 f14 f15 f16 f17 f18 f19 f20 f21 f22 f23 f24 f25 f26 f27 f28 f29 f30 f31 f32 f33 f34 f35 f36 f37 f38 f39 f40 f41 f42 f43 f44 f45 f46 f47 f48 f49 f50 : Addr} (X : K.In h) (G : h.Ns mainGlobals mg) (hfa : mg "law" = some (.ref fa))
    {od0 an0 od1 an1 od2 an2 od3 an3 od4 an4 od5 an5 od6 an6 od7 an7 od8 an8 od9 an9 od10 an10 od11 an11 od12 an12 od13 an13 od14 an14 od15 an15 od16 an16 od17 an17 od18 an18 od19 an19 od20 an20 od21 an21 od22 an22 od23 an23 od24 an24 od25 an25 od26 an26 od27 an27 od28 an28 od29 an29 od30 an30 od31 an31 od32 an32 od33 an33 od34 an34 od35 an35 od36 an36 od37 an37 od38 an38 od39 an39 od40 an40 od41 an41 od42 an42 od43 an43 od44 an44 od45 an45 od46 an46 od47 an47 od48 an48 od49 an49 od50 an50 : Option Addr} {sl0 sl1 sl2 sl3 sl4 sl5 sl6 sl7 sl8 sl9 sl10 sl11 sl12 sl13 sl14 sl15 sl16 sl17 sl18 sl19 sl20 sl21 sl22 sl23 sl24 sl25 sl26 sl27 sl28 sl29 sl30 sl31 sl32 sl33 sl34 sl35 sl36 sl37 sl38 sl39 sl40 sl41 sl42 sl43 sl44 sl45 sl46 sl47 sl48 sl49 sl50 : Array (Option Value)} {oc0 kV0 dc0 pm0 cd0 ct0 oc1 kV1 dc1 pm1 cd1 ct1 oc2 kV2 dc2 pm2 cd2 ct2 oc3 kV3 dc3 pm3 cd3 ct3 oc4 kV4 dc4 pm4 cd4 ct4 oc5 kV5 dc5 pm5 cd5 ct5 oc6 kV6 dc6 pm6 cd6 ct6 oc7 kV7 dc7 pm7 cd7 ct7 oc8 kV8 dc8 pm8 cd8 ct8 oc9 kV9 dc9 pm9 cd9 ct9 oc10 kV10 dc10 pm10 cd10 ct10 oc11 kV11 dc11 pm11 cd11 ct11 oc12 kV12 dc12 pm12 cd12 ct12 oc13 kV13 dc13 pm13 cd13 ct13 oc14 kV14 dc14 pm14 cd14 ct14 oc15 kV15 dc15 pm15 cd15 ct15 oc16 kV16 dc16 pm16 cd16 ct16 oc17 kV17 dc17 pm17 cd17 ct17 oc18 kV18 dc18 pm18 cd18 ct18 oc19 kV19 dc19 pm19 cd19 ct19 oc20 kV20 dc20 pm20 cd20 ct20 oc21 kV21 dc21 pm21 cd21 ct21 oc22 kV22 dc22 pm22 cd22 ct22 oc23 kV23 dc23 pm23 cd23 ct23 oc24 kV24 dc24 pm24 cd24 ct24 oc25 kV25 dc25 pm25 cd25 ct25 oc26 kV26 dc26 pm26 cd26 ct26 oc27 kV27 dc27 pm27 cd27 ct27 oc28 kV28 dc28 pm28 cd28 ct28 oc29 kV29 dc29 pm29 cd29 ct29 oc30 kV30 dc30 pm30 cd30 ct30 oc31 kV31 dc31 pm31 cd31 ct31 oc32 kV32 dc32 pm32 cd32 ct32 oc33 kV33 dc33 pm33 cd33 ct33 oc34 kV34 dc34 pm34 cd34 ct34 oc35 kV35 dc35 pm35 cd35 ct35 oc36 kV36 dc36 pm36 cd36 ct36 oc37 kV37 dc37 pm37 cd37 ct37 oc38 kV38 dc38 pm38 cd38 ct38 oc39 kV39 dc39 pm39 cd39 ct39 oc40 kV40 dc40 pm40 cd40 ct40 oc41 kV41 dc41 pm41 cd41 ct41 oc42 kV42 dc42 pm42 cd42 ct42 oc43 kV43 dc43 pm43 cd43 ct43 oc44 kV44 dc44 pm44 cd44 ct44 oc45 kV45 dc45 pm45 cd45 ct45 oc46 kV46 dc46 pm46 cd46 ct46 oc47 kV47 dc47 pm47 cd47 ct47 oc48 kV48 dc48 pm48 cd48 ct48 oc49 kV49 dc49 pm49 cd49 ct49 oc50 kV50 dc50 pm50 cd50 ct50 : Value}
    {aEV aCN CE : Addr} {esEV esCN : Array DictEntry} {nEV nCN : Nat} {tk1 : Tok} {aFA : Addr} {nFA : Nat} {ocFA : Value} {odFA : Option Addr} {itFA : Array Value} {slFA : Array (Option Value)} {aST : Addr} {nST : Nat} {ocST : Value} {odST : Option Addr} {itST : Array Value} {slST : Array (Option Value)} {aMO : Addr} {nMO : Nat} {ocMO : Value} {odMO : Option Addr} {itMO : Array Value} {slMO : Array (Option Value)} {aNM : Addr} {nNM : Nat} {ocNM : Value} {odNM : Option Addr} {itNM : Array Value} {slNM : Array (Option Value)} {aBZ : Addr} {nBZ : Nat} {ocBZ : Value} {odBZ : Option Addr} {itBZ : Array Value} {slBZ : Array (Option Value)} {aOV : Addr} {nOV : Nat} {ocOV : Value} {odOV : Option Addr} {itOV : Array Value} {slOV : Array (Option Value)} {gEvInit : Addr} {modEvInit manEvInit : Option Addr} {mslEvInit : Array (Option Value)} {mocEvInit mkVEvInit mdcEvInit mpmEvInit mcdEvInit mctEvInit : Value} {gEvBegin : Addr} {modEvBegin manEvBegin : Option Addr} {mslEvBegin : Array (Option Value)} {mocEvBegin mkVEvBegin mdcEvBegin mpmEvBegin mcdEvBegin mctEvBegin : Value} {gEvRun : Addr} {modEvRun manEvRun : Option Addr} {mslEvRun : Array (Option Value)} {mocEvRun mkVEvRun mdcEvRun mpmEvRun mcdEvRun mctEvRun : Value} {gEvLook : Addr} {modEvLook manEvLook : Option Addr} {mslEvLook : Array (Option Value)} {mocEvLook mkVEvLook mdcEvLook mpmEvLook mcdEvLook mctEvLook : Value} {gEvPut : Addr} {modEvPut manEvPut : Option Addr} {mslEvPut : Array (Option Value)} {mocEvPut mkVEvPut mdcEvPut mpmEvPut mcdEvPut mctEvPut : Value} 
    (a0 : PySem.W.nsIn K mainGlobals "head_of" = some (some (.ref f0)))
    (l0 : K.lookup f0 = some ⟨oc0, od0, .func (PySem.W.fnOf "head_of" "head_of" (defArgs sHeadOf) (defBody sHeadOf) (defScope sHeadOf) .none kV0 dc0 pm0 an0 cd0 ct0), sl0⟩)
    (c0 : PySem.W.codeIn K cd0 "head_of" = true)
    (k0 : PySem.W.keepIn K (.ref f0) = true)
    (a1 : PySem.W.nsIn K mainGlobals "_evaluate_var" = some (some (.ref f1)))
    (l1 : K.lookup f1 = some ⟨oc1, od1, .func (PySem.W.fnOf "_evaluate_var" "_evaluate_var" (defArgs sEvVar) (defBody sEvVar) (defScope sEvVar) .none kV1 dc1 pm1 an1 cd1 ct1), sl1⟩)
    (c1 : PySem.W.codeIn K cd1 "_evaluate_var" = true)
    (k1 : PySem.W.keepIn K (.ref f1) = true)
    (a2 : PySem.W.nsIn K mainGlobals "_evaluate_app" = some (some (.ref f2)))
    (l2 : K.lookup f2 = some ⟨oc2, od2, .func (PySem.W.fnOf "_evaluate_app" "_evaluate_app" (defArgs sEvApp) (defBody sEvApp) (defScope sEvApp) .none kV2 dc2 pm2 an2 cd2 ct2), sl2⟩)
    (c2 : PySem.W.codeIn K cd2 "_evaluate_app" = true)
    (k2 : PySem.W.keepIn K (.ref f2) = true)
    (a3 : PySem.W.nsIn K mainGlobals "_evaluate_let" = some (some (.ref f3)))
    (l3 : K.lookup f3 = some ⟨oc3, od3, .func (PySem.W.fnOf "_evaluate_let" "_evaluate_let" (defArgs sEvLet) (defBody sEvLet) (defScope sEvLet) .none kV3 dc3 pm3 an3 cd3 ct3), sl3⟩)
    (c3 : PySem.W.codeIn K cd3 "_evaluate_let" = true)
    (k3 : PySem.W.keepIn K (.ref f3) = true)
    (a4 : PySem.W.nsIn K mainGlobals "_evaluate_seq" = some (some (.ref f4)))
    (l4 : K.lookup f4 = some ⟨oc4, od4, .func (PySem.W.fnOf "_evaluate_seq" "_evaluate_seq" (defArgs sEvSeq) (defBody sEvSeq) (defScope sEvSeq) .none kV4 dc4 pm4 an4 cd4 ct4), sl4⟩)
    (c4 : PySem.W.codeIn K cd4 "_evaluate_seq" = true)
    (k4 : PySem.W.keepIn K (.ref f4) = true)
    (a5 : PySem.W.nsIn K mainGlobals "_evaluate_choice" = some (some (.ref f5)))
    (l5 : K.lookup f5 = some ⟨oc5, od5, .func (PySem.W.fnOf "_evaluate_choice" "_evaluate_choice" (defArgs sEvChoice) (defBody sEvChoice) (defScope sEvChoice) .none kV5 dc5 pm5 an5 cd5 ct5), sl5⟩)
    (c5 : PySem.W.codeIn K cd5 "_evaluate_choice" = true)
    (k5 : PySem.W.keepIn K (.ref f5) = true)
    (a6 : PySem.W.nsIn K mainGlobals "_evaluate_prim" = some (some (.ref f6)))
    (l6 : K.lookup f6 = some ⟨oc6, od6, .func (PySem.W.fnOf "_evaluate_prim" "_evaluate_prim" (defArgs sEvPrim) (defBody sEvPrim) (defScope sEvPrim) .none kV6 dc6 pm6 an6 cd6 ct6), sl6⟩)
    (c6 : PySem.W.codeIn K cd6 "_evaluate_prim" = true)
    (k6 : PySem.W.keepIn K (.ref f6) = true)
    (a7 : PySem.W.nsIn K mainGlobals "_evaluate_note" = some (some (.ref f7)))
    (l7 : K.lookup f7 = some ⟨oc7, od7, .func (PySem.W.fnOf "_evaluate_note" "_evaluate_note" (defArgs sEvNote) (defBody sEvNote) (defScope sEvNote) .none kV7 dc7 pm7 an7 cd7 ct7), sl7⟩)
    (c7 : PySem.W.codeIn K cd7 "_evaluate_note" = true)
    (k7 : PySem.W.keepIn K (.ref f7) = true)
    (a8 : PySem.W.nsIn K mainGlobals "_apply" = some (some (.ref f8)))
    (l8 : K.lookup f8 = some ⟨oc8, od8, .func (PySem.W.fnOf "_apply" "_apply" (defArgs sGoApply) (defBody sGoApply) (defScope sGoApply) .none kV8 dc8 pm8 an8 cd8 ct8), sl8⟩)
    (c8 : PySem.W.codeIn K cd8 "_apply" = true)
    (k8 : PySem.W.keepIn K (.ref f8) = true)
    (a9 : PySem.W.nsIn K mainGlobals "_go_on_with_head" = some (some (.ref f9)))
    (l9 : K.lookup f9 = some ⟨oc9, od9, .func (PySem.W.fnOf "_go_on_with_head" "_go_on_with_head" (defArgs sGoHead) (defBody sGoHead) (defScope sGoHead) .none kV9 dc9 pm9 an9 cd9 ct9), sl9⟩)
    (c9 : PySem.W.codeIn K cd9 "_go_on_with_head" = true)
    (k9 : PySem.W.keepIn K (.ref f9) = true)
    (a10 : PySem.W.nsIn K mainGlobals "_go_on_with_seq" = some (some (.ref f10)))
    (l10 : K.lookup f10 = some ⟨oc10, od10, .func (PySem.W.fnOf "_go_on_with_seq" "_go_on_with_seq" (defArgs sGoSeq) (defBody sGoSeq) (defScope sGoSeq) .none kV10 dc10 pm10 an10 cd10 ct10), sl10⟩)
    (c10 : PySem.W.codeIn K cd10 "_go_on_with_seq" = true)
    (k10 : PySem.W.keepIn K (.ref f10) = true)
    (a11 : PySem.W.nsIn K mainGlobals "_go_on_with_case" = some (some (.ref f11)))
    (l11 : K.lookup f11 = some ⟨oc11, od11, .func (PySem.W.fnOf "_go_on_with_case" "_go_on_with_case" (defArgs sGoCase) (defBody sGoCase) (defScope sGoCase) .none kV11 dc11 pm11 an11 cd11 ct11), sl11⟩)
    (c11 : PySem.W.codeIn K cd11 "_go_on_with_case" = true)
    (k11 : PySem.W.keepIn K (.ref f11) = true)
    (a12 : PySem.W.nsIn K mainGlobals "_go_on_with_pick" = some (some (.ref f12)))
    (l12 : K.lookup f12 = some ⟨oc12, od12, .func (PySem.W.fnOf "_go_on_with_pick" "_go_on_with_pick" (defArgs sGoPick) (defBody sGoPick) (defScope sGoPick) .none kV12 dc12 pm12 an12 cd12 ct12), sl12⟩)
    (c12 : PySem.W.codeIn K cd12 "_go_on_with_pick" = true)
    (k12 : PySem.W.keepIn K (.ref f12) = true)
    (a13 : PySem.W.nsIn K mainGlobals "_go_on_with_default" = some (some (.ref f13)))
    (l13 : K.lookup f13 = some ⟨oc13, od13, .func (PySem.W.fnOf "_go_on_with_default" "_go_on_with_default" (defArgs sGoDflt) (defBody sGoDflt) (defScope sGoDflt) .none kV13 dc13 pm13 an13 cd13 ct13), sl13⟩)
    (c13 : PySem.W.codeIn K cd13 "_go_on_with_default" = true)
    (k13 : PySem.W.keepIn K (.ref f13) = true)
    (a14 : PySem.W.nsIn K mainGlobals "_go_on_with_second" = some (some (.ref f14)))
    (l14 : K.lookup f14 = some ⟨oc14, od14, .func (PySem.W.fnOf "_go_on_with_second" "_go_on_with_second" (defArgs sGoSecond) (defBody sGoSecond) (defScope sGoSecond) .none kV14 dc14 pm14 an14 cd14 ct14), sl14⟩)
    (c14 : PySem.W.codeIn K cd14 "_go_on_with_second" = true)
    (k14 : PySem.W.keepIn K (.ref f14) = true)
    (a15 : PySem.W.nsIn K mainGlobals "_go_on_with_first" = some (some (.ref f15)))
    (l15 : K.lookup f15 = some ⟨oc15, od15, .func (PySem.W.fnOf "_go_on_with_first" "_go_on_with_first" (defArgs sGoFirst) (defBody sGoFirst) (defScope sGoFirst) .none kV15 dc15 pm15 an15 cd15 ct15), sl15⟩)
    (c15 : PySem.W.codeIn K cd15 "_go_on_with_first" = true)
    (k15 : PySem.W.keepIn K (.ref f15) = true)
    (a16 : PySem.W.nsIn K mainGlobals "prim_result" = some (some (.ref f16)))
    (l16 : K.lookup f16 = some ⟨oc16, od16, .func (PySem.W.fnOf "prim_result" "prim_result" (defArgs sPrimRes) (defBody sPrimRes) (defScope sPrimRes) .none kV16 dc16 pm16 an16 cd16 ct16), sl16⟩)
    (c16 : PySem.W.codeIn K cd16 "prim_result" = true)
    (k16 : PySem.W.keepIn K (.ref f16) = true)
    (a17 : PySem.W.nsIn K mainGlobals "_holds" = some (some (.ref f17)))
    (l17 : K.lookup f17 = some ⟨oc17, od17, .func (PySem.W.fnOf "_holds" "_holds" (defArgs sHolds) (defBody sHolds) (defScope sHolds) .none kV17 dc17 pm17 an17 cd17 ct17), sl17⟩)
    (c17 : PySem.W.codeIn K cd17 "_holds" = true)
    (k17 : PySem.W.keepIn K (.ref f17) = true)
    (a18 : PySem.W.nsIn K mainGlobals "_worked_out" = some (some (.ref f18)))
    (l18 : K.lookup f18 = some ⟨oc18, od18, .func (PySem.W.fnOf "_worked_out" "_worked_out" (defArgs sWorked) (defBody sWorked) (defScope sWorked) .none kV18 dc18 pm18 an18 cd18 ct18), sl18⟩)
    (c18 : PySem.W.codeIn K cd18 "_worked_out" = true)
    (k18 : PySem.W.keepIn K (.ref f18) = true)
    (a19 : PySem.W.nsIn K mainGlobals "_law_draws" = some (some (.ref f19)))
    (l19 : K.lookup f19 = some ⟨oc19, od19, .func (PySem.W.fnOf "_law_draws" "_law_draws" (defArgs sDraws) (defBody sDraws) (defScope sDraws) .none kV19 dc19 pm19 an19 cd19 ct19), sl19⟩)
    (c19 : PySem.W.codeIn K cd19 "_law_draws" = true)
    (k19 : PySem.W.keepIn K (.ref f19) = true)
    (a20 : PySem.W.nsIn K mainGlobals "_law_take" = some (some (.ref f20)))
    (l20 : K.lookup f20 = some ⟨oc20, od20, .func (PySem.W.fnOf "_law_take" "_law_take" (defArgs sTake) (defBody sTake) (defScope sTake) .none kV20 dc20 pm20 an20 cd20 ct20), sl20⟩)
    (c20 : PySem.W.codeIn K cd20 "_law_take" = true)
    (k20 : PySem.W.keepIn K (.ref f20) = true)
    (a21 : PySem.W.nsIn K mainGlobals "_law_fresh" = some (some (.ref f21)))
    (l21 : K.lookup f21 = some ⟨oc21, od21, .func (PySem.W.fnOf "_law_fresh" "_law_fresh" (defArgs sFresh) (defBody sFresh) (defScope sFresh) .none kV21 dc21 pm21 an21 cd21 ct21), sl21⟩)
    (c21 : PySem.W.codeIn K cd21 "_law_fresh" = true)
    (k21 : PySem.W.keepIn K (.ref f21) = true)
    (a22 : PySem.W.nsIn K mainGlobals "_law_start" = some (some (.ref f22)))
    (l22 : K.lookup f22 = some ⟨oc22, od22, .func (PySem.W.fnOf "_law_start" "_law_start" (defArgs sStart) (defBody sStart) (defScope sStart) .none kV22 dc22 pm22 an22 cd22 ct22), sl22⟩)
    (c22 : PySem.W.codeIn K cd22 "_law_start" = true)
    (k22 : PySem.W.keepIn K (.ref f22) = true)
    (a23 : PySem.W.nsIn K mainGlobals "_law_name" = some (some (.ref f23)))
    (l23 : K.lookup f23 = some ⟨oc23, od23, .func (PySem.W.fnOf "_law_name" "_law_name" (defArgs sLName) (defBody sLName) (defScope sLName) .none kV23 dc23 pm23 an23 cd23 ct23), sl23⟩)
    (c23 : PySem.W.codeIn K cd23 "_law_name" = true)
    (k23 : PySem.W.keepIn K (.ref f23) = true)
    (a24 : PySem.W.nsIn K mainGlobals "_law_names" = some (some (.ref f24)))
    (l24 : K.lookup f24 = some ⟨oc24, od24, .func (PySem.W.fnOf "_law_names" "_law_names" (defArgs sLNames) (defBody sLNames) (defScope sLNames) .none kV24 dc24 pm24 an24 cd24 ct24), sl24⟩)
    (c24 : PySem.W.codeIn K cd24 "_law_names" = true)
    (k24 : PySem.W.keepIn K (.ref f24) = true)
    (a25 : PySem.W.nsIn K mainGlobals "_law_any_branch" = some (some (.ref f25)))
    (l25 : K.lookup f25 = some ⟨oc25, od25, .func (PySem.W.fnOf "_law_any_branch" "_law_any_branch" (defArgs sBranch) (defBody sBranch) (defScope sBranch) .none kV25 dc25 pm25 an25 cd25 ct25), sl25⟩)
    (c25 : PySem.W.codeIn K cd25 "_law_any_branch" = true)
    (k25 : PySem.W.keepIn K (.ref f25) = true)
    (a26 : PySem.W.nsIn K mainGlobals "_law_any" = some (some (.ref f26)))
    (l26 : K.lookup f26 = some ⟨oc26, od26, .func (PySem.W.fnOf "_law_any" "_law_any" (defArgs sAny) (defBody sAny) (defScope sAny) .none kV26 dc26 pm26 an26 cd26 ct26), sl26⟩)
    (c26 : PySem.W.codeIn K cd26 "_law_any" = true)
    (k26 : PySem.W.keepIn K (.ref f26) = true)
    (a27 : PySem.W.nsIn K mainGlobals "_law_var" = some (some (.ref f27)))
    (l27 : K.lookup f27 = some ⟨oc27, od27, .func (PySem.W.fnOf "_law_var" "_law_var" (defArgs sVar) (defBody sVar) (defScope sVar) .none kV27 dc27 pm27 an27 cd27 ct27), sl27⟩)
    (c27 : PySem.W.codeIn K cd27 "_law_var" = true)
    (k27 : PySem.W.keepIn K (.ref f27) = true)
    (a28 : PySem.W.nsIn K mainGlobals "_law_number" = some (some (.ref f28)))
    (l28 : K.lookup f28 = some ⟨oc28, od28, .func (PySem.W.fnOf "_law_number" "_law_number" (defArgs sNum) (defBody sNum) (defScope sNum) .none kV28 dc28 pm28 an28 cd28 ct28), sl28⟩)
    (c28 : PySem.W.codeIn K cd28 "_law_number" = true)
    (k28 : PySem.W.keepIn K (.ref f28) = true)
    (a29 : PySem.W.nsIn K mainGlobals "_law_leaf" = some (some (.ref f29)))
    (l29 : K.lookup f29 = some ⟨oc29, od29, .func (PySem.W.fnOf "_law_leaf" "_law_leaf" (defArgs sLeaf) (defBody sLeaf) (defScope sLeaf) .none kV29 dc29 pm29 an29 cd29 ct29), sl29⟩)
    (c29 : PySem.W.codeIn K cd29 "_law_leaf" = true)
    (k29 : PySem.W.keepIn K (.ref f29) = true)
    (a30 : PySem.W.nsIn K mainGlobals "_law_let" = some (some (.ref f30)))
    (l30 : K.lookup f30 = some ⟨oc30, od30, .func (PySem.W.fnOf "_law_let" "_law_let" (defArgs sLet) (defBody sLet) (defScope sLet) .none kV30 dc30 pm30 an30 cd30 ct30), sl30⟩)
    (c30 : PySem.W.codeIn K cd30 "_law_let" = true)
    (k30 : PySem.W.keepIn K (.ref f30) = true)
    (a31 : PySem.W.nsIn K mainGlobals "_law_default" = some (some (.ref f31)))
    (l31 : K.lookup f31 = some ⟨oc31, od31, .func (PySem.W.fnOf "_law_default" "_law_default" (defArgs sDflt2) (defBody sDflt2) (defScope sDflt2) .none kV31 dc31 pm31 an31 cd31 ct31), sl31⟩)
    (c31 : PySem.W.codeIn K cd31 "_law_default" = true)
    (k31 : PySem.W.keepIn K (.ref f31) = true)
    (a32 : PySem.W.nsIn K mainGlobals "_law_case" = some (some (.ref f32)))
    (l32 : K.lookup f32 = some ⟨oc32, od32, .func (PySem.W.fnOf "_law_case" "_law_case" (defArgs sCase) (defBody sCase) (defScope sCase) .none kV32 dc32 pm32 an32 cd32 ct32), sl32⟩)
    (c32 : PySem.W.codeIn K cd32 "_law_case" = true)
    (k32 : PySem.W.keepIn K (.ref f32) = true)
    (a33 : PySem.W.nsIn K mainGlobals "_law_choice" = some (some (.ref f33)))
    (l33 : K.lookup f33 = some ⟨oc33, od33, .func (PySem.W.fnOf "_law_choice" "_law_choice" (defArgs sChoice) (defBody sChoice) (defScope sChoice) .none kV33 dc33 pm33 an33 cd33 ct33), sl33⟩)
    (c33 : PySem.W.codeIn K cd33 "_law_choice" = true)
    (k33 : PySem.W.keepIn K (.ref f33) = true)
    (a34 : PySem.W.nsIn K mainGlobals "_law_globals" = some (some (.ref f34)))
    (l34 : K.lookup f34 = some ⟨oc34, od34, .func (PySem.W.fnOf "_law_globals" "_law_globals" (defArgs sGlobals) (defBody sGlobals) (defScope sGlobals) .none kV34 dc34 pm34 an34 cd34 ct34), sl34⟩)
    (c34 : PySem.W.codeIn K cd34 "_law_globals" = true)
    (k34 : PySem.W.keepIn K (.ref f34) = true)
    (a35 : PySem.W.nsIn K mainGlobals "_law_call" = some (some (.ref f35)))
    (l35 : K.lookup f35 = some ⟨oc35, od35, .func (PySem.W.fnOf "_law_call" "_law_call" (defArgs sLCall) (defBody sLCall) (defScope sLCall) .none kV35 dc35 pm35 an35 cd35 ct35), sl35⟩)
    (c35 : PySem.W.codeIn K cd35 "_law_call" = true)
    (k35 : PySem.W.keepIn K (.ref f35) = true)
    (a36 : PySem.W.nsIn K mainGlobals "_law_own" = some (some (.ref f36)))
    (l36 : K.lookup f36 = some ⟨oc36, od36, .func (PySem.W.fnOf "_law_own" "_law_own" (defArgs sLOwn2) (defBody sLOwn2) (defScope sLOwn2) .none kV36 dc36 pm36 an36 cd36 ct36), sl36⟩)
    (c36 : PySem.W.codeIn K cd36 "_law_own" = true)
    (k36 : PySem.W.keepIn K (.ref f36) = true)
    (a37 : PySem.W.nsIn K mainGlobals "_law_term" = some (some (.ref f37)))
    (l37 : K.lookup f37 = some ⟨oc37, od37, .func (PySem.W.fnOf "_law_term" "_law_term" (defArgs sTerm) (defBody sTerm) (defScope sTerm) .none kV37 dc37 pm37 an37 cd37 ct37), sl37⟩)
    (c37 : PySem.W.codeIn K cd37 "_law_term" = true)
    (k37 : PySem.W.keepIn K (.ref f37) = true)
    (a38 : PySem.W.nsIn K mainGlobals "_law_program" = some (some (.ref f38)))
    (l38 : K.lookup f38 = some ⟨oc38, od38, .func (PySem.W.fnOf "_law_program" "_law_program" (defArgs sProg) (defBody sProg) (defScope sProg) .none kV38 dc38 pm38 an38 cd38 ct38), sl38⟩)
    (c38 : PySem.W.codeIn K cd38 "_law_program" = true)
    (k38 : PySem.W.keepIn K (.ref f38) = true)
    (a39 : PySem.W.nsIn K mainGlobals "_law_look" = some (some (.ref f39)))
    (l39 : K.lookup f39 = some ⟨oc39, od39, .func (PySem.W.fnOf "_law_look" "_law_look" (defArgs sLLook) (defBody sLLook) (defScope sLLook) .none kV39 dc39 pm39 an39 cd39 ct39), sl39⟩)
    (c39 : PySem.W.codeIn K cd39 "_law_look" = true)
    (k39 : PySem.W.keepIn K (.ref f39) = true)
    (a40 : PySem.W.nsIn K mainGlobals "_law_result" = some (some (.ref f40)))
    (l40 : K.lookup f40 = some ⟨oc40, od40, .func (PySem.W.fnOf "_law_result" "_law_result" (defArgs sLResult) (defBody sLResult) (defScope sLResult) .none kV40 dc40 pm40 an40 cd40 ct40), sl40⟩)
    (c40 : PySem.W.codeIn K cd40 "_law_result" = true)
    (k40 : PySem.W.keepIn K (.ref f40) = true)
    (a41 : PySem.W.nsIn K mainGlobals "_law_enter" = some (some (.ref f41)))
    (l41 : K.lookup f41 = some ⟨oc41, od41, .func (PySem.W.fnOf "_law_enter" "_law_enter" (defArgs sLEnter) (defBody sLEnter) (defScope sLEnter) .none kV41 dc41 pm41 an41 cd41 ct41), sl41⟩)
    (c41 : PySem.W.codeIn K cd41 "_law_enter" = true)
    (k41 : PySem.W.keepIn K (.ref f41) = true)
    (a42 : PySem.W.nsIn K mainGlobals "_law_down" = some (some (.ref f42)))
    (l42 : K.lookup f42 = some ⟨oc42, od42, .func (PySem.W.fnOf "_law_down" "_law_down" (defArgs sLDown) (defBody sLDown) (defScope sLDown) .none kV42 dc42 pm42 an42 cd42 ct42), sl42⟩)
    (c42 : PySem.W.codeIn K cd42 "_law_down" = true)
    (k42 : PySem.W.keepIn K (.ref f42) = true)
    (a43 : PySem.W.nsIn K mainGlobals "_law_branch" = some (some (.ref f43)))
    (l43 : K.lookup f43 = some ⟨oc43, od43, .func (PySem.W.fnOf "_law_branch" "_law_branch" (defArgs sLBranch) (defBody sLBranch) (defScope sLBranch) .none kV43 dc43 pm43 an43 cd43 ct43), sl43⟩)
    (c43 : PySem.W.codeIn K cd43 "_law_branch" = true)
    (k43 : PySem.W.keepIn K (.ref f43) = true)
    (a44 : PySem.W.nsIn K mainGlobals "_law_up" = some (some (.ref f44)))
    (l44 : K.lookup f44 = some ⟨oc44, od44, .func (PySem.W.fnOf "_law_up" "_law_up" (defArgs sLUp) (defBody sLUp) (defScope sLUp) .none kV44 dc44 pm44 an44 cd44 ct44), sl44⟩)
    (c44 : PySem.W.codeIn K cd44 "_law_up" = true)
    (k44 : PySem.W.keepIn K (.ref f44) = true)
    (a45 : PySem.W.nsIn K mainGlobals "_law_evaluate" = some (some (.ref f45)))
    (l45 : K.lookup f45 = some ⟨oc45, od45, .func (PySem.W.fnOf "_law_evaluate" "_law_evaluate" (defArgs sLEval) (defBody sLEval) (defScope sLEval) .none kV45 dc45 pm45 an45 cd45 ct45), sl45⟩)
    (c45 : PySem.W.codeIn K cd45 "_law_evaluate" = true)
    (k45 : PySem.W.keepIn K (.ref f45) = true)
    (a46 : PySem.W.nsIn K mainGlobals "_law_run" = some (some (.ref f46)))
    (l46 : K.lookup f46 = some ⟨oc46, od46, .func (PySem.W.fnOf "_law_run" "_law_run" (defArgs sLRun) (defBody sLRun) (defScope sLRun) .none kV46 dc46 pm46 an46 cd46 ct46), sl46⟩)
    (c46 : PySem.W.codeIn K cd46 "_law_run" = true)
    (k46 : PySem.W.keepIn K (.ref f46) = true)
    (a47 : PySem.W.nsIn K mainGlobals "_law_due" = some (some (.ref f47)))
    (l47 : K.lookup f47 = some ⟨oc47, od47, .func (PySem.W.fnOf "_law_due" "_law_due" (defArgs sLDue) (defBody sLDue) (defScope sLDue) .none kV47 dc47 pm47 an47 cd47 ct47), sl47⟩)
    (c47 : PySem.W.codeIn K cd47 "_law_due" = true)
    (k47 : PySem.W.keepIn K (.ref f47) = true)
    (a48 : PySem.W.nsIn K mainGlobals "_law_one" = some (some (.ref f48)))
    (l48 : K.lookup f48 = some ⟨oc48, od48, .func (PySem.W.fnOf "_law_one" "_law_one" (defArgs sLOne) (defBody sLOne) (defScope sLOne) .none kV48 dc48 pm48 an48 cd48 ct48), sl48⟩)
    (c48 : PySem.W.codeIn K cd48 "_law_one" = true)
    (k48 : PySem.W.keepIn K (.ref f48) = true)
    (a49 : PySem.W.nsIn K mainGlobals "_law_applied" = some (some (.ref f49)))
    (l49 : K.lookup f49 = some ⟨oc49, od49, .func (PySem.W.fnOf "_law_applied" "_law_applied" (defArgs sLApp) (defBody sLApp) (defScope sLApp) .none kV49 dc49 pm49 an49 cd49 ct49), sl49⟩)
    (c49 : PySem.W.codeIn K cd49 "_law_applied" = true)
    (k49 : PySem.W.keepIn K (.ref f49) = true)
    (a50 : PySem.W.nsIn K mainGlobals "law" = some (some (.ref f50)))
    (l50 : K.lookup f50 = some ⟨oc50, od50, .func (PySem.W.fnOf "law" "law" (defArgs sLaw) (defBody sLaw) (defScope sLaw) .none kV50 dc50 pm50 an50 cd50 ct50), sl50⟩)
    (c50 : PySem.W.codeIn K cd50 "law" = true)
    (k50 : PySem.W.keepIn K (.ref f50) = true)
    (cst1 : PySem.W.nsIn K mainGlobals "LARGEST_NUMBER" = some (some (.int 1000000000000000 tk1)))
    (gtFA : PySem.W.nsIn K mainGlobals "FAULTS" = some (some (.ref aFA)))
    (ltFA : K.lookup aFA = some ⟨ocFA, odFA, .seq itFA nFA, slFA⟩)
    (ctFA : ocFA = .type "tuple")
    (vtFA : strsAre faults itFA.toList = true)
    (gtST : PySem.W.nsIn K mainGlobals "STUCK" = some (some (.ref aST)))
    (ltST : K.lookup aST = some ⟨ocST, odST, .seq itST nST, slST⟩)
    (ctST : ocST = .type "tuple")
    (vtST : strsAre ["stuck"] itST.toList = true)
    (gtMO : PySem.W.nsIn K mainGlobals "MORE" = some (some (.ref aMO)))
    (ltMO : K.lookup aMO = some ⟨ocMO, odMO, .seq itMO nMO, slMO⟩)
    (ctMO : ocMO = .type "tuple")
    (vtMO : strsAre ["more"] itMO.toList = true)
    (gtNM : PySem.W.nsIn K mainGlobals "NO_MATCH" = some (some (.ref aNM)))
    (ltNM : K.lookup aNM = some ⟨ocNM, odNM, .seq itNM nNM, slNM⟩)
    (ctNM : ocNM = .type "tuple")
    (vtNM : strsAre ["fault", "no match"] itNM.toList = true)
    (gtBZ : PySem.W.nsIn K mainGlobals "BY_ZERO" = some (some (.ref aBZ)))
    (ltBZ : K.lookup aBZ = some ⟨ocBZ, odBZ, .seq itBZ nBZ, slBZ⟩)
    (ctBZ : ocBZ = .type "tuple")
    (vtBZ : strsAre ["fault", "division by zero"] itBZ.toList = true)
    (gtOV : PySem.W.nsIn K mainGlobals "OVERFLOW" = some (some (.ref aOV)))
    (ltOV : K.lookup aOV = some ⟨ocOV, odOV, .seq itOV nOV, slOV⟩)
    (ctOV : ocOV = .type "tuple")
    (vtOV : strsAre ["fault", "overflow"] itOV.toList = true)
    (gdEV : PySem.W.nsIn K mainGlobals "EVALUATIONS" = some (some (.ref aEV)))
    (ldEV : K.lookup aEV = some ⟨.type "dict", none, .dict esEV nEV, #[]⟩)
    (kdEV : PySem.W.KeysLit w.params esEV.toList)
    (sdEV : (aEV == sysModules) = false)
    (wEVvar : PySem.W.nsIn K aEV "var" = some (some (.ref f1)))
    (wEVapp : PySem.W.nsIn K aEV "app" = some (some (.ref f2)))
    (wEVlet : PySem.W.nsIn K aEV "let" = some (some (.ref f3)))
    (wEVseq : PySem.W.nsIn K aEV "seq" = some (some (.ref f4)))
    (wEVcase : PySem.W.nsIn K aEV "case" = some (some (.ref f5)))
    (wEVpick : PySem.W.nsIn K aEV "pick" = some (some (.ref f5)))
    (wEVprim : PySem.W.nsIn K aEV "prim" = some (some (.ref f6)))
    (wEVnote : PySem.W.nsIn K aEV "note" = some (some (.ref f7)))
    (gdCN : PySem.W.nsIn K mainGlobals "CONTINUATIONS" = some (some (.ref aCN)))
    (ldCN : K.lookup aCN = some ⟨.type "dict", none, .dict esCN nCN, #[]⟩)
    (kdCN : PySem.W.KeysLit w.params esCN.toList)
    (sdCN : (aCN == sysModules) = false)
    (wCNargument : PySem.W.nsIn K aCN "argument" = some (some (.ref f8)))
    (wCNseq : PySem.W.nsIn K aCN "seq" = some (some (.ref f10)))
    (wCNcase : PySem.W.nsIn K aCN "case" = some (some (.ref f11)))
    (wCNpick : PySem.W.nsIn K aCN "pick" = some (some (.ref f12)))
    (wCNsecond : PySem.W.nsIn K aCN "second" = some (some (.ref f14)))
    (wCNfirst : PySem.W.nsIn K aCN "first" = some (some (.ref f15)))
    (ndE : ([f1, f2, f3, f4, f5, f6, f7] : List Addr).Nodup)
    (ndC : ([f8, f10, f11, f12, f14, f15] : List Addr).Nodup)
    (aE : PySem.W.nsIn K mainGlobals "Evaluation" = some (some (.ref CE)))
    (pgE : PySem.W.plainGet K CE Str.empty = true)
    (hdE : PySem.W.hasDictIn K CE = true)
    (poE : PySem.W.plainOver K CE = true)
    (saE : PySem.W.findIn K (.ref CE) "__setattr__" = some (some (.builtin "object.__setattr__")))
    (mkE : PySem.W.makesIn K CE = true)
    (kcE : PySem.W.keepIn K (.ref CE) = true)
    (noE0 : PySem.W.findIn K (.ref CE) "terms" = some none)
    (noE1 : PySem.W.findIn K (.ref CE) "fuel" = some none)
    (noE2 : PySem.W.findIn K (.ref CE) "steps" = some none)
    (noE3 : PySem.W.findIn K (.ref CE) "events" = some none)
    (noE4 : PySem.W.findIn K (.ref CE) "stack" = some none)
    (noE5 : PySem.W.findIn K (.ref CE) "term" = some none)
    (noE6 : PySem.W.findIn K (.ref CE) "around" = some none)
    (noE7 : PySem.W.findIn K (.ref CE) "head" = some none)
    (maEvInit : PySem.W.findIn K (.ref CE) "__init__" = some (some (.ref gEvInit)))
    (miEvInit : PySem.W.isFn K (.ref gEvInit) = true)
    (mlEvInit : K.lookup gEvInit = some ⟨mocEvInit, modEvInit, .func (PySem.W.fnOf "__init__" "Evaluation.__init__" (defArgs sEvInit) (defBody sEvInit) (defScope sEvInit) .none mkVEvInit mdcEvInit mpmEvInit manEvInit mcdEvInit mctEvInit), mslEvInit⟩)
    (mcEvInit : PySem.W.codeIn K mcdEvInit "Evaluation.__init__" = true)
    (mkEvInit : PySem.W.keepIn K (.ref gEvInit) = true)
    (maEvBegin : PySem.W.findIn K (.ref CE) "begin" = some (some (.ref gEvBegin)))
    (miEvBegin : PySem.W.isFn K (.ref gEvBegin) = true)
    (mlEvBegin : K.lookup gEvBegin = some ⟨mocEvBegin, modEvBegin, .func (PySem.W.fnOf "begin" "Evaluation.begin" (defArgs sEvBegin) (defBody sEvBegin) (defScope sEvBegin) .none mkVEvBegin mdcEvBegin mpmEvBegin manEvBegin mcdEvBegin mctEvBegin), mslEvBegin⟩)
    (mcEvBegin : PySem.W.codeIn K mcdEvBegin "Evaluation.begin" = true)
    (mkEvBegin : PySem.W.keepIn K (.ref gEvBegin) = true)
    (maEvRun : PySem.W.findIn K (.ref CE) "run" = some (some (.ref gEvRun)))
    (miEvRun : PySem.W.isFn K (.ref gEvRun) = true)
    (mlEvRun : K.lookup gEvRun = some ⟨mocEvRun, modEvRun, .func (PySem.W.fnOf "run" "Evaluation.run" (defArgs sEvRun) (defBody sEvRun) (defScope sEvRun) .none mkVEvRun mdcEvRun mpmEvRun manEvRun mcdEvRun mctEvRun), mslEvRun⟩)
    (mcEvRun : PySem.W.codeIn K mcdEvRun "Evaluation.run" = true)
    (mkEvRun : PySem.W.keepIn K (.ref gEvRun) = true)
    (maEvLook : PySem.W.findIn K (.ref CE) "look_for_head" = some (some (.ref gEvLook)))
    (miEvLook : PySem.W.isFn K (.ref gEvLook) = true)
    (mlEvLook : K.lookup gEvLook = some ⟨mocEvLook, modEvLook, .func (PySem.W.fnOf "look_for_head" "Evaluation.look_for_head" (defArgs sEvLook) (defBody sEvLook) (defScope sEvLook) .none mkVEvLook mdcEvLook mpmEvLook manEvLook mcdEvLook mctEvLook), mslEvLook⟩)
    (mcEvLook : PySem.W.codeIn K mcdEvLook "Evaluation.look_for_head" = true)
    (mkEvLook : PySem.W.keepIn K (.ref gEvLook) = true)
    (maEvPut : PySem.W.findIn K (.ref CE) "put" = some (some (.ref gEvPut)))
    (miEvPut : PySem.W.isFn K (.ref gEvPut) = true)
    (mlEvPut : K.lookup gEvPut = some ⟨mocEvPut, modEvPut, .func (PySem.W.fnOf "put" "Evaluation.put" (defArgs sEvPut) (defBody sEvPut) (defScope sEvPut) .none mkVEvPut mdcEvPut mpmEvPut manEvPut mcdEvPut mctEvPut), mslEvPut⟩)
    (mcEvPut : PySem.W.codeIn K mcdEvPut "Evaluation.put" = true)
    (mkEvPut : PySem.W.keepIn K (.ref gEvPut) = true)
    (zlen : PySem.W.nsIn K mainGlobals "len" = some none)
    (zint : PySem.W.nsIn K mainGlobals "int" = some none)
    (zrange : PySem.W.nsIn K mainGlobals "range" = some none)
    (zabs : PySem.W.nsIn K mainGlobals "abs" = some none)
    (zisinstance : PySem.W.nsIn K mainGlobals "isinstance" = some none)
    (zstr : PySem.W.nsIn K mainGlobals "str" = some none)
    (zbool : PySem.W.nsIn K mainGlobals "bool" = some none)
    (ztuple : PySem.W.nsIn K mainGlobals "tuple" = some none)
    (zlist : PySem.W.nsIn K mainGlobals "list" = some none)
    (zzip : PySem.W.nsIn K mainGlobals "zip" = some none)
    (zmin : PySem.W.nsIn K mainGlobals "min" = some none)
    (zreversed : PySem.W.nsIn K mainGlobals "reversed" = some none)
    (zdict : PySem.W.nsIn K mainGlobals "dict" = some none) :
    ∃ fd : FuncData, (∀ (s : Shared) (v : Value), BindsTo s fd ⟨[v], []⟩ [("script", v)]) ∧ ∀ base : Heap, K.In base → base.Ns mainGlobals mg → FnOk l.prog w K mg base CX0 22 fa fd ["script"] (spLaw K) := by
  have e := hfa.symm.trans (PySem.W.mg_of X G a50)
  cases e
  have nlen := PySem.W.mg_none_of X G zlen
  have nint := PySem.W.mg_none_of X G zint
  have nrange := PySem.W.mg_none_of X G zrange
  have nabs := PySem.W.mg_none_of X G zabs
  have nisinstance := PySem.W.mg_none_of X G zisinstance
  have nstr := PySem.W.mg_none_of X G zstr
  have nbool := PySem.W.mg_none_of X G zbool
  have ntuple := PySem.W.mg_none_of X G ztuple
  have nlist := PySem.W.mg_none_of X G zlist
  have nzip := PySem.W.mg_none_of X G zzip
  have nmin := PySem.W.mg_none_of X G zmin
  have nreversed := PySem.W.mg_none_of X G zreversed
  have ndict := PySem.W.mg_none_of X G zdict
  have FHeadOf := fun_mk (st := sHeadOf) l0 c0 k0
  have bHeadOf := FHeadOf.binds (ps := ["program", "term", "fuel"]) fun _ _ _ _ _ _ us hl => match us, hl with | [_, _, _], _ => rfl
  have mHeadOf := PySem.W.mg_of X G a0
  have FEvVar := fun_mk (st := sEvVar) l1 c1 k1
  have bEvVar := FEvVar.binds (ps := ["machine", "term", "around"]) fun _ _ _ _ _ _ us hl => match us, hl with | [_, _, _], _ => rfl
  have mEvVar := PySem.W.mg_of X G a1
  have FEvApp := fun_mk (st := sEvApp) l2 c2 k2
  have bEvApp := FEvApp.binds (ps := ["machine", "term", "around"]) fun _ _ _ _ _ _ us hl => match us, hl with | [_, _, _], _ => rfl
  have mEvApp := PySem.W.mg_of X G a2
  have FEvLet := fun_mk (st := sEvLet) l3 c3 k3
  have bEvLet := FEvLet.binds (ps := ["machine", "term", "around"]) fun _ _ _ _ _ _ us hl => match us, hl with | [_, _, _], _ => rfl
  have mEvLet := PySem.W.mg_of X G a3
  have FEvSeq := fun_mk (st := sEvSeq) l4 c4 k4
  have bEvSeq := FEvSeq.binds (ps := ["machine", "term", "around"]) fun _ _ _ _ _ _ us hl => match us, hl with | [_, _, _], _ => rfl
  have mEvSeq := PySem.W.mg_of X G a4
  have FEvChoice := fun_mk (st := sEvChoice) l5 c5 k5
  have bEvChoice := FEvChoice.binds (ps := ["machine", "term", "around"]) fun _ _ _ _ _ _ us hl => match us, hl with | [_, _, _], _ => rfl
  have mEvChoice := PySem.W.mg_of X G a5
  have FEvPrim := fun_mk (st := sEvPrim) l6 c6 k6
  have bEvPrim := FEvPrim.binds (ps := ["machine", "term", "around"]) fun _ _ _ _ _ _ us hl => match us, hl with | [_, _, _], _ => rfl
  have mEvPrim := PySem.W.mg_of X G a6
  have FEvNote := fun_mk (st := sEvNote) l7 c7 k7
  have bEvNote := FEvNote.binds (ps := ["machine", "term", "around"]) fun _ _ _ _ _ _ us hl => match us, hl with | [_, _, _], _ => rfl
  have mEvNote := PySem.W.mg_of X G a7
  have FGoApply := fun_mk (st := sGoApply) l8 c8 k8
  have bGoApply := FGoApply.binds (ps := ["machine", "frame"]) fun _ _ _ _ _ _ us hl => match us, hl with | [_, _], _ => rfl
  have mGoApply := PySem.W.mg_of X G a8
  have FGoHead := fun_mk (st := sGoHead) l9 c9 k9
  have bGoHead := FGoHead.binds (ps := ["machine", "name", "body", "around"]) fun _ _ _ _ _ _ us hl => match us, hl with | [_, _, _, _], _ => rfl
  have mGoHead := PySem.W.mg_of X G a9
  have FGoSeq := fun_mk (st := sGoSeq) l10 c10 k10
  have bGoSeq := FGoSeq.binds (ps := ["machine", "frame"]) fun _ _ _ _ _ _ us hl => match us, hl with | [_, _], _ => rfl
  have mGoSeq := PySem.W.mg_of X G a10
  have FGoCase := fun_mk (st := sGoCase) l11 c11 k11
  have bGoCase := FGoCase.binds (ps := ["machine", "frame"]) fun _ _ _ _ _ _ us hl => match us, hl with | [_, _], _ => rfl
  have mGoCase := PySem.W.mg_of X G a11
  have FGoPick := fun_mk (st := sGoPick) l12 c12 k12
  have bGoPick := FGoPick.binds (ps := ["machine", "frame"]) fun _ _ _ _ _ _ us hl => match us, hl with | [_, _], _ => rfl
  have mGoPick := PySem.W.mg_of X G a12
  have FGoDflt := fun_mk (st := sGoDflt) l13 c13 k13
  have bGoDflt := FGoDflt.binds (ps := ["machine", "default", "around"]) fun _ _ _ _ _ _ us hl => match us, hl with | [_, _, _], _ => rfl
  have mGoDflt := PySem.W.mg_of X G a13
  have FGoSecond := fun_mk (st := sGoSecond) l14 c14 k14
  have bGoSecond := FGoSecond.binds (ps := ["machine", "frame"]) fun _ _ _ _ _ _ us hl => match us, hl with | [_, _], _ => rfl
  have mGoSecond := PySem.W.mg_of X G a14
  have FGoFirst := fun_mk (st := sGoFirst) l15 c15 k15
  have bGoFirst := FGoFirst.binds (ps := ["machine", "frame"]) fun _ _ _ _ _ _ us hl => match us, hl with | [_, _], _ => rfl
  have mGoFirst := PySem.W.mg_of X G a15
  have FPrimRes := fun_mk (st := sPrimRes) l16 c16 k16
  have bPrimRes := FPrimRes.binds (ps := ["sign", "one", "other"]) fun _ _ _ _ _ _ us hl => match us, hl with | [_, _, _], _ => rfl
  have mPrimRes := PySem.W.mg_of X G a16
  have FHolds := fun_mk (st := sHolds) l17 c17 k17
  have bHolds := FHolds.binds (ps := ["sign", "one", "other"]) fun _ _ _ _ _ _ us hl => match us, hl with | [_, _, _], _ => rfl
  have mHolds := PySem.W.mg_of X G a17
  have FWorked := fun_mk (st := sWorked) l18 c18 k18
  have bWorked := FWorked.binds (ps := ["sign", "one", "other"]) fun _ _ _ _ _ _ us hl => match us, hl with | [_, _, _], _ => rfl
  have mWorked := PySem.W.mg_of X G a18
  have FDraws := fun_mk (st := sDraws) l19 c19 k19
  have bDraws := FDraws.binds (ps := ["script", "many"]) fun _ _ _ _ _ _ us hl => match us, hl with | [_, _], _ => rfl
  have mDraws := PySem.W.mg_of X G a19
  have FTake := fun_mk (st := sTake) l20 c20 k20
  have bTake := FTake.binds (ps := ["d"]) fun _ _ _ _ _ _ us hl => match us, hl with | [_], _ => rfl
  have mTake := PySem.W.mg_of X G a20
  have FFresh := fun_mk (st := sFresh) l21 c21 k21
  have bFresh := FFresh.binds (ps := ["d"]) fun _ _ _ _ _ _ us hl => match us, hl with | [_], _ => rfl
  have mFresh := PySem.W.mg_of X G a21
  have FStart := fun_mk (st := sStart) l22 c22 k22
  have bStart := FStart.binds (ps := ["script", "left"]) fun _ _ _ _ _ _ us hl => match us, hl with | [_, _], _ => rfl
  have mStart := PySem.W.mg_of X G a22
  have FLName := fun_mk (st := sLName) l23 c23 k23
  have bLName := FLName.binds (ps := ["d"]) fun _ _ _ _ _ _ us hl => match us, hl with | [_], _ => rfl
  have mLName := PySem.W.mg_of X G a23
  have FLNames := fun_mk (st := sLNames) l24 c24 k24
  have bLNames := FLNames.binds (ps := ["d", "many"]) fun _ _ _ _ _ _ us hl => match us, hl with | [_, _], _ => rfl
  have mLNames := PySem.W.mg_of X G a24
  have FBranch := fun_mk (st := sBranch) l25 c25 k25
  have bBranch := FBranch.binds (ps := ["d", "depth"]) fun _ _ _ _ _ _ us hl => match us, hl with | [_, _], _ => rfl
  have mBranch := PySem.W.mg_of X G a25
  have FAny := fun_mk (st := sAny) l26 c26 k26
  have bAny := FAny.binds (ps := ["d", "depth"]) fun _ _ _ _ _ _ us hl => match us, hl with | [_, _], _ => rfl
  have mAny := PySem.W.mg_of X G a26
  have FVar := fun_mk (st := sVar) l27 c27 k27
  have bVar := FVar.binds (ps := ["d", "scope", "kind"]) fun _ _ _ _ _ _ us hl => match us, hl with | [_, _, _], _ => rfl
  have mVar := PySem.W.mg_of X G a27
  have FNum := fun_mk (st := sNum) l28 c28 k28
  have bNum := FNum.binds (ps := ["d"]) fun _ _ _ _ _ _ us hl => match us, hl with | [_], _ => rfl
  have mNum := PySem.W.mg_of X G a28
  have FLeaf := fun_mk (st := sLeaf) l29 c29 k29
  have bLeaf := FLeaf.binds (ps := ["d", "scope", "kind"]) fun _ _ _ _ _ _ us hl => match us, hl with | [_, _, _], _ => rfl
  have mLeaf := PySem.W.mg_of X G a29
  have FLet := fun_mk (st := sLet) l30 c30 k30
  have bLet := FLet.binds (ps := ["d", "scope", "kind", "depth", "many"]) fun _ _ _ _ _ _ us hl => match us, hl with | [_, _, _, _, _], _ => rfl
  have mLet := PySem.W.mg_of X G a30
  have FDflt2 := fun_mk (st := sDflt2) l31 c31 k31
  have bDflt2 := FDflt2.binds (ps := ["d", "scope", "kind", "other", "depth", "odds"]) fun _ _ _ _ _ _ us hl => match us, hl with | [_, _, _, _, _, _], _ => rfl
  have mDflt2 := PySem.W.mg_of X G a31
  have FCase := fun_mk (st := sCase) l32 c32 k32
  have bCase := FCase.binds (ps := ["d", "scope", "kind", "depth"]) fun _ _ _ _ _ _ us hl => match us, hl with | [_, _, _, _], _ => rfl
  have mCase := PySem.W.mg_of X G a32
  have FChoice := fun_mk (st := sChoice) l33 c33 k33
  have bChoice := FChoice.binds (ps := ["d", "scope", "kind", "depth"]) fun _ _ _ _ _ _ us hl => match us, hl with | [_, _, _, _], _ => rfl
  have mChoice := PySem.W.mg_of X G a33
  have FGlobals := fun_mk (st := sGlobals) l34 c34 k34
  have bGlobals := FGlobals.binds (ps := []) fun _ _ _ _ _ _ us hl => match us, hl with | [], _ => rfl
  have mGlobals := PySem.W.mg_of X G a34
  have FLCall := fun_mk (st := sLCall) l35 c35 k35
  have bLCall := FLCall.binds (ps := ["d", "scope", "kind", "depth"]) fun _ _ _ _ _ _ us hl => match us, hl with | [_, _, _, _], _ => rfl
  have mLCall := PySem.W.mg_of X G a35
  have FLOwn2 := fun_mk (st := sLOwn2) l36 c36 k36
  have bLOwn2 := FLOwn2.binds (ps := ["d", "scope", "kind", "depth"]) fun _ _ _ _ _ _ us hl => match us, hl with | [_, _, _, _], _ => rfl
  have mLOwn2 := PySem.W.mg_of X G a36
  have FTerm := fun_mk (st := sTerm) l37 c37 k37
  have bTerm := FTerm.binds (ps := ["d", "scope", "kind", "depth"]) fun _ _ _ _ _ _ us hl => match us, hl with | [_, _, _, _], _ => rfl
  have mTerm := PySem.W.mg_of X G a37
  have FProg := fun_mk (st := sProg) l38 c38 k38
  have bProg := FProg.binds (ps := ["d"]) fun _ _ _ _ _ _ us hl => match us, hl with | [_], _ => rfl
  have mProg := PySem.W.mg_of X G a38
  have FLLook := fun_mk (st := sLLook) l39 c39 k39
  have bLLook := FLLook.binds (ps := ["name", "env", "terms"]) fun _ _ _ _ _ _ us hl => match us, hl with | [_, _, _], _ => rfl
  have mLLook := PySem.W.mg_of X G a39
  have FLResult := fun_mk (st := sLResult) l40 c40 k40
  have bLResult := FLResult.binds (ps := ["sign", "one", "two"]) fun _ _ _ _ _ _ us hl => match us, hl with | [_, _, _], _ => rfl
  have mLResult := PySem.W.mg_of X G a40
  have FLEnter := fun_mk (st := sLEnter) l41 c41 k41
  have bLEnter := FLEnter.binds (ps := ["term", "env", "terms"]) fun _ _ _ _ _ _ us hl => match us, hl with | [_, _, _], _ => rfl
  have mLEnter := PySem.W.mg_of X G a41
  have FLDown := fun_mk (st := sLDown) l42 c42 k42
  have bLDown := FLDown.binds (ps := ["term", "env", "stack", "run"]) fun _ _ _ _ _ _ us hl => match us, hl with | [_, _, _, _], _ => rfl
  have mLDown := PySem.W.mg_of X G a42
  have FLBranch := fun_mk (st := sLBranch) l43 c43 k43
  have bLBranch := FLBranch.binds (ps := ["frame", "head"]) fun _ _ _ _ _ _ us hl => match us, hl with | [_, _], _ => rfl
  have mLBranch := PySem.W.mg_of X G a43
  have FLUp := fun_mk (st := sLUp) l44 c44 k44
  have bLUp := FLUp.binds (ps := ["frame", "head", "stack"]) fun _ _ _ _ _ _ us hl => match us, hl with | [_, _, _], _ => rfl
  have mLUp := PySem.W.mg_of X G a44
  have FLEval := fun_mk (st := sLEval) l45 c45 k45
  have bLEval := FLEval.binds (ps := ["term", "env", "run"]) fun _ _ _ _ _ _ us hl => match us, hl with | [_, _, _], _ => rfl
  have mLEval := PySem.W.mg_of X G a45
  have FLRun := fun_mk (st := sLRun) l46 c46 k46
  have bLRun := FLRun.binds (ps := ["program", "fuel"]) fun _ _ _ _ _ _ us hl => match us, hl with | [_, _], _ => rfl
  have mLRun := PySem.W.mg_of X G a46
  have FLDue := fun_mk (st := sLDue) l47 c47 k47
  have bLDue := FLDue.binds (ps := ["program", "term", "fuel"]) fun _ _ _ _ _ _ us hl => match us, hl with | [_, _, _], _ => rfl
  have mLDue := PySem.W.mg_of X G a47
  have FLOne := fun_mk (st := sLOne) l48 c48 k48
  have bLOne := FLOne.binds (ps := ["program", "term", "fuel"]) fun _ _ _ _ _ _ us hl => match us, hl with | [_, _, _], _ => rfl
  have mLOne := PySem.W.mg_of X G a48
  have FLApp := fun_mk (st := sLApp) l49 c49 k49
  have bLApp := FLApp.binds (ps := ["program", "k"]) fun _ _ _ _ _ _ us hl => match us, hl with | [_, _], _ => rfl
  have mLApp := PySem.W.mg_of X G a49
  have FLaw := fun_mk (st := sLaw) l50 c50 k50
  have bLaw := FLaw.binds (ps := ["script"]) fun _ _ _ _ _ _ us hl => match us, hl with | [_], _ => rfl
  have mLaw := PySem.W.mg_of X G a50
  refine ⟨PySem.W.fnOf "law" "law" (defArgs sLaw) (defBody sLaw) (defScope sLaw) .none kV50 dc50 pm50 an50 cd50 ct50, fun s v => .of_eq rfl, fun base _ _ => ?_⟩
  have FEvInit := fun_mk (st := sEvInit) mlEvInit mcEvInit mkEvInit
  have bEvInit := FEvInit.binds (ps := ["self", "program", "fuel"]) fun _ _ _ _ _ _ us hl => match us, hl with | [_, _, _], _ => rfl
  have eEvInit : Meth K CE "__init__" gEvInit := ⟨maEvInit, miEvInit, mkEvInit⟩
  have FEvBegin := fun_mk (st := sEvBegin) mlEvBegin mcEvBegin mkEvBegin
  have bEvBegin := FEvBegin.binds (ps := ["self", "term", "around"]) fun _ _ _ _ _ _ us hl => match us, hl with | [_, _, _], _ => rfl
  have eEvBegin : Meth K CE "begin" gEvBegin := ⟨maEvBegin, miEvBegin, mkEvBegin⟩
  have FEvRun := fun_mk (st := sEvRun) mlEvRun mcEvRun mkEvRun
  have bEvRun := FEvRun.binds (ps := ["self"]) fun _ _ _ _ _ _ us hl => match us, hl with | [_], _ => rfl
  have eEvRun : Meth K CE "run" gEvRun := ⟨maEvRun, miEvRun, mkEvRun⟩
  have FEvLook := fun_mk (st := sEvLook) mlEvLook mcEvLook mkEvLook
  have bEvLook := FEvLook.binds (ps := ["self"]) fun _ _ _ _ _ _ us hl => match us, hl with | [_], _ => rfl
  have eEvLook : Meth K CE "look_for_head" gEvLook := ⟨maEvLook, miEvLook, mkEvLook⟩
  have FEvPut := fun_mk (st := sEvPut) mlEvPut mcEvPut mkEvPut
  have bEvPut := FEvPut.binds (ps := ["self", "head"]) fun _ _ _ _ _ _ us hl => match us, hl with | [_, _], _ => rfl
  have eEvPut : Meth K CE "put" gEvPut := ⟨maEvPut, miEvPut, mkEvPut⟩
  have TV : TxtEv K CE := ⟨⟨pgE, hdE, poE, saE⟩, noE0, noE1, noE2, noE3, noE4, noE5, noE6, noE7⟩
  have CBegin := c_begin (mg := mg) (P := l.prog) (w := w) (base := base) TV eEvBegin FEvBegin bEvBegin
  have CPut := c_put (mg := mg) (P := l.prog) (w := w) (base := base) TV eEvPut FEvPut bEvPut
  have CLFH := c_lfh (mg := mg) (P := l.prog) (w := w) (base := base) TV CPut eEvLook FEvLook bEvLook
  have TC : TxtEc K mg CE aST aNM := ⟨TV, ndict, nzip, nlen, ⟨_, PySem.W.mg_of X G gtST, rfl⟩, written_tup (by decide) ltST ctST vtST, ⟨_, PySem.W.mg_of X G gtNM, rfl⟩, written_tup (by decide) ltNM ctNM vtNM⟩
  have TP : TxtPr K mg aBZ aOV := ⟨⟨_, PySem.W.mg_of X G gtBZ, rfl⟩, written_tup (by decide) ltBZ ctBZ vtBZ, ⟨_, PySem.W.mg_of X G gtOV, rfl⟩, written_tup (by decide) ltOV ctOV vtOV, ⟨_, PySem.W.mg_of X G cst1, _, rfl⟩⟩
  have CEvVar := c_evaluate_var (P := l.prog) (w := w) (base := base) TC CBegin FEvVar bEvVar mEvVar
  have CEvApp := c_evaluate_app (P := l.prog) (w := w) (base := base) TC FEvApp bEvApp mEvApp
  have CEvLet := c_evaluate_let (P := l.prog) (w := w) (base := base) TC CBegin FEvLet bEvLet mEvLet
  have CEvSeq := c_evaluate_seq (P := l.prog) (w := w) (base := base) TC FEvSeq bEvSeq mEvSeq
  have CEvChoice := c_evaluate_choice (P := l.prog) (w := w) (base := base) TC FEvChoice bEvChoice mEvChoice
  have CEvPrim := c_evaluate_prim (P := l.prog) (w := w) (base := base) TC FEvPrim bEvPrim mEvPrim
  have CEvNote := c_evaluate_note (P := l.prog) (w := w) (base := base) TC FEvNote bEvNote mEvNote
  have CGoHead := c_gohead (P := l.prog) (w := w) (base := base) TC CBegin FGoHead bGoHead mGoHead
  have CGoDflt := c_godflt (P := l.prog) (w := w) (base := base) TC CGoHead FGoDflt bGoDflt mGoDflt
  have CGoSeq := c_go_on_with_seq (P := l.prog) (w := w) (base := base) TC CGoHead FGoSeq bGoSeq mGoSeq
  have CGoApply := c_apply (P := l.prog) (w := w) (base := base) TC CBegin FGoApply bGoApply mGoApply
  have CGoSecond := c_go_on_with_second (P := l.prog) (w := w) (base := base) TC CBegin FGoSecond bGoSecond mGoSecond
  have CGoCase := c_go_on_with_case (P := l.prog) (w := w) (base := base) TC CBegin CGoDflt FGoCase bGoCase mGoCase
  have CGoPick := c_go_on_with_pick (P := l.prog) (w := w) (base := base) TC CBegin CGoDflt FGoPick bGoPick mGoPick
  have CHolds := c_holdsT (P := l.prog) (w := w) (base := base)  FHolds bHolds mHolds
  have CWorked := c_worked (P := l.prog) (w := w) (base := base)  FWorked bWorked mWorked
  have CPrimRes := c_primres (P := l.prog) (w := w) (base := base) TP CHolds CWorked FPrimRes bPrimRes mPrimRes
  have CGoFirst := c_go_on_with_first (P := l.prog) (w := w) (base := base) TC CPrimRes CPut FGoFirst bGoFirst mGoFirst
  have ndE2 : (([(f1, spEv K CE "var"), (f2, spEv K CE "app"), (f3, spEv K CE "let"), (f4, spEv K CE "seq"), (f5, spEvU K CE), (f6, spEv K CE "prim"), (f7, spEv K CE "note")] : List (Addr × Sp)).map (·.1)).Nodup := ndE
  have mE : ∀ z ∈ evWords, ∃ f sp, PySem.W.nsIn K aEV z = some (some (.ref f)) ∧ tab [(f1, spEv K CE "var"), (f2, spEv K CE "app"), (f3, spEv K CE "let"), (f4, spEv K CE "seq"), (f5, spEvU K CE), (f6, spEv K CE "prim"), (f7, spEv K CE "note")] f = some sp ∧ ∀ vs H Q E, spEv K CE z vs H Q E → sp vs H Q E := fun z hz => by
    simp only [evWords, List.mem_cons, List.not_mem_nil, or_false] at hz
    rcases hz with rfl | rfl | rfl | rfl | rfl | rfl | rfl | rfl
    · exact ⟨_, _, wEVvar, tab_mem ndE2 (.head _), fun vs H Q E h => h⟩
    · exact ⟨_, _, wEVapp, tab_mem ndE2 (.tail _ (.head _)), fun vs H Q E h => h⟩
    · exact ⟨_, _, wEVlet, tab_mem ndE2 (.tail _ (.tail _ (.head _))), fun vs H Q E h => h⟩
    · exact ⟨_, _, wEVseq, tab_mem ndE2 (.tail _ (.tail _ (.tail _ (.head _)))), fun vs H Q E h => h⟩
    · exact ⟨_, _, wEVcase, tab_mem ndE2 (.tail _ (.tail _ (.tail _ (.tail _ (.head _))))), fun vs H Q E h => ⟨_, .inl rfl, h⟩⟩
    · exact ⟨_, _, wEVpick, tab_mem ndE2 (.tail _ (.tail _ (.tail _ (.tail _ (.head _))))), fun vs H Q E h => ⟨_, .inr rfl, h⟩⟩
    · exact ⟨_, _, wEVprim, tab_mem ndE2 (.tail _ (.tail _ (.tail _ (.tail _ (.tail _ (.head _)))))), fun vs H Q E h => h⟩
    · exact ⟨_, _, wEVnote, tab_mem ndE2 (.tail _ (.tail _ (.tail _ (.tail _ (.tail _ (.tail _ (.head _))))))), fun vs H Q E h => h⟩
  have hE : ∀ f sp, tab [(f1, spEv K CE "var"), (f2, spEv K CE "app"), (f3, spEv K CE "let"), (f4, spEv K CE "seq"), (f5, spEvU K CE), (f6, spEv K CE "prim"), (f7, spEv K CE "note")] f = some sp → Held l.prog w K mg base 4 f sp := fun f sp h => by
    have h := tab_of h
    rcases List.mem_cons.mp h with e | h
    · cases e
      exact held_up (held_of CEvVar mEvVar) (by decide)
    rcases List.mem_cons.mp h with e | h
    · cases e
      exact held_up (held_of CEvApp mEvApp) (by decide)
    rcases List.mem_cons.mp h with e | h
    · cases e
      exact held_up (held_of CEvLet mEvLet) (by decide)
    rcases List.mem_cons.mp h with e | h
    · cases e
      exact held_up (held_of CEvSeq mEvSeq) (by decide)
    rcases List.mem_cons.mp h with e | h
    · cases e
      exact held_up (held_of CEvChoice mEvChoice) (by decide)
    rcases List.mem_cons.mp h with e | h
    · cases e
      exact held_up (held_of CEvPrim mEvPrim) (by decide)
    rcases List.mem_cons.mp h with e | h
    · cases e
      exact held_up (held_of CEvNote mEvNote) (by decide)
    cases h
  have ndC2 : (([(f8, spCt K CE (fun g => ∃ t e, g = .arg t e)), (f10, spCt K CE (fun g => ∃ x b e, g = .seq x b e)), (f11, spCt K CE (fun g => ∃ rows d e, g = .ch "case" rows d e)), (f12, spCt K CE (fun g => ∃ rows d e, g = .ch "pick" rows d e)), (f14, spCt K CE (fun g => ∃ s t e, g = .snd s t e)), (f15, spCt K CE (fun g => ∃ s i, g = .fst s i))] : List (Addr × Sp)).map (·.1)).Nodup := ndC
  have mC : ∀ g : Frm, g.ok → ∃ (f : Addr) (kind : Frm → Prop), PySem.W.nsIn K aCN (wordP g) = some (some (.ref f)) ∧ tab [(f8, spCt K CE (fun g => ∃ t e, g = .arg t e)), (f10, spCt K CE (fun g => ∃ x b e, g = .seq x b e)), (f11, spCt K CE (fun g => ∃ rows d e, g = .ch "case" rows d e)), (f12, spCt K CE (fun g => ∃ rows d e, g = .ch "pick" rows d e)), (f14, spCt K CE (fun g => ∃ s t e, g = .snd s t e)), (f15, spCt K CE (fun g => ∃ s i, g = .fst s i))] f = some (spCt K CE kind) ∧ kind g := fun g hg => by
    cases g with
    | arg t e => exact ⟨_, _, wCNargument, tab_mem ndC2 (.head _), ⟨t, e, rfl⟩⟩
    | seq x b e => exact ⟨_, _, wCNseq, tab_mem ndC2 (.tail _ (.head _)), ⟨x, b, e, rfl⟩⟩
    | ch z rows d e =>
      obtain ⟨hz, _⟩ := hg
      rcases hz with rfl | rfl
      · exact ⟨_, _, wCNcase, tab_mem ndC2 (.tail _ (.tail _ (.head _))), ⟨rows, d, e, rfl⟩⟩
      · exact ⟨_, _, wCNpick, tab_mem ndC2 (.tail _ (.tail _ (.tail _ (.head _)))), ⟨rows, d, e, rfl⟩⟩
    | snd s t e => exact ⟨_, _, wCNsecond, tab_mem ndC2 (.tail _ (.tail _ (.tail _ (.tail _ (.head _))))), ⟨s, t, e, rfl⟩⟩
    | fst s i => exact ⟨_, _, wCNfirst, tab_mem ndC2 (.tail _ (.tail _ (.tail _ (.tail _ (.tail _ (.head _)))))), ⟨s, i, rfl⟩⟩
  have hC : ∀ f sp, tab [(f8, spCt K CE (fun g => ∃ t e, g = .arg t e)), (f10, spCt K CE (fun g => ∃ x b e, g = .seq x b e)), (f11, spCt K CE (fun g => ∃ rows d e, g = .ch "case" rows d e)), (f12, spCt K CE (fun g => ∃ rows d e, g = .ch "pick" rows d e)), (f14, spCt K CE (fun g => ∃ s t e, g = .snd s t e)), (f15, spCt K CE (fun g => ∃ s i, g = .fst s i))] f = some sp → Held l.prog w K mg base 4 f sp := fun f sp h => by
    have h := tab_of h
    rcases List.mem_cons.mp h with e | h
    · cases e
      exact held_up (held_of CGoApply mGoApply) (by decide)
    rcases List.mem_cons.mp h with e | h
    · cases e
      exact held_up (held_of CGoSeq mGoSeq) (by decide)
    rcases List.mem_cons.mp h with e | h
    · cases e
      exact held_up (held_of CGoCase mGoCase) (by decide)
    rcases List.mem_cons.mp h with e | h
    · cases e
      exact held_up (held_of CGoPick mGoPick) (by decide)
    rcases List.mem_cons.mp h with e | h
    · cases e
      exact held_up (held_of CGoSecond mGoSecond) (by decide)
    rcases List.mem_cons.mp h with e | h
    · cases e
      exact held_up (held_of CGoFirst mGoFirst) (by decide)
    cases h
  have TRn : TxtRun l.prog w K mg base CE aMO aEV aCN esEV esCN nEV nCN _ _ := ⟨TV, ⟨_, PySem.W.mg_of X G gtMO, rfl⟩, written_tup (by decide) ltMO ctMO vtMO, ⟨ldEV, kdEV, sdEV⟩, ⟨_, PySem.W.mg_of X G gdEV, rfl⟩, mE, hE, ⟨ldCN, kdCN, sdCN⟩, ⟨_, PySem.W.mg_of X G gdCN, rfl⟩, mC, hC⟩
  have CRun := c_run (P := l.prog) (w := w) (base := base) TRn CLFH eEvRun FEvRun bEvRun
  have CEval := c_evinit (mg := mg) (P := l.prog) (w := w) (base := base) ⟨TV, ndict⟩ ⟨mkE, maEvInit, miEvInit, kcE⟩ (PySem.W.mg_of X G aE) FEvInit bEvInit
  have CHeadOf := c_headof (P := l.prog) (w := w) (base := base) ⟨TV, nlen, ntuple⟩ CEval CBegin CRun FHeadOf bHeadOf mHeadOf
  have TD : TxtD mg := ⟨nlen, nint, nrange, nabs⟩
  have TG : TxtG mg := ⟨nrange, ntuple⟩
  have TY : TxtY mg := ⟨nlen, nmin, nstr, nint, nlist, ntuple, nrange, nreversed⟩
  have CTake := c_take (P := l.prog) (w := w) (base := base) TD FTake bTake mTake
  have CTakeN := c_takeN (P := l.prog) (w := w) (base := base) TD FTake bTake mTake
  have CDraws := c_draws (P := l.prog) (w := w) (base := base) TD FDraws bDraws mDraws
  have CLName := c_lname (P := l.prog) (w := w) (base := base) CTake FLName bLName mLName
  have CLNames := c_lnames (P := l.prog) (w := w) (base := base) TG CLName FLNames bLNames mLNames
  have CStart := c_start (P := l.prog) (w := w) (base := base) CDraws FStart bStart mStart
  have CAny := c_any (P := l.prog) (w := w) (base := base) TG CTake CLName CLNames FAny bAny mAny FBranch bBranch mBranch 7
  have CFresh := c_fresh (P := l.prog) (w := w) (base := base) TY FFresh bFresh mFresh
  have CFreshN := c_freshN (P := l.prog) (w := w) (base := base) TY FFresh bFresh mFresh
  have CVar := c_var (P := l.prog) (w := w) (base := base) TY CTake FVar bVar mVar
  have CNum := c_num (P := l.prog) (w := w) (base := base) CTake FNum bNum mNum
  have CLeaf := c_leaf (P := l.prog) (w := w) (base := base) TY CTake CFresh CVar CNum FLeaf bLeaf mLeaf
  have CGlobals := c_globals (P := l.prog) (w := w) (base := base)  FGlobals bGlobals mGlobals
  have CTerm := c_term (P := l.prog) (w := w) (base := base) TY CTake CTakeN CFresh CFreshN CLeaf CGlobals FLet bLet mLet FDflt2 bDflt2 mDflt2 FCase bCase mCase FChoice bChoice mChoice FLCall bLCall mLCall FLOwn2 bLOwn2 mLOwn2 FTerm bTerm mTerm 5
  have CProg := c_prog (P := l.prog) (w := w) (base := base) TY CTake CFresh CGlobals rfl CTerm FProg bProg mProg
  have CLLook := c_look (P := l.prog) (w := w) (base := base)  FLLook bLLook mLLook
  have CLResult := c_result (P := l.prog) (w := w) (base := base) ⟨nint, nabs⟩ FLResult bLResult mLResult
  have CLEnter := c_enter (P := l.prog) (w := w) (base := base) CLLook FLEnter bLEnter mLEnter
  have CLDown := c_down (P := l.prog) (w := w) (base := base) CLLook FLDown bLDown mLDown
  have CLBranch := c_lbr (P := l.prog) (w := w) (base := base) ⟨nlen, nrange⟩ FLBranch bLBranch mLBranch
  have CLUp := c_lup (P := l.prog) (w := w) (base := base) ⟨nint, nabs⟩ CLBranch CLResult FLUp bLUp mLUp
  have CLEval := c_leval (P := l.prog) (w := w) (base := base) ⟨nrange⟩ CLEnter CLDown CLUp FLEval bLEval mLEval
  have CLRun := c_lrun (P := l.prog) (w := w) (base := base)  FLRun bLRun mLRun
  have CLDue := c_ldue (P := l.prog) (w := w) (base := base) ⟨nlen, ntuple⟩ CLRun CLEval FLDue bLDue mLDue
  have CLOne := c_lone (P := l.prog) (w := w) (base := base) ⟨nisinstance, ntuple, nlen, nint, nbool⟩ CHeadOf CLDue FLOne bLOne mLOne
  have CLApp := c_lapp (P := l.prog) (w := w) (base := base) CGlobals FLApp bLApp mLApp
  exact c_law ⟨nrange, ntuple, ⟨_, PySem.W.mg_of X G gtFA, rfl⟩, written_tup (by decide) ltFA ctFA vtFA⟩ CStart CTake CAny CLOne CProg CLApp FLaw
theorem walk {l : PySem.W.OpenLaw} {q : Program} {loose : List Str} {XP : (Str → Option Value) → Heap → Prop} {YP : World → Heap → Prop} {d : DefRec} {K : Params → PySem.W.Frag} (hn : l.most = some 63) (hdf : d.params.defaults = [])
    (hY : ∀ (w : World) (h : Heap), YP w h → (K w.params).In h)
    (F : ∀ (w : World) (mg : Str → Option Value) (fa : Addr) (h : Heap), (K w.params).In h → h.Ns mainGlobals mg → mg d.name = some (.ref fa) →
      ∃ fd : FuncData, (∀ (s : Shared) (u : Value), BindsTo s fd ⟨[u], []⟩ [("script", u)]) ∧ ∀ base : Heap, (K w.params).In base → base.Ns mainGlobals mg → FnOk l.prog w (K w.params) mg base CX0 22 fa fd ["script"] (spLaw (K w.params))) :
    PySem.W.WalkO q loose XP YP l.row.toRowW d [] (fun f vs => PySem.call f vs) :=
  L2.walk_of (n := 63) (k := 22) (x := "script") (CX := fun _ => CX0) (sp := fun w => spLaw (K w.params)) hn (by decide) hdf ⟨rfl, by decide, by decide⟩ hY F (fun _ _ a ns hl _ hS => ⟨a, ns, rfl, hS, hl, fun _ => rfl⟩) fun _ _ _ _ _ z => z
end Toy
open PySem PySem.W PyProof.Rows
set_option maxRecDepth 100000 in
set_option maxHeartbeats 0 in
theorem PySem.Challenge.cw_needonce_k43_heads_step_by_step_holds : PySem.Challenge.rw_needonce_k43_heads_step_by_step.Holds := by
  w_on; o_law; k_head; (case hw => w_witness2)
  k_fill
  refine Toy.walk (l := PySem.Challenge.rw_needonce_k43_heads_step_by_step) rfl rfl (fun w h Y => PySem.W.kIn_of Y) ?F
  case F =>
    intro w mg fa h KX G hmg
    refine' Toy.all_mk KX G hmg ?a0 ?l0 ?c0 ?k0 ?a1 ?l1 ?c1 ?k1 ?a2 ?l2 ?c2 ?k2 ?a3 ?l3 ?c3 ?k3 ?a4 ?l4 ?c4 ?k4 ?a5 ?l5 ?c5 ?k5 ?a6 ?l6 ?c6 ?k6 ?a7 ?l7 ?c7 ?k7 ?a8 ?l8 ?c8 ?k8 ?a9 ?l9 ?c9 ?k9 ?a10 ?l10 ?c10 ?k10 ?a11 ?l11 ?c11 ?k11 ?a12 ?l12 ?c12 ?k12 ?a13 ?l13 ?c13 ?k13 ?a14 ?l14 ?c14 ?k14 ?a15 ?l15 ?c15 ?k15 ?a16 ?l16 ?c16 ?k16 ?a17 ?l17 ?c17 ?k17 ?a18 ?l18 ?c18 ?k18 ?a19 ?l19 ?c19 ?k19 ?a20 ?l20 ?c20 ?k20 ?a21 ?l21 ?c21 ?k21 ?a22 ?l22 ?c22 ?k22 ?a23 ?l23 ?c23 ?k23 ?a24 ?l24 ?c24 ?k24 ?a25 ?l25 ?c25 ?k25 ?a26 ?l26 ?c26 ?k26 ?a27 ?l27 ?c27 ?k27 ?a28 ?l28 ?c28 ?k28 ?a29 ?l29 ?c29 ?k29 ?a30 ?l30 ?c30 ?k30 ?a31 ?l31 ?c31 ?k31 ?a32 ?l32 ?c32 ?k32 ?a33 ?l33 ?c33 ?k33 ?a34 ?l34 ?c34 ?k34 ?a35 ?l35 ?c35 ?k35 ?a36 ?l36 ?c36 ?k36 ?a37 ?l37 ?c37 ?k37 ?a38 ?l38 ?c38 ?k38 ?a39 ?l39 ?c39 ?k39 ?a40 ?l40 ?c40 ?k40 ?a41 ?l41 ?c41 ?k41 ?a42 ?l42 ?c42 ?k42 ?a43 ?l43 ?c43 ?k43 ?a44 ?l44 ?c44 ?k44 ?a45 ?l45 ?c45 ?k45 ?a46 ?l46 ?c46 ?k46 ?a47 ?l47 ?c47 ?k47 ?a48 ?l48 ?c48 ?k48 ?a49 ?l49 ?c49 ?k49 ?a50 ?l50 ?c50 ?k50 ?cst1 ?gtFA ?ltFA ?ctFA ?vtFA ?gtST ?ltST ?ctST ?vtST ?gtMO ?ltMO ?ctMO ?vtMO ?gtNM ?ltNM ?ctNM ?vtNM ?gtBZ ?ltBZ ?ctBZ ?vtBZ ?gtOV ?ltOV ?ctOV ?vtOV ?gdEV ?ldEV ?kdEV ?sdEV ?wEVvar ?wEVapp ?wEVlet ?wEVseq ?wEVcase ?wEVpick ?wEVprim ?wEVnote ?gdCN ?ldCN ?kdCN ?sdCN ?wCNargument ?wCNseq ?wCNcase ?wCNpick ?wCNsecond ?wCNfirst ?ndE ?ndC ?aE ?pgE ?hdE ?poE ?saE ?mkE ?kcE ?noE0 ?noE1 ?noE2 ?noE3 ?noE4 ?noE5 ?noE6 ?noE7 ?maEvInit ?miEvInit ?mlEvInit ?mcEvInit ?mkEvInit ?maEvBegin ?miEvBegin ?mlEvBegin ?mcEvBegin ?mkEvBegin ?maEvRun ?miEvRun ?mlEvRun ?mcEvRun ?mkEvRun ?maEvLook ?miEvLook ?mlEvLook ?mcEvLook ?mkEvLook ?maEvPut ?miEvPut ?mlEvPut ?mcEvPut ?mkEvPut ?zlen ?zint ?zrange ?zabs ?zisinstance ?zstr ?zbool ?ztuple ?zlist ?zzip ?zmin ?zreversed ?zdict
    (case a0 => k_is)
    (case l0 => k_is)
    (case c0 => k_is)
    (case k0 => k_is)
    (case a1 => k_is)
    (case l1 => k_is)
    (case c1 => k_is)
    (case k1 => k_is)
    (case a2 => k_is)
    (case l2 => k_is)
    (case c2 => k_is)
    (case k2 => k_is)
    (case a3 => k_is)
    (case l3 => k_is)
    (case c3 => k_is)
    (case k3 => k_is)
    (case a4 => k_is)
    (case l4 => k_is)
    (case c4 => k_is)
    (case k4 => k_is)
    (case a5 => k_is)
    (case l5 => k_is)
    (case c5 => k_is)
    (case k5 => k_is)
    (case a6 => k_is)
    (case l6 => k_is)
    (case c6 => k_is)
    (case k6 => k_is)
    (case a7 => k_is)
    (case l7 => k_is)
    (case c7 => k_is)
    (case k7 => k_is)
    (case a8 => k_is)
    (case l8 => k_is)
    (case c8 => k_is)
    (case k8 => k_is)
    (case a9 => k_is)
    (case l9 => k_is)
    (case c9 => k_is)
    (case k9 => k_is)
    (case a10 => k_is)
    (case l10 => k_is)
    (case c10 => k_is)
    (case k10 => k_is)
    (case a11 => k_is)
    (case l11 => k_is)
    (case c11 => k_is)
    (case k11 => k_is)
    (case a12 => k_is)
    (case l12 => k_is)
    (case c12 => k_is)
    (case k12 => k_is)
    (case a13 => k_is)
    (case l13 => k_is)
    (case c13 => k_is)
    (case k13 => k_is)
    (case a14 => k_is)
    (case l14 => k_is)
    (case c14 => k_is)
    (case k14 => k_is)
    (case a15 => k_is)
    (case l15 => k_is)
    (case c15 => k_is)
    (case k15 => k_is)
    (case a16 => k_is)
    (case l16 => k_is)
    (case c16 => k_is)
    (case k16 => k_is)
    (case a17 => k_is)
    (case l17 => k_is)
    (case c17 => k_is)
    (case k17 => k_is)
    (case a18 => k_is)
    (case l18 => k_is)
    (case c18 => k_is)
    (case k18 => k_is)
    (case a19 => k_is)
    (case l19 => k_is)
    (case c19 => k_is)
    (case k19 => k_is)
    (case a20 => k_is)
    (case l20 => k_is)
    (case c20 => k_is)
    (case k20 => k_is)
    (case a21 => k_is)
    (case l21 => k_is)
    (case c21 => k_is)
    (case k21 => k_is)
    (case a22 => k_is)
    (case l22 => k_is)
    (case c22 => k_is)
    (case k22 => k_is)
    (case a23 => k_is)
    (case l23 => k_is)
    (case c23 => k_is)
    (case k23 => k_is)
    (case a24 => k_is)
    (case l24 => k_is)
    (case c24 => k_is)
    (case k24 => k_is)
    (case a25 => k_is)
    (case l25 => k_is)
    (case c25 => k_is)
    (case k25 => k_is)
    (case a26 => k_is)
    (case l26 => k_is)
    (case c26 => k_is)
    (case k26 => k_is)
    (case a27 => k_is)
    (case l27 => k_is)
    (case c27 => k_is)
    (case k27 => k_is)
    (case a28 => k_is)
    (case l28 => k_is)
    (case c28 => k_is)
    (case k28 => k_is)
    (case a29 => k_is)
    (case l29 => k_is)
    (case c29 => k_is)
    (case k29 => k_is)
    (case a30 => k_is)
    (case l30 => k_is)
    (case c30 => k_is)
    (case k30 => k_is)
    (case a31 => k_is)
    (case l31 => k_is)
    (case c31 => k_is)
    (case k31 => k_is)
    (case a32 => k_is)
    (case l32 => k_is)
    (case c32 => k_is)
    (case k32 => k_is)
    (case a33 => k_is)
    (case l33 => k_is)
    (case c33 => k_is)
    (case k33 => k_is)
    (case a34 => k_is)
    (case l34 => k_is)
    (case c34 => k_is)
    (case k34 => k_is)
    (case a35 => k_is)
    (case l35 => k_is)
    (case c35 => k_is)
    (case k35 => k_is)
    (case a36 => k_is)
    (case l36 => k_is)
    (case c36 => k_is)
    (case k36 => k_is)
    (case a37 => k_is)
    (case l37 => k_is)
    (case c37 => k_is)
    (case k37 => k_is)
    (case a38 => k_is)
    (case l38 => k_is)
    (case c38 => k_is)
    (case k38 => k_is)
    (case a39 => k_is)
    (case l39 => k_is)
    (case c39 => k_is)
    (case k39 => k_is)
    (case a40 => k_is)
    (case l40 => k_is)
    (case c40 => k_is)
    (case k40 => k_is)
    (case a41 => k_is)
    (case l41 => k_is)
    (case c41 => k_is)
    (case k41 => k_is)
    (case a42 => k_is)
    (case l42 => k_is)
    (case c42 => k_is)
    (case k42 => k_is)
    (case a43 => k_is)
    (case l43 => k_is)
    (case c43 => k_is)
    (case k43 => k_is)
    (case a44 => k_is)
    (case l44 => k_is)
    (case c44 => k_is)
    (case k44 => k_is)
    (case a45 => k_is)
    (case l45 => k_is)
    (case c45 => k_is)
    (case k45 => k_is)
    (case a46 => k_is)
    (case l46 => k_is)
    (case c46 => k_is)
    (case k46 => k_is)
    (case a47 => k_is)
    (case l47 => k_is)
    (case c47 => k_is)
    (case k47 => k_is)
    (case a48 => k_is)
    (case l48 => k_is)
    (case c48 => k_is)
    (case k48 => k_is)
    (case a49 => k_is)
    (case l49 => k_is)
    (case c49 => k_is)
    (case k49 => k_is)
    (case a50 => k_is)
    (case l50 => k_is)
    (case c50 => k_is)
    (case k50 => k_is)
    (case cst1 => k_is)
    (case gtFA => k_is)
    (case ltFA => k_is)
    (case ctFA => rfl)
    (case vtFA => decide +kernel)
    (case gtST => k_is)
    (case ltST => k_is)
    (case ctST => rfl)
    (case vtST => decide +kernel)
    (case gtMO => k_is)
    (case ltMO => k_is)
    (case ctMO => rfl)
    (case vtMO => decide +kernel)
    (case gtNM => k_is)
    (case ltNM => k_is)
    (case ctNM => rfl)
    (case vtNM => decide +kernel)
    (case gtBZ => k_is)
    (case ltBZ => k_is)
    (case ctBZ => rfl)
    (case vtBZ => decide +kernel)
    (case gtOV => k_is)
    (case ltOV => k_is)
    (case ctOV => rfl)
    (case vtOV => decide +kernel)
    (case gdEV => k_is)
    (case ldEV => k_is)
    (case kdEV => exact ⟨⟨_, _, rfl, rfl⟩, ⟨_, _, rfl, rfl⟩, ⟨_, _, rfl, rfl⟩, ⟨_, _, rfl, rfl⟩, ⟨_, _, rfl, rfl⟩, ⟨_, _, rfl, rfl⟩, ⟨_, _, rfl, rfl⟩, ⟨_, _, rfl, rfl⟩, trivial⟩)
    (case sdEV => rfl)
    (case wEVvar => k_is)
    (case wEVapp => k_is)
    (case wEVlet => k_is)
    (case wEVseq => k_is)
    (case wEVcase => k_is)
    (case wEVpick => k_is)
    (case wEVprim => k_is)
    (case wEVnote => k_is)
    (case gdCN => k_is)
    (case ldCN => k_is)
    (case kdCN => exact ⟨⟨_, _, rfl, rfl⟩, ⟨_, _, rfl, rfl⟩, ⟨_, _, rfl, rfl⟩, ⟨_, _, rfl, rfl⟩, ⟨_, _, rfl, rfl⟩, ⟨_, _, rfl, rfl⟩, trivial⟩)
    (case sdCN => rfl)
    (case wCNargument => k_is)
    (case wCNseq => k_is)
    (case wCNcase => k_is)
    (case wCNpick => k_is)
    (case wCNsecond => k_is)
    (case wCNfirst => k_is)
    (case ndE => decide)
    (case ndC => decide)
    (case aE => k_is)
    (case pgE => k_is)
    (case hdE => k_is)
    (case poE => k_is)
    (case saE => k_is)
    (case mkE => k_is)
    (case kcE => k_is)
    (case noE0 => k_is)
    (case noE1 => k_is)
    (case noE2 => k_is)
    (case noE3 => k_is)
    (case noE4 => k_is)
    (case noE5 => k_is)
    (case noE6 => k_is)
    (case noE7 => k_is)
    (case maEvInit => k_is)
    (case miEvInit => k_is)
    (case mlEvInit => k_is)
    (case mcEvInit => k_is)
    (case mkEvInit => k_is)
    (case maEvBegin => k_is)
    (case miEvBegin => k_is)
    (case mlEvBegin => k_is)
    (case mcEvBegin => k_is)
    (case mkEvBegin => k_is)
    (case maEvRun => k_is)
    (case miEvRun => k_is)
    (case mlEvRun => k_is)
    (case mcEvRun => k_is)
    (case mkEvRun => k_is)
    (case maEvLook => k_is)
    (case miEvLook => k_is)
    (case mlEvLook => k_is)
    (case mcEvLook => k_is)
    (case mkEvLook => k_is)
    (case maEvPut => k_is)
    (case miEvPut => k_is)
    (case mlEvPut => k_is)
    (case mcEvPut => k_is)
    (case mkEvPut => k_is)
    (case zlen => k_is)
    (case zint => k_is)
    (case zrange => k_is)
    (case zabs => k_is)
    (case zisinstance => k_is)
    (case zstr => k_is)
    (case zbool => k_is)
    (case ztuple => k_is)
    (case zlist => k_is)
    (case zzip => k_is)
    (case zmin => k_is)
    (case zreversed => k_is)
    (case zdict => k_is)

