import PyProof.Rows.All
import Wide.All
import OpenK.AllK
import Wide.FinOn
import HandS.ForMost
import HandS.IsInst
import KE.OsScanText
import HandS.Codes
import HandS.Conv
import HandS.StrMore
import KE.KStrWords
import KE.KxText
import HandS.SortInts
import HandS.More
import HandS.DictComp
import HandS.CallLocal
import HandS.NoneIn
import HandS.TupAny
import HandS.Star
import PyProof.StrOps2
import PySem.Challenge.RW_needonce_k42_programs_that_are_not_sound
import HandS.Zip0
import HandS.Zip
import KE.KRevSl
import HandS.Comp
import PyProof.Rows.SortShellAny
import KE.KIntText
import HandS.Rev
import HandS.ExcInit
import HandS.ExcField
import HandS.ExcIs
import HandS.ClsMeth
import HandS.TryMany
import HandS.WordsExc
import HandS.FStr
import KE.KExcIs
set_option Elab.async false
set_option maxRecDepth 100000
set_option maxHeartbeats 4000000
/-! Part A: how defs are called, the drawing of numbers from the script. -/
namespace Toy
open PySem L2
open PyProof.Rows (envOfC)
def topS (i : Nat) : Stmt := PySem.Challenge.pw_needonce_k42_programs_that_are_not_sound.main.body.getD i (.Pass ⟨0, 0, 0, 0⟩)
theorem boot_min : bootBuiltins "min" = some (.builtin "min") := by decide +kernel
theorem boot_isinstance : bootBuiltins "isinstance" = some (.builtin "isinstance") := by decide +kernel
theorem boot_abs : bootBuiltins "abs" = some (.builtin "abs") := by decide +kernel
theorem boot_int : bootBuiltins "int" = some (.type "int") := by decide +kernel
theorem boot_list : bootBuiltins "list" = some (.type "list") := by decide +kernel
/-- a written row of texts: what it is -/
def tStrs (zs : List Str) : TA := fun _ H Q => Q (zs.map V.str) H
def strE : Expr → Option Str
  | .Constant (.str z) _ _ => some z
  | _ => none
theorem strE_is {e : Expr} {z : Str} (h : strE e = some z) : ∃ j pos, e = .Constant (.str z) j pos := by
  unfold strE at h
  split at h
  · cases h
    exact ⟨_, _, rfl⟩
  · cases h
/-- a written row of texts -/
theorem pa_strs {X : Cx} : ∀ {es : List Expr} {zs : List Str}, es.map strE = zs.map some → PA X es (tStrs zs)
  | [], [], _ => pa_nil
  | [], _ :: _, h => by cases h
  | _ :: _, [], h => by cases h
  | e :: es, z :: zs, h => by
    rw [List.map_cons, List.map_cons] at h
    obtain ⟨h1, h2⟩ := List.cons.inj h
    obtain ⟨j, pos, rfl⟩ := strE_is h1
    exact pa_cons pe_str (pa_strs h2)
theorem strs_read {zs : List Str} {σ : L2.St} {H : Hp} {Q : List V → Hp → Prop} (h : Q (zs.map V.str) H) : tStrs zs σ H Q := h
/-- what the proofs ask of the module's names -/
structure TxtD (mg : Str → Option Value) : Prop where
  zlen : mg "len" = none
  zint : mg "int" = none
  zrange : mg "range" = none
  zabs : mg "abs" = none
section
variable {P : Program} {w : World} {K : PySem.W.Frag} {mg : Str → Option Value} {base : Heap} 
/-- a def as one that may be called by its name -/
theorem cal_of {x : Str} {st : Stmt} {f : Addr} {fd : FuncData} {N ps : List Str} {k : Nat} {sp : Sp} (F : Fun K x x st f fd) (hm : mg x = some (.ref f)) (b : Binds K fd ps []) (S : FnScope N ps (defScope st)) (len : ∀ vs H Q E, sp vs H Q E → vs.length = ps.length)
    (hbody : ∀ (cdv : Value) (A : Around) (outer : List Env) (s : Shared) (H : Hp) (vs : List V) (Q : VK) (E : XK), Room k (A.deeper (envOfC x (defScope st) s.heap.objs.size f cdv)) → sp vs H Q E →
      ∃ t, PSs (cxOf CX0 P w K mg base N x (defScope st) f cdv A outer s H E).nox (defBody st) t ∧ t { nx := fun _ H' => Q .non H', rt := Q } (start N vs) H) : C8.Cal P w K mg base (k + 1) x sp [] :=
  ⟨f, fd, ps, [], F.ok S len hbody, hm, F.kp, b, .nil⟩
theorem same_new {H : Hp} {p : Addr} (h : H p = none) (o : HO) : Same H (upd H p o) := fun b u q => by rw [upd_ne (ne_of_none q h)]; exact q
theorem same_upd {H H' : Hp} {p : Addr} (h : H p = none) (s : Same H H') (o : HO) : Same H (upd H' p o) := fun b u q => by rw [upd_ne (ne_of_none q h)]; exact s b u q
theorem szl {n : Nat} (h : n ≤ 100000) : n < sizeLine := Nat.lt_of_le_of_lt h (by decide)
theorem at_ok {α : Type} {xs : List α} {k : Nat} (h : k < xs.length) : atI xs (0 + (k : Int)) = some xs[k] := by
  rw [Int.zero_add]
  exact atI_nat (List.getElem?_eq_getElem h)
theorem at_int {ns : List Int} {i : Int} (h0 : 0 ≤ i) (h1 : i < (ns.length : Int)) : ∃ v : Int, atI (ns.map V.int) i = some (.int v) := by
  have hk : i.toNat < ns.length := by omega
  refine ⟨ns[i.toNat], ?_⟩
  have q : atI (ns.map V.int) ((i.toNat : Nat) : Int) = some (.int ns[i.toNat]) := atI_nat (by rw [List.getElem?_map, List.getElem?_eq_getElem hk] <;> rfl)
  rw [show ((i.toNat : Nat) : Int) = i by omega] at q
  exact q

theorem at_intR {ns : List Int} (h : ∀ x ∈ ns, 0 ≤ x ∧ x < 997) {i : Int} (h0 : 0 ≤ i) (h1 : i < (ns.length : Int)) : ∃ v : Int, atI (ns.map V.int) i = some (.int v) ∧ 0 ≤ v ∧ v < 997 := by
  have hk : i.toNat < ns.length := by omega
  have q : atI (ns.map V.int) ((i.toNat : Nat) : Int) = some (.int ns[i.toNat]) := atI_nat (by rw [List.getElem?_map, List.getElem?_eq_getElem hk] <;> rfl)
  rw [show ((i.toNat : Nat) : Int) = i by omega] at q
  exact ⟨ns[i.toNat], q, h _ (List.getElem_mem hk)⟩
def RowIn (row : List Int) : Prop := ∀ x ∈ row, 0 ≤ x ∧ x < 997
theorem RowIn.snoc {row : List Int} (h : RowIn row) {z : Int} : RowIn (row ++ [z % 997]) := fun x hx => by
  rcases List.mem_append.mp hx with e | e
  · exact h x e
  · rw [List.mem_singleton.mp e]; omega
/-! ### the draws of a script -/
def dk4 (r : Addr) (i n l : Int) : List (Key × V) := [(Sum.inr "row", .ref r), (Sum.inr "at", .int i), (Sum.inr "names", .int n), (Sum.inr "left", .int l)]
theorem nk_ra : ¬ (Sum.inr ("row" : Str) : Key) = Sum.inr ("at" : Str) := by decide +kernel
theorem nk_rl : ¬ (Sum.inr ("row" : Str) : Key) = Sum.inr ("left" : Str) := by decide +kernel
theorem nk_al : ¬ (Sum.inr ("at" : Str) : Key) = Sum.inr ("left" : Str) := by decide +kernel
theorem nk_nl : ¬ (Sum.inr ("names" : Str) : Key) = Sum.inr ("left" : Str) := by decide +kernel
theorem dk_row (r : Addr) (i n l : Int) : valV (dk4 r i n l) (Sum.inr "row" : Key) = some (.ref r) := valV_pos rfl
theorem dk_at (r : Addr) (i n l : Int) : valV (dk4 r i n l) (Sum.inr "at" : Key) = some (.int i) := (valV_neg nk_ra).trans (valV_pos rfl)
theorem dk_left (r : Addr) (i n l : Int) : valV (dk4 r i n l) (Sum.inr "left" : Key) = some (.int l) := (valV_neg nk_rl).trans ((valV_neg nk_al).trans ((valV_neg nk_nl).trans (valV_pos rfl)))
theorem dk_put (r : Addr) (i n l j : Int) : putK (dk4 r i n l) (Sum.inr "at" : Key) (.int j) = dk4 r j n l := by
  have h1 : ¬ ("row" : Str) = "at" := by decide +kernel
  have h2 : ¬ ("names" : Str) = "at" := by decide +kernel
  have h3 : ¬ ("left" : Str) = "at" := by decide +kernel
  simp [putK, dk4, h1, h2, h3]
theorem dk_putl (r : Addr) (i n l j : Int) : putK (dk4 r i n l) (Sum.inr "left" : Key) (.int j) = dk4 r i n j := by
  have h1 : ¬ ("row" : Str) = "left" := by decide +kernel
  have h2 : ¬ ("names" : Str) = "left" := by decide +kernel
  have h3 : ¬ ("at" : Str) = "left" := by decide +kernel
  simp [putK, dk4, h1, h2, h3]
theorem dk_merge (r : Addr) (l : Int) : mergeK [] [(Sum.inr "row", .ref r), (Sum.inr "at", .int 0), (Sum.inr "names", .int 0), (Sum.inr "left", .int l)] = dk4 r 0 0 l := by
  have h1 : ¬ ("row" : Str) = "at" := by decide +kernel
  have h2 : ¬ ("row" : Str) = "names" := by decide +kernel
  have h3 : ¬ ("row" : Str) = "left" := by decide +kernel
  have h4 : ¬ ("at" : Str) = "names" := by decide +kernel
  have h5 : ¬ ("at" : Str) = "left" := by decide +kernel
  have h6 : ¬ ("names" : Str) = "left" := by decide +kernel
  simp [mergeK, putK, dk4, h1, h2, h3, h4, h5, h6]
/-- a row of draws -/
def RowOk (row : List Int) : Prop := (0 < row.length ∧ row.length ≤ 1000) ∧ ∀ x ∈ row, 0 ≤ x ∧ x < 997
/-- a reader of draws stands at p; not more than B were taken -/
def DAt (H : Hp) (p r : Addr) (B : Nat) : Prop := ∃ (row : List Int) (i : Nat) (n l : Int), H p = some (.dK (dk4 r (i : Int) n l)) ∧ H r = some (.lst (row.map V.int)) ∧ RowOk row ∧ (i ≤ B ∧ 0 ≤ n ∧ n ≤ (B : Int))
theorem DAt.same {H H' : Hp} {p r : Addr} {B : Nat} (d : DAt H p r B) (s : Same H H') : DAt H' p r B := by
  obtain ⟨row, i, n, l, h1, h2, h3⟩ := d
  exact ⟨row, i, n, l, s _ _ h1, s _ _ h2, h3⟩
theorem DAt.more {H : Hp} {p r : Addr} {B C : Nat} (d : DAt H p r B) (h : B ≤ C) : DAt H p r C := by
  obtain ⟨row, i, n, l, h1, h2, h3, h4⟩ := d
  exact ⟨row, i, n, l, h1, h2, h3, by omega⟩
theorem DAt.fresh {H : Hp} {p r x : Addr} {B : Nat} (d : DAt H p r B) (hx : H x = none) : x ≠ p ∧ x ≠ r := by
  obtain ⟨row, i, n, l, h1, h2, _⟩ := d
  exact ⟨fun e => (by rw [e, h1] at hx; cases hx), fun e => (by rw [e, h2] at hx; cases hx)⟩
theorem DAt.off {H : Hp} {p r x : Addr} {B : Nat} (d : DAt H p r B) (h1 : x ≠ p) (h2 : x ≠ r) (o : HO) : DAt (upd H x o) p r B := by
  obtain ⟨row, i, n, l, g1, g2, g3⟩ := d
  exact ⟨row, i, n, l, by rw [upd_ne h1.symm]; exact g1, by rw [upd_ne h2.symm]; exact g2, g3⟩
/-- all but p stays -/
def Keep (p : Addr) (H H' : Hp) : Prop := ∀ b o, b ≠ p → H b = some o → H' b = some o
theorem Keep.refl (p : Addr) (H : Hp) : Keep p H H := fun _ _ _ e => e
theorem Keep.same {p : Addr} {H H' : Hp} (s : Same H H') : Keep p H H' := fun b o _ e => s b o e
theorem Keep.trans {p : Addr} {H1 H2 H3 : Hp} (h : Keep p H1 H2) (k : Keep p H2 H3) : Keep p H1 H3 := fun b o n e => k b o n (h b o n e)
theorem Keep.free {p : Addr} {H H' : Hp} (k : Keep p H H') {a : Addr} (n : a ≠ p) (h : H' a = none) : H a = none := by
  cases e : H a with
  | none => rfl
  | some u => rw [k a u n e] at h; cases h
theorem keep_upd {p D : Addr} {H H' : Hp} (h : H D = none) (k : Keep p H H') (o : HO) : Keep p H (upd H' D o) := fun b u n e => by
  rw [upd_ne (ne_of_none e h)]
  exact k b u n e
theorem DAt.ne_list {H : Hp} {p r x : Addr} {B : Nat} {ys : List V} (d : DAt H p r B) (h : H x = some (.lst ys)) : x ≠ p := fun e => by
  obtain ⟨_, _, _, _, h1, _⟩ := d
  rw [e, h1] at h
  cases h
theorem DAt.ne_tup {H : Hp} {p r x : Addr} {B : Nat} {ys : List V} (d : DAt H p r B) (h : H x = some (.tup ys)) : x ≠ p := fun e => by
  obtain ⟨_, _, _, _, h1, _⟩ := d
  rw [e, h1] at h
  cases h
abbrev sTake : Stmt := topS 60
theorem scTake : FnScope ["d", "at"] ["d"] (defScope sTake) := ⟨rfl, rfl, rfl, by decide +kernel, rfl, by decide +kernel, by decide +kernel⟩
/-- some number, not great; the reader moves on -/
def spTake : Sp := fun vs H Q _ => ∃ (p r : Addr) (B : Nat), vs = [.ref p] ∧ DAt H p r B ∧ ∀ (n : Int) (H' : Hp), 0 ≤ n → n ≤ 997 + (B : Int) → Keep p H H' → DAt H' p r (B + 1) → Q (.int n) H'
theorem c_take {f : Addr} {fd : FuncData} (T : TxtD mg) (F : Fun K "_law_take" "_law_take" sTake f fd) (b : Binds K fd ["d"] []) (hm : mg "_law_take" = some (.ref f)) : C8.Cal P w K mg base 1 "_law_take" spTake [] := by
  refine cal_of F hm b scTake (fun vs H Q E h => ?_) (fun cdv A outer s H vs Q E hr h => ?_)
  · obtain ⟨p, r, B, rfl, _⟩ := h
    rfl
  obtain ⟨p, r, B, rfl, ⟨row, i, n, l, hp, hrow, ⟨⟨hl0, hl1⟩, hrw⟩, hiB⟩, q⟩ := h
  have hu := hu_of hr
  have npr : r ≠ p := ne_of hrow hp (by intro z; cases z)
  refine ⟨_, (pss_cons (ps_set (i := 1) scTake.nd rfl (Or.inl rfl) (pe_dget hu (pv 0) pe_str (fun _ _ => rfl)))
    (pss_cons (ps_dput hu (pv 0) pe_str (pe_op op_add (pv 1) pe_int) rfl)
    (pss_one (ps_ret (pe_op op_add (pe_ix ix_list (pe_dget hu (pv 0) pe_str (fun _ _ => rfl)) (pe_op op_mod (pv 1) (pe_callB call_len_seq rfl T.zlen PySem.boot_len (pa_cons (pe_dget hu (pv 0) pe_str (fun _ _ => rfl)) pa_nil))) (fun _ _ => rfl)) (pe_op op_fdiv (pv 1) (pe_callB call_len_seq rfl T.zlen PySem.boot_len (pa_cons (pe_dget hu (pv 0) pe_str (fun _ _ => rfl)) pa_nil)))))))), ?_⟩
  refine ⟨_, rfl, p, _, rfl, (dk_at r _ _ _ ▸ DGet.k (k := Sum.inr "at") hp), ?_⟩
  refine ⟨_, rfl, _, _, rfl, rfl, _, rfl, p, _, rfl, DPut.k (k := Sum.inr "at") hp (by show 4 < sizeLine; decide), ?_⟩
  rw [dk_put]
  have hp2 : upd H p (.dK (dk4 r ((i : Int) + 1) n l)) p = some (.dK (dk4 r ((i : Int) + 1) n l)) := upd_same
  have hr2 : upd H p (.dK (dk4 r ((i : Int) + 1) n l)) r = some (.lst (row.map V.int)) := by rw [upd_ne npr]; exact hrow
  have fin : ∀ z : Int, 0 ≤ z → z ≤ 997 + (B : Int) → Q (.int z) (upd H p (.dK (dk4 r ((i : Int) + 1) n l))) := fun z h0 h1 =>
    q z _ h0 h1 (fun b o hb e => by rw [upd_ne hb]; exact e) ⟨row, i + 1, n, l, by rw [upd_same]; rfl, hr2, ⟨⟨hl0, hl1⟩, hrw⟩, by omega⟩
  generalize upd H p (.dK (dk4 r ((i : Int) + 1) n l)) = H2 at hp2 hr2 fin ⊢
  have hlen : (0 : Int) < (((row.map V.int).length : Nat) : Int) := by rw [List.length_map]; omega
  have m0 := Int.emod_nonneg (i : Int) (b := (((row.map V.int).length : Nat) : Int)) (by omega)
  have m1 := Int.emod_lt_of_pos (i : Int) hlen
  obtain ⟨v, hv, hv0, hv1⟩ := at_intR hrw (i := (i : Int) % (((row.map V.int).length : Nat) : Int)) m0 (by rw [List.length_map] at m1 ⊢; exact m1)
  refine ⟨_, rfl, p, _, rfl, (dk_row r _ _ _ ▸ DGet.k (k := Sum.inr "row") hp2), _, rfl, _, rfl, p, _, rfl, (dk_row r _ _ _ ▸ DGet.k (k := Sum.inr "row") hp2), r, _, rfl, .inl (SqL.of hr2), _, _, rfl, rfl, hlen, r, _, _, _, rfl, rfl, SqL.of hr2, hv, ?_⟩
  refine ⟨_, rfl, _, rfl, p, _, rfl, (dk_row r _ _ _ ▸ DGet.k (k := Sum.inr "row") hp2), r, _, rfl, .inl (SqL.of hr2), ?_⟩
  refine ⟨_, _, rfl, rfl, ⟨hlen, by rw [List.length_map]; omega⟩, _, _, rfl, rfl, ?_⟩
  have d0 := Int.ediv_nonneg (a := (i : Int)) (b := (((row.map V.int).length : Nat) : Int)) (by omega) (by omega)
  have d1 : (i : Int) / (((row.map V.int).length : Nat) : Int) ≤ (i : Int) := Int.ediv_le_self _ (by omega)
  exact fin _ (by omega) (by omega)
abbrev sDraws : Stmt := topS 59
theorem scDraws : FnScope ["script", "many", "draws", "mixed", "k", "cell", "rest", "turn"] ["script", "many"] (defScope sDraws) := ⟨rfl, rfl, rfl, by decide +kernel, rfl, by decide +kernel, by decide +kernel⟩
def spDraws (K : PySem.W.Frag) : Sp := fun vs H Q _ => ∃ (a : Addr) (ns : List Int) (m : Nat), vs = [.ref a, .int (m : Int)] ∧ SqL K H a (ns.map V.int) ∧ ns.length ≤ 63 ∧ 0 < m ∧ m ≤ 1000 ∧ ∀ (r : Addr) (row : List Int) (H' : Hp), H r = none → Same H H' → H' r = some (.lst (row.map V.int)) → RowOk row → Q (.ref r) H'
theorem cut_take (row : List Int) (m : Nat) (h : m ≤ row.length) : cutV (row.map V.int) none (some (m : Int)) = (row.take m).map V.int := by
  unfold cutV
  rw [HT.sIx_none, HT.sIx_nat, List.length_map, List.drop_zero, Nat.sub_zero, Nat.min_eq_left h, List.map_take]
theorem c_draws {f : Addr} {fd : FuncData} (T : TxtD mg) (F : Fun K "_law_draws" "_law_draws" sDraws f fd) (b : Binds K fd ["script", "many"] []) (hm : mg "_law_draws" = some (.ref f)) : C8.Cal P w K mg base 1 "_law_draws" (spDraws K) [] := by
  refine cal_of F hm b scDraws (fun vs H Q E h => ?_) (fun cdv A outer s H vs Q E hr h => ?_)
  · obtain ⟨a, ns, m, rfl, _⟩ := h
    rfl
  obtain ⟨a, ns, m, rfl, hS, h63, hm0, hm1, q⟩ := h
  refine ⟨_, (pss_cons (ps_set (i := 2) scDraws.nd rfl (Or.inl rfl) (pe_lst pa_nil))
    (pss_cons (ps_set (i := 3) scDraws.nd rfl (Or.inl rfl) pe_int)
    (pss_cons (ps_for PassesOwn.never rfl (pi_range1 rfl T.zrange (pa_cons (pe_callB call_len_seq rfl T.zlen PySem.boot_len (pa_cons (pv 0) pa_nil)) pa_nil)) (pg_name (i := 4) scDraws.nd rfl (Or.inl rfl))
      (pss_cons (ps_set (i := 5) scDraws.nd rfl (Or.inl rfl) (pe_callB call_abs rfl T.zabs boot_abs (pa_cons (pe_callTy call_int1 rfl T.zint boot_int (pa_cons (pe_ix ix_list (pv 0) (pv 4) (fun _ _ => rfl)) pa_nil)) pa_nil)))
    (pss_cons (ps_set (i := 3) scDraws.nd rfl (Or.inl rfl) (pe_op op_mod (pe_callTy call_int1 rfl T.zint boot_int (pa_cons (pe_op op_add (pe_op op_add (pe_op op_mul (pv 3) pe_int) (pe_op op_mod (pv 5) pe_int)) (pv 4)) pa_nil)) pe_int))
    (pss_cons (ps_set (i := 6) scDraws.nd rfl (Or.inl rfl) pe_int)
    (C8.pss_cut (ps_if (pt_cmpR op_ge (pv 5) (pe_op op_pow pe_int pe_int) (nomark _))
      (pss_one (ps_set (i := 6) scDraws.nd rfl (Or.inl rfl) (pv 5)))
      (pss_cons (ps_expr (pe_bm PySem.F.plainAttrs_list PySem.F.slot_list_append PySem.F.type_list_append mt_append (pv 2) (pa_cons (pe_op op_mod (pv 5) pe_int) pa_nil)))
    (pss_one (ps_expr (pe_bm PySem.F.plainAttrs_list PySem.F.slot_list_append PySem.F.type_list_append mt_append (pv 2) (pa_cons (pe_op op_mod (pe_op op_mod (pe_callTy call_int1 rfl T.zint boot_int (pa_cons (pe_op op_add (pe_op op_mul (pv 3) pe_int) pe_int) pa_nil)) pe_int) pe_int) pa_nil))))))
    (pss_one (ps_for PassesOwn.never rfl (pi_range1 rfl T.zrange (pa_cons pe_int pa_nil)) (pg_name (i := 7) scDraws.nd rfl (Or.inl rfl))
      (pss_one (ps_if (pt_cmpR op_gt (pv 6) pe_int (nomark _))
      (pss_cons (ps_expr (pe_bm PySem.F.plainAttrs_list PySem.F.slot_list_append PySem.F.type_list_append mt_append (pv 2) (pa_cons (pe_op op_mod (pe_callTy call_int1 rfl T.zint boot_int (pa_cons (pv 6) pa_nil)) pe_int) pa_nil)))
    (pss_one (ps_set (i := 6) scDraws.nd rfl (Or.inl rfl) (pe_op op_fdiv (pv 6) pe_int))))
      pss_nil)))))))))
    (pss_cons (ps_for PassesOwn.never rfl (pi_range1 rfl T.zrange (pa_cons (pv 1) pa_nil)) (pg_name (i := 4) scDraws.nd rfl (Or.inl rfl))
      (pss_cons (ps_set (i := 3) scDraws.nd rfl (Or.inl rfl) (pe_op op_mod (pe_callTy call_int1 rfl T.zint boot_int (pa_cons (pe_op op_add (pe_op op_add (pe_op op_mul (pv 3) pe_int) (pv 4)) pe_int) pa_nil)) pe_int))
    (pss_one (ps_expr (pe_bm PySem.F.plainAttrs_list PySem.F.slot_list_append PySem.F.type_list_append mt_append (pv 2) (pa_cons (pe_op op_mod (pe_callTy call_int1 rfl T.zint boot_int (pa_cons (pv 3) pa_nil)) pe_int) pa_nil))))))
    (pss_one (ps_ret (pe_slice sl_list (pv 2) po_none (po_some (pv 1))))))))), ?_⟩
  refine ⟨(by show 0 ≤ sizeLine; decide), fun r hr0 => ?_⟩
  refine ⟨_, rfl, a, _, rfl, .inl ((same_new hr0 _).seq hS), _, rfl, ?_, ?_, for_range
    (fun (k : Nat) σ H2 => ∃ (kk c t x : Option V) (mx : Int) (row : List Int), σ = [some (.ref a), some (.int (m : Int)), some (.ref r), some (.int mx), kk, c, t, x] ∧ Same H H2 ∧ H2 r = some (.lst (row.map V.int)) ∧ row.length ≤ 62 * k ∧ RowIn row)
    ⟨none, none, none, none, 7, [], rfl, same_new hr0 _, upd_same, by simp, fun x hx => by cases hx⟩ ?_ ?_⟩
  · omega
  · rw [List.length_map]
    omega
  · rintro k σ H2 hk ⟨kk, c, t, x, mx, row, rfl, s2, hrow, hl, hin⟩
    have hk' : (k : Int) < (ns.length : Int) := by
      rw [List.length_map] at hk
      omega
    obtain ⟨v, hv⟩ := at_int (ns := ns) (i := 0 + (k : Int)) (by omega) (by omega)
    refine ⟨_, rfl, _, rfl, a, _, _, _, rfl, rfl, s2.seq hS, hv, .inl ⟨_, rfl, _, rfl, ?_⟩⟩
    refine ⟨_, rfl, _, _, rfl, rfl, .inr (by decide), _, rfl, _, _, rfl, rfl, (show (0 : Int) < 1000003 by decide), _, _, rfl, rfl, _, rfl, _, _, rfl, rfl, .inl ⟨_, rfl, _, _, rfl, rfl, (show (0 : Int) < 65537 by decide), ?_⟩⟩
    refine ⟨fun σ H3 => ∃ (c : Option V) (mx x : Int) (t : Option V) (row : List Int), σ = [some (.ref a), some (.int (m : Int)), some (.ref r), some (.int mx), some (.int (0 + (k : Int))), c, some (.int x), t] ∧ Same H H3 ∧ H3 r = some (.lst (row.map V.int)) ∧ row.length ≤ 62 * k + 2 ∧ RowIn row, ?_, ?_⟩
    · refine ⟨_, rfl, _, _, rfl, rfl, ⟨by decide, by decide, by decide⟩, _, _, rfl, rfl, _, rfl, ?_⟩
      refine ite2 (fun _ => ?_) (fun _ => ?_)
      · exact ⟨_, rfl, _, _, _, _, row, rfl, s2, hrow, by omega, hin⟩
      · refine ⟨_, rfl, .inl ⟨rfl, _, SqL.of hrow⟩, _, rfl, _, _, rfl, rfl, (show (0 : Int) < 997 by decide), r, _, _, rfl, rfl, hrow, szl (by rw [List.length_map]; omega), ?_⟩
        have e3 : ∀ z : Int, upd H2 r (.lst (row.map V.int ++ [.int z])) r = some (.lst ((row ++ [z]).map V.int)) := fun z => by rw [upd_same, List.map_append]; rfl
        have s3 : ∀ z : Int, Same H (upd H2 r (.lst (row.map V.int ++ [.int z]))) := fun z => same_upd hr0 s2 _
        refine ⟨_, rfl, .inl ⟨rfl, _, SqL.of (e3 _)⟩, _, rfl, _, _, rfl, rfl, .inr (by decide), _, _, rfl, rfl, .inl ⟨_, rfl, _, _, rfl, rfl, (show (0 : Int) < 65521 by decide), _, _, rfl, rfl, (show (0 : Int) < 997 by decide), r, _, _, rfl, rfl, e3 _, szl (by rw [List.length_map, List.length_append]; show _ + 1 ≤ _; omega), ?_⟩⟩
        refine ⟨_, _, _, _, row ++ [_ % 997] ++ [_ % 997], rfl, same_upd hr0 (s3 _) _, by rw [upd_same]; simp only [List.map_append]; rfl, ?_, hin.snoc.snoc⟩
        rw [List.length_append, List.length_append]
        show row.length + 1 + 1 ≤ _
        omega
    rintro σ H3 ⟨c, mx, x, t, row, rfl, s3, hrow, hl, hin⟩
    refine ⟨60, rfl, by decide, by decide, for_range (fun (j : Nat) σ H3 => ∃ (c : Option V) (mx x : Int) (t : Option V) (row : List Int), σ = [some (.ref a), some (.int (m : Int)), some (.ref r), some (.int mx), some (.int (0 + (k : Int))), c, some (.int x), t] ∧ Same H H3 ∧ H3 r = some (.lst (row.map V.int)) ∧ row.length ≤ 62 * k + 2 + j ∧ RowIn row)
      ⟨_, _, _, _, row, rfl, s3, hrow, by omega, hin⟩ ?_ ?_⟩
    · rintro j σ H3 hj ⟨c, mx, x, t, row, rfl, s3, hrow, hl, hin⟩
      refine ⟨_, rfl, _, _, rfl, rfl, _, rfl, ?_⟩
      refine ite2 (fun _ => ?_) (fun _ => ?_)
      · refine ⟨_, rfl, .inl ⟨rfl, _, SqL.of hrow⟩, _, rfl, .inl ⟨_, rfl, _, _, rfl, rfl, (show (0 : Int) < 997 by decide), r, _, _, rfl, rfl, hrow, szl (by rw [List.length_map]; omega), ?_⟩⟩
        refine ⟨_, rfl, _, _, rfl, rfl, ⟨by decide, by decide⟩, ?_⟩
        refine ⟨_, _, _, _, row ++ [_ % 997], rfl, same_upd hr0 s3 _, by rw [upd_same, List.map_append]; rfl, ?_, hin.snoc⟩
        rw [List.length_append]
        show row.length + 1 ≤ _
        omega
      · exact ⟨_, _, _, _, row, rfl, s3, hrow, by omega, hin⟩
    · rintro σ H3 ⟨c, mx, x, t, row, rfl, s3, hrow, hl, hin⟩
      exact ⟨_, _, _, _, _, row, rfl, s3, hrow, by omega, hin⟩
  · rintro σ H2 ⟨kk, c, t, x, mx, row, rfl, s2, hrow, hl, hin⟩
    rw [List.length_map] at hl
    refine ⟨_, rfl, ?_⟩
    refine ⟨_, rfl, by omega, by omega, for_range (fun (j : Nat) σ H3 => ∃ (kk c t x : Option V) (mx : Int) (row : List Int), σ = [some (.ref a), some (.int (m : Int)), some (.ref r), some (.int mx), kk, c, t, x] ∧ Same H H3 ∧ H3 r = some (.lst (row.map V.int)) ∧ row.length ≤ 4000 + j ∧ j ≤ row.length ∧ RowIn row)
      ⟨_, _, _, _, _, row, rfl, s2, hrow, by omega, by omega, hin⟩ ?_ ?_⟩
    · rintro j σ H3 hj ⟨kk, c, t, x, mx, row, rfl, s3, hrow, hl, hl2, hin⟩
      have hj : j < ((m : Int)).toNat := hj
      refine ⟨_, rfl, _, _, rfl, rfl, .inr (by decide), _, rfl, _, _, rfl, rfl, _, _, rfl, rfl, .inl ⟨_, rfl, _, _, rfl, rfl, (show (0 : Int) < 65537 by decide), ?_⟩⟩
      refine ⟨_, rfl, .inl ⟨rfl, _, SqL.of hrow⟩, _, rfl, .inl ⟨_, rfl, _, _, rfl, rfl, (show (0 : Int) < 997 by decide), r, _, _, rfl, rfl, hrow, szl (by rw [List.length_map]; omega), ?_⟩⟩
      refine ⟨_, _, _, _, _, row ++ [_ % 997], rfl, same_upd hr0 s3 _, by rw [upd_same, List.map_append]; rfl, ?_, ?_, hin.snoc⟩
      · rw [List.length_append]
        show row.length + 1 ≤ _
        omega
      · rw [List.length_append]
        show j + 1 ≤ row.length + 1
        omega
    · rintro σ H3 ⟨kk, c, t, x, mx, row, rfl, s3, hrow, hl, hl2, hin⟩
      have hl2 : m ≤ row.length := by omega
      refine ⟨_, rfl, _, rfl, _, rfl, r, _, rfl, SqL.of hrow, fun p hp => ?_⟩
      rw [cut_take row m hl2]
      exact q p (row.take m) _ (s3.free hp) (same_upd (s3.free hp) s3 _) upd_same ⟨⟨by rw [List.length_take]; omega, by rw [List.length_take]; omega⟩, fun x hx => hin x (List.mem_of_mem_take hx)⟩
end
end Toy

set_option Elab.async false
set_option linter.all false
set_option maxRecDepth 100000
set_option maxHeartbeats 4000000
/-! Part X: own rules: a text times a number, d.get of a written dict, comprehensions over texts and lists. -/
namespace L2
open PySem PySem.Spec PyProof.Rows
def repS (z : Str) (n : Nat) : Str := ⟨(List.replicate n z.cps).foldl (· ++ ·) #[]⟩
theorem rep_size (a : Array Nat) : ∀ (n : Nat) (acc : Array Nat), ((List.replicate n a).foldl (· ++ ·) acc).size = acc.size + n * a.size
  | 0, acc => by simp
  | n + 1, acc => by
    rw [List.replicate_succ, List.foldl_cons, rep_size a n, Array.size_append, Nat.succ_mul]
    omega
/-- z * n -/
def rMulS : R2 := fun x y H Q => ∃ (z : Str) (n : Nat), x = .str z ∧ y = .int (n : Int) ∧ 2 ≤ n ∧ n ≤ 1000 ∧ 0 < z.length ∧ z.length ≤ 1000 ∧ Q (.str (repS z n)) H
section
variable {X : Cx}
theorem op_mulS : OpR X (binaryOp .Mult) rMulS := by
  intro pins s σ H x y v u Q I rx ry h
  obtain ⟨z, n, rfl, rfl, h2, h1000, hz, hz2, q⟩ := h
  obtain ⟨t, rfl⟩ := rx
  obtain ⟨t2, rfl⟩ := ry
  have c1 : ((n : Int) == 1 || z.length == 0) = false := by
    rw [Bool.or_eq_false_iff]
    exact ⟨beq_eq_false_iff_ne.mpr (by omega), beq_eq_false_iff_ne.mpr (by omega)⟩
  refine PySem.P.mul_str ?_ (fun _ _ => ?_) (fun _ _ => ?_) ?_
  · rw [decide_eq_false (by omega), decide_eq_false (by omega)] <;> rfl
  · have : (1000 : Int) ≤ (2 ^ 63 - 1) / (n : Int) := Int.le_ediv_of_mul_le (by omega) (by omega)
    omega
  · show decide (z.length * ((n : Int)).toNat > sizeLine) = false
    have a1 : z.length * ((n : Int)).toNat ≤ 1000 * 1000 := Nat.mul_le_mul hz2 (by omega)
    exact decide_eq_false (by rw [sizeLine_eq]; omega)
  · rw [if_neg (by omega), if_neg (by rw [c1]; decide)]
    have hlen := rep_size z.cps n #[]
    refine ⟨?_, .str _, H, I.tok _, ⟨_, rfl⟩, q⟩
    show ((List.replicate ((n : Int)).toNat z.cps).foldl (· ++ ·) #[]).size ≤ sizeLine
    rw [show ((n : Int)).toNat = n from Int.toNat_natCast n, hlen, sizeLine_eq]
    have a1 : n * z.cps.size ≤ 1000 * 1000 := Nat.mul_le_mul (by omega) hz2
    show 0 + n * z.cps.size ≤ _
    omega
end
/-- d.get(key), d a dict of the module with text keys -/
def tKGet (K : PySem.W.Frag) (d : Addr) (td ty : TE) : TE := fun σ H Q => td σ H fun x H1 => x = .ref d ∧ ty σ H1 fun y H2 => ∃ (z : Str) (r : Option Value) (v0 : V), y = .str z ∧ PySem.W.nsIn K d z = some r ∧ RelV v0 (r.getD .none) ∧ Q v0 H2
section
variable {X : Cx} {o e : Expr} {apos cpos : Pos} {td ty : TE} {d : Addr} {es : Array DictEntry} {n : Nat}
theorem pe_kget (D : KDict X.K X.w d es n) (ho : PE X o td) (he : PE X e ty) (m : M1 X o "get" apos e cpos) : PE X (.Call (.Attribute o "get" apos) [e] [] cpos) (tKGet X.K d td ty) := by
  refine ⟨fun pins s σ H Q I h => ?_⟩
  refine wpAny_Call_method m.base m.few m.line PySem.F.plainAttrs_dict PySem.F.slot_dict_get PySem.F.type_dict_get (thn (ho.run pins s σ H _ I h) fun u s1 ⟨x, H1, I1, rx, ex, q1⟩ => ?_)
  subst ex
  obtain rfl : u = Value.ref d := rx
  refine ⟨kd_type D I1, fun b q => ?_, ?_⟩
  · cases q
    obtain ⟨ob, h1, h2⟩ : ∃ ob, s1.heap.get? d = some ob ∧ ob.dict = none := ⟨_, I1.kIn d _ D.at_, rfl⟩
    exact ⟨ob, h1, h2⟩
  rw [m.trees]
  refine Calls.callWith_builtin rfl (Calls.evalArgs_plain (Calls.spliced_cons (thn (he.run pins s1 σ H1 _ I1 q1) fun iv s2 ⟨y, H2, I2, ry, z, r, v0, ey, en, rv, q2⟩ => Calls.spliced_nil ?_)))
  subst ey
  obtain ⟨t, rfl⟩ := ry
  refine call_meetsIn PySem.F.slot_dict_get (kd_type D I2) PySem.F.entry_dict_get (PySem.F.args_dict_get_2 _ _) (meets_dict_get (strKind X.prog X.w) d (PySem.strKind_is X.prog X.w z t) D.low) ⟨_, PySem.W.mapOf_K (prog := X.prog) I2.kIn D.at_ D.lit, ?_⟩
  rw [PySem.W.find_K D.at_ en]
  exact ⟨v0, H2, I2.tok _, rv, q2⟩
end
/-- a comprehension over a text -/
theorem lc_str {x : Str} {g : TG} {tt : TT} {te : TE} {vs : List Nat} {σ : St} {H1 : Hp} {D : Addr} {Qd : Hp → Prop} (Pv : Nat → Hp → Prop) (h0 : Pv 0 (upd H1 D (.lst [])))
    (hs : ∀ i c H, x.cps[i]? = some c → Pv i H → g (.str ⟨#[c]⟩) (wipe σ vs) H fun σ2 H2 => wipe σ2 vs = wipe σ vs ∧ tt σ2 H2 fun b H3 =>
      if b = true then te σ2 H3 fun y H4 => ∃ acc, H4 D = some (.lst acc) ∧ acc.length < sizeLine ∧ Pv (i + 1) (upd H4 D (.lst (acc ++ [y]))) else Pv (i + 1) H3) (hd : ∀ H, Pv x.cps.size H → Qd H) :
    ∃ W : Nat → Nat → Hp → Prop, (∃ m, W 0 m (upd H1 D (.lst []))) ∧ ∀ i m H, W i m H →
      ((Its x).stop i H ∧ Qd H) ∨ ((Its x).go i H ∧ ∃ Nx : Hp → Prop, (∀ H', Nx H' → ∃ m', m' < m ∧ W (i + 1) m' H') ∧ ∀ y H', (Its x).yld i H y H' → g y (wipe σ vs) H' fun σ2 H2 => wipe σ2 vs = wipe σ vs ∧ tt σ2 H2 fun b H3 =>
        if b = true then te σ2 H3 fun y H4 => ∃ acc, H4 D = some (.lst acc) ∧ acc.length < sizeLine ∧ Nx (upd H4 D (.lst (acc ++ [y]))) else Nx H3) := by
  refine ⟨fun i m H => m = x.cps.size - i ∧ i ≤ x.cps.size ∧ Pv i H, ⟨x.cps.size, by simp, Nat.zero_le _, h0⟩, ?_⟩
  rintro i m H ⟨rfl, hi, p⟩
  by_cases hlt : i < x.cps.size
  · refine .inr ⟨hlt, Pv (i + 1), fun H' p' => ⟨x.cps.size - (i + 1), by omega, rfl, hlt, p'⟩, fun y H' hy => ?_⟩
    obtain ⟨rfl, c, hc, rfl⟩ := hy
    exact hs i c _ hc p
  · have e : i = x.cps.size := by omega
    subst e
    exact .inl ⟨Nat.le_refl _, hd H p⟩
/-- a dict comprehension over a list that stays -/
theorem dc_list {K : PySem.W.Frag} {a : Addr} {xs : List V} {g : TG} {tt : TT} {tk tv : TE} {vs : List Nat} {σ : St} {H1 : Hp} {D : Addr} {Qd : Hp → Prop} (Pv : Nat → Hp → Prop) (h0 : Pv 0 (upd H1 D (.dK []))) (hl : ∀ i H, i ≤ xs.length → Pv i H → SqL K H a xs)
    (hs : ∀ i x H, xs[i]? = some x → Pv i H → g x (wipe σ vs) H fun σ2 H2 => wipe σ2 vs = wipe σ vs ∧ tt σ2 H2 fun b H3 =>
      if b = true then tk σ2 H3 fun y H4 => tv σ2 H4 fun z H5 => ∃ kvs k, y = kV k ∧ H5 D = some (.dK kvs) ∧ kvs.length < sizeLine ∧ Pv (i + 1) (upd H5 D (.dK (putK kvs k z))) else Pv (i + 1) H3) (hd : ∀ H, Pv xs.length H → Qd H) :
    ∃ W : Nat → Nat → Hp → Prop, (∃ m, W 0 m (upd H1 D (.dK []))) ∧ ∀ i m H, W i m H →
      ((Itl K a).stop i H ∧ Qd H) ∨ ((Itl K a).go i H ∧ ∃ Nx : Hp → Prop, (∀ H', Nx H' → ∃ m', m' < m ∧ W (i + 1) m' H') ∧ ∀ x H', (Itl K a).yld i H x H' → g x (wipe σ vs) H' fun σ2 H2 => wipe σ2 vs = wipe σ vs ∧ tt σ2 H2 fun b H3 =>
        if b = true then tk σ2 H3 fun y H4 => tv σ2 H4 fun z H5 => ∃ kvs k, y = kV k ∧ H5 D = some (.dK kvs) ∧ kvs.length < sizeLine ∧ Nx (upd H5 D (.dK (putK kvs k z))) else Nx H3) := by
  refine ⟨fun i m H => m = xs.length - i ∧ i ≤ xs.length ∧ Pv i H, ⟨xs.length, by simp, Nat.zero_le _, h0⟩, ?_⟩
  rintro i m H ⟨rfl, hi, p⟩
  have q := hl i H hi p
  by_cases hlt : i < xs.length
  · refine .inr ⟨⟨xs, xs[i], q, by simp [hlt]⟩, Pv (i + 1), fun H' p' => ⟨xs.length - (i + 1), by omega, rfl, hlt, p'⟩, fun x H' y => ?_⟩
    obtain ⟨e, y⟩ := y
    subst e
    exact hs i x _ (y xs q) p
  · have e : i = xs.length := by omega
    subst e
    exact .inl ⟨⟨xs, q, Nat.le_refl _⟩, hd H p⟩
end L2
namespace Toy
open PySem PySem.Spec PyProof.Rows L2
/-- list.extend of a tuple, whatever stands beside its items -/
theorem extend_tupW (l : Addr) (items : Array Value) (n : Nat) (b : Addr) (items2 : Array Value) (n2 : Nat) (dd2 : Option Addr) (sl2 : Array (Option Value)) (hs0 : ¬(!items.isEmpty && Builtin.List.listTooLong (items.size + items2.size)) = true) (hs1 : items.size ≤ sizeLine) (hs2 : items.size + items2.size ≤ sizeLine + 1) :
    Meets (Builtin.«list.extend» ⟨[.ref l, .ref b], []⟩) (fun _ R s => s.heap.get? l = some { cls := .type "list", dict := none, data := .seq items n, slots := #[] } ∧ s.heap.get? b = some { cls := .type "tuple", dict := dd2, data := .seq items2 n2, slots := sl2 } ∧ R (.ok (.ret Value.none)) { s with heap := s.heap.update l (Obj.mapSeq fun x => x ++ items2), toks := s.toks }) :=
  .of_wp fun prog w A R s h => by
    obtain ⟨hp, g, d, tk, os⟩ := s
    obtain ⟨hl, hb, h⟩ := h
    have f1 := AutoSeq1.idx_int
    have f2 := AutoSeq1.sub_tuple_tuple
    have f3 := AutoSeq1.sub_list_list
    have f4 := AutoSeq1.sub_tuple_list
    have f5 := AutoSeq1.sub_list_tuple
    have hz' : (items ++ items2).size ≤ sizeLine + 1 := by rw [Array.size_append]; exact hs2
    wp_walk using (wpAny_updateSeq hl rfl (hz := hs1) (_hz' := hz')), AutoSeq1.wpAny_loadPart' hl, AutoSeq1.wpAny_loadPart' hb
    exact ⟨_, rfl, h⟩
def rExtendT (K : PySem.W.Frag) : V → List V → Hp → VK → Prop := fun x vs H Q => ∃ l b xs zs, x = .ref l ∧ vs = [.ref b] ∧ H l = some (.lst xs) ∧ SqT K H b zs ∧ xs.length + zs.length ≤ sizeLine ∧ Q .non (upd H l (.lst (xs ++ zs)))
theorem mt_extendT {X : Cx} : MtM X "list.extend" (rExtendT X.K) := by
  intro pins s σ H x vs v us Q I rx rv h
  obtain ⟨l, b, xs, zs, rfl, rfl, hH, hB, hz, q⟩ := h
  cases rx
  obtain ⟨u, rfl, ru⟩ := rv.one
  cases ru
  obtain ⟨z, its, n, r, hl, e⟩ := I.lstM hH
  obtain ⟨its2, r2, ht2, hz2⟩ := I.tuple hB
  obtain ⟨⟨cls2, dd2, data2, sl2⟩, ho2, hc2, n2, hd2⟩ := id ht2
  simp only at hc2 hd2
  subst hc2 hd2
  have l1 := r.length
  have l2 := r2.length
  have hsz : its.toArray.size + its2.toArray.size ≤ sizeLine := by rw [List.size_toArray, List.size_toArray]; omega
  have hlong : ¬ (!its.toArray.isEmpty && Builtin.List.listTooLong (its.toArray.size + its2.toArray.size)) = true := by
    rw [notLongL hsz, Bool.and_false]
    exact Bool.false_ne_true
  refine call_meets PySem.F.slot_list_extend ⟨_, e, rfl⟩ PySem.F.entry_list_extend (PySem.F.args_list_extend_2 _ _)
    (extend_tupW l its.toArray n b its2.toArray n2 dd2 sl2 hlong (by rw [List.size_toArray]; omega) (by omega)) ⟨e, ho2, ?_⟩
  refine ⟨.non, _, I.lset (its' := its ++ its2) hH e (by simp) (r.append r2) ?_, rfl, q⟩
  rw [List.length_append]
  omega

end Toy

set_option Elab.async false
set_option linter.all false
set_option maxRecDepth 100000
set_option maxHeartbeats 4000000
/-! Part B: things in plain Lean, how they stand in the heap; what a term is. -/
namespace Toy
open PySem L2
inductive Dd
  | non
  | bl (b : Bool)
  | int (i : Int)
  | str (s : Str)
  | tup (l : List Dd)
  | lst (l : List Dd)
mutual
/-- such a thing stands in the heap as v, in tuples and in lists of B -/
def Dd.At (B : Addr → Prop) (H : Hp) : Dd → V → Prop
  | .non, v => v = .non
  | .bl b, v => v = .bl b
  | .int i, v => v = .int i
  | .str s, v => v = .str s ∧ s.length ≤ 1000
  | .tup l, v => ∃ a xs, v = .ref a ∧ H a = some (.tup xs) ∧ Dd.Ats B H l xs
  | .lst l, v => ∃ a xs, v = .ref a ∧ B a ∧ H a = some (.lst xs) ∧ Dd.Ats B H l xs
def Dd.Ats (B : Addr → Prop) (H : Hp) : List Dd → List V → Prop
  | [], xs => xs = []
  | k :: l, xs => ∃ x ys, xs = x :: ys ∧ k.At B H x ∧ Dd.Ats B H l ys
end
/-- a heap in which the tuples, and the lists of B, stand -/
def Fr (B : Addr → Prop) (H H' : Hp) : Prop := (∀ a xs, H a = some (.tup xs) → H' a = some (.tup xs)) ∧ ∀ a xs, B a → H a = some (.lst xs) → H' a = some (.lst xs)
theorem Fr.refl (B : Addr → Prop) (H : Hp) : Fr B H H := ⟨fun _ _ h => h, fun _ _ _ h => h⟩
theorem Fr.trans {B : Addr → Prop} {H1 H2 H3 : Hp} (h : Fr B H1 H2) (k : Fr B H2 H3) : Fr B H1 H3 := ⟨fun a xs e => k.1 a xs (h.1 a xs e), fun a xs b e => k.2 a xs b (h.2 a xs b e)⟩
theorem fr_same {B : Addr → Prop} {H H' : Hp} (s : Same H H') : Fr B H H' := ⟨fun _ _ e => s _ _ e, fun _ _ _ e => s _ _ e⟩
theorem fr_list {B : Addr → Prop} {H : Hp} {p : Addr} {ys : List V} {o : HO} (h : H p = some (.lst ys)) (n : ¬ B p) : Fr B H (upd H p o) :=
  ⟨fun a xs e => by rw [upd_ne (fun z => by rw [z, h] at e; cases e)]; exact e, fun a xs b e => by rw [upd_ne (fun z => n (by rw [← z]; exact b))]; exact e⟩
theorem fr_dict {B : Addr → Prop} {H : Hp} {p : Addr} {kvs : List (Key × V)} {o : HO} (h : H p = some (.dK kvs)) : Fr B H (upd H p o) :=
  ⟨fun a xs e => by rw [upd_ne (fun z => by rw [z, h] at e; cases e)]; exact e, fun a xs b e => by rw [upd_ne (fun z => by rw [z, h] at e; cases e)]; exact e⟩
theorem fr_keep {B : Addr → Prop} {p r : Addr} {C : Nat} {H H' : Hp} (k : Keep p H H') (d : DAt H p r C) : Fr B H H' :=
  ⟨fun a xs e => k _ _ (d.ne_tup e) e, fun a xs _ e => k _ _ (d.ne_list e) e⟩
theorem sameT {H1 H2 H3 : Hp} (h : Same H1 H2) (k : Same H2 H3) : Same H1 H3 := fun a u e => k a u (h a u e)
mutual
theorem Dd.At.keep {B : Addr → Prop} {H H' : Hp} : ∀ {k : Dd} {v : V}, Fr B H H' → k.At B H v → k.At B H' v
  | .non, _, _, h => h
  | .bl _, _, _, h => h
  | .int _, _, _, h => h
  | .str _, _, _, h => h
  | .tup l, _, t, ⟨a, xs, e, h, hs⟩ => ⟨a, xs, e, t.1 _ _ h, Dd.Ats.keep t hs⟩
  | .lst l, _, t, ⟨a, xs, e, b, h, hs⟩ => ⟨a, xs, e, b, t.2 _ _ b h, Dd.Ats.keep t hs⟩
theorem Dd.Ats.keep {B : Addr → Prop} {H H' : Hp} : ∀ {l : List Dd} {xs : List V}, Fr B H H' → Dd.Ats B H l xs → Dd.Ats B H' l xs
  | [], _, _, h => h
  | k :: l, _, t, ⟨x, ys, e, h, hs⟩ => ⟨x, ys, e, Dd.At.keep t h, Dd.Ats.keep t hs⟩
end
mutual
theorem Dd.At.weak {B C : Addr → Prop} {H : Hp} (hBC : ∀ a xs, H a = some (.lst xs) → B a → C a) : ∀ {k : Dd} {v : V}, k.At B H v → k.At C H v
  | .non, _, h => h
  | .bl _, _, h => h
  | .int _, _, h => h
  | .str _, _, h => h
  | .tup l, _, ⟨a, xs, e, h, hs⟩ => ⟨a, xs, e, h, Dd.Ats.weak hBC hs⟩
  | .lst l, _, ⟨a, xs, e, b, h, hs⟩ => ⟨a, xs, e, hBC _ _ h b, h, Dd.Ats.weak hBC hs⟩
theorem Dd.Ats.weak {B C : Addr → Prop} {H : Hp} (hBC : ∀ a xs, H a = some (.lst xs) → B a → C a) : ∀ {l : List Dd} {xs : List V}, Dd.Ats B H l xs → Dd.Ats C H l xs
  | [], _, h => h
  | k :: l, _, ⟨x, ys, e, h, hs⟩ => ⟨x, ys, e, Dd.At.weak hBC h, Dd.Ats.weak hBC hs⟩
end
/-- what stands in this heap -/
def Ex (H : Hp) (a : Addr) : Prop := H a ≠ none
theorem Dd.At.here {B : Addr → Prop} {H : Hp} {k : Dd} {v : V} (h : k.At B H v) : k.At (Ex H) H v := h.weak fun a xs e _ => by unfold Ex; rw [e]; exact fun z => by cases z
theorem Dd.Ats.here {B : Addr → Prop} {H : Hp} {l : List Dd} {xs : List V} (h : Dd.Ats B H l xs) : Dd.Ats (Ex H) H l xs := h.weak fun a xs e _ => by unfold Ex; rw [e]; exact fun z => by cases z
theorem ats_len {B : Addr → Prop} {H : Hp} : ∀ {l : List Dd} {xs : List V}, Dd.Ats B H l xs → xs.length = l.length
  | [], _, h => by cases h; rfl
  | k :: l, _, ⟨x, ys, e, h, hs⟩ => by
    cases e
    show ys.length + 1 = l.length + 1
    rw [ats_len hs]
theorem ats_app {B : Addr → Prop} {H : Hp} : ∀ {l m : List Dd} {xs ys : List V}, Dd.Ats B H l xs → Dd.Ats B H m ys → Dd.Ats B H (l ++ m) (xs ++ ys)
  | [], m, xs, ys, h, k => by
    cases h
    exact k
  | t :: l, m, _, ys, ⟨x, zs, e, h, hs⟩, k => by
    cases e
    exact ⟨x, zs ++ ys, rfl, h, ats_app hs k⟩
theorem ats_one {B : Addr → Prop} {H : Hp} {k : Dd} {v : V} (h : k.At B H v) : Dd.Ats B H [k] [v] := ⟨v, [], rfl, h, rfl⟩
theorem ats_get {B : Addr → Prop} {H : Hp} : ∀ {l : List Dd} {xs : List V} {i : Nat} {x : V}, Dd.Ats B H l xs → xs[i]? = some x → ∃ k, l[i]? = some k ∧ k.At B H x
  | [], _, i, x, h, e => by cases h; simp at e
  | k :: l, _, 0, x, ⟨y, ys, e, h, hs⟩, ex => by
    cases e
    cases ex
    exact ⟨k, rfl, h⟩
  | k :: l, _, i + 1, x, ⟨y, ys, e, h, hs⟩, ex => by
    cases e
    exact ats_get (l := l) (i := i) hs ex
theorem ats_getI {B : Addr → Prop} {H : Hp} : ∀ {l : List Dd} {xs : List V} {i : Nat} {k : Dd}, Dd.Ats B H l xs → l[i]? = some k → ∃ x, xs[i]? = some x ∧ k.At B H x
  | [], _, i, x, h, e => by simp at e
  | k :: l, _, 0, x, ⟨y, ys, e, h, hs⟩, ex => by
    cases e
    cases ex
    exact ⟨y, rfl, h⟩
  | k :: l, _, i + 1, x, ⟨y, ys, e, h, hs⟩, ex => by
    cases e
    exact ats_getI (l := l) (i := i) hs ex
theorem ats_snoc {B : Addr → Prop} {H : Hp} : ∀ {l : List Dd} {k : Dd} {xs : List V}, Dd.Ats B H (l ++ [k]) xs → ∃ ys y, xs = ys ++ [y] ∧ Dd.Ats B H l ys ∧ k.At B H y
  | [], k, xs, ⟨x, ys, e, h, hs⟩ => by
    cases e
    cases (show ys = [] from hs)
    exact ⟨[], x, rfl, rfl, h⟩
  | t :: l, k, xs, ⟨x, ys, e, h, hs⟩ => by
    cases e
    obtain ⟨zs, y, e2, h2, h3⟩ := ats_snoc hs
    exact ⟨x :: zs, y, by rw [e2]; rfl, ⟨x, zs, rfl, h, h2⟩, h3⟩
theorem ats_rev {B : Addr → Prop} {H : Hp} : ∀ {l : List Dd} {xs : List V}, Dd.Ats B H l xs → Dd.Ats B H l.reverse xs.reverse
  | [], _, h => by cases h; rfl
  | k :: l, _, ⟨x, ys, e, h, hs⟩ => by
    cases e
    rw [List.reverse_cons, List.reverse_cons]
    exact ats_app (ats_rev hs) (ats_one h)
theorem tYes_if {σ : L2.St} {H : Hp} {A B : Hp → Prop} (h : A H) : tYes σ H (fun b H3 => if b = true then A H3 else B H3) := by
  show if true = true then A H else B H
  rw [if_pos rfl]
  exact h
theorem at0 (x : V) (l : List V) : atI (x :: l) 0 = some x := atI_nat (j := 0) rfl
theorem at1 (x y : V) (l : List V) : atI (x :: y :: l) 1 = some y := atI_nat (j := 1) rfl
theorem at2 (x y z : V) (l : List V) : atI (x :: y :: z :: l) 2 = some z := atI_nat (j := 2) rfl
theorem at3 (x y z u : V) (l : List V) : atI (x :: y :: z :: u :: l) 3 = some u := atI_nat (j := 3) rfl
theorem nself (v : V) : (!decide (v = v)) = false := by simp
mutual
def Dd.sz : Dd → Nat
  | .tup l => 1 + Dd.szs l
  | .lst l => 1 + Dd.szs l
  | _ => 1
def Dd.szs : List Dd → Nat
  | [] => 0
  | k :: l => k.sz + Dd.szs l
end
theorem sz_pos : ∀ k : Dd, 1 ≤ k.sz
  | .non => Nat.le_refl _
  | .bl _ => Nat.le_refl _
  | .int _ => Nat.le_refl _
  | .str _ => Nat.le_refl _
  | .tup l => Nat.le_add_right 1 _
  | .lst l => Nat.le_add_right 1 _
theorem szs_app : ∀ l m : List Dd, Dd.szs (l ++ m) = Dd.szs l + Dd.szs m
  | [], m => by simp [Dd.szs]
  | k :: l, m => by
    show k.sz + Dd.szs (l ++ m) = k.sz + Dd.szs l + Dd.szs m
    rw [szs_app l m]
    omega
theorem szs_len : ∀ l : List Dd, l.length ≤ Dd.szs l
  | [] => Nat.le_refl _
  | k :: l => by
    have h1 := sz_pos k
    have h2 := szs_len l
    show l.length + 1 ≤ k.sz + Dd.szs l
    omega
theorem szs_mem : ∀ {l : List Dd} {k : Dd}, k ∈ l → k.sz ≤ Dd.szs l
  | t :: l, k, h => by
    show k.sz ≤ t.sz + Dd.szs l
    rcases List.mem_cons.mp h with e | e
    · rw [e]; omega
    · have := szs_mem e; omega
/-! ### what a term is -/
def isName : Dd → Bool
  | .str s => decide (1 ≤ s.length) && decide (s.length ≤ 80) && s.cps.toList.all fun c => decide (33 ≤ c) && decide (c ≤ 126) && decide (c ≠ 37)
  | _ => false
def isInt : Dd → Bool
  | .int _ => true
  | _ => false
def numIn (lo hi : Int) : Dd → Bool
  | .int i => decide (lo ≤ i) && decide (i ≤ hi)
  | _ => false
def cNum : Dd → Bool := numIn (-1000000000000000) 1000000000000000
def isTup : Dd → Bool
  | .tup _ => true
  | _ => false
def isRow (n : Nat) : Dd → Bool
  | .tup l => decide (l.length = n)
  | _ => false
def areRows (n : Nat) : Dd → Bool
  | .tup l => l.all (isRow n)
  | _ => false
/-- as often as they are the first of their kind -/
def ddK : List Key → List Key → List Key
  | acc, [] => acc
  | acc, k :: ks => ddK (if (acc.any fun j => decide (j = k)) = true then acc else acc ++ [k]) ks
def distK (ks : List Key) : Bool := decide ((ddK [] ks).length = ks.length)
def keyD : Dd → Key
  | .str s => Sum.inr s
  | .int i => Sum.inl i
  | _ => Sum.inl 0
def areNames : Dd → Bool
  | .tup l => l.all isName && distK (l.map keyD)
  | _ => false
def nth (i : Nat) : Dd → Dd
  | .tup l => l.getD i .non
  | _ => .non
def tl : Dd → List Dd
  | .tup l => l
  | _ => []
def isDflt : Dd → Bool
  | .non => true
  | .tup l => decide (l.length = 2) && isName (l.getD 0 .non)
  | _ => false
def signs : List Str := ["+", "-", "*", "div", "mod", "==", "<", "<="]
def isSign : Dd → Bool
  | .str s => decide (s ∈ signs)
  | _ => false
def arg (i : Nat) (r : List Dd) : Dd := r.getD i .non
def fNum (r : List Dd) : Bool := decide (r.length = 1) && cNum (arg 0 r)
def fVar (r : List Dd) : Bool := decide (r.length = 1) && isName (arg 0 r)
def fApp (r : List Dd) : Bool := decide (r.length = 2)
def fLam (r : List Dd) : Bool := decide (r.length = 2) && isName (arg 0 r)
def fLet (r : List Dd) : Bool := decide (r.length = 2) && areRows 2 (arg 0 r) && (decide (0 < (tl (arg 0 r)).length) && areNames (.tup ((tl (arg 0 r)).map (nth 0))))
def fSeq (r : List Dd) : Bool := decide (r.length = 3) && isName (arg 0 r)
def fCon (r : List Dd) : Bool := decide (r.length = 2) && (numIn 0 1000 (arg 0 r) && isTup (arg 1 r))
def fCase (r : List Dd) : Bool := decide (r.length = 3) && areRows 3 (arg 1 r) && isDflt (arg 2 r) && (tl (arg 1 r)).all fun q => numIn 0 1000 (nth 0 q) && areNames (nth 1 q)
def fPick (r : List Dd) : Bool := decide (r.length = 3) && areRows 2 (arg 1 r) && isDflt (arg 2 r) && (((tl (arg 1 r)).map (nth 0)).all cNum && distK (((tl (arg 1 r)).map (nth 0)).map keyD))
def fPrim (r : List Dd) : Bool := decide (r.length = 3) && isSign (arg 0 r)
def fNote (r : List Dd) : Bool := decide (r.length = 2) && numIn 0 1000000000000 (arg 0 r)
def formW (w : Str) (r : List Dd) : Bool :=
  if w = "num" then fNum r else if w = "var" then fVar r else if w = "app" then fApp r else if w = "lam" then fLam r else if w = "let" then fLet r else if w = "seq" then fSeq r
  else if w = "con" then fCon r else if w = "case" then fCase r else if w = "pick" then fPick r else if w = "prim" then fPrim r else if w = "note" then fNote r else false
def formB : Dd → Bool
  | .tup (.str w :: r) => formW w r
  | _ => false
def dfltP (d : Dd) : List Dd := match d with
  | .non => []
  | d => [nth 1 d]
def lastD : Dd → Dd
  | .tup l => l.getLastD .non
  | _ => .non
def gLet (r : List Dd) : List Dd := (tl (arg 0 r)).map (nth 1) ++ [arg 1 r]
def gChoice (r : List Dd) : List Dd := arg 0 r :: ((tl (arg 1 r)).map lastD ++ dfltP (arg 2 r))
def partsW (w : Str) (r : List Dd) : List Dd :=
  if w = "app" then r else if w = "lam" then [arg 1 r] else if w = "let" then gLet r else if w = "seq" then r.drop 1
  else if w = "con" then tl (arg 1 r) else if w = "case" then gChoice r else if w = "pick" then gChoice r
  else if w = "prim" then r.drop 1 else if w = "note" then [arg 1 r] else []
def partsD : Dd → List Dd
  | .tup (.str w :: r) => partsW w r
  | _ => []
def isT : Nat → Dd → Bool
  | 0, _ => false
  | n + 1, k => formB k && (partsD k).all (isT n)
end Toy

set_option Elab.async false
set_option linter.all false
set_option maxRecDepth 100000
set_option maxHeartbeats 4000000
/-! Part C: names, numbers, rows. -/
namespace Toy
open PySem L2
open PyProof.Rows (envOfC)
theorem boot_ord : bootBuiltins "ord" = some (.builtin "ord") := by decide +kernel
theorem boot_all : bootBuiltins "all" = some (.builtin "all") := by decide +kernel
theorem boot_bool : bootBuiltins "bool" = some (.type "bool") := by decide +kernel
theorem boot_str : bootBuiltins "str" = some (.type "str") := by decide +kernel
theorem boot_tuple : bootBuiltins "tuple" = some (.type "tuple") := by decide +kernel
def Dd.tyN : Dd → String
  | .non => "NoneType"
  | .bl _ => "bool"
  | .int _ => "int"
  | .str _ => "str"
  | .tup _ => "tuple"
  | .lst _ => "list"
theorem ty_of {K : PySem.W.Frag} {B : Addr → Prop} {H : Hp} {k : Dd} {v : V} (h : k.At B H v) : TyX K H v (.type k.tyN) := by
  cases k with
  | non => cases h; exact .base .non
  | bl b => cases h; exact .base (.bl b)
  | int i => cases h; exact .base (.int i)
  | str s => cases h.1; exact .base (.str s)
  | tup l => obtain ⟨a, xs, rfl, ha, _⟩ := h; exact .base (.tup ha)
  | lst l => obtain ⟨a, xs, rfl, _, ha, _⟩ := h; exact .base (.lst ha)
def isStr : Dd → Bool
  | .str _ => true
  | _ => false
def isBool : Dd → Bool
  | .bl _ => true
  | _ => false
def isIntB : Dd → Bool
  | .int _ => true
  | .bl _ => true
  | _ => false
theorem kit_str {K : PySem.W.Frag} (k : Dd) : PySem.W.kitOne K (.type k.tyN) (.type "str") = some (isStr k) := by
  cases k with
  | non => exact kit_ty (a := "NoneType") (b := "str") (r := false) (by decide +kernel)
  | bl b => exact kit_ty (a := "bool") (b := "str") (r := false) (by decide +kernel)
  | int i => exact kit_ty (a := "int") (b := "str") (r := false) (by decide +kernel)
  | str s => exact kit_ty (a := "str") (b := "str") (r := true) (by decide +kernel)
  | tup l => exact kit_ty (a := "tuple") (b := "str") (r := false) (by decide +kernel)
  | lst l => exact kit_ty (a := "list") (b := "str") (r := false) (by decide +kernel)
theorem kit_tup {K : PySem.W.Frag} (k : Dd) : PySem.W.kitOne K (.type k.tyN) (.type "tuple") = some (isTup k) := by
  cases k with
  | non => exact kit_ty (a := "NoneType") (b := "tuple") (r := false) (by decide +kernel)
  | bl b => exact kit_ty (a := "bool") (b := "tuple") (r := false) (by decide +kernel)
  | int i => exact kit_ty (a := "int") (b := "tuple") (r := false) (by decide +kernel)
  | str s => exact kit_ty (a := "str") (b := "tuple") (r := false) (by decide +kernel)
  | tup l => exact kit_ty (a := "tuple") (b := "tuple") (r := true) (by decide +kernel)
  | lst l => exact kit_ty (a := "list") (b := "tuple") (r := false) (by decide +kernel)
theorem kit_int {K : PySem.W.Frag} (k : Dd) : PySem.W.kitOne K (.type k.tyN) (.type "int") = some (isIntB k) := by
  cases k with
  | non => exact kit_ty (a := "NoneType") (b := "int") (r := false) (by decide +kernel)
  | bl b => exact kit_ty (a := "bool") (b := "int") (r := true) (by decide +kernel)
  | int i => exact kit_ty (a := "int") (b := "int") (r := true) (by decide +kernel)
  | str s => exact kit_ty (a := "str") (b := "int") (r := false) (by decide +kernel)
  | tup l => exact kit_ty (a := "tuple") (b := "int") (r := false) (by decide +kernel)
  | lst l => exact kit_ty (a := "list") (b := "int") (r := false) (by decide +kernel)
theorem kit_bool {K : PySem.W.Frag} (k : Dd) : PySem.W.kitOne K (.type k.tyN) (.type "bool") = some (isBool k) := by
  cases k with
  | non => exact kit_ty (a := "NoneType") (b := "bool") (r := false) (by decide +kernel)
  | bl b => exact kit_ty (a := "bool") (b := "bool") (r := true) (by decide +kernel)
  | int i => exact kit_ty (a := "int") (b := "bool") (r := false) (by decide +kernel)
  | str s => exact kit_ty (a := "str") (b := "bool") (r := false) (by decide +kernel)
  | tup l => exact kit_ty (a := "tuple") (b := "bool") (r := false) (by decide +kernel)
  | lst l => exact kit_ty (a := "list") (b := "bool") (r := false) (by decide +kernel)
theorem inV_strs (z : Str) : ∀ l : List Str, inV (.str z) (l.map V.str) = decide (z ∈ l)
  | [] => rfl
  | a :: l => by
    show ((a == z) || inV (.str z) (l.map V.str)) = _
    rw [inV_strs z l]
    by_cases e : a = z
    · subst e
      simp
    · rw [beq_eq_false_iff_ne.mpr e, Bool.false_or]
      exact decide_eq_decide.mpr ⟨fun h => List.mem_cons_of_mem _ h, fun h => (List.mem_cons.mp h).resolve_left fun z => e z.symm⟩
theorem chainV {σ : L2.St} {H : Hp} {Q : VK} {a n c : Int} {ta tb tc : TE} (ha : ∀ R : VK, R (.int a) H → ta σ H R) (hb : ∀ R : VK, R (.int n) H → tb σ H R) (hc : ∀ R : VK, R (.int c) H → tc σ H R) (h : Q (.bl (decide (a ≤ n) && decide (n ≤ c))) H) :
    tChain (rI0 fun i j => V.bl (decide (i ≤ j))) (rI0 fun i j => V.bl (decide (i ≤ j))) ta tb tc σ H Q := by
  refine ha _ (hb _ ⟨_, _, rfl, rfl, _, rfl, ?_⟩)
  cases e : decide (a ≤ n) with
  | true =>
    rw [e, Bool.true_and] at h
    refine iteT (hc _ ⟨_, _, rfl, rfl, h⟩)
  | false =>
    rw [e, Bool.false_and] at h
    exact iteF h
def codeOk (c : Nat) : Bool := decide (33 ≤ c) && decide (c ≤ 126) && decide (c ≠ 37)
theorem code_read {σ : L2.St} {H : Hp} {Q : VK} {i : Nat} (c : Nat) (hs : σ[i]? = some (some (.int (c : Int)))) (h : Q (.bl (codeOk c)) H) :
    tAndV (tChain (rI0 fun i j => V.bl (decide (i ≤ j))) (rI0 fun i j => V.bl (decide (i ≤ j))) (tC (V.int 33)) (tVar i) (tC (V.int 126))) (tOp rNe (tVar i) (tC (V.int 37))) σ H Q := by
  refine chainV (a := 33) (n := (c : Int)) (c := 126) (fun R hR => hR) (fun R hR => ⟨_, hs, hR⟩) (fun R hR => hR) ?_
  refine ⟨_, rfl, ?_⟩
  have e1 : codeOk c = ((decide ((33 : Int) ≤ (c : Int)) && decide ((c : Int) ≤ 126)) && !decide (V.int (c : Int) = V.int 37)) := by
    unfold codeOk
    congr 1
    · congr 1
      · exact decide_eq_decide.mpr (by omega)
      · exact decide_eq_decide.mpr (by omega)
    · by_cases z : c = 37
      · subst z
        decide
      · rw [decide_eq_true z, decide_eq_false (fun y => z (by have := V.int.inj y; omega))]
        rfl
  rw [e1] at h
  cases hb : (decide ((33 : Int) ≤ (c : Int)) && decide ((c : Int) ≤ 126)) with
  | true =>
    rw [hb, Bool.true_and] at h
    refine iteT ?_
    exact ⟨_, hs, rfl, h⟩
  | false =>
    rw [hb, Bool.false_and] at h
    exact iteF h
structure TxtF (K : PySem.W.Frag) (mg : Str → Option Value) (aS : Addr) : Prop where
  zisinstance : mg "isinstance" = none
  zint : mg "int" = none
  zstr : mg "str" = none
  zbool : mg "bool" = none
  ztuple : mg "tuple" = none
  zlen : mg "len" = none
  zord : mg "ord" = none
  zall : mg "all" = none
  gLONGEST_NAME : ∃ u, mg "LONGEST_NAME" = some u ∧ RelV (.int 80) u
  gLARGEST_NUMBER : ∃ u, mg "LARGEST_NUMBER" = some u ∧ RelV (.int 1000000000000000) u
  gLARGEST_TAG : ∃ u, mg "LARGEST_TAG" = some u ∧ RelV (.int 1000) u
  gLARGEST_NOTE : ∃ u, mg "LARGEST_NOTE" = some u ∧ RelV (.int 1000000000000) u
  gFIRST_CODE : ∃ u, mg "FIRST_CODE" = some u ∧ RelV (.int 33) u
  gLAST_CODE : ∃ u, mg "LAST_CODE" = some u ∧ RelV (.int 126) u
  gPERCENT_CODE : ∃ u, mg "PERCENT_CODE" = some u ∧ RelV (.int 37) u
  gSIGNS : ∃ u, mg "SIGNS" = some u ∧ RelV (.ref aS) u
  kSIGNS : ∀ H : Hp, SqT K H aS (signs.map V.str)
section
variable {P : Program} {w : World} {K : PySem.W.Frag} {mg : Str → Option Value} {base : Heap} {aS : Addr}
/-- a def that tells something of a thing -/
def spB (g : Dd → Bool) (P : Dd → Prop) : Sp := fun vs H Q _ => ∃ (B : Addr → Prop) (v : V) (k : Dd), vs = [v] ∧ k.At B H v ∧ P k ∧ ∀ H', Same H H' → Q (.bl (g k)) H'
abbrev sInteger : Stmt := topS 19
theorem scInteger : FnScope ["thing"] ["thing"] (defScope sInteger) := ⟨rfl, rfl, rfl, by decide +kernel, rfl, by decide +kernel, by decide +kernel⟩
theorem c_integer {f : Addr} {fd : FuncData} (T : TxtF K mg aS) (F : Fun K "is_integer" "is_integer" sInteger f fd) (b : Binds K fd ["thing"] []) (hm : mg "is_integer" = some (.ref f)) : C8.Cal P w K mg base 1 "is_integer" (spB isInt fun _ => True) [] := by
  refine cal_of F hm b scInteger (fun vs H Q E h => ?_) (fun cdv A outer s H vs Q E hr h => ?_)
  · obtain ⟨B, v, k, rfl, _⟩ := h
    rfl
  obtain ⟨B, v, k, rfl, hat, _, q⟩ := h
  refine ⟨_, (pss_one (ps_ret (pe_and (pe_callB call_isi rfl T.zisinstance boot_isinstance (pa_cons (pv 0) (pa_cons (pe_bltn (v := .ty "int") rfl T.zint boot_int rfl) pa_nil))) (pe_one (pe_not (pe_callB call_isi rfl T.zisinstance boot_isinstance (pa_cons (pv 0) (pa_cons (pe_bltn (v := .ty "bool") rfl T.zbool boot_bool rfl) pa_nil)))))))), ?_⟩
  refine ⟨_, rfl, v, .ty "int", _, _, _, rfl, .ty "int", ty_of hat, kit_int k, ?_⟩
  cases k with
  | int i => exact ⟨_, rfl, _, rfl, v, .ty "bool", _, _, _, rfl, .ty "bool", ty_of hat, kit_bool _, _, rfl, q H fun _ _ e => e⟩
  | bl b => exact ⟨_, rfl, _, rfl, v, .ty "bool", _, _, _, rfl, .ty "bool", ty_of hat, kit_bool _, _, rfl, q H fun _ _ e => e⟩
  | non => exact ⟨_, rfl, q H fun _ _ e => e⟩
  | str s => exact ⟨_, rfl, q H fun _ _ e => e⟩
  | tup l => exact ⟨_, rfl, q H fun _ _ e => e⟩
  | lst l => exact ⟨_, rfl, q H fun _ _ e => e⟩
abbrev sName : Stmt := topS 17
theorem scName : FnScope ["thing", "codes", "letter", "code"] ["thing"] (defScope sName) := ⟨rfl, rfl, rfl, by decide +kernel, rfl, by decide +kernel, by decide +kernel⟩
theorem c_name {f : Addr} {fd : FuncData} (T : TxtF K mg aS) (F : Fun K "is_name" "is_name" sName f fd) (b : Binds K fd ["thing"] []) (hm : mg "is_name" = some (.ref f)) : C8.Cal P w K mg base 1 "is_name" (spB isName fun _ => True) [] := by
  refine cal_of F hm b scName (fun vs H Q E h => ?_) (fun cdv A outer s H vs Q E hr h => ?_)
  · obtain ⟨B, v, k, rfl, _⟩ := h
    rfl
  obtain ⟨B, v, k, rfl, hat, _, q⟩ := h
  refine ⟨_, (pss_cons (ps_if (PW.pt (pw_or (pt_not (pt_val (pe_callB call_isi rfl T.zisinstance boot_isinstance (pa_cons (pv 0) (pa_cons (pe_bltn (v := .ty "str") rfl T.zstr boot_str rfl) pa_nil))))) (pw_or1 (pt_not (pt_chain op_le op_le pe_int (pe_callB call_len_str rfl T.zlen PySem.boot_len (pa_cons (pv 0) pa_nil)) (C8.pe_gc rfl T.gLONGEST_NAME))))))
      (pss_one (ps_ret pe_bl))
      pss_nil)
    (pss_cons (ps_setLc (i := 1) (own := [("letter", 2)]) (g := gName 2) (tt := tYes) rfl scName.nd rfl rfl (sw_true rfl rfl rfl (by decide +kernel)) (pi_str (pv 0)) (blkOk_by (own := [("letter", 2)]) (N := ["thing", "codes", "letter", "code"]) (sc := defScope sName) (by decide +kernel)) (fun _ _ _ _ _ => (pg_name (i := 2) scName.nd rfl (Or.inl rfl))) (fun _ _ _ _ _ => pts_nil) (fun _ _ _ _ _ => (pe_callB call_ord rfl T.zord boot_ord (pa_cons (pv 2) pa_nil))))
    (pss_one (ps_ret (pe_callB (cr_all rfl) rfl T.zall boot_all (pa_cons (pe_lc (own := [("code", 3)]) (g := gName 3) (tt := tYes) rfl scName.nd (pi_list (pv 1)) (blkOk_by (own := [("code", 3)]) (N := ["thing", "codes", "letter", "code"]) (sc := defScope sName) (by decide +kernel)) (fun _ _ _ _ _ => (pg_name (i := 3) scName.nd rfl (Or.inl rfl))) (fun _ _ _ _ _ => pts_nil) (fun _ _ _ _ _ => (pe_and (pe_chain op_le op_le (C8.pe_gc rfl T.gFIRST_CODE) (pv 3) (C8.pe_gc rfl T.gLAST_CODE)) (pe_one (pe_cmpR op_ne (pv 3) (C8.pe_gc rfl T.gPERCENT_CODE) (nomark _)))))) pa_nil)))))), ?_⟩
  refine ⟨_, rfl, v, .ty "str", _, _, _, rfl, .ty "str", ty_of hat, kit_str k, ?_⟩
  have same : Same H H := fun _ _ e => e
  cases k with
  | str s =>
    obtain ⟨hv, hsl⟩ := (show v = .str s ∧ s.length ≤ 1000 from hat)
    cases hv
    refine ⟨_, rfl, ?_⟩
    refine iteF ?_
    have hz : s.length ≤ sizeLine := by have := szl (n := 1000) (by decide); omega
    refine chainV (a := 1) (n := (s.length : Int)) (c := 80) (fun R hR => hR) (fun R hR => ⟨_, rfl, s, rfl, hz, hR⟩) (fun R hR => hR) ?_
    refine ⟨_, rfl, ?_⟩
    have eN : isName (.str s) = ((decide (1 ≤ (s.length : Int)) && decide ((s.length : Int) ≤ 80)) && s.cps.toList.all codeOk) := by
      show (decide (1 ≤ s.length) && decide (s.length ≤ 80) && s.cps.toList.all codeOk) = _
      congr 2
      · exact decide_eq_decide.mpr (by omega)
      · exact decide_eq_decide.mpr (by omega)
    cases hb : (decide (1 ≤ (s.length : Int)) && decide ((s.length : Int) ≤ 80)) with
    | false =>
      rw [hb, Bool.false_and] at eN
      refine iteT ?_
      have q' := q H same
      rw [eN] at q'
      exact q'
    | true =>
      rw [hb, Bool.true_and] at eN
      refine iteF ?_
      refine ⟨_, rfl, s, rfl, fun D hD => ?_⟩
      refine lc_str (fun i G => Same H G ∧ G D = some (.lst ((s.cps.toList.take i).map fun (c : Nat) => V.int (c : Int)))) ⟨same_new hD _, upd_same⟩ ?_ ?_
      · rintro i c G hc ⟨h1, h2⟩
        refine ⟨rfl, ?_⟩
        refine tYes_if ?_
        have hil : i < s.cps.toList.length := by rw [Array.length_toList]; exact (Array.getElem?_eq_some_iff.mp hc).1
        refine ⟨_, rfl, _, rfl, rfl, _, h2, ?_, same_upd hD h1 _, ?_⟩
        · rw [List.length_map, List.length_take]
          have := szl (n := 1000) (by decide)
          have hl2 : s.cps.toList.length = s.length := Array.length_toList
          omega
        · rw [upd_same, List.take_add_one, Array.getElem?_toList, hc, List.map_append]
          rfl
      rintro G ⟨h1, h2⟩
      rw [← Array.length_toList, List.take_length] at h2
      refine ⟨_, rfl, D, rfl, ⟨_, SqL.of h2⟩, fun D2 hD2 => ?_⟩
      refine lc_list (K := K) (a := D) (xs := s.cps.toList.map fun (c : Nat) => V.int (c : Int)) (fun i G2 => Same G G2 ∧ G2 D2 = some (.lst (((s.cps.toList.take i).map codeOk).map V.bl))) ⟨same_new hD2 _, upd_same⟩ (fun i G2 hi ⟨h3, h4⟩ => SqL.of (h3 _ _ h2)) ?_ ?_
      · rintro i x G2 hx ⟨h3, h4⟩
        rw [List.getElem?_map] at hx
        obtain ⟨c, hc, rfl⟩ := Option.map_eq_some_iff.mp hx
        have hil : i < s.cps.toList.length := (List.getElem?_eq_some_iff.mp hc).1
        refine ⟨rfl, ?_⟩
        refine tYes_if ?_
        refine code_read c rfl ?_
        refine ⟨_, h4, ?_, same_upd hD2 h3 _, ?_⟩
        · rw [List.length_map, List.length_map, List.length_take]
          have := szl (n := 1000) (by decide)
          have hl2 : s.cps.toList.length = s.length := Array.length_toList
          omega
        · rw [upd_same, List.take_add_one, hc, List.map_append, List.map_append]
          rfl
      rintro G2 ⟨h3, h4⟩
      rw [List.length_map, List.take_length] at h4
      refine ⟨D2, _, rfl, SqL.of h4, ?_⟩
      have q' := q G2 (sameT h1 h3)
      rw [eN] at q'
      rw [List.all_map]
      exact q'
  | int i => exact ⟨_, rfl, iteT (iteT (q H same))⟩
  | bl b => exact ⟨_, rfl, iteT (iteT (q H same))⟩
  | non => exact ⟨_, rfl, iteT (iteT (q H same))⟩
  | tup l => exact ⟨_, rfl, iteT (iteT (q H same))⟩
  | lst l => exact ⟨_, rfl, iteT (iteT (q H same))⟩
abbrev sNumber : Stmt := topS 24
theorem scNumber : FnScope ["thing", "least", "greatest"] ["thing", "least", "greatest"] (defScope sNumber) := ⟨rfl, rfl, rfl, by decide +kernel, rfl, by decide +kernel, by decide +kernel⟩
def spNumber : Sp := fun vs H Q _ => ∃ (B : Addr → Prop) (v : V) (k : Dd) (lo hi : Int), vs = [v, .int lo, .int hi] ∧ k.At B H v ∧ ∀ H', Same H H' → Q (.bl (numIn lo hi k)) H'
theorem c_number {f : Addr} {fd : FuncData} (cis_integer : C8.Cal P w K mg base 1 "is_integer" (spB isInt fun _ => True) []) (F : Fun K "_is_number" "_is_number" sNumber f fd) (b : Binds K fd ["thing", "least", "greatest"] []) (hm : mg "_is_number" = some (.ref f)) : C8.Cal P w K mg base 2 "_is_number" spNumber [] := by
  refine cal_of F hm b scNumber (fun vs H Q E h => ?_) (fun cdv A outer s H vs Q E hr h => ?_)
  · obtain ⟨B, v, k, lo, hi, rfl, _⟩ := h
    rfl
  obtain ⟨B, v, k, lo, hi, rfl, hat, q⟩ := h
  refine ⟨_, (pss_one (ps_ret (pe_and (C8.pe_c cis_integer hr (by decide) rfl (pa_cons (pv 0) pa_nil)) (pe_one (pe_chain op_le op_le (pv 1) (pv 0) (pv 2)))))), ?_⟩
  refine ⟨_, rfl, B, v, k, rfl, hat, True.intro, fun H1 s1 => ⟨_, rfl, ?_⟩⟩
  cases k with
  | int i =>
    cases (show v = .int i from hat)
    refine iteT ?_
    exact chainV (a := lo) (n := i) (c := hi) (fun R hR => ⟨_, rfl, hR⟩) (fun R hR => ⟨_, rfl, hR⟩) (fun R hR => ⟨_, rfl, hR⟩) (q H1 s1)
  | bl b => exact q H1 s1
  | non => exact q H1 s1
  | str s => exact q H1 s1
  | tup l => exact q H1 s1
  | lst l => exact q H1 s1
abbrev sCore : Stmt := topS 20
theorem scCore : FnScope ["thing"] ["thing"] (defScope sCore) := ⟨rfl, rfl, rfl, by decide +kernel, rfl, by decide +kernel, by decide +kernel⟩
theorem c_core {f : Addr} {fd : FuncData} (T : TxtF K mg aS) (c_is_number : C8.Cal P w K mg base 2 "_is_number" spNumber []) (F : Fun K "is_core_number" "is_core_number" sCore f fd) (b : Binds K fd ["thing"] []) (hm : mg "is_core_number" = some (.ref f)) : C8.Cal P w K mg base 3 "is_core_number" (spB cNum fun _ => True) [] := by
  refine cal_of F hm b scCore (fun vs H Q E h => ?_) (fun cdv A outer s H vs Q E hr h => ?_)
  · obtain ⟨B, v, k, rfl, _⟩ := h
    rfl
  obtain ⟨B, v, k, rfl, hat, _, q⟩ := h
  refine ⟨_, (pss_one (ps_ret (C8.pe_c c_is_number hr (by decide) rfl (pa_cons (pv 0) (pa_cons (pe_un un_neg (C8.pe_gc rfl T.gLARGEST_NUMBER)) (pa_cons (C8.pe_gc rfl T.gLARGEST_NUMBER) pa_nil)))))), ?_⟩
  exact ⟨_, rfl, _, rfl, B, v, k, _, _, rfl, hat, fun H1 s1 => q H1 s1⟩
abbrev sRow : Stmt := topS 21
theorem scRow : FnScope ["thing", "many"] ["thing", "many"] (defScope sRow) := ⟨rfl, rfl, rfl, by decide +kernel, rfl, by decide +kernel, by decide +kernel⟩
def spRow (g : Nat → Dd → Bool) : Sp := fun vs H Q _ => ∃ (B : Addr → Prop) (v : V) (k : Dd) (n : Nat), vs = [v, .int (n : Int)] ∧ k.At B H v ∧ k.sz ≤ 1000000 ∧ ∀ H', Same H H' → Q (.bl (g n k)) H'
theorem c_row {f : Addr} {fd : FuncData} (T : TxtF K mg aS) (F : Fun K "is_row" "is_row" sRow f fd) (b : Binds K fd ["thing", "many"] []) (hm : mg "is_row" = some (.ref f)) : C8.Cal P w K mg base 1 "is_row" (spRow isRow) [] := by
  refine cal_of F hm b scRow (fun vs H Q E h => ?_) (fun cdv A outer s H vs Q E hr h => ?_)
  · obtain ⟨B, v, k, n, rfl, _⟩ := h
    rfl
  obtain ⟨B, v, k, n, rfl, hat, _, q⟩ := h
  refine ⟨_, (pss_one (ps_ret (pe_and (pe_callB call_isi rfl T.zisinstance boot_isinstance (pa_cons (pv 0) (pa_cons (pe_bltn (v := .ty "tuple") rfl T.ztuple boot_tuple rfl) pa_nil))) (pe_one (pe_cmpR op_eq (pe_callB call_len_seq rfl T.zlen PySem.boot_len (pa_cons (pv 0) pa_nil)) (pv 1) (nomark _)))))), ?_⟩
  refine ⟨_, rfl, v, .ty "tuple", _, _, _, rfl, .ty "tuple", ty_of hat, kit_tup k, ?_⟩
  have same : Same H H := fun _ _ e => e
  cases k with
  | tup l =>
    obtain ⟨a, xs, rfl, ha, hs⟩ := id hat
    refine ⟨_, rfl, ?_⟩
    refine iteT ?_
    refine ⟨_, rfl, a, xs, rfl, .inr (SqT.of ha), _, rfl, rfl, ?_⟩
    have q' := q H same
    rw [show isRow n (.tup l) = decide (V.int (xs.length : Int) = V.int (n : Int)) by
      show decide (l.length = n) = _
      rw [ats_len hs]
      exact decide_eq_decide.mpr ⟨fun e => by rw [e], fun e => by have := V.int.inj e; omega⟩] at q'
    exact q'
  | int i => exact ⟨_, rfl, q H same⟩
  | bl b => exact ⟨_, rfl, q H same⟩
  | non => exact ⟨_, rfl, q H same⟩
  | str s => exact ⟨_, rfl, q H same⟩
  | lst l => exact ⟨_, rfl, q H same⟩
abbrev sRows : Stmt := topS 22
theorem scRows : FnScope ["thing", "many", "row"] ["thing", "many"] (defScope sRows) := ⟨rfl, rfl, rfl, by decide +kernel, rfl, by decide +kernel, by decide +kernel⟩
theorem c_rows {f : Addr} {fd : FuncData} (T : TxtF K mg aS) (cis_row : C8.Cal P w K mg base 1 "is_row" (spRow isRow) []) (F : Fun K "are_rows" "are_rows" sRows f fd) (b : Binds K fd ["thing", "many"] []) (hm : mg "are_rows" = some (.ref f)) : C8.Cal P w K mg base 2 "are_rows" (spRow areRows) [] := by
  refine cal_of F hm b scRows (fun vs H Q E h => ?_) (fun cdv A outer s H vs Q E hr h => ?_)
  · obtain ⟨B, v, k, n, rfl, _⟩ := h
    rfl
  obtain ⟨B, v, k, n, rfl, hat, hsz, q⟩ := h
  refine ⟨_, (pss_one (ps_ret (pe_and (pe_callB call_isi rfl T.zisinstance boot_isinstance (pa_cons (pv 0) (pa_cons (pe_bltn (v := .ty "tuple") rfl T.ztuple boot_tuple rfl) pa_nil))) (pe_one (pe_callB (cr_all rfl) rfl T.zall boot_all (pa_cons (pe_lc (own := [("row", 2)]) (g := gName 2) (tt := tYes) (te := (tCall (spRow isRow) [] C8.E0 (tCons (tVar 2) (tCons (tVar 1) tNil)))) rfl scRows.nd (pi_tup (pv 0)) (blkOk_by (own := [("row", 2)]) (N := ["thing", "many", "row"]) (sc := defScope sRows) (by decide +kernel)) (fun _ _ _ _ _ => (pg_name (i := 2) scRows.nd rfl (Or.inl rfl))) (fun _ _ _ _ _ => pts_nil) (fun _ _ _ _ _ => (C8.pe_c cis_row hr (by decide) rfl (pa_cons (pv 2) (pa_cons (pv 1) pa_nil))))) pa_nil)))))), ?_⟩
  refine ⟨_, rfl, v, .ty "tuple", _, _, _, rfl, .ty "tuple", ty_of hat, kit_tup k, ?_⟩
  have same : Same H H := fun _ _ e => e
  cases k with
  | tup l =>
    obtain ⟨a, xs, rfl, ha, hs⟩ := id hat
    refine ⟨_, rfl, ?_⟩
    refine iteT ?_
    refine ⟨_, rfl, a, rfl, ⟨_, SqT.of ha⟩, fun D hD => ?_⟩
    have hxl := ats_len hs
    have hll := szs_len l
    have hsz : 1 + Dd.szs l ≤ 1000000 := hsz
    refine lc_tup (K := K) (a := a) (xs := xs) (fun i G => Same H G ∧ G D = some (.lst (((l.take i).map (isRow n)).map V.bl))) ⟨same_new hD _, upd_same⟩ (fun i G hi ⟨h1, h2⟩ => SqT.of (h1 _ _ ha)) ?_ ?_
    · rintro i x G hx ⟨h1, h2⟩
      obtain ⟨k, hk, hkat⟩ := ats_get hs hx
      have hil : i < l.length := (List.getElem?_eq_some_iff.mp hk).1
      refine ⟨rfl, ?_⟩
      refine tYes_if ?_
      have := szs_mem (List.mem_of_getElem? hk)
      refine ⟨_, rfl, _, rfl, B, x, k, n, rfl, hkat.keep (fr_same h1), by omega, fun G2 s2 => ?_⟩
      refine ⟨_, s2 _ _ h2, ?_, same_upd hD (sameT h1 s2) _, ?_⟩
      · rw [List.length_map, List.length_map, List.length_take]
        have : (1000000 : Nat) < sizeLine := by decide
        omega
      · rw [upd_same, List.take_add_one, hk, List.map_append, List.map_append]
        rfl
    rintro G ⟨h1, h2⟩
    rw [hxl, List.take_length] at h2
    refine ⟨D, _, rfl, SqL.of h2, ?_⟩
    rw [List.all_map]
    exact q G h1
  | int i => exact ⟨_, rfl, q H same⟩
  | bl b => exact ⟨_, rfl, q H same⟩
  | non => exact ⟨_, rfl, q H same⟩
  | str s => exact ⟨_, rfl, q H same⟩
  | lst l => exact ⟨_, rfl, q H same⟩
abbrev sSign : Stmt := topS 23
theorem scSign : FnScope ["thing"] ["thing"] (defScope sSign) := ⟨rfl, rfl, rfl, by decide +kernel, rfl, by decide +kernel, by decide +kernel⟩
theorem c_sign {f : Addr} {fd : FuncData} (T : TxtF K mg aS) (F : Fun K "is_sign" "is_sign" sSign f fd) (b : Binds K fd ["thing"] []) (hm : mg "is_sign" = some (.ref f)) : C8.Cal P w K mg base 1 "is_sign" (spB isSign fun _ => True) [] := by
  refine cal_of F hm b scSign (fun vs H Q E h => ?_) (fun cdv A outer s H vs Q E hr h => ?_)
  · obtain ⟨B, v, k, rfl, _⟩ := h
    rfl
  obtain ⟨B, v, k, rfl, hat, _, q⟩ := h
  refine ⟨_, (pss_one (ps_ret (pe_and (pe_callB call_isi rfl T.zisinstance boot_isinstance (pa_cons (pv 0) (pa_cons (pe_bltn (v := .ty "str") rfl T.zstr boot_str rfl) pa_nil))) (pe_one (pe_cmpR op_in_seq (pv 0) (C8.pe_gc rfl T.gSIGNS) rfl))))), ?_⟩
  refine ⟨_, rfl, v, .ty "str", _, _, _, rfl, .ty "str", ty_of hat, kit_str k, ?_⟩
  have same : Same H H := fun _ _ e => e
  cases k with
  | str s =>
    obtain ⟨hv, hsl⟩ := (show v = .str s ∧ s.length ≤ 1000 from hat)
    cases hv
    refine ⟨_, rfl, ?_⟩
    refine iteT ?_
    refine ⟨_, rfl, aS, _, rfl, .inr (T.kSIGNS H), rfl, by decide +kernel, ?_⟩
    have q' := q H same
    rw [show isSign (.str s) = inV (.str s) (signs.map V.str) by rw [inV_strs]; rfl] at q'
    exact q'
  | int i => exact ⟨_, rfl, q H same⟩
  | bl b => exact ⟨_, rfl, q H same⟩
  | non => exact ⟨_, rfl, q H same⟩
  | tup l => exact ⟨_, rfl, q H same⟩
  | lst l => exact ⟨_, rfl, q H same⟩
end
end Toy

set_option Elab.async false
set_option linter.all false
set_option maxRecDepth 100000
set_option maxHeartbeats 4000000
/-! Part D: rows of different names; the forms of terms. -/
namespace Toy
open PySem L2
open PyProof.Rows (envOfC)
theorem ddK_snoc : ∀ (acc ks : List Key) (k : Key), ddK acc (ks ++ [k]) = if ((ddK acc ks).any fun j => decide (j = k)) = true then ddK acc ks else ddK acc ks ++ [k]
  | acc, [], k => rfl
  | acc, j :: ks, k => ddK_snoc _ ks k
theorem putK_keys (kvs : List (Key × V)) (k : Key) (v : V) : (putK kvs k v).map (·.1) = if ((kvs.map (·.1)).any fun j => decide (j = k)) = true then kvs.map (·.1) else kvs.map (·.1) ++ [k] := by
  unfold putK
  rw [List.any_map]
  by_cases h : (kvs.any fun kv => decide (kv.1 = k)) = true
  · rw [if_pos h, if_pos (by exact h), List.map_map]
    refine List.map_congr_left fun p hp => ?_
    show (if p.1 = k then (p.1, v) else p).1 = p.1
    split <;> rfl
  · rw [if_neg h, if_neg (by exact h), List.map_append]
    rfl
theorem ddK_len : ∀ (acc ks : List Key), (ddK acc ks).length ≤ acc.length + ks.length
  | acc, [] => Nat.le_refl _
  | acc, k :: ks => by
    have h := ddK_len (if (acc.any fun j => decide (j = k)) = true then acc else acc ++ [k]) ks
    have e : (if (acc.any fun j => decide (j = k)) = true then acc else acc ++ [k]).length ≤ acc.length + 1 := by
      split
      · omega
      · rw [List.length_append]; exact Nat.le_refl _
    show (ddK _ ks).length ≤ acc.length + (ks.length + 1)
    omega
/-- a text or a whole number -/
def isKey : Dd → Bool
  | .str _ => true
  | .int _ => true
  | _ => false
theorem key_at {B : Addr → Prop} {H : Hp} {k : Dd} {v : V} (h : k.At B H v) (hk : isKey k = true) : v = kV (keyD k) := by
  cases k with
  | str s => exact h.1
  | int i => exact h
  | bl b => cases hk
  | non => cases hk
  | tup l => cases hk
  | lst l => cases hk
theorem int_dec (a b : Nat) : decide (V.int (a : Int) = V.int (b : Int)) = decide (a = b) := decide_eq_decide.mpr ⟨fun e => by have := V.int.inj e; omega, fun e => by rw [e]⟩
theorem name_key {k : Dd} (h : isName k = true) : isKey k = true := by
  cases k with
  | str s => rfl
  | int i => rfl
  | bl b => cases h
  | non => cases h
  | tup l => cases h
  | lst l => cases h
theorem num_key {k : Dd} {lo hi : Int} (h : numIn lo hi k = true) : isKey k = true := by
  cases k with
  | str s => rfl
  | int i => rfl
  | bl b => cases h
  | non => cases h
  | tup l => cases h
  | lst l => cases h
theorem ne_non {B : Addr → Prop} {H : Hp} {k : Dd} {v : V} (h : k.At B H v) (hk : k ≠ .non) : v ≠ .non := by
  cases k with
  | non => exact absurd rfl hk
  | bl b => cases h; exact fun z => by cases z
  | int i => cases h; exact fun z => by cases z
  | str s => cases h.1; exact fun z => by cases z
  | tup l => obtain ⟨a, xs, rfl, _⟩ := h; exact fun z => by cases z
  | lst l => obtain ⟨a, xs, rfl, _⟩ := h; exact fun z => by cases z
theorem dflt_eq {k : Dd} (hk : k ≠ .non) : isDflt k = (isRow 2 k && isName (nth 0 k)) := by
  cases k with
  | non => exact absurd rfl hk
  | bl b => rfl
  | int i => rfl
  | str s => rfl
  | tup l => rfl
  | lst l => rfl
/-- the i-th thing behind the first -/
theorem arg_at {B : Addr → Prop} {H : Hp} {v0 : V} {r : List Dd} {ys : List V} (h : Dd.Ats B H r ys) {i : Nat} (hi : i < r.length) : ∃ x, atI (v0 :: ys) ((i + 1 : Nat) : Int) = some x ∧ (arg i r).At B H x := by
  obtain ⟨x, hx, hxa⟩ := ats_getI h (List.getElem?_eq_getElem hi)
  refine ⟨x, atI_nat (xs := v0 :: ys) (j := i + 1) (by rw [List.getElem?_cons_succ]; exact hx), ?_⟩
  unfold arg
  rw [List.getD_eq_getElem?_getD, List.getElem?_eq_getElem hi]
  exact hxa
theorem nth_at {B : Addr → Prop} {H : Hp} {l : List Dd} {ys : List V} (h : Dd.Ats B H l ys) {i : Nat} (hi : i < l.length) : ∃ x, atI ys (i : Int) = some x ∧ (nth i (.tup l)).At B H x := by
  obtain ⟨x, hx, hxa⟩ := ats_getI h (List.getElem?_eq_getElem hi)
  refine ⟨x, atI_nat hx, ?_⟩
  show (l.getD i .non).At B H x
  rw [List.getD_eq_getElem?_getD, List.getElem?_eq_getElem hi]
  exact hxa
section
variable {P : Program} {w : World} {K : PySem.W.Frag} {mg : Str → Option Value} {base : Heap} {aS : Addr}
abbrev sDiff : Stmt := topS 25
theorem scDiff : FnScope ["things", "thing"] ["things"] (defScope sDiff) := ⟨rfl, rfl, rfl, by decide +kernel, rfl, by decide +kernel, by decide +kernel⟩
def spDiffT : Sp := fun vs H Q _ => ∃ (B : Addr → Prop) (a : Addr) (l : List Dd) (xs : List V), vs = [.ref a] ∧ H a = some (.tup xs) ∧ Dd.Ats B H l xs ∧ (∀ k ∈ l, isKey k = true) ∧ l.length ≤ 1000000 ∧ ∀ H', Same H H' → Q (.bl (distK (l.map keyD))) H'
def spDiffL : Sp := fun vs H Q _ => ∃ (B : Addr → Prop) (a : Addr) (l : List Dd) (xs : List V), vs = [.ref a] ∧ H a = some (.lst xs) ∧ Dd.Ats B H l xs ∧ (∀ k ∈ l, isKey k = true) ∧ l.length ≤ 1000000 ∧ ∀ H', Same H H' → Q (.bl (distK (l.map keyD))) H'
theorem c_diffT {f : Addr} {fd : FuncData} (T : TxtF K mg aS) (F : Fun K "_are_different" "_are_different" sDiff f fd) (b : Binds K fd ["things"] []) (hm : mg "_are_different" = some (.ref f)) : C8.Cal P w K mg base 1 "_are_different" spDiffT [] := by
  refine cal_of F hm b scDiff (fun vs H Q E h => ?_) (fun cdv A outer s H vs Q E hr h => ?_)
  · obtain ⟨B, a, l, xs, rfl, _⟩ := h
    rfl
  obtain ⟨B, a, l, xs, rfl, ha, hs, hk, hl, q⟩ := h
  have hu := hu_of hr
  refine ⟨_, (pss_one (ps_ret (pe_cmpR op_eq (pe_callB call_lenD rfl T.zlen PySem.boot_len (pa_cons (pe_dc (own := [("thing", 1)]) (g := gName 1) (tt := tYes) rfl scDiff.nd (pi_tup (pv 0)) (blkOk_by (own := [("thing", 1)]) (N := ["things", "thing"]) (sc := defScope sDiff) (by decide +kernel)) (fun _ _ _ _ _ => (pg_name (i := 1) scDiff.nd rfl (Or.inl rfl))) (fun _ _ _ _ _ => pts_nil) (fun _ _ _ _ _ => (pv 1)) (fun _ _ _ _ _ => pe_bl)) pa_nil)) (pe_callB call_len_seq rfl T.zlen PySem.boot_len (pa_cons (pv 0) pa_nil)) (nomark _)))), ?_⟩
  refine ⟨_, rfl, a, rfl, ⟨_, SqT.of ha⟩, fun D hD => ?_⟩
  have hxl := ats_len hs
  refine dc_tup (K := K) (a := a) (xs := xs) (fun i G => Same H G ∧ ∃ kvs, G D = some (.dK kvs) ∧ kvs.map (·.1) = ddK [] ((l.take i).map keyD)) ⟨same_new hD _, [], upd_same, rfl⟩ (fun i G hi ⟨h1, _⟩ => SqT.of (h1 _ _ ha)) ?_ ?_
  · rintro i x G hx ⟨h1, kvs, h2, h3⟩
    obtain ⟨k, hki, hkat⟩ := ats_get hs hx
    have hil : i < l.length := (List.getElem?_eq_some_iff.mp hki).1
    cases key_at hkat (hk k (List.mem_of_getElem? hki))
    have hkl : kvs.length ≤ i := by
      have := congrArg List.length h3
      have h4 : _ ≤ 0 + _ := ddK_len [] ((l.take i).map keyD)
      have h5 : ((l.take i).map keyD).length ≤ i := by rw [List.length_map, List.length_take]; omega
      rw [List.length_map] at this
      omega
    refine ⟨rfl, ?_⟩
    refine tYes_if ?_
    refine ⟨_, rfl, kvs, keyD k, rfl, h2, ?_, same_upd hD h1 _, _, upd_same, ?_⟩
    · have : (1000000 : Nat) < sizeLine := by decide
      omega
    · rw [putK_keys, h3, List.take_add_one, hki, List.map_append]
      exact (ddK_snoc _ _ _).symm
  rintro G ⟨h1, kvs, h2, h3⟩
  rw [hxl, List.take_length] at h3
  refine ⟨D, kvs, rfl, h2, _, rfl, a, xs, rfl, .inr (SqT.of (h1 _ _ ha)), rfl, ?_⟩
  have q' := q G h1
  rw [show distK (l.map keyD) = decide (V.int (kvs.length : Int) = V.int (xs.length : Int)) by
    have := congrArg List.length h3
    rw [List.length_map] at this
    rw [int_dec, this, hxl]
    unfold distK
    rw [List.length_map]] at q'
  exact q'
theorem c_diffL {f : Addr} {fd : FuncData} (T : TxtF K mg aS) (F : Fun K "_are_different" "_are_different" sDiff f fd) (b : Binds K fd ["things"] []) (hm : mg "_are_different" = some (.ref f)) : C8.Cal P w K mg base 1 "_are_different" spDiffL [] := by
  refine cal_of F hm b scDiff (fun vs H Q E h => ?_) (fun cdv A outer s H vs Q E hr h => ?_)
  · obtain ⟨B, a, l, xs, rfl, _⟩ := h
    rfl
  obtain ⟨B, a, l, xs, rfl, ha, hs, hk, hl, q⟩ := h
  have hu := hu_of hr
  refine ⟨_, (pss_one (ps_ret (pe_cmpR op_eq (pe_callB call_lenD rfl T.zlen PySem.boot_len (pa_cons (pe_dc (own := [("thing", 1)]) (g := gName 1) (tt := tYes) rfl scDiff.nd (pi_list (pv 0)) (blkOk_by (own := [("thing", 1)]) (N := ["things", "thing"]) (sc := defScope sDiff) (by decide +kernel)) (fun _ _ _ _ _ => (pg_name (i := 1) scDiff.nd rfl (Or.inl rfl))) (fun _ _ _ _ _ => pts_nil) (fun _ _ _ _ _ => (pv 1)) (fun _ _ _ _ _ => pe_bl)) pa_nil)) (pe_callB call_len_seq rfl T.zlen PySem.boot_len (pa_cons (pv 0) pa_nil)) (nomark _)))), ?_⟩
  refine ⟨_, rfl, a, rfl, ⟨_, SqL.of ha⟩, fun D hD => ?_⟩
  have hxl := ats_len hs
  refine dc_list (K := K) (a := a) (xs := xs) (fun i G => Same H G ∧ ∃ kvs, G D = some (.dK kvs) ∧ kvs.map (·.1) = ddK [] ((l.take i).map keyD)) ⟨same_new hD _, [], upd_same, rfl⟩ (fun i G hi ⟨h1, _⟩ => SqL.of (h1 _ _ ha)) ?_ ?_
  · rintro i x G hx ⟨h1, kvs, h2, h3⟩
    obtain ⟨k, hki, hkat⟩ := ats_get hs hx
    have hil : i < l.length := (List.getElem?_eq_some_iff.mp hki).1
    cases key_at hkat (hk k (List.mem_of_getElem? hki))
    have hkl : kvs.length ≤ i := by
      have := congrArg List.length h3
      have h4 : _ ≤ 0 + _ := ddK_len [] ((l.take i).map keyD)
      have h5 : ((l.take i).map keyD).length ≤ i := by rw [List.length_map, List.length_take]; omega
      rw [List.length_map] at this
      omega
    refine ⟨rfl, ?_⟩
    refine tYes_if ?_
    refine ⟨_, rfl, kvs, keyD k, rfl, h2, ?_, same_upd hD h1 _, _, upd_same, ?_⟩
    · have : (1000000 : Nat) < sizeLine := by decide
      omega
    · rw [putK_keys, h3, List.take_add_one, hki, List.map_append]
      exact (ddK_snoc _ _ _).symm
  rintro G ⟨h1, kvs, h2, h3⟩
  rw [hxl, List.take_length] at h3
  refine ⟨D, kvs, rfl, h2, _, rfl, a, xs, rfl, .inl (SqL.of (h1 _ _ ha)), rfl, ?_⟩
  have q' := q G h1
  rw [show distK (l.map keyD) = decide (V.int (kvs.length : Int) = V.int (xs.length : Int)) by
    have := congrArg List.length h3
    rw [List.length_map] at this
    rw [int_dec, this, hxl]
    unfold distK
    rw [List.length_map]] at q'
  exact q'
abbrev sNames : Stmt := topS 18
theorem scNames : FnScope ["things", "thing"] ["things"] (defScope sNames) := ⟨rfl, rfl, rfl, by decide +kernel, rfl, by decide +kernel, by decide +kernel⟩
theorem c_names {f : Addr} {fd : FuncData} (T : TxtF K mg aS) (cis_name : C8.Cal P w K mg base 1 "is_name" (spB isName fun _ => True) []) (c_are_different : C8.Cal P w K mg base 1 "_are_different" spDiffT []) (F : Fun K "are_names" "are_names" sNames f fd) (b : Binds K fd ["things"] []) (hm : mg "are_names" = some (.ref f)) : C8.Cal P w K mg base 2 "are_names" (spB areNames fun k => k.sz ≤ 1000000) [] := by
  refine cal_of F hm b scNames (fun vs H Q E h => ?_) (fun cdv A outer s H vs Q E hr h => ?_)
  · obtain ⟨B, v, k, rfl, _⟩ := h
    rfl
  obtain ⟨B, v, k, rfl, hat, hsz, q⟩ := h
  refine ⟨_, (pss_cons (ps_if (PW.pt (pw_or (pt_not (pt_val (pe_callB call_isi rfl T.zisinstance boot_isinstance (pa_cons (pv 0) (pa_cons (pe_bltn (v := .ty "tuple") rfl T.ztuple boot_tuple rfl) pa_nil))))) (pw_or1 (pt_not (pt_val (pe_callB (cr_all rfl) rfl T.zall boot_all (pa_cons (pe_lc (own := [("thing", 1)]) (g := gName 1) (tt := tYes) rfl scNames.nd (pi_tup (pv 0)) (blkOk_by (own := [("thing", 1)]) (N := ["things", "thing"]) (sc := defScope sNames) (by decide +kernel)) (fun _ _ _ _ _ => (pg_name (i := 1) scNames.nd rfl (Or.inl rfl))) (fun _ _ _ _ _ => pts_nil) (fun _ _ _ _ _ => (C8.pe_c cis_name hr (by decide) rfl (pa_cons (pv 1) pa_nil)))) pa_nil)))))))
      (pss_one (ps_ret pe_bl))
      pss_nil)
    (pss_one (ps_ret (C8.pe_c c_are_different hr (by decide) rfl (pa_cons (pv 0) pa_nil))))), ?_⟩
  refine ⟨_, rfl, v, .ty "tuple", _, _, _, rfl, .ty "tuple", ty_of hat, kit_tup k, ?_⟩
  have same : Same H H := fun _ _ e => e
  cases k with
  | tup l =>
    obtain ⟨a, xs, rfl, ha, hs⟩ := id hat
    refine ⟨_, rfl, ?_⟩
    refine iteF ?_
    refine ⟨_, rfl, a, rfl, ⟨_, SqT.of ha⟩, fun D hD => ?_⟩
    have hxl := ats_len hs
    have hll := szs_len l
    have hsz : 1 + Dd.szs l ≤ 1000000 := hsz
    refine lc_tup (K := K) (a := a) (xs := xs) (fun i G => Same H G ∧ G D = some (.lst (((l.take i).map isName).map V.bl))) ⟨same_new hD _, upd_same⟩ (fun i G hi ⟨h1, h2⟩ => SqT.of (h1 _ _ ha)) ?_ ?_
    · rintro i x G hx ⟨h1, h2⟩
      obtain ⟨k, hk, hkat⟩ := ats_get hs hx
      have hil : i < l.length := (List.getElem?_eq_some_iff.mp hk).1
      refine ⟨rfl, ?_⟩
      refine tYes_if ?_
      refine ⟨_, rfl, B, x, k, rfl, hkat.keep (fr_same h1), True.intro, fun G2 s2 => ?_⟩
      refine ⟨_, s2 _ _ h2, ?_, same_upd hD (sameT h1 s2) _, ?_⟩
      · rw [List.length_map, List.length_map, List.length_take]
        have : (1000000 : Nat) < sizeLine := by decide
        omega
      · rw [upd_same, List.take_add_one, hk, List.map_append, List.map_append]
        rfl
    rintro G ⟨h1, h2⟩
    rw [hxl, List.take_length] at h2
    refine ⟨D, _, rfl, SqL.of h2, ?_⟩
    rw [List.all_map]
    refine ⟨_, rfl, ?_⟩
    cases hn : l.all isName with
    | true =>
      rw [show (l.all (id ∘ isName)) = true from hn]
      refine iteF ?_
      refine ⟨_, rfl, B, a, l, xs, rfl, h1 _ _ ha, hs.keep (fr_same h1), fun k hk => name_key (List.all_eq_true.mp hn k hk), by omega, fun G2 s2 => ?_⟩
      have q' := q G2 (sameT h1 s2)
      rw [show areNames (.tup l) = distK (l.map keyD) by show (l.all isName && _) = _; rw [hn, Bool.true_and]] at q'
      exact q'
    | false =>
      rw [show (l.all (id ∘ isName)) = false from hn]
      refine iteT ?_
      have q' := q G h1
      rw [show areNames (.tup l) = false by show (l.all isName && _) = _; rw [hn, Bool.false_and]] at q'
      exact q'
  | int i => exact ⟨_, rfl, iteT (iteT (q H same))⟩
  | bl b => exact ⟨_, rfl, iteT (iteT (q H same))⟩
  | non => exact ⟨_, rfl, iteT (iteT (q H same))⟩
  | str s => exact ⟨_, rfl, iteT (iteT (q H same))⟩
  | lst l => exact ⟨_, rfl, iteT (iteT (q H same))⟩
abbrev sDflt : Stmt := topS 33
theorem scDflt : FnScope ["thing"] ["thing"] (defScope sDflt) := ⟨rfl, rfl, rfl, by decide +kernel, rfl, by decide +kernel, by decide +kernel⟩
theorem c_dflt {f : Addr} {fd : FuncData} (T : TxtF K mg aS) (cis_name : C8.Cal P w K mg base 1 "is_name" (spB isName fun _ => True) []) (cis_row : C8.Cal P w K mg base 1 "is_row" (spRow isRow) []) (F : Fun K "_is_default" "_is_default" sDflt f fd) (b : Binds K fd ["thing"] []) (hm : mg "_is_default" = some (.ref f)) : C8.Cal P w K mg base 2 "_is_default" (spB isDflt fun k => k.sz ≤ 1000000) [] := by
  refine cal_of F hm b scDflt (fun vs H Q E h => ?_) (fun cdv A outer s H vs Q E hr h => ?_)
  · obtain ⟨B, v, k, rfl, _⟩ := h
    rfl
  obtain ⟨B, v, k, rfl, hat, hsz, q⟩ := h
  refine ⟨_, (pss_one (ps_ret (pe_or (pe_cmpR op_isN (pv 0) pe_non (nomark _)) (pe_one (pe_and (C8.pe_c cis_row hr (by decide) rfl (pa_cons (pv 0) (pa_cons pe_int pa_nil))) (pe_one (C8.pe_c cis_name hr (by decide) rfl (pa_cons (pe_ix ix_tup (pv 0) pe_int (fun _ _ => rfl)) pa_nil)))))))), ?_⟩
  have same : Same H H := fun _ _ e => e
  refine ⟨_, rfl, rfl, _, rfl, ?_⟩
  by_cases hk : k = .non
  · subst hk
    cases (show v = .non from hat)
    rw [decide_eq_true rfl]
    exact iteT (q H same)
  rw [decide_eq_false (ne_non hat hk)]
  refine iteF ?_
  refine ⟨_, rfl, B, v, k, 2, rfl, hat, hsz, fun H1 s1 => ⟨_, rfl, ?_⟩⟩
  have hd := dflt_eq hk
  cases hr2 : isRow 2 k with
  | false =>
    refine iteF ?_
    have q' := q H1 s1
    rw [hd, hr2, Bool.false_and] at q'
    exact q'
  | true =>
    refine iteT ?_
    cases k with
    | tup l =>
      obtain ⟨a, xs, rfl, ha, hs⟩ := id hat
      have hll : l.length = 2 := of_decide_eq_true hr2
      obtain ⟨x, hx0, hxa⟩ := nth_at hs (i := 0) (by omega)
      refine ⟨_, rfl, a, _, 0, _, rfl, rfl, SqT.of (s1 _ _ ha), hx0, B, x, _, rfl, hxa.keep (fr_same s1), True.intro, fun H2 s2 => ?_⟩
      have q' := q H2 (sameT s1 s2)
      rw [hd, hr2, Bool.true_and] at q'
      exact q'
    | int i => cases hr2
    | bl b => cases hr2
    | non => cases hr2
    | str s => cases hr2
    | lst l => cases hr2
end
end Toy

set_option Elab.async false
set_option linter.all false
set_option maxRecDepth 100000
set_option maxHeartbeats 4000000
/-! Part E: the forms of terms. -/
namespace Toy
open PySem L2
open PyProof.Rows (envOfC)
theorem head_at {B : Addr → Prop} {H : Hp} {w : Str} {r : List Dd} {v : V} (h : (Dd.tup (.str w :: r)).At B H v) : ∃ a ys, v = .ref a ∧ H a = some (.tup (.str w :: ys)) ∧ Dd.Ats B H r ys ∧ ys.length = r.length ∧ w.length ≤ 1000 := by
  obtain ⟨a, xs, rfl, ha, x, ys, rfl, ⟨hx, hw⟩, hs⟩ := h
  cases hx
  exact ⟨a, ys, rfl, ha, hs, ats_len hs, hw⟩
theorem len_is {w : Str} {ys : List V} {r : List Dd} (h : ys.length = r.length) (n : Nat) : decide (V.int (((V.str w :: ys).length : Nat) : Int) = V.int ((n + 1 : Nat) : Int)) = decide (r.length = n) := by
  rw [int_dec, List.length_cons, h]
  exact decide_eq_decide.mpr (by omega)
theorem len_ne {w : Str} {ys : List V} {r : List Dd} (h : ys.length = r.length) (n : Nat) : (!decide (V.int (((V.str w :: ys).length : Nat) : Int) = V.int ((n + 1 : Nat) : Int))) = !decide (r.length = n) := by rw [len_is h]
theorem arg_sz {w : Str} {r : List Dd} (i : Nat) : (arg i r).sz ≤ (Dd.tup (.str w :: r)).sz := by
  unfold arg
  rw [List.getD_eq_getElem?_getD]
  show _ ≤ 1 + (1 + Dd.szs r)
  cases h : r[i]? with
  | none => show 1 ≤ _; omega
  | some k =>
    have := szs_mem (List.mem_of_getElem? h)
    show k.sz ≤ _
    omega
theorem rows_of {n : Nat} {k : Dd} (h : areRows n k = true) : ∃ l, k = .tup l ∧ ∀ q ∈ l, ∃ m, q = .tup m ∧ m.length = n := by
  cases k with
  | tup l =>
    refine ⟨l, rfl, fun q hq => ?_⟩
    have hr := List.all_eq_true.mp (show l.all (isRow n) = true from h) q hq
    cases q with
    | tup m => exact ⟨m, rfl, of_decide_eq_true hr⟩
    | int i => cases hr
    | bl b => cases hr
    | non => cases hr
    | str s => cases hr
    | lst l => cases hr
  | int i => cases h
  | bl b => cases h
  | non => cases h
  | str s => cases h
  | lst l => cases h
theorem pair_at {B : Addr → Prop} {H : Hp} {m : List Dd} {v : V} (h : (Dd.tup m).At B H v) (hl : m.length = 2) : ∃ t x y, v = .ref t ∧ H t = some (.tup [x, y]) ∧ (nth 0 (.tup m)).At B H x ∧ (nth 1 (.tup m)).At B H y := by
  match m, hl with
  | [a, b], _ =>
    obtain ⟨t, xs, rfl, ht, x, zs, rfl, hx, y, us, rfl, hy, hz⟩ := h
    cases hz
    exact ⟨t, x, y, rfl, ht, hx, hy⟩
theorem three_at {B : Addr → Prop} {H : Hp} {m : List Dd} {v : V} (h : (Dd.tup m).At B H v) (hl : m.length = 3) : ∃ t x y z, v = .ref t ∧ H t = some (.tup [x, y, z]) ∧ (nth 0 (.tup m)).At B H x ∧ (nth 1 (.tup m)).At B H y ∧ (nth 2 (.tup m)).At B H z := by
  match m, hl with
  | [a, b, c], _ =>
    obtain ⟨t, xs, rfl, ht, x, zs, rfl, hx, y, us, rfl, hy, z, vs, rfl, hz, he⟩ := h
    cases he
    exact ⟨t, x, y, z, rfl, ht, hx, hy, hz⟩
theorem nth_sz (i : Nat) (k : Dd) : (nth i k).sz ≤ k.sz := by
  cases k with
  | tup l =>
    show (l.getD i .non).sz ≤ 1 + Dd.szs l
    rw [List.getD_eq_getElem?_getD]
    cases h : l[i]? with
    | none => show 1 ≤ _; omega
    | some q =>
      have := szs_mem (List.mem_of_getElem? h)
      show q.sz ≤ _
      omega
  | int i => exact sz_pos _
  | bl b => exact sz_pos _
  | non => exact sz_pos _
  | str s => exact sz_pos _
  | lst l => exact sz_pos _
theorem nths_sz (i : Nat) : ∀ l : List Dd, Dd.szs (l.map (nth i)) ≤ Dd.szs l
  | [] => Nat.le_refl _
  | k :: l => by
    have h1 := nth_sz i k
    have h2 := nths_sz i l
    show (nth i k).sz + Dd.szs (l.map (nth i)) ≤ k.sz + Dd.szs l
    omega
theorem big : (1000000 : Nat) < sizeLine := by decide
section
variable {P : Program} {w : World} {K : PySem.W.Frag} {mg : Str → Option Value} {base : Heap} {aS : Addr}
/-- a def that tells whether a row has one form -/
def spForm (g : List Dd → Bool) : Sp := fun vs H Q _ => ∃ (B : Addr → Prop) (v : V) (w : Str) (r : List Dd), vs = [v] ∧ (Dd.tup (.str w :: r)).At B H v ∧ (Dd.tup (.str w :: r)).sz ≤ 1000000 ∧ ∀ H', Same H H' → Q (.bl (g r)) H'
abbrev sFNum : Stmt := topS 26
theorem scFNum : FnScope ["term"] ["term"] (defScope sFNum) := ⟨rfl, rfl, rfl, by decide +kernel, rfl, by decide +kernel, by decide +kernel⟩
theorem c_FNum {f : Addr} {fd : FuncData} (T : TxtF K mg aS) (cis_core_number : C8.Cal P w K mg base 3 "is_core_number" (spB cNum fun _ => True) []) (F : Fun K "_is_num" "_is_num" sFNum f fd) (b : Binds K fd ["term"] []) (hm : mg "_is_num" = some (.ref f)) : C8.Cal P w K mg base 4 "_is_num" (spForm fNum) [] := by
  refine cal_of F hm b scFNum (fun vs H Q E h => ?_) (fun cdv A outer s H vs Q E hr h => ?_)
  · obtain ⟨B, v, w', r, rfl, _⟩ := h
    rfl
  obtain ⟨B, v, w', r, rfl, hat, hsz, q⟩ := h
  refine ⟨_, (pss_one (ps_ret (pe_and (pe_cmpR op_eq (pe_callB call_len_seq rfl T.zlen PySem.boot_len (pa_cons (pv 0) pa_nil)) pe_int (nomark _)) (pe_one (C8.pe_c cis_core_number hr (by decide) rfl (pa_cons (pe_ix ix_tup (pv 0) pe_int (fun _ _ => rfl)) pa_nil)))))), ?_⟩
  obtain ⟨a, ys, rfl, ha, hs, hyl, hw⟩ := head_at hat
  have same : Same H H := fun _ _ e => e
  refine ⟨_, rfl, a, _, rfl, .inr (SqT.of ha), rfl, _, rfl, ?_⟩
  rw [show decide (V.int (((V.str w' :: ys).length : Nat) : Int) = V.int 2) = decide (r.length = 1) from len_is hyl 1]
  cases hl : decide (r.length = 1) with
  | false =>
    refine iteF ?_
    have q' := q H same
    rw [show fNum r = false by unfold fNum; rw [hl]; rfl] at q'
    exact q'
  | true =>
    refine iteT ?_
    have hl' := of_decide_eq_true hl
    obtain ⟨x, hx, hxa⟩ := arg_at (v0 := .str w') hs (i := 0) (by omega)
    refine ⟨_, rfl, a, _, 1, _, rfl, rfl, SqT.of ha, hx, B, x, _, rfl, hxa, True.intro, fun H1 s1 => ?_⟩
    have q' := q H1 s1
    rw [show fNum r = _ by unfold fNum; rw [hl, Bool.true_and]] at q'
    exact q'
abbrev sFVar : Stmt := topS 27
theorem scFVar : FnScope ["term"] ["term"] (defScope sFVar) := ⟨rfl, rfl, rfl, by decide +kernel, rfl, by decide +kernel, by decide +kernel⟩
theorem c_FVar {f : Addr} {fd : FuncData} (T : TxtF K mg aS) (cis_name : C8.Cal P w K mg base 1 "is_name" (spB isName fun _ => True) []) (F : Fun K "_is_var" "_is_var" sFVar f fd) (b : Binds K fd ["term"] []) (hm : mg "_is_var" = some (.ref f)) : C8.Cal P w K mg base 4 "_is_var" (spForm fVar) [] := by
  refine cal_of F hm b scFVar (fun vs H Q E h => ?_) (fun cdv A outer s H vs Q E hr h => ?_)
  · obtain ⟨B, v, w', r, rfl, _⟩ := h
    rfl
  obtain ⟨B, v, w', r, rfl, hat, hsz, q⟩ := h
  refine ⟨_, (pss_one (ps_ret (pe_and (pe_cmpR op_eq (pe_callB call_len_seq rfl T.zlen PySem.boot_len (pa_cons (pv 0) pa_nil)) pe_int (nomark _)) (pe_one (C8.pe_c cis_name hr (by decide) rfl (pa_cons (pe_ix ix_tup (pv 0) pe_int (fun _ _ => rfl)) pa_nil)))))), ?_⟩
  obtain ⟨a, ys, rfl, ha, hs, hyl, hw⟩ := head_at hat
  have same : Same H H := fun _ _ e => e
  refine ⟨_, rfl, a, _, rfl, .inr (SqT.of ha), rfl, _, rfl, ?_⟩
  rw [show decide (V.int (((V.str w' :: ys).length : Nat) : Int) = V.int 2) = decide (r.length = 1) from len_is hyl 1]
  cases hl : decide (r.length = 1) with
  | false =>
    refine iteF ?_
    have q' := q H same
    rw [show fVar r = false by unfold fVar; rw [hl]; rfl] at q'
    exact q'
  | true =>
    refine iteT ?_
    have hl' := of_decide_eq_true hl
    obtain ⟨x, hx, hxa⟩ := arg_at (v0 := .str w') hs (i := 0) (by omega)
    refine ⟨_, rfl, a, _, 1, _, rfl, rfl, SqT.of ha, hx, B, x, _, rfl, hxa, True.intro, fun H1 s1 => ?_⟩
    have q' := q H1 s1
    rw [show fVar r = _ by unfold fVar; rw [hl, Bool.true_and]] at q'
    exact q'
abbrev sFLam : Stmt := topS 29
theorem scFLam : FnScope ["term"] ["term"] (defScope sFLam) := ⟨rfl, rfl, rfl, by decide +kernel, rfl, by decide +kernel, by decide +kernel⟩
theorem c_FLam {f : Addr} {fd : FuncData} (T : TxtF K mg aS) (cis_name : C8.Cal P w K mg base 1 "is_name" (spB isName fun _ => True) []) (F : Fun K "_is_lam" "_is_lam" sFLam f fd) (b : Binds K fd ["term"] []) (hm : mg "_is_lam" = some (.ref f)) : C8.Cal P w K mg base 4 "_is_lam" (spForm fLam) [] := by
  refine cal_of F hm b scFLam (fun vs H Q E h => ?_) (fun cdv A outer s H vs Q E hr h => ?_)
  · obtain ⟨B, v, w', r, rfl, _⟩ := h
    rfl
  obtain ⟨B, v, w', r, rfl, hat, hsz, q⟩ := h
  refine ⟨_, (pss_one (ps_ret (pe_and (pe_cmpR op_eq (pe_callB call_len_seq rfl T.zlen PySem.boot_len (pa_cons (pv 0) pa_nil)) pe_int (nomark _)) (pe_one (C8.pe_c cis_name hr (by decide) rfl (pa_cons (pe_ix ix_tup (pv 0) pe_int (fun _ _ => rfl)) pa_nil)))))), ?_⟩
  obtain ⟨a, ys, rfl, ha, hs, hyl, hw⟩ := head_at hat
  have same : Same H H := fun _ _ e => e
  refine ⟨_, rfl, a, _, rfl, .inr (SqT.of ha), rfl, _, rfl, ?_⟩
  rw [show decide (V.int (((V.str w' :: ys).length : Nat) : Int) = V.int 3) = decide (r.length = 2) from len_is hyl 2]
  cases hl : decide (r.length = 2) with
  | false =>
    refine iteF ?_
    have q' := q H same
    rw [show fLam r = false by unfold fLam; rw [hl]; rfl] at q'
    exact q'
  | true =>
    refine iteT ?_
    have hl' := of_decide_eq_true hl
    obtain ⟨x, hx, hxa⟩ := arg_at (v0 := .str w') hs (i := 0) (by omega)
    refine ⟨_, rfl, a, _, 1, _, rfl, rfl, SqT.of ha, hx, B, x, _, rfl, hxa, True.intro, fun H1 s1 => ?_⟩
    have q' := q H1 s1
    rw [show fLam r = _ by unfold fLam; rw [hl, Bool.true_and]] at q'
    exact q'
abbrev sFSeq : Stmt := topS 31
theorem scFSeq : FnScope ["term"] ["term"] (defScope sFSeq) := ⟨rfl, rfl, rfl, by decide +kernel, rfl, by decide +kernel, by decide +kernel⟩
theorem c_FSeq {f : Addr} {fd : FuncData} (T : TxtF K mg aS) (cis_name : C8.Cal P w K mg base 1 "is_name" (spB isName fun _ => True) []) (F : Fun K "_is_seq" "_is_seq" sFSeq f fd) (b : Binds K fd ["term"] []) (hm : mg "_is_seq" = some (.ref f)) : C8.Cal P w K mg base 4 "_is_seq" (spForm fSeq) [] := by
  refine cal_of F hm b scFSeq (fun vs H Q E h => ?_) (fun cdv A outer s H vs Q E hr h => ?_)
  · obtain ⟨B, v, w', r, rfl, _⟩ := h
    rfl
  obtain ⟨B, v, w', r, rfl, hat, hsz, q⟩ := h
  refine ⟨_, (pss_one (ps_ret (pe_and (pe_cmpR op_eq (pe_callB call_len_seq rfl T.zlen PySem.boot_len (pa_cons (pv 0) pa_nil)) pe_int (nomark _)) (pe_one (C8.pe_c cis_name hr (by decide) rfl (pa_cons (pe_ix ix_tup (pv 0) pe_int (fun _ _ => rfl)) pa_nil)))))), ?_⟩
  obtain ⟨a, ys, rfl, ha, hs, hyl, hw⟩ := head_at hat
  have same : Same H H := fun _ _ e => e
  refine ⟨_, rfl, a, _, rfl, .inr (SqT.of ha), rfl, _, rfl, ?_⟩
  rw [show decide (V.int (((V.str w' :: ys).length : Nat) : Int) = V.int 4) = decide (r.length = 3) from len_is hyl 3]
  cases hl : decide (r.length = 3) with
  | false =>
    refine iteF ?_
    have q' := q H same
    rw [show fSeq r = false by unfold fSeq; rw [hl]; rfl] at q'
    exact q'
  | true =>
    refine iteT ?_
    have hl' := of_decide_eq_true hl
    obtain ⟨x, hx, hxa⟩ := arg_at (v0 := .str w') hs (i := 0) (by omega)
    refine ⟨_, rfl, a, _, 1, _, rfl, rfl, SqT.of ha, hx, B, x, _, rfl, hxa, True.intro, fun H1 s1 => ?_⟩
    have q' := q H1 s1
    rw [show fSeq r = _ by unfold fSeq; rw [hl, Bool.true_and]] at q'
    exact q'
abbrev sFPrim : Stmt := topS 36
theorem scFPrim : FnScope ["term"] ["term"] (defScope sFPrim) := ⟨rfl, rfl, rfl, by decide +kernel, rfl, by decide +kernel, by decide +kernel⟩
theorem c_FPrim {f : Addr} {fd : FuncData} (T : TxtF K mg aS) (cis_sign : C8.Cal P w K mg base 1 "is_sign" (spB isSign fun _ => True) []) (F : Fun K "_is_prim" "_is_prim" sFPrim f fd) (b : Binds K fd ["term"] []) (hm : mg "_is_prim" = some (.ref f)) : C8.Cal P w K mg base 4 "_is_prim" (spForm fPrim) [] := by
  refine cal_of F hm b scFPrim (fun vs H Q E h => ?_) (fun cdv A outer s H vs Q E hr h => ?_)
  · obtain ⟨B, v, w', r, rfl, _⟩ := h
    rfl
  obtain ⟨B, v, w', r, rfl, hat, hsz, q⟩ := h
  refine ⟨_, (pss_one (ps_ret (pe_and (pe_cmpR op_eq (pe_callB call_len_seq rfl T.zlen PySem.boot_len (pa_cons (pv 0) pa_nil)) pe_int (nomark _)) (pe_one (C8.pe_c cis_sign hr (by decide) rfl (pa_cons (pe_ix ix_tup (pv 0) pe_int (fun _ _ => rfl)) pa_nil)))))), ?_⟩
  obtain ⟨a, ys, rfl, ha, hs, hyl, hw⟩ := head_at hat
  have same : Same H H := fun _ _ e => e
  refine ⟨_, rfl, a, _, rfl, .inr (SqT.of ha), rfl, _, rfl, ?_⟩
  rw [show decide (V.int (((V.str w' :: ys).length : Nat) : Int) = V.int 4) = decide (r.length = 3) from len_is hyl 3]
  cases hl : decide (r.length = 3) with
  | false =>
    refine iteF ?_
    have q' := q H same
    rw [show fPrim r = false by unfold fPrim; rw [hl]; rfl] at q'
    exact q'
  | true =>
    refine iteT ?_
    have hl' := of_decide_eq_true hl
    obtain ⟨x, hx, hxa⟩ := arg_at (v0 := .str w') hs (i := 0) (by omega)
    refine ⟨_, rfl, a, _, 1, _, rfl, rfl, SqT.of ha, hx, B, x, _, rfl, hxa, True.intro, fun H1 s1 => ?_⟩
    have q' := q H1 s1
    rw [show fPrim r = _ by unfold fPrim; rw [hl, Bool.true_and]] at q'
    exact q'
abbrev sFNote : Stmt := topS 37
theorem scFNote : FnScope ["term"] ["term"] (defScope sFNote) := ⟨rfl, rfl, rfl, by decide +kernel, rfl, by decide +kernel, by decide +kernel⟩
theorem c_FNote {f : Addr} {fd : FuncData} (T : TxtF K mg aS) (c_is_number : C8.Cal P w K mg base 2 "_is_number" spNumber []) (F : Fun K "_is_note" "_is_note" sFNote f fd) (b : Binds K fd ["term"] []) (hm : mg "_is_note" = some (.ref f)) : C8.Cal P w K mg base 4 "_is_note" (spForm fNote) [] := by
  refine cal_of F hm b scFNote (fun vs H Q E h => ?_) (fun cdv A outer s H vs Q E hr h => ?_)
  · obtain ⟨B, v, w', r, rfl, _⟩ := h
    rfl
  obtain ⟨B, v, w', r, rfl, hat, hsz, q⟩ := h
  refine ⟨_, (pss_one (ps_ret (pe_and (pe_cmpR op_eq (pe_callB call_len_seq rfl T.zlen PySem.boot_len (pa_cons (pv 0) pa_nil)) pe_int (nomark _)) (pe_one (C8.pe_c c_is_number hr (by decide) rfl (pa_cons (pe_ix ix_tup (pv 0) pe_int (fun _ _ => rfl)) (pa_cons pe_int (pa_cons (C8.pe_gc rfl T.gLARGEST_NOTE) pa_nil)))))))), ?_⟩
  obtain ⟨a, ys, rfl, ha, hs, hyl, hw⟩ := head_at hat
  have same : Same H H := fun _ _ e => e
  refine ⟨_, rfl, a, _, rfl, .inr (SqT.of ha), rfl, _, rfl, ?_⟩
  rw [show decide (V.int (((V.str w' :: ys).length : Nat) : Int) = V.int 3) = decide (r.length = 2) from len_is hyl 2]
  cases hl : decide (r.length = 2) with
  | false =>
    refine iteF ?_
    have q' := q H same
    rw [show fNote r = false by unfold fNote; rw [hl]; rfl] at q'
    exact q'
  | true =>
    refine iteT ?_
    have hl' := of_decide_eq_true hl
    obtain ⟨x, hx, hxa⟩ := arg_at (v0 := .str w') hs (i := 0) (by omega)
    refine ⟨_, rfl, a, _, 1, _, rfl, rfl, SqT.of ha, hx, B, x, _, _, _, rfl, hxa, fun H1 s1 => ?_⟩
    have q' := q H1 s1
    rw [show fNote r = _ by unfold fNote; rw [hl, Bool.true_and]] at q'
    exact q'
abbrev sFApp : Stmt := topS 28
theorem scFApp : FnScope ["term"] ["term"] (defScope sFApp) := ⟨rfl, rfl, rfl, by decide +kernel, rfl, by decide +kernel, by decide +kernel⟩
theorem c_FApp {f : Addr} {fd : FuncData} (T : TxtF K mg aS) (F : Fun K "_is_app" "_is_app" sFApp f fd) (b : Binds K fd ["term"] []) (hm : mg "_is_app" = some (.ref f)) : C8.Cal P w K mg base 4 "_is_app" (spForm fApp) [] := by
  refine cal_of F hm b scFApp (fun vs H Q E h => ?_) (fun cdv A outer s H vs Q E hr h => ?_)
  · obtain ⟨B, v, w', r, rfl, _⟩ := h
    rfl
  obtain ⟨B, v, w', r, rfl, hat, hsz, q⟩ := h
  refine ⟨_, (pss_one (ps_ret (pe_cmpR op_eq (pe_callB call_len_seq rfl T.zlen PySem.boot_len (pa_cons (pv 0) pa_nil)) pe_int (nomark _)))), ?_⟩
  obtain ⟨a, ys, rfl, ha, hs, hyl, hw⟩ := head_at hat
  have same : Same H H := fun _ _ e => e
  refine ⟨_, rfl, a, _, rfl, .inr (SqT.of ha), rfl, ?_⟩
  have q' := q H same
  rw [show fApp r = decide (V.int (((V.str w' :: ys).length : Nat) : Int) = V.int 3) from (len_is hyl 2).symm] at q'
  exact q'
abbrev sFCon : Stmt := topS 32
theorem scFCon : FnScope ["term"] ["term"] (defScope sFCon) := ⟨rfl, rfl, rfl, by decide +kernel, rfl, by decide +kernel, by decide +kernel⟩
theorem c_FCon {f : Addr} {fd : FuncData} (T : TxtF K mg aS) (c_is_number : C8.Cal P w K mg base 2 "_is_number" spNumber []) (F : Fun K "_is_con" "_is_con" sFCon f fd) (b : Binds K fd ["term"] []) (hm : mg "_is_con" = some (.ref f)) : C8.Cal P w K mg base 4 "_is_con" (spForm fCon) [] := by
  refine cal_of F hm b scFCon (fun vs H Q E h => ?_) (fun cdv A outer s H vs Q E hr h => ?_)
  · obtain ⟨B, v, w', r, rfl, _⟩ := h
    rfl
  obtain ⟨B, v, w', r, rfl, hat, hsz, q⟩ := h
  refine ⟨_, (pss_one (ps_ret (pe_and (pe_cmpR op_eq (pe_callB call_len_seq rfl T.zlen PySem.boot_len (pa_cons (pv 0) pa_nil)) pe_int (nomark _)) (pe_and (C8.pe_c c_is_number hr (by decide) rfl (pa_cons (pe_ix ix_tup (pv 0) pe_int (fun _ _ => rfl)) (pa_cons pe_int (pa_cons (C8.pe_gc rfl T.gLARGEST_TAG) pa_nil)))) (pe_one (pe_callB call_isi rfl T.zisinstance boot_isinstance (pa_cons (pe_ix ix_tup (pv 0) pe_int (fun _ _ => rfl)) (pa_cons (pe_bltn (v := .ty "tuple") rfl T.ztuple boot_tuple rfl) pa_nil)))))))), ?_⟩
  obtain ⟨a, ys, rfl, ha, hs, hyl, hw⟩ := head_at hat
  have same : Same H H := fun _ _ e => e
  refine ⟨_, rfl, a, _, rfl, .inr (SqT.of ha), rfl, _, rfl, ?_⟩
  rw [show decide (V.int (((V.str w' :: ys).length : Nat) : Int) = V.int 3) = decide (r.length = 2) from len_is hyl 2]
  cases hl : decide (r.length = 2) with
  | false =>
    refine iteF ?_
    have q' := q H same
    rw [show fCon r = false by unfold fCon; rw [hl]; rfl] at q'
    exact q'
  | true =>
    refine iteT ?_
    have hl' := of_decide_eq_true hl
    obtain ⟨x, hx, hxa⟩ := arg_at (v0 := .str w') hs (i := 0) (by omega)
    obtain ⟨y, hy, hya⟩ := arg_at (v0 := .str w') hs (i := 1) (by omega)
    refine ⟨_, rfl, a, _, 1, _, rfl, rfl, SqT.of ha, hx, B, x, _, _, _, rfl, hxa, fun H1 s1 => ⟨_, rfl, ?_⟩⟩
    cases hn : numIn 0 1000 (arg 0 r) with
    | false =>
      refine iteF ?_
      have q' := q H1 s1
      rw [show fCon r = false by unfold fCon; rw [hl, hn]; rfl] at q'
      exact q'
    | true =>
      refine iteT ?_
      refine ⟨_, rfl, a, _, 2, _, rfl, rfl, SqT.of (s1 _ _ ha), hy, y, .ty "tuple", _, _, _, rfl, .ty "tuple", ty_of (hya.keep (fr_same s1)), kit_tup _, ?_⟩
      have q' := q H1 s1
      rw [show fCon r = isTup (arg 1 r) by unfold fCon; rw [hl, hn]; rfl] at q'
      exact q'
abbrev sFLet : Stmt := topS 30
theorem scFLet : FnScope ["term", "name", "_"] ["term"] (defScope sFLet) := ⟨rfl, rfl, rfl, by decide +kernel, rfl, by decide +kernel, by decide +kernel⟩
theorem c_FLet {f : Addr} {fd : FuncData} (T : TxtF K mg aS) (care_rows : C8.Cal P w K mg base 2 "are_rows" (spRow areRows) []) (care_names : C8.Cal P w K mg base 2 "are_names" (spB areNames fun k => k.sz ≤ 1000000) []) (F : Fun K "_is_let" "_is_let" sFLet f fd) (b : Binds K fd ["term"] []) (hm : mg "_is_let" = some (.ref f)) : C8.Cal P w K mg base 4 "_is_let" (spForm fLet) [] := by
  refine cal_of F hm b scFLet (fun vs H Q E h => ?_) (fun cdv A outer s H vs Q E hr h => ?_)
  · obtain ⟨B, v, w', r, rfl, _⟩ := h
    rfl
  obtain ⟨B, v, w', r, rfl, hat, hsz, q⟩ := h
  refine ⟨_, (pss_cons (ps_if (PW.pt (pw_or (pt_cmpR op_ne (pe_callB call_len_seq rfl T.zlen PySem.boot_len (pa_cons (pv 0) pa_nil)) pe_int (nomark _)) (pw_or1 (pt_not (pt_val (C8.pe_c care_rows hr (by decide) rfl (pa_cons (pe_ix ix_tup (pv 0) pe_int (fun _ _ => rfl)) (pa_cons pe_int pa_nil))))))))
      (pss_one (ps_ret pe_bl))
      pss_nil)
    (pss_one (ps_ret (pe_and (pe_cmpR op_gt (pe_callB call_len_seq rfl T.zlen PySem.boot_len (pa_cons (pe_ix ix_tup (pv 0) pe_int (fun _ _ => rfl)) pa_nil)) pe_int (nomark _)) (pe_one (C8.pe_c care_names hr (by decide) rfl (pa_cons (pe_callTy call_tuple_of rfl T.ztuple boot_tuple (pa_cons (pe_lc (own := [("name", 1), ("_", 2)]) (g := gTup K 2 (gCons (gName 1) (gCons (gName 2) (gNil)))) (tt := tYes) rfl scFLet.nd (pi_tup (pe_ix ix_tup (pv 0) pe_int (fun _ _ => rfl))) (blkOk_by (own := [("name", 1), ("_", 2)]) (N := ["term", "name", "_"]) (sc := defScope sFLet) (by decide +kernel)) (fun _ _ _ _ _ => (pg_tup rfl (pgs_cons (pg_name (i := 1) scFLet.nd rfl (Or.inl rfl)) (pgs_cons (pg_name (i := 2) scFLet.nd rfl (Or.inl rfl)) pgs_nil)))) (fun _ _ _ _ _ => pts_nil) (fun _ _ _ _ _ => (pv 1))) pa_nil)) pa_nil))))))), ?_⟩
  obtain ⟨a, ys, rfl, ha, hs, hyl, hw⟩ := head_at hat
  have same : Same H H := fun _ _ e => e
  refine ⟨_, rfl, a, _, rfl, .inr (SqT.of ha), rfl, _, rfl, ?_⟩
  rw [show (!decide (V.int (((V.str w' :: ys).length : Nat) : Int) = V.int 3)) = !decide (r.length = 2) from len_ne hyl 2]
  cases hl : decide (r.length = 2) with
  | false =>
    refine iteT (iteT ?_)
    have q' := q H same
    rw [show fLet r = false by unfold fLet; rw [hl]; rfl] at q'
    exact q'
  | true =>
    refine iteF ?_
    have hl' := of_decide_eq_true hl
    obtain ⟨x, hx, hxa⟩ := arg_at (v0 := .str w') hs (i := 0) (by omega)
    have hz := arg_sz (w := w') (r := r) 0
    refine ⟨_, rfl, a, _, 1, _, rfl, rfl, SqT.of ha, hx, B, x, _, 2, rfl, hxa, by omega, fun H1 s1 => ⟨_, rfl, ?_⟩⟩
    cases hn : areRows 2 (arg 0 r) with
    | false =>
      refine iteT ?_
      have q' := q H1 s1
      rw [show fLet r = false by unfold fLet; rw [hl, hn]; rfl] at q'
      exact q'
    | true =>
      refine iteF ?_
      obtain ⟨l, el, hrows⟩ := rows_of hn
      rw [el] at hxa hz
      obtain ⟨b, xs2, rfl, hb, hbs⟩ := hxa
      have hb1 := s1 _ _ hb
      have ha1 := s1 _ _ ha
      have hxl := ats_len hbs
      have hlz := szs_len l
      have hz : 1 + Dd.szs l ≤ _ := hz
      have ef : fLet r = (decide (0 < l.length) && areNames (.tup (l.map (nth 0)))) := by unfold fLet; rw [hl, hn, el]; rfl
      refine ⟨_, rfl, a, _, 1, _, rfl, rfl, SqT.of ha1, hx, b, xs2, rfl, .inr (SqT.of hb1), _, _, rfl, rfl, _, rfl, ?_⟩
      rw [show decide ((0 : Int) < (xs2.length : Int)) = decide (0 < l.length) by rw [hxl]; exact decide_eq_decide.mpr (by omega)]
      cases hp : decide (0 < l.length) with
      | false =>
        refine iteF ?_
        have q' := q H1 s1
        rw [ef, hp, Bool.false_and] at q'
        exact q'
      | true =>
        refine iteT ?_
        rw [hp, Bool.true_and] at ef
        refine ⟨_, rfl, a, _, 1, _, rfl, rfl, SqT.of ha1, hx, b, rfl, ⟨_, SqT.of hb1⟩, fun D hD => ?_⟩
        refine lc_tup (K := K) (a := b) (xs := xs2) (fun i G => Same H1 G ∧ ∃ zs, G D = some (.lst zs) ∧ Dd.Ats B H ((l.take i).map (nth 0)) zs) ⟨same_new hD _, [], upd_same, rfl⟩ (fun i G hi ⟨h1, _⟩ => SqT.of (h1 _ _ hb1)) ?_ ?_
        · rintro i x G hx ⟨h1, zs, h2, h3⟩
          obtain ⟨k, hk, hkat⟩ := ats_get hbs hx
          have hil : i < l.length := (List.getElem?_eq_some_iff.mp hk).1
          obtain ⟨m, rfl, hm2⟩ := hrows k (List.mem_of_getElem? hk)
          obtain ⟨t, x1, y1, rfl, ht, hx1, hy1⟩ := pair_at hkat hm2
          have hzl := ats_len h3
          rw [List.length_map, List.length_take] at hzl
          refine ⟨t, _, rfl, SqT.of (h1 _ _ (s1 _ _ ht)), rfl, _, _, rfl, _, _, rfl, rfl, rfl, ?_⟩
          refine tYes_if ?_
          refine ⟨_, rfl, zs, h2, ?_, same_upd hD h1 _, zs ++ [x1], upd_same, ?_⟩
          · have := big; omega
          · rw [List.take_add_one, hk, List.map_append]
            exact ats_app h3 (ats_one hx1)
        rintro G ⟨h1, zs, h2, h3⟩
        rw [hxl, List.take_length] at h3
        refine ⟨D, zs, rfl, .inl ⟨SqL.of h2, fun t ht => ?_⟩⟩
        have s3 := same_new ht (.tup zs)
        have sG := sameT s1 (sameT h1 s3)
        have hns := nths_sz 0 l
        refine ⟨B, .ref t, .tup (l.map (nth 0)), rfl, ⟨t, zs, rfl, upd_same, h3.keep (fr_same sG)⟩, by show 1 + Dd.szs _ ≤ _; omega, fun G2 s4 => ?_⟩
        have q' := q G2 (sameT sG s4)
        rw [ef] at q'
        exact q'
abbrev sFCase : Stmt := topS 34
theorem scFCase : FnScope ["term", "tag", "names", "_"] ["term"] (defScope sFCase) := ⟨rfl, rfl, rfl, by decide +kernel, rfl, by decide +kernel, by decide +kernel⟩
theorem c_FCase {f : Addr} {fd : FuncData} (T : TxtF K mg aS) (care_rows : C8.Cal P w K mg base 2 "are_rows" (spRow areRows) []) (care_names : C8.Cal P w K mg base 2 "are_names" (spB areNames fun k => k.sz ≤ 1000000) []) (c_is_number : C8.Cal P w K mg base 2 "_is_number" spNumber []) (c_is_default : C8.Cal P w K mg base 2 "_is_default" (spB isDflt fun k => k.sz ≤ 1000000) [])
    (F : Fun K "_is_case" "_is_case" sFCase f fd) (b : Binds K fd ["term"] []) (hm : mg "_is_case" = some (.ref f)) : C8.Cal P w K mg base 4 "_is_case" (spForm fCase) [] := by
  refine cal_of F hm b scFCase (fun vs H Q E h => ?_) (fun cdv A outer s H vs Q E hr h => ?_)
  · obtain ⟨B, v, w', r, rfl, _⟩ := h
    rfl
  obtain ⟨B, v, w', r, rfl, hat, hsz, q⟩ := h
  refine ⟨_, (pss_cons (ps_if (PW.pt (pw_or (pt_cmpR op_ne (pe_callB call_len_seq rfl T.zlen PySem.boot_len (pa_cons (pv 0) pa_nil)) pe_int (nomark _)) (pw_or (pt_not (pt_val (C8.pe_c care_rows hr (by decide) rfl (pa_cons (pe_ix ix_tup (pv 0) pe_int (fun _ _ => rfl)) (pa_cons pe_int pa_nil))))) (pw_or1 (pt_not (pt_val (C8.pe_c c_is_default hr (by decide) rfl (pa_cons (pe_ix ix_tup (pv 0) pe_int (fun _ _ => rfl)) pa_nil))))))))
      (pss_one (ps_ret pe_bl))
      pss_nil)
    (pss_one (ps_ret (pe_callB (cr_all rfl) rfl T.zall boot_all (pa_cons (pe_lc (own := [("tag", 1), ("names", 2), ("_", 3)]) (g := gTup K 3 (gCons (gName 1) (gCons (gName 2) (gCons (gName 3) (gNil))))) (tt := tYes) (te := (tAndV (tCall spNumber [] C8.E0 (tCons (tVar 1) (tCons (tC (.int 0)) (tCons (tC (.int 1000)) tNil)))) (tCall (spB areNames fun k => k.sz ≤ 1000000) [] C8.E0 (tCons (tVar 2) tNil)))) rfl scFCase.nd (pi_tup (pe_ix ix_tup (pv 0) pe_int (fun _ _ => rfl))) (blkOk_by (own := [("tag", 1), ("names", 2), ("_", 3)]) (N := ["term", "tag", "names", "_"]) (sc := defScope sFCase) (by decide +kernel)) (fun _ _ _ _ _ => (pg_tup rfl (pgs_cons (pg_name (i := 1) scFCase.nd rfl (Or.inl rfl)) (pgs_cons (pg_name (i := 2) scFCase.nd rfl (Or.inl rfl)) (pgs_cons (pg_name (i := 3) scFCase.nd rfl (Or.inl rfl)) pgs_nil))))) (fun _ _ _ _ _ => pts_nil) (fun _ _ _ _ _ => (pe_and (C8.pe_c c_is_number hr (by decide) rfl (pa_cons (pv 1) (pa_cons pe_int (pa_cons (C8.pe_gc rfl T.gLARGEST_TAG) pa_nil)))) (pe_one (C8.pe_c care_names hr (by decide) rfl (pa_cons (pv 2) pa_nil)))))) pa_nil))))), ?_⟩
  obtain ⟨a, ys, rfl, ha, hs, hyl, hw⟩ := head_at hat
  have same : Same H H := fun _ _ e => e
  refine ⟨_, rfl, a, _, rfl, .inr (SqT.of ha), rfl, _, rfl, ?_⟩
  rw [show (!decide (V.int (((V.str w' :: ys).length : Nat) : Int) = V.int 4)) = !decide (r.length = 3) from len_ne hyl 3]
  cases hl : decide (r.length = 3) with
  | false =>
    refine iteT (iteT ?_)
    have q' := q H same
    rw [show fCase r = false by unfold fCase; rw [hl]; rfl] at q'
    exact q'
  | true =>
    refine iteF ?_
    have hl' := of_decide_eq_true hl
    obtain ⟨x, hx, hxa⟩ := arg_at (v0 := .str w') hs (i := 1) (by omega)
    obtain ⟨y, hy, hya⟩ := arg_at (v0 := .str w') hs (i := 2) (by omega)
    have hz := arg_sz (w := w') (r := r) 1
    have hz2 := arg_sz (w := w') (r := r) 2
    refine ⟨_, rfl, a, _, 2, _, rfl, rfl, SqT.of ha, hx, B, x, _, 3, rfl, hxa, by omega, fun H1 s1 => ⟨_, rfl, ?_⟩⟩
    cases hn : areRows 3 (arg 1 r) with
    | false =>
      refine iteT (iteT ?_)
      have q' := q H1 s1
      rw [show fCase r = false by unfold fCase; rw [hl, hn]; rfl] at q'
      exact q'
    | true =>
      refine iteF ?_
      refine ⟨_, rfl, a, _, 3, _, rfl, rfl, SqT.of (s1 _ _ ha), hy, B, y, _, rfl, hya.keep (fr_same s1), by omega, fun H2 s2 => ⟨_, rfl, ?_⟩⟩
      have s12 := sameT s1 s2
      cases hd : isDflt (arg 2 r) with
      | false =>
        refine iteT ?_
        have q' := q H2 s12
        rw [show fCase r = false by unfold fCase; rw [hl, hn, hd]; rfl] at q'
        exact q'
      | true =>
        refine iteF ?_
        obtain ⟨l, el, hrows⟩ := rows_of hn
        rw [el] at hxa hz
        obtain ⟨b, xs2, rfl, hb, hbs⟩ := hxa
        have hb1 := s12 _ _ hb
        have ha1 := s12 _ _ ha
        have hxl := ats_len hbs
        have hlz := szs_len l
        have hz : 1 + Dd.szs l ≤ _ := hz
        have ef : fCase r = l.all fun q => numIn 0 1000 (nth 0 q) && areNames (nth 1 q) := by unfold fCase; rw [hl, hn, hd, el]; rfl
        refine ⟨_, rfl, a, _, 2, _, rfl, rfl, SqT.of ha1, hx, b, rfl, ⟨_, SqT.of hb1⟩, fun D hD => ?_⟩
        refine lc_tup (K := K) (a := b) (xs := xs2) (fun i G => Same H2 G ∧ G D = some (.lst (((l.take i).map fun q => numIn 0 1000 (nth 0 q) && areNames (nth 1 q)).map V.bl))) ⟨same_new hD _, upd_same⟩ (fun i G hi ⟨h1, _⟩ => SqT.of (h1 _ _ hb1)) ?_ ?_
        · rintro i x G hx ⟨h1, h2⟩
          obtain ⟨k, hk, hkat⟩ := ats_get hbs hx
          have hil : i < l.length := (List.getElem?_eq_some_iff.mp hk).1
          have hkz := szs_mem (List.mem_of_getElem? hk)
          obtain ⟨m, rfl, hm2⟩ := hrows k (List.mem_of_getElem? hk)
          obtain ⟨t, x1, y1, z1, rfl, ht, hx1, hy1, hz1⟩ := three_at hkat hm2
          have sG := sameT s12 h1
          have hnz := nth_sz 1 (.tup m)
          refine ⟨t, _, rfl, SqT.of (sG _ _ ht), rfl, _, _, rfl, _, _, rfl, _, _, rfl, rfl, rfl, ?_⟩
          refine tYes_if ?_
          have fin : ∀ (G2 : Hp) (s2 : Same G G2) (c : Bool), c = (numIn 0 1000 (nth 0 (.tup m)) && areNames (nth 1 (.tup m))) → ∃ acc, G2 D = some (.lst acc) ∧ acc.length < sizeLine ∧ Same H2 (upd G2 D (.lst (acc ++ [.bl c]))) ∧ upd G2 D (.lst (acc ++ [.bl c])) D = some (.lst (((l.take (i + 1)).map fun q => numIn 0 1000 (nth 0 q) && areNames (nth 1 q)).map V.bl)) := fun G2 s2 c hc => by
            refine ⟨_, s2 _ _ h2, ?_, same_upd hD (sameT h1 s2) _, ?_⟩
            · rw [List.length_map, List.length_map, List.length_take]
              have := big
              omega
            · rw [upd_same, List.take_add_one, hk, List.map_append, List.map_append, hc]
              rfl
          refine ⟨_, rfl, B, x1, _, 0, 1000, rfl, hx1.keep (fr_same sG), fun G2 s2 => ⟨_, rfl, ?_⟩⟩
          cases hnn : numIn 0 1000 (nth 0 (.tup m)) with
          | false =>
            refine iteF ?_
            exact fin G2 s2 false (by rw [hnn]; rfl)
          | true =>
            refine iteT ?_
            refine ⟨_, rfl, B, y1, _, rfl, hy1.keep (fr_same (sameT sG s2)), by omega, fun G3 s3 => ?_⟩
            exact fin G3 (sameT s2 s3) _ (by rw [hnn, Bool.true_and])
        rintro G ⟨h1, h2⟩
        rw [hxl, List.take_length] at h2
        refine ⟨D, _, rfl, SqL.of h2, ?_⟩
        rw [List.all_map]
        have q' := q G (sameT s12 h1)
        rw [ef] at q'
        exact q'
abbrev sFPick : Stmt := topS 35
theorem scFPick : FnScope ["term", "numbers", "number", "_"] ["term"] (defScope sFPick) := ⟨rfl, rfl, rfl, by decide +kernel, rfl, by decide +kernel, by decide +kernel⟩
theorem c_FPick {f : Addr} {fd : FuncData} (T : TxtF K mg aS) (care_rows : C8.Cal P w K mg base 2 "are_rows" (spRow areRows) []) (cis_core_number : C8.Cal P w K mg base 3 "is_core_number" (spB cNum fun _ => True) []) (c_are_different : C8.Cal P w K mg base 1 "_are_different" spDiffL []) (c_is_default : C8.Cal P w K mg base 2 "_is_default" (spB isDflt fun k => k.sz ≤ 1000000) [])
    (F : Fun K "_is_pick" "_is_pick" sFPick f fd) (b : Binds K fd ["term"] []) (hm : mg "_is_pick" = some (.ref f)) : C8.Cal P w K mg base 4 "_is_pick" (spForm fPick) [] := by
  refine cal_of F hm b scFPick (fun vs H Q E h => ?_) (fun cdv A outer s H vs Q E hr h => ?_)
  · obtain ⟨B, v, w', r, rfl, _⟩ := h
    rfl
  obtain ⟨B, v, w', r, rfl, hat, hsz, q⟩ := h
  refine ⟨_, (pss_cons (ps_if (PW.pt (pw_or (pt_cmpR op_ne (pe_callB call_len_seq rfl T.zlen PySem.boot_len (pa_cons (pv 0) pa_nil)) pe_int (nomark _)) (pw_or (pt_not (pt_val (C8.pe_c care_rows hr (by decide) rfl (pa_cons (pe_ix ix_tup (pv 0) pe_int (fun _ _ => rfl)) (pa_cons pe_int pa_nil))))) (pw_or1 (pt_not (pt_val (C8.pe_c c_is_default hr (by decide) rfl (pa_cons (pe_ix ix_tup (pv 0) pe_int (fun _ _ => rfl)) pa_nil))))))))
      (pss_one (ps_ret pe_bl))
      pss_nil)
    (pss_cons (ps_setLc (i := 1) (own := [("number", 2), ("_", 3)]) (g := gTup K 2 (gCons (gName 2) (gCons (gName 3) (gNil)))) (tt := tYes) rfl scFPick.nd rfl rfl (sw_true rfl rfl rfl (by decide +kernel)) (pi_tup (pe_ix ix_tup (pv 0) pe_int (fun _ _ => rfl))) (blkOk_by (own := [("number", 2), ("_", 3)]) (N := ["term", "numbers", "number", "_"]) (sc := defScope sFPick) (by decide +kernel)) (fun _ _ _ _ _ => (pg_tup rfl (pgs_cons (pg_name (i := 2) scFPick.nd rfl (Or.inl rfl)) (pgs_cons (pg_name (i := 3) scFPick.nd rfl (Or.inl rfl)) pgs_nil)))) (fun _ _ _ _ _ => pts_nil) (fun _ _ _ _ _ => (pv 2)))
    (pss_one (ps_ret (pe_and (pe_callB (cr_all rfl) rfl T.zall boot_all (pa_cons (pe_lc (own := [("number", 2)]) (g := gName 2) (tt := tYes) rfl scFPick.nd (pi_list (pv 1)) (blkOk_by (own := [("number", 2)]) (N := ["term", "numbers", "number", "_"]) (sc := defScope sFPick) (by decide +kernel)) (fun _ _ _ _ _ => (pg_name (i := 2) scFPick.nd rfl (Or.inl rfl))) (fun _ _ _ _ _ => pts_nil) (fun _ _ _ _ _ => (C8.pe_c cis_core_number hr (by decide) rfl (pa_cons (pv 2) pa_nil)))) pa_nil)) (pe_one (C8.pe_c c_are_different hr (by decide) rfl (pa_cons (pv 1) pa_nil)))))))), ?_⟩
  obtain ⟨a, ys, rfl, ha, hs, hyl, hw⟩ := head_at hat
  have same : Same H H := fun _ _ e => e
  refine ⟨_, rfl, a, _, rfl, .inr (SqT.of ha), rfl, _, rfl, ?_⟩
  rw [show (!decide (V.int (((V.str w' :: ys).length : Nat) : Int) = V.int 4)) = !decide (r.length = 3) from len_ne hyl 3]
  cases hl : decide (r.length = 3) with
  | false =>
    refine iteT (iteT ?_)
    have q' := q H same
    rw [show fPick r = false by unfold fPick; rw [hl]; rfl] at q'
    exact q'
  | true =>
    refine iteF ?_
    have hl' := of_decide_eq_true hl
    obtain ⟨x, hx, hxa⟩ := arg_at (v0 := .str w') hs (i := 1) (by omega)
    obtain ⟨y, hy, hya⟩ := arg_at (v0 := .str w') hs (i := 2) (by omega)
    have hz := arg_sz (w := w') (r := r) 1
    have hz2 := arg_sz (w := w') (r := r) 2
    refine ⟨_, rfl, a, _, 2, _, rfl, rfl, SqT.of ha, hx, B, x, _, 2, rfl, hxa, by omega, fun H1 s1 => ⟨_, rfl, ?_⟩⟩
    cases hn : areRows 2 (arg 1 r) with
    | false =>
      refine iteT (iteT ?_)
      have q' := q H1 s1
      rw [show fPick r = false by unfold fPick; rw [hl, hn]; rfl] at q'
      exact q'
    | true =>
      refine iteF ?_
      refine ⟨_, rfl, a, _, 3, _, rfl, rfl, SqT.of (s1 _ _ ha), hy, B, y, _, rfl, hya.keep (fr_same s1), by omega, fun H2 s2 => ⟨_, rfl, ?_⟩⟩
      have s12 := sameT s1 s2
      cases hd : isDflt (arg 2 r) with
      | false =>
        refine iteT ?_
        have q' := q H2 s12
        rw [show fPick r = false by unfold fPick; rw [hl, hn, hd]; rfl] at q'
        exact q'
      | true =>
        refine iteF ?_
        obtain ⟨l, el, hrows⟩ := rows_of hn
        rw [el] at hxa hz
        obtain ⟨b, xs2, rfl, hb, hbs⟩ := hxa
        have hb1 := s12 _ _ hb
        have ha1 := s12 _ _ ha
        have hxl := ats_len hbs
        have hlz := szs_len l
        have hz : 1 + Dd.szs l ≤ _ := hz
        have ef : fPick r = ((l.map (nth 0)).all cNum && distK ((l.map (nth 0)).map keyD)) := by unfold fPick; rw [hl, hn, hd, el]; rfl
        refine ⟨_, rfl, a, _, 2, _, rfl, rfl, SqT.of ha1, hx, b, rfl, ⟨_, SqT.of hb1⟩, fun D hD => ?_⟩
        refine lc_tup (K := K) (a := b) (xs := xs2) (fun i G => Same H2 G ∧ ∃ zs, G D = some (.lst zs) ∧ Dd.Ats B H ((l.take i).map (nth 0)) zs) ⟨same_new hD _, [], upd_same, rfl⟩ (fun i G hi ⟨h1, _⟩ => SqT.of (h1 _ _ hb1)) ?_ ?_
        · rintro i x G hx ⟨h1, zs, h2, h3⟩
          obtain ⟨k, hk, hkat⟩ := ats_get hbs hx
          have hil : i < l.length := (List.getElem?_eq_some_iff.mp hk).1
          obtain ⟨m, rfl, hm2⟩ := hrows k (List.mem_of_getElem? hk)
          obtain ⟨t, x1, y1, rfl, ht, hx1, hy1⟩ := pair_at hkat hm2
          have hzl := ats_len h3
          rw [List.length_map, List.length_take] at hzl
          refine ⟨t, _, rfl, SqT.of (h1 _ _ (s12 _ _ ht)), rfl, _, _, rfl, _, _, rfl, rfl, rfl, ?_⟩
          refine tYes_if ?_
          refine ⟨_, rfl, zs, h2, ?_, same_upd hD h1 _, zs ++ [x1], upd_same, ?_⟩
          · have := big; omega
          · rw [List.take_add_one, hk, List.map_append]
            exact ats_app h3 (ats_one hx1)
        rintro G ⟨h1, zs, h2, h3⟩
        rw [hxl, List.take_length] at h3
        have sG := sameT s12 h1
        have hzl := ats_len h3
        rw [List.length_map] at hzl
        refine ⟨_, rfl, D, rfl, ⟨_, SqL.of h2⟩, fun D2 hD2 => ?_⟩
        refine lc_list (K := K) (a := D) (xs := zs) (fun i G2 => Same G G2 ∧ G2 D2 = some (.lst ((((l.map (nth 0)).take i).map cNum).map V.bl))) ⟨same_new hD2 _, upd_same⟩ (fun i G2 hi ⟨h4, _⟩ => SqL.of (h4 _ _ h2)) ?_ ?_
        · rintro i x G2 hx ⟨h4, h5⟩
          obtain ⟨k, hk, hkat⟩ := ats_get h3 hx
          have hil := (List.getElem?_eq_some_iff.mp hk).1
          rw [List.length_map] at hil
          refine ⟨rfl, ?_⟩
          refine tYes_if ?_
          refine ⟨_, rfl, B, x, k, rfl, hkat.keep (fr_same (sameT sG h4)), True.intro, fun G3 s3 => ?_⟩
          refine ⟨_, s3 _ _ h5, ?_, same_upd hD2 (sameT h4 s3) _, ?_⟩
          · rw [List.length_map, List.length_map, List.length_take, List.length_map]
            have := big
            omega
          · rw [upd_same, List.take_add_one, hk, List.map_append, List.map_append]
            rfl
        rintro G2 ⟨h4, h5⟩
        rw [hzl, show (l.map (nth 0)).take l.length = l.map (nth 0) by rw [← List.length_map (f := nth 0), List.take_length]] at h5
        refine ⟨D2, _, rfl, SqL.of h5, _, rfl, ?_⟩
        rw [List.all_map]
        cases hc : (l.map (nth 0)).all cNum with
        | false =>
          rw [show ((l.map (nth 0)).all (id ∘ cNum)) = false from hc]
          refine iteF ?_
          have q' := q G2 (sameT sG h4)
          rw [ef, hc, Bool.false_and] at q'
          exact q'
        | true =>
          rw [show ((l.map (nth 0)).all (id ∘ cNum)) = true from hc]
          refine iteT ?_
          refine ⟨_, rfl, B, D, l.map (nth 0), zs, rfl, h4 _ _ h2, h3.keep (fr_same (sameT sG h4)), fun k hk => num_key (List.all_eq_true.mp hc k hk), by rw [List.length_map]; omega, fun G3 s3 => ?_⟩
          have q' := q G3 (sameT sG (sameT h4 s3))
          rw [ef, hc, Bool.true_and] at q'
          exact q'
end
end Toy

set_option Elab.async false
set_option linter.all false
set_option maxRecDepth 100000
set_option maxHeartbeats 4000000
/-! Part F: whether something has a form; the parts of a term. -/
namespace Toy
open PySem L2
open PyProof.Rows (envOfC)
def words : List Str := ["num", "var", "app", "lam", "let", "seq", "con", "case", "pick", "prim", "note"]
theorem form_out {z : Str} (h : z ∉ words) (r : List Dd) : formW z r = false := by
  simp only [words, List.mem_cons, List.not_mem_nil, or_false, not_or] at h
  obtain ⟨h1, h2, h3, h4, h5, h6, h7, h8, h9, h10, h11⟩ := h
  unfold formW
  rw [if_neg h1, if_neg h2, if_neg h3, if_neg h4, if_neg h5, if_neg h6, if_neg h7, if_neg h8, if_neg h9, if_neg h10, if_neg h11]
theorem cut_from (xs : List V) (k : Nat) (h : k ≤ xs.length) : cutV xs (some (k : Int)) none = xs.drop k := by
  unfold cutV
  rw [HT.sIx_none, HT.sIx_nat, Nat.min_eq_left h]
  exact List.take_of_length_le (by rw [List.length_drop]; exact Nat.le_refl _)
theorem cut_no1 (k n d : Nat) (h : 0 < min k n) : ¬ HT.sIx n d (some (k : Int)) = 0 := by
  rw [HT.sIx_nat]
  omega
theorem ats_drop {B : Addr → Prop} {H : Hp} : ∀ {l : List Dd} {xs : List V}, Dd.Ats B H l xs → Dd.Ats B H (l.drop 1) (xs.drop 1)
  | [], _, h => by cases h; rfl
  | k :: l, _, ⟨x, ys, e, h, hs⟩ => by cases e; exact hs
structure TxtM (P : Program) (w : World) (K : PySem.W.Frag) (mg : Str → Option Value) (base : Heap) (aF : Addr) (es : Array DictEntry) (n : Nat) (sF : Addr → Option Sp) : Prop where
  zisinstance : mg "isinstance" = none
  ztuple : mg "tuple" = none
  zstr : mg "str" = none
  zlen : mg "len" = none
  kF : KDict K w aF es n
  gFORMS : ∃ u, mg "FORMS" = some u ∧ RelV (.ref aF) u
  formIn : ∀ z ∈ words, ∃ f, PySem.W.nsIn K aF z = some (some (.ref f)) ∧ sF f = some (spForm (formW z))
  formOut : ∀ z, z ∉ words → PySem.W.nsIn K aF z = some none
  heldF : ∀ f sp, sF f = some sp → Held P w K mg base 4 f sp
section
variable {P : Program} {w : World} {K : PySem.W.Frag} {mg : Str → Option Value} {base : Heap} {aF : Addr} {es : Array DictEntry} {n : Nat} {sF : Addr → Option Sp}
abbrev sHas : Stmt := topS 16
theorem scHas : FnScope ["thing", "check"] ["thing"] (defScope sHas) := ⟨rfl, rfl, rfl, by decide +kernel, rfl, by decide +kernel, by decide +kernel⟩
theorem c_has {f : Addr} {fd : FuncData} (T : TxtM P w K mg base aF es n sF) (F : Fun K "has_form" "has_form" sHas f fd) (b : Binds K fd ["thing"] []) (hm : mg "has_form" = some (.ref f)) : C8.Cal P w K mg base 5 "has_form" (spB formB fun k => k.sz ≤ 1000000) [] := by
  refine cal_of F hm b scHas (fun vs H Q E h => ?_) (fun cdv A outer s H vs Q E hr h => ?_)
  · obtain ⟨B, v, k, rfl, _⟩ := h
    rfl
  obtain ⟨B, v, k, rfl, hat, hsz, q⟩ := h
  refine ⟨_, (pss_cons (ps_if (PW.pt (pw_or (pt_not (pt_val (pe_callB call_isi rfl T.zisinstance boot_isinstance (pa_cons (pv 0) (pa_cons (pe_bltn (v := .ty "tuple") rfl T.ztuple boot_tuple rfl) pa_nil))))) (pw_or (pt_cmpR op_eq (pe_callB call_len_seq rfl T.zlen PySem.boot_len (pa_cons (pv 0) pa_nil)) pe_int (nomark _)) (pw_or1 (pt_not (pt_val (pe_callB call_isi rfl T.zisinstance boot_isinstance (pa_cons (pe_ix ix_tup (pv 0) pe_int (fun _ _ => rfl)) (pa_cons (pe_bltn (v := .ty "str") rfl T.zstr boot_str rfl) pa_nil)))))))))
      (pss_one (ps_ret pe_bl))
      pss_nil)
    (pss_cons (ps_set (i := 1) scHas.nd rfl (Or.inl rfl) (pe_kget T.kF (C8.pe_gc rfl T.gFORMS) (pe_ix ix_tup (pv 0) pe_int (fun _ _ => rfl)) ⟨rfl, rfl, rfl, rfl⟩))
    (pss_one (ps_ret (pe_and (pe_cmpR op_notN (pv 1) pe_non (nomark _)) (pe_one (pe_callA (i := 1) T.heldF (hr.mono (by decide)) rfl (Or.inl rfl) (pa_cons (pv 0) pa_nil)))))))), ?_⟩
  have same : Same H H := fun _ _ e => e
  refine ⟨_, rfl, v, .ty "tuple", _, _, _, rfl, .ty "tuple", ty_of hat, kit_tup k, ?_⟩
  cases k with
  | tup l =>
    obtain ⟨a, xs, rfl, ha, hs⟩ := id hat
    have hxl := ats_len hs
    refine ⟨_, rfl, ?_⟩
    refine iteF ?_
    refine ⟨_, rfl, a, xs, rfl, .inr (SqT.of ha), rfl, _, rfl, ?_⟩
    cases l with
    | nil =>
      cases (show xs = [] from hs)
      refine iteT (iteT (q H same))
    | cons x r =>
      obtain ⟨x1, ys, rfl, hx, hys⟩ := id hs
      rw [show decide (V.int (((x1 :: ys).length : Nat) : Int) = V.int 0) = false from decide_eq_false fun e => by
        have := V.int.inj e
        rw [List.length_cons] at this
        omega]
      refine iteF ?_
      refine ⟨_, rfl, a, _, 0, _, rfl, rfl, SqT.of ha, at0 _ _, x1, .ty "str", _, _, _, rfl, .ty "str", ty_of hx, kit_str x, ?_⟩
      cases x with
      | str z =>
        obtain ⟨hz, hzl⟩ := (show x1 = .str z ∧ z.length ≤ 1000 from hx)
        cases hz
        refine ⟨_, rfl, ?_⟩
        refine iteF ?_
        by_cases hw : z ∈ words
        · obtain ⟨fz, e1, e2⟩ := T.formIn z hw
          refine ⟨rfl, _, rfl, a, _, 0, _, rfl, rfl, SqT.of ha, at0 _ _, z, _, .ref fz, rfl, e1, rfl, ?_⟩
          refine ⟨_, rfl, rfl, _, rfl, ?_⟩
          rw [show (!decide (V.ref fz = V.non)) = true by rw [decide_eq_false (by intro e; cases e)]; rfl]
          refine iteT ?_
          exact ⟨fz, _, rfl, e2, _, rfl, B, .ref a, z, r, rfl, hat, hsz, fun H1 s1 => q H1 s1⟩
        · refine ⟨rfl, _, rfl, a, _, 0, _, rfl, rfl, SqT.of ha, at0 _ _, z, _, .non, rfl, T.formOut z hw, rfl, ?_⟩
          refine ⟨_, rfl, rfl, _, rfl, ?_⟩
          rw [show (!decide (V.non = V.non)) = false by rw [decide_eq_true rfl]; rfl]
          refine iteF ?_
          have q' := q H same
          rw [show formB (.tup (.str z :: r)) = false from form_out hw r] at q'
          exact q'
      | int i => exact ⟨_, rfl, iteT (q H same)⟩
      | bl b => exact ⟨_, rfl, iteT (q H same)⟩
      | non => exact ⟨_, rfl, iteT (q H same)⟩
      | tup l => exact ⟨_, rfl, iteT (q H same)⟩
      | lst l => exact ⟨_, rfl, iteT (q H same)⟩
  | int i => exact ⟨_, rfl, iteT (iteT (q H same))⟩
  | bl b => exact ⟨_, rfl, iteT (iteT (q H same))⟩
  | non => exact ⟨_, rfl, iteT (iteT (q H same))⟩
  | str s => exact ⟨_, rfl, iteT (iteT (q H same))⟩
  | lst l => exact ⟨_, rfl, iteT (iteT (q H same))⟩
/-- a def that gives the parts of one form -/
def spPart (C : List Dd → Prop) (g : List Dd → List Dd) : Sp := fun vs H Q _ => ∃ (B : Addr → Prop) (v : V) (w : Str) (r : List Dd), vs = [v] ∧ (Dd.tup (.str w :: r)).At B H v ∧ (Dd.tup (.str w :: r)).sz ≤ 1000000 ∧ C r ∧ ∀ (b : Addr) (xs : List V) (H' : Hp), Same H H' → H' b = some (.tup xs) → Dd.Ats B H' (g r) xs → Q (.ref b) H'
abbrev sPApp : Stmt := topS 48
theorem scPApp : FnScope ["term"] ["term"] (defScope sPApp) := ⟨rfl, rfl, rfl, by decide +kernel, rfl, by decide +kernel, by decide +kernel⟩
theorem c_PApp {f : Addr} {fd : FuncData} (F : Fun K "_app_parts" "_app_parts" sPApp f fd) (b : Binds K fd ["term"] []) (hm : mg "_app_parts" = some (.ref f)) : C8.Cal P w K mg base 2 "_app_parts" (spPart (fun r => r.length = 2) fun r => r) [] := by
  refine cal_of F hm b scPApp (fun vs H Q E h => ?_) (fun cdv A outer s H vs Q E hr h => ?_)
  · obtain ⟨B, v, w', r, rfl, _⟩ := h
    rfl
  obtain ⟨B, v, w', r, rfl, hat, hsz, hc, q⟩ := h
  refine ⟨_, (pss_one (ps_ret (pe_slice sl_tupA (pv 0) (po_some pe_int) po_none))), ?_⟩
  obtain ⟨a, ys, rfl, ha, hs, hyl, hw⟩ := head_at hat
  refine ⟨_, rfl, _, rfl, a, _, rfl, SqT.of ha, fun h => absurd h.1 (cut_no1 1 _ _ (by rw [List.length_cons]; omega)), fun _ p hp => ?_⟩
  rw [show cutV (V.str w' :: ys) (some 1) none = ys from cut_from (.str w' :: ys) 1 (by rw [List.length_cons]; omega)]
  exact q p ys _ (same_new hp _) upd_same (hs.keep (fr_same (same_new hp _)))
abbrev sPLater : Stmt := topS 49
theorem scPLater : FnScope ["term"] ["term"] (defScope sPLater) := ⟨rfl, rfl, rfl, by decide +kernel, rfl, by decide +kernel, by decide +kernel⟩
theorem c_PLater {f : Addr} {fd : FuncData} (F : Fun K "_later_parts" "_later_parts" sPLater f fd) (b : Binds K fd ["term"] []) (hm : mg "_later_parts" = some (.ref f)) : C8.Cal P w K mg base 2 "_later_parts" (spPart (fun r => r.length = 3) fun r => r.drop 1) [] := by
  refine cal_of F hm b scPLater (fun vs H Q E h => ?_) (fun cdv A outer s H vs Q E hr h => ?_)
  · obtain ⟨B, v, w', r, rfl, _⟩ := h
    rfl
  obtain ⟨B, v, w', r, rfl, hat, hsz, hc, q⟩ := h
  refine ⟨_, (pss_one (ps_ret (pe_slice sl_tupA (pv 0) (po_some pe_int) po_none))), ?_⟩
  obtain ⟨a, ys, rfl, ha, hs, hyl, hw⟩ := head_at hat
  refine ⟨_, rfl, _, rfl, a, _, rfl, SqT.of ha, fun h => absurd h.1 (cut_no1 2 _ _ (by rw [List.length_cons]; omega)), fun _ p hp => ?_⟩
  rw [show cutV (V.str w' :: ys) (some 2) none = ys.drop 1 from cut_from (.str w' :: ys) 2 (by rw [List.length_cons]; omega)]
  exact q p (ys.drop 1) _ (same_new hp _) upd_same ((ats_drop hs).keep (fr_same (same_new hp _)))
abbrev sPLam : Stmt := topS 46
theorem scPLam : FnScope ["term"] ["term"] (defScope sPLam) := ⟨rfl, rfl, rfl, by decide +kernel, rfl, by decide +kernel, by decide +kernel⟩
theorem c_PLam {f : Addr} {fd : FuncData} (F : Fun K "_lam_body" "_lam_body" sPLam f fd) (b : Binds K fd ["term"] []) (hm : mg "_lam_body" = some (.ref f)) : C8.Cal P w K mg base 2 "_lam_body" (spPart (fun r => r.length = 2) fun r => [arg 1 r]) [] := by
  refine cal_of F hm b scPLam (fun vs H Q E h => ?_) (fun cdv A outer s H vs Q E hr h => ?_)
  · obtain ⟨B, v, w', r, rfl, _⟩ := h
    rfl
  obtain ⟨B, v, w', r, rfl, hat, hsz, hc, q⟩ := h
  refine ⟨_, (pss_one (ps_ret (pe_tup (pa_cons (pe_ix ix_tup (pv 0) pe_int (fun _ _ => rfl)) pa_nil)))), ?_⟩
  obtain ⟨a, ys, rfl, ha, hs, hyl, hw⟩ := head_at hat
  obtain ⟨x, hx, hxa⟩ := arg_at (v0 := .str w') hs (i := 1) (by omega)
  refine ⟨_, rfl, a, _, 2, _, rfl, rfl, SqT.of ha, hx, by show 1 ≤ sizeLine; decide, fun t ht => ?_⟩
  exact q t [x] _ (same_new ht _) upd_same (ats_one (hxa.keep (fr_same (same_new ht _))))
abbrev sPNote : Stmt := topS 47
theorem scPNote : FnScope ["term"] ["term"] (defScope sPNote) := ⟨rfl, rfl, rfl, by decide +kernel, rfl, by decide +kernel, by decide +kernel⟩
theorem c_PNote {f : Addr} {fd : FuncData} (F : Fun K "_note_parts" "_note_parts" sPNote f fd) (b : Binds K fd ["term"] []) (hm : mg "_note_parts" = some (.ref f)) : C8.Cal P w K mg base 2 "_note_parts" (spPart (fun r => r.length = 2) fun r => [arg 1 r]) [] := by
  refine cal_of F hm b scPNote (fun vs H Q E h => ?_) (fun cdv A outer s H vs Q E hr h => ?_)
  · obtain ⟨B, v, w', r, rfl, _⟩ := h
    rfl
  obtain ⟨B, v, w', r, rfl, hat, hsz, hc, q⟩ := h
  refine ⟨_, (pss_one (ps_ret (pe_tup (pa_cons (pe_ix ix_tup (pv 0) pe_int (fun _ _ => rfl)) pa_nil)))), ?_⟩
  obtain ⟨a, ys, rfl, ha, hs, hyl, hw⟩ := head_at hat
  obtain ⟨x, hx, hxa⟩ := arg_at (v0 := .str w') hs (i := 1) (by omega)
  refine ⟨_, rfl, a, _, 2, _, rfl, rfl, SqT.of ha, hx, by show 1 ≤ sizeLine; decide, fun t ht => ?_⟩
  exact q t [x] _ (same_new ht _) upd_same (ats_one (hxa.keep (fr_same (same_new ht _))))
abbrev sPCon : Stmt := topS 50
theorem scPCon : FnScope ["term"] ["term"] (defScope sPCon) := ⟨rfl, rfl, rfl, by decide +kernel, rfl, by decide +kernel, by decide +kernel⟩
theorem c_PCon {f : Addr} {fd : FuncData} (F : Fun K "_con_parts" "_con_parts" sPCon f fd) (b : Binds K fd ["term"] []) (hm : mg "_con_parts" = some (.ref f)) : C8.Cal P w K mg base 2 "_con_parts" (spPart (fun r => r.length = 2 ∧ isTup (arg 1 r) = true) fun r => tl (arg 1 r)) [] := by
  refine cal_of F hm b scPCon (fun vs H Q E h => ?_) (fun cdv A outer s H vs Q E hr h => ?_)
  · obtain ⟨B, v, w', r, rfl, _⟩ := h
    rfl
  obtain ⟨B, v, w', r, rfl, hat, hsz, ⟨hc, hc2⟩, q⟩ := h
  refine ⟨_, (pss_one (ps_ret (pe_ix ix_tup (pv 0) pe_int (fun _ _ => rfl)))), ?_⟩
  obtain ⟨a, ys, rfl, ha, hs, hyl, hw⟩ := head_at hat
  obtain ⟨x, hx, hxa⟩ := arg_at (v0 := .str w') hs (i := 1) (by omega)
  cases hk : arg 1 r with
  | tup l =>
    rw [hk] at hxa
    obtain ⟨b2, xs2, rfl, hb, hbs⟩ := hxa
    refine ⟨_, rfl, a, _, 2, _, rfl, rfl, SqT.of ha, hx, q b2 xs2 H (fun _ _ e => e) hb ?_⟩
    show Dd.Ats B H (tl (arg 1 r)) xs2
    rw [hk]
    exact hbs
  | int i => rw [hk] at hc2; cases hc2
  | bl b => rw [hk] at hc2; cases hc2
  | non => rw [hk] at hc2; cases hc2
  | str s => rw [hk] at hc2; cases hc2
  | lst l => rw [hk] at hc2; cases hc2
/-- pairs, in a tuple -/
def PairsD (k : Dd) : Prop := ∃ l, k = .tup l ∧ ∀ q ∈ l, ∃ m, q = .tup m ∧ m.length = 2
abbrev sPLet : Stmt := topS 51
theorem scPLet : FnScope ["term", "_", "inner"] ["term"] (defScope sPLet) := ⟨rfl, rfl, rfl, by decide +kernel, rfl, by decide +kernel, by decide +kernel⟩
theorem c_PLet {f : Addr} {fd : FuncData} (F : Fun K "_let_parts" "_let_parts" sPLet f fd) (b : Binds K fd ["term"] []) (hm : mg "_let_parts" = some (.ref f)) : C8.Cal P w K mg base 2 "_let_parts" (spPart (fun r => r.length = 2 ∧ PairsD (arg 0 r)) gLet) [] := by
  refine cal_of F hm b scPLet (fun vs H Q E h => ?_) (fun cdv A outer s H vs Q E hr h => ?_)
  · obtain ⟨B, v, w', r, rfl, _⟩ := h
    rfl
  obtain ⟨B, v, w', r, rfl, hat, hsz, ⟨hc, l, el, hrows⟩, q⟩ := h
  refine ⟨_, (pss_one (ps_ret (pe_tup (StX.pa_star (pe_lc (own := [("_", 1), ("inner", 2)]) (g := gTup K 2 (gCons (gName 1) (gCons (gName 2) (gNil)))) (tt := tYes) rfl scPLet.nd (pi_tup (pe_ix ix_tup (pv 0) pe_int (fun _ _ => rfl))) (blkOk_by (own := [("_", 1), ("inner", 2)]) (N := ["term", "_", "inner"]) (sc := defScope sPLet) (by decide +kernel)) (fun _ _ _ _ _ => (pg_tup rfl (pgs_cons (pg_name (i := 1) scPLet.nd rfl (Or.inl rfl)) (pgs_cons (pg_name (i := 2) scPLet.nd rfl (Or.inl rfl)) pgs_nil)))) (fun _ _ _ _ _ => pts_nil) (fun _ _ _ _ _ => (pv 2))) (pa_cons (pe_ix ix_tup (pv 0) pe_int (fun _ _ => rfl)) pa_nil))))), ?_⟩
  obtain ⟨a, ys, rfl, ha, hs, hyl, hw⟩ := head_at hat
  obtain ⟨x, hx, hxa⟩ := arg_at (v0 := .str w') hs (i := 0) (by omega)
  obtain ⟨y, hy, hya⟩ := arg_at (v0 := .str w') hs (i := 1) (by omega)
  have hz := arg_sz (w := w') (r := r) 0
  rw [el] at hxa hz
  obtain ⟨b2, xs2, rfl, hb, hbs⟩ := hxa
  have hxl := ats_len hbs
  have hlz := szs_len l
  have hz : 1 + Dd.szs l ≤ _ := hz
  refine ⟨_, rfl, a, _, 1, _, rfl, rfl, SqT.of ha, hx, b2, rfl, ⟨_, SqT.of hb⟩, fun D hD => ?_⟩
  refine lc_tup (K := K) (a := b2) (xs := xs2) (fun i G => Same H G ∧ ∃ zs, G D = some (.lst zs) ∧ Dd.Ats B H ((l.take i).map (nth 1)) zs) ⟨same_new hD _, [], upd_same, rfl⟩ (fun i G hi ⟨h1, _⟩ => SqT.of (h1 _ _ hb)) ?_ ?_
  · rintro i x G hx ⟨h1, zs, h2, h3⟩
    obtain ⟨k, hk, hkat⟩ := ats_get hbs hx
    have hil : i < l.length := (List.getElem?_eq_some_iff.mp hk).1
    obtain ⟨m, rfl, hm2⟩ := hrows k (List.mem_of_getElem? hk)
    obtain ⟨t, x1, y1, rfl, ht, hx1, hy1⟩ := pair_at hkat hm2
    have hzl := ats_len h3
    rw [List.length_map, List.length_take] at hzl
    refine ⟨t, _, rfl, SqT.of (h1 _ _ ht), rfl, _, _, rfl, _, _, rfl, rfl, rfl, ?_⟩
    refine tYes_if ?_
    refine ⟨_, rfl, zs, h2, ?_, same_upd hD h1 _, zs ++ [y1], upd_same, ?_⟩
    · have := big; omega
    · rw [List.take_add_one, hk, List.map_append]
      exact ats_app h3 (ats_one hy1)
  rintro G ⟨h1, zs, h2, h3⟩
  rw [hxl, List.take_length] at h3
  have hzl := ats_len h3
  rw [List.length_map] at hzl
  refine ⟨D, zs, rfl, .inr (SqL.of h2), _, rfl, a, _, 2, _, rfl, rfl, SqT.of (h1 _ _ ha), hy, ?_, fun t ht => ?_⟩
  · have := big
    rw [List.length_append]
    show zs.length + 1 ≤ _
    omega
  have s3 := sameT h1 (same_new ht (.tup (zs ++ [y])))
  refine q t _ _ s3 upd_same ?_
  unfold gLet
  rw [el]
  exact ats_app (h3.keep (fr_same s3)) (ats_one (hya.keep (fr_same s3)))
theorem last_at {B : Addr → Prop} {H : Hp} {m : List Dd} {ys : List V} (h : Dd.Ats B H m ys) (hm : 0 < m.length) : ∃ y, atI ys (-1) = some y ∧ (lastD (.tup m)).At B H y := by
  have hl := ats_len h
  obtain ⟨y, hy, hya⟩ := ats_getI h (List.getElem?_eq_getElem (show m.length - 1 < m.length by omega))
  refine ⟨y, ?_, ?_⟩
  · have e : ixN ys.length (-1) = some (ys.length - 1) := by
      unfold ixN
      rw [if_neg (by decide), if_pos (by omega)]
      exact congrArg some (by omega)
    show (ixN ys.length (-1)).bind (fun j => ys[j]?) = _
    rw [e]
    show ys[ys.length - 1]? = _
    rw [hl]
    exact hy
  · show (m.getLastD .non).At B H y
    rw [List.getLastD_eq_getLast?, List.getLast?_eq_getElem?, List.getElem?_eq_getElem (show m.length - 1 < m.length by omega)]
    exact hya
abbrev sPDflt : Stmt := topS 45
theorem scPDflt : FnScope ["term"] ["term"] (defScope sPDflt) := ⟨rfl, rfl, rfl, by decide +kernel, rfl, by decide +kernel, by decide +kernel⟩
theorem c_PDflt {f : Addr} {fd : FuncData} (F : Fun K "_default_parts" "_default_parts" sPDflt f fd) (b : Binds K fd ["term"] []) (hm : mg "_default_parts" = some (.ref f)) : C8.Cal P w K mg base 1 "_default_parts" (spPart (fun r => r.length = 3 ∧ isDflt (arg 2 r) = true) fun r => dfltP (arg 2 r)) [] := by
  refine cal_of F hm b scPDflt (fun vs H Q E h => ?_) (fun cdv A outer s H vs Q E hr h => ?_)
  · obtain ⟨B, v, w', r, rfl, _⟩ := h
    rfl
  obtain ⟨B, v, w', r, rfl, hat, hsz, ⟨hc, hd⟩, q⟩ := h
  refine ⟨_, (pss_one (ps_ret (pe_ifExp (pt_cmpR op_isN (pe_ix ix_tup (pv 0) pe_int (fun _ _ => rfl)) pe_non (nomark _)) (pe_tup pa_nil) (pe_tup (pa_cons (pe_ix ix_tup (pe_ix ix_tup (pv 0) pe_int (fun _ _ => rfl)) pe_int (fun _ _ => rfl)) pa_nil))))), ?_⟩
  obtain ⟨a, ys, rfl, ha, hs, hyl, hw⟩ := head_at hat
  obtain ⟨x, hx, hxa⟩ := arg_at (v0 := .str w') hs (i := 2) (by omega)
  refine ⟨_, rfl, a, _, 3, _, rfl, rfl, SqT.of ha, hx, rfl, _, rfl, ?_⟩
  by_cases hk : arg 2 r = .non
  · rw [hk] at hxa
    cases (show x = .non from hxa)
    rw [decide_eq_true rfl]
    refine iteT ?_
    refine ⟨by show 0 ≤ sizeLine; decide, fun t ht => q t [] _ (same_new ht _) upd_same ?_⟩
    show Dd.Ats B _ (dfltP (arg 2 r)) []
    rw [hk]
    exact rfl
  · rw [decide_eq_false (ne_non hxa hk)]
    refine iteF ?_
    have hd2 := hd
    rw [dflt_eq hk, Bool.and_eq_true] at hd2
    have e2 : dfltP (arg 2 r) = [nth 1 (arg 2 r)] := by
      cases h : arg 2 r with
      | non => exact absurd h hk
      | tup l => rfl
      | int i => rfl
      | bl b => rfl
      | str s => rfl
      | lst l => rfl
    cases h : arg 2 r with
    | tup l =>
      rw [h] at hxa hd2 e2
      have hl2 : l.length = 2 := of_decide_eq_true hd2.1
      obtain ⟨b2, xs2, rfl, hb, hbs⟩ := hxa
      obtain ⟨y, hy, hya⟩ := nth_at hbs (i := 1) (by omega)
      refine ⟨_, rfl, a, _, 3, _, rfl, rfl, SqT.of ha, hx, b2, _, 1, _, rfl, rfl, SqT.of hb, hy, by show 1 ≤ sizeLine; decide, fun t ht => ?_⟩
      refine q t [y] _ (same_new ht _) upd_same ?_
      show Dd.Ats B _ (dfltP (arg 2 r)) [y]
      rw [h, e2]
      exact ats_one (hya.keep (fr_same (same_new ht _)))
    | non => exact absurd h hk
    | int i => rw [h] at hd2; cases hd2.1
    | bl b => rw [h] at hd2; cases hd2.1
    | str s => rw [h] at hd2; cases hd2.1
    | lst l => rw [h] at hd2; cases hd2.1
/-- rows that are not empty, in a tuple -/
def RowsD (k : Dd) : Prop := ∃ l, k = .tup l ∧ ∀ q ∈ l, ∃ m, q = .tup m ∧ 0 < m.length
abbrev sPChoice : Stmt := topS 52
theorem scPChoice : FnScope ["term", "alternative"] ["term"] (defScope sPChoice) := ⟨rfl, rfl, rfl, by decide +kernel, rfl, by decide +kernel, by decide +kernel⟩
theorem c_PChoice {f : Addr} {fd : FuncData} (c_default_parts : C8.Cal P w K mg base 1 "_default_parts" (spPart (fun r => r.length = 3 ∧ isDflt (arg 2 r) = true) fun r => dfltP (arg 2 r)) []) (F : Fun K "_choice_parts" "_choice_parts" sPChoice f fd) (b : Binds K fd ["term"] []) (hm : mg "_choice_parts" = some (.ref f)) : C8.Cal P w K mg base 2 "_choice_parts" (spPart (fun r => r.length = 3 ∧ RowsD (arg 1 r) ∧ isDflt (arg 2 r) = true) gChoice) [] := by
  refine cal_of F hm b scPChoice (fun vs H Q E h => ?_) (fun cdv A outer s H vs Q E hr h => ?_)
  · obtain ⟨B, v, w', r, rfl, _⟩ := h
    rfl
  obtain ⟨B, v, w', r, rfl, hat, hsz, ⟨hc, ⟨l, el, hrows⟩, hd⟩, q⟩ := h
  refine ⟨_, (pss_one (ps_ret (pe_tup (pa_cons (pe_ix ix_tup (pv 0) pe_int (fun _ _ => rfl)) (StX.pa_star (pe_lc (own := [("alternative", 1)]) (g := gName 1) (tt := tYes) (te := (tOp (rIxT K) (tVar 1) (tUn (rU fun i => V.int (-i)) (tC (.int 1))))) rfl scPChoice.nd (pi_tup (pe_ix ix_tup (pv 0) pe_int (fun _ _ => rfl))) (blkOk_by (own := [("alternative", 1)]) (N := ["term", "alternative"]) (sc := defScope sPChoice) (by decide +kernel)) (fun _ _ _ _ _ => (pg_name (i := 1) scPChoice.nd rfl (Or.inl rfl))) (fun _ _ _ _ _ => pts_nil) (fun _ _ _ _ _ => (pe_ix ix_tup (pv 1) (pe_un un_neg pe_int) (fun _ _ => rfl)))) (StX.pa_star (C8.pe_c c_default_parts hr (by decide) rfl (pa_cons (pv 0) pa_nil)) pa_nil)))))), ?_⟩
  obtain ⟨a, ys, rfl, ha, hs, hyl, hw⟩ := head_at hat
  obtain ⟨x0, hx0, hxa0⟩ := arg_at (v0 := .str w') hs (i := 0) (by omega)
  obtain ⟨x, hx, hxa⟩ := arg_at (v0 := .str w') hs (i := 1) (by omega)
  have hz := arg_sz (w := w') (r := r) 1
  rw [el] at hxa hz
  obtain ⟨b2, xs2, rfl, hb, hbs⟩ := hxa
  have hxl := ats_len hbs
  have hlz := szs_len l
  have hz : 1 + Dd.szs l ≤ _ := hz
  refine ⟨_, rfl, a, _, 1, _, rfl, rfl, SqT.of ha, hx0, ?_⟩
  refine ⟨_, rfl, a, _, 2, _, rfl, rfl, SqT.of ha, hx, b2, rfl, ⟨_, SqT.of hb⟩, fun D hD => ?_⟩
  refine lc_tup (K := K) (a := b2) (xs := xs2) (fun i G => Same H G ∧ ∃ zs, G D = some (.lst zs) ∧ Dd.Ats B H ((l.take i).map lastD) zs) ⟨same_new hD _, [], upd_same, rfl⟩ (fun i G hi ⟨h1, _⟩ => SqT.of (h1 _ _ hb)) ?_ ?_
  · rintro i x G hx ⟨h1, zs, h2, h3⟩
    obtain ⟨k, hk, hkat⟩ := ats_get hbs hx
    have hil : i < l.length := (List.getElem?_eq_some_iff.mp hk).1
    obtain ⟨m, rfl, hm2⟩ := hrows k (List.mem_of_getElem? hk)
    obtain ⟨t, xs3, rfl, ht, hts⟩ := hkat
    obtain ⟨y1, hy1, hya1⟩ := last_at hts hm2
    have hzl := ats_len h3
    rw [List.length_map, List.length_take] at hzl
    refine ⟨rfl, ?_⟩
    refine tYes_if ?_
    refine ⟨_, rfl, _, rfl, t, _, -1, _, rfl, rfl, SqT.of (h1 _ _ ht), hy1, zs, h2, ?_, same_upd hD h1 _, zs ++ [y1], upd_same, ?_⟩
    · have := big; omega
    · rw [List.take_add_one, hk, List.map_append]
      exact ats_app h3 (ats_one hya1)
  rintro G ⟨h1, zs, h2, h3⟩
  rw [hxl, List.take_length] at h3
  have hzl := ats_len h3
  rw [List.length_map] at hzl
  refine ⟨D, zs, rfl, .inr (SqL.of h2), ?_⟩
  refine ⟨_, rfl, B, .ref a, w', r, rfl, hat.keep (fr_same h1), hsz, ⟨hc, hd⟩, fun b3 xs3 G2 s2 hb3 hats3 => ?_⟩
  have hd3 : xs3.length ≤ 1 := by
    rw [ats_len hats3]
    show (dfltP (arg 2 r)).length ≤ 1
    unfold dfltP
    split <;> simp
  refine ⟨b3, xs3, rfl, .inl (SqT.of hb3), ?_, fun t ht => ?_⟩
  · have := big
    simp only [List.append_nil, List.length_cons, List.length_append]
    omega
  have s12 := sameT h1 s2
  have s3 := same_new ht (.tup (x0 :: (zs ++ (xs3 ++ []))))
  refine q t _ _ (sameT s12 s3) upd_same ?_
  generalize upd G2 t (.tup (x0 :: (zs ++ (xs3 ++ [])))) = G3 at s3 ⊢
  unfold gChoice
  rw [el, List.append_nil]
  exact ⟨x0, _, rfl, hxa0.keep (fr_same (sameT s12 s3)), ats_app (h3.keep (fr_same (sameT s12 s3))) (hats3.keep (fr_same s3))⟩
end
end Toy

set_option Elab.async false
set_option linter.all false
set_option maxRecDepth 100000
set_option maxHeartbeats 4000000
/-! Part G: the parts of any term; whether something is a term. -/
namespace Toy
open PySem L2
open PyProof.Rows (envOfC)
def pwords : List Str := ["app", "lam", "let", "seq", "con", "case", "pick", "prim", "note"]
theorem parts_out {z : Str} (h : z ∉ pwords) (r : List Dd) : partsW z r = [] := by
  simp only [pwords, List.mem_cons, List.not_mem_nil, or_false, not_or] at h
  obtain ⟨h3, h4, h5, h6, h7, h8, h9, h10, h11⟩ := h
  unfold partsW
  rw [if_neg h3, if_neg h4, if_neg h5, if_neg h6, if_neg h7, if_neg h8, if_neg h9, if_neg h10, if_neg h11]
structure TxtN (P : Program) (w : World) (K : PySem.W.Frag) (mg : Str → Option Value) (base : Heap) (aP : Addr) (es : Array DictEntry) (n : Nat) (sP : Addr → Option Sp) : Prop where
  kP : KDict K w aP es n
  gPARTS : ∃ u, mg "PARTS" = some u ∧ RelV (.ref aP) u
  partIn : ∀ z ∈ pwords, ∃ f C g, PySem.W.nsIn K aP z = some (some (.ref f)) ∧ sP f = some (spPart C g) ∧ (∀ r, formW z r = true → C r) ∧ ∀ r, partsW z r = g r
  partOut : ∀ z, z ∉ pwords → PySem.W.nsIn K aP z = some none
  heldP : ∀ f sp, sP f = some sp → Held P w K mg base 2 f sp
section
variable {P : Program} {w : World} {K : PySem.W.Frag} {mg : Str → Option Value} {base : Heap} {aP : Addr} {es : Array DictEntry} {n : Nat} {sP : Addr → Option Sp}
theorem form_tup {k : Dd} (h : formB k = true) : ∃ z r, k = .tup (.str z :: r) ∧ formW z r = true := by
  cases k with
  | tup l =>
    cases l with
    | nil => cases h
    | cons x r =>
      cases x with
      | str z => exact ⟨z, r, rfl, h⟩
      | int i => cases h
      | bl b => cases h
      | non => cases h
      | tup l => cases h
      | lst l => cases h
  | int i => cases h
  | bl b => cases h
  | non => cases h
  | str s => cases h
  | lst l => cases h
abbrev sParts : Stmt := topS 40
theorem scParts : FnScope ["term", "find"] ["term"] (defScope sParts) := ⟨rfl, rfl, rfl, by decide +kernel, rfl, by decide +kernel, by decide +kernel⟩
def spParts : Sp := fun vs H Q _ => ∃ (B : Addr → Prop) (v : V) (k : Dd), vs = [v] ∧ k.At B H v ∧ formB k = true ∧ k.sz ≤ 1000000 ∧ ∀ (b : Addr) (xs : List V) (H' : Hp), Same H H' → H' b = some (.tup xs) → Dd.Ats B H' (partsD k) xs → Q (.ref b) H'
theorem c_parts {f : Addr} {fd : FuncData} (T : TxtN P w K mg base aP es n sP) (F : Fun K "parts_of" "parts_of" sParts f fd) (b : Binds K fd ["term"] []) (hm : mg "parts_of" = some (.ref f)) : C8.Cal P w K mg base 3 "parts_of" spParts [] := by
  refine cal_of F hm b scParts (fun vs H Q E h => ?_) (fun cdv A outer s H vs Q E hr h => ?_)
  · obtain ⟨B, v, k, rfl, _⟩ := h
    rfl
  obtain ⟨B, v, k, rfl, hat, hform, hsz, q⟩ := h
  refine ⟨_, (pss_cons (ps_set (i := 1) scParts.nd rfl (Or.inl rfl) (pe_kget T.kP (C8.pe_gc rfl T.gPARTS) (pe_ix ix_tup (pv 0) pe_int (fun _ _ => rfl)) ⟨rfl, rfl, rfl, rfl⟩))
    (pss_one (ps_ret (pe_ifExp (pt_cmpR op_isN (pv 1) pe_non (nomark _)) (pe_tup pa_nil) (pe_callA (i := 1) T.heldP (hr.mono (by decide)) rfl (Or.inl rfl) (pa_cons (pv 0) pa_nil)))))), ?_⟩
  obtain ⟨z, r, rfl, hf⟩ := form_tup hform
  obtain ⟨a, ys, rfl, ha, hs, hyl, hw⟩ := head_at hat
  by_cases hp : z ∈ pwords
  · obtain ⟨fz, C, g, e1, e2, e3, e4⟩ := T.partIn z hp
    refine ⟨rfl, _, rfl, a, _, 0, _, rfl, rfl, SqT.of ha, at0 _ _, z, _, .ref fz, rfl, e1, rfl, ?_⟩
    refine ⟨_, rfl, rfl, _, rfl, ?_⟩
    rw [decide_eq_false (show ¬ V.ref fz = V.non by intro e; cases e)]
    refine iteF ?_
    refine ⟨fz, _, rfl, e2, _, rfl, B, .ref a, z, r, rfl, hat, hsz, e3 r hf, fun b2 xs H' s' hb hats => q b2 xs H' s' hb ?_⟩
    show Dd.Ats B H' (partsW z r) xs
    rw [e4 r]
    exact hats
  · refine ⟨rfl, _, rfl, a, _, 0, _, rfl, rfl, SqT.of ha, at0 _ _, z, _, .non, rfl, T.partOut z hp, rfl, ?_⟩
    refine ⟨_, rfl, rfl, _, rfl, ?_⟩
    rw [decide_eq_true rfl]
    refine iteT ?_
    refine ⟨by show 0 ≤ sizeLine; decide, fun t ht => q t [] _ (same_new ht _) upd_same ?_⟩
    show Dd.Ats B _ (partsW z r) []
    rw [parts_out hp]
    exact rfl
/-! ### is_term -/
theorem szs_tl (k : Dd) : Dd.szs (tl k) ≤ k.sz - 1 := by
  cases k with
  | tup l => show Dd.szs l ≤ 1 + Dd.szs l - 1; omega
  | int i => exact Nat.zero_le _
  | bl b => exact Nat.zero_le _
  | non => exact Nat.zero_le _
  | str s => exact Nat.zero_le _
  | lst l => exact Nat.zero_le _
theorem fw_num (r : List Dd) : formW "num" r = fNum r := by
  unfold formW
  rw [if_pos rfl]
theorem fw_var (r : List Dd) : formW "var" r = fVar r := by
  unfold formW
  rw [if_neg (show ¬ ("var" : Str) = "num" by decide +kernel), if_pos rfl]
theorem fw_app (r : List Dd) : formW "app" r = fApp r := by
  unfold formW
  rw [if_neg (show ¬ ("app" : Str) = "num" by decide +kernel), if_neg (show ¬ ("app" : Str) = "var" by decide +kernel), if_pos rfl]
theorem fw_lam (r : List Dd) : formW "lam" r = fLam r := by
  unfold formW
  rw [if_neg (show ¬ ("lam" : Str) = "num" by decide +kernel), if_neg (show ¬ ("lam" : Str) = "var" by decide +kernel), if_neg (show ¬ ("lam" : Str) = "app" by decide +kernel), if_pos rfl]
theorem fw_let (r : List Dd) : formW "let" r = fLet r := by
  unfold formW
  rw [if_neg (show ¬ ("let" : Str) = "num" by decide +kernel), if_neg (show ¬ ("let" : Str) = "var" by decide +kernel), if_neg (show ¬ ("let" : Str) = "app" by decide +kernel), if_neg (show ¬ ("let" : Str) = "lam" by decide +kernel), if_pos rfl]
theorem fw_seq (r : List Dd) : formW "seq" r = fSeq r := by
  unfold formW
  rw [if_neg (show ¬ ("seq" : Str) = "num" by decide +kernel), if_neg (show ¬ ("seq" : Str) = "var" by decide +kernel), if_neg (show ¬ ("seq" : Str) = "app" by decide +kernel), if_neg (show ¬ ("seq" : Str) = "lam" by decide +kernel), if_neg (show ¬ ("seq" : Str) = "let" by decide +kernel), if_pos rfl]
theorem fw_con (r : List Dd) : formW "con" r = fCon r := by
  unfold formW
  rw [if_neg (show ¬ ("con" : Str) = "num" by decide +kernel), if_neg (show ¬ ("con" : Str) = "var" by decide +kernel), if_neg (show ¬ ("con" : Str) = "app" by decide +kernel), if_neg (show ¬ ("con" : Str) = "lam" by decide +kernel), if_neg (show ¬ ("con" : Str) = "let" by decide +kernel), if_neg (show ¬ ("con" : Str) = "seq" by decide +kernel), if_pos rfl]
theorem fw_case (r : List Dd) : formW "case" r = fCase r := by
  unfold formW
  rw [if_neg (show ¬ ("case" : Str) = "num" by decide +kernel), if_neg (show ¬ ("case" : Str) = "var" by decide +kernel), if_neg (show ¬ ("case" : Str) = "app" by decide +kernel), if_neg (show ¬ ("case" : Str) = "lam" by decide +kernel), if_neg (show ¬ ("case" : Str) = "let" by decide +kernel), if_neg (show ¬ ("case" : Str) = "seq" by decide +kernel), if_neg (show ¬ ("case" : Str) = "con" by decide +kernel), if_pos rfl]
theorem fw_pick (r : List Dd) : formW "pick" r = fPick r := by
  unfold formW
  rw [if_neg (show ¬ ("pick" : Str) = "num" by decide +kernel), if_neg (show ¬ ("pick" : Str) = "var" by decide +kernel), if_neg (show ¬ ("pick" : Str) = "app" by decide +kernel), if_neg (show ¬ ("pick" : Str) = "lam" by decide +kernel), if_neg (show ¬ ("pick" : Str) = "let" by decide +kernel), if_neg (show ¬ ("pick" : Str) = "seq" by decide +kernel), if_neg (show ¬ ("pick" : Str) = "con" by decide +kernel), if_neg (show ¬ ("pick" : Str) = "case" by decide +kernel), if_pos rfl]
theorem fw_prim (r : List Dd) : formW "prim" r = fPrim r := by
  unfold formW
  rw [if_neg (show ¬ ("prim" : Str) = "num" by decide +kernel), if_neg (show ¬ ("prim" : Str) = "var" by decide +kernel), if_neg (show ¬ ("prim" : Str) = "app" by decide +kernel), if_neg (show ¬ ("prim" : Str) = "lam" by decide +kernel), if_neg (show ¬ ("prim" : Str) = "let" by decide +kernel), if_neg (show ¬ ("prim" : Str) = "seq" by decide +kernel), if_neg (show ¬ ("prim" : Str) = "con" by decide +kernel), if_neg (show ¬ ("prim" : Str) = "case" by decide +kernel), if_neg (show ¬ ("prim" : Str) = "pick" by decide +kernel), if_pos rfl]
theorem fw_note (r : List Dd) : formW "note" r = fNote r := by
  unfold formW
  rw [if_neg (show ¬ ("note" : Str) = "num" by decide +kernel), if_neg (show ¬ ("note" : Str) = "var" by decide +kernel), if_neg (show ¬ ("note" : Str) = "app" by decide +kernel), if_neg (show ¬ ("note" : Str) = "lam" by decide +kernel), if_neg (show ¬ ("note" : Str) = "let" by decide +kernel), if_neg (show ¬ ("note" : Str) = "seq" by decide +kernel), if_neg (show ¬ ("note" : Str) = "con" by decide +kernel), if_neg (show ¬ ("note" : Str) = "case" by decide +kernel), if_neg (show ¬ ("note" : Str) = "pick" by decide +kernel), if_neg (show ¬ ("note" : Str) = "prim" by decide +kernel), if_pos rfl]
theorem pw_app (r : List Dd) : partsW "app" r = r := by
  unfold partsW
  rw [if_pos rfl]
theorem pw_lam (r : List Dd) : partsW "lam" r = [arg 1 r] := by
  unfold partsW
  rw [if_neg (show ¬ ("lam" : Str) = "app" by decide +kernel), if_pos rfl]
theorem pw_let (r : List Dd) : partsW "let" r = gLet r := by
  unfold partsW
  rw [if_neg (show ¬ ("let" : Str) = "app" by decide +kernel), if_neg (show ¬ ("let" : Str) = "lam" by decide +kernel), if_pos rfl]
theorem pw_seq (r : List Dd) : partsW "seq" r = r.drop 1 := by
  unfold partsW
  rw [if_neg (show ¬ ("seq" : Str) = "app" by decide +kernel), if_neg (show ¬ ("seq" : Str) = "lam" by decide +kernel), if_neg (show ¬ ("seq" : Str) = "let" by decide +kernel), if_pos rfl]
theorem pw_con (r : List Dd) : partsW "con" r = tl (arg 1 r) := by
  unfold partsW
  rw [if_neg (show ¬ ("con" : Str) = "app" by decide +kernel), if_neg (show ¬ ("con" : Str) = "lam" by decide +kernel), if_neg (show ¬ ("con" : Str) = "let" by decide +kernel), if_neg (show ¬ ("con" : Str) = "seq" by decide +kernel), if_pos rfl]
theorem pw_case (r : List Dd) : partsW "case" r = gChoice r := by
  unfold partsW
  rw [if_neg (show ¬ ("case" : Str) = "app" by decide +kernel), if_neg (show ¬ ("case" : Str) = "lam" by decide +kernel), if_neg (show ¬ ("case" : Str) = "let" by decide +kernel), if_neg (show ¬ ("case" : Str) = "seq" by decide +kernel), if_neg (show ¬ ("case" : Str) = "con" by decide +kernel), if_pos rfl]
theorem pw_pick (r : List Dd) : partsW "pick" r = gChoice r := by
  unfold partsW
  rw [if_neg (show ¬ ("pick" : Str) = "app" by decide +kernel), if_neg (show ¬ ("pick" : Str) = "lam" by decide +kernel), if_neg (show ¬ ("pick" : Str) = "let" by decide +kernel), if_neg (show ¬ ("pick" : Str) = "seq" by decide +kernel), if_neg (show ¬ ("pick" : Str) = "con" by decide +kernel), if_neg (show ¬ ("pick" : Str) = "case" by decide +kernel), if_pos rfl]
theorem pw_prim (r : List Dd) : partsW "prim" r = r.drop 1 := by
  unfold partsW
  rw [if_neg (show ¬ ("prim" : Str) = "app" by decide +kernel), if_neg (show ¬ ("prim" : Str) = "lam" by decide +kernel), if_neg (show ¬ ("prim" : Str) = "let" by decide +kernel), if_neg (show ¬ ("prim" : Str) = "seq" by decide +kernel), if_neg (show ¬ ("prim" : Str) = "con" by decide +kernel), if_neg (show ¬ ("prim" : Str) = "case" by decide +kernel), if_neg (show ¬ ("prim" : Str) = "pick" by decide +kernel), if_pos rfl]
theorem pw_note (r : List Dd) : partsW "note" r = [arg 1 r] := by
  unfold partsW
  rw [if_neg (show ¬ ("note" : Str) = "app" by decide +kernel), if_neg (show ¬ ("note" : Str) = "lam" by decide +kernel), if_neg (show ¬ ("note" : Str) = "let" by decide +kernel), if_neg (show ¬ ("note" : Str) = "seq" by decide +kernel), if_neg (show ¬ ("note" : Str) = "con" by decide +kernel), if_neg (show ¬ ("note" : Str) = "case" by decide +kernel), if_neg (show ¬ ("note" : Str) = "pick" by decide +kernel), if_neg (show ¬ ("note" : Str) = "prim" by decide +kernel), if_pos rfl]
theorem szs_two {r : List Dd} (h : r.length = 2) : Dd.szs r = (arg 0 r).sz + (arg 1 r).sz := by
  match r, h with
  | [a, b], _ => show a.sz + (b.sz + 0) = a.sz + b.sz; omega
theorem szs_three {r : List Dd} (h : r.length = 3) : Dd.szs r = (arg 0 r).sz + (arg 1 r).sz + (arg 2 r).sz := by
  match r, h with
  | [a, b, c], _ => show a.sz + (b.sz + (c.sz + 0)) = a.sz + b.sz + c.sz; omega
theorem last_sz (k : Dd) : (lastD k).sz ≤ k.sz := by
  cases k with
  | tup l =>
    show (l.getLastD .non).sz ≤ 1 + Dd.szs l
    rw [List.getLastD_eq_getLast?]
    cases h : l.getLast? with
    | none => show 1 ≤ _; omega
    | some q =>
      have := szs_mem (List.mem_of_getLast? h)
      show q.sz ≤ _
      omega
  | int i => exact sz_pos _
  | bl b => exact sz_pos _
  | non => exact sz_pos _
  | str s => exact sz_pos _
  | lst l => exact sz_pos _
theorem lasts_sz : ∀ l : List Dd, Dd.szs (l.map lastD) ≤ Dd.szs l
  | [] => Nat.le_refl _
  | k :: l => by
    have h1 := last_sz k
    have h2 := lasts_sz l
    show (lastD k).sz + Dd.szs (l.map lastD) ≤ k.sz + Dd.szs l
    omega
theorem drop_sz : ∀ r : List Dd, Dd.szs (r.drop 1) ≤ Dd.szs r
  | [] => Nat.le_refl _
  | k :: r => by show Dd.szs r ≤ k.sz + Dd.szs r; omega
theorem dflt_sz (d : Dd) : Dd.szs (dfltP d) ≤ d.sz := by
  have h := nth_sz 1 d
  unfold dfltP
  split
  · exact Nat.zero_le _
  · show (nth 1 d).sz + 0 ≤ d.sz
    omega
theorem fand {a b : Bool} (h : (a && b) = true) : a = true ∧ b = true := by rwa [Bool.and_eq_true] at h
theorem parts_sz {k : Dd} (h : formB k = true) : Dd.szs (partsD k) < k.sz := by
  obtain ⟨z, r, rfl, hf⟩ := form_tup h
  show Dd.szs (partsW z r) < 1 + (1 + Dd.szs r)
  by_cases hp : z ∈ pwords
  · simp only [pwords, List.mem_cons, List.not_mem_nil, or_false] at hp
    rcases hp with e | e | e | e | e | e | e | e | e <;> subst e
    · rw [pw_app]; omega
    · rw [pw_lam]; rw [fw_lam] at hf
      have := szs_two (of_decide_eq_true (fand hf).1)
      show (arg 1 r).sz + 0 < _
      omega
    · rw [pw_let]; rw [fw_let] at hf
      have := szs_two (of_decide_eq_true (fand (fand hf).1).1)
      have h1 := nths_sz 1 (tl (arg 0 r))
      have h2 := szs_tl (arg 0 r)
      unfold gLet
      rw [szs_app]
      show _ + ((arg 1 r).sz + 0) < _
      omega
    · rw [pw_seq]; have := drop_sz r; omega
    · rw [pw_con]; rw [fw_con] at hf
      have := szs_two (of_decide_eq_true (fand hf).1)
      have h2 := szs_tl (arg 1 r)
      omega
    · rw [pw_case]; rw [fw_case] at hf
      have := szs_three (of_decide_eq_true (fand (fand (fand hf).1).1).1)
      have h1 := lasts_sz (tl (arg 1 r))
      have h2 := szs_tl (arg 1 r)
      have h3 := dflt_sz (arg 2 r)
      show (arg 0 r).sz + Dd.szs (_ ++ _) < _
      rw [szs_app]
      omega
    · rw [pw_pick]; rw [fw_pick] at hf
      have := szs_three (of_decide_eq_true (fand (fand (fand hf).1).1).1)
      have h1 := lasts_sz (tl (arg 1 r))
      have h2 := szs_tl (arg 1 r)
      have h3 := dflt_sz (arg 2 r)
      show (arg 0 r).sz + Dd.szs (_ ++ _) < _
      rw [szs_app]
      omega
    · rw [pw_prim]; have := drop_sz r; omega
    · rw [pw_note]; rw [fw_note] at hf
      have := szs_two (of_decide_eq_true (fand hf).1)
      show (arg 1 r).sz + 0 < _
      omega
  · rw [parts_out hp]
    show 0 < _
    omega
theorem isT_stab : ∀ (n m : Nat) (k : Dd), k.sz ≤ n → k.sz ≤ m → isT n k = isT m k
  | 0, _, k, h, _ => by have := sz_pos k; omega
  | _ + 1, 0, k, _, h => by have := sz_pos k; omega
  | n + 1, m + 1, k, h1, h2 => by
    show (formB k && (partsD k).all (isT n)) = (formB k && (partsD k).all (isT m))
    cases hf : formB k with
    | false => rfl
    | true =>
      rw [Bool.true_and, Bool.true_and]
      have hp := parts_sz hf
      have e : ∀ p ∈ partsD k, isT n p = isT m p := fun p hp' => by
        have := szs_mem hp'
        exact isT_stab n m p (by omega) (by omega)
      rw [Bool.eq_iff_iff, List.all_eq_true, List.all_eq_true]
      exact ⟨fun h p hp => by rw [← e p hp]; exact h p hp, fun h p hp => by rw [e p hp]; exact h p hp⟩
/-- whether something is a term -/
def isTT (k : Dd) : Bool := isT k.sz k
theorem isTT_eq (k : Dd) : isTT k = (formB k && (partsD k).all isTT) := by
  have h1 : isTT k = isT (k.sz + 1) k := isT_stab _ _ k (Nat.le_refl _) (Nat.le_succ _)
  rw [h1]
  show (formB k && (partsD k).all (isT k.sz)) = _
  cases hf : formB k with
  | false => rfl
  | true =>
    rw [Bool.true_and, Bool.true_and]
    have hp := parts_sz hf
    have e : ∀ p ∈ partsD k, isT k.sz p = isTT p := fun p hp' => by
      have := szs_mem hp'
      exact isT_stab _ _ p (by omega) (Nat.le_refl _)
    rw [Bool.eq_iff_iff, List.all_eq_true, List.all_eq_true]
    exact ⟨fun h p hp => by rw [← e p hp]; exact h p hp, fun h p hp => by rw [e p hp]; exact h p hp⟩
abbrev sIsTerm : Stmt := topS 55
theorem scIsTerm : FnScope ["thing", "todo", "part"] ["thing"] (defScope sIsTerm) := ⟨rfl, rfl, rfl, by decide +kernel, rfl, by decide +kernel, by decide +kernel⟩
theorem c_isTerm {f : Addr} {fd : FuncData} (chas_form : C8.Cal P w K mg base 5 "has_form" (spB formB fun k => k.sz ≤ 1000000) []) (cparts_of : C8.Cal P w K mg base 3 "parts_of" spParts []) (F : Fun K "is_term" "is_term" sIsTerm f fd) (b : Binds K fd ["thing"] []) (hm : mg "is_term" = some (.ref f)) : C8.Cal P w K mg base 6 "is_term" (spB isTT fun k => k.sz ≤ 1000000) [] := by
  refine cal_of F hm b scIsTerm (fun vs H Q E h => ?_) (fun cdv A outer s H vs Q E hr h => ?_)
  · obtain ⟨B, v, k, rfl, _⟩ := h
    rfl
  obtain ⟨B0, v, k, rfl, hat0, hsz, q⟩ := h
  have hat := hat0.here
  refine ⟨_, (pss_cons (ps_set (i := 1) scIsTerm.nd rfl (Or.inl rfl) (pe_lst (pa_cons (pv 0) pa_nil)))
    (pss_cons (ps_while PassesOwn.never (pt_truth (pv 1) (fun _ => rfl))
      (pss_cons (ps_set (i := 2) scIsTerm.nd rfl (Or.inl rfl) (pe_bm0 PySem.F.plainAttrs_list PySem.F.slot_list_pop PySem.F.type_list_pop mt_pop (pv 1)))
    (pss_cons (ps_if (pt_not (pt_val (C8.pe_c chas_form hr (by decide) rfl (pa_cons (pv 2) pa_nil))))
      (pss_one (ps_ret pe_bl))
      pss_nil)
    (pss_one (ps_expr (pe_bm PySem.F.plainAttrs_list PySem.F.slot_list_extend PySem.F.type_list_extend mt_extendT (pv 1) (pa_cons (C8.pe_c cparts_of hr (by decide) rfl (pa_cons (pv 2) pa_nil)) pa_nil)))))))
    (pss_one (ps_ret pe_bl)))), ?_⟩
  refine ⟨_, rfl, by show 1 ≤ sizeLine; decide, fun td htd => ?_⟩
  have s1 := same_new htd (.lst [v])
  have ntd : ¬ Ex H td := fun z => z htd
  refine ⟨fun n' σ G => ∃ (v2 : Option V) (ks : List Dd) (xs : List V), n' = Dd.szs ks ∧ σ = [some v, some (.ref td), v2] ∧ Same H G ∧ G td = some (.lst xs) ∧ Dd.Ats (Ex H) G ks xs ∧ Dd.szs ks ≤ 1000000 ∧ isTT k = ks.all isTT, ⟨_, none, [k], [v], rfl, rfl, s1, upd_same, ats_one (hat.keep (fr_same s1)), (by show k.sz + 0 ≤ _; omega), (by simp)⟩, ?_⟩
  rintro n' σ G ⟨v2, ks, xs, rfl, rfl, sG, hG, hats, hbd, hall⟩
  have hl := ats_len hats
  have hlz := szs_len ks
  refine ⟨_, rfl, _, .inl ⟨_, SqL.of hG, rfl⟩, ?_⟩
  rcases List.eq_nil_or_concat ks with rfl | ⟨ks', t, rfl⟩
  · cases (show xs = [] from hats)
    refine iteF ?_
    have q' := q G sG
    rw [hall] at q'
    exact q'
  · rw [List.concat_eq_append] at *
    obtain ⟨xs', x, rfl, hats', hx⟩ := ats_snoc hats
    have ne : (!(xs' ++ [x]).isEmpty) = true := by cases xs' <;> rfl
    rw [ne]
    refine iteT ?_
    have esz : Dd.szs (ks' ++ [t]) = Dd.szs ks' + t.sz := by rw [szs_app]; show _ + (t.sz + 0) = _; omega
    refine ⟨fun σ' G' => ∃ (v2 : Option V) (ks : List Dd) (xs : List V), Dd.szs ks < Dd.szs (ks' ++ [t]) ∧ σ' = [some v, some (.ref td), v2] ∧ Same H G' ∧ G' td = some (.lst xs) ∧ Dd.Ats (Ex H) G' ks xs ∧ Dd.szs ks ≤ 1000000 ∧ isTT k = ks.all isTT, fun σ' G' ⟨v2, ks, xs, lt, rest⟩ => ⟨_, lt, v2, ks, xs, rfl, rest⟩, ?_⟩
    refine ⟨_, rfl, .inl ⟨rfl, _, SqL.of hG⟩, td, _, x, rfl, rfl, hG, by simp, ?_⟩
    rw [List.dropLast_concat]
    have f4 : Fr (Ex H) G (upd G td (.lst xs')) := fr_list hG ntd
    have s4 : Same H (upd G td (.lst xs')) := same_upd htd sG _
    have h4 : upd G td (.lst xs') td = some (.lst xs') := upd_same
    replace hats' := hats'.keep f4
    replace hx := hx.keep f4
    generalize upd G td (.lst xs') = G4 at f4 s4 h4 hats' hx ⊢
    refine ⟨_, rfl, Ex H, x, t, rfl, hx, by omega, fun G5 s5 => ⟨_, rfl, ?_⟩⟩
    have ht := isTT_eq t
    rw [List.all_append, show [t].all isTT = isTT t by simp] at hall
    cases hf : formB t with
    | false =>
      refine iteT ?_
      rw [hf, Bool.false_and] at ht
      rw [ht, Bool.and_false] at hall
      have q' := q G5 (sameT s4 s5)
      rw [hall] at q'
      exact q'
    | true =>
      refine iteF ?_
      rw [hf, Bool.true_and] at ht
      have hps := parts_sz hf
      have h5 := s5 _ _ h4
      refine ⟨_, rfl, .inl ⟨rfl, _, SqL.of h5⟩, _, rfl, Ex H, x, t, rfl, hx.keep (fr_same s5), hf, by omega, fun b2 zs G6 s6 hb2 hzs => ?_⟩
      have h6 := s6 _ _ h5
      have hzl := ats_len hzs
      have hpl := szs_len (partsD t)
      have hxl := ats_len hats'
      have hkl := szs_len ks'
      refine ⟨td, b2, xs', zs, rfl, rfl, h6, SqT.of hb2, ?_, ?_⟩
      · have := big; omega
      have f7 : Fr (Ex H) G6 (upd G6 td (.lst (xs' ++ zs))) := fr_list h6 ntd
      refine ⟨_, ks' ++ partsD t, xs' ++ zs, ?_, rfl, same_upd htd (sameT s4 (sameT s5 s6)) _, upd_same, ats_app ((hats'.keep (fr_same (sameT s5 s6))).keep f7) (hzs.keep f7), ?_, ?_⟩
      · rw [szs_app]; omega
      · rw [szs_app]; omega
      · rw [hall, ht, List.all_append]
end
end Toy

set_option Elab.async false
set_option linter.all false
set_option maxRecDepth 100000
set_option maxHeartbeats 4000000
/-! Part H: good terms in plain Lean; names drawn. -/
namespace Toy
open PySem L2
open PyProof.Rows (envOfC)
/-- a row that begins with the word of a form -/
def kindTup : Dd → Bool
  | .tup (.str z :: _) => decide (z ∈ words)
  | _ => false
def niceW (w : Str) (r : List Dd) : Bool := if w = "case" then !kindTup (arg 2 r) else if w = "pick" then !kindTup (arg 2 r) else true
def niceB : Dd → Bool
  | .tup (.str w :: r) => niceW w r
  | _ => true
/-- a term, not deeper than this, whose names are no words of forms -/
def isN : Nat → Dd → Bool
  | 0, _ => false
  | n + 1, k => formB k && niceB k && (partsD k).all (isN n)
theorem isN_mono : ∀ (n m : Nat) (k : Dd), n ≤ m → isN n k = true → isN m k = true
  | 0, _, _, _, h => by cases h
  | n + 1, 0, _, h, _ => by omega
  | n + 1, m + 1, k, hl, h => by
    obtain ⟨h1, h2⟩ := fand h
    show (formB k && niceB k && (partsD k).all (isN m)) = true
    rw [h1, Bool.true_and, List.all_eq_true]
    exact fun p hp => isN_mono n m p (by omega) (List.all_eq_true.mp h2 p hp)
theorem isN_T : ∀ (n : Nat) (k : Dd), isN n k = true → isTT k = true
  | 0, _, h => by cases h
  | n + 1, k, h => by
    obtain ⟨h1, h2⟩ := fand h
    rw [isTT_eq, (fand h1).1, Bool.true_and, List.all_eq_true]
    exact fun p hp => isN_T n p (List.all_eq_true.mp h2 p hp)
def names : List Str := ["a", "b", "cc", "f", "main", "d'", "e_1", "g"]
theorem names_ok : ∀ z ∈ names, isName (.str z) = true ∧ z ∉ words ∧ z.length ≤ 1000 := by decide +kernel
theorem signs_ok : ∀ z ∈ signs, z.length ≤ 1000 := by decide +kernel
theorem words_ok : ∀ z ∈ words, z.length ≤ 1000 := by decide +kernel
theorem ddK_nodup : ∀ (acc ks : List Key), (acc ++ ks).Nodup → ddK acc ks = acc ++ ks
  | acc, [], _ => by rw [List.append_nil]; rfl
  | acc, k :: ks, h => by
    have hk : (acc.any fun j => decide (j = k)) = false := by
      rw [Bool.eq_false_iff]
      intro z
      obtain ⟨j, hj, e⟩ := List.any_eq_true.mp z
      have e := of_decide_eq_true e
      subst e
      rw [List.nodup_append] at h
      exact h.2.2 j hj j (List.mem_cons_self ..) rfl
    show ddK (if (acc.any fun j => decide (j = k)) = true then acc else acc ++ [k]) ks = _
    rw [hk, if_neg (by decide)]
    have e : acc ++ k :: ks = (acc ++ [k]) ++ ks := by rw [List.append_assoc]; rfl
    rw [e] at h ⊢
    exact ddK_nodup _ ks h
theorem dist_nodup {ks : List Key} (h : ks.Nodup) : distK ks = true := by
  unfold distK
  rw [ddK_nodup [] ks h]
  exact decide_eq_true rfl
/-- names, all different, in a tuple -/
def nameT (zs : List Str) : Dd := .tup (zs.map Dd.str)
theorem areNames_ok {zs : List Str} (h1 : ∀ z ∈ zs, z ∈ names) (h2 : zs.Nodup) : areNames (nameT zs) = true := by
  show ((zs.map Dd.str).all isName && distK ((zs.map Dd.str).map keyD)) = true
  rw [Bool.and_eq_true]
  refine ⟨?_, dist_nodup ?_⟩
  · rw [List.all_map, List.all_eq_true]
    exact fun z hz => (names_ok z (h1 z hz)).1
  · rw [List.map_map]
    exact List.Pairwise.map _ (fun a b h e => h (Sum.inr.inj e)) h2
theorem szs_strs : ∀ zs : List Str, Dd.szs (zs.map Dd.str) = zs.length
  | [] => rfl
  | z :: zs => by
    show 1 + Dd.szs (zs.map Dd.str) = zs.length + 1
    rw [szs_strs zs]
    omega
/-- a good term of this depth -/
structure Gt (d : Nat) (k : Dd) : Prop where
  ok : isN (d + 1) k = true
  sz : k.sz + 5 ≤ 8 * 4 ^ d
theorem pow_pos4 (d : Nat) : 1 ≤ 4 ^ d := by
  have := Nat.pow_le_pow_left (show 1 ≤ 4 by decide) d
  rwa [Nat.one_pow] at this
theorem Gt.mono {d e : Nat} {k : Dd} (h : Gt d k) (l : d ≤ e) : Gt e k := ⟨isN_mono _ _ k (by omega) h.ok, Nat.le_trans h.sz (Nat.mul_le_mul_left 8 (Nat.pow_le_pow_right (by decide) l))⟩
theorem isN_mk {n : Nat} {w : Str} {r : List Dd} (h1 : formW w r = true) (h2 : niceW w r = true) (h3 : ∀ p ∈ partsW w r, isN n p = true) : isN (n + 1) (.tup (.str w :: r)) = true := by
  show (formW w r && niceW w r && (partsW w r).all (isN n)) = true
  rw [h1, h2, Bool.true_and, Bool.true_and, List.all_eq_true]
  exact h3
theorem nice_other {w : Str} {r : List Dd} (h1 : w ≠ "case") (h2 : w ≠ "pick") : niceW w r = true := by
  unfold niceW
  rw [if_neg h1, if_neg h2]
theorem nw : ("num" : Str) ≠ "case" ∧ ("num" : Str) ≠ "pick" ∧ ("var" : Str) ≠ "case" ∧ ("var" : Str) ≠ "pick" ∧ ("app" : Str) ≠ "case" ∧ ("app" : Str) ≠ "pick" ∧ ("lam" : Str) ≠ "case" ∧ ("lam" : Str) ≠ "pick" ∧ ("let" : Str) ≠ "case" ∧ ("let" : Str) ≠ "pick" ∧ ("seq" : Str) ≠ "case" ∧ ("seq" : Str) ≠ "pick" ∧ ("con" : Str) ≠ "case" ∧ ("con" : Str) ≠ "pick" ∧ ("prim" : Str) ≠ "case" ∧ ("prim" : Str) ≠ "pick" ∧ ("note" : Str) ≠ "case" ∧ ("note" : Str) ≠ "pick" := by decide +kernel
theorem pw_num (r : List Dd) : partsW "num" r = [] := parts_out (by decide +kernel) r
theorem pw_var (r : List Dd) : partsW "var" r = [] := parts_out (by decide +kernel) r
theorem gt_num {d : Nat} {i : Int} (h0 : -1000000000000000 ≤ i) (h1 : i ≤ 1000000000000000) : Gt d (.tup [.str "num", .int i]) := by
  have hp := pow_pos4 d
  refine ⟨isN_mk ?_ (nice_other nw.1 nw.2.1) (fun p hp => by rw [pw_num] at hp; cases hp), by show 1 + (1 + (1 + 0)) + 5 ≤ _; omega⟩
  rw [fw_num]
  show (decide (1 = 1) && (decide (-1000000000000000 ≤ i) && decide (i ≤ 1000000000000000))) = true
  rw [decide_eq_true h0, decide_eq_true h1]
  rfl
theorem gt_var {d : Nat} {z : Str} (h : z ∈ names) : Gt d (.tup [.str "var", .str z]) := by
  have hp := pow_pos4 d
  refine ⟨isN_mk ?_ (nice_other nw.2.2.1 nw.2.2.2.1) (fun p hp => by rw [pw_var] at hp; cases hp), by show 1 + (1 + (1 + 0)) + 5 ≤ _; omega⟩
  rw [fw_var]
  show (decide (1 = 1) && isName (.str z)) = true
  rw [(names_ok z h).1]
  rfl
theorem p4 (d : Nat) : 8 * 4 ^ (d + 1) = 4 * (8 * 4 ^ d) := by rw [Nat.pow_succ]; omega
theorem mem2 {p a b : Dd} (h : p ∈ [a, b]) : p = a ∨ p = b := by simpa using h
theorem gt_app {d : Nat} {a b : Dd} (ha : Gt d a) (hb : Gt d b) : Gt (d + 1) (.tup [.str "app", a, b]) := by
  have h1 := ha.sz
  have h2 := hb.sz
  refine ⟨isN_mk (by rw [fw_app]; rfl) (nice_other nw.2.2.2.2.1 nw.2.2.2.2.2.1) (fun p hp => ?_), by rw [p4]; show 1 + (1 + (a.sz + (b.sz + 0))) + 5 ≤ _; omega⟩
  rw [pw_app] at hp
  rcases mem2 hp with e | e <;> rw [e]
  · exact ha.ok
  · exact hb.ok
theorem gt_lam {d : Nat} {z : Str} {b : Dd} (hz : z ∈ names) (hb : Gt d b) : Gt (d + 1) (.tup [.str "lam", .str z, b]) := by
  have h2 := hb.sz
  refine ⟨isN_mk ?_ (nice_other nw.2.2.2.2.2.2.1 nw.2.2.2.2.2.2.2.1) (fun p hp => ?_), by rw [p4]; show 1 + (1 + (1 + (b.sz + 0))) + 5 ≤ _; omega⟩
  · rw [fw_lam]
    show (decide (2 = 2) && isName (.str z)) = true
    rw [(names_ok z hz).1]
    rfl
  · rw [pw_lam] at hp
    rw [List.mem_singleton.mp hp]
    exact hb.ok
theorem gt_seq {d : Nat} {z : Str} {a b : Dd} (hz : z ∈ names) (ha : Gt d a) (hb : Gt d b) : Gt (d + 1) (.tup [.str "seq", .str z, a, b]) := by
  have h1 := ha.sz
  have h2 := hb.sz
  refine ⟨isN_mk ?_ (nice_other nw.2.2.2.2.2.2.2.2.2.2.1 nw.2.2.2.2.2.2.2.2.2.2.2.1) (fun p hp => ?_), by rw [p4]; show 1 + (1 + (1 + (a.sz + (b.sz + 0)))) + 5 ≤ _; omega⟩
  · rw [fw_seq]
    show (decide (3 = 3) && isName (.str z)) = true
    rw [(names_ok z hz).1]
    rfl
  · rw [pw_seq] at hp
    rcases mem2 hp with e | e <;> rw [e]
    · exact ha.ok
    · exact hb.ok
theorem gt_prim {d : Nat} {z : Str} {a b : Dd} (hz : z ∈ signs) (ha : Gt d a) (hb : Gt d b) : Gt (d + 1) (.tup [.str "prim", .str z, a, b]) := by
  have h1 := ha.sz
  have h2 := hb.sz
  refine ⟨isN_mk ?_ (nice_other nw.2.2.2.2.2.2.2.2.2.2.2.2.2.2.1 nw.2.2.2.2.2.2.2.2.2.2.2.2.2.2.2.1) (fun p hp => ?_), by rw [p4]; show 1 + (1 + (1 + (a.sz + (b.sz + 0)))) + 5 ≤ _; omega⟩
  · rw [fw_prim]
    show (decide (3 = 3) && decide (z ∈ signs)) = true
    rw [decide_eq_true hz]
    rfl
  · rw [pw_prim] at hp
    rcases mem2 hp with e | e <;> rw [e]
    · exact ha.ok
    · exact hb.ok
theorem gt_note {d : Nat} {i : Int} {b : Dd} (h0 : 0 ≤ i) (h1 : i ≤ 1000000000000) (hb : Gt d b) : Gt (d + 1) (.tup [.str "note", .int i, b]) := by
  have h2 := hb.sz
  refine ⟨isN_mk ?_ (nice_other nw.2.2.2.2.2.2.2.2.2.2.2.2.2.2.2.2.1 nw.2.2.2.2.2.2.2.2.2.2.2.2.2.2.2.2.2) (fun p hp => ?_), by rw [p4]; show 1 + (1 + (1 + (b.sz + 0))) + 5 ≤ _; omega⟩
  · rw [fw_note]
    show (decide (2 = 2) && (decide (0 ≤ i) && decide (i ≤ 1000000000000))) = true
    rw [decide_eq_true h0, decide_eq_true h1]
    rfl
  · rw [pw_note] at hp
    rw [List.mem_singleton.mp hp]
    exact hb.ok
theorem szs_gt {d : Nat} : ∀ {l : List Dd}, (∀ k ∈ l, Gt d k) → Dd.szs l ≤ l.length * (8 * 4 ^ d - 5)
  | [], _ => Nat.zero_le _
  | k :: l, h => by
    have h1 := (h k (List.mem_cons_self ..)).sz
    have h2 := szs_gt fun q hq => h q (List.mem_cons_of_mem _ hq)
    show k.sz + Dd.szs l ≤ (l.length + 1) * (8 * 4 ^ d - 5)
    rw [Nat.succ_mul]
    omega
theorem gt_con {d : Nat} {i : Int} {l : List Dd} (h0 : 0 ≤ i) (h1 : i ≤ 1000) (hl : l.length ≤ 3) (h : ∀ k ∈ l, Gt d k) : Gt (d + 1) (.tup [.str "con", .int i, .tup l]) := by
  have h2 := szs_gt h
  have hp := pow_pos4 d
  have h3 : l.length * (8 * 4 ^ d - 5) ≤ 3 * (8 * 4 ^ d - 5) := Nat.mul_le_mul_right _ hl
  refine ⟨isN_mk ?_ (nice_other nw.2.2.2.2.2.2.2.2.2.2.2.2.1 nw.2.2.2.2.2.2.2.2.2.2.2.2.2.1) (fun p hp => ?_), by rw [p4]; show 1 + (1 + (1 + (1 + Dd.szs l + 0))) + 5 ≤ _; omega⟩
  · rw [fw_con]
    show (decide (2 = 2) && ((decide (0 ≤ i) && decide (i ≤ 1000)) && true)) = true
    rw [decide_eq_true h0, decide_eq_true h1]
    rfl
  · rw [pw_con] at hp
    exact (h p hp).ok
/-- pairs of names and terms -/
def rowsL (zs : List Str) (l : List Dd) : List Dd := List.zipWith (fun z k => .tup [.str z, k]) zs l
theorem rowsL_names : ∀ {zs : List Str} {l : List Dd}, zs.length = l.length → (rowsL zs l).map (nth 0) = zs.map Dd.str
  | [], [], _ => rfl
  | z :: zs, k :: l, h => by
    show Dd.str z :: (rowsL zs l).map (nth 0) = Dd.str z :: zs.map Dd.str
    rw [rowsL_names (Nat.succ.inj h)]
  | [], _ :: _, h => by cases h
  | _ :: _, [], h => by cases h
theorem rowsL_terms : ∀ {zs : List Str} {l : List Dd}, zs.length = l.length → (rowsL zs l).map (nth 1) = l
  | [], [], _ => rfl
  | z :: zs, k :: l, h => by
    show k :: (rowsL zs l).map (nth 1) = k :: l
    rw [rowsL_terms (Nat.succ.inj h)]
  | [], _ :: _, h => by cases h
  | _ :: _, [], h => by cases h
theorem rowsL_two : ∀ {zs : List Str} {l : List Dd}, (rowsL zs l).all (isRow 2) = true
  | [], _ => by cases ‹List Dd› <;> rfl
  | _ :: _, [] => rfl
  | z :: zs, k :: l => by
    show (true && (rowsL zs l).all (isRow 2)) = true
    rw [rowsL_two]
    rfl
theorem rowsL_len : ∀ {zs : List Str} {l : List Dd}, zs.length = l.length → (rowsL zs l).length = l.length := by
  intro zs l h
  unfold rowsL
  rw [List.length_zipWith, h, Nat.min_self]
theorem rowsL_sz : ∀ {zs : List Str} {l : List Dd}, zs.length = l.length → Dd.szs (rowsL zs l) = Dd.szs l + 2 * l.length
  | [], [], _ => rfl
  | z :: zs, k :: l, h => by
    show (1 + (1 + (k.sz + 0))) + Dd.szs (rowsL zs l) = k.sz + Dd.szs l + 2 * (l.length + 1)
    rw [rowsL_sz (Nat.succ.inj h)]
    omega
  | [], _ :: _, h => by cases h
  | _ :: _, [], h => by cases h
theorem gt_let {d : Nat} {zs : List Str} {l : List Dd} {b : Dd} (hz : ∀ z ∈ zs, z ∈ names) (hn : zs.Nodup) (hlen : zs.length = l.length) (h0 : 0 < l.length) (h3 : l.length ≤ 3) (h : ∀ k ∈ l, Gt d k) (hb : Gt d b) : Gt (d + 1) (.tup [.str "let", .tup (rowsL zs l), b]) := by
  have h1 := hb.sz
  have h2 := szs_gt h
  have hp := pow_pos4 d
  have h4 : l.length * (8 * 4 ^ d - 5) ≤ 3 * (8 * 4 ^ d - 5) := Nat.mul_le_mul_right _ h3
  refine ⟨isN_mk ?_ (nice_other nw.2.2.2.2.2.2.2.2.1 nw.2.2.2.2.2.2.2.2.2.1) (fun p hp => ?_), by rw [p4]; show 1 + (1 + (1 + Dd.szs (rowsL zs l) + (b.sz + 0))) + 5 ≤ _; rw [rowsL_sz hlen]; omega⟩
  · rw [fw_let]
    show (decide (2 = 2) && (rowsL zs l).all (isRow 2) && (decide (0 < (rowsL zs l).length) && areNames (.tup ((rowsL zs l).map (nth 0))))) = true
    rw [rowsL_two, rowsL_names hlen, rowsL_len hlen, decide_eq_true h0, show areNames (.tup (zs.map Dd.str)) = true from areNames_ok hz hn]
    rfl
  · rw [pw_let] at hp
    have hp : p ∈ (rowsL zs l).map (nth 1) ++ [b] := hp
    rw [rowsL_terms hlen] at hp
    rcases List.mem_append.mp hp with e | e
    · exact (h p e).ok
    · rw [List.mem_singleton.mp e]; exact hb.ok
/-- a default: none, or a name and a term -/
def dfl : Option (Str × Dd) → Dd
  | none => .non
  | some q => .tup [.str q.1, q.2]
theorem dfl_ok {o : Option (Str × Dd)} (h : ∀ q, o = some q → q.1 ∈ names) : isDflt (dfl o) = true ∧ kindTup (dfl o) = false := by
  cases o with
  | none => exact ⟨rfl, rfl⟩
  | some q =>
    obtain ⟨h1, h2, _⟩ := names_ok q.1 (h q rfl)
    exact ⟨by show (true && isName (.str q.1)) = true; rw [h1]; rfl, decide_eq_false h2⟩
/-- rows of a case: tag, names, term -/
def rowsC (l : List (Int × List Str × Dd)) : List Dd := l.map fun q => .tup [.int q.1, nameT q.2.1, q.2.2]
/-- rows of a pick: number, term -/
def rowsP (l : List (Int × Dd)) : List Dd := l.map fun q => .tup [.int q.1, q.2]
theorem szs_C {d : Nat} : ∀ {l : List (Int × List Str × Dd)}, (∀ q ∈ l, q.2.1.length ≤ 2 ∧ Gt d q.2.2) → Dd.szs (rowsC l) ≤ l.length * (8 * 4 ^ d)
  | [], _ => Nat.zero_le _
  | q :: l, h => by
    obtain ⟨h1, h2⟩ := h q (List.mem_cons_self ..)
    have h2 := h2.sz
    have h3 := szs_C fun q hq => h q (List.mem_cons_of_mem _ hq)
    have h4 := szs_strs q.2.1
    show (1 + (1 + ((1 + Dd.szs (q.2.1.map Dd.str)) + (q.2.2.sz + 0)))) + Dd.szs (rowsC l) ≤ (l.length + 1) * (8 * 4 ^ d)
    rw [Nat.succ_mul]
    omega
theorem szs_P {d : Nat} : ∀ {l : List (Int × Dd)}, (∀ q ∈ l, Gt d q.2) → Dd.szs (rowsP l) ≤ l.length * (8 * 4 ^ d)
  | [], _ => Nat.zero_le _
  | q :: l, h => by
    have h2 := (h q (List.mem_cons_self ..)).sz
    have h3 := szs_P fun q hq => h q (List.mem_cons_of_mem _ hq)
    show (1 + (1 + (q.2.sz + 0))) + Dd.szs (rowsP l) ≤ (l.length + 1) * (8 * 4 ^ d)
    rw [Nat.succ_mul]
    omega
theorem dfl_sz {d : Nat} {o : Option (Str × Dd)} (h : ∀ q, o = some q → Gt d q.2) : (dfl o).sz + 3 ≤ 8 * 4 ^ d := by
  have hp := pow_pos4 d
  cases o with
  | none => show 1 + 3 ≤ _; omega
  | some q =>
    have := (h q rfl).sz
    show 1 + (1 + (q.2.sz + 0)) + 3 ≤ _
    omega
theorem choice_parts {d : Nat} {f : Dd} {rows : List Dd} {o : Option (Str × Dd)} (hf : Gt d f) (hr : ∀ q ∈ rows, Gt d (lastD q)) (ho : ∀ q, o = some q → Gt d q.2) : ∀ p ∈ gChoice [f, .tup rows, dfl o], isN (d + 1) p = true := fun p hp => by
  have hp : p ∈ f :: (rows.map lastD ++ dfltP (dfl o)) := hp
  rcases List.mem_cons.mp hp with e | e
  · rw [e]; exact hf.ok
  · rcases List.mem_append.mp e with e | e
    · obtain ⟨q, hq, rfl⟩ := List.mem_map.mp e
      exact (hr q hq).ok
    · cases o with
      | none => cases e
      | some q =>
        have e : p ∈ [q.2] := e
        rw [List.mem_singleton.mp e]
        exact (ho q rfl).ok
theorem gt_case {d : Nat} {f : Dd} {l : List (Int × List Str × Dd)} {o : Option (Str × Dd)} (hf : Gt d f) (hl : l.length ≤ 2) (h : ∀ q ∈ l, 0 ≤ q.1 ∧ q.1 ≤ 1000 ∧ (∀ z ∈ q.2.1, z ∈ names) ∧ q.2.1.Nodup ∧ q.2.1.length ≤ 2 ∧ Gt d q.2.2) (ho : ∀ q, o = some q → q.1 ∈ names ∧ Gt d q.2) :
    Gt (d + 1) (.tup [.str "case", f, .tup (rowsC l), dfl o]) := by
  have h1 := hf.sz
  have h2 := szs_C (d := d) (l := l) fun q hq => ⟨(h q hq).2.2.2.2.1, (h q hq).2.2.2.2.2⟩
  have h3 := dfl_sz (d := d) (o := o) fun q hq => (ho q hq).2
  have h4 : l.length * (8 * 4 ^ d) ≤ 2 * (8 * 4 ^ d) := Nat.mul_le_mul_right _ hl
  obtain ⟨k1, k2⟩ := dfl_ok (o := o) fun q hq => (ho q hq).1
  refine ⟨isN_mk ?_ ?_ ?_, by rw [p4]; show 1 + (1 + (f.sz + (1 + Dd.szs (rowsC l) + ((dfl o).sz + 0)))) + 5 ≤ _; omega⟩
  · rw [fw_case]
    show (decide (3 = 3) && (rowsC l).all (isRow 3) && isDflt (dfl o) && (rowsC l).all fun q => numIn 0 1000 (nth 0 q) && areNames (nth 1 q)) = true
    rw [k1, show (rowsC l).all (isRow 3) = true by unfold rowsC; rw [List.all_map, List.all_eq_true]; exact fun q _ => rfl,
      show ((rowsC l).all fun q => numIn 0 1000 (nth 0 q) && areNames (nth 1 q)) = true by
        unfold rowsC
        rw [List.all_map, List.all_eq_true]
        intro q hq
        obtain ⟨g1, g2, g3, g4, g5, g6⟩ := h q hq
        show ((decide (0 ≤ q.1) && decide (q.1 ≤ 1000)) && areNames (nameT q.2.1)) = true
        rw [decide_eq_true g1, decide_eq_true g2, areNames_ok g3 g4]
        rfl]
    rfl
  · unfold niceW
    rw [if_pos rfl]
    show (!kindTup (dfl o)) = true
    rw [k2]
    rfl
  · rw [show partsW "case" [f, .tup (rowsC l), dfl o] = _ from pw_case _]
    refine choice_parts hf (fun q hq => ?_) fun q hq => (ho q hq).2
    unfold rowsC at hq
    obtain ⟨x, hx, rfl⟩ := List.mem_map.mp hq
    exact (h x hx).2.2.2.2.2
theorem gt_pick {d : Nat} {f : Dd} {l : List (Int × Dd)} {o : Option (Str × Dd)} (hf : Gt d f) (hl : l.length ≤ 2) (h : ∀ q ∈ l, -10 ≤ q.1 ∧ q.1 ≤ 10 ∧ Gt d q.2) (hn : (l.map (·.1)).Nodup) (ho : ∀ q, o = some q → q.1 ∈ names ∧ Gt d q.2) :
    Gt (d + 1) (.tup [.str "pick", f, .tup (rowsP l), dfl o]) := by
  have h1 := hf.sz
  have h2 := szs_P (d := d) (l := l) fun q hq => (h q hq).2.2
  have h3 := dfl_sz (d := d) (o := o) fun q hq => (ho q hq).2
  have h4 : l.length * (8 * 4 ^ d) ≤ 2 * (8 * 4 ^ d) := Nat.mul_le_mul_right _ hl
  obtain ⟨k1, k2⟩ := dfl_ok (o := o) fun q hq => (ho q hq).1
  have e1 : ((rowsP l).map (nth 0)) = l.map fun q => Dd.int q.1 := by unfold rowsP; rw [List.map_map]; rfl
  refine ⟨isN_mk ?_ ?_ ?_, by rw [p4]; show 1 + (1 + (f.sz + (1 + Dd.szs (rowsP l) + ((dfl o).sz + 0)))) + 5 ≤ _; omega⟩
  · rw [fw_pick]
    show (decide (3 = 3) && (rowsP l).all (isRow 2) && isDflt (dfl o) && (((rowsP l).map (nth 0)).all cNum && distK (((rowsP l).map (nth 0)).map keyD))) = true
    rw [k1, e1, show (rowsP l).all (isRow 2) = true by unfold rowsP; rw [List.all_map, List.all_eq_true]; exact fun q _ => rfl,
      show ((l.map fun q => Dd.int q.1).all cNum) = true by
        rw [List.all_map, List.all_eq_true]
        intro q hq
        obtain ⟨g1, g2, g3⟩ := h q hq
        show (decide (-1000000000000000 ≤ q.1) && decide (q.1 ≤ 1000000000000000)) = true
        rw [decide_eq_true (by omega), decide_eq_true (by omega)]
        rfl,
      dist_nodup (by rw [List.map_map]; exact (List.pairwise_map.mpr ((List.pairwise_map.mp hn).imp fun hab e => hab (Sum.inl.inj e))))]
    rfl
  · unfold niceW
    rw [if_neg (by decide +kernel), if_pos rfl]
    show (!kindTup (dfl o)) = true
    rw [k2]
    rfl
  · rw [show partsW "pick" [f, .tup (rowsP l), dfl o] = _ from pw_pick _]
    refine choice_parts hf (fun q hq => ?_) fun q hq => (ho q hq).2
    unfold rowsP at hq
    obtain ⟨x, hx, rfl⟩ := List.mem_map.mp hq
    exact (h x hx).2.2
end Toy

set_option Elab.async false
set_option linter.all false
set_option maxRecDepth 100000
set_option maxHeartbeats 4000000
/-! Part I: names drawn. -/
namespace Toy
open PySem L2
open PyProof.Rows (envOfC)
theorem at_str {zs : List Str} {i : Int} (h0 : 0 ≤ i) (h1 : i < (zs.length : Int)) : ∃ z ∈ zs, atI (zs.map V.str) i = some (.str z) := by
  have hk : i.toNat < zs.length := by omega
  refine ⟨zs[i.toNat], List.getElem_mem _, ?_⟩
  have q : atI (zs.map V.str) ((i.toNat : Nat) : Int) = some (.str zs[i.toNat]) := atI_nat (by rw [List.getElem?_map, List.getElem?_eq_getElem hk] <;> rfl)
  rw [show ((i.toNat : Nat) : Int) = i by omega] at q
  exact q
theorem flat_strs : ∀ l : List Str, (l.map V.str).all flatV = true
  | [] => rfl
  | n :: l => by
    rw [List.map_cons, List.all_cons, flat_strs l]
    rfl
theorem cal_none {P : Program} {w : World} {K : PySem.W.Frag} {mg : Str → Option Value} {base : Heap} {x : Str} {st : Stmt} {f : Addr} {fd : FuncData} {ps : List Str} {k : Nat} {sp : Sp} (F : Fun K x x st f fd) (hm : mg x = some (.ref f)) (b : Binds K fd ps []) (no : ∀ vs H Q E, ¬ sp vs H Q E) : C8.Cal P w K mg base k x sp [] :=
  ⟨f, fd, ps, [], ⟨fun vs H Q E h => (no _ _ _ _ h).elim, fun A outer s H args us vs Q E hr e0 hb r hsp => (no _ _ _ _ hsp).elim⟩, hm, F.kp, b, .nil⟩
/-- no lists -/
def F0 : Addr → Prop := fun _ => False
structure TxtG (mg : Str → Option Value) : Prop where
  zrange : mg "range" = none
  ztuple : mg "tuple" = none
section
variable {P : Program} {w : World} {K : PySem.W.Frag} {mg : Str → Option Value} {base : Heap}
abbrev sLName : Stmt := topS 63
theorem scLName : FnScope ["d"] ["d"] (defScope sLName) := ⟨rfl, rfl, rfl, by decide +kernel, rfl, by decide +kernel, by decide +kernel⟩
def spLName : Sp := fun vs H Q _ => ∃ (p r : Addr) (B : Nat), vs = [.ref p] ∧ DAt H p r B ∧ ∀ (z : Str) (H' : Hp), z ∈ names → Keep p H H' → DAt H' p r (B + 1) → Q (.str z) H'
theorem c_lname {f : Addr} {fd : FuncData} (c_law_take : C8.Cal P w K mg base 1 "_law_take" spTake []) (F : Fun K "_law_name" "_law_name" sLName f fd) (b : Binds K fd ["d"] []) (hm : mg "_law_name" = some (.ref f)) : C8.Cal P w K mg base 2 "_law_name" spLName [] := by
  refine cal_of F hm b scLName (fun vs H Q E h => ?_) (fun cdv A outer s H vs Q E hr h => ?_)
  · obtain ⟨p, r, B, rfl, _⟩ := h
    rfl
  obtain ⟨p, r, B, rfl, d0, q⟩ := h
  refine ⟨_, (pss_one (ps_ret (pe_ix ix_list (pe_lst (pa_strs (zs := ["a", "b", "cc", "f", "main", "d'", "e_1", "g"]) rfl)) (pe_op op_mod (C8.pe_c c_law_take hr (by decide) rfl (pa_cons (pv 0) pa_nil)) pe_int) (fun _ _ => rfl)))), ?_⟩
  refine ⟨by show 8 ≤ sizeLine; decide, fun lz hlz => ?_⟩
  have s1 := same_new hlz (.lst (names.map V.str))
  have e1 : upd H lz (.lst (names.map V.str)) lz = some (.lst (names.map V.str)) := upd_same
  have d1 := d0.same s1
  refine ⟨_, rfl, p, r, B, rfl, d1, fun n H2 n0 n1 k2 d2 => ?_⟩
  obtain ⟨z, hz, ez⟩ := at_str (zs := names) (i := n % 8) (Int.emod_nonneg _ (by decide)) (by show n % 8 < 8; exact Int.emod_lt_of_pos _ (by decide))
  refine ⟨_, _, rfl, rfl, (show (0 : Int) < 8 by decide), lz, _, _, _, rfl, rfl, SqL.of (k2 _ _ (d1.ne_list e1) e1), ez, ?_⟩
  exact q z H2 hz ((Keep.same s1).trans k2) d2
abbrev sLNames : Stmt := topS 64
theorem scLNames : FnScope ["d", "many", "names", "k", "name"] ["d", "many"] (defScope sLNames) := ⟨rfl, rfl, rfl, by decide +kernel, rfl, by decide +kernel, by decide +kernel⟩
def spLNames : Sp := fun vs H Q _ => ∃ (p r : Addr) (B m : Nat), vs = [.ref p, .int (m : Int)] ∧ m ≤ 3 ∧ DAt H p r B ∧ ∀ (t : Addr) (zs : List Str) (H' : Hp), Keep p H H' → DAt H' p r (B + m) → H' t = some (.tup (zs.map V.str)) → (∀ z ∈ zs, z ∈ names) → zs.Nodup → zs.length ≤ m → (0 < m → 0 < zs.length) → Q (.ref t) H'
theorem c_lnames {f : Addr} {fd : FuncData} (T : TxtG mg) (c_law_name : C8.Cal P w K mg base 2 "_law_name" spLName []) (F : Fun K "_law_names" "_law_names" sLNames f fd) (b : Binds K fd ["d", "many"] []) (hm : mg "_law_names" = some (.ref f)) : C8.Cal P w K mg base 3 "_law_names" spLNames [] := by
  refine cal_of F hm b scLNames (fun vs H Q E h => ?_) (fun cdv A outer s H vs Q E hr h => ?_)
  · obtain ⟨p, r, B, m, rfl, _⟩ := h
    rfl
  obtain ⟨p, r, B, m, rfl, hm3, d0, q⟩ := h
  refine ⟨_, (pss_cons (ps_set (i := 2) scLNames.nd rfl (Or.inl rfl) (pe_lst pa_nil))
    (pss_cons (ps_for PassesOwn.never rfl (pi_range1 rfl T.zrange (pa_cons (pv 1) pa_nil)) (pg_name (i := 3) scLNames.nd rfl (Or.inl rfl))
      (pss_cons (ps_set (i := 4) scLNames.nd rfl (Or.inl rfl) (C8.pe_c c_law_name hr (by decide) rfl (pa_cons (pv 0) pa_nil)))
    (pss_one (ps_if (pt_cmpR op_notIn_seq (pv 4) (pv 2) rfl)
      (pss_one (ps_expr (pe_bm PySem.F.plainAttrs_list PySem.F.slot_list_append PySem.F.type_list_append mt_append (pv 2) (pa_cons (pv 4) pa_nil))))
      pss_nil))))
    (pss_one (ps_ret (pe_callTy call_tuple_of rfl T.ztuple boot_tuple (pa_cons (pv 2) pa_nil)))))), ?_⟩
  refine ⟨by show 0 ≤ sizeLine; decide, fun L hL => ?_⟩
  obtain ⟨nLp, nLr⟩ := d0.fresh hL
  have s1 := same_new hL (.lst [])
  refine ⟨_, rfl, _, rfl, by omega, by omega, for_range
    (fun (i : Nat) σ G => ∃ (v3 v4 : Option V) (zs : List Str), σ = [some (.ref p), some (.int (m : Int)), some (.ref L), v3, v4] ∧ Keep p H G ∧ DAt G p r (B + i) ∧ G L = some (.lst (zs.map V.str)) ∧ (∀ z ∈ zs, z ∈ names) ∧ zs.Nodup ∧ zs.length ≤ i ∧ (0 < i → 0 < zs.length))
    ⟨_, _, [], rfl, Keep.same s1, d0.same s1, upd_same, (fun z h => by cases h), List.nodup_nil, Nat.zero_le _, fun h => h⟩ ?_ ?_⟩
  · rintro i σ G hi ⟨v3, v4, zs, rfl, kG, dG, hG, hin, hnd, hlen, hpos⟩
    have hi3 : i < 3 := by omega
    refine ⟨_, rfl, p, r, B + i, rfl, dG, fun z G2 hz k2 d2 => ?_⟩
    have hG2 := k2 _ _ nLp hG
    refine ⟨_, rfl, _, rfl, L, _, rfl, .inl (SqL.of hG2), rfl, flat_strs _, ?_⟩
    rw [show (if true = true then !inV (.str z) (zs.map V.str) else inV (.str z) (zs.map V.str)) = !decide (z ∈ zs) by rw [if_pos rfl, inV_strs]]
    refine ⟨_, rfl, ?_⟩
    by_cases c : z ∈ zs
    · rw [decide_eq_true c]
      refine iteF ?_
      exact ⟨_, _, zs, rfl, kG.trans k2, d2, hG2, hin, hnd, by omega, fun _ => List.length_pos_of_mem c⟩
    · rw [decide_eq_false c]
      refine iteT ?_
      refine ⟨_, rfl, .inl ⟨rfl, _, SqL.of hG2⟩, _, rfl, L, _, _, rfl, rfl, hG2, szl (by rw [List.length_map]; omega), ?_⟩
      refine ⟨_, _, zs ++ [z], rfl, keep_upd hL (kG.trans k2) _, d2.off nLp nLr _, by rw [upd_same, List.map_append]; rfl, fun y hy => ?_, ?_, by rw [List.length_append]; show _ + 1 ≤ _; omega, fun _ => by rw [List.length_append]; show 0 < _ + 1; omega⟩
      · rcases List.mem_append.mp hy with e | e
        · exact hin y e
        · rw [List.mem_singleton.mp e]; exact hz
      · rw [List.nodup_append]
        exact ⟨hnd, List.pairwise_singleton .., fun a ha b hb e => by rw [List.mem_singleton.mp hb] at e; rw [e] at ha; exact c ha⟩
  rintro σ G ⟨v3, v4, zs, rfl, kG, dG, hG, hin, hnd, hlen, hpos⟩
  rw [show ((m : Int)).toNat = m from Int.toNat_natCast m] at dG hlen hpos
  refine ⟨_, rfl, L, _, rfl, .inl ⟨SqL.of hG, fun t ht => ?_⟩⟩
  have s2 := same_new ht (.tup (zs.map V.str))
  exact q t zs _ (kG.trans (Keep.same s2)) (dG.same s2) upd_same hin hnd hlen hpos
end
end Toy

set_option Elab.async false
set_option linter.all false
set_option maxRecDepth 100000
set_option maxHeartbeats 4000000
/-! Part J: terms drawn: cases and picks. -/
namespace Toy
open PySem L2
open PyProof.Rows (envOfC)
theorem F0.to {B : Addr → Prop} {H : Hp} {k : Dd} {v : V} (h : k.At F0 H v) : k.At B H v := h.weak fun _ _ _ z => z.elim
theorem ed (e : Nat) (x : V) : [x, V.int (((e + 1 : Nat) : Int) - 1)] = [x, V.int (e : Int)] := by rw [show ((e + 1 : Nat) : Int) - 1 = (e : Int) by omega]
theorem c8 (e : Nat) : 8 ≤ 8 * 4 ^ e := by have := pow_pos4 e; omega
section
variable {P : Program} {w : World} {K : PySem.W.Frag} {mg : Str → Option Value} {base : Heap}
/-- a good term, and how many draws it took -/
def spAny (n : Nat) : Sp := fun vs H Q _ => ∃ (p r : Addr) (B e : Nat), vs = [.ref p, .int (e : Int)] ∧ e < n ∧ DAt H p r B ∧ B + 8 * 4 ^ e ≤ 1000000000 ∧ ∀ (v : V) (k : Dd) (H' : Hp), Keep p H H' → DAt H' p r (B + (8 * 4 ^ e - 5)) → k.At F0 H' v → Gt e k → Q v H'
def spBranch (n : Nat) : Sp := fun vs H Q _ => ∃ (p r : Addr) (B e : Nat), vs = [.ref p, .int ((e + 1 : Nat) : Int)] ∧ e < n ∧ DAt H p r B ∧ B + 8 * 4 ^ (e + 1) ≤ 1000000001 ∧ ∀ (v : V) (k : Dd) (H' : Hp), Keep p H H' → DAt H' p r (B + (8 * 4 ^ (e + 1) - 6)) → k.At F0 H' v → Gt (e + 1) k → Q v H'
theorem at_tup {B : Addr → Prop} {H : Hp} {a : Addr} {xs : List V} {l : List Dd} (h : H a = some (.tup xs)) (hs : Dd.Ats B H l xs) : Dd.At B H (.tup l) (.ref a) := ⟨a, xs, rfl, h, hs⟩
theorem ats_cons {B : Addr → Prop} {H : Hp} {x : V} {xs : List V} {k : Dd} {l : List Dd} (h : k.At B H x) (hs : Dd.Ats B H l xs) : Dd.Ats B H (k :: l) (x :: xs) := ⟨x, xs, rfl, h, hs⟩
theorem at_int' {B : Addr → Prop} {H : Hp} {i : Int} : Dd.At B H (.int i) (.int i) := rfl
theorem at_str' {B : Addr → Prop} {H : Hp} {z : Str} (h : z.length ≤ 1000) : Dd.At B H (.str z) (.str z) := ⟨rfl, h⟩
theorem ats_nil {B : Addr → Prop} {H : Hp} : Dd.Ats B H [] [] := rfl
theorem ats_names {B : Addr → Prop} {H : Hp} : ∀ {zs : List Str}, (∀ z ∈ zs, z ∈ names) → Dd.Ats B H (zs.map Dd.str) (zs.map V.str)
  | [], _ => rfl
  | z :: zs, h => ⟨.str z, zs.map V.str, rfl, ⟨rfl, (names_ok z (h z (List.mem_cons_self ..))).2.2⟩, ats_names fun y hy => h y (List.mem_cons_of_mem _ hy)⟩
/-- the rows of a case, or of a pick, so far -/
def GoodR (kd : Str) (e i : Nat) (rows : List Dd) : Prop :=
  (kd = "case" → ∃ l : List (Int × List Str × Dd), rows = rowsC l ∧ l.length ≤ i ∧ ∀ q ∈ l, 0 ≤ q.1 ∧ q.1 ≤ 1000 ∧ (∀ z ∈ q.2.1, z ∈ names) ∧ q.2.1.Nodup ∧ q.2.1.length ≤ 2 ∧ Gt e q.2.2) ∧
  (kd ≠ "case" → ∃ l : List (Int × Dd), rows = rowsP l ∧ l.length ≤ i ∧ (∀ q ∈ l, -10 ≤ q.1 ∧ q.1 ≤ 3 * (i : Int) - 3 ∧ Gt e q.2) ∧ (l.map (·.1)).Nodup)
abbrev sBranch : Stmt := topS 65
theorem scBranch : FnScope ["d", "depth", "name", "kind", "found", "k", "body", "default"] ["d", "depth"] (defScope sBranch) := ⟨rfl, rfl, rfl, by decide +kernel, rfl, by decide +kernel, by decide +kernel⟩
theorem c_branch {f : Addr} {fd : FuncData} (T : TxtG mg) (c_law_take : C8.Cal P w K mg base 1 "_law_take" spTake []) (c_law_name : C8.Cal P w K mg base 2 "_law_name" spLName []) (c_law_names : C8.Cal P w K mg base 3 "_law_names" spLNames []) {n : Nat} (c_law_any : C8.Cal P w K mg base (2 * n + 4) "_law_any" (spAny n) []) (F : Fun K "_law_any_branch" "_law_any_branch" sBranch f fd) (b : Binds K fd ["d", "depth"] []) (hm : mg "_law_any_branch" = some (.ref f)) : C8.Cal P w K mg base (2 * n + 5) "_law_any_branch" (spBranch n) [] := by
  refine cal_of F hm b scBranch (fun vs H Q E h => ?_) (fun cdv A outer s H vs Q E hr h => ?_)
  · obtain ⟨p, r, B, e, rfl, _⟩ := h
    rfl
  obtain ⟨p, r, B, e, rfl, hen, d0, hB, q⟩ := h
  rw [p4] at hB q
  have hc8 := c8 e
  refine ⟨_, (pss_cons (ps_set (i := 2) scBranch.nd rfl (Or.inl rfl) (C8.pe_c c_law_name hr (by omega) rfl (pa_cons (pv 0) pa_nil)))
    (pss_cons (ps_set (i := 3) scBranch.nd rfl (Or.inl rfl) (pe_ix ix_list (pe_lst (pa_cons pe_str (pa_cons pe_str pa_nil))) (pe_op op_mod (C8.pe_c c_law_take hr (by omega) rfl (pa_cons (pv 0) pa_nil)) pe_int) (fun _ _ => rfl)))
    (pss_cons (ps_set (i := 4) scBranch.nd rfl (Or.inl rfl) (pe_lst pa_nil))
    (pss_cons (ps_for PassesOwn.never rfl (pi_range1 rfl T.zrange (pa_cons (pe_op op_mod (C8.pe_c c_law_take hr (by omega) rfl (pa_cons (pv 0) pa_nil)) pe_int) pa_nil)) (pg_name (i := 5) scBranch.nd rfl (Or.inl rfl))
      (pss_cons (ps_set (i := 6) scBranch.nd rfl (Or.inl rfl) (C8.pe_c c_law_any hr (by omega) rfl (pa_cons (pv 0) (pa_cons (pe_op op_sub (pv 1) pe_int) pa_nil))))
    (pss_one (ps_if (pt_cmpR op_eq (pv 3) pe_str (nomark _))
      (pss_one (ps_expr (pe_bm PySem.F.plainAttrs_list PySem.F.slot_list_append PySem.F.type_list_append mt_append (pv 4) (pa_cons (pe_tup (pa_cons (pe_op op_mod (C8.pe_c c_law_take hr (by omega) rfl (pa_cons (pv 0) pa_nil)) pe_int) (pa_cons (C8.pe_c c_law_names hr (by omega) rfl (pa_cons (pv 0) (pa_cons (pe_op op_mod (C8.pe_c c_law_take hr (by omega) rfl (pa_cons (pv 0) pa_nil)) pe_int) pa_nil))) (pa_cons (pv 6) pa_nil)))) pa_nil))))
      (pss_one (ps_expr (pe_bm PySem.F.plainAttrs_list PySem.F.slot_list_append PySem.F.type_list_append mt_append (pv 4) (pa_cons (pe_tup (pa_cons (pe_op op_sub (pe_op op_mul pe_int (pv 5)) (pe_op op_mod (C8.pe_c c_law_take hr (by omega) rfl (pa_cons (pv 0) pa_nil)) pe_int)) (pa_cons (pv 6) pa_nil))) pa_nil))))))))
    (pss_cons (ps_set (i := 7) scBranch.nd rfl (Or.inl rfl) pe_non)
    (pss_cons (ps_if (pt_cmpR op_eq (pe_op op_mod (C8.pe_c c_law_take hr (by omega) rfl (pa_cons (pv 0) pa_nil)) pe_int) pe_int (nomark _))
      (pss_one (ps_set (i := 7) scBranch.nd rfl (Or.inl rfl) (pe_tup (pa_cons (pv 2) (pa_cons (C8.pe_c c_law_any hr (by omega) rfl (pa_cons (pv 0) (pa_cons (pe_op op_sub (pv 1) pe_int) pa_nil))) pa_nil)))))
      pss_nil)
    (pss_one (ps_ret (pe_tup (pa_cons (pv 3) (pa_cons (C8.pe_c c_law_any hr (by omega) rfl (pa_cons (pv 0) (pa_cons (pe_op op_sub (pv 1) pe_int) pa_nil))) (pa_cons (pe_callTy call_tuple_of rfl T.ztuple boot_tuple (pa_cons (pv 4) pa_nil)) (pa_cons (pv 7) pa_nil))))))))))))), ?_⟩
  refine ⟨_, rfl, p, r, B, rfl, d0, fun nm H1 hnm k1 d1 => ?_⟩
  refine ⟨by show 2 ≤ sizeLine; decide, fun lz hlz => ?_⟩
  have s2 := same_new hlz (.lst [.str "case", .str "pick"])
  have e2 : upd H1 lz (.lst [.str "case", .str "pick"]) lz = some (.lst ([("case" : Str), "pick"].map V.str)) := upd_same
  have d2 := d1.same s2
  have k2 := k1.trans (Keep.same s2)
  generalize upd H1 lz (.lst [.str "case", .str "pick"]) = H2 at s2 e2 d2 k2 ⊢
  refine ⟨_, rfl, p, r, _, rfl, d2, fun n3 H3 n30 n31 k3 d3 => ?_⟩
  obtain ⟨kd, hkd, ekd⟩ := at_str (zs := ["case", "pick"]) (i := n3 % 2) (Int.emod_nonneg _ (by decide)) (by show n3 % 2 < 2; exact Int.emod_lt_of_pos _ (by decide))
  refine ⟨_, _, rfl, rfl, (show (0 : Int) < 2 by decide), lz, _, _, _, rfl, rfl, SqL.of (k3 _ _ (d2.ne_list e2) e2), ekd, ?_⟩
  have k03 := k2.trans k3
  clear k2 k1 s2
  refine ⟨by show 0 ≤ sizeLine; decide, fun L hL => ?_⟩
  obtain ⟨nLp, nLr⟩ := d3.fresh hL
  have s4 := same_new hL (.lst [])
  have e4 : upd H3 L (.lst []) L = some (.lst []) := upd_same
  have d4 := d3.same s4
  have k04 := k03.trans (Keep.same s4)
  have hLH : H L = none := k03.free nLp hL
  generalize upd H3 L (.lst []) = H4 at s4 e4 d4 k04 ⊢
  refine ⟨_, rfl, p, r, _, rfl, d4, fun n5 H5 n50 n51 k5 d5 => ?_⟩
  have e5 := k5 _ _ nLp e4
  have k05 := k04.trans k5
  have m50 := Int.emod_nonneg n5 (show (3 : Int) ≠ 0 by decide)
  have m51 := Int.emod_lt_of_pos n5 (show (0 : Int) < 3 by decide)
  refine ⟨_, _, rfl, rfl, (show (0 : Int) < 3 by decide), ?_⟩
  have hm2 : (n5 % 3).toNat ≤ 2 := by omega
  refine ⟨n5 % 3, rfl, by omega, by omega, for_range
    (fun (i : Nat) σ G => ∃ (v5 v6 v7 : Option V) (xs : List V) (rows : List Dd), σ = [some (.ref p), some (.int ((e + 1 : Nat) : Int)), some (.str nm), some (.str kd), some (.ref L), v5, v6, v7] ∧ Keep p H G ∧ DAt G p r (B + 3 + i * (8 * 4 ^ e - 1)) ∧ G L = some (.lst xs) ∧ Dd.Ats F0 G rows xs ∧ xs.length ≤ i ∧ GoodR kd e i rows)
    ⟨_, _, _, [], [], rfl, k05, d5.more (by omega), e5, rfl, Nat.le_refl _, ⟨fun _ => ⟨[], rfl, Nat.le_refl _, fun q h => by cases h⟩, fun _ => ⟨[], rfl, Nat.le_refl _, (fun q h => by cases h), List.nodup_nil⟩⟩⟩ ?_ ?_⟩
  · rintro i σ G hi ⟨v5, v6, v7, xs, rows, rfl, kG, dG, hG, aG, hlen, gr⟩
    have hi1 : i ≤ 1 := by omega
    have hic : i * (8 * 4 ^ e - 1) ≤ 1 * (8 * 4 ^ e - 1) := Nat.mul_le_mul_right _ hi1
    have hic1 : (i + 1) * (8 * 4 ^ e - 1) = i * (8 * 4 ^ e - 1) + (8 * 4 ^ e - 1) := Nat.succ_mul _ _
    refine ⟨_, rfl, _, rfl, _, _, rfl, rfl, p, r, _, e, ed _ _, hen, dG, by omega, fun v k G2 k2 d2 a2 g2 => ?_⟩
    have hG2 := k2 _ _ nLp hG
    have aG2 := Dd.Ats.keep (fr_keep k2 dG) aG
    refine ⟨_, rfl, rfl, _, rfl, ?_⟩
    show if decide (V.str kd = V.str "case") = true then _ else _
    by_cases c : kd = "case"
    · rw [show decide (V.str kd = V.str "case") = true by rw [c]; exact decide_eq_true rfl]
      refine iteT ?_
      refine ⟨_, rfl, .inl ⟨rfl, _, SqL.of hG2⟩, ?_⟩
      refine ⟨_, rfl, p, r, _, rfl, d2, fun n6 G6 n60 n61 k6 d6 => ?_⟩
      have m60 := Int.emod_nonneg n6 (show (3 : Int) ≠ 0 by decide)
      have m61 := Int.emod_lt_of_pos n6 (show (0 : Int) < 3 by decide)
      refine ⟨_, _, rfl, rfl, (show (0 : Int) < 3 by decide), _, rfl, _, rfl, p, r, _, rfl, d6, fun n7 G7 n70 n71 k7 d7 => ?_⟩
      have m70 := Int.emod_nonneg n7 (show (3 : Int) ≠ 0 by decide)
      have m71 := Int.emod_lt_of_pos n7 (show (0 : Int) < 3 by decide)
      refine ⟨_, _, rfl, rfl, (show (0 : Int) < 3 by decide), p, r, _, (n7 % 3).toNat, by rw [Int.toNat_of_nonneg m70]; rfl, by omega, d7, fun t zs G8 k8 d8 et hz hnd hzl _ => ?_⟩
      refine ⟨_, rfl, by show 3 ≤ sizeLine; decide, fun t2 ht2 => ?_⟩
      have kGL := (k6.trans k7).trans k8
      have hG8 := kGL _ _ nLp hG2
      have aG8 := Dd.Ats.keep (fr_keep kGL d2) aG2
      have a8 := Dd.At.keep (fr_keep kGL d2) a2
      have s9 := same_new ht2 (.tup [.int (n6 % 3), .ref t, v])
      have e9 : upd G8 t2 (.tup [.int (n6 % 3), .ref t, v]) t2 = some (.tup [.int (n6 % 3), .ref t, v]) := upd_same
      have d9 := d8.same s9
      have hG9 := s9 _ _ hG8
      have aG9 := Dd.Ats.keep (fr_same s9) aG8
      have a9 := Dd.At.keep (fr_same s9) a8
      have et9 := s9 _ _ et
      have k9 := (((kG.trans k2).trans kGL).trans (Keep.same s9))
      generalize upd G8 t2 (.tup [.int (n6 % 3), .ref t, v]) = G9 at s9 e9 d9 hG9 aG9 a9 et9 k9 ⊢
      refine ⟨L, _, _, rfl, rfl, hG9, szl (by omega), ?_⟩
      have fL : Fr F0 G9 (upd G9 L (.lst (xs ++ [.ref t2]))) := fr_list hG9 fun z => z
      refine ⟨_, _, _, xs ++ [.ref t2], rows ++ [.tup [.int (n6 % 3), nameT zs, k]], rfl, keep_upd hLH k9 _, (d9.off nLp nLr _).more (by omega), upd_same, ats_app (Dd.Ats.keep fL aG9) (ats_one (Dd.At.keep fL (at_tup e9 (ats_cons at_int' (ats_cons (at_tup et9 (ats_names hz)) (ats_cons a9 ats_nil)))))), by rw [List.length_append]; show _ + 1 ≤ _; omega, fun c2 => ?_, fun c2 => (c2 c).elim⟩
      obtain ⟨l, rfl, hl, hq⟩ := gr.1 c
      refine ⟨l ++ [(n6 % 3, zs, k)], by unfold rowsC; rw [List.map_append]; rfl, by rw [List.length_append]; show _ + 1 ≤ _; omega, fun y hy => ?_⟩
      rcases List.mem_append.mp hy with z | z
      · exact hq y z
      · rw [List.mem_singleton.mp z]
        exact ⟨m60, by show n6 % 3 ≤ 1000; omega, hz, hnd, by show zs.length ≤ 2; omega, g2⟩
    · rw [show decide (V.str kd = V.str "case") = false from decide_eq_false fun z => c (by injection z)]
      refine iteF ?_
      refine ⟨_, rfl, .inl ⟨rfl, _, SqL.of hG2⟩, ?_⟩
      refine ⟨_, rfl, _, _, rfl, rfl, by show CMul 3 (0 + (i : Int)); unfold CMul; omega, ?_⟩
      refine ⟨_, rfl, p, r, _, rfl, d2, fun n6 G8 n60 n61 k6 d6 => ?_⟩
      have m60 := Int.emod_nonneg n6 (show (3 : Int) ≠ 0 by decide)
      have m61 := Int.emod_lt_of_pos n6 (show (0 : Int) < 3 by decide)
      refine ⟨_, _, rfl, rfl, (show (0 : Int) < 3 by decide), _, _, rfl, rfl, _, rfl, by show 2 ≤ sizeLine; decide, fun t2 ht2 => ?_⟩
      have hG8 := k6 _ _ nLp hG2
      have aG8 := Dd.Ats.keep (fr_keep k6 d2) aG2
      have a8 := Dd.At.keep (fr_keep k6 d2) a2
      have s9 := same_new ht2 (.tup [.int (3 * (0 + (i : Int)) - n6 % 3), v])
      have e9 : upd G8 t2 (.tup [.int (3 * (0 + (i : Int)) - n6 % 3), v]) t2 = some (.tup [.int (3 * (0 + (i : Int)) - n6 % 3), v]) := upd_same
      have d9 := d6.same s9
      have hG9 := s9 _ _ hG8
      have aG9 := Dd.Ats.keep (fr_same s9) aG8
      have a9 := Dd.At.keep (fr_same s9) a8
      have k9 := (((kG.trans k2).trans k6).trans (Keep.same s9))
      generalize upd G8 t2 (.tup [.int (3 * (0 + (i : Int)) - n6 % 3), v]) = G9 at s9 e9 d9 hG9 aG9 a9 k9 ⊢
      refine ⟨L, _, _, rfl, rfl, hG9, szl (by omega), ?_⟩
      have fL : Fr F0 G9 (upd G9 L (.lst (xs ++ [.ref t2]))) := fr_list hG9 fun z => z
      refine ⟨_, _, _, xs ++ [.ref t2], rows ++ [.tup [.int (3 * (0 + (i : Int)) - n6 % 3), k]], rfl, keep_upd hLH k9 _, (d9.off nLp nLr _).more (by omega), upd_same, ats_app (Dd.Ats.keep fL aG9) (ats_one (Dd.At.keep fL (at_tup e9 (ats_cons at_int' (ats_cons a9 ats_nil))))), by rw [List.length_append]; show _ + 1 ≤ _; omega, fun c2 => (c c2).elim, fun _ => ?_⟩
      obtain ⟨l, rfl, hl, hq, hnd⟩ := gr.2 c
      refine ⟨l ++ [(3 * (0 + (i : Int)) - n6 % 3, k)], by unfold rowsP; rw [List.map_append]; rfl, by rw [List.length_append]; show _ + 1 ≤ _; omega, fun y hy => ?_, ?_⟩
      · rcases List.mem_append.mp hy with z | z
        · obtain ⟨z1, z2, z3⟩ := hq y z
          exact ⟨z1, by omega, z3⟩
        · rw [List.mem_singleton.mp z]
          exact ⟨by show -10 ≤ 3 * (0 + (i : Int)) - n6 % 3; omega, by show 3 * (0 + (i : Int)) - n6 % 3 ≤ _; omega, g2⟩
      · rw [List.map_append, List.nodup_append]
        refine ⟨hnd, List.pairwise_singleton .., fun x hx y hy e => ?_⟩
        obtain ⟨q1, hq1, rfl⟩ := List.mem_map.mp hx
        have hy : y ∈ [3 * (0 + (i : Int)) - n6 % 3] := hy
        rw [List.mem_singleton.mp hy] at e
        have := (hq q1 hq1).2.1
        omega
  rintro σ G ⟨v5, v6, v7, xs, rows, rfl, kG, dG, hG, aG, hlen, gr⟩
  generalize (n5 % 3).toNat = m at *
  have hmc : m * (8 * 4 ^ e - 1) ≤ 2 * (8 * 4 ^ e - 1) := Nat.mul_le_mul_right _ hm2
  have dG := dG.more (show _ ≤ B + (2 * (8 * 4 ^ e) + 1) by omega)
  refine ⟨_, rfl, p, r, _, rfl, dG, fun n8 G8 n80 n81 k8 d8 => ?_⟩
  have hG8 := k8 _ _ nLp hG
  have aG8 := Dd.Ats.keep (fr_keep k8 dG) aG
  refine ⟨_, _, rfl, rfl, (show (0 : Int) < 2 by decide), ?_⟩
  refine ⟨rfl, _, rfl, ?_⟩
  have hkl : kd.length ≤ 1000 := by
    rcases List.mem_cons.mp hkd with z | z
    · rw [z]; decide +kernel
    · rw [List.mem_singleton.mp z]; decide +kernel
  have fin : ∀ (o : Option (Str × Dd)) (kk : Dd), Gt e kk → (∀ q, o = some q → q.1 ∈ names ∧ Gt e q.2) → Gt (e + 1) (.tup [.str kd, kk, .tup rows, dfl o]) := fun o kk hk ho => by
    by_cases c : kd = "case"
    · obtain ⟨l, rfl, hl, hq⟩ := gr.1 c
      rw [c]
      exact gt_case hk (by omega) hq ho
    · obtain ⟨l, rfl, hl, hq, hnd⟩ := gr.2 c
      rw [show kd = "pick" by
        rcases List.mem_cons.mp hkd with z | z
        · exact (c z).elim
        · exact List.mem_singleton.mp z]
      exact gt_pick hk (by omega) (fun y hy => ⟨(hq y hy).1, by have := (hq y hy).2.1; omega, (hq y hy).2.2⟩) hnd ho
  show if decide (V.int (n8 % 2) = V.int 0) = true then _ else _
  rcases Bool.eq_false_or_eq_true (decide (V.int (n8 % 2) = V.int 0)) with c | c
  · rw [c]
    refine iteT ?_
    refine ⟨_, rfl, _, rfl, _, rfl, _, _, rfl, rfl, p, r, _, e, ed _ _, hen, d8, by omega, fun v0 k0 G9' k9' d9' a9' g9 => ⟨by show 2 ≤ sizeLine; decide, fun t0 ht0 => ?_⟩⟩
    have hG9' := k9' _ _ nLp hG8
    have aG9' := Dd.Ats.keep (fr_keep k9' d8) aG8
    have s9 := same_new ht0 (.tup [.str nm, v0])
    have e9 : upd G9' t0 (.tup [.str nm, v0]) t0 = some (.tup [.str nm, v0]) := upd_same
    have d9 := d9'.same s9
    have hG9 := s9 _ _ hG9'
    have fr9 := fr_same (B := F0) s9
    have aG9 := Dd.Ats.keep fr9 aG9'
    have k9 := ((kG.trans k8).trans k9').trans (Keep.same s9)
    have ad : Dd.At F0 (upd G9' t0 (.tup [.str nm, v0])) (dfl (some (nm, k0))) (.ref t0) := at_tup e9 (ats_cons (at_str' (names_ok nm hnm).2.2) (ats_cons (a9'.keep fr9) ats_nil))
    generalize upd G9' t0 (.tup [.str nm, v0]) = G9 at *
    have ho : ∀ q, some (nm, k0) = some q → q.1 ∈ names ∧ Gt e q.2 := fun q e => by
      cases e
      exact ⟨hnm, g9⟩
    refine ⟨_, rfl, _, rfl, _, rfl, _, _, rfl, rfl, p, r, _, e, ed _ _, hen, d9, by omega, fun v1 kk G10 k10 d10 a10 g10 => ?_⟩
    have hG10 := k10 _ _ nLp hG9
    have aG10 := Dd.Ats.keep (fr_keep k10 d9) aG9
    have ad10 := Dd.At.keep (fr_keep k10 d9) ad
    refine ⟨_, rfl, L, _, rfl, .inl ⟨SqL.of hG10, fun t ht => ?_⟩⟩
    refine ⟨_, rfl, by show 4 ≤ sizeLine; decide, fun t3 ht3 => ?_⟩
    have s11 := same_new ht (.tup xs)
    have e11 : upd G10 t (.tup xs) t = some (.tup xs) := upd_same
    have k11 := (k9.trans k10).trans (Keep.same s11)
    have d11 := d10.same s11
    have aG11 := Dd.Ats.keep (fr_same s11) aG10
    have a11 := Dd.At.keep (fr_same s11) a10
    have ad11 := Dd.At.keep (fr_same s11) ad10
    generalize upd G10 t (.tup xs) = G11 at *
    have s12 := same_new ht3 (.tup [.str kd, v1, .ref t, .ref t0])
    have fr12 := fr_same (B := F0) s12
    refine q _ (.tup [.str kd, kk, .tup rows, dfl (some (nm, k0))]) _ (k11.trans (Keep.same s12)) ((d11.same s12).more (by omega)) (at_tup upd_same (ats_cons (at_str' hkl) (ats_cons (a11.keep fr12) (ats_cons (at_tup (s12 _ _ e11) (Dd.Ats.keep fr12 aG11)) (ats_cons (ad11.keep fr12) ats_nil))))) (fin _ _ g10 ho)
  · rw [c]
    refine iteF ?_
    have d9 := d8
    have hG9 := hG8
    have aG9 := aG8
    have k9 := kG.trans k8
    have ad : Dd.At F0 G8 (dfl none) .non := rfl
    have ho : ∀ q : Str × Dd, none = some q → q.1 ∈ names ∧ Gt e q.2 := fun q e => by cases e
    refine ⟨_, rfl, _, rfl, _, rfl, _, _, rfl, rfl, p, r, _, e, ed _ _, hen, d9, by omega, fun v1 kk G10 k10 d10 a10 g10 => ?_⟩
    have hG10 := k10 _ _ nLp hG9
    have aG10 := Dd.Ats.keep (fr_keep k10 d9) aG9
    have ad10 := Dd.At.keep (fr_keep k10 d9) ad
    refine ⟨_, rfl, L, _, rfl, .inl ⟨SqL.of hG10, fun t ht => ?_⟩⟩
    refine ⟨_, rfl, by show 4 ≤ sizeLine; decide, fun t3 ht3 => ?_⟩
    have s11 := same_new ht (.tup xs)
    have e11 : upd G10 t (.tup xs) t = some (.tup xs) := upd_same
    have k11 := (k9.trans k10).trans (Keep.same s11)
    have d11 := d10.same s11
    have aG11 := Dd.Ats.keep (fr_same s11) aG10
    have a11 := Dd.At.keep (fr_same s11) a10
    have ad11 := Dd.At.keep (fr_same s11) ad10
    generalize upd G10 t (.tup xs) = G11 at *
    have s12 := same_new ht3 (.tup [.str kd, v1, .ref t, .non])
    have fr12 := fr_same (B := F0) s12
    refine q _ (.tup [.str kd, kk, .tup rows, dfl none]) _ (k11.trans (Keep.same s12)) ((d11.same s12).more (by omega)) (at_tup upd_same (ats_cons (at_str' hkl) (ats_cons (a11.keep fr12) (ats_cons (at_tup (s12 _ _ e11) (Dd.Ats.keep fr12 aG11)) (ats_cons (ad11.keep fr12) ats_nil))))) (fin _ _ g10 ho)
end
end Toy

set_option Elab.async false
set_option linter.all false
set_option maxRecDepth 100000
set_option maxHeartbeats 8000000
/-! Part K: terms drawn. -/
namespace Toy
open PySem L2
open PyProof.Rows (envOfC)
theorem at_intN {ns : List Int} {i : Int} (h0 : 0 ≤ i) (h1 : i < (ns.length : Int)) : ∃ v ∈ ns, atI (ns.map V.int) i = some (.int v) := by
  have hk : i.toNat < ns.length := by omega
  refine ⟨ns[i.toNat], List.getElem_mem _, ?_⟩
  have q : atI (ns.map V.int) ((i.toNat : Nat) : Int) = some (.int ns[i.toNat]) := atI_nat (by rw [List.getElem?_map, List.getElem?_eq_getElem hk] <;> rfl)
  rw [show ((i.toNat : Nat) : Int) = i by omega] at q
  exact q
def menu : List Int := [0, 1, 2, -1, 10 ^ (15 : Int).toNat, -10 ^ (15 : Int).toNat, 7]
theorem menu_ok : ∀ z ∈ menu, -1000000000000000 ≤ z ∧ z ≤ 1000000000000000 := by decide +kernel
section
variable {P : Program} {w : World} {K : PySem.W.Frag} {mg : Str → Option Value} {base : Heap}
abbrev sAny : Stmt := topS 66
theorem scAny : FnScope ["d", "depth", "turn", "names", "terms", "many", "sign", "name", "k"] ["d", "depth"] (defScope sAny) := ⟨rfl, rfl, rfl, by decide +kernel, rfl, by decide +kernel, by decide +kernel⟩
theorem c_any1 {f : Addr} {fd : FuncData} (T : TxtG mg) (c_law_take : C8.Cal P w K mg base 1 "_law_take" spTake []) (c_law_name : C8.Cal P w K mg base 2 "_law_name" spLName []) (c_law_names : C8.Cal P w K mg base 3 "_law_names" spLNames []) {n : Nat} (c_law_any : C8.Cal P w K mg base (2 * n + 4) "_law_any" (spAny n) []) (c_law_any_branch : C8.Cal P w K mg base (2 * n + 5) "_law_any_branch" (spBranch n) []) (F : Fun K "_law_any" "_law_any" sAny f fd) (b : Binds K fd ["d", "depth"] []) (hm : mg "_law_any" = some (.ref f)) : C8.Cal P w K mg base (2 * (n + 1) + 4) "_law_any" (spAny (n + 1)) [] := by
  refine cal_of F hm b scAny (fun vs H Q E h => ?_) (fun cdv A outer s H vs Q E hr h => ?_)
  · obtain ⟨p, r, B, e, rfl, _⟩ := h
    rfl
  obtain ⟨p, r, B, e, rfl, hen, d0, hB, q⟩ := h
  have hu := hu_of hr
  have hc8 := c8 e
  refine ⟨_, (pss_cons (ps_set (i := 2) scAny.nd rfl (Or.inl rfl) (pe_op op_mod (C8.pe_c c_law_take hr (by omega) rfl (pa_cons (pv 0) pa_nil)) pe_int))
    (pss_cons (ps_if (PW.pt (pw_or (pt_cmpR op_le (pv 1) pe_int (nomark _)) (pw_or (pt_cmpR op_le (pe_dget hu (pv 0) pe_str (fun _ _ => rfl)) pe_int (nomark _)) (pw_or1 (pt_cmpR op_lt (pv 2) pe_int (nomark _))))))
      (pss_cons (ps_if (pt_cmpR op_eq (pe_op op_mod (pv 2) pe_int) pe_int (nomark _))
      (pss_one (ps_ret (pe_tup (pa_cons pe_str (pa_cons (pe_ix ix_list (pe_lst (pa_cons pe_int (pa_cons pe_int (pa_cons pe_int (pa_cons (pe_un un_neg pe_int) (pa_cons (pe_op op_pow pe_int pe_int) (pa_cons (pe_un un_neg (pe_op op_pow pe_int pe_int)) (pa_cons pe_int pa_nil)))))))) (pe_op op_mod (C8.pe_c c_law_take hr (by omega) rfl (pa_cons (pv 0) pa_nil)) pe_int) (fun _ _ => rfl)) pa_nil)))))
      pss_nil)
    (pss_one (ps_ret (pe_tup (pa_cons pe_str (pa_cons (C8.pe_c c_law_name hr (by omega) rfl (pa_cons (pv 0) pa_nil)) pa_nil))))))
      pss_nil)
    (pss_cons (ps_dput hu (pv 0) pe_str (pe_op op_sub (pe_dget hu (pv 0) pe_str (fun _ _ => rfl)) pe_int) rfl)
    (pss_cons (ps_if (pt_cmpR op_lt (pv 2) pe_int (nomark _))
      (pss_one (ps_ret (pe_tup (pa_cons pe_str (pa_cons (C8.pe_c c_law_any hr (by omega) rfl (pa_cons (pv 0) (pa_cons (pe_op op_sub (pv 1) pe_int) pa_nil))) (pa_cons (C8.pe_c c_law_any hr (by omega) rfl (pa_cons (pv 0) (pa_cons (pe_op op_sub (pv 1) pe_int) pa_nil))) pa_nil))))))
      pss_nil)
    (pss_cons (ps_if (pt_cmpR op_lt (pv 2) pe_int (nomark _))
      (pss_one (ps_ret (pe_tup (pa_cons pe_str (pa_cons (C8.pe_c c_law_name hr (by omega) rfl (pa_cons (pv 0) pa_nil)) (pa_cons (C8.pe_c c_law_any hr (by omega) rfl (pa_cons (pv 0) (pa_cons (pe_op op_sub (pv 1) pe_int) pa_nil))) pa_nil))))))
      pss_nil)
    (pss_cons (ps_if (pt_cmpR op_eq (pv 2) pe_int (nomark _))
      (pss_cons (ps_set (i := 3) scAny.nd rfl (Or.inl rfl) (C8.pe_c c_law_names hr (by omega) rfl (pa_cons (pv 0) (pa_cons (pe_op op_add pe_int (pe_op op_mod (C8.pe_c c_law_take hr (by omega) rfl (pa_cons (pv 0) pa_nil)) pe_int)) pa_nil))))
    (pss_cons (ps_setLc (i := 4) (own := [("name", 7)]) (g := gName 7) (tt := tYes) rfl scAny.nd rfl rfl (sw_true rfl rfl rfl (by decide +kernel)) (pi_tup (pv 3)) (blkOk_by (own := [("name", 7)]) (N := ["d", "depth", "turn", "names", "terms", "many", "sign", "name", "k"]) (sc := defScope sAny) (by decide +kernel)) (fun _ _ _ _ _ => (pg_name (i := 7) scAny.nd rfl (Or.inl rfl))) (fun _ _ _ _ _ => pts_nil) (fun _ _ _ _ _ => (pe_tup (pa_cons (pv 7) (pa_cons (C8.pe_c c_law_any hr (by omega) rfl (pa_cons (pv 0) (pa_cons (pe_op op_sub (pv 1) pe_int) pa_nil))) pa_nil)))))
    (pss_one (ps_ret (pe_tup (pa_cons pe_str (pa_cons (pe_callTy call_tuple_of rfl T.ztuple boot_tuple (pa_cons (pv 4) pa_nil)) (pa_cons (C8.pe_c c_law_any hr (by omega) rfl (pa_cons (pv 0) (pa_cons (pe_op op_sub (pv 1) pe_int) pa_nil))) pa_nil))))))))
      pss_nil)
    (pss_cons (ps_if (pt_cmpR op_eq (pv 2) pe_int (nomark _))
      (pss_one (ps_ret (pe_tup (pa_cons pe_str (pa_cons (C8.pe_c c_law_name hr (by omega) rfl (pa_cons (pv 0) pa_nil)) (pa_cons (C8.pe_c c_law_any hr (by omega) rfl (pa_cons (pv 0) (pa_cons (pe_op op_sub (pv 1) pe_int) pa_nil))) (pa_cons (C8.pe_c c_law_any hr (by omega) rfl (pa_cons (pv 0) (pa_cons (pe_op op_sub (pv 1) pe_int) pa_nil))) pa_nil)))))))
      pss_nil)
    (pss_cons (ps_if (PW.pt (pw_or (pt_cmpR op_eq (pv 2) pe_int (nomark _)) (pw_or1 (pt_cmpR op_eq (pv 2) pe_int (nomark _)))))
      (pss_cons (ps_set (i := 5) scAny.nd rfl (Or.inl rfl) (pe_op op_mod (C8.pe_c c_law_take hr (by omega) rfl (pa_cons (pv 0) pa_nil)) pe_int))
    (pss_one (ps_ret (pe_tup (pa_cons pe_str (pa_cons (pe_op op_mod (C8.pe_c c_law_take hr (by omega) rfl (pa_cons (pv 0) pa_nil)) pe_int) (pa_cons (pe_callTy call_tuple_of rfl T.ztuple boot_tuple (pa_cons (pe_lc (own := [("k", 8)]) (g := gName 8) (tt := tYes) rfl scAny.nd (pi_range1 rfl T.zrange (pa_cons (pv 5) pa_nil)) (blkOk_by (own := [("k", 8)]) (N := ["d", "depth", "turn", "names", "terms", "many", "sign", "name", "k"]) (sc := defScope sAny) (by decide +kernel)) (fun _ _ _ _ _ => (pg_name (i := 8) scAny.nd rfl (Or.inl rfl))) (fun _ _ _ _ _ => pts_nil) (fun _ _ _ _ _ => (C8.pe_c c_law_any hr (by omega) rfl (pa_cons (pv 0) (pa_cons (pe_op op_sub (pv 1) pe_int) pa_nil))))) pa_nil)) pa_nil)))))))
      pss_nil)
    (pss_cons (ps_if (PW.pt (pw_or (pt_cmpR op_eq (pv 2) pe_int (nomark _)) (pw_or1 (pt_cmpR op_eq (pv 2) pe_int (nomark _)))))
      (pss_one (ps_ret (C8.pe_c c_law_any_branch hr (by omega) rfl (pa_cons (pv 0) (pa_cons (pv 1) pa_nil)))))
      pss_nil)
    (pss_cons (ps_if (pt_cmpR op_eq (pv 2) pe_int (nomark _))
      (pss_one (ps_ret (pe_tup (pa_cons pe_str (pa_cons (C8.pe_c c_law_take hr (by omega) rfl (pa_cons (pv 0) pa_nil)) (pa_cons (C8.pe_c c_law_any hr (by omega) rfl (pa_cons (pv 0) (pa_cons (pe_op op_sub (pv 1) pe_int) pa_nil))) pa_nil))))))
      pss_nil)
    (pss_cons (ps_set (i := 6) scAny.nd rfl (Or.inl rfl) (pe_ix ix_list (pe_lst (pa_strs (zs := ["+", "-", "*", "div", "mod", "==", "<", "<="]) rfl)) (pe_op op_mod (C8.pe_c c_law_take hr (by omega) rfl (pa_cons (pv 0) pa_nil)) pe_int) (fun _ _ => rfl)))
    (pss_one (ps_ret (pe_tup (pa_cons pe_str (pa_cons (pv 6) (pa_cons (C8.pe_c c_law_any hr (by omega) rfl (pa_cons (pv 0) (pa_cons (pe_op op_sub (pv 1) pe_int) pa_nil))) (pa_cons (C8.pe_c c_law_any hr (by omega) rfl (pa_cons (pv 0) (pa_cons (pe_op op_sub (pv 1) pe_int) pa_nil))) pa_nil)))))))))))))))))), ?_⟩
  refine ⟨_, rfl, p, r, B, rfl, d0, fun n1 H1 n10 n11 k1 d1 => ?_⟩
  have m10 := Int.emod_nonneg n1 (show (16 : Int) ≠ 0 by decide)
  have m11 := Int.emod_lt_of_pos n1 (show (0 : Int) < 16 by decide)
  refine ⟨_, _, rfl, rfl, (show (0 : Int) < 16 by decide), ?_⟩
  show gName 2 (V.int (n1 % 16)) _ _ _
  generalize hturn : n1 % 16 = u at *
  obtain ⟨row, i1, nn, left, hp1, hrow1, ok1, hi1⟩ := d1
  have d1 : DAt H1 p r (B + 1) := ⟨row, i1, nn, left, hp1, hrow1, ok1, hi1⟩
  refine ⟨_, rfl, _, _, rfl, rfl, _, rfl, ?_⟩
  show if decide ((e : Int) ≤ 0) = true then _ else _
  rcases Bool.eq_false_or_eq_true (decide ((e : Int) ≤ 0)) with c1 | c1
  · rw [c1]
    refine iteT (iteT ?_)
    refine ⟨_, rfl, _, _, rfl, rfl, (show (0 : Int) < 2 by decide), rfl, _, rfl, ?_⟩
    show if decide (V.int (u % 2) = V.int 0) = true then _ else _
    rcases Bool.eq_false_or_eq_true (decide (V.int (u % 2) = V.int 0)) with cc | cc
    · rw [cc]
      refine iteT ?_
      refine ⟨_, rfl, _, _, rfl, rfl, (by unfold CPow; decide), _, _, rfl, rfl, (by unfold CPow; decide), _, rfl, by show 7 ≤ sizeLine; decide, fun lz hlz => ?_⟩
      have s2 := same_new hlz (.lst (menu.map V.int))
      have e2 : upd H1 lz (.lst (menu.map V.int)) lz = some (.lst (menu.map V.int)) := upd_same
      have d2 := d1.same s2
      have k2 := k1.trans (Keep.same s2)
      refine ⟨_, rfl, p, r, _, rfl, d2, fun n2 H2 n20 n21 k3 d3 => ?_⟩
      obtain ⟨z, hz, ez⟩ := at_intN (ns := menu) (i := n2 % 7) (Int.emod_nonneg _ (by decide)) (by show n2 % 7 < 7; exact Int.emod_lt_of_pos _ (by decide))
      refine ⟨_, _, rfl, rfl, (show (0 : Int) < 7 by decide), lz, _, _, _, rfl, rfl, SqL.of (k3 _ _ (d2.ne_list e2) e2), ez, ?_⟩
      refine ⟨by show 2 ≤ sizeLine; decide, fun t ht => ?_⟩
      have s3 := same_new ht (.tup [.str "num", .int z])
      exact q _ (.tup [.str "num", .int z]) _ ((k2.trans k3).trans (Keep.same s3)) ((d3.same s3).more (by omega)) (at_tup upd_same (ats_cons (at_str' (by decide +kernel)) (ats_cons at_int' ats_nil))) (gt_num (menu_ok z hz).1 (menu_ok z hz).2)
    · rw [cc]
      refine iteF ?_
      refine ⟨_, rfl, p, r, _, rfl, d1, fun z H2 hz k2 d2 => ⟨by show 2 ≤ sizeLine; decide, fun t ht => ?_⟩⟩
      have s3 := same_new ht (.tup [.str "var", .str z])
      exact q _ (.tup [.str "var", .str z]) _ ((k1.trans k2).trans (Keep.same s3)) ((d2.same s3).more (by omega)) (at_tup upd_same (ats_cons (at_str' (by decide +kernel)) (ats_cons (at_str' (names_ok z hz).2.2) ats_nil))) (gt_var hz)
  rw [c1]
  refine iteF ?_
  refine ⟨_, rfl, p, _, rfl, (dk_left r _ _ _ ▸ DGet.k (k := Sum.inr "left") hp1), _, _, rfl, rfl, _, rfl, ?_⟩
  show if decide (left ≤ 0) = true then _ else _
  rcases Bool.eq_false_or_eq_true (decide (left ≤ 0)) with c2 | c2
  · rw [c2]
    refine iteT (iteT ?_)
    refine ⟨_, rfl, _, _, rfl, rfl, (show (0 : Int) < 2 by decide), rfl, _, rfl, ?_⟩
    show if decide (V.int (u % 2) = V.int 0) = true then _ else _
    rcases Bool.eq_false_or_eq_true (decide (V.int (u % 2) = V.int 0)) with cc | cc
    · rw [cc]
      refine iteT ?_
      refine ⟨_, rfl, _, _, rfl, rfl, (by unfold CPow; decide), _, _, rfl, rfl, (by unfold CPow; decide), _, rfl, by show 7 ≤ sizeLine; decide, fun lz hlz => ?_⟩
      have s2 := same_new hlz (.lst (menu.map V.int))
      have e2 : upd H1 lz (.lst (menu.map V.int)) lz = some (.lst (menu.map V.int)) := upd_same
      have d2 := d1.same s2
      have k2 := k1.trans (Keep.same s2)
      refine ⟨_, rfl, p, r, _, rfl, d2, fun n2 H2 n20 n21 k3 d3 => ?_⟩
      obtain ⟨z, hz, ez⟩ := at_intN (ns := menu) (i := n2 % 7) (Int.emod_nonneg _ (by decide)) (by show n2 % 7 < 7; exact Int.emod_lt_of_pos _ (by decide))
      refine ⟨_, _, rfl, rfl, (show (0 : Int) < 7 by decide), lz, _, _, _, rfl, rfl, SqL.of (k3 _ _ (d2.ne_list e2) e2), ez, ?_⟩
      refine ⟨by show 2 ≤ sizeLine; decide, fun t ht => ?_⟩
      have s3 := same_new ht (.tup [.str "num", .int z])
      exact q _ (.tup [.str "num", .int z]) _ ((k2.trans k3).trans (Keep.same s3)) ((d3.same s3).more (by omega)) (at_tup upd_same (ats_cons (at_str' (by decide +kernel)) (ats_cons at_int' ats_nil))) (gt_num (menu_ok z hz).1 (menu_ok z hz).2)
    · rw [cc]
      refine iteF ?_
      refine ⟨_, rfl, p, r, _, rfl, d1, fun z H2 hz k2 d2 => ⟨by show 2 ≤ sizeLine; decide, fun t ht => ?_⟩⟩
      have s3 := same_new ht (.tup [.str "var", .str z])
      exact q _ (.tup [.str "var", .str z]) _ ((k1.trans k2).trans (Keep.same s3)) ((d2.same s3).more (by omega)) (at_tup upd_same (ats_cons (at_str' (by decide +kernel)) (ats_cons (at_str' (names_ok z hz).2.2) ats_nil))) (gt_var hz)
  rw [c2]
  refine iteF ?_
  refine ⟨_, rfl, _, _, rfl, rfl, _, rfl, ?_⟩
  show if decide (u < 2) = true then _ else _
  rcases Bool.eq_false_or_eq_true (decide (u < 2)) with c3 | c3
  · rw [c3]
    refine iteT ?_
    refine ⟨_, rfl, _, _, rfl, rfl, (show (0 : Int) < 2 by decide), rfl, _, rfl, ?_⟩
    show if decide (V.int (u % 2) = V.int 0) = true then _ else _
    rcases Bool.eq_false_or_eq_true (decide (V.int (u % 2) = V.int 0)) with cc | cc
    · rw [cc]
      refine iteT ?_
      refine ⟨_, rfl, _, _, rfl, rfl, (by unfold CPow; decide), _, _, rfl, rfl, (by unfold CPow; decide), _, rfl, by show 7 ≤ sizeLine; decide, fun lz hlz => ?_⟩
      have s2 := same_new hlz (.lst (menu.map V.int))
      have e2 : upd H1 lz (.lst (menu.map V.int)) lz = some (.lst (menu.map V.int)) := upd_same
      have d2 := d1.same s2
      have k2 := k1.trans (Keep.same s2)
      refine ⟨_, rfl, p, r, _, rfl, d2, fun n2 H2 n20 n21 k3 d3 => ?_⟩
      obtain ⟨z, hz, ez⟩ := at_intN (ns := menu) (i := n2 % 7) (Int.emod_nonneg _ (by decide)) (by show n2 % 7 < 7; exact Int.emod_lt_of_pos _ (by decide))
      refine ⟨_, _, rfl, rfl, (show (0 : Int) < 7 by decide), lz, _, _, _, rfl, rfl, SqL.of (k3 _ _ (d2.ne_list e2) e2), ez, ?_⟩
      refine ⟨by show 2 ≤ sizeLine; decide, fun t ht => ?_⟩
      have s3 := same_new ht (.tup [.str "num", .int z])
      exact q _ (.tup [.str "num", .int z]) _ ((k2.trans k3).trans (Keep.same s3)) ((d3.same s3).more (by omega)) (at_tup upd_same (ats_cons (at_str' (by decide +kernel)) (ats_cons at_int' ats_nil))) (gt_num (menu_ok z hz).1 (menu_ok z hz).2)
    · rw [cc]
      refine iteF ?_
      refine ⟨_, rfl, p, r, _, rfl, d1, fun z H2 hz k2 d2 => ⟨by show 2 ≤ sizeLine; decide, fun t ht => ?_⟩⟩
      have s3 := same_new ht (.tup [.str "var", .str z])
      exact q _ (.tup [.str "var", .str z]) _ ((k1.trans k2).trans (Keep.same s3)) ((d2.same s3).more (by omega)) (at_tup upd_same (ats_cons (at_str' (by decide +kernel)) (ats_cons (at_str' (names_ok z hz).2.2) ats_nil))) (gt_var hz)
  rw [c3]
  refine iteF ?_
  obtain ⟨e', rfl⟩ : ∃ e', e = e' + 1 := ⟨e - 1, by have := of_decide_eq_false c1; omega⟩
  have hc8 := c8 e'
  rw [p4] at hB q
  have hen' : e' < n := by omega
  refine ⟨_, rfl, p, _, rfl, (dk_left r _ _ _ ▸ DGet.k (k := Sum.inr "left") hp1), _, _, rfl, rfl, _, rfl, p, _, rfl, DPut.k (k := Sum.inr "left") hp1 (by show 4 < sizeLine; decide), ?_⟩
  rw [dk_putl]
  have npr : r ≠ p := ne_of hrow1 hp1 (by intro z; cases z)
  have dG : DAt (upd H1 p (.dK (dk4 r i1 nn (left - 1)))) p r (B + 1) := ⟨row, i1, nn, left - 1, upd_same, by rw [upd_ne npr]; exact hrow1, ok1, hi1⟩
  have kG : Keep p H (upd H1 p (.dK (dk4 r i1 nn (left - 1)))) := k1.trans fun b o hb e => by rw [upd_ne hb]; exact e
  generalize upd H1 p (.dK (dk4 r i1 nn (left - 1))) = G at dG kG ⊢
  refine ⟨_, rfl, _, _, rfl, rfl, _, rfl, ?_⟩
  show if decide (u < 5) = true then _ else _
  rcases Bool.eq_false_or_eq_true (decide (u < 5)) with t1 | t1
  · rw [t1]
    refine iteT ?_
    refine ⟨_, rfl, _, rfl, _, _, rfl, rfl, p, r, _, e', ed _ _, hen', dG, by omega, fun v1 g1 G1 k1 d1 a1 h1 => ?_⟩
    refine ⟨_, rfl, _, rfl, _, _, rfl, rfl, p, r, _, e', ed _ _, hen', d1, by omega, fun v2 g2 G2 k2 d2 a2 h2 => ?_⟩
    refine ⟨by show 3 ≤ sizeLine; decide, fun t ht => ?_⟩
    have s3 := same_new ht (.tup [.str "app", v1, v2])
    have f3 := fr_same (B := F0) s3
    exact q _ (.tup [.str "app", g1, g2]) _ (((kG.trans k1).trans k2).trans (Keep.same s3)) ((d2.same s3).more (by omega)) (at_tup upd_same (ats_cons (at_str' (by decide +kernel)) (ats_cons ((a1.keep (fr_keep k2 d1)).keep f3) (ats_cons (a2.keep f3) ats_nil)))) (gt_app h1 h2)
  rw [t1]
  refine iteF ?_
  refine ⟨_, rfl, _, _, rfl, rfl, _, rfl, ?_⟩
  show if decide (u < 7) = true then _ else _
  rcases Bool.eq_false_or_eq_true (decide (u < 7)) with t2 | t2
  · rw [t2]
    refine iteT ?_
    refine ⟨_, rfl, p, r, _, rfl, dG, fun z G0 hz k0 d0 => ?_⟩
    refine ⟨_, rfl, _, rfl, _, _, rfl, rfl, p, r, _, e', ed _ _, hen', d0, by omega, fun v1 g1 G1 k1 d1 a1 h1 => ?_⟩
    refine ⟨by show 3 ≤ sizeLine; decide, fun t ht => ?_⟩
    have s3 := same_new ht (.tup [.str "lam", .str z, v1])
    have f3 := fr_same (B := F0) s3
    exact q _ (.tup [.str "lam", .str z, g1]) _ (((kG.trans k0).trans k1).trans (Keep.same s3)) ((d1.same s3).more (by omega)) (at_tup upd_same (ats_cons (at_str' (by decide +kernel)) (ats_cons (at_str' (names_ok z hz).2.2) (ats_cons (a1.keep f3) ats_nil)))) (gt_lam hz h1)
  rw [t2]
  refine iteF ?_
  refine ⟨_, rfl, rfl, _, rfl, ?_⟩
  show if decide (V.int u = V.int 7) = true then _ else _
  rcases Bool.eq_false_or_eq_true (decide (V.int u = V.int 7)) with t3 | t3
  · rw [t3]
    refine iteT ?_
    refine ⟨_, rfl, _, rfl, p, r, _, rfl, dG, fun n2 G0 n20 n21 k0 d0 => ?_⟩
    have m20 := Int.emod_nonneg n2 (show (3 : Int) ≠ 0 by decide)
    have m21 := Int.emod_lt_of_pos n2 (show (0 : Int) < 3 by decide)
    refine ⟨_, _, rfl, rfl, (show (0 : Int) < 3 by decide), _, _, rfl, rfl, p, r, _, (1 + n2 % 3).toNat, by rw [Int.toNat_of_nonneg (by omega)]; rfl, by omega, d0, fun t zs G1 k1 d1 et hz hnd hzl hpos => ?_⟩
    have hzl3 : zs.length ≤ 3 := by omega
    have hzp : 0 < zs.length := hpos (by omega)
    refine ⟨_, rfl, t, rfl, ⟨_, SqT.of et⟩, fun D hD => ?_⟩
    obtain ⟨nDp, nDr⟩ := d1.fresh hD
    refine lc_tup (a := t) (xs := zs.map V.str) (fun i G' => ∃ (l : List Dd) (xs : List V), G' D = some (.lst xs) ∧ Keep p G1 G' ∧ DAt G' p r (B + 1 + 1 + (1 + n2 % 3).toNat + i * (8 * 4 ^ e' - 5)) ∧ Dd.Ats F0 G' (rowsL (zs.take i) l) xs ∧ l.length = i ∧ ∀ k ∈ l, Gt e' k) ⟨[], [], upd_same, Keep.same (same_new hD _), (d1.same (same_new hD _)).more (by omega), rfl, rfl, fun k h => by cases h⟩ (fun i G' hi ⟨_, _, _, h2, _⟩ => SqT.of (h2 _ _ (d1.ne_tup et) et)) ?_ ?_
    · rintro i x G' hx ⟨l, xs, h1, h2, h3, h4, h5, h6⟩
      rw [List.getElem?_map] at hx
      obtain ⟨z, hzi, rfl⟩ := Option.map_eq_some_iff.mp hx
      have hil : i < zs.length := (List.getElem?_eq_some_iff.mp hzi).1
      have hic : i * (8 * 4 ^ e' - 5) ≤ 2 * (8 * 4 ^ e' - 5) := Nat.mul_le_mul_right _ (by omega)
      have hic1 : (i + 1) * (8 * 4 ^ e' - 5) = i * (8 * 4 ^ e' - 5) + (8 * 4 ^ e' - 5) := Nat.succ_mul _ _
      have hxl := ats_len h4
      rw [rowsL_len (by rw [List.length_take, h5]; omega), h5] at hxl
      refine ⟨rfl, ?_⟩
      refine tYes_if ?_
      refine ⟨_, rfl, _, rfl, _, rfl, _, _, rfl, rfl, p, r, _, e', ed _ _, hen', h3, by omega, fun v1 g1 G2 k2 d2 a2 hg => ⟨by show 2 ≤ sizeLine; decide, fun u1 hu1 => ?_⟩⟩
      have h1' := k2 _ _ nDp h1
      have s3 := same_new hu1 (.tup [.str z, v1])
      have h1'' := s3 _ _ h1'
      have f3 := fr_same (B := F0) s3
      have e3 : upd G2 u1 (.tup [.str z, v1]) u1 = some (.tup [.str z, v1]) := upd_same
      have d3 := d2.same s3
      have a3 := a2.keep f3
      have h43 := (h4.keep (fr_keep k2 h3)).keep f3
      have k3 := (h2.trans k2).trans (Keep.same s3)
      generalize upd G2 u1 (.tup [.str z, v1]) = G3 at *
      have fL : Fr F0 G3 (upd G3 D (.lst (xs ++ [.ref u1]))) := fr_list h1'' fun z => z
      refine ⟨xs, h1'', szl (by omega), l ++ [g1], xs ++ [.ref u1], upd_same, keep_upd hD k3 _, (d3.off nDp nDr _).more (by omega), ?_, by rw [List.length_append, h5]; rfl, fun k hk => ?_⟩
      · rw [List.take_add_one, hzi, show rowsL (zs.take i ++ (some z).toList) (l ++ [g1]) = rowsL (zs.take i) l ++ [.tup [.str z, g1]] by
          unfold rowsL
          rw [List.zipWith_append (by rw [List.length_take, h5]; omega)]
          rfl]
        exact ats_app (h43.keep fL) (ats_one ((at_tup e3 (ats_cons (at_str' (names_ok z (hz z (List.mem_of_getElem? hzi))).2.2) (ats_cons a3 ats_nil))).keep fL))
      · rcases List.mem_append.mp hk with z' | z'
        · exact h6 k z'
        · rw [List.mem_singleton.mp z']; exact hg
    rintro G' ⟨l, xs, h1, h2, h3, h4, h5, h6⟩
    rw [List.length_map] at h3 h5
    rw [List.length_map, List.take_length] at h4
    have hic : zs.length * (8 * 4 ^ e' - 5) ≤ 3 * (8 * 4 ^ e' - 5) := Nat.mul_le_mul_right _ hzl3
    refine ⟨_, rfl, D, xs, rfl, .inl ⟨SqL.of h1, fun u1 hu1 => ?_⟩⟩
    have s3 := same_new hu1 (.tup xs)
    have e3 : upd G' u1 (.tup xs) u1 = some (.tup xs) := upd_same
    have d3 := h3.same s3
    have a3 := Dd.Ats.keep (fr_same (B := F0) s3) h4
    have kk3 := (((kG.trans k0).trans k1).trans h2).trans (Keep.same s3)
    generalize upd G' u1 (.tup xs) = G3 at *
    refine ⟨_, rfl, _, rfl, _, _, rfl, rfl, p, r, _, e', ed _ _, hen', d3, by omega, fun v4 g4 G4 k4 d4 a4 h4' => ⟨by show 3 ≤ sizeLine; decide, fun t5 ht5 => ?_⟩⟩
    have s5 := same_new ht5 (.tup [.str "let", .ref u1, v4])
    have f5 := fr_same (B := F0) s5
    exact q _ (.tup [.str "let", .tup (rowsL zs l), g4]) _ ((kk3.trans k4).trans (Keep.same s5)) ((d4.same s5).more (by omega)) (at_tup upd_same (ats_cons (at_str' (by decide +kernel)) (ats_cons (at_tup (s5 _ _ (k4 _ _ (d3.ne_tup e3) e3)) ((a3.keep (fr_keep k4 d3)).keep f5)) (ats_cons (a4.keep f5) ats_nil)))) (gt_let hz hnd h5.symm (by omega) (by omega) h6 h4')
  rw [t3]
  refine iteF ?_
  refine ⟨_, rfl, rfl, _, rfl, ?_⟩
  show if decide (V.int u = V.int 8) = true then _ else _
  rcases Bool.eq_false_or_eq_true (decide (V.int u = V.int 8)) with t4 | t4
  · rw [t4]
    refine iteT ?_
    refine ⟨_, rfl, p, r, _, rfl, dG, fun z G0 hz k0 d0 => ?_⟩
    refine ⟨_, rfl, _, rfl, _, _, rfl, rfl, p, r, _, e', ed _ _, hen', d0, by omega, fun v1 g1 G1 k1 d1 a1 h1 => ?_⟩
    refine ⟨_, rfl, _, rfl, _, _, rfl, rfl, p, r, _, e', ed _ _, hen', d1, by omega, fun v2 g2 G2 k2 d2 a2 h2 => ?_⟩
    refine ⟨by show 4 ≤ sizeLine; decide, fun t ht => ?_⟩
    have s3 := same_new ht (.tup [.str "seq", .str z, v1, v2])
    have f3 := fr_same (B := F0) s3
    exact q _ (.tup [.str "seq", .str z, g1, g2]) _ ((((kG.trans k0).trans k1).trans k2).trans (Keep.same s3)) ((d2.same s3).more (by omega)) (at_tup upd_same (ats_cons (at_str' (by decide +kernel)) (ats_cons (at_str' (names_ok z hz).2.2) (ats_cons ((a1.keep (fr_keep k2 d1)).keep f3) (ats_cons (a2.keep f3) ats_nil))))) (gt_seq hz h1 h2)
  rw [t4]
  refine iteF ?_
  refine ⟨_, rfl, rfl, _, rfl, ?_⟩
  show if decide (V.int u = V.int 9) = true then _ else _
  rcases Bool.eq_false_or_eq_true (decide (V.int u = V.int 9)) with t5 | t5
  · rw [t5]
    refine iteT (iteT ?_)
    refine ⟨_, rfl, p, r, _, rfl, dG, fun n2 G0 n20 n21 k0 d0 => ?_⟩
    have m20 := Int.emod_nonneg n2 (show (4 : Int) ≠ 0 by decide)
    have m21 := Int.emod_lt_of_pos n2 (show (0 : Int) < 4 by decide)
    refine ⟨_, _, rfl, rfl, (show (0 : Int) < 4 by decide), _, rfl, p, r, _, rfl, d0, fun n3 G1 n30 n31 k1 d1 => ?_⟩
    have m30 := Int.emod_nonneg n3 (show (3 : Int) ≠ 0 by decide)
    have m31 := Int.emod_lt_of_pos n3 (show (0 : Int) < 3 by decide)
    refine ⟨_, _, rfl, rfl, (show (0 : Int) < 3 by decide), _, rfl, _, rfl, by omega, by omega, fun D hD => ?_⟩
    obtain ⟨nDp, nDr⟩ := d1.fresh hD
    have hm3 : (n2 % 4).toNat ≤ 3 := by omega
    refine lc_range (Pv := fun i G' => ∃ (l : List Dd) (xs : List V), G' D = some (.lst xs) ∧ Keep p G1 G' ∧ DAt G' p r (B + 3 + i * (8 * 4 ^ e' - 5)) ∧ Dd.Ats F0 G' l xs ∧ l.length = i ∧ ∀ k ∈ l, Gt e' k) ⟨[], [], upd_same, Keep.same (same_new hD _), (d1.same (same_new hD _)).more (by omega), rfl, rfl, fun k h => by cases h⟩ ?_ ?_
    · rintro i G' hi ⟨l, xs, h1, h2, h3, h4, h5, h6⟩
      have hic : i * (8 * 4 ^ e' - 5) ≤ 2 * (8 * 4 ^ e' - 5) := Nat.mul_le_mul_right _ (by omega)
      have hic1 : (i + 1) * (8 * 4 ^ e' - 5) = i * (8 * 4 ^ e' - 5) + (8 * 4 ^ e' - 5) := Nat.succ_mul _ _
      have hxl := ats_len h4
      refine ⟨rfl, ?_⟩
      refine tYes_if ?_
      refine ⟨_, rfl, _, rfl, _, _, rfl, rfl, p, r, _, e', ed _ _, hen', h3, by omega, fun v1 g1 G2 k2 d2 a2 hg => ?_⟩
      have h1' := k2 _ _ nDp h1
      have fL : Fr F0 G2 (upd G2 D (.lst (xs ++ [v1]))) := fr_list h1' fun z => z
      refine ⟨xs, h1', szl (by omega), l ++ [g1], xs ++ [v1], upd_same, keep_upd hD (h2.trans k2) _, (d2.off nDp nDr _).more (by omega), ats_app ((h4.keep (fr_keep k2 h3)).keep fL) (ats_one (a2.keep fL)), by rw [List.length_append, h5]; rfl, fun k hk => ?_⟩
      rcases List.mem_append.mp hk with z' | z'
      · exact h6 k z'
      · rw [List.mem_singleton.mp z']; exact hg
    rintro G' ⟨l, xs, h1, h2, h3, h4, h5, h6⟩
    have hic : (n2 % 4).toNat * (8 * 4 ^ e' - 5) ≤ 3 * (8 * 4 ^ e' - 5) := Nat.mul_le_mul_right _ hm3
    refine ⟨D, xs, rfl, .inl ⟨SqL.of h1, fun u1 hu1 => ?_⟩⟩
    have s3 := same_new hu1 (.tup xs)
    have e3 : upd G' u1 (.tup xs) u1 = some (.tup xs) := upd_same
    have d3 := h3.same s3
    have a3 := Dd.Ats.keep (fr_same (B := F0) s3) h4
    have kk3 := (((kG.trans k0).trans k1).trans h2).trans (Keep.same s3)
    generalize upd G' u1 (.tup xs) = G3 at *
    refine ⟨by show 3 ≤ sizeLine; decide, fun t5 ht5 => ?_⟩
    have s5 := same_new ht5 (.tup [.str "con", .int (n3 % 3), .ref u1])
    have f5 := fr_same (B := F0) s5
    exact q _ (.tup [.str "con", .int (n3 % 3), .tup l]) _ (kk3.trans (Keep.same s5)) ((d3.same s5).more (by omega)) (at_tup upd_same (ats_cons (at_str' (by decide +kernel)) (ats_cons at_int' (ats_cons (at_tup (s5 _ _ e3) (a3.keep f5)) ats_nil)))) (gt_con m30 (by omega) (by omega) h6)
  rw [t5]
  refine iteF ?_
  refine ⟨_, rfl, rfl, _, rfl, ?_⟩
  show if decide (V.int u = V.int 10) = true then _ else _
  rcases Bool.eq_false_or_eq_true (decide (V.int u = V.int 10)) with t6 | t6
  · rw [t6]
    refine iteT ?_
    refine ⟨_, rfl, p, r, _, rfl, dG, fun n2 G0 n20 n21 k0 d0 => ?_⟩
    have m20 := Int.emod_nonneg n2 (show (4 : Int) ≠ 0 by decide)
    have m21 := Int.emod_lt_of_pos n2 (show (0 : Int) < 4 by decide)
    refine ⟨_, _, rfl, rfl, (show (0 : Int) < 4 by decide), _, rfl, p, r, _, rfl, d0, fun n3 G1 n30 n31 k1 d1 => ?_⟩
    have m30 := Int.emod_nonneg n3 (show (3 : Int) ≠ 0 by decide)
    have m31 := Int.emod_lt_of_pos n3 (show (0 : Int) < 3 by decide)
    refine ⟨_, _, rfl, rfl, (show (0 : Int) < 3 by decide), _, rfl, _, rfl, by omega, by omega, fun D hD => ?_⟩
    obtain ⟨nDp, nDr⟩ := d1.fresh hD
    have hm3 : (n2 % 4).toNat ≤ 3 := by omega
    refine lc_range (Pv := fun i G' => ∃ (l : List Dd) (xs : List V), G' D = some (.lst xs) ∧ Keep p G1 G' ∧ DAt G' p r (B + 3 + i * (8 * 4 ^ e' - 5)) ∧ Dd.Ats F0 G' l xs ∧ l.length = i ∧ ∀ k ∈ l, Gt e' k) ⟨[], [], upd_same, Keep.same (same_new hD _), (d1.same (same_new hD _)).more (by omega), rfl, rfl, fun k h => by cases h⟩ ?_ ?_
    · rintro i G' hi ⟨l, xs, h1, h2, h3, h4, h5, h6⟩
      have hic : i * (8 * 4 ^ e' - 5) ≤ 2 * (8 * 4 ^ e' - 5) := Nat.mul_le_mul_right _ (by omega)
      have hic1 : (i + 1) * (8 * 4 ^ e' - 5) = i * (8 * 4 ^ e' - 5) + (8 * 4 ^ e' - 5) := Nat.succ_mul _ _
      have hxl := ats_len h4
      refine ⟨rfl, ?_⟩
      refine tYes_if ?_
      refine ⟨_, rfl, _, rfl, _, _, rfl, rfl, p, r, _, e', ed _ _, hen', h3, by omega, fun v1 g1 G2 k2 d2 a2 hg => ?_⟩
      have h1' := k2 _ _ nDp h1
      have fL : Fr F0 G2 (upd G2 D (.lst (xs ++ [v1]))) := fr_list h1' fun z => z
      refine ⟨xs, h1', szl (by omega), l ++ [g1], xs ++ [v1], upd_same, keep_upd hD (h2.trans k2) _, (d2.off nDp nDr _).more (by omega), ats_app ((h4.keep (fr_keep k2 h3)).keep fL) (ats_one (a2.keep fL)), by rw [List.length_append, h5]; rfl, fun k hk => ?_⟩
      rcases List.mem_append.mp hk with z' | z'
      · exact h6 k z'
      · rw [List.mem_singleton.mp z']; exact hg
    rintro G' ⟨l, xs, h1, h2, h3, h4, h5, h6⟩
    have hic : (n2 % 4).toNat * (8 * 4 ^ e' - 5) ≤ 3 * (8 * 4 ^ e' - 5) := Nat.mul_le_mul_right _ hm3
    refine ⟨D, xs, rfl, .inl ⟨SqL.of h1, fun u1 hu1 => ?_⟩⟩
    have s3 := same_new hu1 (.tup xs)
    have e3 : upd G' u1 (.tup xs) u1 = some (.tup xs) := upd_same
    have d3 := h3.same s3
    have a3 := Dd.Ats.keep (fr_same (B := F0) s3) h4
    have kk3 := (((kG.trans k0).trans k1).trans h2).trans (Keep.same s3)
    generalize upd G' u1 (.tup xs) = G3 at *
    refine ⟨by show 3 ≤ sizeLine; decide, fun t5 ht5 => ?_⟩
    have s5 := same_new ht5 (.tup [.str "con", .int (n3 % 3), .ref u1])
    have f5 := fr_same (B := F0) s5
    exact q _ (.tup [.str "con", .int (n3 % 3), .tup l]) _ (kk3.trans (Keep.same s5)) ((d3.same s5).more (by omega)) (at_tup upd_same (ats_cons (at_str' (by decide +kernel)) (ats_cons at_int' (ats_cons (at_tup (s5 _ _ e3) (a3.keep f5)) ats_nil)))) (gt_con m30 (by omega) (by omega) h6)
  rw [t6]
  refine iteF ?_
  refine ⟨_, rfl, rfl, _, rfl, ?_⟩
  show if decide (V.int u = V.int 11) = true then _ else _
  rcases Bool.eq_false_or_eq_true (decide (V.int u = V.int 11)) with t7 | t7
  · rw [t7]
    refine iteT (iteT ?_)
    exact ⟨_, rfl, _, rfl, p, r, _, e', rfl, hen', dG, by rw [p4]; omega, fun v k H' kk dd aa gg => q v k H' (kG.trans kk) (dd.more (by rw [p4]; omega)) aa gg⟩
  rw [t7]
  refine iteF ?_
  refine ⟨_, rfl, rfl, _, rfl, ?_⟩
  show if decide (V.int u = V.int 12) = true then _ else _
  rcases Bool.eq_false_or_eq_true (decide (V.int u = V.int 12)) with t8 | t8
  · rw [t8]
    refine iteT ?_
    exact ⟨_, rfl, _, rfl, p, r, _, e', rfl, hen', dG, by rw [p4]; omega, fun v k H' kk dd aa gg => q v k H' (kG.trans kk) (dd.more (by rw [p4]; omega)) aa gg⟩
  rw [t8]
  refine iteF ?_
  refine ⟨_, rfl, rfl, _, rfl, ?_⟩
  show if decide (V.int u = V.int 13) = true then _ else _
  rcases Bool.eq_false_or_eq_true (decide (V.int u = V.int 13)) with t9 | t9
  · rw [t9]
    refine iteT ?_
    refine ⟨_, rfl, p, r, _, rfl, dG, fun n2 G0 n20 n21 k0 d0 => ?_⟩
    refine ⟨_, rfl, _, rfl, _, _, rfl, rfl, p, r, _, e', ed _ _, hen', d0, by omega, fun v1 g1 G1 k1 d1 a1 h1 => ?_⟩
    refine ⟨by show 3 ≤ sizeLine; decide, fun t ht => ?_⟩
    have s3 := same_new ht (.tup [.str "note", .int n2, v1])
    have f3 := fr_same (B := F0) s3
    exact q _ (.tup [.str "note", .int n2, g1]) _ (((kG.trans k0).trans k1).trans (Keep.same s3)) ((d1.same s3).more (by omega)) (at_tup upd_same (ats_cons (at_str' (by decide +kernel)) (ats_cons at_int' (ats_cons (a1.keep f3) ats_nil)))) (gt_note n20 (by omega) h1)
  rw [t9]
  refine iteF ?_
  refine ⟨by show 8 ≤ sizeLine; decide, fun lz hlz => ?_⟩
  have s2 := same_new hlz (.lst (signs.map V.str))
  have e2 : upd G lz (.lst (signs.map V.str)) lz = some (.lst (signs.map V.str)) := upd_same
  have d2 := dG.same s2
  have k2 := kG.trans (Keep.same s2)
  refine ⟨_, rfl, p, r, _, rfl, d2, fun n2 G0 n20 n21 k0 d0 => ?_⟩
  obtain ⟨z, hz, ez⟩ := at_str (zs := signs) (i := n2 % 8) (Int.emod_nonneg _ (by decide)) (by show n2 % 8 < 8; exact Int.emod_lt_of_pos _ (by decide))
  refine ⟨_, _, rfl, rfl, (show (0 : Int) < 8 by decide), lz, _, _, _, rfl, rfl, SqL.of (k0 _ _ (d2.ne_list e2) e2), ez, ?_⟩
  have k0 := k2.trans k0
  refine ⟨_, rfl, ?_⟩
  refine ⟨_, rfl, _, rfl, _, _, rfl, rfl, p, r, _, e', ed _ _, hen', d0, by omega, fun v1 g1 G1 k1 d1 a1 h1 => ?_⟩
  refine ⟨_, rfl, _, rfl, _, _, rfl, rfl, p, r, _, e', ed _ _, hen', d1, by omega, fun v2 g2 G2 k2 d2 a2 h2 => ?_⟩
  refine ⟨by show 4 ≤ sizeLine; decide, fun t ht => ?_⟩
  have s3 := same_new ht (.tup [.str "prim", .str z, v1, v2])
  have f3 := fr_same (B := F0) s3
  exact q _ (.tup [.str "prim", .str z, g1, g2]) _ (((k0.trans k1).trans k2).trans (Keep.same s3)) ((d2.same s3).more (by omega)) (at_tup upd_same (ats_cons (at_str' (by decide +kernel)) (ats_cons (at_str' (signs_ok z hz)) (ats_cons ((a1.keep (fr_keep k2 d1)).keep f3) (ats_cons (a2.keep f3) ats_nil))))) (gt_prim hz h1 h2)
theorem c_any {fa fb : Addr} {fda fdb : FuncData} (T : TxtG mg) (c_law_take : C8.Cal P w K mg base 1 "_law_take" spTake []) (c_law_name : C8.Cal P w K mg base 2 "_law_name" spLName []) (c_law_names : C8.Cal P w K mg base 3 "_law_names" spLNames []) (Fa : Fun K "_law_any" "_law_any" sAny fa fda) (ba : Binds K fda ["d", "depth"] []) (hma : mg "_law_any" = some (.ref fa)) (Fb : Fun K "_law_any_branch" "_law_any_branch" sBranch fb fdb) (bb : Binds K fdb ["d", "depth"] []) (hmb : mg "_law_any_branch" = some (.ref fb)) : ∀ n : Nat, C8.Cal P w K mg base (2 * n + 4) "_law_any" (spAny n) []
  | 0 => cal_none Fa hma ba fun vs H Q E h => by
    obtain ⟨p, r, B, e, _, h, _⟩ := h
    omega
  | n + 1 => c_any1 T c_law_take c_law_name c_law_names (c_any T c_law_take c_law_name c_law_names Fa ba hma Fb bb hmb n) (c_branch T c_law_take c_law_name c_law_names (c_any T c_law_take c_law_name c_law_names Fa ba hma Fb bb hmb n) Fb bb hmb) Fa ba hma
end
end Toy

set_option Elab.async false
set_option linter.all false
set_option maxRecDepth 100000
set_option maxHeartbeats 4000000
/-! Part L: how many terms a term has, how many lams lead it. -/
namespace Toy
open PySem L2
open PyProof.Rows (envOfC)
/-- the terms in a term, itself among them -/
def cntT : Nat → Dd → Nat
  | 0, _ => 0
  | n + 1, k => 1 + ((partsD k).map (cntT n)).sum
theorem tt_parts {k : Dd} (h : isTT k = true) : formB k = true ∧ ∀ p ∈ partsD k, isTT p = true := by
  rw [isTT_eq] at h
  obtain ⟨h1, h2⟩ := fand h
  exact ⟨h1, List.all_eq_true.mp h2⟩
theorem cntT_stab : ∀ (n m : Nat) (k : Dd), isTT k = true → k.sz ≤ n → k.sz ≤ m → cntT n k = cntT m k
  | 0, _, k, _, h, _ => by have := sz_pos k; omega
  | _ + 1, 0, k, _, _, h => by have := sz_pos k; omega
  | n + 1, m + 1, k, ht, h1, h2 => by
    obtain ⟨hf, hp⟩ := tt_parts ht
    have hs := parts_sz hf
    show 1 + ((partsD k).map (cntT n)).sum = 1 + ((partsD k).map (cntT m)).sum
    rw [List.map_congr_left fun p hp' => by
      have := szs_mem hp'
      exact cntT_stab n m p (hp p hp') (by omega) (by omega)]
def cnt (k : Dd) : Nat := cntT k.sz k
theorem cnt_eq {k : Dd} (h : isTT k = true) : cnt k = 1 + ((partsD k).map cnt).sum := by
  obtain ⟨hf, hp⟩ := tt_parts h
  have hs := parts_sz hf
  have e : cnt k = cntT (k.sz + 1) k := cntT_stab _ _ k h (Nat.le_refl _) (Nat.le_succ _)
  rw [e]
  show 1 + ((partsD k).map (cntT k.sz)).sum = _
  rw [List.map_congr_left fun p hp' => by
    have := szs_mem hp'
    exact cntT_stab k.sz p.sz p (hp p hp') (by omega) (Nat.le_refl _)]
  rfl
/-- lams that lead a term -/
def arT : Nat → Dd → Nat
  | n + 1, .tup (.str w :: r) => if w = "lam" then 1 + arT n (arg 1 r) else 0
  | _, _ => 0
theorem arT_stab : ∀ (n m : Nat) (k : Dd), isTT k = true → k.sz ≤ n → k.sz ≤ m → arT n k = arT m k
  | 0, _, k, _, h, _ => by have := sz_pos k; omega
  | _ + 1, 0, k, _, _, h => by have := sz_pos k; omega
  | n + 1, m + 1, k, ht, h1, h2 => by
    obtain ⟨hf, hp⟩ := tt_parts ht
    have hs := parts_sz hf
    match k, hf, hp, hs with
    | .tup (.str w :: r), hf, hp, hs =>
      show (if w = "lam" then 1 + arT n (arg 1 r) else 0) = if w = "lam" then 1 + arT m (arg 1 r) else 0
      by_cases c : w = "lam"
      · rw [if_pos c, if_pos c]
        have hm : arg 1 r ∈ partsD (.tup (.str w :: r)) := by
          show arg 1 r ∈ partsW w r
          rw [c, pw_lam]
          exact List.mem_singleton.mpr rfl
        have := szs_mem hm
        rw [arT_stab n m _ (hp _ hm) (by omega) (by omega)]
      · rw [if_neg c, if_neg c]
def ar (k : Dd) : Nat := arT k.sz k
theorem ar_lam {x b : Dd} (h : isTT (.tup [.str "lam", x, b]) = true) : ar (.tup [.str "lam", x, b]) = 1 + ar b ∧ isTT b = true := by
  obtain ⟨hf, hp⟩ := tt_parts h
  have hs := parts_sz hf
  have hm : b ∈ partsD (.tup [.str "lam", x, b]) := by
    show b ∈ partsW "lam" [x, b]
    rw [pw_lam]
    exact List.mem_singleton.mpr rfl
  have := szs_mem hm
  refine ⟨?_, hp _ hm⟩
  have e : ar (.tup [.str "lam", x, b]) = arT ((Dd.tup [.str "lam", x, b]).sz + 1) (.tup [.str "lam", x, b]) := arT_stab _ _ _ h (Nat.le_refl _) (Nat.le_succ _)
  rw [e]
  show (if ("lam" : Str) = "lam" then 1 + arT (Dd.tup [.str "lam", x, b]).sz b else 0) = _
  rw [if_pos rfl, arT_stab _ b.sz b (hp _ hm) (by omega) (Nat.le_refl _)]
  rfl
theorem ar_other {w : Str} {r : List Dd} (h : w ≠ "lam") : ar (.tup (.str w :: r)) = 0 := by
  unfold ar
  rw [show (Dd.tup (.str w :: r)).sz = Dd.szs (.str w :: r) + 1 from Nat.add_comm 1 _]
  show (if w = "lam" then _ else 0) = 0
  rw [if_neg h]
theorem len2 {α : Type} {l : List α} (h : l.length = 2) : ∃ x y, l = [x, y] := by
  match l, h with
  | [x, y], _ => exact ⟨x, y, rfl⟩
section
variable {P : Program} {w : World} {K : PySem.W.Frag} {mg : Str → Option Value} {base : Heap}
def spSize : Sp := fun vs H Q _ => ∃ (B : Addr → Prop) (v : V) (k : Dd), vs = [v] ∧ k.At B H v ∧ isTT k = true ∧ k.sz ≤ 1000000 ∧ ∀ H', Same H H' → Q (.int (cnt k : Int)) H'
def spArity : Sp := fun vs H Q _ => ∃ (B : Addr → Prop) (v : V) (k : Dd), vs = [v] ∧ k.At B H v ∧ isTT k = true ∧ k.sz ≤ 1000000 ∧ Q (.int (ar k : Int)) H
end
end Toy

set_option Elab.async false
set_option linter.all false
set_option maxRecDepth 100000
set_option maxHeartbeats 4000000
/-! Part M: parts with the names that are bound around them, as the law finds them. -/
namespace Toy
open PySem L2
open PyProof.Rows (envOfC)
def strOf : Dd → Str
  | .str s => s
  | _ => Str.empty
def strsOf (d : Dd) : List Str := (tl d).map strOf
def dfltNs : Dd → List (List Str)
  | .non => []
  | d => [[strOf (nth 0 d)]]
/-- the names bound around each part -/
def scopesW (w : Str) (r : List Dd) : List (List Str) :=
  if w = "app" then [[], []] else if w = "lam" then [[strOf (arg 0 r)]]
  else if w = "let" then (tl (arg 0 r)).map (fun _ => (tl (arg 0 r)).map fun q => strOf (nth 0 q)) ++ [(tl (arg 0 r)).map fun q => strOf (nth 0 q)]
  else if w = "seq" then [[], [strOf (arg 0 r)]] else if w = "con" then (tl (arg 1 r)).map fun _ => []
  else if w = "case" then [] :: ((tl (arg 1 r)).map (fun q => strsOf (nth 1 q)) ++ dfltNs (arg 2 r))
  else if w = "pick" then [] :: ((tl (arg 1 r)).map (fun _ => []) ++ dfltNs (arg 2 r))
  else if w = "prim" then [[], []] else if w = "note" then [[]] else []
def scopesD : Dd → List (List Str)
  | .tup (.str w :: r) => scopesW w r
  | _ => []
def pairD (ns : List Str) (p : Dd) : Dd := .tup [nameT ns, p]
def innerD (k : Dd) : List Dd := List.zipWith pairD (scopesD k) (partsD k)
theorem name_str {d : Dd} (h : isName d = true) : d = .str (strOf d) := by
  match d, h with
  | .str s, _ => rfl
theorem names_back {d : Dd} (h : areNames d = true) : d = nameT (strsOf d) := by
  match d, h with
  | .tup l, h =>
    have h1 := List.all_eq_true.mp (fand h).1
    show Dd.tup l = .tup ((l.map strOf).map Dd.str)
    rw [List.map_map]
    congr 1
    have : l.map (Dd.str ∘ strOf) = l.map id := List.map_congr_left fun x hx => (name_str (h1 x hx)).symm
    rw [this, List.map_id]
section
variable {P : Program} {w : World} {K : PySem.W.Frag} {mg : Str → Option Value} {base : Heap}
structure TxtI (mg : Str → Option Value) : Prop where
  zisinstance : mg "isinstance" = none
  zint : mg "int" = none
  zbool : mg "bool" = none
  zrange : mg "range" = none
  ztuple : mg "tuple" = none
  zlist : mg "list" = none
def spIsNum : Sp := fun vs H Q _ => ∃ a b : Int, vs = [.int a, .int b] ∧ Q (.bl (decide (a = b))) H
def spLArity : Sp := fun vs H Q _ => ∃ (B : Addr → Prop) (v : V) (k : Dd), vs = [v] ∧ k.At B H v ∧ isTT k = true ∧ k.sz ≤ 1000000 ∧ ar k ≤ 60 ∧ Q (.int (ar k : Int)) H
end
end Toy

set_option Elab.async false
set_option linter.all false
set_option maxRecDepth 100000
set_option maxHeartbeats 4000000
/-! Part N: parts with the names around them, as the law finds them. -/
namespace Toy
open PySem L2
open PyProof.Rows (envOfC)
theorem sw_app (r : List Dd) : scopesW "app" r = [[], []] := by
  unfold scopesW
  rw [if_pos rfl]
theorem sw_lam (r : List Dd) : scopesW "lam" r = [[strOf (arg 0 r)]] := by
  unfold scopesW
  rw [if_neg (by decide +kernel), if_pos rfl]
theorem sw_let (r : List Dd) : scopesW "let" r = (tl (arg 0 r)).map (fun _ => (tl (arg 0 r)).map fun q => strOf (nth 0 q)) ++ [(tl (arg 0 r)).map fun q => strOf (nth 0 q)] := by
  unfold scopesW
  rw [if_neg (by decide +kernel), if_neg (by decide +kernel), if_pos rfl]
theorem sw_seq (r : List Dd) : scopesW "seq" r = [[], [strOf (arg 0 r)]] := by
  unfold scopesW
  rw [if_neg (by decide +kernel), if_neg (by decide +kernel), if_neg (by decide +kernel), if_pos rfl]
theorem sw_con (r : List Dd) : scopesW "con" r = (tl (arg 1 r)).map fun _ => [] := by
  unfold scopesW
  rw [if_neg (by decide +kernel), if_neg (by decide +kernel), if_neg (by decide +kernel), if_neg (by decide +kernel), if_pos rfl]
theorem sw_case (r : List Dd) : scopesW "case" r = [] :: ((tl (arg 1 r)).map (fun q => strsOf (nth 1 q)) ++ dfltNs (arg 2 r)) := by
  unfold scopesW
  rw [if_neg (by decide +kernel), if_neg (by decide +kernel), if_neg (by decide +kernel), if_neg (by decide +kernel), if_neg (by decide +kernel), if_pos rfl]
theorem sw_pick (r : List Dd) : scopesW "pick" r = [] :: ((tl (arg 1 r)).map (fun _ => []) ++ dfltNs (arg 2 r)) := by
  unfold scopesW
  rw [if_neg (by decide +kernel), if_neg (by decide +kernel), if_neg (by decide +kernel), if_neg (by decide +kernel), if_neg (by decide +kernel), if_neg (by decide +kernel), if_pos rfl]
theorem sw_prim (r : List Dd) : scopesW "prim" r = [[], []] := by
  unfold scopesW
  rw [if_neg (by decide +kernel), if_neg (by decide +kernel), if_neg (by decide +kernel), if_neg (by decide +kernel), if_neg (by decide +kernel), if_neg (by decide +kernel), if_neg (by decide +kernel), if_pos rfl]
theorem sw_note (r : List Dd) : scopesW "note" r = [[]] := by
  unfold scopesW
  rw [if_neg (by decide +kernel), if_neg (by decide +kernel), if_neg (by decide +kernel), if_neg (by decide +kernel), if_neg (by decide +kernel), if_neg (by decide +kernel), if_neg (by decide +kernel), if_neg (by decide +kernel), if_pos rfl]
theorem zip_nil : ∀ ps : List Dd, List.zipWith pairD (ps.map fun _ => []) ps = ps.map (pairD [])
  | [] => rfl
  | p :: ps => by
    show pairD [] p :: List.zipWith pairD (ps.map fun _ => []) ps = _
    rw [zip_nil ps]
    rfl
theorem rows_are {n : Nat} {k : Dd} (h : areRows n k = true) : ∃ l, k = .tup l ∧ ∀ q ∈ l, ∃ m, q = .tup m ∧ m.length = n := by
  match k, h with
  | .tup l, h => exact ⟨l, rfl, fun q hq => by
      have := List.all_eq_true.mp h q hq
      match q, this with
      | .tup m, t => exact ⟨m, rfl, of_decide_eq_true t⟩⟩
theorem zip_let (l0 : List Dd) (y : Dd) (ns : List Str) : ∀ l : List Dd, List.zipWith pairD (l.map (fun _ => ns) ++ [ns]) (l.map (nth 1) ++ [y]) = (l.map fun q => pairD ns (nth 1 q)) ++ [pairD ns y]
  | [] => rfl
  | q :: l => by
    show pairD ns (nth 1 q) :: List.zipWith pairD (l.map (fun _ => ns) ++ [ns]) (l.map (nth 1) ++ [y]) = _
    rw [zip_let l0 y ns l]
    rfl
theorem ats_strs {B : Addr → Prop} {H : Hp} : ∀ {zs : List Str}, (∀ z ∈ zs, z.length ≤ 1000) → Dd.Ats B H (zs.map Dd.str) (zs.map V.str)
  | [], _ => rfl
  | z :: zs, h => ⟨.str z, zs.map V.str, rfl, ⟨rfl, h z (List.mem_cons_self ..)⟩, ats_strs fun y hy => h y (List.mem_cons_of_mem _ hy)⟩
theorem form_wordN {w : Str} {r : List Dd} (h : formW w r = true) : w ∈ words := by
  refine Classical.byContradiction fun n => ?_
  rw [form_out n] at h
  cases h
/-- a row of a case or of a pick: its names and its term -/
def rowPair (z : Str) (q : Dd) : Dd := if z = "case" then pairD (strsOf (nth 1 q)) (lastD q) else pairD [] (lastD q)
theorem zip_rows {z : Str} {f : Dd → List Str} : ∀ (l : List Dd), (∀ q ∈ l, rowPair z q = pairD (f q) (lastD q)) → List.zipWith pairD (l.map f) (l.map lastD) = l.map (rowPair z)
  | [], _ => rfl
  | q :: l, h => by
    show pairD (f q) (lastD q) :: List.zipWith pairD (l.map f) (l.map lastD) = rowPair z q :: l.map (rowPair z)
    rw [h q (List.mem_cons_self ..), zip_rows l fun y hy => h y (List.mem_cons_of_mem _ hy)]
theorem free_of {H H' : Hp} (s : Same H H') {a : Addr} (h : H' a = none) : H a = none := by
  cases e : H a with
  | none => rfl
  | some u => rw [s a u e] at h; cases h
theorem len3 {α : Type} {l : List α} (h : l.length = 3) : ∃ x y z, l = [x, y, z] := by
  match l, h with
  | [x, y, z], _ => exact ⟨x, y, z, rfl⟩
section
variable {P : Program} {w : World} {K : PySem.W.Frag} {mg : Str → Option Value} {base : Heap}
abbrev sLInner : Stmt := topS 80
theorem scLInner : FnScope ["term", "kind", "row", "names", "found", "part"] ["term"] (defScope sLInner) := ⟨rfl, rfl, rfl, by decide +kernel, rfl, by decide +kernel, by decide +kernel⟩
def spInner : Sp := fun vs H Q _ => ∃ (B : Addr → Prop) (v : V) (k : Dd), vs = [v] ∧ k.At B H v ∧ formB k = true ∧ k.sz ≤ 1000000 ∧ (∀ a, H a = none → ¬ B a) ∧ ∀ (L : Addr) (xs : List V) (H' : Hp), Same H H' → H L = none → H' L = some (.lst xs) → Dd.Ats B H' (innerD k) xs → Q (.ref L) H'
theorem c_inner {f : Addr} {fd : FuncData} (T : TxtI mg) (F : Fun K "_law_inner" "_law_inner" sLInner f fd) (b : Binds K fd ["term"] []) (hm : mg "_law_inner" = some (.ref f)) : C8.Cal P w K mg base 1 "_law_inner" spInner [] := by
  refine cal_of F hm b scLInner (fun vs H Q E h => ?_) (fun cdv A outer s H vs Q E hr h => ?_)
  · obtain ⟨B, v, k, rfl, _⟩ := h
    rfl
  obtain ⟨B0, v, k, rfl, hat, hf, hsz, hnB, q⟩ := h
  refine ⟨_, (pss_cons (ps_set (i := 1) scLInner.nd rfl (Or.inl rfl) (pe_ix ix_tup (pv 0) pe_int (fun _ _ => rfl)))
    (pss_cons (ps_if (pt_cmpR op_in_seq (pv 1) (pe_tup (pa_cons pe_str (pa_cons pe_str pa_nil))) rfl)
      (pss_one (ps_ret (pe_lc (own := [("part", 5)]) (g := gName 5) (tt := tYes) rfl scLInner.nd (pi_tup (pe_slice sl_tupA (pv 0) (po_some (pe_un un_neg pe_int)) po_none)) (blkOk_by (own := [("part", 5)]) (N := ["term", "kind", "row", "names", "found", "part"]) (sc := defScope sLInner) (by decide +kernel)) (fun _ _ _ _ _ => (pg_name (i := 5) scLInner.nd rfl (Or.inl rfl))) (fun _ _ _ _ _ => pts_nil) (fun _ _ _ _ _ => (pe_tup (pa_cons (pe_tup pa_nil) (pa_cons (pv 5) pa_nil)))))))
      pss_nil)
    (pss_cons (ps_if (pt_cmpR op_eq (pv 1) pe_str (nomark _))
      (pss_one (ps_ret (pe_lst (pa_cons (pe_tup (pa_cons (pe_tup (pa_cons (pe_ix ix_tup (pv 0) pe_int (fun _ _ => rfl)) pa_nil)) (pa_cons (pe_ix ix_tup (pv 0) pe_int (fun _ _ => rfl)) pa_nil))) pa_nil))))
      pss_nil)
    (pss_cons (ps_if (pt_cmpR op_eq (pv 1) pe_str (nomark _))
      (pss_one (ps_ret (pe_lst (pa_cons (pe_tup (pa_cons (pe_tup pa_nil) (pa_cons (pe_ix ix_tup (pv 0) pe_int (fun _ _ => rfl)) pa_nil))) pa_nil))))
      pss_nil)
    (pss_cons (ps_if (pt_cmpR op_eq (pv 1) pe_str (nomark _))
      (pss_one (ps_ret (pe_lc (own := [("part", 5)]) (g := gName 5) (tt := tYes) rfl scLInner.nd (pi_tup (pe_ix ix_tup (pv 0) pe_int (fun _ _ => rfl))) (blkOk_by (own := [("part", 5)]) (N := ["term", "kind", "row", "names", "found", "part"]) (sc := defScope sLInner) (by decide +kernel)) (fun _ _ _ _ _ => (pg_name (i := 5) scLInner.nd rfl (Or.inl rfl))) (fun _ _ _ _ _ => pts_nil) (fun _ _ _ _ _ => (pe_tup (pa_cons (pe_tup pa_nil) (pa_cons (pv 5) pa_nil)))))))
      pss_nil)
    (pss_cons (ps_if (pt_cmpR op_eq (pv 1) pe_str (nomark _))
      (pss_one (ps_ret (pe_lst (pa_cons (pe_tup (pa_cons (pe_tup pa_nil) (pa_cons (pe_ix ix_tup (pv 0) pe_int (fun _ _ => rfl)) pa_nil))) (pa_cons (pe_tup (pa_cons (pe_tup (pa_cons (pe_ix ix_tup (pv 0) pe_int (fun _ _ => rfl)) pa_nil)) (pa_cons (pe_ix ix_tup (pv 0) pe_int (fun _ _ => rfl)) pa_nil))) pa_nil)))))
      pss_nil)
    (pss_cons (ps_if (pt_cmpR op_eq (pv 1) pe_str (nomark _))
      (pss_cons (ps_set (i := 3) scLInner.nd rfl (Or.inr rfl) (pe_callTy call_tuple_of rfl T.ztuple boot_tuple (pa_cons (pe_lc (own := [("row", 2)]) (g := gName 2) (tt := tYes) (te := (tOp (rIxT K) (tVar 2) (tC (.int 0)))) rfl scLInner.nd (pi_tup (pe_ix ix_tup (pv 0) pe_int (fun _ _ => rfl))) (blkOk_by (own := [("row", 2)]) (N := ["term", "kind", "row", "names", "found", "part"]) (sc := defScope sLInner) (by decide +kernel)) (fun _ _ _ _ _ => (pg_name (i := 2) scLInner.nd rfl (Or.inl rfl))) (fun _ _ _ _ _ => pts_nil) (fun _ _ _ _ _ => (pe_ix ix_tup (pv 2) pe_int (fun _ _ => rfl)))) pa_nil)))
    (pss_one (ps_ret (pe_op op_cat (pe_lc (own := [("row", 2)]) (g := gName 2) (tt := tYes) (te := (tTup (tCons (tVar 3) (tCons (tOp (rIxT K) (tVar 2) (tC (.int 1))) tNil)))) rfl scLInner.nd (pi_tup (pe_ix ix_tup (pv 0) pe_int (fun _ _ => rfl))) (blkOk_by (own := [("row", 2)]) (N := ["term", "kind", "row", "names", "found", "part"]) (sc := defScope sLInner) (by decide +kernel)) (fun _ _ _ _ _ => (pg_name (i := 2) scLInner.nd rfl (Or.inl rfl))) (fun _ _ _ _ _ => pts_nil) (fun _ _ _ _ _ => (pe_tup (pa_cons (pv 3) (pa_cons (pe_ix ix_tup (pv 2) pe_int (fun _ _ => rfl)) pa_nil))))) (pe_lst (pa_cons (pe_tup (pa_cons (pv 3) (pa_cons (pe_ix ix_tup (pv 0) pe_int (fun _ _ => rfl)) pa_nil))) pa_nil))))))
      pss_nil)
    (pss_cons (ps_set (i := 4) scLInner.nd rfl (Or.inl rfl) (pe_lst pa_nil))
    (pss_cons (ps_if (pt_cmpR op_in_seq (pv 1) (pe_tup (pa_cons pe_str (pa_cons pe_str pa_nil))) rfl)
      (pss_cons (ps_expr (pe_bm PySem.F.plainAttrs_list PySem.F.slot_list_append PySem.F.type_list_append mt_append (pv 4) (pa_cons (pe_tup (pa_cons (pe_tup pa_nil) (pa_cons (pe_ix ix_tup (pv 0) pe_int (fun _ _ => rfl)) pa_nil))) pa_nil)))
    (pss_cons (ps_for PassesOwn.never rfl (pi_tup (pe_ix ix_tup (pv 0) pe_int (fun _ _ => rfl))) (pg_name (i := 2) scLInner.nd rfl (Or.inl rfl))
      (pss_one (ps_if (pt_cmpR op_eq (pv 1) pe_str (nomark _))
      (pss_one (ps_expr (pe_bm PySem.F.plainAttrs_list PySem.F.slot_list_append PySem.F.type_list_append mt_append (pv 4) (pa_cons (pe_tup (pa_cons (pe_ix ix_tup (pv 2) pe_int (fun _ _ => rfl)) (pa_cons (pe_ix ix_tup (pv 2) pe_int (fun _ _ => rfl)) pa_nil))) pa_nil))))
      (pss_one (ps_expr (pe_bm PySem.F.plainAttrs_list PySem.F.slot_list_append PySem.F.type_list_append mt_append (pv 4) (pa_cons (pe_tup (pa_cons (pe_tup pa_nil) (pa_cons (pe_ix ix_tup (pv 2) pe_int (fun _ _ => rfl)) pa_nil))) pa_nil)))))))
    (pss_one (ps_if (pt_cmpR op_notN (pe_ix ix_tup (pv 0) pe_int (fun _ _ => rfl)) pe_non (nomark _))
      (pss_one (ps_expr (pe_bm PySem.F.plainAttrs_list PySem.F.slot_list_append PySem.F.type_list_append mt_append (pv 4) (pa_cons (pe_tup (pa_cons (pe_tup (pa_cons (pe_ix ix_tup (pe_ix ix_tup (pv 0) pe_int (fun _ _ => rfl)) pe_int (fun _ _ => rfl)) pa_nil)) (pa_cons (pe_ix ix_tup (pe_ix ix_tup (pv 0) pe_int (fun _ _ => rfl)) pe_int (fun _ _ => rfl)) pa_nil))) pa_nil))))
      pss_nil))))
      pss_nil)
    (pss_one (ps_ret (pv 4)))))))))))), ?_⟩
  obtain ⟨z, r, rfl, hfz⟩ := form_tup hf
  obtain ⟨a, xs, rfl, ha, hs⟩ := id hat
  obtain ⟨x1, ys, rfl, ⟨hx1, hz1⟩, hys⟩ := id hs
  subst hx1
  refine ⟨_, rfl, a, _, 0, _, rfl, rfl, SqT.of ha, at0 _ _, ?_⟩
  refine ⟨_, rfl, by show 2 ≤ sizeLine; decide, fun t1 ht1 => ?_⟩
  have s1 := same_new ht1 (.tup [.str "app", .str "prim"])
  have e1 : upd H t1 (.tup [.str "app", .str "prim"]) t1 = some (.tup ([("app" : Str), "prim"].map V.str)) := upd_same
  refine ⟨t1, _, rfl, .inr (SqT.of e1), rfl, flat_strs _, ?_⟩
  rw [show (if false = true then !inV (.str z) ([("app" : Str), "prim"].map V.str) else inV (.str z) ([("app" : Str), "prim"].map V.str)) = decide (z ∈ [("app" : Str), "prim"]) by rw [if_neg (by decide), inV_strs]]
  refine ⟨_, rfl, ?_⟩
  have ha1 := s1 _ _ ha
  have hys1 := hys.keep (fr_same s1)
  generalize upd H t1 (.tup [.str "app", .str "prim"]) = H1 at s1 e1 ha1 hys1 ⊢
  by_cases c1 : z ∈ [("app" : Str), "prim"]
  · rw [decide_eq_true c1]
    refine iteT ?_
    obtain ⟨y1, y2, kx, ky, ec, en, hy1, hy2, eS, eP⟩ : ∃ (y1 y2 : V) (kx ky : Dd), cutV (V.str z :: ys) (some (-2)) none = [y1, y2] ∧ HT.sIx (V.str z :: ys).length 0 (some (-2)) ≠ 0 ∧ kx.At B0 H1 y1 ∧ ky.At B0 H1 y2 ∧ scopesW z r = [[], []] ∧ partsW z r = [kx, ky] := by
      rcases List.mem_cons.mp c1 with c | c
      · subst c
        rw [fw_app] at hfz
        obtain ⟨x, y, rfl⟩ := len2 (of_decide_eq_true hfz)
        obtain ⟨x2, ys2, rfl, hx2, y2, ys3, rfl, hy2, hn⟩ := id hys1
        cases (show ys3 = [] from hn)
        exact ⟨x2, y2, x, y, rfl, by show HT.sIx 3 0 (some (-2)) ≠ 0; decide, hx2, hy2, sw_app _, pw_app _⟩
      · have c := List.mem_singleton.mp c
        subst c
        rw [fw_prim] at hfz
        obtain ⟨s0, x, y, rfl⟩ := len3 (of_decide_eq_true (fand hfz).1)
        obtain ⟨x0, ys0, rfl, hx0, x2, ys2, rfl, hx2, y2, ys3, rfl, hy2, hn⟩ := id hys1
        cases (show ys3 = [] from hn)
        exact ⟨x2, y2, x, y, rfl, by show HT.sIx 4 0 (some (-2)) ≠ 0; decide, hx2, hy2, sw_prim _, pw_prim _⟩
    refine ⟨_, rfl, _, rfl, _, rfl, a, _, rfl, SqT.of ha1, fun h => absurd h.1 en, fun _ p hp => ?_⟩
    rw [ec]
    have s2 := same_new hp (.tup [y1, y2])
    have e2 : upd H1 p (.tup [y1, y2]) p = some (.tup [y1, y2]) := upd_same
    have hy1 := hy1.keep (fr_same s2)
    have hy2 := hy2.keep (fr_same s2)
    generalize upd H1 p (.tup [y1, y2]) = H2 at s2 e2 hy1 hy2 ⊢
    refine ⟨p, rfl, ⟨_, SqT.of e2⟩, fun D hD => ?_⟩
    have hDH : H D = none := by
      cases h : H D with
      | none => rfl
      | some u => rw [s2 _ _ (s1 _ _ h)] at hD; cases hD
    refine lc_tup (a := p) (xs := [y1, y2]) (fun i G => ∃ ys, G D = some (.lst ys) ∧ Same H2 G ∧ Dd.Ats B0 G (([kx, ky].take i).map (pairD [])) ys) ⟨[], upd_same, same_new hD _, rfl⟩ (fun i G hi ⟨_, _, h, _⟩ => SqT.of (h _ _ e2)) ?_ ?_
    · rintro i x G hx ⟨zs, h1, h2, h3⟩
      refine ⟨rfl, ?_⟩
      refine tYes_if ?_
      have hps : Dd.Ats B0 H2 [kx, ky] [y1, y2] := ats_cons hy1 (ats_cons hy2 ats_nil)
      obtain ⟨kk, hk, hkx⟩ := ats_get hps hx
      have hil : i < 2 := (List.getElem?_eq_some_iff.mp hk).1
      have hzl := ats_len h3
      rw [List.length_map, List.length_take] at hzl
      refine ⟨by show 0 ≤ sizeLine; decide, fun u hu => ⟨_, rfl, by show 2 ≤ sizeLine; decide, fun t ht => ?_⟩⟩
      have su := same_new hu (.tup [])
      have st := same_new ht (.tup [.ref u, x])
      have sut := sameT su st
      have f8 : Fr B0 (upd (upd G u (.tup [])) t (.tup [.ref u, x])) (upd (upd (upd G u (.tup [])) t (.tup [.ref u, x])) D (.lst (zs ++ [.ref t]))) := fr_list (sut _ _ h1) fun b => hnB D hDH b
      refine ⟨zs, sut _ _ h1, szl (by have : zs.length ≤ 2 := by rw [hzl]; exact Nat.min_le_right _ _
                                      omega), zs ++ [.ref t], upd_same, same_upd hD (sameT h2 sut) _, ?_⟩
      rw [List.take_add_one, hk, List.map_append]
      exact ats_app ((h3.keep (fr_same sut)).keep f8) (ats_one ((at_tup upd_same (ats_cons (at_tup (st _ _ upd_same) ats_nil) (ats_cons ((hkx.keep (fr_same h2)).keep (fr_same sut)) ats_nil)) : (pairD [] kk).At B0 _ (.ref t)).keep f8))
    rintro G ⟨zs, h1, h2, h3⟩
    refine q D zs G (sameT s1 (sameT s2 h2)) hDH h1 ?_
    show Dd.Ats B0 G (List.zipWith pairD (scopesW z r) (partsW z r)) zs
    rw [eS, eP]
    exact h3
  rw [decide_eq_false c1]
  refine iteF ?_
  refine ⟨_, rfl, rfl, _, rfl, ?_⟩
  show if decide (V.str z = V.str "lam") = true then _ else _
  by_cases c2 : z = "lam"
  · subst c2
    rw [decide_eq_true rfl]
    refine iteT ?_
    rw [fw_lam] at hfz
    obtain ⟨h2, hn⟩ := fand hfz
    obtain ⟨x, y, rfl⟩ := len2 (of_decide_eq_true h2)
    have hnx : isName x = true := hn
    obtain ⟨x2, ys2, rfl, hx2, y2, ys3, rfl, hy2, hn3⟩ := id hys1
    cases (show ys3 = [] from hn3)
    refine ⟨_, rfl, a, _, 1, _, rfl, rfl, SqT.of ha1, at1 _ _ _, by show 1 ≤ sizeLine; decide, fun u hu => ?_⟩
    have su := same_new hu (.tup [x2])
    refine ⟨_, rfl, a, _, 2, _, rfl, rfl, SqT.of (su _ _ ha1), at2 _ _ _ _, by show 2 ≤ sizeLine; decide, fun t ht => ?_⟩
    have st := same_new ht (.tup [.ref u, y2])
    refine ⟨by show 1 ≤ sizeLine; decide, fun L hL => ?_⟩
    have sL := same_new hL (.lst [.ref t])
    have sAll := sameT s1 (sameT su (sameT st sL))
    refine q L [.ref t] _ sAll (free_of (sameT s1 (sameT su st)) hL) upd_same ?_
    show Dd.Ats B0 _ (List.zipWith pairD (scopesW "lam" [x, y]) (partsW "lam" [x, y])) _
    rw [sw_lam, pw_lam]
    have ex := name_str hnx
    have hx3 : (Dd.str (strOf x)).At B0 H1 x2 := ex ▸ hx2
    exact ats_one ((at_tup (sL _ _ upd_same) (ats_cons (at_tup (sL _ _ (st _ _ upd_same)) (ats_cons (hx3.keep (fr_same (sameT su (sameT st sL)))) ats_nil)) (ats_cons (hy2.keep (fr_same (sameT su (sameT st sL)))) ats_nil))) : (pairD [strOf x] y).At B0 _ (.ref t))
  rw [decide_eq_false fun e => c2 (by injection e)]
  refine iteF ?_
  refine ⟨_, rfl, rfl, _, rfl, ?_⟩
  show if decide (V.str z = V.str "note") = true then _ else _
  by_cases c3 : z = "note"
  · subst c3
    rw [decide_eq_true rfl]
    refine iteT ?_
    rw [fw_note] at hfz
    obtain ⟨h2, hn⟩ := fand hfz
    obtain ⟨x, y, rfl⟩ := len2 (of_decide_eq_true h2)
    obtain ⟨x2, ys2, rfl, hx2, y2, ys3, rfl, hy2, hn3⟩ := id hys1
    cases (show ys3 = [] from hn3)
    refine ⟨by show 0 ≤ sizeLine; decide, fun u hu => ?_⟩
    have su := same_new hu (.tup [])
    refine ⟨_, rfl, a, _, 2, _, rfl, rfl, SqT.of (su _ _ ha1), at2 _ _ _ _, by show 2 ≤ sizeLine; decide, fun t ht => ?_⟩
    have st := same_new ht (.tup [.ref u, y2])
    refine ⟨by show 1 ≤ sizeLine; decide, fun L hL => ?_⟩
    have sL := same_new hL (.lst [.ref t])
    have sAll := sameT s1 (sameT su (sameT st sL))
    refine q L [.ref t] _ sAll (free_of (sameT s1 (sameT su st)) hL) upd_same ?_
    show Dd.Ats B0 _ (List.zipWith pairD (scopesW "note" [x, y]) (partsW "note" [x, y])) _
    rw [sw_note, pw_note]
    exact ats_one ((at_tup (sL _ _ upd_same) (ats_cons (at_tup (sL _ _ (st _ _ upd_same)) ats_nil) (ats_cons (hy2.keep (fr_same (sameT su (sameT st sL)))) ats_nil))) : (pairD [] y).At B0 _ (.ref t))
  rw [decide_eq_false fun e => c3 (by injection e)]
  refine iteF ?_
  refine ⟨_, rfl, rfl, _, rfl, ?_⟩
  show if decide (V.str z = V.str "con") = true then _ else _
  by_cases c4 : z = "con"
  · subst c4
    rw [decide_eq_true rfl]
    refine iteT ?_
    rw [fw_con] at hfz
    obtain ⟨h2, hn⟩ := fand hfz
    obtain ⟨hn, htp⟩ := fand hn
    obtain ⟨x, y, rfl⟩ := len2 (of_decide_eq_true h2)
    obtain ⟨x2, ys2, rfl, hx2, y2, ys3, rfl, hy2, hn3⟩ := id hys1
    cases (show ys3 = [] from hn3)
    obtain ⟨ps, rfl⟩ : ∃ ps, y = .tup ps := by
      match y, (show isTup y = true from htp) with
      | .tup ps, _ => exact ⟨ps, rfl⟩
    obtain ⟨p, xs2, rfl, e2, hps⟩ := id hy2
    have hxl := ats_len hps
    have hlz := szs_len ps
    have hsz' : 1 + (1 + (x.sz + (1 + Dd.szs ps + 0))) ≤ 1000000 := hsz
    refine ⟨_, rfl, a, _, 2, _, rfl, rfl, SqT.of ha1, at2 _ _ _ _, p, rfl, ⟨_, SqT.of e2⟩, fun D hD => ?_⟩
    have hDH := free_of s1 hD
    refine lc_tup (a := p) (xs := xs2) (fun i G => ∃ ys, G D = some (.lst ys) ∧ Same H1 G ∧ Dd.Ats B0 G ((ps.take i).map (pairD [])) ys) ⟨[], upd_same, same_new hD _, rfl⟩ (fun i G hi ⟨_, _, h, _⟩ => SqT.of (h _ _ e2)) ?_ ?_
    · rintro i x' G hx ⟨zs, h1, h2, h3⟩
      refine ⟨rfl, ?_⟩
      refine tYes_if ?_
      obtain ⟨kk, hk, hkx⟩ := ats_get hps hx
      have hil : i < ps.length := (List.getElem?_eq_some_iff.mp hk).1
      have hzl := ats_len h3
      rw [List.length_map, List.length_take] at hzl
      refine ⟨by show 0 ≤ sizeLine; decide, fun u hu => ⟨_, rfl, by show 2 ≤ sizeLine; decide, fun t ht => ?_⟩⟩
      have su := same_new hu (.tup [])
      have st := same_new ht (.tup [.ref u, x'])
      have sut := sameT su st
      have f8 : Fr B0 (upd (upd G u (.tup [])) t (.tup [.ref u, x'])) (upd (upd (upd G u (.tup [])) t (.tup [.ref u, x'])) D (.lst (zs ++ [.ref t]))) := fr_list (sut _ _ h1) fun b => hnB D hDH b
      refine ⟨zs, sut _ _ h1, by have := big; have := Nat.min_le_right i ps.length; omega, zs ++ [.ref t], upd_same, same_upd hD (sameT h2 sut) _, ?_⟩
      rw [List.take_add_one, hk, List.map_append]
      exact ats_app ((h3.keep (fr_same sut)).keep f8) (ats_one ((at_tup upd_same (ats_cons (at_tup (st _ _ upd_same) ats_nil) (ats_cons ((hkx.keep (fr_same h2)).keep (fr_same sut)) ats_nil)) : (pairD [] kk).At B0 _ (.ref t)).keep f8))
    rintro G ⟨zs, h1, h2, h3⟩
    rw [hxl, List.take_length] at h3
    refine q D zs G (sameT s1 h2) hDH h1 ?_
    show Dd.Ats B0 G (List.zipWith pairD (scopesW "con" [x, .tup ps]) (partsW "con" [x, .tup ps])) zs
    rw [sw_con, pw_con, show List.zipWith pairD ((tl (arg 1 [x, .tup ps])).map fun _ => []) (tl (arg 1 [x, .tup ps])) = ps.map (pairD []) from zip_nil ps]
    exact h3
  rw [decide_eq_false fun e => c4 (by injection e)]
  refine iteF ?_
  refine ⟨_, rfl, rfl, _, rfl, ?_⟩
  show if decide (V.str z = V.str "seq") = true then _ else _
  by_cases c5 : z = "seq"
  · subst c5
    rw [decide_eq_true rfl]
    refine iteT ?_
    rw [fw_seq] at hfz
    obtain ⟨h2, hn⟩ := fand hfz
    obtain ⟨x, y, y', rfl⟩ := len3 (of_decide_eq_true h2)
    have hnx : isName x = true := hn
    obtain ⟨x2, ys2, rfl, hx2, y2, ys3, rfl, hy2, y3, ys4, rfl, hy3, hn3⟩ := id hys1
    cases (show ys4 = [] from hn3)
    have hx3 : (Dd.str (strOf x)).At B0 H1 x2 := name_str hnx ▸ hx2
    refine ⟨by show 0 ≤ sizeLine; decide, fun u hu => ?_⟩
    have su := same_new hu (.tup [])
    refine ⟨_, rfl, a, _, 2, _, rfl, rfl, SqT.of (su _ _ ha1), at2 _ _ _ _, by show 2 ≤ sizeLine; decide, fun t ht => ?_⟩
    have st := same_new ht (.tup [.ref u, y2])
    have sa := sameT su st
    refine ⟨_, rfl, a, _, 1, _, rfl, rfl, SqT.of (sa _ _ ha1), at1 _ _ _, by show 1 ≤ sizeLine; decide, fun u' hu' => ?_⟩
    have su' := same_new hu' (.tup [x2])
    have sb := sameT sa su'
    refine ⟨_, rfl, a, _, 3, _, rfl, rfl, SqT.of (sb _ _ ha1), at3 _ _ _ _ _, by show 2 ≤ sizeLine; decide, fun t' ht' => ?_⟩
    have st' := same_new ht' (.tup [.ref u', y3])
    refine ⟨by show 2 ≤ sizeLine; decide, fun L hL => ?_⟩
    have sL := same_new hL (.lst [.ref t, .ref t'])
    have sd := sameT sb st'
    have se := sameT sd sL
    refine q L [.ref t, .ref t'] _ (sameT s1 se) (free_of (sameT s1 sd) hL) upd_same ?_
    show Dd.Ats B0 _ (List.zipWith pairD (scopesW "seq" [x, y, y']) (partsW "seq" [x, y, y'])) _
    rw [sw_seq, pw_seq]
    have s3 := sameT st' sL
    have s2 := sameT su' s3
    exact ats_cons (show (pairD [] y).At B0 _ (.ref t) from at_tup (s2 _ _ upd_same) (ats_cons (at_tup (s2 _ _ (st _ _ upd_same)) ats_nil) (ats_cons (hy2.keep (fr_same se)) ats_nil)))
      (ats_one (show (pairD [strOf x] y').At B0 _ (.ref t') from at_tup (sL _ _ upd_same) (ats_cons (at_tup (s3 _ _ upd_same) (ats_cons (hx3.keep (fr_same se)) ats_nil)) (ats_cons (hy3.keep (fr_same se)) ats_nil))))
  rw [decide_eq_false fun e => c5 (by injection e)]
  refine iteF ?_
  refine ⟨_, rfl, rfl, _, rfl, ?_⟩
  show if decide (V.str z = V.str "let") = true then _ else _
  by_cases c6 : z = "let"
  · subst c6
    rw [decide_eq_true rfl]
    refine iteT ?_
    rw [fw_let] at hfz
    obtain ⟨h2, hn⟩ := fand hfz
    obtain ⟨h2, hrw⟩ := fand h2
    obtain ⟨x, y, rfl⟩ := len2 (of_decide_eq_true h2)
    obtain ⟨l, rfl, hrows⟩ := rows_are (show areRows 2 x = true from hrw)
    have hnm : ∀ q ∈ l, isName (nth 0 q) = true := by
      have h3 := (fand (fand hn).2).1
      have h3 : (l.map (nth 0)).all isName = true := h3
      rw [List.all_map] at h3
      exact List.all_eq_true.mp h3
    obtain ⟨x2, ys2, rfl, hx2, y2, ys3, rfl, hy2, hn3⟩ := id hys1
    cases (show ys3 = [] from hn3)
    obtain ⟨p, xs2, rfl, e2, hps⟩ := id hx2
    have hxl := ats_len hps
    have hlz := szs_len l
    have hsz' : 1 + (1 + (1 + Dd.szs l + (y.sz + 0))) ≤ 1000000 := hsz
    refine ⟨_, rfl, a, _, 1, _, rfl, rfl, SqT.of ha1, at1 _ _ _, p, rfl, ⟨_, SqT.of e2⟩, fun D hD => ?_⟩
    refine lc_tup (a := p) (xs := xs2) (fun i G => Same H1 G ∧ G D = some (.lst ((((l.take i).map fun q => strOf (nth 0 q))).map V.str))) ⟨same_new hD _, upd_same⟩ (fun i G hi ⟨h, _⟩ => SqT.of (h _ _ e2)) ?_ ?_
    · rintro i x' G hx ⟨h2, h1⟩
      obtain ⟨kk, hk, hkx⟩ := ats_get hps hx
      have hil : i < l.length := (List.getElem?_eq_some_iff.mp hk).1
      obtain ⟨m, rfl, hm2⟩ := hrows kk (List.mem_of_getElem? hk)
      obtain ⟨t, x1, y1, rfl, ht, hx1, hy1⟩ := pair_at hkx hm2
      have hs1 := name_str (hnm _ (List.mem_of_getElem? hk))
      rw [hs1] at hx1
      obtain ⟨hx1, _⟩ := (show x1 = .str (strOf (nth 0 (.tup m))) ∧ _ from hx1)
      refine ⟨rfl, ?_⟩
      refine tYes_if ?_
      refine ⟨_, rfl, t, _, 0, _, rfl, rfl, SqT.of (h2 _ _ ht), at0 _ _, _, h1, ?_, same_upd hD h2 _, ?_⟩
      · rw [List.length_map, List.length_map, List.length_take]; have := big; have := Nat.min_le_right i l.length; omega
      · rw [upd_same, List.take_add_one, hk, List.map_append, List.map_append, hx1]
        rfl
    rintro G ⟨h2, h1⟩
    rw [hxl, List.take_length] at h1
    refine ⟨D, _, rfl, .inl ⟨SqL.of h1, fun t ht => ?_⟩⟩
    have st := same_new ht (.tup ((l.map fun q => strOf (nth 0 q)).map V.str))
    have et : upd G t (.tup ((l.map fun q => strOf (nth 0 q)).map V.str)) t = some (.tup ((l.map fun q => strOf (nth 0 q)).map V.str)) := upd_same
    have s2 := sameT h2 st
    have hlz2 : ∀ q ∈ l, (strOf (nth 0 q)).length ≤ 1000 := fun q hq => by
      have hn := hnm q hq
      rw [name_str hn] at hn
      have h4 : ((decide (1 ≤ (strOf (nth 0 q)).length) && decide ((strOf (nth 0 q)).length ≤ 80)) && _) = true := hn
      have := of_decide_eq_true (fand (fand h4).1).2
      omega
    generalize upd G t (.tup ((l.map fun q => strOf (nth 0 q)).map V.str)) = G2 at et s2 ⊢
    clear h1 h2 st ht hD
    refine ⟨_, rfl, a, _, 1, _, rfl, rfl, SqT.of (s2 _ _ ha1), at1 _ _ _, p, rfl, ⟨_, SqT.of (s2 _ _ e2)⟩, fun D2 hD2 => ?_⟩
    have hDH := free_of (sameT s1 s2) hD2
    have aN : ∀ G', Same G2 G' → (nameT (l.map fun q => strOf (nth 0 q))).At B0 G' (.ref t) := fun G' s => at_tup (s _ _ et) (ats_strs fun y hy => by
      obtain ⟨q, hq, rfl⟩ := List.mem_map.mp hy
      exact hlz2 q hq)
    refine lc_tup (a := p) (xs := xs2) (fun i G => ∃ zs, G D2 = some (.lst zs) ∧ Same G2 G ∧ Dd.Ats B0 G ((l.take i).map fun q => pairD (l.map fun q => strOf (nth 0 q)) (nth 1 q)) zs) ⟨[], upd_same, same_new hD2 _, rfl⟩ (fun i G hi ⟨_, _, h, _⟩ => SqT.of (h _ _ (s2 _ _ e2))) ?_ ?_
    · rintro i x' G' hx ⟨zs, h1, h2, h3⟩
      obtain ⟨kk, hk, hkx⟩ := ats_get hps hx
      have hil : i < l.length := (List.getElem?_eq_some_iff.mp hk).1
      obtain ⟨m, rfl, hm2⟩ := hrows kk (List.mem_of_getElem? hk)
      obtain ⟨t', x1, y1, rfl, ht', hx1, hy1⟩ := pair_at hkx hm2
      have hzl := ats_len h3
      rw [List.length_map, List.length_take] at hzl
      refine ⟨rfl, ?_⟩
      refine tYes_if ?_
      refine ⟨_, rfl, _, rfl, t', _, 1, _, rfl, rfl, SqT.of (h2 _ _ (s2 _ _ ht')), at1 _ _ _, by show 2 ≤ sizeLine; decide, fun u hu => ?_⟩
      have su := same_new hu (.tup [.ref t, y1])
      have f8 : Fr B0 (upd G' u (.tup [.ref t, y1])) (upd (upd G' u (.tup [.ref t, y1])) D2 (.lst (zs ++ [.ref u]))) := fr_list (su _ _ h1) fun b => hnB D2 hDH b
      refine ⟨zs, su _ _ h1, by have := big; have := Nat.min_le_right i l.length; omega, zs ++ [.ref u], upd_same, same_upd hD2 (sameT h2 su) _, ?_⟩
      rw [List.take_add_one, hk, List.map_append]
      exact ats_app ((h3.keep (fr_same su)).keep f8) (ats_one (Dd.At.keep f8 (show (pairD (l.map fun q => strOf (nth 0 q)) (nth 1 (.tup m))).At B0 _ (.ref u) from at_tup upd_same (ats_cons (aN _ (sameT h2 su)) (ats_cons (hy1.keep (fr_same (sameT s2 (sameT h2 su)))) ats_nil)))))
    rintro G' ⟨zs, h1, h2, h3⟩
    rw [hxl, List.take_length] at h3
    have hzl := ats_len h3
    rw [List.length_map] at hzl
    have s3 := sameT s2 h2
    refine ⟨_, rfl, _, rfl, a, _, 2, _, rfl, rfl, SqT.of (s3 _ _ ha1), at2 _ _ _ _, by show 2 ≤ sizeLine; decide, fun u hu => ⟨by show 1 ≤ sizeLine; decide, fun L1 hL1 => ?_⟩⟩
    have su := same_new hu (.tup [.ref t, y2])
    have sL1 := same_new hL1 (.lst [.ref u])
    refine ⟨D2, L1, zs, [.ref u], rfl, rfl, sL1 _ _ (su _ _ h1), upd_same, by have := big; show zs.length + 1 ≤ _; omega, fun L hL => ?_⟩
    have sL := same_new hL (.lst (zs ++ [.ref u]))
    have s4 := sameT su (sameT sL1 sL)
    refine q L (zs ++ [.ref u]) _ (sameT s1 (sameT s3 s4)) (free_of (sameT s1 (sameT s3 (sameT su sL1))) hL) upd_same ?_
    show Dd.Ats B0 _ (List.zipWith pairD (scopesW "let" [.tup l, y]) (partsW "let" [.tup l, y])) _
    rw [sw_let, pw_let, show List.zipWith pairD ((tl (arg 0 [.tup l, y])).map (fun _ => (tl (arg 0 [.tup l, y])).map fun q => strOf (nth 0 q)) ++ [(tl (arg 0 [.tup l, y])).map fun q => strOf (nth 0 q)]) (gLet [.tup l, y]) = (l.map fun q => pairD (l.map fun q => strOf (nth 0 q)) (nth 1 q)) ++ [pairD (l.map fun q => strOf (nth 0 q)) y] from zip_let l y _ l]
    exact ats_app (h3.keep (fr_same s4)) (ats_one (show (pairD (l.map fun q => strOf (nth 0 q)) y).At B0 _ (.ref u) from at_tup (sL _ _ (sL1 _ _ upd_same)) (ats_cons (aN _ (sameT h2 s4)) (ats_cons (hy2.keep (fr_same (sameT s3 s4))) ats_nil))))
  rw [decide_eq_false fun e => c6 (by injection e)]
  refine iteF ?_
  refine ⟨by show 0 ≤ sizeLine; decide, fun F' hF' => ?_⟩
  have sF := same_new hF' (.lst [])
  have hFH := free_of s1 hF'
  refine ⟨_, rfl, by show 2 ≤ sizeLine; decide, fun t2 ht2 => ?_⟩
  have st2 := same_new ht2 (.tup [.str "case", .str "pick"])
  have et2 : upd (upd H1 F' (.lst [])) t2 (.tup [.str "case", .str "pick"]) t2 = some (.tup ([("case" : Str), "pick"].map V.str)) := upd_same
  have hF2 : upd (upd H1 F' (.lst [])) t2 (.tup [.str "case", .str "pick"]) F' = some (.lst []) := st2 _ _ upd_same
  have s2 := sameT sF st2
  generalize upd (upd H1 F' (.lst [])) t2 (.tup [.str "case", .str "pick"]) = H2 at et2 hF2 s2 ⊢
  clear sF st2 ht2
  refine ⟨t2, _, rfl, .inr (SqT.of et2), rfl, flat_strs _, ?_⟩
  rw [show (if false = true then !inV (.str z) ([("case" : Str), "pick"].map V.str) else inV (.str z) ([("case" : Str), "pick"].map V.str)) = decide (z ∈ [("case" : Str), "pick"]) by rw [if_neg (by decide), inV_strs]]
  refine ⟨_, rfl, ?_⟩
  by_cases c7 : z ∈ [("case" : Str), "pick"]
  · rw [decide_eq_true c7]
    refine iteT ?_
    obtain ⟨x, l, d, rfl, hdf, hC, hP, eI⟩ : ∃ (x : Dd) (l : List Dd) (d : Dd), r = [x, .tup l, d] ∧ isDflt d = true ∧ (z = "case" → ∀ q ∈ l, (∃ m, q = .tup m ∧ m.length = 3) ∧ areNames (nth 1 q) = true) ∧ (z ≠ "case" → ∀ q ∈ l, ∃ m, q = .tup m ∧ m.length = 2) ∧
        innerD (.tup (.str z :: r)) = pairD [] x :: (l.map (rowPair z) ++ List.zipWith pairD (dfltNs d) (dfltP d)) := by
      rcases List.mem_cons.mp c7 with c | c
      · subst c
        rw [fw_case] at hfz
        obtain ⟨h1, h4⟩ := fand hfz
        obtain ⟨h1, h3⟩ := fand h1
        obtain ⟨h1, h2⟩ := fand h1
        obtain ⟨x, y, d, rfl⟩ := len3 (of_decide_eq_true h1)
        obtain ⟨l, rfl, hr⟩ := rows_are (show areRows 3 y = true from h2)
        refine ⟨x, l, d, rfl, h3, fun _ q hq => ⟨hr q hq, (fand (List.all_eq_true.mp h4 q hq)).2⟩, fun n => (n rfl).elim, ?_⟩
        show List.zipWith pairD (scopesW "case" [x, .tup l, d]) (partsW "case" [x, .tup l, d]) = _
        rw [sw_case, pw_case]
        show pairD [] x :: List.zipWith pairD (l.map (fun q => strsOf (nth 1 q)) ++ dfltNs d) (l.map lastD ++ dfltP d) = _
        rw [List.zipWith_append (by rw [List.length_map, List.length_map])]
        congr 2
        exact zip_rows l fun q hq => by
          obtain ⟨m, rfl, hm⟩ := hr q hq
          unfold rowPair
          rw [if_pos rfl]
      · have c := List.mem_singleton.mp c
        subst c
        rw [fw_pick] at hfz
        obtain ⟨h1, h4⟩ := fand hfz
        obtain ⟨h1, h3⟩ := fand h1
        obtain ⟨h1, h2⟩ := fand h1
        obtain ⟨x, y, d, rfl⟩ := len3 (of_decide_eq_true h1)
        obtain ⟨l, rfl, hr⟩ := rows_are (show areRows 2 y = true from h2)
        refine ⟨x, l, d, rfl, h3, fun n => absurd n (by decide +kernel), fun _ q hq => hr q hq, ?_⟩
        show List.zipWith pairD (scopesW "pick" [x, .tup l, d]) (partsW "pick" [x, .tup l, d]) = _
        rw [sw_pick, pw_pick]
        show pairD [] x :: List.zipWith pairD (l.map (fun _ => []) ++ dfltNs d) (l.map lastD ++ dfltP d) = _
        rw [List.zipWith_append (by rw [List.length_map, List.length_map])]
        congr 2
        exact zip_rows l fun q hq => by
          obtain ⟨m, rfl, hm⟩ := hr q hq
          unfold rowPair
          rw [if_neg (by decide +kernel)]
    obtain ⟨x2, ys2, rfl, hx2, y2, ys3, rfl, hy2, y3, ys4, rfl, hy3, hn3⟩ := id hys1
    cases (show ys4 = [] from hn3)
    obtain ⟨p, xs2, rfl, e2, hps⟩ := id hy2
    refine ⟨_, rfl, .inl ⟨rfl, _, SqL.of hF2⟩, by show 0 ≤ sizeLine; decide, fun u hu => ?_⟩
    have su := same_new hu (.tup [])
    refine ⟨_, rfl, a, _, 1, _, rfl, rfl, SqT.of (su _ _ (s2 _ _ ha1)), at1 _ _ _, by show 2 ≤ sizeLine; decide, fun t ht => ?_⟩
    have st := same_new ht (.tup [.ref u, x2])
    have sut := sameT su st
    refine ⟨F', _, _, rfl, rfl, sut _ _ hF2, szl (Nat.zero_le _), ?_⟩
    have hnF := hnB F' hFH
    have fF : ∀ {G : Hp} {zs : List V} {o : HO}, G F' = some (.lst zs) → Fr B0 G (upd G F' o) := fun h => fr_list h hnF
    have hxl := ats_len hps
    have hlz := szs_len l
    have hsz' : 1 + (1 + (x.sz + (1 + Dd.szs l + (d.sz + 0)))) ≤ 1000000 := hsz
    have b1 : (pairD [] x).At B0 (upd (upd H2 u (.tup [])) t (.tup [.ref u, x2])) (.ref t) := at_tup upd_same (ats_cons (at_tup (st _ _ upd_same) ats_nil) (ats_cons (hx2.keep (fr_same (sameT s2 sut))) ats_nil))
    have hFt := sut _ _ hF2
    have s3 := sameT s2 sut
    generalize upd (upd H2 u (.tup [])) t (.tup [.ref u, x2]) = H3 at b1 hFt s3 ⊢
    refine ⟨_, rfl, a, _, 2, _, rfl, rfl, SqT.of ((same_upd hF' s3 _) _ _ ha1), at2 _ _ _ _, p, rfl, ⟨_, SqT.of ((same_upd hF' s3 _) _ _ e2)⟩, for_tup (a := p) (xs := xs2)
      (fun i σ G => ∃ (v2 v3 v5 : Option V) (zs : List V), σ = [some (.ref a), some (.str z), v2, v3, some (.ref F'), v5] ∧ Same H1 G ∧ G F' = some (.lst zs) ∧ Dd.Ats B0 G (pairD [] x :: (l.take i).map (rowPair z)) zs ∧ zs.length = i + 1)
      ⟨_, _, _, [.ref t], rfl, same_upd hF' s3 _, upd_same, ats_one (b1.keep (fF hFt)), rfl⟩ (fun i σ G _ ⟨_, _, _, _, _, h, _⟩ => SqT.of (h _ _ e2)) ?_ ?_⟩
    · rintro i x' σ G hx ⟨v2, v3, v5, zs, rfl, sG, hG, aG, hzl⟩
      obtain ⟨kk, hk, hkx⟩ := ats_get hps hx
      have hil : i < l.length := (List.getElem?_eq_some_iff.mp hk).1
      have hkm := List.mem_of_getElem? hk
      have fin1 : ∀ (G' : Hp) (w' : V), Same G G' → (rowPair z kk).At B0 G' w' → ∃ (v2' v3' v5' : Option V) (zs' : List V), [some (V.ref a), some (.str z), some x', v3, some (.ref F'), v5] = [some (.ref a), some (.str z), v2', v3', some (.ref F'), v5'] ∧ Same H1 (upd G' F' (.lst (zs ++ [w']))) ∧ upd G' F' (.lst (zs ++ [w'])) F' = some (.lst zs') ∧ Dd.Ats B0 (upd G' F' (.lst (zs ++ [w']))) (pairD [] x :: (l.take (i + 1)).map (rowPair z)) zs' ∧ zs'.length = i + 1 + 1 := fun G' w' s' hw' => by
        refine ⟨_, _, _, zs ++ [w'], rfl, same_upd hF' (sameT sG s') _, upd_same, ?_, by rw [List.length_append, hzl]; rfl⟩
        rw [List.take_add_one, hk, List.map_append]
        exact ats_app ((aG.keep (fr_same s')).keep (fF (s' _ _ hG))) (ats_one (hw'.keep (fF (s' _ _ hG))))
      refine ⟨_, rfl, rfl, _, rfl, ?_⟩
      show if decide (V.str z = V.str "case") = true then _ else _
      by_cases c8 : z = "case"
      · rw [decide_eq_true (by rw [c8])]
        refine iteT ?_
        obtain ⟨⟨m, rfl, hm⟩, hnn⟩ := hC c8 kk hkm
        obtain ⟨t', x1, y1, z1, rfl, ht', hx1, hy1, hz1'⟩ := three_at hkx hm
        refine ⟨_, rfl, .inl ⟨rfl, _, SqL.of hG⟩, _, rfl, t', _, 1, _, rfl, rfl, SqT.of (sG _ _ ht'), at1 _ _ _, _, rfl, t', _, 2, _, rfl, rfl, SqT.of (sG _ _ ht'), at2 _ _ _ _, by show 2 ≤ sizeLine; decide, fun u1 hu1 => ?_⟩
        have su1 := same_new hu1 (.tup [y1, z1])
        refine ⟨F', _, _, rfl, rfl, su1 _ _ hG, by have := big; omega, ?_⟩
        refine fin1 _ _ su1 ?_
        unfold rowPair
        rw [if_pos c8]
        obtain ⟨q0, q1, q2, rfl⟩ := len3 hm
        refine at_tup upd_same (ats_cons ?_ (ats_cons (hz1'.keep (fr_same (sameT sG su1))) ats_nil))
        rw [← names_back hnn]
        exact hy1.keep (fr_same (sameT sG su1))
      · rw [decide_eq_false fun e => c8 (by injection e)]
        refine iteF ?_
        obtain ⟨m, rfl, hm⟩ := hP c8 kk hkm
        obtain ⟨t', x1, y1, rfl, ht', hx1, hy1⟩ := pair_at hkx hm
        refine ⟨_, rfl, .inl ⟨rfl, _, SqL.of hG⟩, by show 0 ≤ sizeLine; decide, fun u0 hu0 => ?_⟩
        have su0 := same_new hu0 (.tup [])
        refine ⟨_, rfl, t', _, 1, _, rfl, rfl, SqT.of (su0 _ _ (sG _ _ ht')), at1 _ _ _, by show 2 ≤ sizeLine; decide, fun u1 hu1 => ?_⟩
        have su1 := same_new hu1 (.tup [.ref u0, y1])
        refine ⟨F', _, _, rfl, rfl, su1 _ _ (su0 _ _ hG), by have := big; omega, ?_⟩
        refine fin1 _ _ (sameT su0 su1) ?_
        unfold rowPair
        rw [if_neg c8]
        obtain ⟨q0, q1, rfl⟩ := len2 hm
        exact at_tup upd_same (ats_cons (at_tup (su1 _ _ upd_same) ats_nil) (ats_cons (hy1.keep (fr_same (sameT sG (sameT su0 su1)))) ats_nil))
    rintro σ G ⟨v2, v3, v5, zs, rfl, sG, hG, aG, hzl⟩
    rw [hxl] at hzl
    rw [hxl, List.take_length] at aG
    refine ⟨_, rfl, a, _, 3, _, rfl, rfl, SqT.of (sG _ _ ha1), at3 _ _ _ _ _, rfl, _, rfl, ?_⟩
    show if (!decide (y3 = V.non)) = true then _ else _
    match d, hdf, hy3, eI with
    | .non, _, hy3, eI =>
      have hy3 : y3 = V.non := hy3
      rw [decide_eq_true hy3]
      refine iteF ?_
      refine ⟨_, rfl, q F' zs G (sameT s1 sG) hFH hG ?_⟩
      rw [eI]
      show Dd.Ats B0 G (pairD [] x :: (l.map (rowPair z) ++ [])) zs
      rw [List.append_nil]
      exact aG
    | .tup m, hdf, hy3, eI =>
      obtain ⟨g1, g2⟩ := fand hdf
      obtain ⟨n0, d1, rfl⟩ := len2 (of_decide_eq_true g1)
      obtain ⟨t', x1, y1, rfl, ht', hx1, hy1⟩ := pair_at hy3 rfl
      rw [decide_eq_false (by intro e; cases e)]
      refine iteT ?_
      have hx3 : (Dd.str (strOf n0)).At B0 H1 x1 := name_str (show isName n0 = true from g2) ▸ hx1
      refine ⟨_, rfl, .inl ⟨rfl, _, SqL.of hG⟩, _, rfl, a, _, 3, _, rfl, rfl, SqT.of (sG _ _ ha1), at3 _ _ _ _ _, t', _, 0, _, rfl, rfl, SqT.of (sG _ _ ht'), at0 _ _, by show 1 ≤ sizeLine; decide, fun u0 hu0 => ?_⟩
      have su0 := same_new hu0 (.tup [x1])
      refine ⟨_, rfl, a, _, 3, _, rfl, rfl, SqT.of (su0 _ _ (sG _ _ ha1)), at3 _ _ _ _ _, t', _, 1, _, rfl, rfl, SqT.of (su0 _ _ (sG _ _ ht')), at1 _ _ _, by show 2 ≤ sizeLine; decide, fun u1 hu1 => ?_⟩
      have su1 := same_new hu1 (.tup [.ref u0, y1])
      have sU := sameT su0 su1
      have hbig := big
      refine ⟨F', _, _, rfl, rfl, sU _ _ hG, by omega, ?_⟩
      refine ⟨_, rfl, q F' (zs ++ [.ref u1]) _ (sameT s1 (same_upd hF' (sameT sG sU) _)) hFH upd_same ?_⟩
      rw [eI]
      show Dd.Ats B0 _ (pairD [] x :: (l.map (rowPair z) ++ [pairD [strOf n0] d1])) _
      have b9 : (pairD [strOf n0] d1).At B0 (upd (upd G u0 (.tup [x1])) u1 (.tup [.ref u0, y1])) (.ref u1) := at_tup upd_same (ats_cons (at_tup (su1 _ _ upd_same) (ats_cons (hx3.keep (fr_same (sameT sG sU))) ats_nil)) (ats_cons (hy1.keep (fr_same (sameT sG sU))) ats_nil))
      exact ats_app (l := pairD [] x :: l.map (rowPair z)) ((aG.keep (fr_same sU)).keep (fF (sU _ _ hG))) (ats_one (b9.keep (fF (sU _ _ hG))))
  · rw [decide_eq_false c7]
    refine iteF ?_
    refine ⟨_, rfl, q F' [] H2 (sameT s1 s2) hFH hF2 ?_⟩
    have hw := form_wordN hfz
    have hz : z = "num" ∨ z = "var" := by
      simp only [words, List.mem_cons, List.not_mem_nil, or_false] at hw
      simp only [List.mem_cons, List.not_mem_nil, or_false, not_or] at c1 c7
      rcases hw with h | h | h | h | h | h | h | h | h | h | h
      · exact .inl h
      · exact .inr h
      · exact (c1.1 h).elim
      · exact (c2 h).elim
      · exact (c6 h).elim
      · exact (c5 h).elim
      · exact (c4 h).elim
      · exact (c7.1 h).elim
      · exact (c7.2 h).elim
      · exact (c1.2 h).elim
      · exact (c3 h).elim
    show Dd.Ats B0 H2 (List.zipWith pairD (scopesW z r) (partsW z r)) []
    rcases hz with h | h <;> subst h
    · rw [pw_num, List.zipWith_nil_right]
      exact ats_nil
    · rw [pw_var, List.zipWith_nil_right]
      exact ats_nil
end
end Toy

set_option Elab.async false
set_option linter.all false
set_option maxRecDepth 100000
set_option maxHeartbeats 4000000
/-! Part O: as many scopes as parts; the law's count of terms. -/
namespace Toy
open PySem L2
open PyProof.Rows (envOfC)
theorem dflt_len {d : Dd} (h : isDflt d = true) : (dfltNs d).length = (dfltP d).length := by
  match d, h with
  | .non, _ => rfl
  | .tup _, _ => rfl
theorem scopes_len {k : Dd} (h : formB k = true) : (scopesD k).length = (partsD k).length := by
  obtain ⟨z, r, rfl, hf⟩ := form_tup h
  show (scopesW z r).length = (partsW z r).length
  have hw := form_wordN hf
  simp only [words, List.mem_cons, List.not_mem_nil, or_false] at hw
  rcases hw with rfl | rfl | rfl | rfl | rfl | rfl | rfl | rfl | rfl | rfl | rfl
  · rw [pw_num, show scopesW "num" r = [] by unfold scopesW; simp (config := { decide := true })]
    rfl
  · rw [pw_var, show scopesW "var" r = [] by unfold scopesW; simp (config := { decide := true })]
    rfl
  · rw [fw_app] at hf
    rw [sw_app, pw_app]
    exact (of_decide_eq_true hf).symm
  · rw [sw_lam, pw_lam]
    rfl
  · rw [sw_let, pw_let]
    unfold gLet
    rw [List.length_append, List.length_append, List.length_map, List.length_map]
    rfl
  · rw [fw_seq] at hf
    rw [sw_seq, pw_seq, List.length_drop, of_decide_eq_true (fand hf).1]
    rfl
  · rw [sw_con, pw_con, List.length_map]
  · rw [fw_case] at hf
    rw [sw_case, pw_case]
    unfold gChoice
    rw [List.length_cons, List.length_cons, List.length_append, List.length_append, List.length_map, List.length_map, dflt_len (fand (fand hf).1).2]
  · rw [fw_pick] at hf
    rw [sw_pick, pw_pick]
    unfold gChoice
    rw [List.length_cons, List.length_cons, List.length_append, List.length_append, List.length_map, List.length_map, dflt_len (fand (fand hf).1).2]
  · rw [fw_prim] at hf
    rw [sw_prim, pw_prim, List.length_drop, of_decide_eq_true (fand hf).1]
    rfl
  · rw [sw_note, pw_note]
    rfl
section
variable {P : Program} {w : World} {K : PySem.W.Frag} {mg : Str → Option Value} {base : Heap}
abbrev sLSize : Stmt := topS 83
theorem scLSize : FnScope ["term", "total", "bound", "part"] ["term"] (defScope sLSize) := ⟨rfl, rfl, rfl, by decide +kernel, rfl, by decide +kernel, by decide +kernel⟩
def spLSize (n : Nat) : Sp := fun vs H Q _ => ∃ (B : Addr → Prop) (v : V) (k : Dd), vs = [v] ∧ k.At B H v ∧ isN n k = true ∧ k.sz ≤ 1000000 ∧ (∀ a, H a = none → ¬ B a) ∧ ∀ H', Same H H' → Q (.int (cnt k : Int)) H'
theorem c_lsize1 {f : Addr} {fd : FuncData} (c_law_inner : C8.Cal P w K mg base 1 "_law_inner" spInner []) {n : Nat} (c_law_size : C8.Cal P w K mg base (n + 1) "_law_size" (spLSize n) []) (F : Fun K "_law_size" "_law_size" sLSize f fd) (b : Binds K fd ["term"] []) (hm : mg "_law_size" = some (.ref f)) : C8.Cal P w K mg base (n + 1 + 1) "_law_size" (spLSize (n + 1)) [] := by
  refine cal_of F hm b scLSize (fun vs H Q E h => ?_) (fun cdv A outer s H vs Q E hr h => ?_)
  · obtain ⟨B, v, k, rfl, _⟩ := h
    rfl
  obtain ⟨B0, v, k, rfl, hat, hN, hsz, hnB, q⟩ := h
  obtain ⟨hf, hpN⟩ := fand hN
  have hf := (fand hf).1
  have hpN := List.all_eq_true.mp hpN
  have hps := parts_sz hf
  refine ⟨_, (pss_cons (ps_set (i := 1) scLSize.nd rfl (Or.inl rfl) pe_int)
    (pss_cons (ps_for PassesOwn.never rfl (pi_list (C8.pe_c c_law_inner hr (by omega) rfl (pa_cons (pv 0) pa_nil))) (pg_tup rfl (pgs_cons (pg_name (i := 2) scLSize.nd rfl (Or.inl rfl)) (pgs_cons (pg_name (i := 3) scLSize.nd rfl (Or.inl rfl)) pgs_nil)))
      (pss_one (ps_set (i := 1) scLSize.nd rfl (Or.inl rfl) (pe_op op_add (pv 1) (C8.pe_c c_law_size hr (by omega) rfl (pa_cons (pv 3) pa_nil))))))
    (pss_one (ps_ret (pv 1))))), ?_⟩
  refine ⟨_, rfl, B0, v, k, rfl, hat, hf, hsz, hnB, fun L xs H1 s1 hL h1 hx => ?_⟩
  refine ⟨L, rfl, ⟨_, SqL.of h1⟩, for_list (a := L) (xs := xs) (fun i σ G => ∃ (v2 v3 : Option V), σ = [some v, some (.int ((1 + (((partsD k).take i).map cnt).sum : Nat) : Int)), v2, v3] ∧ Same H1 G) ⟨_, _, rfl, fun _ _ e => e⟩ (fun i σ G _ ⟨_, _, _, h⟩ => SqL.of (h _ _ h1)) ?_ ?_⟩
  · rintro i x σ G hxi ⟨v2, v3, rfl, sG⟩
    obtain ⟨pd, hpd, hpa⟩ := ats_get hx hxi
    obtain ⟨ns, p, hns, hp, rfl⟩ := List.getElem?_zipWith_eq_some.mp hpd
    obtain ⟨t, x1, y1, rfl, ht, hx1, hy1⟩ := pair_at (m := [nameT ns, p]) hpa rfl
    have hpm := List.mem_of_getElem? hp
    have hpz := szs_mem hpm
    have hy1 : p.At B0 H1 y1 := hy1
    refine ⟨t, _, rfl, SqT.of (sG _ _ ht), rfl, _, _, rfl, _, _, rfl, rfl, ?_⟩
    refine ⟨_, rfl, _, rfl, B0, y1, p, rfl, hy1.keep (fr_same sG), hpN p hpm, by omega, fun b hb => hnB b (free_of (sameT s1 sG) hb), fun G2 s2 => ⟨_, _, rfl, rfl, ?_⟩⟩
    refine ⟨some x1, some y1, ?_, sameT sG s2⟩
    have e : (((1 + (((partsD k).take i).map cnt).sum : Nat) : Int)) + ((cnt p : Nat) : Int) = ((1 + (((partsD k).take (i + 1)).map cnt).sum : Nat) : Int) := by
      rw [List.take_add_one, hp, List.map_append, List.sum_append, show ((some p).toList.map cnt).sum = cnt p from Nat.add_zero _]
      omega
    rw [← e]
    rfl
  rintro σ G ⟨v2, v3, rfl, sG⟩
  have hl := ats_len hx
  have hl2 : xs.length = (partsD k).length := by
    rw [hl]
    unfold innerD
    rw [List.length_zipWith, scopes_len hf, Nat.min_self]
  rw [hl2, List.take_length, ← cnt_eq (isN_T _ _ hN)]
  exact ⟨_, rfl, q G (sameT s1 sG)⟩
theorem c_lsize {f : Addr} {fd : FuncData} (c_law_inner : C8.Cal P w K mg base 1 "_law_inner" spInner []) (F : Fun K "_law_size" "_law_size" sLSize f fd) (b : Binds K fd ["term"] []) (hm : mg "_law_size" = some (.ref f)) : ∀ n : Nat, C8.Cal P w K mg base (n + 1) "_law_size" (spLSize n) []
  | 0 => cal_none F hm b fun vs H Q E h => by
    obtain ⟨B, v, k, _, _, h, _⟩ := h
    cases h
  | n + 1 => c_lsize1 c_law_inner (c_lsize c_law_inner F b hm n) F b hm
end
end Toy

set_option Elab.async false
set_option linter.all false
set_option maxRecDepth 100000
set_option maxHeartbeats 4000000
/-! Part Y: own rule: a loop over zip(t, l), t a tuple and l a list. -/
namespace Mix
open PySem PySem.Spec PyProof.Rows L2
/-- a row of this kind: a tuple where c, a list otherwise -/
def Row (c : Bool) (g : Heap) (p : Addr) (us : Array Value) : Prop := match c with
  | true => g.IsTuple p us
  | false => g.IsList p us
/-- the walker over it, ahead of item m -/
def Wlk (c : Bool) (g : Heap) (j p : Addr) (m : Nat) : Prop := match c with
  | true => g.IsTupleIter j p m
  | false => g.IsListIter j p m
theorem Row.ext {c : Bool} {g g' : Heap} {p q : Addr} {us : Array Value} (r : Row c g p us) (b : Heap.ExtBut q g g') (n : p ≠ q) : Row c g' p us := by
  cases c
  · exact Heap.IsList.extBut r b n
  · exact Heap.IsTuple.extBut r b n
theorem Wlk.ext {c : Bool} {g g' : Heap} {j p q : Addr} {m : Nat} (r : Wlk c g j p m) (b : Heap.ExtBut q g g') (n : j ≠ q) : Wlk c g' j p m := by
  cases c
  · exact Heap.IsListIter.extBut r b n
  · exact Heap.IsTupleIter.extBut r b n
theorem Wlk.at {c : Bool} {g g' : Heap} {j p : Addr} {m : Nat} (r : Wlk c g j p m) (k : ∀ o, g.get? j = some o → g'.get? j = some o) : Wlk c g' j p m := by
  cases c
  · exact Heap.IsListIter.at r k
  · exact Heap.IsTupleIter.at r k
theorem Wlk.there {c : Bool} {g : Heap} {j p : Addr} {m : Nat} (r : Wlk c g j p m) : ∃ o, g.get? j = some o ∧ ∀ v, o.data ≠ .cell v := by
  cases c
  · obtain ⟨o, e, _, d⟩ := r
    exact ⟨o, e, fun v z => by rw [d] at z; cases z⟩
  · obtain ⟨o, e, _, d⟩ := r
    exact ⟨o, e, fun v z => by rw [d] at z; cases z⟩
theorem Wlk.lt {c : Bool} {g : Heap} {j p : Addr} {m : Nat} (r : Wlk c g j p m) : j < g.objs.size := by
  obtain ⟨o, e, _⟩ := Wlk.there r
  exact Heap.lt_size e
section
variable {prog : Program} {w : World} {A : Around} {E : Value → Shared → Prop} {s : Shared}
theorem step_item {c : Bool} {j p : Addr} {m : Nat} {us : Array Value} {u : Value} {Q : Value → Shared → Prop} (r : Wlk c s.heap j p m) (k : Row c s.heap p us) (e : us[m]? = some u)
    (q : ∀ g, Wlk c g j p (m + 1) → Heap.SameBut j s.heap g → Q u { s with heap := g }) : wpAny (model prog w) A (Builtin.SmallTypes.nextOf (.ref j)) Q E s := by
  cases c
  · exact wpAny_nextOf_list_item r k e q
  · exact RZ.nextOf_tuple_item r k e q
theorem step_end {c : Bool} {j p : Addr} {m : Nat} {us : Array Value} {Q : Value → Shared → Prop} (hh : A.handled = none) (r : Wlk c s.heap j p m) (k : Row c s.heap p us) (e : us[m]? = none)
    (q : ∀ g x, Heap.ExtBut j s.heap g → (∃ o, g.get? x = some o ∧ o.cls = .type "StopIteration") → E (.ref x) { s with heap := g }) : wpAny (model prog w) A (Builtin.SmallTypes.nextOf (.ref j)) Q E s := by
  cases c
  · exact wpAny_nextOf_list_end hh r k e q
  · exact RZ.nextOf_tuple_end hh r k e q
theorem mz_item {c d : Bool} {zz ti to j1 j2 ta tb : Addr} {m n : Nat} {us vs : Array Value} {u v a b : Value} {Q : Value → Shared → Prop} (D : ZipApart zz ti to j1 j2 ta tb)
    (fz : IsZip s.heap zz ti to .none) (fi : IsPair s.heap ti (.ref j1) (.ref j2)) (fo : IsPair s.heap to a b)
    (r1 : Wlk c s.heap j1 ta m) (r2 : Wlk d s.heap j2 tb n) (k1 : Row c s.heap ta us) (k2 : Row d s.heap tb vs) (eu : us[m]? = some u) (ev : vs[n]? = some v)
    (q : ∀ g, IsZip g zz ti to (rawInt s.heap.objs.size) → IsPair g to u v → Wlk c g j1 ta (m + 1) → Wlk d g j2 tb (n + 1) → IsPair g s.heap.objs.size u v → g.objs.size = s.heap.objs.size + 1 →
      (∀ x o, x ≠ zz → x ≠ to → x ≠ j1 → x ≠ j2 → s.heap.get? x = some o → g.get? x = some o) → Q (.ref s.heap.objs.size) { s with heap := g }) :
    wpAny (model prog w) A (Builtin.«zip.__next__» ⟨[.ref zz], []⟩) (fun fin s' => ∃ y, fin = .done (.ret y) ∧ Q y s') E s := by
  show wpAny _ _ (field (.ref zz) 2 >>= _) _ _ _
  refine wpAny_bind (wpAny_field fz rfl (x := .bool false) rfl ?_)
  show wpAny _ _ (field (.ref zz) 3 >>= _) _ _ _
  refine wpAny_bind (wpAny_field fz rfl (x := .ref ti) rfl ?_)
  refine wpAny_bind (wpAny_seqItems fi rfl ?_)
  show wpAny _ _ (Builtin.SmallTypes.ownedTupleIsFree (.ref zz) >>= _) _ _ _
  refine wpAny_bind ?_
  unfold Builtin.SmallTypes.ownedTupleIsFree
  refine wpAny_bind (wpAny_field fz rfl (x := .none) rfl (wpAny_pure ?_))
  simp only [if_true]
  refine wpAny_bind (wpAny_rule ?_)
  refine wpAny_bind (wpAny_field fz rfl (x := .ref to) rfl ?_)
  refine wpAny_bind (wpAny_setField_rec fz (by simp) fun g1 z1 b1 => ?_)
  replace z1 : IsZip g1 zz ti to .ellipsis := z1
  refine wpAny_bind ?_
  simp only [List.forIn_cons, List.forIn_nil, List.zipIdx_cons, List.zipIdx_nil]
  refine wpAny_bind (wpAny_bind (wpAny_onRaise (show wpAny _ _ (Builtin.SmallTypes.nextOf (.ref j1) >>= _) _ _ _ from ?_)))
  refine wpAny_bind (step_item (s := { s with heap := g1 }) (r1.ext b1.extBut D.i1z) (k1.ext b1.extBut D.l1z) eu fun g2 y1 b2 => wpAny_pure ?_)
  have o2 : IsPair g2 to a b := b2.extBut _ _ D.TOi1 (b1.extBut _ _ D.TOz fo)
  refine wpAny_bind (wpAny_seqItems o2 rfl (wpAny_bind (wpAny_updateSeq_pair o2 fun g3 o3 b3 => ?_)))
  replace o3 : IsPair g3 to u b := o3
  refine wpAny_bind (wpAny_letGo (wpAny_pure ?_))
  refine wpAny_bind (wpAny_bind (wpAny_onRaise (show wpAny _ _ (Builtin.SmallTypes.nextOf (.ref j2) >>= _) _ _ _ from ?_)))
  refine wpAny_bind (step_item (s := { s with heap := g3 }) (((r2.ext b1.extBut D.i2z).ext b2.extBut D.i12.symm).ext b3.extBut D.TOi2.symm) (((k2.ext b1.extBut D.l2z).ext b2.extBut D.l2i1).ext b3.extBut D.l2TO) ev fun g4 y2 b4 => wpAny_pure ?_)
  have o4 : IsPair g4 to u b := b4.extBut _ _ D.TOi2 o3
  refine wpAny_bind (wpAny_seqItems o4 rfl (wpAny_bind (wpAny_updateSeq_pair o4 fun g5 o5 b5 => ?_)))
  replace o5 : IsPair g5 to u v := o5
  refine wpAny_bind (wpAny_letGo (wpAny_pure (wpAny_pure (wpAny_bind (wpAny_seqItems o5 rfl (wpAny_bind (wpAny_newTuple ?_)))))))
  have sz : g5.objs.size = s.heap.objs.size := by rw [b5.1, b4.1, b3.1, b2.1, b1.1]
  have z5 : IsZip g5 zz ti to .ellipsis := b5.extBut _ _ D.TOz.symm (b4.extBut _ _ D.i2z.symm (b3.extBut _ _ D.TOz.symm (b2.extBut _ _ D.i1z.symm z1)))
  have kp : ∀ x o, x ≠ zz → x ≠ to → x ≠ j1 → x ≠ j2 → s.heap.get? x = some o → g5.get? x = some o := fun x o n1 n2 n3 n4 e =>
    b5.extBut _ _ n2 (b4.extBut _ _ n4 (b3.extBut _ _ n2 (b2.extBut _ _ n3 (b1.extBut _ _ n1 e))))
  have w1 : Wlk c g5 j1 ta (m + 1) := ((y1.ext b3.extBut D.TOi1.symm).ext b4.extBut D.i12).ext b5.extBut D.TOi1.symm
  have w2 : Wlk d g5 j2 tb (n + 1) := y2.ext b5.extBut D.TOi2.symm
  have lz : zz < g5.objs.size := Heap.lt_size z5
  show wpAny _ _ (Builtin.SmallTypes.ownedTupleHandOut (.ref zz) (.ref g5.objs.size) >>= _) _ _ _
  refine wpAny_bind ?_
  unfold Builtin.SmallTypes.ownedTupleHandOut
  have z6 : IsZip (g5.push { cls := .type "tuple", data := .seq #[u, v] }) zz ti to .ellipsis := Heap.get?_push_of_some _ z5
  refine wpAny_bind (wpAny_setField_rec z6 (by simp) fun g7 z7 b7 => ?_)
  replace z7 : IsZip g7 zz ti to (rawInt g5.objs.size) := z7
  refine wpAny_setField_rec z7 (by simp) fun g8 z8 b8 => ?_
  replace z8 : IsZip g8 zz ti to (rawInt g5.objs.size) := z8
  have up : ∀ x o, x ≠ zz → g5.get? x = some o → g8.get? x = some o := fun x o n1 e => b8.extBut _ _ n1 (b7.extBut _ _ n1 (Heap.get?_push_of_some _ e))
  have new : IsPair g8 g5.objs.size u v := b8.extBut _ _ (Nat.ne_of_gt lz) (b7.extBut _ _ (Nat.ne_of_gt lz) (Heap.get?_push_size _ rfl))
  have s8 : g8.objs.size = g5.objs.size + 1 := by rw [b8.1, b7.1, Heap.size_push]
  rw [sz] at z8 new s8
  refine wpAny_pure ⟨_, rfl, ?_⟩
  show Q (.ref g5.objs.size) _
  rw [sz]
  exact q g8 z8 (up _ _ D.TOz o5) (w1.at fun o e => up _ o D.i1z e) (w2.at fun o e => up _ o D.i2z e) new s8 fun x o n1 n2 n3 n4 e => up x o n1 (kp x o n1 n2 n3 n4 e)
theorem mz_end {c d : Bool} {zz ti to j1 j2 ta tb : Addr} {m n : Nat} {us vs : Array Value} {a b : Value} {Q : Fin → Shared → Prop} (hh : A.handled = none) (D : ZipApart zz ti to j1 j2 ta tb)
    (fz : IsZip s.heap zz ti to .none) (fi : IsPair s.heap ti (.ref j1) (.ref j2)) (fo : IsPair s.heap to a b)
    (r1 : Wlk c s.heap j1 ta m) (r2 : Wlk d s.heap j2 tb n) (k1 : Row c s.heap ta us) (k2 : Row d s.heap tb vs) (fin : us[m]? = none ∨ vs[n]? = none)
    (stop : ∀ g x, (∀ y o, y ≠ zz → y ≠ to → y ≠ j1 → y ≠ j2 → s.heap.get? y = some o → g.get? y = some o) → (∃ o, g.get? x = some o ∧ o.cls = .type "StopIteration") → E (.ref x) { s with heap := g }) :
    wpAny (model prog w) A (Builtin.«zip.__next__» ⟨[.ref zz], []⟩) Q E s := by
  show wpAny _ _ (field (.ref zz) 2 >>= _) _ _ _
  refine wpAny_bind (wpAny_field fz rfl (x := .bool false) rfl ?_)
  show wpAny _ _ (field (.ref zz) 3 >>= _) _ _ _
  refine wpAny_bind (wpAny_field fz rfl (x := .ref ti) rfl ?_)
  refine wpAny_bind (wpAny_seqItems fi rfl ?_)
  show wpAny _ _ (Builtin.SmallTypes.ownedTupleIsFree (.ref zz) >>= _) _ _ _
  refine wpAny_bind ?_
  unfold Builtin.SmallTypes.ownedTupleIsFree
  refine wpAny_bind (wpAny_field fz rfl (x := .none) rfl (wpAny_pure ?_))
  simp only [if_true]
  refine wpAny_bind (wpAny_rule ?_)
  refine wpAny_bind (wpAny_field fz rfl (x := .ref to) rfl ?_)
  refine wpAny_bind (wpAny_setField_rec fz (by simp) fun g1 z1 b1 => ?_)
  replace z1 : IsZip g1 zz ti to .ellipsis := z1
  refine wpAny_bind ?_
  simp only [List.forIn_cons, List.forIn_nil, List.zipIdx_cons, List.zipIdx_nil]
  refine wpAny_bind (wpAny_bind (wpAny_onRaise (show wpAny _ _ (Builtin.SmallTypes.nextOf (.ref j1) >>= _) _ _ _ from ?_)))
  cases hu : us[m]? with
  | none =>
    refine wpAny_bind (step_end (s := { s with heap := g1 }) hh (r1.ext b1.extBut D.i1z) (k1.ext b1.extBut D.l1z) hu fun g2 x b2 hx => ?_)
    obtain ⟨oe, e1, e2⟩ := hx
    have z2 : IsZip g2 zz ti to .ellipsis := b2 _ _ D.i1z.symm z1
    have ne : x ≠ zz := fun y => by subst y; rw [z2] at e1; cases e1; simp at e2
    exact wpAny_setField_rec z2 (by simp) fun g3 _ b3 => stop g3 x (fun y o n1 _ n3 _ e => b3.extBut _ _ n1 (b2 _ _ n3 (b1.extBut _ _ n1 e))) ⟨oe, b3.extBut _ _ ne e1, e2⟩
  | some u =>
    have hv : vs[n]? = none := fin.elim (fun z => by rw [hu] at z; cases z) id
    refine wpAny_bind (step_item (s := { s with heap := g1 }) (r1.ext b1.extBut D.i1z) (k1.ext b1.extBut D.l1z) hu fun g2 y1 b2 => wpAny_pure ?_)
    have o2 : IsPair g2 to a b := b2.extBut _ _ D.TOi1 (b1.extBut _ _ D.TOz fo)
    refine wpAny_bind (wpAny_seqItems o2 rfl (wpAny_bind (wpAny_updateSeq_pair o2 fun g3 o3 b3 => ?_)))
    refine wpAny_bind (wpAny_letGo (wpAny_pure ?_))
    refine wpAny_bind (wpAny_bind (wpAny_onRaise (show wpAny _ _ (Builtin.SmallTypes.nextOf (.ref j2) >>= _) _ _ _ from ?_)))
    refine wpAny_bind (step_end (s := { s with heap := g3 }) hh (((r2.ext b1.extBut D.i2z).ext b2.extBut D.i12.symm).ext b3.extBut D.TOi2.symm) (((k2.ext b1.extBut D.l2z).ext b2.extBut D.l2i1).ext b3.extBut D.l2TO) hv fun g4 x b4 hx => ?_)
    obtain ⟨oe, e1, e2⟩ := hx
    have z4 : IsZip g4 zz ti to .ellipsis := b4 _ _ D.i2z.symm (b3.extBut _ _ D.TOz.symm (b2.extBut _ _ D.i1z.symm z1))
    have ne : x ≠ zz := fun y => by subst y; rw [z4] at e1; cases e1; simp at e2
    exact wpAny_setField_rec z4 (by simp) fun g5 _ b5 => stop g5 x (fun y o n1 n2 n3 n4 e => b5.extBut _ _ n1 (b4 _ _ n4 (b3.extBut _ _ n2 (b2.extBut _ _ n3 (b1.extBut _ _ n1 e))))) ⟨oe, b5.extBut _ _ ne e1, e2⟩
theorem next_item {c d : Bool} {zz ti to j1 j2 ta tb : Addr} {m n : Nat} {us vs : Array Value} {u v a b : Value} {Q : Option Value → Shared → Prop} (D : ZipApart zz ti to j1 j2 ta tb)
    (fz : IsZip s.heap zz ti to .none) (fi : IsPair s.heap ti (.ref j1) (.ref j2)) (fo : IsPair s.heap to a b)
    (r1 : Wlk c s.heap j1 ta m) (r2 : Wlk d s.heap j2 tb n) (k1 : Row c s.heap ta us) (k2 : Row d s.heap tb vs) (eu : us[m]? = some u) (ev : vs[n]? = some v)
    (q : ∀ g, IsZip g zz ti to (rawInt s.heap.objs.size) → IsPair g to u v → Wlk c g j1 ta (m + 1) → Wlk d g j2 tb (n + 1) → IsPair g s.heap.objs.size u v → g.objs.size = s.heap.objs.size + 1 →
      (∀ x o, x ≠ zz → x ≠ to → x ≠ j1 → x ≠ j2 → s.heap.get? x = some o → g.get? x = some o) → Q (some (.ref s.heap.objs.size)) { s with heap := g }) : wpAny (model prog w) A (pyNext (.ref zz)) Q E s := by
  have ty : s.TypeIs (.ref zz) "zip" := ⟨_, fz, rfl⟩
  unfold pyNext
  exact wpAny_bind (wpAny_attempt (wpAny_callSpecial?_slot (name := Str.ofString "__next__") ty F.slot_zip_next (wpAny_call_entry F.slot_zip_next ty F.entry_zip_next
    (mz_item D fz fi fo r1 r2 k1 k2 eu ev fun g c1 c2 c3 c4 c5 c6 c7 => wpAny_pure (q g c1 c2 c3 c4 c5 c6 c7)) (F.args_zip_next_1 _))))
theorem next_end {c d : Bool} {zz ti to j1 j2 ta tb : Addr} {m n : Nat} {us vs : Array Value} {a b : Value} {Q : Option Value → Shared → Prop} (hh : A.handled = none) (D : ZipApart zz ti to j1 j2 ta tb)
    (fz : IsZip s.heap zz ti to .none) (fi : IsPair s.heap ti (.ref j1) (.ref j2)) (fo : IsPair s.heap to a b)
    (r1 : Wlk c s.heap j1 ta m) (r2 : Wlk d s.heap j2 tb n) (k1 : Row c s.heap ta us) (k2 : Row d s.heap tb vs) (fin : us[m]? = none ∨ vs[n]? = none)
    (q : ∀ g, (∀ y o, y ≠ zz → y ≠ to → y ≠ j1 → y ≠ j2 → s.heap.get? y = some o → g.get? y = some o) → Q none { s with heap := g }) : wpAny (model prog w) A (pyNext (.ref zz)) Q E s := by
  have ty : s.TypeIs (.ref zz) "zip" := ⟨_, fz, rfl⟩
  unfold pyNext
  refine wpAny_bind (wpAny_attempt (wpAny_callSpecial?_slot (name := Str.ofString "__next__") ty F.slot_zip_next (wpAny_call_entry F.slot_zip_next ty F.entry_zip_next
    (mz_end hh D fz fi fo r1 r2 k1 k2 fin fun g x kp hx => ?_) (F.args_zip_next_1 _))))
  obtain ⟨oe, e1, e2⟩ := hx
  refine wpAny_bind (wpAny_isInstance (T := "StopIteration") (b := true) ⟨oe, e1, e2⟩ isSubtype_stop ?_)
  exact wpAny_pure (q _ kp)
abbrev mh1 (g : Heap) (ta : Addr) : Heap := g.push { cls := .type "tuple_iterator", data := .fields #[.ref ta, .int 0 0] }
abbrev mh2 (g : Heap) (ta tb : Addr) : Heap := (mh1 g ta).push { cls := .type "list_iterator", data := .fields #[.ref tb, .int 0 0] }
abbrev mh3 (g : Heap) (ta tb : Addr) : Heap := (mh2 g ta tb).push { cls := .type "tuple", data := .seq #[.ref g.objs.size, .ref (mh1 g ta).objs.size] }
abbrev mh4 (g : Heap) (ta tb : Addr) : Heap := (mh3 g ta tb).push { cls := .type "tuple", data := .seq #[.none, .none] }
abbrev mh5 (g : Heap) (ta tb : Addr) : Heap := (mh4 g ta tb).push { cls := .type "zip", data := .fields #[.none, .bool false, .bool false, .ref (mh2 g ta tb).objs.size, .ref (mh3 g ta tb).objs.size] }
theorem new_zip (ta tb : Addr) (us vs : Array Value) :
    Meets (Builtin.«zip.__new__» ⟨[.type "zip", .ref ta, .ref tb], []⟩) (fun _ R s => s.heap.IsTuple ta us ∧ s.heap.IsList tb vs ∧
      R (.ok (.ret (.ref (mh4 s.heap ta tb).objs.size))) { s with heap := mh5 s.heap ta tb }) :=
  .of_wp fun prog w A R s q => by
    obtain ⟨hp, g, d, tk, os⟩ := s; obtain ⟨t1, t2, q⟩ := q
    have sub := sub_zip
    have u1 : Heap.IsTuple (Shared.heap ⟨hp, g, d, tk, os⟩) ta us := t1
    have u2 : Heap.IsList (Shared.heap ⟨hp.push { cls := .type "tuple_iterator", data := .fields #[.ref ta, .int 0 0] }, g, d, tk, os⟩) tb vs := Heap.IsList.push t2 _
    wp_walk using wpAny_pyIter_tuple u1, wpAny_pyIter_list u2
    exact ⟨_, rfl, q⟩
theorem call_zipM {ta tb : Addr} {us vs : Array Value} {Q : Value → Shared → Prop} (t1 : s.heap.IsTuple ta us) (t2 : s.heap.IsList tb vs)
    (q : ∀ g, IsZip g (s.heap.objs.size + 4) (s.heap.objs.size + 2) (s.heap.objs.size + 3) .none → IsPair g (s.heap.objs.size + 2) (.ref s.heap.objs.size) (.ref (s.heap.objs.size + 1)) →
      IsPair g (s.heap.objs.size + 3) .none .none → Wlk true g s.heap.objs.size ta 0 → Wlk false g (s.heap.objs.size + 1) tb 0 → g.objs.size = s.heap.objs.size + 5 →
      (∀ x o, s.heap.get? x = some o → g.get? x = some o) → Q (.ref (s.heap.objs.size + 4)) { s with heap := g }) : wpAny (model prog w) A (call (.type "zip") [.ref ta, .ref tb]) Q E s := by
  refine callType_new F.called_zip (by decide) (F.typeCall_zip_2 _ _) (F.newCall_zip_2 _ _) (fun obj => F.args_object_init_3 obj _ _) F.entry_zip_new (new_zip ta tb us vs) ⟨t1, t2, ?_⟩
  have y1 : (mh1 s.heap ta).objs.size = s.heap.objs.size + 1 := Heap.size_push ..
  have y2 : (mh2 s.heap ta tb).objs.size = s.heap.objs.size + 2 := by rw [Heap.size_push, y1]
  have y3 : (mh3 s.heap ta tb).objs.size = s.heap.objs.size + 3 := by rw [Heap.size_push, y2]
  have y4 : (mh4 s.heap ta tb).objs.size = s.heap.objs.size + 4 := by rw [Heap.size_push, y3]
  have y5 : (mh5 s.heap ta tb).objs.size = s.heap.objs.size + 5 := by rw [Heap.size_push, y4]
  have g5 : (mh5 s.heap ta tb).get? (mh4 s.heap ta tb).objs.size = some _ := Heap.get?_push_size _ rfl
  have g4 : (mh5 s.heap ta tb).get? (mh3 s.heap ta tb).objs.size = some _ := Heap.get?_push_of_some _ (Heap.get?_push_size _ rfl)
  have g3 : (mh5 s.heap ta tb).get? (mh2 s.heap ta tb).objs.size = some _ := Heap.get?_push_of_some _ (Heap.get?_push_of_some _ (Heap.get?_push_size _ rfl))
  have g2 : (mh5 s.heap ta tb).get? (mh1 s.heap ta).objs.size = some _ := Heap.get?_push_of_some _ (Heap.get?_push_of_some _ (Heap.get?_push_of_some _ (Heap.get?_push_size _ rfl)))
  have g1 : (mh5 s.heap ta tb).get? s.heap.objs.size = some _ := Heap.get?_push_of_some _ (Heap.get?_push_of_some _ (Heap.get?_push_of_some _ (Heap.get?_push_of_some _ (Heap.get?_push_size _ rfl))))
  show _ ∧ _
  rw [y2, y3, y4] at g5
  rw [y1, y2] at g3
  rw [y3] at g4
  rw [y1] at g2
  rw [y4]
  exact ⟨⟨_, g5, rfl⟩, q _ g5 g3 g4 ⟨_, g1, rfl, rfl⟩ ⟨_, g2, rfl, rfl⟩ y5 fun x o e => Heap.get?_push_of_some _ (Heap.get?_push_of_some _ (Heap.get?_push_of_some _ (Heap.get?_push_of_some _ (Heap.get?_push_of_some _ e))))⟩
end
/-- the tuple at a, the list at b, their items in new pairs -/
def Itm (K : PySem.W.Frag) (a b : Addr) : It :=
  ⟨fun i H => ∃ (xs ys : List V) (x y : V), SqT K H a xs ∧ SqL K H b ys ∧ xs[i]? = some x ∧ ys[i]? = some y,
    fun i H v H' => ∃ T x y, v = .ref T ∧ H T = none ∧ H' = upd H T (.tup [x, y]) ∧ (∀ xs, SqT K H a xs → xs[i]? = some x) ∧ ∀ ys, SqL K H b ys → ys[i]? = some y,
    fun i H => ∃ xs ys : List V, SqT K H a xs ∧ SqL K H b ys ∧ (xs.length ≤ i ∨ ys.length ≤ i)⟩
theorem turn_m {P : Program} {w : World} {K : PySem.W.Frag} {elts : List Expr} {kk : Nat} {tpos : Pos} {a b zz ti to j1 j2 : Addr} (D : ZipApart zz ti to j1 j2 a b) :
    Turn P w K (.Tuple elts kk tpos) (Itm K a b) [zz, ti, to, j1, j2] zz (fun i g => IsZip g zz ti to .none ∧ IsPair g ti (.ref j1) (.ref j2) ∧ (∃ x y, IsPair g to x y) ∧ Wlk true g j1 a i ∧ Wlk false g j2 b i) where
  mem := by simp
  obj := fun i g st c hc => by
    obtain ⟨q1, q2, ⟨x, y, q3⟩, q4, q5⟩ := st
    have e' : c = zz ∨ c = ti ∨ c = to ∨ c = j1 ∨ c = j2 := by simpa using hc
    rcases e' with q | q | q | q | q
    · rw [q]; exact ⟨_, q1, fun v z => nomatch z⟩
    · rw [q]; exact ⟨_, q2, fun v z => nomatch z⟩
    · rw [q]; exact ⟨_, q3, fun v z => nomatch z⟩
    · rw [q]; exact Wlk.there q4
    · rw [q]; exact Wlk.there q5
  keep := fun i g g' st k => by
    obtain ⟨q1, q2, ⟨x, y, q3⟩, q4, q5⟩ := st
    exact ⟨k zz (by simp) _ q1, k ti (by simp) _ q2, ⟨x, y, k to (by simp) _ q3⟩, q4.at fun o q => k j1 (by simp) o q, q5.at fun o q => k j2 (by simp) o q⟩
  item := by
    intro X hP hw hK hc i pins s σ H E I hf st hg
    subst hP hw hK
    obtain ⟨q1, q2, ⟨x0, y0, q3⟩, q4, q5⟩ := st
    obtain ⟨xs, ys, x, y, hqx, hqy, hx, hy⟩ := hg
    obtain ⟨us, rv, p, _⟩ := I.tuple hqx
    obtain ⟨vs, rv2, p2, _⟩ := I.list hqy
    obtain ⟨u, hu, ru⟩ := rv.get hx
    obtain ⟨v, hv, rv'⟩ := rv2.get hy
    have lz : zz < s.heap.objs.size := Heap.lt_size q1
    refine next_item (c := true) (d := false) D q1 q2 q3 q4 q5 p p2.isList (u := u) (v := v) (by simpa using hu) (by simpa using hv) fun g c1 c2 c3 c4 c5 c6 c7 => ?_
    refine ⟨_, rfl, wpAny_letOwnedTupleGo_zip (s := { s with heap := g }) c1 fun g' c8 sb => ?_⟩
    have c9 : g'.get? s.heap.objs.size = some { cls := .type "tuple", data := .seq #[u, v] } := (sb.2 _ (Nat.ne_of_gt lz)).trans c5
    have new : ObjOk X.prog X.w (upd H s.heap.objs.size (.tup [x, y])) g' s.heap.objs.size (.tup [x, y]) := ⟨by show 2 ≤ sizeLine; decide, [u, v], .cons ru (.cons rv' .nil), ⟨_, c9, rfl, _, rfl⟩⟩
    have I1 : Inv X pins σ (upd H s.heap.objs.size (.tup [x, y])) { s with heap := g' } :=
      I.turnedNew (t' := s.toks) (ch := [zz, ti, to, j1, j2]) (fun e o hb q => (sb.2 e (fun z => hb (by simp [z]))).trans (c7 e o (fun z => hb (by simp [z])) (fun z => hb (by simp [z])) (fun z => hb (by simp [z])) (fun z => hb (by simp [z])) q)) hf (Nat.le_refl _) new
    refine ⟨.ref s.heap.objs.size, _, I1, rfl, ⟨_, x, y, rfl, I.hok.fresh (Nat.le_refl _), rfl, fun l hl => by rw [I.tuple_inj hl hqx]; exact hx, fun l hl => by rw [I.list_inj hl hqy]; exact hy⟩, ⟨c8, ?_, ⟨u, v, ?_⟩, ?_, ?_⟩, fun e hcm => ?_⟩
    · exact (sb.2 _ D.TIz).trans (c7 _ _ D.TIz D.TITO D.TIi1 D.TIi2 q2)
    · exact (sb.2 _ D.TOz).trans c2
    · exact c3.at fun o q => (sb.2 _ D.i1z).trans q
    · exact c4.at fun o q => (sb.2 _ D.i2z).trans q
    · have hlt : e < s.heap.objs.size := by
        have e' : e = zz ∨ e = ti ∨ e = to ∨ e = j1 ∨ e = j2 := by simpa using hcm
        rcases e' with q | q | q | q | q
        · rw [q]; exact lz
        · rw [q]; exact Heap.lt_size q2
        · rw [q]; exact Heap.lt_size q3
        · rw [q]; exact Wlk.lt q4
        · rw [q]; exact Wlk.lt q5
      rw [upd_ne (Nat.ne_of_lt hlt)]
      exact (hf e hcm).1
  done := by
    intro X hP hw hK hc i pins s σ H E I hf st hg
    subst hP hw hK
    obtain ⟨q1, q2, ⟨x0, y0, q3⟩, q4, q5⟩ := st
    obtain ⟨xs, ys, hqx, hqy, hend⟩ := hg
    obtain ⟨us, rv, p, _⟩ := I.tuple hqx
    obtain ⟨vs, rv2, p2, _⟩ := I.list hqy
    have l1 := rv.length
    have l2 := rv2.length
    have fin : us.toArray[i]? = none ∨ vs.toArray[i]? = none := by
      rcases hend with q | q
      · exact .inl (by simp; omega)
      · exact .inr (by simp; omega)
    exact next_end (c := true) (d := false) (I.ok.hd hc) D q1 q2 q3 q4 q5 p p2.isList fin fun g kp => ⟨rfl, I.turnedL (t' := s.toks) (ch := [zz, ti, to, j1, j2]) (fun e o hb q =>
      kp e o (fun z => hb (by simp [z])) (fun z => hb (by simp [z])) (fun z => hb (by simp [z])) (fun z => hb (by simp [z])) q) hf⟩
  self := fun A i s Q E st h => wpAny_pyIter_zip st.1 h
def iZipM (K : PySem.W.Frag) (ta : TA) : TI := fun σ H R => ta σ H fun vs H1 => ∃ a b xs ys, vs = [.ref a, .ref b] ∧ SqT K H1 a xs ∧ SqL K H1 b ys ∧ R (Itm K a b) H1
theorem pi_zipM {X : Cx} {e e2 : Expr} {ta : TA} {p pos tpos : Pos} {elts : List Expr} {kk : Nat} (hg : Gl X "zip") (hm : X.mg "zip" = none) (ha : PA X [e, e2] ta)
    (hs : starEach [e, e2] X.env = (false, eval e X.env) :: starEach [e2] X.env := by rfl) (hpl : (backTo pos (starEach [e2] X.env)).any (·.1) = false := by rfl) :
    PI X (.Tuple elts kk tpos) (.Call (.Name "zip" p) [e, e2] [] pos) (iZipM X.K ta) := by
  refine ⟨fun pins s σ H R I h => ?_⟩
  refine Call_ (ld_blt I hg hm PyProof.Rows.boot_zip (PyProof.Rows.callWith_type1 (thn (ha.run pos pins s σ H _ I h) fun ws s1 ⟨vs, H1, I1, rw1, qw⟩ => ?_) hs hpl))
  obtain ⟨a, b, xs, ys, ex, hqx, hqy, q⟩ := qw
  subst ex
  cases rw1 with
  | cons r rr =>
    cases rr with
    | cons r' rr =>
      cases rr
      cases r
      cases r'
      obtain ⟨its, rv, p1, _⟩ := I1.tuple hqx
      obtain ⟨its2, rv2, p2, _⟩ := I1.list hqy
      obtain ⟨o1, ho1, _⟩ := id p1
      refine call_zipM (show s1.heap.IsTuple a its.toArray from p1) p2.isList fun g cz ci co r1 r2 cs kp => wpAny_pyIter_zip cz ?_
      have I2 : Inv X pins σ H1 { s1 with heap := g } := I1.kept (t' := s1.toks) kp
      refine ⟨s1.heap.objs.size + 4, [s1.heap.objs.size + 4, s1.heap.objs.size + 2, s1.heap.objs.size + 3, s1.heap.objs.size, s1.heap.objs.size + 1], _, _, H1, rfl, I2, turn_m (PySem.W.ktu_apart s1.heap.objs.size a b (Heap.lt_size ho1) p2.lt), ⟨cz, ci, ⟨_, _, co⟩, r1, r2⟩, fun x hcm => ?_, q⟩
      have hle : s1.heap.objs.size ≤ x := by
        simp only [List.mem_cons, List.not_mem_nil, or_false] at hcm
        rcases hcm with z | z | z | z | z <;> rw [z] <;> omega
      exact I1.fpOk hle (I1.hok.fresh hle)
/-- a loop over such a zip, both of one length -/
theorem for_zipM {K : PySem.W.Frag} {a b : Addr} {xs ys : List V} {g : TG} {tb : TS} {D : Ends} {σ : L2.St} {H : Hp} (hl : xs.length = ys.length) (Pv : Nat → L2.St → Hp → Prop) (h0 : Pv 0 σ H) (hq : ∀ i σ H, Pv i σ H → SqT K H a xs ∧ SqL K H b ys)
    (hs : ∀ (i : Nat) (x y : V) (T : Addr) (σ : L2.St) (H : Hp), xs[i]? = some x → ys[i]? = some y → Pv i σ H → H T = none → g (.ref T) σ (upd H T (.tup [x, y])) fun σ2 H2 => tb { D with nx := Pv (i + 1), ct := Pv (i + 1), bk := D.nx } σ2 H2) (hd : ∀ σ H, Pv xs.length σ H → D.nx σ H) :
    ∃ W : Nat → Nat → L2.St → Hp → Prop, (∃ m, W 0 m σ H) ∧ ∀ i m σ H, W i m σ H →
      ((Itm K a b).stop i H ∧ D.nx σ H) ∨ ((Itm K a b).go i H ∧ ∃ N : L2.St → Hp → Prop, (∀ σ' H', N σ' H' → ∃ m', m' < m ∧ W (i + 1) m' σ' H') ∧ ∀ v H', (Itm K a b).yld i H v H' → g v σ H' fun σ2 H2 => tb { D with nx := N, ct := N, bk := D.nx } σ2 H2) := by
  refine ⟨fun i m σ H => m = xs.length - i ∧ i ≤ xs.length ∧ Pv i σ H, ⟨xs.length, rfl, Nat.zero_le _, h0⟩, ?_⟩
  rintro i m σ H ⟨rfl, hi, p⟩
  obtain ⟨qx, qy⟩ := hq i σ H p
  rcases Nat.lt_or_ge i xs.length with lt | ge
  · refine .inr ⟨⟨xs, ys, xs[i], ys[i]'(by omega), qx, qy, List.getElem?_eq_getElem lt, List.getElem?_eq_getElem (by omega)⟩, Pv (i + 1), fun σ' H' p' => ⟨xs.length - (i + 1), by omega, rfl, lt, p'⟩, fun v H' hy => ?_⟩
    obtain ⟨T, x', y', rfl, hT, rfl, f1, f2⟩ := hy
    exact hs i x' y' T σ H (f1 xs qx) (f2 ys qy) p hT
  · have e : i = xs.length := by omega
    subst e
    exact .inl ⟨⟨xs, ys, qx, qy, .inl (Nat.le_refl _)⟩, hd σ H p⟩
end Mix

set_option Elab.async false
set_option linter.all false
set_option maxRecDepth 100000
set_option maxHeartbeats 4000000
/-! Part P: own rules: t[::-1] of a tuple, names += more of tuples, sorted of texts and of dicts, the order of texts. -/
namespace Toy
open PySem PySem.Spec PyProof.Rows L2
/-! ### t[::-1], t a tuple -/
section
variable {prog : Program} {w : World} {A : Around} {E : Value → Shared → Prop} {s : Shared}
theorem rev_adjust (n : Nat) : Builtin.Slice.sliceAdjust none none (-1) (n : Int) = ((n : Int) - 1, -1) := by
  first
    | rfl
    | simp [Builtin.Slice.sliceAdjust]
theorem rev_places (n : Nat) : Builtin.Slice.slicePlaces ((n : Int) - 1) (-1) (-1) = n := by
  unfold Builtin.Slice.slicePlaces
  by_cases h : n = 0
  · subst h
    decide
  · simp
    omega
theorem sliceApplied_rev {sl : Addr} {tk : Tok} {n : Nat} {Q : Int × Int × Nat → Shared → Prop} (hs : s.heap.IsSliceOf sl .none .none (.int (-1) tk))
    (h : Q ((n : Int) - 1, -1, n) s) : wpAny (model prog w) A (Builtin.Slice.sliceApplied (.ref sl) (pure (n : Int))) Q E s := by
  obtain ⟨os, hos, hcs, hds⟩ := id hs
  unfold Builtin.Slice.sliceApplied Builtin.Slice.sliceFields
  refine wpAny_bind (wpAny_bind (wpAny_field hos hds (x := .none) rfl (wpAny_bind (wpAny_field hos hds (x := .none) rfl (wpAny_bind (wpAny_field hos hds (x := .int (-1) tk) rfl (wpAny_pure ?_)))))))
  refine wpAny_bind (HT.slicePart_ (.int (-1) tk) ?_)
  show wpAny _ _ (if ((-1 : Int) == 0) = true then _ else _) _ _ s
  rw [if_neg (by decide)]
  refine wpAny_bind (HT.slicePart_ .none (wpAny_bind (HT.slicePart_ .none (wpAny_bind (wpAny_pure ?_)))))
  show wpAny _ _ (match Builtin.Slice.sliceAdjust none none (-1) (n : Int) with | (lo, hi) => pure (lo, (-1 : Int), Builtin.Slice.slicePlaces lo hi (-1))) _ _ s
  rw [rev_adjust n]
  show wpAny _ _ (pure ((n : Int) - 1, (-1 : Int), Builtin.Slice.slicePlaces ((n : Int) - 1) (-1) (-1))) _ _ s
  rw [rev_places]
  exact wpAny_pure h
theorem fm_congr {α β : Type} {f g : α → Option β} : ∀ {l : List α}, (∀ x ∈ l, f x = g x) → l.filterMap f = l.filterMap g
  | [], _ => rfl
  | a :: l, h => by
    rw [List.filterMap_cons, List.filterMap_cons, h a (List.mem_cons_self ..), fm_congr fun x hx => h x (List.mem_cons_of_mem _ hx)]
theorem pick_rev (xs : Array Value) : ((List.range xs.size).filterMap fun (m : Nat) => xs[((xs.size : Int) - 1 + (m : Int) * -1).toNat]?).toArray = xs.toList.reverse.toArray := by
  congr 1
  have e1 : ((List.range xs.size).filterMap fun (m : Nat) => xs[((xs.size : Int) - 1 + (m : Int) * -1).toNat]?) = ((List.range xs.size).map fun k => xs.size - 1 - k).filterMap (xs[·]?) := by
    rw [List.filterMap_map]
    refine fm_congr fun m hm => ?_
    have hm' := List.mem_range.mp hm
    show xs[((xs.size : Int) - 1 + (m : Int) * -1).toNat]? = xs[xs.size - 1 - m]?
    rw [show ((xs.size : Int) - 1 + (m : Int) * -1).toNat = xs.size - 1 - m by omega]
  rw [e1, PySem.W.krv_range, List.filterMap_reverse, PySem.W.krv_all]
theorem getItem_tuple_rev {t sl : Addr} {items : Array Value} {tk : Tok} {Q : Value → Shared → Prop} (ht : IsTup s.heap t items) (hs : s.heap.IsSliceOf sl .none .none (.int (-1) tk))
    (h : Q (.ref s.heap.objs.size) { s with heap := s.heap.push { cls := .type "tuple", data := .seq items.toList.reverse.toArray } }) (hsz : items.size ≤ sizeLine) : wpAny (model prog w) A (getItem (.ref t) (.ref sl)) Q E s := by
  have htake : sizeOk (.seq items.toList.reverse.toArray) := by
    show items.toList.reverse.toArray.size ≤ sizeLine
    rw [List.size_toArray, List.length_reverse, Array.length_toList]
    exact hsz
  obtain ⟨os, hos, hcs, hds⟩ := id hs
  have hTs : s.TypeIs (.ref sl) "slice" := ⟨os, hos, hcs⟩
  unfold getItem
  try with_reducible refine wpAny_holding ?_
  first | refine wpAny_bind (wpAny_pure ?_) | skip
  refine wpAny_bind (wpAny_sequenceKey ht.typeIs (by decide) ?_)
  refine wpAny_bind (wpAny_callSpecial?_slot (name := Str.ofString "__getitem__") ht.typeIs PyProof.Rows.slot_tuple_getitem
    (wpAny_call_entry PyProof.Rows.slot_tuple_getitem ht.typeIs entry_tuple_getitem ?_ (args_tuple_getitem _ _)))
  show wpAny _ _ (Builtin.Tuple.tupleItemsOf (.ref t) >>= _) _ _ s
  refine wpAny_bind (tupleItemsOf_ ht ?_)
  refine wpAny_bind (wpAny_typeOf hTs ?_)
  rw [if_pos (by decide)]
  refine wpAny_bind (sliceApplied_rev hs ?_)
  have hno : ¬ ((((items.size : Int) - 1) == 0 && (-1 : Int) == 1 && items.size == items.size) = true) := by
    intro q
    rw [Bool.and_eq_true, Bool.and_eq_true] at q
    exact absurd q.1.2 (by decide)
  show wpAny _ _ (if (((items.size : Int) - 1) == 0 && (-1 : Int) == 1 && items.size == items.size) = true then _ else _) _ _ s
  rw [if_neg hno, pick_rev]
  first
    | exact wpAny_bind (m := Builtin.Tuple.tupleExact _) (wpAny_newObj_type (wpAny_pure ⟨_, rfl, wpAny_pure h⟩) htake)
    | exact wpAny_bind (m := Builtin.Tuple.tupleExact _) (wpAny_newObj_type (wpAny_bind (wpAny_pure (wpAny_pure ⟨_, rfl, wpAny_pure h⟩))) htake)
    | exact wpAny_bind (wpAny_bind (m := Builtin.Tuple.tupleExact _) (wpAny_newObj_type (wpAny_pure (wpAny_pure ⟨_, rfl, wpAny_pure h⟩)) htake))
    | exact wpAny_bind (wpAny_bind (m := Builtin.Tuple.tupleExact _) (wpAny_newObj_type (wpAny_pure ⟨_, rfl, wpAny_pure h⟩) htake))
end
section
variable {X : Cx} {e st : Expr} {te ts : TE} {p2 pos : Pos}
/-- t[::st], where st is -1 and t a tuple -/
def tRev (K : PySem.W.Frag) (te ts : TE) : TE := fun σ H Q => te σ H fun x H1 => ts σ H1 fun k H2 => k = .int (-1) ∧ ∃ a xs, x = .ref a ∧ SqT K H2 a xs ∧ ∀ p, H2 p = none → Q (.ref p) (upd H2 p (.tup xs.reverse))
theorem pe_rev {ops : Addr → Addr → List Value} (he : PE X e te) (hst : PE X st ts) (hops : ∀ a b : Addr, subscripted (.Slice none none (some st) p2) false (.ref a) (.ref b) = operate (ops a b) (getItem (.ref a) (.ref b))) : PE X (.Subscript e (.Slice none none (some st) p2) pos) (tRev X.K te ts) := by
  refine ⟨fun pins s σ H Q I h => ?_⟩
  refine Subscript_ (thn (he.run pins s σ H _ I h) fun v s1 ⟨x, H1, I1, r1, q1⟩ => ?_)
  refine wpAny_Slice ?_
  rw [evalPart_none]
  refine wpAny_pure ?_
  refine wpAny_pure ?_
  rw [evalPart_some]
  refine thn (hst.run pins s1 σ H1 _ I1 q1) fun vk s3 ⟨k, H3, I3, rk, ek, a, xs, ex, hx, q⟩ => ?_
  subst ek ex
  obtain ⟨tk, rfl⟩ := rk
  cases r1
  have I4 : Inv X pins σ H3 { s3 with heap := s3.heap.push { cls := .type "slice", data := .fields #[.none, .none, .int (-1) tk] } } := I3.kept (t' := s3.toks) fun b ob q => Heap.get?_push_of_some _ q
  obtain ⟨its, r, ht, hz⟩ := I4.tuple hx
  have hlen : its.toArray.size = xs.length := by rw [List.size_toArray]; exact r.length.symm
  show wpAny (model X.prog X.w) X.A (subscriptTail e (.Slice none none (some st) p2) (.ref a) (.ref s3.heap.objs.size)) (EP X pins σ Q) X.xe { s3 with heap := s3.heap.push { cls := .type "slice", data := .fields #[.none, .none, .int (-1) tk] } }
  refine tail_any (ops := ops a s3.heap.objs.size) ht.typeIs PyProof.Rows.slot_tuple_getitem.lookup (getItem_tuple_rev ht (Heap.IsSliceOf.new ..) ?_ (by rw [hlen]; exact hz)) (hops _ _)
  refine ⟨.ref _, _, I4.laid (t' := s3.toks) (o := .tup xs.reverse) (fun b ob q => Heap.get?_push_of_some _ q) (Nat.le_refl _) ?_, rfl, q _ (I4.hok.fresh (Nat.le_refl _))⟩
  exact ⟨by rw [List.length_reverse]; exact hz, _, r.reverse, IsTup.new _ _⟩
end
example {X : Cx} {e : Expr} {te : TE} {p1 p2 p3 p4 : Pos} (he : PE X e te) : ∃ t, PE X (.Subscript e (.Slice none none (some (.UnaryOp .USub (.Constant (.int 1) 0 p1) p2)) p3) p4) t := ⟨_, pe_rev he (pe_un un_neg pe_int) (fun _ _ => by with_unfolding_all rfl)⟩

/-! ### t += u -/
theorem no_iadd_tup : typeLookup (.type "tuple") (dunderI "add") = pure none := by rw [typeLookup_type, builtinLookup_eq_fast] <;> kernel_rfl
section
variable {prog : Program} {w : World} {A : Around} {E : Value → Shared → Prop} {s : Shared}
theorem iadd_tup {t b : Addr} {us vs : List Value} {Q : Value → Shared → Prop} (p1 : IsTup s.heap t us.toArray) (p2 : IsTup s.heap b vs.toArray) (q0 : us = [] → Q (.ref b) s) (q1 : us ≠ [] → vs = [] → Q (.ref t) s)
    (q2 : us ≠ [] → vs ≠ [] → Q (.ref s.heap.objs.size) { s with heap := s.heap.push { cls := .type "tuple", data := .seq (us ++ vs).toArray } }) (sz : us.length + vs.length ≤ sizeLine) : wpAny (model prog w) A (inplaceOp .Add (.ref t) (.ref b)) Q E s := by
  obtain ⟨⟨cl1, d1, dt1, sl1⟩, o1, c1, n1, e1⟩ := id p1
  obtain ⟨⟨cl2, d2, dt2, sl2⟩, o2, c2, n2, e2⟩ := id p2
  simp only at c1 c2 e1 e2
  subst c1 e1 c2 e2
  have ty1 : s.TypeIs (.ref t) "tuple" := ⟨_, o1, rfl⟩
  refine PySem.wpAny_inplaceOp_concat ty1 ⟨_, o2, rfl⟩ no_iadd_tup noFill_tuple_add seq_tuple_add ?_
  by_cases h1 : us = []
  · exact call_meets PySem.F.slot_tuple_add ty1 PySem.F.entry_tuple_add (PySem.F.args_tuple_add_2 _ _) (tuple_addW0 t b us.toArray vs.toArray n1 n2 d1 d2 sl1 sl2 (by simp [h1])) ⟨o1, o2, q0 h1⟩
  · by_cases h2 : vs = []
    · exact call_meets PySem.F.slot_tuple_add ty1 PySem.F.entry_tuple_add (PySem.F.args_tuple_add_2 _ _) (tuple_addW1 t b us.toArray vs.toArray n1 n2 d1 d2 sl1 sl2 (by simpa using h1) (by simp [h2])) ⟨o1, o2, q1 h1 h2⟩
    · refine call_meets PySem.F.slot_tuple_add ty1 PySem.F.entry_tuple_add (PySem.F.args_tuple_add_2 _ _) (tuple_addW2 t b us.toArray vs.toArray n1 n2 d1 d2 sl1 sl2 (by simpa using h1) (by simpa using h2) (by rw [List.size_toArray, List.size_toArray]; exact sz)) ⟨o1, o2, ?_⟩
      rw [show us.toArray ++ vs.toArray = (us ++ vs).toArray by simp]
      exact q2 h1 h2
end
theorem ip_catA {X : Cx} : PIp X .Add (rCatA X.K) := by
  intro pins s σ H x y v u Q I rx ry h
  obtain ⟨a, b, xs, ys, rfl, rfl, ha, hb, hz, q0, q1, q2⟩ := h
  cases rx
  cases ry
  obtain ⟨its, r1, p1, _⟩ := I.tuple ha
  obtain ⟨its2, r2, p2, _⟩ := I.tuple hb
  refine iadd_tup p1 p2 (fun z => ⟨.ref b, H, I, rfl, q0 (r1.nil_iff.mp z)⟩) (fun z1 z2 => ⟨.ref a, H, I, rfl, q1 (fun e => z1 (r1.nil_iff.mpr e)) (r2.nil_iff.mp z2)⟩) (fun z1 z2 => ?_) (by rw [← r1.length, ← r2.length]; exact hz)
  refine ⟨.ref s.heap.objs.size, _, I.laid (t' := s.toks) (o := .tup (xs ++ ys)) (fun b ob q => Heap.get?_push_of_some _ q) (Nat.le_refl _) ?_, rfl, q2 (fun e => z1 (r1.nil_iff.mpr e)) (fun e => z2 (r2.nil_iff.mpr e)) _ (I.hok.fresh (Nat.le_refl _))⟩
  exact ⟨by rw [List.length_append]; exact hz, _, r1.append r2, IsTup.new _ _⟩

/-! ### sorted(d), d a dict with any number of texts as keys -/
theorem sorted_dAny {X : Cx} (hcalm : X.calm = true) : CallR X (.builtin "sorted") (fun xs H Q => ∃ (a : Addr) (kvs : List (Key × V)) (ks : List Str), xs = [.ref a] ∧ Rd H a (.dK kvs) ∧ kvs.map (·.1) = ks.map Sum.inr ∧
    ∀ ys p, ys.Perm ks → sortedS ys = true → H p = none → Q (.ref p) (upd H p (.lst (ys.map V.str)))) := by
  intro pins s σ H xs us Q I r q
  obtain ⟨a, kvs, ks, ex, hd, hks, q⟩ := q
  subst ex
  obtain ⟨u, eu, rx⟩ := vals1 r
  subst eu
  cases rx
  obtain ⟨z, lo, vs, rel, dd⟩ := dk_rd I.hok hd
  obtain ⟨ep, dat⟩ := dd.dictAt
  have keys : vs.map (·.1) = ks.map Sum.inr := rel.keys.symm.trans hks
  have len : vs.length = ks.length := by
    have e := congrArg List.length keys
    rwa [List.length_map, List.length_map] at e
  have fits : vs.length ≤ sizeLine := by rw [← rel.length]; exact z
  refine Calls.call_function_entry kind_sorted plain_sorted entry_sorted (args_sorted1 _) ?_
  unfold Builtin.«sorted»
  refine wpAny_bind (m := checkCount "sorted" 1 1 _) (wpAny_pure ?_)
  refine wpAny_bind (PySem.W.kdu_collect (A := X.A.in1) (PySem.W.kdl_dict (knd := mixKind X.prog X.w) (kvs := vs) (ep := ep) lo) (I.ok.hd hcalm) dat fits fun g tk acc kp hacc => ?_)
  have alen : acc.toList.length = ks.length := by rw [Array.length_toList, hacc.1, len]
  have afit : acc.toList.length ≤ sizeLine := by omega
  have aS : StrsAre acc.toList ks := strs_at alen fun j v e => by
    obtain ⟨k, x, e1, e2⟩ := hacc.2 j v (by rw [← Array.getElem?_toList]; exact e)
    have e3 : (vs.map (·.1))[j]? = some k := by rw [List.getElem?_map, e1] <;> rfl
    rw [keys, List.getElem?_map] at e3
    cases e4 : ks[j]? with
    | none => rw [e4] at e3; cases e3
    | some y =>
      rw [e4] at e3
      obtain rfl : Sum.inr y = k := Option.some.inj e3
      obtain ⟨t, ev⟩ := Value.isStrOf_shape (x := y) (v := v) e2
      exact ⟨y, t, rfl, ev⟩
  have I1 : Inv X pins σ H { s with heap := g, toks := tk } := I.kept kp
  refine wpAny_bind (wpAny_newList ?_ afit)
  have at1 : (g.push (seqObj "list" acc.toList.toArray 0)).get? g.objs.size = some (seqObj "list" acc.toList.toArray 0) := Heap.get?_push_size _ rfl
  show wpAny _ _ _ _ _ { s with heap := g.push (seqObj "list" acc.toList.toArray 0), toks := tk }
  refine wpAny_bind (wpAny_holding (wpAny_call_entry slot_list_sort ⟨_, at1, rfl⟩ entry_list_sort
    (list_sort_treeKAny strKind_oneLt (s := { s with heap := g.push (seqObj "list" acc.toList.toArray 0), toks := tk }) at1 aS.keysOf (fun v₁ v₂ rest e => keyKind_strs (by rw [← e]; exact aS)) afit fun st' hp hs => ⟨_, rfl, ?_⟩)
    (args_list_sort _)))
  obtain ⟨ys, g1, g2, g3⟩ := sorted_out_str aS hp hs
  obtain ⟨e', he'⟩ := sortedHeap_at (vs := acc.toList) (out := (arrOf st').map (·.2)) at1
  have ylen : (ys.map V.str).length ≤ sizeLine := by rw [List.length_map, g2.length_eq]; omega
  refine wpAny_pure ⟨_, rfl, .ref g.objs.size, upd H g.objs.size (.lst (ys.map V.str)), I1.laid (t' := tk) (fun b u e => ?_) (Nat.le_refl _)
    (show ObjOk X.prog X.w _ _ _ (.lst (ys.map V.str)) from ⟨ylen, ((arrOf st').map (·.2)).toList, e', vals_of_strs g1, by rw [Array.toArray_toList]; exact he'⟩), rfl, q ys _ g2 g3 (I1.hok.fresh (Nat.le_refl _))⟩
  have hb : b < g.objs.size := Heap.lt_size e
  rw [sortedHeap_old (Nat.ne_of_lt hb) (by rw [size_push']; exact Nat.lt_succ_of_lt hb)]
  exact Heap.get?_push_of_some _ e

/-! ### sorted(l) -/
def rSortedSA (K : PySem.W.Frag) : List V → Hp → VK → Prop := fun vs H Q => ∃ (a : Addr) (xs : List Str), vs = [V.ref a] ∧ SqL K H a (xs.map V.str) ∧
  ∀ (ys : List Str) (p : Addr), ys.Perm xs → sortedS ys = true → H p = none → Q (.ref p) (upd H p (.lst (ys.map V.str)))
theorem cr_sortedSA {X : Cx} : CallR X (.builtin "sorted") (rSortedSA X.K) := by
  intro pins s σ H vs us Q I r h
  obtain ⟨a, xs, rfl, hs, q⟩ := h
  obtain ⟨its, rv, hl, hz⟩ := I.list hs
  rw [Vals.ref1 r]
  have hlen0 := rv.length
  rw [List.length_map] at hlen0
  rw [List.length_map] at hz
  refine PyProof.Rows.sorted_strsAny hl.isList rv.strs (by rw [← hlen0]; exact hz) fun out ys h1 h2 h3 => ?_
  obtain ⟨ep, he'⟩ := PyProof.Rows.sortedAll_at s.heap its out
  have hlen : (ys.map V.str).length ≤ sizeLine := by rw [List.length_map, h2.length_eq]; exact hz
  exact ⟨.ref _, upd H (s.heap.objs.size + 1) (.lst (ys.map V.str)), I.laid (t' := s.toks) (fun _ _ => PyProof.Rows.sortedAll_old) (Nat.le_succ _) ⟨hlen, out.toList, ep, vals_of_strs h1, he'⟩, rfl, q ys _ h2 h3 (I.hok.fresh (Nat.le_succ _))⟩
/-! ### the order of texts -/
def lts (a b : Str) : Bool := ltCps a.cps.toList b.cps.toList
theorem cps_asym : ∀ a b : List Nat, ltCps a b = true → ltCps b a = false
  | [], [], h => by cases h
  | [], _ :: _, _ => rfl
  | _ :: _, [], h => by cases h
  | a :: r, b :: t, h => by
    simp only [ltCps, Bool.or_eq_true, Bool.and_eq_true, decide_eq_true_eq, beq_iff_eq, Bool.or_eq_false_iff, Bool.and_eq_false_iff, decide_eq_false_iff_not, beq_eq_false_iff_ne] at h ⊢
    rcases h with h | ⟨h1, h2⟩
    · exact ⟨by omega, .inl (by omega)⟩
    · exact ⟨by omega, .inr (cps_asym r t h2)⟩
theorem cps_tri : ∀ a b : List Nat, ltCps a b = false → ltCps b a = false → a = b
  | [], [], _, _ => rfl
  | [], _ :: _, h, _ => by cases h
  | _ :: _, [], _, h => by cases h
  | a :: r, b :: t, h, k => by
    simp only [ltCps, Bool.or_eq_false_iff, Bool.and_eq_false_iff, decide_eq_false_iff_not, beq_eq_false_iff_ne] at h k
    have e : a = b := by omega
    subst e
    have h2 : ltCps r t = false := h.2.elim (fun z => absurd rfl z) id
    have k2 : ltCps t r = false := k.2.elim (fun z => absurd rfl z) id
    rw [cps_tri r t h2 k2]
/-- not above, twice -/
theorem cps_trans : ∀ a b c : List Nat, ltCps b a = false → ltCps c b = false → ltCps c a = false
  | [], _, c, _, _ => by cases c <;> rfl
  | _ :: _, [], _, h, _ => by cases h
  | _ :: _, _ :: _, [], _, h => by cases h
  | a :: r, b :: t, c :: u, h, k => by
    simp only [ltCps, Bool.or_eq_false_iff, Bool.and_eq_false_iff, decide_eq_false_iff_not, beq_eq_false_iff_ne] at h k ⊢
    refine ⟨by omega, ?_⟩
    by_cases e : c = a
    · subst e
      have e2 : b = c := by omega
      subst e2
      exact .inr (cps_trans r t u (h.2.elim (fun z => absurd rfl z) id) (k.2.elim (fun z => absurd rfl z) id))
    · exact .inl e
theorem lts_asym {a b : Str} (h : lts a b = true) : lts b a = false := cps_asym _ _ h
theorem str_cps {a b : Str} (h : a.cps.toList = b.cps.toList) : a = b := by
  cases a with
  | mk x =>
    cases b with
    | mk y =>
      have e : x = y := Array.ext' h
      rw [e]
theorem lts_tri {a b : Str} (h : lts a b = false) (k : lts b a = false) : a = b := str_cps (cps_tri _ _ h k)
theorem lts_trans {a b c : Str} (h : lts b a = false) (k : lts c b = false) : lts c a = false := cps_trans _ _ _ h k
/-- rising, no two of them the same -/
def Up (l : List Str) : Prop := l.Pairwise fun a b => lts a b = true
/-- rising, some of them the same -/
def Rise (l : List Str) : Prop := l.Pairwise fun a b => lts b a = false
theorem rises : ∀ (l : List Str) (p : Str), risingS p l = true → Rise (p :: l)
  | [], p, _ => List.pairwise_singleton _ _
  | x :: r, p, h => by
    have h : (!ltCps x.cps.toList p.cps.toList && risingS x r) = true := h
    rw [Bool.and_eq_true, Bool.not_eq_true'] at h
    have ih := rises r x h.2
    refine List.pairwise_cons.mpr ⟨fun y hy => ?_, ih⟩
    rcases List.mem_cons.mp hy with e | e
    · rw [e]; exact h.1
    · exact lts_trans (a := p) (b := x) h.1 ((List.pairwise_cons.mp ih).1 y e)
theorem rise_of : ∀ {l : List Str}, sortedS l = true → Rise l
  | [], _ => List.Pairwise.nil
  | x :: r, h => rises r x h
theorem up_of {l : List Str} (h : Rise l) (n : l.Nodup) : Up l := by
  have z : l.Pairwise fun a b => lts b a = false ∧ a ≠ b := List.Pairwise.and h n
  exact z.imp fun {a b} ⟨h1, h2⟩ => by
    cases e : lts a b with
    | true => rfl
    | false => exact (h2 (lts_tri e h1)).elim
/-- two rising rows with the same members are the same -/
theorem up_eq : ∀ {l m : List Str}, Up l → Up m → (∀ s, s ∈ l ↔ s ∈ m) → l = m
  | [], [], _, _, _ => rfl
  | [], y :: m, _, _, h => absurd ((h y).mpr (List.mem_cons_self ..)) List.not_mem_nil
  | x :: l, [], _, _, h => absurd ((h x).mp (List.mem_cons_self ..)) List.not_mem_nil
  | x :: l, y :: m, hl, hm, h => by
    have hl2 := List.pairwise_cons.mp hl
    have hm2 := List.pairwise_cons.mp hm
    have e : x = y := by
      rcases List.mem_cons.mp ((h x).mp (List.mem_cons_self ..)) with e | e
      · exact e
      · rcases List.mem_cons.mp ((h y).mpr (List.mem_cons_self ..)) with e2 | e2
        · exact e2.symm
        · have z1 := hm2.1 x e
          have z2 := hl2.1 y e2
          rw [lts_asym z1] at z2
          cases z2
    subst e
    have nx1 : x ∉ l := fun hx => by
      have z := hl2.1 x hx
      rw [lts_asym z] at z
      cases z
    have nx2 : x ∉ m := fun hx => by
      have z := hm2.1 x hx
      rw [lts_asym z] at z
      cases z
    rw [up_eq hl2.2 hm2.2 fun s => ?_]
    constructor
    · intro hs
      rcases List.mem_cons.mp ((h s).mp (List.mem_cons_of_mem _ hs)) with e | e
      · rw [e] at hs; exact (nx1 hs).elim
      · exact e
    · intro hs
      rcases List.mem_cons.mp ((h s).mpr (List.mem_cons_of_mem _ hs)) with e | e
      · rw [e] at hs; exact (nx2 hs).elim
      · exact e
/-- a row without repetitions in another one is not longer -/
theorem nodup_len : ∀ {l m : List Str}, l.Nodup → (∀ s ∈ l, s ∈ m) → l.length ≤ m.length
  | [], m, _, _ => Nat.zero_le _
  | x :: l, m, n, h => by
    have n2 := List.nodup_cons.mp n
    have hx := h x (List.mem_cons_self ..)
    have z := nodup_len (m := m.erase x) n2.2 fun s hs => by
      have ne : s ≠ x := fun e => n2.1 (e ▸ hs)
      exact (List.mem_erase_of_ne ne).mpr (h s (List.mem_cons_of_mem _ hs))
    rw [List.length_erase_of_mem hx] at z
    have := List.length_pos_of_mem hx
    rw [List.length_cons]
    omega
end Toy

set_option Elab.async false
set_option linter.all false
set_option maxRecDepth 100000
set_option maxHeartbeats 4000000
/-! Part Q: the names that a term binds itself. -/
namespace Toy
open PySem L2
open PyProof.Rows (envOfC)
/-- the names, a row for each place that binds -/
def ownW (w : Str) (r : List Dd) : List (List Str) :=
  if w = "lam" then [[strOf (arg 0 r)]] else if w = "seq" then [[strOf (arg 0 r)]]
  else if w = "let" then [(tl (arg 0 r)).map fun q => strOf (nth 0 q)]
  else if w = "case" then (tl (arg 1 r)).map (fun q => strsOf (nth 1 q)) ++ dfltNs (arg 2 r)
  else if w = "pick" then (tl (arg 1 r)).map (fun _ => []) ++ dfltNs (arg 2 r) else []
def ownD : Dd → List (List Str)
  | .tup (.str w :: r) => ownW w r
  | _ => []
theorem ow_lam (r : List Dd) : ownW "lam" r = [[strOf (arg 0 r)]] := by
  unfold ownW
  rw [if_pos rfl]
theorem ow_seq (r : List Dd) : ownW "seq" r = [[strOf (arg 0 r)]] := by
  unfold ownW
  rw [if_neg (by decide +kernel), if_pos rfl]
theorem ow_let (r : List Dd) : ownW "let" r = [(tl (arg 0 r)).map fun q => strOf (nth 0 q)] := by
  unfold ownW
  rw [if_neg (by decide +kernel), if_neg (by decide +kernel), if_pos rfl]
theorem ow_case (r : List Dd) : ownW "case" r = (tl (arg 1 r)).map (fun q => strsOf (nth 1 q)) ++ dfltNs (arg 2 r) := by
  unfold ownW
  rw [if_neg (by decide +kernel), if_neg (by decide +kernel), if_neg (by decide +kernel), if_pos rfl]
theorem ow_pick (r : List Dd) : ownW "pick" r = (tl (arg 1 r)).map (fun _ => []) ++ dfltNs (arg 2 r) := by
  unfold ownW
  rw [if_neg (by decide +kernel), if_neg (by decide +kernel), if_neg (by decide +kernel), if_neg (by decide +kernel), if_pos rfl]
theorem ow_other {w : Str} (r : List Dd) (h : w ∉ [("lam" : Str), "seq", "let", "case", "pick"]) : ownW w r = [] := by
  simp only [List.mem_cons, List.not_mem_nil, or_false, not_or] at h
  unfold ownW
  rw [if_neg h.1, if_neg h.2.1, if_neg h.2.2.1, if_neg h.2.2.2.1, if_neg h.2.2.2.2]
/-- all of them, in a row -/
def ownN (k : Dd) : List Str := (ownD k).flatten
theorem ats_strs_eq {B : Addr → Prop} {H : Hp} : ∀ {zs : List Str} {xs : List V}, Dd.Ats B H (zs.map Dd.str) xs → xs = zs.map V.str ∧ ∀ z ∈ zs, z.length ≤ 1000
  | [], _, h => ⟨h, fun z hz => by cases hz⟩
  | z :: zs, _, ⟨x, ys, e, ⟨h1, h2⟩, hs⟩ => by
    obtain ⟨g1, g2⟩ := ats_strs_eq hs
    subst e h1 g1
    exact ⟨rfl, fun y hy => (List.mem_cons.mp hy).elim (fun e => by rw [e]; exact h2) (g2 y)⟩
theorem nameT_at {B : Addr → Prop} {H : Hp} {zs : List Str} {v : V} (h : (nameT zs).At B H v) : ∃ a, v = .ref a ∧ H a = some (.tup (zs.map V.str)) ∧ ∀ z ∈ zs, z.length ≤ 1000 := by
  obtain ⟨a, xs, rfl, ha, hs⟩ := h
  obtain ⟨rfl, hz⟩ := ats_strs_eq hs
  exact ⟨a, rfl, ha, hz⟩
theorem at_nameT {B : Addr → Prop} {H : Hp} {zs : List Str} {a : Addr} (h : H a = some (.tup (zs.map V.str))) (hz : ∀ z ∈ zs, z.length ≤ 1000) : (nameT zs).At B H (.ref a) := at_tup h (ats_strs hz)
theorem nameT_to {B C : Addr → Prop} {H : Hp} {zs : List Str} {v : V} (h : (nameT zs).At B H v) : (nameT zs).At C H v := by
  obtain ⟨a, rfl, ha, hz⟩ := nameT_at h
  exact at_nameT ha hz
theorem in_ifs (z : Str) (zs : List Str) : (if false = true then !inV (.str z) (zs.map V.str) else inV (.str z) (zs.map V.str)) = decide (z ∈ zs) := by rw [if_neg (by decide), inV_strs]
theorem wtt (a : Str) : decide (V.str a = V.str a) = true := decide_eq_true rfl
theorem wne {a b : Str} (h : a ≠ b) : decide (V.str a = V.str b) = false := decide_eq_false fun e => h (V.str.inj e)
theorem str_le {d : Dd} (h : isName d = true) : (strOf d).length ≤ 1000 := by
  rw [name_str h] at h
  have h4 : ((decide (1 ≤ (strOf d).length) && decide ((strOf d).length ≤ 80)) && _) = true := h
  have := of_decide_eq_true (fand (fand h4).1).2
  omega
section
variable {P : Program} {w : World} {K : PySem.W.Frag} {mg : Str → Option Value} {base : Heap}
abbrev sNDflt : Stmt := topS 44
theorem scNDflt : FnScope ["term"] ["term"] (defScope sNDflt) := ⟨rfl, rfl, rfl, by decide +kernel, rfl, by decide +kernel, by decide +kernel⟩
def spNDflt : Sp := fun vs H Q _ => ∃ (B : Addr → Prop) (v : V) (w : Str) (r : List Dd), vs = [v] ∧ (Dd.tup (.str w :: r)).At B H v ∧ r.length = 3 ∧ isDflt (arg 2 r) = true ∧ ∀ (L : Addr) (xs : List V) (H' : Hp), Same H H' → H L = none → H' L = some (.lst xs) → Dd.Ats F0 H' ((dfltNs (arg 2 r)).map nameT) xs → Q (.ref L) H'
theorem c_ndflt {f : Addr} {fd : FuncData} (F : Fun K "_default_names" "_default_names" sNDflt f fd) (b : Binds K fd ["term"] []) (hm : mg "_default_names" = some (.ref f)) : C8.Cal P w K mg base 1 "_default_names" spNDflt [] := by
  refine cal_of F hm b scNDflt (fun vs H Q E h => ?_) (fun cdv A outer s H vs Q E hr h => ?_)
  · obtain ⟨B, v, w', r, rfl, _⟩ := h
    rfl
  obtain ⟨B, v, w', r, rfl, hat, hc, hd, q⟩ := h
  refine ⟨_, (pss_one (ps_ret (pe_ifExp (pt_cmpR op_isN (pe_ix ix_tup (pv 0) pe_int (fun _ _ => rfl)) pe_non (nomark _)) (pe_lst pa_nil) (pe_lst (pa_cons (pe_tup (pa_cons (pe_ix ix_tup (pe_ix ix_tup (pv 0) pe_int (fun _ _ => rfl)) pe_int (fun _ _ => rfl)) pa_nil)) pa_nil))))), ?_⟩
  obtain ⟨a, ys, rfl, ha, hs, hyl, hw⟩ := head_at hat
  obtain ⟨x, hx, hxa⟩ := arg_at (v0 := .str w') hs (i := 2) (by omega)
  refine ⟨_, rfl, a, _, 3, _, rfl, rfl, SqT.of ha, hx, rfl, _, rfl, ?_⟩
  match arg 2 r, hd, hxa, q with
  | .non, _, hxa, q =>
    cases (show x = .non from hxa)
    rw [decide_eq_true rfl]
    refine iteT ?_
    exact ⟨by show 0 ≤ sizeLine; decide, fun t ht => q t [] _ (same_new ht _) ht upd_same ats_nil⟩
  | .tup l, hd, hxa, q =>
    obtain ⟨hl2, hn⟩ := fand hd
    have hl2 : l.length = 2 := of_decide_eq_true hl2
    obtain ⟨b2, xs2, rfl, hb, hbs⟩ := hxa
    rw [decide_eq_false (by intro e; cases e)]
    refine iteF ?_
    obtain ⟨y, hy, hya⟩ := nth_at hbs (i := 0) (by omega)
    have hn0 : isName (nth 0 (.tup l)) = true := hn
    rw [name_str hn0] at hya
    obtain ⟨rfl, hyl2⟩ := (show y = .str (strOf (nth 0 (.tup l))) ∧ _ from hya)
    refine ⟨_, rfl, a, _, 3, _, rfl, rfl, SqT.of ha, hx, b2, _, 0, _, rfl, rfl, SqT.of hb, hy, by show 1 ≤ sizeLine; decide, fun t ht => ?_⟩
    have s1 := same_new ht (.tup [.str (strOf (nth 0 (.tup l)))])
    refine ⟨by show 1 ≤ sizeLine; decide, fun L hL => ?_⟩
    have s2 := same_new hL (.lst [.ref t])
    exact q L [.ref t] _ (sameT s1 s2) (free_of s1 hL) upd_same (ats_one (at_nameT (zs := [strOf (nth 0 (.tup l))]) (s2 _ _ upd_same) fun z hz => by rw [List.mem_singleton.mp hz]; exact hyl2))
abbrev sOwn : Stmt := topS 43
theorem scOwn : FnScope ["term", "name", "_", "names"] ["term"] (defScope sOwn) := ⟨rfl, rfl, rfl, by decide +kernel, rfl, by decide +kernel, by decide +kernel⟩
def spOwn : Sp := fun vs H Q _ => ∃ (B : Addr → Prop) (v : V) (k : Dd), vs = [v] ∧ k.At B H v ∧ formB k = true ∧ k.sz ≤ 1000000 ∧ ∀ (L : Addr) (xs : List V) (H' : Hp), Same H H' → H L = none → H' L = some (.lst xs) → Dd.Ats F0 H' ((ownD k).map nameT) xs → Q (.ref L) H'
theorem c_own {f : Addr} {fd : FuncData} (T : TxtI mg) (c_default_names : C8.Cal P w K mg base 1 "_default_names" spNDflt []) (F : Fun K "_own_names" "_own_names" sOwn f fd) (b : Binds K fd ["term"] []) (hm : mg "_own_names" = some (.ref f)) : C8.Cal P w K mg base 2 "_own_names" spOwn [] := by
  refine cal_of F hm b scOwn (fun vs H Q E h => ?_) (fun cdv A outer s H vs Q E hr h => ?_)
  · obtain ⟨B, v, k, rfl, _⟩ := h
    rfl
  obtain ⟨B0, v, k, rfl, hat, hf, hsz, q⟩ := h
  refine ⟨_, (pss_cons (ps_if (pt_cmpR op_in_seq (pe_ix ix_tup (pv 0) pe_int (fun _ _ => rfl)) (pe_tup (pa_cons pe_str (pa_cons pe_str pa_nil))) rfl)
      (pss_one (ps_ret (pe_lst (pa_cons (pe_tup (pa_cons (pe_ix ix_tup (pv 0) pe_int (fun _ _ => rfl)) pa_nil)) pa_nil))))
      pss_nil)
    (pss_cons (ps_if (pt_cmpR op_eq (pe_ix ix_tup (pv 0) pe_int (fun _ _ => rfl)) pe_str (nomark _))
      (pss_one (ps_ret (pe_lst (pa_cons (pe_callTy call_tuple_of rfl T.ztuple boot_tuple (pa_cons (pe_lc (own := [("name", 1), ("_", 2)]) (g := gTup K 2 (gCons (gName 1) (gCons (gName 2) (gNil)))) (tt := tYes) rfl scOwn.nd (pi_tup (pe_ix ix_tup (pv 0) pe_int (fun _ _ => rfl))) (blkOk_by (own := [("name", 1), ("_", 2)]) (N := ["term", "name", "_", "names"]) (sc := defScope sOwn) (by decide +kernel)) (fun _ _ _ _ _ => (pg_tup rfl (pgs_cons (pg_name (i := 1) scOwn.nd rfl (Or.inl rfl)) (pgs_cons (pg_name (i := 2) scOwn.nd rfl (Or.inl rfl)) pgs_nil)))) (fun _ _ _ _ _ => pts_nil) (fun _ _ _ _ _ => (pv 1))) pa_nil)) pa_nil))))
      pss_nil)
    (pss_cons (ps_if (pt_cmpR op_eq (pe_ix ix_tup (pv 0) pe_int (fun _ _ => rfl)) pe_str (nomark _))
      (pss_one (ps_ret (pe_lst (StX.pa_star (pe_lc (own := [("_", 2), ("names", 3)]) (g := gTup K 3 (gCons (gName 2) (gCons (gName 3) (gCons (gName 2) (gNil))))) (tt := tYes) rfl scOwn.nd (pi_tup (pe_ix ix_tup (pv 0) pe_int (fun _ _ => rfl))) (blkOk_by (own := [("_", 2), ("names", 3)]) (N := ["term", "name", "_", "names"]) (sc := defScope sOwn) (by decide +kernel)) (fun _ _ _ _ _ => (pg_tup rfl (pgs_cons (pg_name (i := 2) scOwn.nd rfl (Or.inl rfl)) (pgs_cons (pg_name (i := 3) scOwn.nd rfl (Or.inl rfl)) (pgs_cons (pg_name (i := 2) scOwn.nd rfl (Or.inl rfl)) pgs_nil))))) (fun _ _ _ _ _ => pts_nil) (fun _ _ _ _ _ => (pv 3))) (StX.pa_star (C8.pe_c c_default_names hr (by decide) rfl (pa_cons (pv 0) pa_nil)) pa_nil)))))
      pss_nil)
    (pss_cons (ps_if (pt_cmpR op_eq (pe_ix ix_tup (pv 0) pe_int (fun _ _ => rfl)) pe_str (nomark _))
      (pss_one (ps_ret (pe_lst (StX.pa_star (pe_lc (own := [("_", 2)]) (g := gName 2) (tt := tYes) rfl scOwn.nd (pi_tup (pe_ix ix_tup (pv 0) pe_int (fun _ _ => rfl))) (blkOk_by (own := [("_", 2)]) (N := ["term", "name", "_", "names"]) (sc := defScope sOwn) (by decide +kernel)) (fun _ _ _ _ _ => (pg_name (i := 2) scOwn.nd rfl (Or.inl rfl))) (fun _ _ _ _ _ => pts_nil) (fun _ _ _ _ _ => (pe_tup pa_nil))) (StX.pa_star (C8.pe_c c_default_names hr (by decide) rfl (pa_cons (pv 0) pa_nil)) pa_nil)))))
      pss_nil)
    (pss_one (ps_ret (pe_lst pa_nil))))))), ?_⟩
  obtain ⟨z, r, rfl, hfz⟩ := form_tup hf
  obtain ⟨a, ys, rfl, ha, hys, hyl, hzl⟩ := head_at hat
  refine ⟨_, rfl, a, _, 0, _, rfl, rfl, SqT.of ha, at0 _ _, by show 2 ≤ sizeLine; decide, fun t1 ht1 => ?_⟩
  have s1 := same_new ht1 (.tup [.str "lam", .str "seq"])
  have e1 : upd H t1 (.tup [.str "lam", .str "seq"]) t1 = some (.tup ([("lam" : Str), "seq"].map V.str)) := upd_same
  refine ⟨t1, _, rfl, .inr (SqT.of e1), rfl, flat_strs _, _, rfl, ?_⟩
  rw [in_ifs]
  have ha1 := s1 _ _ ha
  have hys1 := hys.keep (fr_same s1)
  generalize upd H t1 (.tup [.str "lam", .str "seq"]) = H1 at s1 e1 ha1 hys1 ⊢
  by_cases c1 : z ∈ [("lam" : Str), "seq"]
  · rw [decide_eq_true c1]
    refine iteT ?_
    have hlen : 0 < r.length ∧ isName (arg 0 r) = true ∧ ownW z r = [[strOf (arg 0 r)]] := by
      rcases List.mem_cons.mp c1 with rfl | c
      · rw [fw_lam] at hfz
        exact ⟨by rw [of_decide_eq_true (fand hfz).1]; decide, (fand hfz).2, ow_lam r⟩
      · have c := List.mem_singleton.mp c
        subst c
        rw [fw_seq] at hfz
        exact ⟨by rw [of_decide_eq_true (fand hfz).1]; decide, (fand hfz).2, ow_seq r⟩
    obtain ⟨hl0, hn, eO⟩ := hlen
    obtain ⟨x, hx, hxa⟩ := arg_at (v0 := .str z) hys1 (i := 0) hl0
    rw [name_str hn] at hxa
    obtain ⟨rfl, hx2⟩ := (show x = .str (strOf (arg 0 r)) ∧ _ from hxa)
    refine ⟨_, rfl, a, _, 1, _, rfl, rfl, SqT.of ha1, hx, by show 1 ≤ sizeLine; decide, fun t ht => ?_⟩
    have s2 := same_new ht (.tup [.str (strOf (arg 0 r))])
    refine ⟨by show 1 ≤ sizeLine; decide, fun L hL => ?_⟩
    have s3 := same_new hL (.lst [.ref t])
    refine q L [.ref t] _ (sameT s1 (sameT s2 s3)) (free_of (sameT s1 s2) hL) upd_same ?_
    show Dd.Ats F0 _ ((ownW z r).map nameT) _
    rw [eO]
    exact ats_one (at_nameT (zs := [strOf (arg 0 r)]) (s3 _ _ upd_same) fun y hy => by rw [List.mem_singleton.mp hy]; exact hx2)
  rw [decide_eq_false c1]
  refine iteF ?_
  refine ⟨_, rfl, a, _, 0, _, rfl, rfl, SqT.of ha1, at0 _ _, rfl, _, rfl, ?_⟩
  by_cases c2 : z = "let"
  · subst c2
    show if decide (V.str "let" = V.str "let") = true then _ else _
    rw [wtt]
    refine iteT ?_
    rw [fw_let] at hfz
    obtain ⟨h2, hn⟩ := fand hfz
    obtain ⟨h2, hrw⟩ := fand h2
    have hr2 : r.length = 2 := of_decide_eq_true h2
    obtain ⟨l, el, hrows⟩ := rows_are (show areRows 2 (arg 0 r) = true from hrw)
    have hnm : ∀ q ∈ l, isName (nth 0 q) = true := by
      have h3 := (fand (fand hn).2).1
      rw [el] at h3
      have h3 : (l.map (nth 0)).all isName = true := h3
      rw [List.all_map] at h3
      exact List.all_eq_true.mp h3
    obtain ⟨x, hx, hxa⟩ := arg_at (v0 := .str "let") hys1 (i := 0) (by omega)
    have hz := arg_sz (w := "let") (r := r) 0
    rw [el] at hxa hz
    obtain ⟨p, xs2, rfl, e2, hps⟩ := hxa
    have hxl := ats_len hps
    have hlz := szs_len l
    have hz : 1 + Dd.szs l ≤ _ := hz
    refine ⟨_, rfl, a, _, 1, _, rfl, rfl, SqT.of ha1, hx, p, rfl, ⟨_, SqT.of e2⟩, fun D hD => ?_⟩
    refine lc_tup (a := p) (xs := xs2) (fun i G => Same H1 G ∧ G D = some (.lst ((((l.take i).map fun q => strOf (nth 0 q))).map V.str))) ⟨same_new hD _, upd_same⟩ (fun i G hi ⟨h, _⟩ => SqT.of (h _ _ e2)) ?_ ?_
    · rintro i x' G hx ⟨h2, h1⟩
      obtain ⟨kk, hk, hkx⟩ := ats_get hps hx
      have hil : i < l.length := (List.getElem?_eq_some_iff.mp hk).1
      obtain ⟨m, rfl, hm2⟩ := hrows kk (List.mem_of_getElem? hk)
      obtain ⟨t, x1, y1, rfl, ht, hx1, hy1⟩ := pair_at hkx hm2
      have hs1 := name_str (hnm _ (List.mem_of_getElem? hk))
      rw [hs1] at hx1
      obtain ⟨hx1, _⟩ := (show x1 = .str (strOf (nth 0 (.tup m))) ∧ _ from hx1)
      refine ⟨t, _, rfl, SqT.of (h2 _ _ ht), rfl, _, _, rfl, _, _, rfl, rfl, rfl, ?_⟩
      refine tYes_if ?_
      refine ⟨_, rfl, _, h1, ?_, same_upd hD h2 _, ?_⟩
      · rw [List.length_map, List.length_map, List.length_take]; have := big; have := Nat.min_le_right i l.length; omega
      · rw [upd_same, List.take_add_one, hk, List.map_append, List.map_append, hx1]
        rfl
    rintro G ⟨h2, h1⟩
    rw [hxl, List.take_length] at h1
    refine ⟨D, _, rfl, .inl ⟨SqL.of h1, fun t ht => ?_⟩⟩
    have st := same_new ht (.tup ((l.map fun q => strOf (nth 0 q)).map V.str))
    have et : upd G t (.tup ((l.map fun q => strOf (nth 0 q)).map V.str)) t = some (.tup ((l.map fun q => strOf (nth 0 q)).map V.str)) := upd_same
    generalize upd G t (.tup ((l.map fun q => strOf (nth 0 q)).map V.str)) = G2 at st et ⊢
    refine ⟨by show 1 ≤ sizeLine; decide, fun L hL => ?_⟩
    have s3 := same_new hL (.lst [.ref t])
    have sA := sameT s1 (sameT h2 st)
    refine q L [.ref t] _ (sameT sA s3) (free_of sA hL) upd_same ?_
    show Dd.Ats F0 _ ((ownW "let" r).map nameT) _
    rw [ow_let, el]
    exact ats_one (at_nameT (s3 _ _ et) fun y hy => by
      obtain ⟨q', hq', rfl⟩ := List.mem_map.mp hy
      exact str_le (hnm q' hq'))
  show if decide (V.str z = V.str "let") = true then _ else _
  rw [wne c2]
  refine iteF ?_
  refine ⟨_, rfl, a, _, 0, _, rfl, rfl, SqT.of ha1, at0 _ _, rfl, _, rfl, ?_⟩
  by_cases c3 : z = "case"
  · subst c3
    show if decide (V.str "case" = V.str "case") = true then _ else _
    rw [wtt]
    refine iteT ?_
    rw [fw_case] at hfz
    obtain ⟨h1, h4⟩ := fand hfz
    obtain ⟨h1, h3⟩ := fand h1
    obtain ⟨h1, h2⟩ := fand h1
    have hr3 : r.length = 3 := of_decide_eq_true h1
    obtain ⟨l, el, hrows⟩ := rows_are (show areRows 3 (arg 1 r) = true from h2)
    have hnn : ∀ q ∈ l, areNames (nth 1 q) = true := fun q hq => (fand (List.all_eq_true.mp h4 q (by rw [el]; exact hq))).2
    obtain ⟨x, hx, hxa⟩ := arg_at (v0 := .str "case") hys1 (i := 1) (by omega)
    have hz := arg_sz (w := "case") (r := r) 1
    rw [el] at hxa hz
    obtain ⟨p, xs2, rfl, e2, hps⟩ := hxa
    have hxl := ats_len hps
    have hlz := szs_len l
    have hz : 1 + Dd.szs l ≤ _ := hz
    refine ⟨_, rfl, a, _, 2, _, rfl, rfl, SqT.of ha1, hx, p, rfl, ⟨_, SqT.of e2⟩, fun D hD => ?_⟩
    refine lc_tup (a := p) (xs := xs2) (fun i G => Same H1 G ∧ ∃ zs, G D = some (.lst zs) ∧ Dd.Ats F0 G ((l.take i).map fun q => nameT (strsOf (nth 1 q))) zs) ⟨same_new hD _, [], upd_same, ats_nil⟩ (fun i G hi ⟨h, _⟩ => SqT.of (h _ _ e2)) ?_ ?_
    · rintro i x' G hx ⟨h2, zs, h1, h3⟩
      obtain ⟨kk, hk, hkx⟩ := ats_get hps hx
      have hil : i < l.length := (List.getElem?_eq_some_iff.mp hk).1
      obtain ⟨m, rfl, hm2⟩ := hrows kk (List.mem_of_getElem? hk)
      obtain ⟨t, x1, y1, z1, rfl, ht, hx1, hy1, hz1⟩ := three_at hkx hm2
      have hzl := ats_len h3
      rw [List.length_map, List.length_take] at hzl
      rw [names_back (hnn _ (List.mem_of_getElem? hk))] at hy1
      refine ⟨t, _, rfl, SqT.of (h2 _ _ ht), rfl, _, _, rfl, _, _, rfl, _, _, rfl, rfl, rfl, ?_⟩
      refine tYes_if ?_
      refine ⟨_, rfl, zs, h1, ?_, same_upd hD h2 _, zs ++ [y1], upd_same, ?_⟩
      · have := big; have := Nat.min_le_right i l.length; omega
      · rw [List.take_add_one, hk, List.map_append]
        have f8 : Fr F0 G (upd G D (.lst (zs ++ [y1]))) := fr_list h1 fun z => z
        exact ats_app (h3.keep f8) (ats_one (((nameT_to (C := F0) hy1).keep (fr_same h2)).keep f8))
    rintro G ⟨h2, zs, h1, h3⟩
    rw [hxl, List.take_length] at h3
    have hzl2 := ats_len h3
    rw [List.length_map] at hzl2
    refine ⟨D, zs, rfl, .inr (SqL.of h1), ?_⟩
    refine ⟨_, rfl, B0, .ref a, _, r, rfl, hat.keep (fr_same (sameT s1 h2)), hr3, ‹isDflt (arg 2 r) = true›, fun L2 xs3 G2 s2 hL2 hG2 hats3 => ?_⟩
    have hx3 := ats_len hats3
    have hd3 : xs3.length ≤ 1 := by
      rw [hx3, List.length_map]
      unfold dfltNs
      split <;> simp
    refine ⟨L2, xs3, rfl, .inr (SqL.of hG2), ?_, fun L hL => ?_⟩
    · have := big
      simp only [List.append_nil, List.length_append]
      omega
    rw [show xs3 ++ [] = xs3 from List.append_nil _]
    have s3 := same_new hL (.lst (zs ++ xs3))
    have sA := sameT s1 (sameT h2 s2)
    refine q L _ _ (sameT sA s3) (free_of sA hL) upd_same ?_
    show Dd.Ats F0 _ ((ownW "case" r).map nameT) _
    rw [ow_case, el, List.map_append, List.map_map]
    exact ats_app (h3.keep (fr_same (sameT s2 s3))) (hats3.keep (fr_same s3))
  show if decide (V.str z = V.str "case") = true then _ else _
  rw [wne c3]
  refine iteF ?_
  refine ⟨_, rfl, a, _, 0, _, rfl, rfl, SqT.of ha1, at0 _ _, rfl, _, rfl, ?_⟩
  by_cases c4 : z = "pick"
  · subst c4
    show if decide (V.str "pick" = V.str "pick") = true then _ else _
    rw [wtt]
    refine iteT ?_
    rw [fw_pick] at hfz
    obtain ⟨h1, h4⟩ := fand hfz
    obtain ⟨h1, h3⟩ := fand h1
    obtain ⟨h1, h2⟩ := fand h1
    have hr3 : r.length = 3 := of_decide_eq_true h1
    obtain ⟨l, el, hrows⟩ := rows_are (show areRows 2 (arg 1 r) = true from h2)
    obtain ⟨x, hx, hxa⟩ := arg_at (v0 := .str "pick") hys1 (i := 1) (by omega)
    have hz := arg_sz (w := "pick") (r := r) 1
    rw [el] at hxa hz
    obtain ⟨p, xs2, rfl, e2, hps⟩ := hxa
    have hxl := ats_len hps
    have hlz := szs_len l
    have hz : 1 + Dd.szs l ≤ _ := hz
    refine ⟨_, rfl, a, _, 2, _, rfl, rfl, SqT.of ha1, hx, p, rfl, ⟨_, SqT.of e2⟩, fun D hD => ?_⟩
    refine lc_tup (a := p) (xs := xs2) (fun i G => Same H1 G ∧ ∃ zs, G D = some (.lst zs) ∧ Dd.Ats F0 G ((l.take i).map fun _ => nameT []) zs) ⟨same_new hD _, [], upd_same, ats_nil⟩ (fun i G hi ⟨h, _⟩ => SqT.of (h _ _ e2)) ?_ ?_
    · rintro i x' G hx ⟨h2, zs, h1, h3⟩
      obtain ⟨kk, hk, hkx⟩ := ats_get hps hx
      have hil : i < l.length := (List.getElem?_eq_some_iff.mp hk).1
      have hzl := ats_len h3
      rw [List.length_map, List.length_take] at hzl
      refine ⟨rfl, ?_⟩
      refine tYes_if ?_
      refine ⟨by show 0 ≤ sizeLine; decide, fun u hu => ?_⟩
      have su := same_new hu (.tup [])
      have f8 : Fr F0 (upd G u (.tup [])) (upd (upd G u (.tup [])) D (.lst (zs ++ [.ref u]))) := fr_list (su _ _ h1) fun z => z
      refine ⟨zs, su _ _ h1, ?_, same_upd hD (sameT h2 su) _, zs ++ [.ref u], upd_same, ?_⟩
      · have := big; have := Nat.min_le_right i l.length; omega
      · rw [List.take_add_one, hk, List.map_append]
        exact ats_app ((h3.keep (fr_same su)).keep f8) (ats_one ((at_nameT (zs := []) upd_same (fun z hz => by cases hz) : (nameT []).At F0 _ (.ref u)).keep f8))
    rintro G ⟨h2, zs, h1, h3⟩
    rw [hxl, List.take_length] at h3
    have hzl2 := ats_len h3
    rw [List.length_map] at hzl2
    refine ⟨D, zs, rfl, .inr (SqL.of h1), ?_⟩
    refine ⟨_, rfl, B0, .ref a, _, r, rfl, hat.keep (fr_same (sameT s1 h2)), hr3, ‹isDflt (arg 2 r) = true›, fun L2 xs3 G2 s2 hL2 hG2 hats3 => ?_⟩
    have hx3 := ats_len hats3
    have hd3 : xs3.length ≤ 1 := by
      rw [hx3, List.length_map]
      unfold dfltNs
      split <;> simp
    refine ⟨L2, xs3, rfl, .inr (SqL.of hG2), ?_, fun L hL => ?_⟩
    · have := big
      simp only [List.append_nil, List.length_append]
      omega
    rw [show xs3 ++ [] = xs3 from List.append_nil _]
    have s3 := same_new hL (.lst (zs ++ xs3))
    have sA := sameT s1 (sameT h2 s2)
    refine q L _ _ (sameT sA s3) (free_of sA hL) upd_same ?_
    show Dd.Ats F0 _ ((ownW "pick" r).map nameT) _
    rw [ow_pick, el, List.map_append, List.map_map]
    exact ats_app (h3.keep (fr_same (sameT s2 s3))) (hats3.keep (fr_same s3))
  show if decide (V.str z = V.str "pick") = true then _ else _
  rw [wne c4]
  refine iteF ?_
  refine ⟨by show 0 ≤ sizeLine; decide, fun L hL => ?_⟩
  refine q L [] _ (sameT s1 (same_new hL _)) (free_of s1 hL) upd_same ?_
  show Dd.Ats F0 _ ((ownW z r).map nameT) _
  rw [ow_other r (by
    simp only [List.mem_cons, List.not_mem_nil, or_false, not_or] at c1 ⊢
    exact ⟨c1.1, c1.2, c2, c3, c4⟩)]
  exact ats_nil
end
end Toy

set_option Elab.async false
set_option linter.all false
set_option maxRecDepth 100000
set_option maxHeartbeats 4000000
/-! Part R: the names in a row; the names around each part; all names that are bound in a term. -/
namespace Toy
open PySem L2
open PyProof.Rows (envOfC)
theorem dflt_own (d : Dd) (h : isDflt d = true) : (dfltNs d).flatten.length + Dd.szs (dfltP d) ≤ d.sz := by
  match d, h with
  | .non, _ => show 0 + 0 ≤ 1; omega
  | .tup l, h =>
    obtain ⟨x, y, rfl⟩ := len2 (of_decide_eq_true (fand h).1)
    show 1 + (y.sz + 0) ≤ 1 + (x.sz + (y.sz + 0))
    have := sz_pos x
    omega
theorem let_own : ∀ (l : List Dd), (∀ q ∈ l, ∃ m, q = .tup m ∧ m.length = 2) → l.length + Dd.szs (l.map (nth 1)) ≤ Dd.szs l
  | [], _ => Nat.le_refl _
  | q :: l, h => by
    obtain ⟨m, rfl, hm⟩ := h q (List.mem_cons_self ..)
    obtain ⟨x, y, rfl⟩ := len2 hm
    have ih := let_own l fun p hp => h p (List.mem_cons_of_mem _ hp)
    show l.length + 1 + (y.sz + Dd.szs (l.map (nth 1))) ≤ (1 + (x.sz + (y.sz + 0))) + Dd.szs l
    omega
theorem strs_le (d : Dd) : (strsOf d).length ≤ d.sz := by
  have h1 := szs_tl d
  have h2 := szs_len (tl d)
  unfold strsOf
  rw [List.length_map]
  omega
theorem case_own : ∀ (l : List Dd), (∀ q ∈ l, ∃ m, q = .tup m ∧ m.length = 3) → ((l.map fun q => strsOf (nth 1 q)).flatten).length + Dd.szs (l.map lastD) ≤ Dd.szs l
  | [], _ => Nat.le_refl _
  | q :: l, h => by
    obtain ⟨m, rfl, hm⟩ := h q (List.mem_cons_self ..)
    obtain ⟨x, y, z, rfl⟩ := len3 hm
    have ih := case_own l fun p hp => h p (List.mem_cons_of_mem _ hp)
    have hy := strs_le y
    rw [List.map_cons, List.flatten_cons, List.length_append, List.map_cons]
    show (strsOf y).length + _ + (z.sz + Dd.szs (l.map lastD)) ≤ (1 + (x.sz + (y.sz + (z.sz + 0)))) + Dd.szs l
    omega
theorem nil_own {α : Type} : ∀ (l : List α), ((l.map fun _ => ([] : List Str)).flatten) = []
  | [] => rfl
  | _ :: l => nil_own l
/-- names and parts together are less than the term -/
theorem own_sz {k : Dd} (h : formB k = true) : (ownN k).length + Dd.szs (partsD k) < k.sz := by
  obtain ⟨z, r, rfl, hf⟩ := form_tup h
  have hp := parts_sz h
  show (ownW z r).flatten.length + Dd.szs (partsW z r) < 1 + (1 + Dd.szs r)
  have hp : Dd.szs (partsW z r) < 1 + (1 + Dd.szs r) := hp
  by_cases c1 : z = "lam"
  · subst c1
    rw [fw_lam] at hf
    obtain ⟨x, y, rfl⟩ := len2 (of_decide_eq_true (fand hf).1)
    rw [ow_lam, pw_lam]
    have := sz_pos x
    show 1 + (y.sz + 0) < 1 + (1 + (x.sz + (y.sz + 0)))
    omega
  by_cases c2 : z = "seq"
  · subst c2
    rw [fw_seq] at hf
    obtain ⟨x, y, y', rfl⟩ := len3 (of_decide_eq_true (fand hf).1)
    rw [ow_seq, pw_seq]
    have := sz_pos x
    show 1 + (y.sz + (y'.sz + 0)) < 1 + (1 + (x.sz + (y.sz + (y'.sz + 0))))
    omega
  by_cases c3 : z = "let"
  · subst c3
    rw [fw_let] at hf
    obtain ⟨h2, hn⟩ := fand hf
    obtain ⟨h2, hrw⟩ := fand h2
    obtain ⟨x, y, rfl⟩ := len2 (of_decide_eq_true h2)
    obtain ⟨l, rfl, hrows⟩ := rows_are (show areRows 2 x = true from hrw)
    have ho := let_own l hrows
    rw [ow_let, pw_let]
    show ((l.map fun q => strOf (nth 0 q)) ++ []).length + Dd.szs (l.map (nth 1) ++ [y]) < 1 + (1 + ((1 + Dd.szs l) + (y.sz + 0)))
    rw [List.append_nil, List.length_map, szs_app]
    show l.length + (Dd.szs (l.map (nth 1)) + (y.sz + 0)) < _
    omega
  by_cases c4 : z = "case"
  · subst c4
    rw [fw_case] at hf
    obtain ⟨h1, h4⟩ := fand hf
    obtain ⟨h1, h3⟩ := fand h1
    obtain ⟨h1, h2⟩ := fand h1
    obtain ⟨x, y, d, rfl⟩ := len3 (of_decide_eq_true h1)
    obtain ⟨l, rfl, hr⟩ := rows_are (show areRows 3 y = true from h2)
    have ho := case_own l hr
    have hd := dflt_own d h3
    rw [ow_case, pw_case]
    show ((l.map (fun q => strsOf (nth 1 q)) ++ dfltNs d).flatten).length + Dd.szs (x :: (l.map lastD ++ dfltP d)) < 1 + (1 + (x.sz + ((1 + Dd.szs l) + (d.sz + 0))))
    rw [List.flatten_append, List.length_append]
    show _ + (x.sz + Dd.szs (l.map lastD ++ dfltP d)) < _
    rw [szs_app]
    omega
  by_cases c5 : z = "pick"
  · subst c5
    rw [fw_pick] at hf
    obtain ⟨h1, h4⟩ := fand hf
    obtain ⟨h1, h3⟩ := fand h1
    obtain ⟨h1, h2⟩ := fand h1
    obtain ⟨x, y, d, rfl⟩ := len3 (of_decide_eq_true h1)
    obtain ⟨l, rfl, hr⟩ := rows_are (show areRows 2 y = true from h2)
    have ho := lasts_sz l
    have hd := dflt_own d h3
    rw [ow_pick, pw_pick]
    show ((l.map (fun _ => []) ++ dfltNs d).flatten).length + Dd.szs (x :: (l.map lastD ++ dfltP d)) < 1 + (1 + (x.sz + ((1 + Dd.szs l) + (d.sz + 0))))
    rw [List.flatten_append, List.length_append, nil_own]
    show 0 + _ + (x.sz + Dd.szs (l.map lastD ++ dfltP d)) < _
    rw [szs_app]
    omega
  rw [ow_other r (by
    simp only [List.mem_cons, List.not_mem_nil, or_false, not_or]
    exact ⟨c1, c2, c3, c4, c5⟩)]
  show 0 + _ < _
  omega
theorem flat_take {α : Type} (L : List (List α)) (i : Nat) : (L.take i).flatten.length ≤ L.flatten.length := by
  have e : L.flatten = (L.take i).flatten ++ (L.drop i).flatten := by rw [← List.flatten_append, List.take_append_drop]
  rw [e, List.length_append]
  omega
theorem own_str {k : Dd} (h : formB k = true) : ∀ s ∈ ownN k, isName (.str s) = true := by
  obtain ⟨z, r, rfl, hf⟩ := form_tup h
  intro s hs
  have hs : s ∈ (ownW z r).flatten := hs
  have one : ∀ {d : Dd}, isName d = true → isName (.str (strOf d)) = true := fun h => by rwa [← name_str h]
  have dfl : ∀ {d : Dd}, isDflt d = true → s ∈ (dfltNs d).flatten → isName (.str s) = true := fun {d} hd hm => by
    match d, hd, hm with
    | .non, _, hm => cases hm
    | .tup l, hd, hm =>
      have hm : s ∈ [strOf (nth 0 (.tup l))] := hm
      rw [List.mem_singleton.mp hm]
      exact one (fand hd).2
  by_cases c1 : z = "lam"
  · subst c1
    rw [fw_lam] at hf
    rw [ow_lam] at hs
    have hs : s ∈ [strOf (arg 0 r)] := hs
    rw [List.mem_singleton.mp hs]
    exact one (fand hf).2
  by_cases c2 : z = "seq"
  · subst c2
    rw [fw_seq] at hf
    rw [ow_seq] at hs
    have hs : s ∈ [strOf (arg 0 r)] := hs
    rw [List.mem_singleton.mp hs]
    exact one (fand hf).2
  by_cases c3 : z = "let"
  · subst c3
    rw [fw_let] at hf
    rw [ow_let, List.flatten_cons, List.flatten_nil, List.append_nil] at hs
    obtain ⟨q, hq, rfl⟩ := List.mem_map.mp hs
    have h3 : ((tl (arg 0 r)).map (nth 0)).all isName = true := (fand (fand (fand hf).2).2).1
    rw [List.all_map] at h3
    exact one (List.all_eq_true.mp h3 q hq)
  by_cases c4 : z = "case"
  · subst c4
    rw [fw_case] at hf
    obtain ⟨h1, h4⟩ := fand hf
    rw [ow_case, List.flatten_append] at hs
    rcases List.mem_append.mp hs with e | e
    · obtain ⟨l, hl, hsl⟩ := List.mem_flatten.mp e
      obtain ⟨q, hq, rfl⟩ := List.mem_map.mp hl
      have hn := (fand (List.all_eq_true.mp h4 q hq)).2
      unfold strsOf at hsl
      obtain ⟨d, hd, rfl⟩ := List.mem_map.mp hsl
      match nth 1 q, hn, hd with
      | .tup l, hn, hd => exact one (List.all_eq_true.mp (fand hn).1 d hd)
    · exact dfl (fand h1).2 e
  by_cases c5 : z = "pick"
  · subst c5
    rw [fw_pick] at hf
    obtain ⟨h1, h4⟩ := fand hf
    rw [ow_pick, List.flatten_append, nil_own, List.nil_append] at hs
    exact dfl (fand h1).2 hs
  rw [ow_other r (by
    simp only [List.mem_cons, List.not_mem_nil, or_false, not_or]
    exact ⟨c1, c2, c3, c4, c5⟩)] at hs
  cases hs
theorem rep_one {α : Type} (x : α) : ∀ n : Nat, (List.replicate n [x]).flatten = List.replicate n x
  | 0 => rfl
  | n + 1 => by
    show x :: (List.replicate n [x]).flatten = x :: List.replicate n x
    rw [rep_one x n]
theorem ats_rep {B : Addr → Prop} {H : Hp} {k : Dd} {x : V} (h : k.At B H x) : ∀ n : Nat, Dd.Ats B H (List.replicate n k) (List.replicate n x)
  | 0 => rfl
  | n + 1 => ⟨x, _, rfl, h, ats_rep h n⟩
theorem map_rep {α β : Type} (b : β) : ∀ l : List α, (l.map fun _ => b) = List.replicate l.length b
  | [] => rfl
  | _ :: l => by
    show b :: (l.map fun _ => b) = b :: List.replicate l.length b
    rw [map_rep b l]
theorem scopes_plain {w : Str} {r : List Dd} (h : formW w r = true) (c1 : w ≠ "lam") (c2 : w ≠ "seq") (c3 : w ≠ "let") (c4 : w ≠ "case") (c5 : w ≠ "pick") : scopesW w r = (partsW w r).map fun _ => [] := by
  have hw := form_wordN h
  simp only [words, List.mem_cons, List.not_mem_nil, or_false] at hw
  rcases hw with rfl | rfl | rfl | rfl | rfl | rfl | rfl | rfl | rfl | rfl | rfl
  · rw [pw_num, show scopesW "num" r = [] by unfold scopesW; simp (config := { decide := true })]
    rfl
  · rw [pw_var, show scopesW "var" r = [] by unfold scopesW; simp (config := { decide := true })]
    rfl
  · rw [fw_app] at h
    obtain ⟨x, y, rfl⟩ := len2 (of_decide_eq_true h)
    rw [sw_app, pw_app]
    rfl
  · exact (c1 rfl).elim
  · exact (c3 rfl).elim
  · exact (c2 rfl).elim
  · rw [sw_con, pw_con]
  · exact (c4 rfl).elim
  · exact (c5 rfl).elim
  · rw [fw_prim] at h
    obtain ⟨x, y, y', rfl⟩ := len3 (of_decide_eq_true (fand h).1)
    rw [sw_prim, pw_prim]
    rfl
  · rw [sw_note, pw_note]
    rfl
section
variable {P : Program} {w : World} {K : PySem.W.Frag} {mg : Str → Option Value} {base : Heap}
abbrev sNamesOf : Stmt := topS 41
theorem scNamesOf : FnScope ["term", "names", "part_names"] ["term"] (defScope sNamesOf) := ⟨rfl, rfl, rfl, by decide +kernel, rfl, by decide +kernel, by decide +kernel⟩
def spNamesOf : Sp := fun vs H Q _ => ∃ (B : Addr → Prop) (v : V) (k : Dd), vs = [v] ∧ k.At B H v ∧ formB k = true ∧ k.sz ≤ 1000000 ∧ ∀ (u : Addr) (H' : Hp), Same H H' → H' u = some (.tup ((ownN k).map V.str)) → Q (.ref u) H'
theorem c_namesof {f : Addr} {fd : FuncData} (c_own_names : C8.Cal P w K mg base 2 "_own_names" spOwn []) (F : Fun K "names_of" "names_of" sNamesOf f fd) (b : Binds K fd ["term"] []) (hm : mg "names_of" = some (.ref f)) : C8.Cal P w K mg base 3 "names_of" spNamesOf [] := by
  refine cal_of F hm b scNamesOf (fun vs H Q E h => ?_) (fun cdv A outer s H vs Q E hr h => ?_)
  · obtain ⟨B, v, k, rfl, _⟩ := h
    rfl
  obtain ⟨B0, v, k, rfl, hat, hf, hsz, q⟩ := h
  have hos := own_sz hf
  refine ⟨_, (pss_cons (ps_set (i := 1) scNamesOf.nd rfl (Or.inl rfl) (pe_tup pa_nil))
    (pss_cons (ps_for PassesOwn.never rfl (pi_list (C8.pe_c c_own_names hr (by decide) rfl (pa_cons (pv 0) pa_nil))) (pg_name (i := 2) scNamesOf.nd rfl (Or.inl rfl))
      (pss_one (ps_aug (i := 1) scNamesOf.nd rfl (Or.inl rfl) (pv 2) ip_catA)))
    (pss_one (ps_ret (pv 1))))), ?_⟩
  refine ⟨by show 0 ≤ sizeLine; decide, fun u0 hu0 => ?_⟩
  have s0 := same_new hu0 (.tup [])
  refine ⟨_, rfl, B0, v, k, rfl, hat.keep (fr_same s0), hf, hsz, fun L xs H1 s1 hL h1 hx => ?_⟩
  refine ⟨L, rfl, ⟨_, SqL.of h1⟩, for_list (a := L) (xs := xs) (fun i σ G => ∃ (u : Addr) (v2 : Option V), σ = [some v, some (.ref u), v2] ∧ Same H1 G ∧ G u = some (.tup ((((ownD k).take i).flatten).map V.str))) ⟨u0, none, rfl, fun _ _ e => e, s1 _ _ upd_same⟩ (fun i σ G _ ⟨_, _, _, h, _⟩ => SqL.of (h _ _ h1)) ?_ ?_⟩
  · rintro i x σ G hxi ⟨u, v2, rfl, sG, hu⟩
    obtain ⟨pd, hpd, hpa⟩ := ats_get hx hxi
    rw [List.getElem?_map] at hpd
    cases hns : (ownD k)[i]? with
    | none => rw [hns] at hpd; cases hpd
    | some ns =>
      rw [hns] at hpd
      cases hpd
      obtain ⟨t, rfl, ht, hz⟩ := nameT_at hpa
      have tk : ((ownD k).take (i + 1)).flatten = ((ownD k).take i).flatten ++ ns := by
        rw [List.take_add_one, hns, List.flatten_append]
        show _ ++ (ns ++ []) = _
        rw [List.append_nil]
      have hlen := flat_take (ownD k) (i + 1)
      rw [tk, List.length_append] at hlen
      have hlen : ((ownD k).take i).flatten.length + ns.length ≤ (ownN k).length := hlen
      refine ⟨_, rfl, _, rfl, u, t, _, _, rfl, rfl, SqT.of hu, SqT.of (sG _ _ ht), ?_, fun e => ?_, fun e1 e2 => ?_, fun e1 e2 p hp => ?_⟩
      · rw [List.length_map, List.length_map]
        have := big
        omega
      · refine ⟨t, _, rfl, sG, ?_⟩
        rw [tk, List.map_append, e, List.nil_append]
        exact sG _ _ ht
      · refine ⟨u, _, rfl, sG, ?_⟩
        rw [tk, List.map_append, e2, List.append_nil]
        exact hu
      · refine ⟨p, _, rfl, sameT sG (same_new hp _), ?_⟩
        rw [upd_same, tk, List.map_append]
  rintro σ G ⟨u, v2, rfl, sG, hu⟩
  have hl := ats_len hx
  rw [List.length_map] at hl
  rw [hl, List.take_length] at hu
  exact ⟨_, rfl, q u G (sameT s0 (sameT s1 sG)) hu⟩
abbrev sScopes : Stmt := topS 42
theorem scScopes : FnScope ["term"] ["term"] (defScope sScopes) := ⟨rfl, rfl, rfl, by decide +kernel, rfl, by decide +kernel, by decide +kernel⟩
def spScopes : Sp := fun vs H Q _ => ∃ (B : Addr → Prop) (v : V) (k : Dd), vs = [v] ∧ k.At B H v ∧ formB k = true ∧ k.sz ≤ 1000000 ∧ ∀ (L : Addr) (xs : List V) (H' : Hp), Same H H' → H L = none → H' L = some (.lst xs) → Dd.Ats F0 H' ((scopesD k).map nameT) xs → Q (.ref L) H'
structure TxtS (mg : Str → Option Value) : Prop where
  zlen : mg "len" = none
  zzip : mg "zip" = none
  zsorted : mg "sorted" = none
  zsum : mg "sum" = none
theorem c_scopes {f : Addr} {fd : FuncData} (T : TxtS mg) (cnames_of : C8.Cal P w K mg base 3 "names_of" spNamesOf []) (c_own_names : C8.Cal P w K mg base 2 "_own_names" spOwn []) (cparts_of : C8.Cal P w K mg base 3 "parts_of" spParts []) (F : Fun K "scopes_of" "scopes_of" sScopes f fd) (b : Binds K fd ["term"] []) (hm : mg "scopes_of" = some (.ref f)) : C8.Cal P w K mg base 4 "scopes_of" spScopes [] := by
  refine cal_of F hm b scScopes (fun vs H Q E h => ?_) (fun cdv A outer s H vs Q E hr h => ?_)
  · obtain ⟨B, v, k, rfl, _⟩ := h
    rfl
  obtain ⟨B0, v, k, rfl, hat, hf, hsz, q⟩ := h
  refine ⟨_, (pss_cons (ps_if (pt_cmpR op_eq (pe_ix ix_tup (pv 0) pe_int (fun _ _ => rfl)) pe_str (nomark _))
      (pss_one (ps_ret (pe_op op_rep (pe_lst (pa_cons (C8.pe_c cnames_of hr (by decide) rfl (pa_cons (pv 0) pa_nil)) pa_nil)) (pe_op op_add (pe_callB call_len_seq rfl T.zlen PySem.boot_len (pa_cons (pe_ix ix_tup (pv 0) pe_int (fun _ _ => rfl)) pa_nil)) pe_int))))
      pss_nil)
    (pss_cons (ps_if (pt_cmpR op_eq (pe_ix ix_tup (pv 0) pe_int (fun _ _ => rfl)) pe_str (nomark _))
      (pss_one (ps_ret (C8.pe_c c_own_names hr (by decide) rfl (pa_cons (pv 0) pa_nil))))
      pss_nil)
    (pss_cons (ps_if (pt_cmpR op_in_seq (pe_ix ix_tup (pv 0) pe_int (fun _ _ => rfl)) (pe_tup (pa_strs (zs := ["seq", "case", "pick"]) rfl)) rfl)
      (pss_one (ps_ret (pe_lst (pa_cons (pe_tup pa_nil) (StX.pa_star (C8.pe_c c_own_names hr (by decide) rfl (pa_cons (pv 0) pa_nil)) pa_nil)))))
      pss_nil)
    (pss_one (ps_ret (pe_op op_rep (pe_lst (pa_cons (pe_tup pa_nil) pa_nil)) (pe_callB call_len_seq rfl T.zlen PySem.boot_len (pa_cons (C8.pe_c cparts_of hr (by decide) rfl (pa_cons (pv 0) pa_nil)) pa_nil)))))))), ?_⟩
  obtain ⟨z, r, rfl, hfz⟩ := form_tup hf
  obtain ⟨a, ys, rfl, ha, hys, hyl, hzl⟩ := head_at hat
  have hos := own_sz hf
  refine ⟨_, rfl, a, _, 0, _, rfl, rfl, SqT.of ha, at0 _ _, rfl, _, rfl, ?_⟩
  by_cases c1 : z = "let"
  · subst c1
    show if decide (V.str "let" = V.str "let") = true then _ else _
    rw [wtt]
    refine iteT ?_
    rw [fw_let] at hfz
    obtain ⟨h2, hn⟩ := fand hfz
    obtain ⟨h2, hrw⟩ := fand h2
    have hr2 : r.length = 2 := of_decide_eq_true h2
    obtain ⟨l, el, hrows⟩ := rows_are (show areRows 2 (arg 0 r) = true from hrw)
    obtain ⟨x, hx, hxa⟩ := arg_at (v0 := .str "let") hys (i := 0) (by omega)
    have hz := arg_sz (w := "let") (r := r) 0
    rw [el] at hxa hz
    obtain ⟨p, xs2, rfl, e2, hps⟩ := hxa
    have hxl := ats_len hps
    have hlz := szs_len l
    have hz : 1 + Dd.szs l ≤ _ := hz
    refine ⟨_, rfl, B0, .ref a, _, rfl, hat, hf, hsz, fun u H1 s1 hu => ?_⟩
    refine ⟨by show 1 ≤ sizeLine; decide, fun L0 hL0 => ?_⟩
    have s2 := same_new hL0 (.lst [.ref u])
    have e0 : upd H1 L0 (.lst [.ref u]) L0 = some (.lst [.ref u]) := upd_same
    generalize upd H1 L0 (.lst [.ref u]) = H2 at s2 e0 ⊢
    have sA := sameT s1 s2
    refine ⟨_, rfl, a, _, 1, _, rfl, rfl, SqT.of (sA _ _ ha), hx, p, _, rfl, .inr (SqT.of (sA _ _ e2)), ?_⟩
    have hbig := big
    refine ⟨_, _, rfl, rfl, L0, _, _, rfl, rfl, e0, ?_, ?_, ?_, fun L hL => ?_⟩
    · omega
    · rw [hxl]; omega
    · rw [hxl]
      show 1 * _ ≤ _
      omega
    have er : (List.replicate ((((xs2.length : Nat) : Int) + 1)).toNat [V.ref u]).flatten = List.replicate (l.length + 1) (V.ref u) := by
      rw [rep_one, hxl, show ((l.length : Int) + 1).toNat = l.length + 1 by omega]
    rw [er]
    have s3 := same_new hL (.lst (List.replicate (l.length + 1) (V.ref u)))
    refine q L _ _ (sameT sA s3) (free_of sA hL) upd_same ?_
    show Dd.Ats F0 _ ((scopesW "let" r).map nameT) _
    rw [sw_let, el]
    show Dd.Ats F0 _ ((l.map (fun _ => l.map fun q => strOf (nth 0 q)) ++ [l.map fun q => strOf (nth 0 q)]).map nameT) _
    rw [map_rep, show [l.map fun q => strOf (nth 0 q)] = List.replicate 1 (l.map fun q => strOf (nth 0 q)) from rfl, List.replicate_append_replicate, List.map_replicate]
    refine ats_rep (at_nameT (s3 _ _ (s2 _ _ ?_)) fun y hy => ?_) _
    · have e : ownN (.tup (.str "let" :: r)) = l.map fun q => strOf (nth 0 q) := by
        show (ownW "let" r).flatten = _
        rw [ow_let, el]
        exact List.append_nil _
      rw [← e]
      exact hu
    · have e : ownN (.tup (.str "let" :: r)) = l.map fun q => strOf (nth 0 q) := by
        show (ownW "let" r).flatten = _
        rw [ow_let, el]
        exact List.append_nil _
      rw [← e] at hy
      exact str_le (own_str hf y hy)
  show if decide (V.str z = V.str "let") = true then _ else _
  rw [wne c1]
  refine iteF ?_
  refine ⟨_, rfl, a, _, 0, _, rfl, rfl, SqT.of ha, at0 _ _, rfl, _, rfl, ?_⟩
  by_cases c2 : z = "lam"
  · subst c2
    show if decide (V.str "lam" = V.str "lam") = true then _ else _
    rw [wtt]
    refine iteT ?_
    refine ⟨_, rfl, B0, .ref a, _, rfl, hat, hf, hsz, fun L xs H1 s1 hL h1 hx => q L xs H1 s1 hL h1 ?_⟩
    show Dd.Ats F0 _ ((scopesW "lam" r).map nameT) _
    rw [sw_lam, ← ow_lam]
    exact hx
  show if decide (V.str z = V.str "lam") = true then _ else _
  rw [wne c2]
  refine iteF ?_
  refine ⟨_, rfl, a, _, 0, _, rfl, rfl, SqT.of ha, at0 _ _, by show 3 ≤ sizeLine; decide, fun t1 ht1 => ?_⟩
  have s1 := same_new ht1 (.tup ([("seq" : Str), "case", "pick"].map V.str))
  have e1 : upd H t1 (.tup ([("seq" : Str), "case", "pick"].map V.str)) t1 = some (.tup ([("seq" : Str), "case", "pick"].map V.str)) := upd_same
  refine ⟨t1, _, rfl, .inr (SqT.of e1), rfl, flat_strs _, _, rfl, ?_⟩
  rw [in_ifs]
  have ha1 := s1 _ _ ha
  generalize upd H t1 (.tup ([("seq" : Str), "case", "pick"].map V.str)) = H1 at s1 e1 ha1 ⊢
  by_cases c3 : z ∈ [("seq" : Str), "case", "pick"]
  · rw [decide_eq_true c3]
    refine iteT ?_
    have eS : scopesW z r = [] :: ownW z r := by
      simp only [List.mem_cons, List.not_mem_nil, or_false] at c3
      rcases c3 with rfl | rfl | rfl
      · rw [sw_seq, ow_seq]
      · rw [sw_case, ow_case]
      · rw [sw_pick, ow_pick]
    refine ⟨by show 0 ≤ sizeLine; decide, fun u0 hu0 => ?_⟩
    have s2 := same_new hu0 (.tup [])
    have e2 : upd H1 u0 (.tup []) u0 = some (.tup (([] : List Str).map V.str)) := upd_same
    generalize upd H1 u0 (.tup []) = H2 at s2 e2 ⊢
    refine ⟨_, rfl, B0, .ref a, _, rfl, hat.keep (fr_same (sameT s1 s2)), hf, hsz, fun L2 xs H3 s3 hL2 h3 hx => ?_⟩
    have hxl := ats_len hx
    rw [List.length_map] at hxl
    refine ⟨L2, xs, rfl, .inr (SqL.of h3), ?_, fun L hL => ?_⟩
    · have h5 : (ownD (.tup (.str z :: r))).length ≤ 1000000 := by
        have h6 := scopes_len hf
        have h7 : (scopesD (.tup (.str z :: r))).length = (ownD (.tup (.str z :: r))).length + 1 := by
          show (scopesW z r).length = (ownW z r).length + 1
          rw [eS]
          rfl
        have h8 := szs_len (partsD (.tup (.str z :: r)))
        omega
      have := big
      simp only [List.append_nil, List.length_cons]
      omega
    rw [show xs ++ [] = xs from List.append_nil _]
    have s4 := same_new hL (.lst (.ref u0 :: xs))
    have sA := sameT s1 (sameT s2 s3)
    refine q L _ _ (sameT sA s4) (free_of sA hL) upd_same ?_
    show Dd.Ats F0 _ ((scopesW z r).map nameT) _
    rw [eS]
    exact ats_cons (at_nameT (zs := []) (s4 _ _ (s3 _ _ e2)) fun y hy => by cases hy) (hx.keep (fr_same s4))
  rw [decide_eq_false c3]
  refine iteF ?_
  have c3' := c3
  simp only [List.mem_cons, List.not_mem_nil, or_false, not_or] at c3'
  have eS := scopes_plain hfz c2 c3'.1 c1 c3'.2.1 c3'.2.2
  refine ⟨by show 0 ≤ sizeLine; decide, fun u0 hu0 => ?_⟩
  have s2 := same_new hu0 (.tup [])
  have e2 : upd H1 u0 (.tup []) u0 = some (.tup (([] : List Str).map V.str)) := upd_same
  generalize upd H1 u0 (.tup []) = H2 at s2 e2 ⊢
  refine ⟨by show 1 ≤ sizeLine; decide, fun L0 hL0 => ?_⟩
  have s3 := same_new hL0 (.lst [.ref u0])
  have e3 : upd H2 L0 (.lst [.ref u0]) L0 = some (.lst [.ref u0]) := upd_same
  generalize upd H2 L0 (.lst [.ref u0]) = H3 at s3 e3 ⊢
  have sA := sameT s1 (sameT s2 s3)
  refine ⟨_, rfl, B0, .ref a, _, rfl, hat.keep (fr_same sA), hf, hsz, fun b2 zs H4 s4 hb2 hzs => ?_⟩
  have hzl2 := ats_len hzs
  have hpl := szs_len (partsD (.tup (.str z :: r)))
  have hbig := big
  refine ⟨b2, _, rfl, .inr (SqT.of hb2), L0, _, _, rfl, rfl, s4 _ _ e3, ?_, ?_, ?_, fun L hL => ?_⟩
  · omega
  · rw [hzl2]; omega
  · rw [hzl2]
    show 1 * _ ≤ _
    omega
  have er : (List.replicate (((zs.length : Nat) : Int)).toNat [V.ref u0]).flatten = List.replicate (partsW z r).length (V.ref u0) := by
    rw [rep_one, hzl2, Int.toNat_natCast]
    rfl
  rw [er]
  have s5 := same_new hL (.lst (List.replicate (partsW z r).length (V.ref u0)))
  have sB := sameT sA s4
  refine q L _ _ (sameT sB s5) (free_of sB hL) upd_same ?_
  show Dd.Ats F0 _ ((scopesW z r).map nameT) _
  rw [eS, map_rep, List.map_replicate]
  exact ats_rep (at_nameT (zs := []) (s5 _ _ (s4 _ _ (s3 _ _ e2))) fun y hy => by cases hy) _
end
end Toy

set_option Elab.async false
set_option linter.all false
set_option maxRecDepth 100000
set_option maxHeartbeats 4000000
/-! Part S: all names that are bound in a term, by the program and by the law. -/
namespace Toy
open PySem L2
open PyProof.Rows (envOfC)
def bndT : Nat → Dd → List Str
  | 0, _ => []
  | n + 1, k => ownN k ++ ((partsD k).map (bndT n)).flatten
theorem bndT_stab : ∀ (n m : Nat) (k : Dd), isTT k = true → k.sz ≤ n → k.sz ≤ m → bndT n k = bndT m k
  | 0, _, k, _, h, _ => by have := sz_pos k; omega
  | _ + 1, 0, k, _, _, h => by have := sz_pos k; omega
  | n + 1, m + 1, k, ht, h1, h2 => by
    obtain ⟨hf, hp⟩ := tt_parts ht
    have hs := parts_sz hf
    show ownN k ++ ((partsD k).map (bndT n)).flatten = ownN k ++ ((partsD k).map (bndT m)).flatten
    rw [List.map_congr_left fun p hp' => by
      have := szs_mem hp'
      exact bndT_stab n m p (hp p hp') (by omega) (by omega)]
/-- all names bound in a term: its own ones, then those of its parts -/
def bnd (k : Dd) : List Str := bndT k.sz k
theorem bnd_eq {k : Dd} (h : isTT k = true) : bnd k = ownN k ++ ((partsD k).map bnd).flatten := by
  obtain ⟨hf, hp⟩ := tt_parts h
  have hs := parts_sz hf
  have e : bnd k = bndT (k.sz + 1) k := bndT_stab _ _ k h (Nat.le_refl _) (Nat.le_succ _)
  rw [e]
  show ownN k ++ ((partsD k).map (bndT k.sz)).flatten = _
  rw [List.map_congr_left fun p hp' => by
    have := szs_mem hp'
    exact bndT_stab k.sz p.sz p (hp p hp') (by omega) (Nat.le_refl _)]
  rfl
theorem flat_sum (f : Dd → List Str) : ∀ l : List Dd, (∀ p ∈ l, (f p).length ≤ p.sz) → ((l.map f).flatten).length ≤ Dd.szs l
  | [], _ => Nat.le_refl _
  | p :: l, h => by
    have h1 := h p (List.mem_cons_self ..)
    have h2 := flat_sum f l fun q hq => h q (List.mem_cons_of_mem _ hq)
    rw [List.map_cons, List.flatten_cons, List.length_append]
    show _ ≤ p.sz + Dd.szs l
    omega
theorem bndT_len : ∀ (n : Nat) (k : Dd), isTT k = true → (bndT n k).length ≤ k.sz
  | 0, k, _ => Nat.zero_le _
  | n + 1, k, h => by
    obtain ⟨hf, hp⟩ := tt_parts h
    have ho := own_sz hf
    have hs := flat_sum (bndT n) (partsD k) fun p hp' => bndT_len n p (hp p hp')
    show (ownN k ++ ((partsD k).map (bndT n)).flatten).length ≤ k.sz
    rw [List.length_append]
    omega
theorem bnd_len {k : Dd} (h : isTT k = true) : (bnd k).length ≤ k.sz := bndT_len _ k h
theorem bndT_str : ∀ (n : Nat) (k : Dd), isTT k = true → ∀ s ∈ bndT n k, isName (.str s) = true
  | 0, k, _, s, hs => by cases hs
  | n + 1, k, h, s, hs => by
    obtain ⟨hf, hp⟩ := tt_parts h
    rcases List.mem_append.mp (show s ∈ ownN k ++ ((partsD k).map (bndT n)).flatten from hs) with e | e
    · exact own_str hf s e
    · obtain ⟨l, hl, hsl⟩ := List.mem_flatten.mp e
      obtain ⟨p, hp', rfl⟩ := List.mem_map.mp hl
      exact bndT_str n p (hp p hp') s hsl
theorem bnd_str {k : Dd} (h : isTT k = true) : ∀ s ∈ bnd k, isName (.str s) = true := bndT_str _ k h
theorem szs_rev : ∀ l : List Dd, Dd.szs l.reverse = Dd.szs l
  | [] => rfl
  | k :: l => by
    rw [List.reverse_cons, szs_app, szs_rev l]
    show _ + (k.sz + 0) = k.sz + _
    omega
section
variable {P : Program} {w : World} {K : PySem.W.Frag} {mg : Str → Option Value} {base : Heap}
def spBound : Sp := fun vs H Q _ => ∃ (B : Addr → Prop) (v : V) (k : Dd), vs = [v] ∧ k.At B H v ∧ isTT k = true ∧ k.sz ≤ 1000000 ∧ ∀ (L : Addr) (H' : Hp), Same H H' → H L = none → H' L = some (.lst ((bnd k).map V.str)) → Q (.ref L) H'
abbrev sLOwn : Stmt := topS 79
theorem scLOwn : FnScope ["term", "kind", "names", "row"] ["term"] (defScope sLOwn) := ⟨rfl, rfl, rfl, by decide +kernel, rfl, by decide +kernel, by decide +kernel⟩
def spLOwn : Sp := fun vs H Q _ => ∃ (B : Addr → Prop) (v : V) (k : Dd), vs = [v] ∧ k.At B H v ∧ formB k = true ∧ k.sz ≤ 1000000 ∧ ∀ (L : Addr) (H' : Hp), Same H H' → H L = none → H' L = some (.lst ((ownN k).map V.str)) → Q (.ref L) H'
theorem c_lown {f : Addr} {fd : FuncData} (T : TxtI mg) (F : Fun K "_law_own_names" "_law_own_names" sLOwn f fd) (b : Binds K fd ["term"] []) (hm : mg "_law_own_names" = some (.ref f)) : C8.Cal P w K mg base 1 "_law_own_names" spLOwn [] := by
  refine cal_of F hm b scLOwn (fun vs H Q E h => ?_) (fun cdv A outer s H vs Q E hr h => ?_)
  · obtain ⟨B, v, k, rfl, _⟩ := h
    rfl
  obtain ⟨B0, v, k, rfl, hat, hf, hsz, q⟩ := h
  refine ⟨_, (pss_cons (ps_set (i := 1) scLOwn.nd rfl (Or.inl rfl) (pe_ix ix_tup (pv 0) pe_int (fun _ _ => rfl)))
    (pss_cons (ps_if (pt_cmpR op_in_seq (pv 1) (pe_tup (pa_cons pe_str (pa_cons pe_str pa_nil))) rfl)
      (pss_one (ps_ret (pe_lst (pa_cons (pe_ix ix_tup (pv 0) pe_int (fun _ _ => rfl)) pa_nil))))
      pss_nil)
    (pss_cons (ps_set (i := 2) scLOwn.nd rfl (Or.inl rfl) (pe_lst pa_nil))
    (C8.pss_cut (ps_if (pt_cmpR op_eq (pv 1) pe_str (nomark _))
      (pss_one (ps_setLc (i := 2) (own := [("row", 3)]) (g := gName 3) (tt := tYes) (te := (tOp (rIxT K) (tVar 3) (tC (.int 0)))) rfl scLOwn.nd rfl rfl (sw_true rfl rfl rfl (by decide +kernel)) (pi_tup (pe_ix ix_tup (pv 0) pe_int (fun _ _ => rfl))) (blkOk_by (own := [("row", 3)]) (N := ["term", "kind", "names", "row"]) (sc := defScope sLOwn) (by decide +kernel)) (fun _ _ _ _ _ => (pg_name (i := 3) scLOwn.nd rfl (Or.inl rfl))) (fun _ _ _ _ _ => pts_nil) (fun _ _ _ _ _ => (pe_ix ix_tup (pv 3) pe_int (fun _ _ => rfl)))))
      pss_nil)
    (C8.pss_cut (ps_if (pt_cmpR op_eq (pv 1) pe_str (nomark _))
      (pss_one (ps_for PassesOwn.never rfl (pi_tup (pe_ix ix_tup (pv 0) pe_int (fun _ _ => rfl))) (pg_name (i := 3) scLOwn.nd rfl (Or.inl rfl))
      (pss_one (ps_set (i := 2) scLOwn.nd rfl (Or.inl rfl) (pe_op op_cat (pv 2) (pe_callTy call_list_of rfl T.zlist boot_list (pa_cons (pe_ix ix_tup (pv 3) pe_int (fun _ _ => rfl)) pa_nil)))))))
      pss_nil)
    (pss_cons (ps_if (PW.pt (pw_and (pt_cmpR op_in_seq (pv 1) (pe_tup (pa_cons pe_str (pa_cons pe_str pa_nil))) rfl) (pw_and1 (pt_cmpR op_notN (pe_ix ix_tup (pv 0) pe_int (fun _ _ => rfl)) pe_non (nomark _)))))
      (pss_one (ps_set (i := 2) scLOwn.nd rfl (Or.inl rfl) (pe_op op_cat (pv 2) (pe_lst (pa_cons (pe_ix ix_tup (pe_ix ix_tup (pv 0) pe_int (fun _ _ => rfl)) pe_int (fun _ _ => rfl)) pa_nil)))))
      pss_nil)
    (pss_one (ps_ret (pv 2))))))))), ?_⟩
  obtain ⟨z, r, rfl, hfz⟩ := form_tup hf
  obtain ⟨a, ys, rfl, ha, hys, hyl, hzl⟩ := head_at hat
  have hos := own_sz hf
  have hbig := big
  refine ⟨_, rfl, a, _, 0, _, rfl, rfl, SqT.of ha, at0 _ _, ?_⟩
  refine ⟨_, rfl, by show 2 ≤ sizeLine; decide, fun t1 ht1 => ?_⟩
  have s1 := same_new ht1 (.tup [.str "lam", .str "seq"])
  have e1 : upd H t1 (.tup [.str "lam", .str "seq"]) t1 = some (.tup ([("lam" : Str), "seq"].map V.str)) := upd_same
  refine ⟨t1, _, rfl, .inr (SqT.of e1), rfl, flat_strs _, _, rfl, ?_⟩
  rw [in_ifs]
  have ha1 := s1 _ _ ha
  have hys1 := hys.keep (fr_same s1)
  generalize upd H t1 (.tup [.str "lam", .str "seq"]) = H1 at s1 e1 ha1 hys1 ⊢
  by_cases c1 : z ∈ [("lam" : Str), "seq"]
  · rw [decide_eq_true c1]
    refine iteT ?_
    have hlen : 0 < r.length ∧ isName (arg 0 r) = true ∧ ownW z r = [[strOf (arg 0 r)]] := by
      rcases List.mem_cons.mp c1 with rfl | c
      · rw [fw_lam] at hfz
        exact ⟨by rw [of_decide_eq_true (fand hfz).1]; decide, (fand hfz).2, ow_lam r⟩
      · have c := List.mem_singleton.mp c
        subst c
        rw [fw_seq] at hfz
        exact ⟨by rw [of_decide_eq_true (fand hfz).1]; decide, (fand hfz).2, ow_seq r⟩
    obtain ⟨hl0, hn, eO⟩ := hlen
    obtain ⟨x, hx, hxa⟩ := arg_at (v0 := .str z) hys1 (i := 0) hl0
    rw [name_str hn] at hxa
    obtain ⟨rfl, hx2⟩ := (show x = .str (strOf (arg 0 r)) ∧ _ from hxa)
    refine ⟨_, rfl, a, _, 1, _, rfl, rfl, SqT.of ha1, hx, by show 1 ≤ sizeLine; decide, fun L hL => ?_⟩
    refine q L _ (sameT s1 (same_new hL _)) (free_of s1 hL) ?_
    show _ = some (HO.lst ((ownW z r).flatten.map V.str))
    rw [upd_same, eO]
    rfl
  rw [decide_eq_false c1]
  refine iteF ?_
  refine ⟨by show 0 ≤ sizeLine; decide, fun N hN => ?_⟩
  have s2 := same_new hN (.lst [])
  have e2 : upd H1 N (.lst []) N = some (.lst (([] : List Str).map V.str)) := upd_same
  have ha2 := s2 _ _ ha1
  have hys2 := hys1.keep (fr_same s2)
  have s12 := sameT s1 s2
  have hNH := free_of s1 hN
  generalize upd H1 N (.lst []) = H2 at s2 e2 ha2 hys2 s12 ⊢
  have hno : ∀ {w' : Str}, w' ∈ [("let" : Str), "case", "pick"] → True := fun _ => trivial
  refine ⟨fun σ G => ∃ (M : Addr) (ns : List Str) (v3 : Option V), σ = [some (.ref a), some (.str z), some (.ref M), v3] ∧ Same H2 G ∧ H M = none ∧ G M = some (.lst (ns.map V.str)) ∧ (z = "let" → ns = (ownW z r).flatten) ∧ (z ≠ "let" → ns = []), ?_, ?_⟩
  · refine ⟨_, rfl, rfl, _, rfl, ?_⟩
    by_cases c2 : z = "let"
    · subst c2
      show if decide (V.str "let" = V.str "let") = true then _ else _
      rw [wtt]
      refine iteT ?_
      rw [fw_let] at hfz
      obtain ⟨h2, hn⟩ := fand hfz
      obtain ⟨h2, hrw⟩ := fand h2
      have hr2 : r.length = 2 := of_decide_eq_true h2
      obtain ⟨l, el, hrows⟩ := rows_are (show areRows 2 (arg 0 r) = true from hrw)
      have hnm : ∀ q ∈ l, isName (nth 0 q) = true := by
        have h3 := (fand (fand hn).2).1
        rw [el] at h3
        have h3 : (l.map (nth 0)).all isName = true := h3
        rw [List.all_map] at h3
        exact List.all_eq_true.mp h3
      obtain ⟨x, hx, hxa⟩ := arg_at (v0 := .str "let") hys2 (i := 0) (by omega)
      have hz := arg_sz (w := "let") (r := r) 0
      rw [el] at hxa hz
      obtain ⟨p, xs2, rfl, ep, hps⟩ := hxa
      have hxl := ats_len hps
      have hlz := szs_len l
      have hz : 1 + Dd.szs l ≤ _ := hz
      refine ⟨_, rfl, a, _, 1, _, rfl, rfl, SqT.of ha2, hx, p, rfl, ⟨_, SqT.of ep⟩, fun D hD => ?_⟩
      refine lc_tup (a := p) (xs := xs2) (fun i G => Same H2 G ∧ G D = some (.lst ((((l.take i).map fun q => strOf (nth 0 q))).map V.str))) ⟨same_new hD _, upd_same⟩ (fun i G hi ⟨h, _⟩ => SqT.of (h _ _ ep)) ?_ ?_
      · rintro i x' G hx ⟨h2, h1⟩
        obtain ⟨kk, hk, hkx⟩ := ats_get hps hx
        have hil : i < l.length := (List.getElem?_eq_some_iff.mp hk).1
        obtain ⟨m, rfl, hm2⟩ := hrows kk (List.mem_of_getElem? hk)
        obtain ⟨t, x1, y1, rfl, ht, hx1, hy1⟩ := pair_at hkx hm2
        have hs1 := name_str (hnm _ (List.mem_of_getElem? hk))
        rw [hs1] at hx1
        obtain ⟨hx1, _⟩ := (show x1 = .str (strOf (nth 0 (.tup m))) ∧ _ from hx1)
        refine ⟨rfl, ?_⟩
        refine tYes_if ?_
        refine ⟨_, rfl, t, _, 0, _, rfl, rfl, SqT.of (h2 _ _ ht), at0 _ _, _, h1, ?_, same_upd hD h2 _, ?_⟩
        · rw [List.length_map, List.length_map, List.length_take]; have := Nat.min_le_right i l.length; omega
        · rw [upd_same, List.take_add_one, hk, List.map_append, List.map_append, hx1]
          rfl
      rintro G ⟨h2, h1⟩
      rw [hxl, List.take_length] at h1
      refine ⟨D, _, none, rfl, h2, free_of s12 hD, h1, fun _ => ?_, fun n => (n rfl).elim⟩
      rw [ow_let, el]
      exact (List.append_nil _).symm
    · show if decide (V.str z = V.str "let") = true then _ else _
      rw [wne c2]
      refine iteF ?_
      exact ⟨N, [], none, rfl, fun _ _ e => e, hNH, e2, fun c => (c2 c).elim, fun _ => rfl⟩
  rintro σ G ⟨M, ns, v3, rfl, sG, hMH, hM, cl, cn⟩
  have hnl : ns.length ≤ 1000000 := by
    by_cases c2 : z = "let"
    · rw [cl c2]
      have : (ownW z r).flatten.length ≤ (ownN (.tup (.str z :: r))).length := Nat.le_refl _
      omega
    · rw [cn c2]
      exact Nat.zero_le _
  refine ⟨fun σ G2 => ∃ (M : Addr) (ns : List Str) (v3 : Option V), σ = [some (.ref a), some (.str z), some (.ref M), v3] ∧ Same G G2 ∧ H M = none ∧ G2 M = some (.lst (ns.map V.str)) ∧ ns.length ≤ 1000000 ∧ (z = "case" ∨ z = "pick" → (ownW z r).flatten = ns ++ (dfltNs (arg 2 r)).flatten ∧ r.length = 3 ∧ isDflt (arg 2 r) = true) ∧ (¬ (z = "case" ∨ z = "pick") → (ownW z r).flatten = ns), ?_, ?_⟩
  · refine ⟨_, rfl, rfl, _, rfl, ?_⟩
    by_cases c3 : z = "case"
    · subst c3
      show if decide (V.str "case" = V.str "case") = true then _ else _
      rw [wtt]
      refine iteT ?_
      obtain rfl := cn (by decide +kernel)
      rw [fw_case] at hfz
      obtain ⟨h1, h4⟩ := fand hfz
      obtain ⟨h1, h3⟩ := fand h1
      obtain ⟨h1, h2⟩ := fand h1
      have hr3 : r.length = 3 := of_decide_eq_true h1
      obtain ⟨l, el, hrows⟩ := rows_are (show areRows 3 (arg 1 r) = true from h2)
      have hnn : ∀ q ∈ l, areNames (nth 1 q) = true := fun q hq => (fand (List.all_eq_true.mp h4 q (by rw [el]; exact hq))).2
      have eO : (ownW "case" r).flatten = (l.map fun q => strsOf (nth 1 q)).flatten ++ (dfltNs (arg 2 r)).flatten := by
        rw [ow_case, el, List.flatten_append]
        rfl
      have hlo : ((l.map fun q => strsOf (nth 1 q)).flatten).length ≤ 1000000 := by
        have e : (ownW "case" r).flatten.length ≤ 1000000 := by
          have : (ownW "case" r).flatten.length ≤ (ownN (.tup (.str "case" :: r))).length := Nat.le_refl _
          omega
        rw [eO, List.length_append] at e
        omega
      obtain ⟨x, hx, hxa⟩ := arg_at (v0 := .str "case") hys2 (i := 1) (by omega)
      rw [el] at hxa
      obtain ⟨p, xs2, rfl, ep, hps⟩ := hxa
      have hxl := ats_len hps
      refine ⟨_, rfl, a, _, 2, _, rfl, rfl, SqT.of (sG _ _ ha2), hx, p, rfl, ⟨_, SqT.of (sG _ _ ep)⟩, for_tup (a := p) (xs := xs2)
        (fun i σ G2 => ∃ (M : Addr) (v3 : Option V), σ = [some (.ref a), some (.str "case"), some (.ref M), v3] ∧ Same G G2 ∧ H M = none ∧ G2 M = some (.lst ((((l.take i).map fun q => strsOf (nth 1 q)).flatten).map V.str)))
        ⟨M, _, rfl, fun _ _ e => e, hMH, hM⟩ (fun i σ G2 _ ⟨_, _, _, h, _⟩ => SqT.of (h _ _ (sG _ _ ep))) ?_ ?_⟩
      · rintro i x' σ G2 hx ⟨M, v3, rfl, s2, hMH, hM⟩
        obtain ⟨kk, hk, hkx⟩ := ats_get hps hx
        obtain ⟨m, rfl, hm3⟩ := hrows kk (List.mem_of_getElem? hk)
        obtain ⟨t, x1, y1, z1, rfl, ht, hx1, hy1, hz1⟩ := three_at hkx hm3
        have hn1 := hnn _ (List.mem_of_getElem? hk)
        rw [names_back hn1] at hy1
        obtain ⟨u, rfl, hu, hu2⟩ := nameT_at hy1
        have tk : ((l.take (i + 1)).map fun q => strsOf (nth 1 q)).flatten = ((l.take i).map fun q => strsOf (nth 1 q)).flatten ++ strsOf (nth 1 (.tup m)) := by
          rw [List.take_add_one, hk, List.map_append, List.flatten_append]
          show _ ++ (strsOf (nth 1 (.tup m)) ++ []) = _
          rw [List.append_nil]
        have hlt := flat_take (l.map fun q => strsOf (nth 1 q)) (i + 1)
        rw [← List.map_take, tk, List.length_append] at hlt
        refine ⟨_, rfl, _, rfl, t, _, 1, _, rfl, rfl, SqT.of (s2 _ _ (sG _ _ ht)), at1 _ _ _, u, _, rfl, .inr (SqT.of (s2 _ _ (sG _ _ hu))), fun l8 hl8 => ?_⟩
        have s8 := same_new hl8 (.lst ((strsOf (nth 1 (.tup m))).map V.str))
        refine ⟨M, l8, _, _, rfl, rfl, s8 _ _ hM, upd_same, ?_, fun p9 hp9 => ?_⟩
        · rw [List.length_map, List.length_map]
          omega
        refine ⟨p9, _, rfl, sameT s2 (sameT s8 (same_new hp9 _)), free_of s12 (free_of sG (free_of s2 (free_of s8 hp9))), ?_⟩
        rw [upd_same, tk, List.map_append]
      rintro σ G2 ⟨M, v3, rfl, s2, hMH, hM⟩
      rw [hxl, List.take_length] at hM
      exact ⟨M, _, v3, rfl, s2, hMH, hM, hlo, fun _ => ⟨eO, hr3, h3⟩, fun n => (n (.inl rfl)).elim⟩
    · show if decide (V.str z = V.str "case") = true then _ else _
      rw [wne c3]
      refine iteF ?_
      refine ⟨M, ns, v3, rfl, fun _ _ e => e, hMH, hM, hnl, fun c => ?_, fun c => ?_⟩
      · obtain c4 := c.resolve_left c3
        subst c4
        rw [fw_pick] at hfz
        obtain ⟨h1, h4⟩ := fand hfz
        obtain ⟨h1, h3⟩ := fand h1
        obtain ⟨h1, h2⟩ := fand h1
        rw [cn (by decide +kernel), ow_pick, List.flatten_append, nil_own]
        exact ⟨rfl, of_decide_eq_true h1, h3⟩
      · by_cases c2 : z = "let"
        · exact (cl c2).symm
        · rw [cn c2, ow_other r (by
            simp only [List.mem_cons, List.not_mem_nil, or_false, not_or] at c1 ⊢
            exact ⟨c1.1, c1.2, c2, c3, fun e => c (.inr e)⟩)]
          rfl
  clear cl cn hnl hM hMH
  rintro σ G2 ⟨M, ns, v3, rfl, sG2, hMH, hM, hnl, hc, hnc⟩
  have s2' := sameT sG sG2
  refine ⟨_, rfl, by show 2 ≤ sizeLine; decide, fun t3 ht3 => ?_⟩
  have s3 := same_new ht3 (.tup [.str "case", .str "pick"])
  have e3 : upd G2 t3 (.tup [.str "case", .str "pick"]) t3 = some (.tup ([("case" : Str), "pick"].map V.str)) := upd_same
  have hM3 := s3 _ _ hM
  generalize upd G2 t3 (.tup [.str "case", .str "pick"]) = G3 at s3 e3 hM3 ⊢
  have sA := sameT s2' s3
  refine ⟨t3, _, rfl, .inr (SqT.of e3), rfl, flat_strs _, ?_⟩
  rw [in_ifs]
  refine ⟨_, rfl, ?_⟩
  by_cases c4 : z ∈ [("case" : Str), "pick"]
  · rw [decide_eq_true c4]
    refine iteT ?_
    have c5 : z = "case" ∨ z = "pick" := by simpa using c4
    obtain ⟨eO, hr3, hd⟩ := hc c5
    obtain ⟨x, hx, hxa⟩ := arg_at (v0 := .str z) hys2 (i := 2) (by omega)
    refine ⟨_, rfl, a, _, 3, _, rfl, rfl, SqT.of (sA _ _ ha2), hx, rfl, _, rfl, ?_⟩
    show if (!decide (x = V.non)) = true then _ else _
    match h5 : arg 2 r, hd, hxa with
    | .non, _, hxa =>
      cases (show x = .non from hxa)
      rw [decide_eq_true rfl]
      refine iteF ?_
      rw [h5] at eO
      refine ⟨_, rfl, q M G3 (sameT s12 sA) hMH ?_⟩
      show _ = some (HO.lst ((ownW z r).flatten.map V.str))
      rw [eO, show (dfltNs Dd.non).flatten = [] from rfl, List.append_nil]
      exact hM3
    | .tup l, hd, hxa =>
      obtain ⟨hl2, hn⟩ := fand hd
      have hl2 : l.length = 2 := of_decide_eq_true hl2
      obtain ⟨b2, xs2, rfl, hb, hbs⟩ := hxa
      rw [decide_eq_false (by intro e; cases e)]
      refine iteT ?_
      obtain ⟨y, hy, hya⟩ := nth_at hbs (i := 0) (by omega)
      have hn0 : isName (nth 0 (.tup l)) = true := hn
      rw [name_str hn0] at hya
      obtain ⟨rfl, hyl2⟩ := (show y = .str (strOf (nth 0 (.tup l))) ∧ _ from hya)
      rw [h5] at eO
      refine ⟨_, rfl, _, rfl, a, _, 3, _, rfl, rfl, SqT.of (sA _ _ ha2), hx, b2, _, 0, _, rfl, rfl, SqT.of (sA _ _ hb), hy, by show 1 ≤ sizeLine; decide, fun l8 hl8 => ?_⟩
      have s8 := same_new hl8 (.lst [.str (strOf (nth 0 (.tup l)))])
      refine ⟨M, l8, _, _, rfl, rfl, s8 _ _ hM3, upd_same, ?_, fun p9 hp9 => ?_⟩
      · rw [List.length_map]
        show ns.length + 1 ≤ _
        omega
      have sB := sameT s8 (same_new hp9 (.lst (ns.map V.str ++ [.str (strOf (nth 0 (.tup l)))])))
      refine ⟨_, rfl, q p9 _ (sameT s12 (sameT sA sB)) (free_of s12 (free_of sA (free_of s8 hp9))) ?_⟩
      show _ = some (HO.lst ((ownW z r).flatten.map V.str))
      rw [upd_same, eO, List.map_append]
      rfl
  · rw [decide_eq_false c4]
    refine iteF (iteF ?_)
    refine ⟨_, rfl, q M G3 (sameT s12 sA) hMH ?_⟩
    show _ = some (HO.lst ((ownW z r).flatten.map V.str))
    rw [hnc (fun c => c4 (by simpa using c))]
    exact hM3
abbrev sLBound : Stmt := topS 82
theorem scLBound : FnScope ["term", "names", "bound", "part"] ["term"] (defScope sLBound) := ⟨rfl, rfl, rfl, by decide +kernel, rfl, by decide +kernel, by decide +kernel⟩
def spLBound (n : Nat) : Sp := fun vs H Q _ => ∃ (B : Addr → Prop) (v : V) (k : Dd), vs = [v] ∧ k.At B H v ∧ isN n k = true ∧ k.sz ≤ 1000000 ∧ (∀ a, H a = none → ¬ B a) ∧ ∀ (L : Addr) (H' : Hp), Same H H' → H L = none → H' L = some (.lst ((bnd k).map V.str)) → Q (.ref L) H'
theorem c_lbound1 {f : Addr} {fd : FuncData} (c_law_own_names : C8.Cal P w K mg base 1 "_law_own_names" spLOwn []) (c_law_inner : C8.Cal P w K mg base 1 "_law_inner" spInner []) {n : Nat} (c_law_bound : C8.Cal P w K mg base (n + 1) "_law_bound" (spLBound n) []) (F : Fun K "_law_bound" "_law_bound" sLBound f fd) (b : Binds K fd ["term"] []) (hm : mg "_law_bound" = some (.ref f)) : C8.Cal P w K mg base (n + 1 + 1) "_law_bound" (spLBound (n + 1)) [] := by
  refine cal_of F hm b scLBound (fun vs H Q E h => ?_) (fun cdv A outer s H vs Q E hr h => ?_)
  · obtain ⟨B, v, k, rfl, _⟩ := h
    rfl
  obtain ⟨B0, v, k, rfl, hat, hN, hsz, hnB, q⟩ := h
  obtain ⟨hf, hpN⟩ := fand hN
  have hf := (fand hf).1
  have hpN := List.all_eq_true.mp hpN
  have hps := parts_sz hf
  have hos := own_sz hf
  have hbig := big
  have htt := isN_T _ _ hN
  refine ⟨_, (pss_cons (ps_set (i := 1) scLBound.nd rfl (Or.inl rfl) (C8.pe_c c_law_own_names hr (by omega) rfl (pa_cons (pv 0) pa_nil)))
    (pss_cons (ps_for PassesOwn.never rfl (pi_list (C8.pe_c c_law_inner hr (by omega) rfl (pa_cons (pv 0) pa_nil))) (pg_tup rfl (pgs_cons (pg_name (i := 2) scLBound.nd rfl (Or.inl rfl)) (pgs_cons (pg_name (i := 3) scLBound.nd rfl (Or.inl rfl)) pgs_nil)))
      (pss_one (ps_set (i := 1) scLBound.nd rfl (Or.inl rfl) (pe_op op_cat (pv 1) (C8.pe_c c_law_bound hr (by omega) rfl (pa_cons (pv 3) pa_nil))))))
    (pss_one (ps_ret (pv 1))))), ?_⟩
  refine ⟨_, rfl, B0, v, k, rfl, hat, hf, hsz, fun N H0 s0 hN0 h0 => ?_⟩
  refine ⟨_, rfl, B0, v, k, rfl, hat.keep (fr_same s0), hf, hsz, fun b hb => hnB b (free_of s0 hb), fun L xs H1 s1 hL h1 hx => ?_⟩
  refine ⟨L, rfl, ⟨_, SqL.of h1⟩, for_list (a := L) (xs := xs) (fun i σ G => ∃ (M : Addr) (v2 v3 : Option V), σ = [some v, some (.ref M), v2, v3] ∧ Same H1 G ∧ H M = none ∧ G M = some (.lst ((ownN k ++ (((partsD k).take i).map bnd).flatten).map V.str))) ⟨N, _, _, rfl, fun _ _ e => e, hN0, by rw [List.take_zero]; show _ = some (HO.lst ((ownN k ++ []).map V.str)); rw [List.append_nil]; exact s1 _ _ h0⟩ (fun i σ G _ ⟨_, _, _, _, h, _⟩ => SqL.of (h _ _ h1)) ?_ ?_⟩
  · rintro i x σ G hxi ⟨M, v2, v3, rfl, sG, hMH, hM⟩
    obtain ⟨pd, hpd, hpa⟩ := ats_get hx hxi
    obtain ⟨ns, p, hns, hp, rfl⟩ := List.getElem?_zipWith_eq_some.mp hpd
    obtain ⟨t, x1, y1, rfl, ht, hx1, hy1⟩ := pair_at (m := [nameT ns, p]) hpa rfl
    have hpm := List.mem_of_getElem? hp
    have hpz := szs_mem hpm
    have hy1 : p.At B0 H1 y1 := hy1
    have tk : (((partsD k).take (i + 1)).map bnd).flatten = (((partsD k).take i).map bnd).flatten ++ bnd p := by
      rw [List.take_add_one, hp, List.map_append, List.flatten_append]
      show _ ++ (bnd p ++ []) = _
      rw [List.append_nil]
    have hlt := flat_take ((partsD k).map bnd) (i + 1)
    rw [← List.map_take, tk, List.length_append] at hlt
    have hbl := bnd_len htt
    rw [bnd_eq htt, List.length_append] at hbl
    refine ⟨t, _, rfl, SqT.of (sG _ _ ht), rfl, _, _, rfl, _, _, rfl, rfl, ?_⟩
    refine ⟨_, rfl, _, rfl, B0, y1, p, rfl, hy1.keep (fr_same sG), hpN p hpm, by omega, fun b hb => hnB b (free_of (sameT s0 (sameT s1 sG)) hb), fun L2 G2 s2 hL2 h2 => ?_⟩
    refine ⟨M, L2, _, _, rfl, rfl, s2 _ _ hM, h2, ?_, fun p9 hp9 => ?_⟩
    · rw [List.length_map, List.length_map, List.length_append]
      omega
    refine ⟨p9, some x1, some y1, rfl, sameT sG (sameT s2 (same_new hp9 _)), free_of (sameT s0 (sameT s1 (sameT sG s2))) hp9, ?_⟩
    rw [upd_same, tk, ← List.append_assoc, List.map_append (l₂ := bnd p)]
  rintro σ G ⟨M, v2, v3, rfl, sG, hMH, hM⟩
  have hl := ats_len hx
  have hl2 : xs.length = (partsD k).length := by
    rw [hl]
    unfold innerD
    rw [List.length_zipWith, scopes_len hf, Nat.min_self]
  rw [hl2, List.take_length, ← bnd_eq htt] at hM
  exact ⟨_, rfl, q M G (sameT s0 (sameT s1 sG)) hMH hM⟩
theorem c_lbound {f : Addr} {fd : FuncData} (c_law_own_names : C8.Cal P w K mg base 1 "_law_own_names" spLOwn []) (c_law_inner : C8.Cal P w K mg base 1 "_law_inner" spInner []) (F : Fun K "_law_bound" "_law_bound" sLBound f fd) (b : Binds K fd ["term"] []) (hm : mg "_law_bound" = some (.ref f)) : ∀ n : Nat, C8.Cal P w K mg base (n + 1) "_law_bound" (spLBound n) []
  | 0 => cal_none F hm b fun vs H Q E h => by
    obtain ⟨B, v, k, _, _, h, _⟩ := h
    cases h
  | n + 1 => c_lbound1 c_law_own_names c_law_inner (c_lbound c_law_own_names c_law_inner F b hm n) F b hm
end
end Toy

set_option Elab.async false
set_option linter.all false
set_option maxRecDepth 100000
set_option maxHeartbeats 4000000
/-! Part T: the names that occur free in a term, in plain Lean; tasks of a walk. -/
namespace Toy
open PySem L2
open PyProof.Rows (envOfC)
def varD (s : Str) : Dd := .tup [.str "var", .str s]
def frT : Nat → Dd → Str → Prop
  | 0, _, _ => False
  | n + 1, k, s => k = varD s ∨ ∃ q ∈ (scopesD k).zip (partsD k), s ∉ q.1 ∧ frT n q.2 s
theorem zip_part {k : Dd} {q : List Str × Dd} (h : q ∈ (scopesD k).zip (partsD k)) : q.2 ∈ partsD k := (List.of_mem_zip (a := q.1) (b := q.2) h).2
theorem frT_stab : ∀ (n m : Nat) (k : Dd) (s : Str), isTT k = true → k.sz ≤ n → k.sz ≤ m → (frT n k s ↔ frT m k s)
  | 0, _, k, _, _, h, _ => by have := sz_pos k; omega
  | _ + 1, 0, k, _, _, _, h => by have := sz_pos k; omega
  | n + 1, m + 1, k, s, ht, h1, h2 => by
    obtain ⟨hf, hp⟩ := tt_parts ht
    have hs := parts_sz hf
    show (k = varD s ∨ _) ↔ (k = varD s ∨ _)
    have st : ∀ q ∈ (scopesD k).zip (partsD k), (frT n q.2 s ↔ frT m q.2 s) := fun q hq => by
      have := szs_mem (zip_part hq)
      exact frT_stab n m q.2 s (hp _ (zip_part hq)) (by omega) (by omega)
    constructor
    · rintro (h | ⟨q, h3, h4, h5⟩)
      · exact .inl h
      · exact .inr ⟨q, h3, h4, (st q h3).mp h5⟩
    · rintro (h | ⟨q, h3, h4, h5⟩)
      · exact .inl h
      · exact .inr ⟨q, h3, h4, (st q h3).mpr h5⟩
/-- the name occurs free -/
def fr (k : Dd) (s : Str) : Prop := frT k.sz k s
theorem fr_eq {k : Dd} (h : isTT k = true) (s : Str) : fr k s ↔ k = varD s ∨ ∃ q ∈ (scopesD k).zip (partsD k), s ∉ q.1 ∧ fr q.2 s := by
  obtain ⟨hf, hp⟩ := tt_parts h
  have hs := parts_sz hf
  have e : fr k s ↔ frT (k.sz + 1) k s := frT_stab _ _ k s h (Nat.le_refl _) (Nat.le_succ _)
  rw [e]
  show (k = varD s ∨ _) ↔ _
  have st : ∀ q ∈ (scopesD k).zip (partsD k), (frT k.sz q.2 s ↔ fr q.2 s) := fun q hq => by
    have := szs_mem (zip_part hq)
    exact frT_stab _ _ q.2 s (hp _ (zip_part hq)) (by omega) (Nat.le_refl _)
  constructor
  · rintro (h | ⟨q, h3, h4, h5⟩)
    · exact .inl h
    · exact .inr ⟨q, h3, h4, (st q h3).mp h5⟩
  · rintro (h | ⟨q, h3, h4, h5⟩)
    · exact .inl h
    · exact .inr ⟨q, h3, h4, (st q h3).mpr h5⟩
theorem fr_var {s t : Str} (h : isTT (varD s) = true) : fr (varD s) t ↔ t = s := by
  rw [fr_eq h]
  have e : partsD (varD s) = [] := pw_var _
  rw [e, List.zip_nil_right]
  constructor
  · rintro (h | ⟨q, h, _⟩)
    · have h : Dd.tup [.str "var", .str s] = .tup [.str "var", .str t] := h
      simp only [Dd.tup.injEq, List.cons.injEq, Dd.str.injEq, and_true, true_and] at h
      exact h.symm
    · cases h
  · intro e
    exact .inl (by rw [e])
theorem var_word {s : Str} {w : Str} {r : List Dd} (h : Dd.tup (.str w :: r) = varD s) : w = "var" := by
  have h : Dd.tup (.str w :: r) = .tup [.str "var", .str s] := h
  simp only [Dd.tup.injEq, List.cons.injEq, Dd.str.injEq] at h
  exact h.1
theorem fr_str : ∀ (n : Nat) (k : Dd) (s : Str), isTT k = true → frT n k s → isName (.str s) = true
  | 0, _, _, _, h => h.elim
  | n + 1, k, s, ht, h => by
    obtain ⟨hf, hp⟩ := tt_parts ht
    rcases h with e | ⟨q, h3, _, h5⟩
    · rw [e] at hf
      have hf : formW "var" [.str s] = true := hf
      rw [fw_var] at hf
      exact (fand hf).2
    · exact fr_str n q.2 s (hp _ (zip_part h3)) h5
theorem scopes_own {k : Dd} (h : formB k = true) : ∀ ns ∈ scopesD k, ∀ s ∈ ns, s ∈ ownN k := by
  obtain ⟨z, r, rfl, hf⟩ := form_tup h
  intro ns hns s hs
  show s ∈ (ownW z r).flatten
  have hns : ns ∈ scopesW z r := hns
  by_cases c1 : z = "lam"
  · subst c1
    rw [sw_lam] at hns
    rw [ow_lam]
    exact List.mem_flatten.mpr ⟨ns, hns, hs⟩
  by_cases c2 : z = "seq"
  · subst c2
    rw [sw_seq] at hns
    rw [ow_seq]
    rcases List.mem_cons.mp hns with e | e
    · rw [e] at hs; cases hs
    · exact List.mem_flatten.mpr ⟨ns, e, hs⟩
  by_cases c3 : z = "let"
  · subst c3
    rw [sw_let] at hns
    rw [ow_let]
    refine List.mem_flatten.mpr ⟨ns, ?_, hs⟩
    rcases List.mem_append.mp hns with e | e
    · obtain ⟨q, _, rfl⟩ := List.mem_map.mp e
      exact List.mem_singleton.mpr rfl
    · exact e
  by_cases c4 : z = "case"
  · subst c4
    rw [sw_case] at hns
    rw [ow_case]
    rcases List.mem_cons.mp hns with e | e
    · rw [e] at hs; cases hs
    · exact List.mem_flatten.mpr ⟨ns, e, hs⟩
  by_cases c5 : z = "pick"
  · subst c5
    rw [sw_pick] at hns
    rw [ow_pick]
    rcases List.mem_cons.mp hns with e | e
    · rw [e] at hs; cases hs
    · exact List.mem_flatten.mpr ⟨ns, e, hs⟩
  rw [scopes_plain hf c1 c2 c3 c4 c5] at hns
  obtain ⟨q, _, rfl⟩ := List.mem_map.mp hns
  cases hs
/-! ### how often names are bound -/
def bump (c : Str → Int) (ns : List Str) (d : Int) : Str → Int := fun s => c s + d * ((ns.count s : Nat) : Int)
theorem bump_back (c : Str → Int) (ns : List Str) : bump (bump c ns 1) ns (-1) = c := by
  funext s
  show c s + 1 * _ + -1 * _ = c s
  omega
theorem bump_snoc (c : Str → Int) (ns : List Str) (x : Str) (d : Int) : bump (bump c ns d) [x] d = bump c (ns ++ [x]) d := by
  funext s
  show c s + d * _ + d * _ = c s + d * (((ns ++ [x]).count s : Nat) : Int)
  rw [List.count_append, Int.natCast_add, Int.mul_add]
  omega
theorem bump_nil (c : Str → Int) (d : Int) : bump c [] d = c := by
  funext s
  show c s + d * ((0 : Nat) : Int) = c s
  simp
inductive Tk
  | vis (k : Dd)
  | chg (ns : List Str) (d : Int)
def tkD : Tk → Dd
  | .vis k => .tup [k, nameT [], .int 0]
  | .chg ns d => .tup [.non, nameT ns, .int d]
/-- what is found from now on; the task that is next stands first -/
def frS : (Str → Int) → List Tk → Str → Prop
  | _, [], _ => False
  | c, .vis k :: rs, s => (fr k s ∧ c s = 0) ∨ frS c rs s
  | c, .chg ns d :: rs, s => frS (bump c ns d) rs s
def okS : (Str → Int) → List Tk → Prop
  | _, [] => True
  | c, .vis _ :: rs => (∀ s, 0 ≤ c s) ∧ okS c rs
  | c, .chg ns d :: rs => okS (bump c ns d) rs
def trip (q : List Str × Dd) : List Tk := [.chg q.1 1, .vis q.2, .chg q.1 (-1)]
theorem bump0 {c : Str → Int} {ns : List Str} {s : Str} (h : 0 ≤ c s) : bump c ns 1 s = 0 ↔ c s = 0 ∧ s ∉ ns := by
  show c s + 1 * ((ns.count s : Nat) : Int) = 0 ↔ _
  rw [← List.count_eq_zero]
  omega
theorem bump_pos {c : Str → Int} {ns : List Str} (h : ∀ s, 0 ≤ c s) (s : Str) : 0 ≤ bump c ns 1 s := by
  have := h s
  show 0 ≤ c s + 1 * ((ns.count s : Nat) : Int)
  omega
theorem frS_trips : ∀ (L : List (List Str × Dd)) (c : Str → Int) (rs : List Tk) (s : Str), (∀ s, 0 ≤ c s) → (frS c ((L.map trip).flatten ++ rs) s ↔ ((∃ q ∈ L, s ∉ q.1 ∧ fr q.2 s) ∧ c s = 0) ∨ frS c rs s)
  | [], c, rs, s, h => by
    constructor
    · exact .inr
    · rintro (⟨⟨q, h, _⟩, _⟩ | h)
      · cases h
      · exact h
  | q :: L, c, rs, s, h => by
    have ih := frS_trips L c rs s h
    show ((fr q.2 s ∧ bump c q.1 1 s = 0) ∨ frS (bump (bump c q.1 1) q.1 (-1)) ((L.map trip).flatten ++ rs) s) ↔ _
    rw [bump_back, ih, bump0 (h s)]
    constructor
    · rintro (⟨h1, h2, h3⟩ | ⟨⟨p, h1, h2⟩, h3⟩ | h1)
      · exact .inl ⟨⟨q, List.mem_cons_self .., h3, h1⟩, h2⟩
      · exact .inl ⟨⟨p, List.mem_cons_of_mem _ h1, h2⟩, h3⟩
      · exact .inr h1
    · rintro (⟨⟨p, h1, h2⟩, h3⟩ | h1)
      · rcases List.mem_cons.mp h1 with e | e
        · rw [e] at h2
          exact .inl ⟨h2.2, h3, h2.1⟩
        · exact .inr (.inl ⟨⟨p, e, h2⟩, h3⟩)
      · exact .inr (.inr h1)
theorem okS_trips : ∀ (L : List (List Str × Dd)) (c : Str → Int) (rs : List Tk), (∀ s, 0 ≤ c s) → okS c rs → okS c ((L.map trip).flatten ++ rs)
  | [], _, _, _, h => h
  | q :: L, c, rs, h, k => by
    refine ⟨bump_pos h, ?_⟩
    show okS (bump (bump c q.1 1) q.1 (-1)) ((L.map trip).flatten ++ rs)
    rw [bump_back]
    exact okS_trips L c rs h k
def tripR (q : List Str × Dd) : List Tk := [.chg q.1 (-1), .vis q.2, .chg q.1 1]
theorem trips_rev (L : List (List Str × Dd)) : ((L.map tripR).flatten).reverse = (L.reverse.map trip).flatten := by
  rw [List.reverse_flatten, List.map_map, List.map_reverse]
  rfl
theorem rev_frs {L : List (List Str × Dd)} {s : Str} : (∃ q ∈ L.reverse, s ∉ q.1 ∧ fr q.2 s) ↔ ∃ q ∈ L, s ∉ q.1 ∧ fr q.2 s :=
  ⟨fun ⟨q, h, k⟩ => ⟨q, List.mem_reverse.mp h, k⟩, fun ⟨q, h, k⟩ => ⟨q, List.mem_reverse.mpr h, k⟩⟩
/-! ### measures -/
def wtk : Tk → Nat
  | .vis k => 3 * k.sz - 2
  | .chg _ _ => 1
def wts : List Tk → Nat
  | [] => 0
  | t :: l => wtk t + wts l
def vsz : List Tk → Nat
  | [] => 0
  | .vis k :: l => k.sz + vsz l
  | .chg _ _ :: l => vsz l
theorem wts_app : ∀ a b : List Tk, wts (a ++ b) = wts a + wts b
  | [], b => (Nat.zero_add _).symm
  | t :: a, b => by
    show wtk t + wts (a ++ b) = wtk t + wts a + wts b
    rw [wts_app a b]
    omega
theorem vsz_app : ∀ a b : List Tk, vsz (a ++ b) = vsz a + vsz b
  | [], b => (Nat.zero_add _).symm
  | .vis k :: a, b => by
    show k.sz + vsz (a ++ b) = k.sz + vsz a + vsz b
    rw [vsz_app a b]
    omega
  | .chg _ _ :: a, b => vsz_app a b
theorem wts_len : ∀ l : List Tk, l.length ≤ wts l
  | [] => Nat.le_refl _
  | .vis k :: l => by
    have h1 := wts_len l
    have h2 := sz_pos k
    show l.length + 1 ≤ (3 * k.sz - 2) + wts l
    omega
  | .chg _ _ :: l => by
    have h1 := wts_len l
    show l.length + 1 ≤ 1 + wts l
    omega
theorem wts_trips : ∀ L : List (List Str × Dd), wts ((L.map tripR).flatten) = 3 * Dd.szs (L.map (·.2))
  | [] => rfl
  | q :: L => by
    have h1 := wts_trips L
    have h2 := sz_pos q.2
    rw [List.map_cons, List.flatten_cons, wts_app, h1]
    show (1 + ((3 * q.2.sz - 2) + (1 + 0))) + _ = 3 * (q.2.sz + Dd.szs (L.map (·.2)))
    omega
theorem vsz_trips : ∀ L : List (List Str × Dd), vsz ((L.map tripR).flatten) = Dd.szs (L.map (·.2))
  | [] => rfl
  | q :: L => by
    rw [List.map_cons, List.flatten_cons, vsz_app, vsz_trips L]
    show (q.2.sz + 0) + _ = q.2.sz + Dd.szs (L.map (·.2))
    omega
theorem len_trips : ∀ L : List (List Str × Dd), ((L.map tripR).flatten).length = 3 * L.length
  | [] => rfl
  | q :: L => by
    rw [List.map_cons, List.flatten_cons, List.length_append, len_trips L]
    show 3 + _ = 3 * (L.length + 1)
    omega
def tkOk (U : List Str) : Tk → Prop
  | .vis p => isTT p = true ∧ ∀ s ∈ bnd p, s ∈ U
  | .chg ns d => (∀ s ∈ ns, s ∈ U) ∧ (d = 1 ∨ d = -1)
/-! ### dicts of names -/
def setS (ks : List Str) : List (Key × V) := ks.map fun s => (Sum.inr s, V.bl true)
def addS (ks : List Str) (s : Str) : List Str := if s ∈ ks then ks else ks ++ [s]
theorem get_setS (ks : List Str) (s : Str) : valV (setS ks) (Sum.inr s) = if s ∈ ks then some (V.bl true) else none := by
  induction ks with
  | nil => rfl
  | cons x r ih =>
    unfold setS at ih ⊢
    rw [List.map_cons]
    by_cases e : x = s
    · rw [valV_pos (by rw [e]), if_pos (by rw [e]; exact List.mem_cons_self ..)]
    · rw [valV_neg (fun z => e (Sum.inr.inj z)), ih]
      by_cases h : s ∈ r
      · rw [if_pos h, if_pos (List.mem_cons_of_mem _ h)]
      · rw [if_neg h, if_neg (fun z => (List.mem_cons.mp z).elim (fun q => e q.symm) h)]
theorem put_setS (ks : List Str) (s : Str) : putK (setS ks) (Sum.inr s) (V.bl true) = setS (addS ks s) := by
  unfold addS
  by_cases h : s ∈ ks
  · rw [if_pos h]
    have e : ((setS ks).any fun kv => decide (kv.1 = (Sum.inr s : Key))) = true := by
      rw [List.any_eq_true]
      exact ⟨(Sum.inr s, V.bl true), List.mem_map.mpr ⟨s, h, rfl⟩, decide_eq_true rfl⟩
    unfold putK
    rw [if_pos e]
    unfold setS
    rw [List.map_map]
    refine List.map_congr_left fun x _ => ?_
    show (if (Sum.inr x : Key) = Sum.inr s then (Sum.inr x, V.bl true) else (Sum.inr x, V.bl true)) = _
    split <;> rfl
  · rw [if_neg h, putK_new _ (by rw [get_setS, if_neg h])]
    unfold setS
    rw [List.map_append]
    rfl
theorem mem_addS {ks : List Str} {s t : Str} : t ∈ addS ks s ↔ t ∈ ks ∨ t = s := by
  unfold addS
  split
  · next h => exact ⟨.inl, fun q => q.elim id fun e => e ▸ h⟩
  · rw [List.mem_append, List.mem_singleton]
theorem nodup_addS {ks : List Str} {s : Str} (h : ks.Nodup) : (addS ks s).Nodup := by
  unfold addS
  split
  · exact h
  · next n => exact List.nodup_append.mpr ⟨h, List.pairwise_singleton _ _, fun a ha b hb e => n (by rw [← List.mem_singleton.mp hb, ← e]; exact ha)⟩
theorem len_addS (ks : List Str) (s : Str) : (addS ks s).length ≤ ks.length + 1 := by
  unfold addS
  split
  · omega
  · rw [List.length_append]; exact Nat.le_refl _
/-- a dict that tells how often names are bound -/
structure BAt (kvs : List (Key × V)) (c : Str → Int) (U : List Str) : Prop where
  val : ∀ s, (valV kvs (Sum.inr s)).getD (.int 0) = .int (c s)
  keys : ∃ ks : List Str, kvs.map (·.1) = ks.map Sum.inr ∧ ks.Nodup ∧ ∀ s ∈ ks, s ∈ U
theorem BAt.len {kvs : List (Key × V)} {c : Str → Int} {U : List Str} (h : BAt kvs c U) : kvs.length ≤ U.length := by
  obtain ⟨ks, e, n, m⟩ := h.keys
  have e := congrArg List.length e
  rw [List.length_map, List.length_map] at e
  rw [e]
  exact nodup_len n m
theorem BAt.put {kvs : List (Key × V)} {c : Str → Int} {U : List Str} (h : BAt kvs c U) {x : Str} (d : Int) (hx : x ∈ U) : BAt (putK kvs (Sum.inr x) (.int (c x + d))) (bump c [x] d) U := by
  refine ⟨fun s => ?_, ?_⟩
  · rw [valV_put]
    by_cases e : (Sum.inr s : Key) = Sum.inr x
    · rw [if_pos e]
      cases e
      show V.int (c x + d) = .int (c x + d * (([x].count x : Nat) : Int))
      rw [List.count_singleton_self]
      congr 1
      omega
    · rw [if_neg e, h.val s]
      have n : s ≠ x := fun z => e (by rw [z])
      show V.int (c s) = .int (c s + d * (([x].count s : Nat) : Int))
      rw [List.count_eq_zero.mpr (by rw [List.mem_singleton]; exact n)]
      congr 1
      show c s = c s + d * 0
      omega
  · obtain ⟨ks, e, n, m⟩ := h.keys
    refine ⟨addS ks x, ?_, nodup_addS n, fun s hs => (mem_addS.mp hs).elim (m s) fun z => z ▸ hx⟩
    rw [putK_keys, e]
    unfold addS
    by_cases hm : x ∈ ks
    · rw [if_pos hm, if_pos]
      rw [List.any_eq_true]
      exact ⟨Sum.inr x, List.mem_map.mpr ⟨x, hm, rfl⟩, decide_eq_true rfl⟩
    · rw [if_neg hm, if_neg, List.map_append]
      · rfl
      · rw [List.any_eq_true]
        rintro ⟨j, hj, hj2⟩
        obtain ⟨y, hy, rfl⟩ := List.mem_map.mp hj
        have : y = x := Sum.inr.inj (of_decide_eq_true hj2)
        exact hm (this ▸ hy)
theorem fr_f0 {B : Addr → Prop} {H H' : Hp} (f : Fr B H H') : Fr F0 H H' := ⟨f.1, fun _ _ z => z.elim⟩
end Toy

set_option Elab.async false
set_option linter.all false
set_option maxRecDepth 100000
set_option maxHeartbeats 4000000
/-! Part U: free_names; the law's own. -/
namespace Toy
open PySem L2
open PyProof.Rows (envOfC)
theorem line9 : (9000000 : Nat) < sizeLine := by decide
theorem zip_fst {α β : Type} : ∀ {l : List α} {m : List β}, l.length = m.length → (l.zip m).map (·.2) = m
  | [], [], _ => rfl
  | a :: l, b :: m, h => by
    show b :: (l.zip m).map (·.2) = b :: m
    rw [zip_fst (Nat.succ.inj h)]
  | [], _ :: _, h => by cases h
  | _ :: _, [], h => by cases h
theorem tk_take {L : List (List Str × Dd)} {i : Nat} {q : List Str × Dd} (h : L[i]? = some q) : ((L.take (i + 1)).map tripR).flatten = ((L.take i).map tripR).flatten ++ tripR q := by
  rw [List.take_add_one, h, List.map_append, List.flatten_append]
  show _ ++ (tripR q ++ []) = _
  rw [List.append_nil]
section
variable {P : Program} {w : World} {K : PySem.W.Frag} {mg : Str → Option Value} {base : Heap}
abbrev sFree : Stmt := topS 56
theorem scFree : FnScope ["term", "found", "bound", "todo", "part", "names", "change", "name", "inner", "inner_names"] ["term"] (defScope sFree) := ⟨rfl, rfl, rfl, by decide +kernel, rfl, by decide +kernel, by decide +kernel⟩
def spFree : Sp := fun vs H Q _ => ∃ (B : Addr → Prop) (v : V) (k : Dd), vs = [v] ∧ k.At B H v ∧ isTT k = true ∧ k.sz ≤ 1000000 ∧ ∀ (L : Addr) (ys : List Str) (H' : Hp), Same H H' → H L = none → H' L = some (.lst (ys.map V.str)) → Up ys → (∀ s, s ∈ ys ↔ fr k s) → ys.length ≤ 1000000 → Q (.ref L) H'
theorem c_free {f : Addr} {fd : FuncData} (T : TxtS mg) (cparts_of : C8.Cal P w K mg base 3 "parts_of" spParts []) (cscopes_of : C8.Cal P w K mg base 4 "scopes_of" spScopes []) (F : Fun K "free_names" "free_names" sFree f fd) (b : Binds K fd ["term"] []) (hm : mg "free_names" = some (.ref f)) : C8.Cal P w K mg base 5 "free_names" spFree [] := by
  refine cal_of F hm b scFree (fun vs H Q E h => ?_) (fun cdv A outer s H vs Q E hr h => ?_)
  · obtain ⟨B, v, k, rfl, _⟩ := h
    rfl
  obtain ⟨B0, v, k, rfl, hat0, htt, hsz, q⟩ := h
  have hat := hat0.here
  have hbl := bnd_len htt
  have hline := line9
  have hu := hu_of hr
  refine ⟨_, (pss_cons (ps_set (i := 1) scFree.nd rfl (Or.inl rfl) pe_dnewK)
    (pss_cons (ps_set (i := 2) scFree.nd rfl (Or.inl rfl) pe_dnewK)
    (pss_cons (ps_set (i := 3) scFree.nd rfl (Or.inl rfl) (pe_lst (pa_cons (pe_tup (pa_cons (pv 0) (pa_cons (pe_tup pa_nil) (pa_cons pe_int pa_nil)))) pa_nil)))
    (pss_cons (ps_while PassesOwn.never (pt_truth (pv 3) (fun _ => rfl))
      (pss_cons (ps_asg (pe_bm0 PySem.F.plainAttrs_list PySem.F.slot_list_pop PySem.F.type_list_pop mt_pop (pv 3)) (pg_tup rfl (pgs_cons (pg_name (i := 4) scFree.nd rfl (Or.inl rfl)) (pgs_cons (pg_name (i := 5) scFree.nd rfl (Or.inl rfl)) (pgs_cons (pg_name (i := 6) scFree.nd rfl (Or.inl rfl)) pgs_nil)))))
    (pss_one (ps_if (pt_cmpR op_ne (pv 6) pe_int (nomark _))
      (pss_one (ps_for PassesOwn.never rfl (pi_tup (pv 5)) (pg_name (i := 7) scFree.nd rfl (Or.inl rfl))
      (pss_one (ps_dput hu (pv 2) (pv 7) (pe_op op_add (pe_dget2 hu (pv 2) (pv 7) pe_int ⟨rfl, rfl, rfl, rfl⟩) (pv 6)) rfl))))
      (pss_one (ps_if (pt_cmpR op_eq (pe_ix ix_tup (pv 4) pe_int (fun _ _ => rfl)) pe_str (nomark _))
      (pss_one (ps_if (pt_cmpR op_eq (pe_dget2 hu (pv 2) (pe_ix ix_tup (pv 4) pe_int (fun _ _ => rfl)) pe_int ⟨rfl, rfl, rfl, rfl⟩) pe_int (nomark _))
      (pss_one (ps_dput hu (pv 1) (pe_ix ix_tup (pv 4) pe_int (fun _ _ => rfl)) pe_bl rfl))
      pss_nil))
      (pss_one (ps_for PassesOwn.never rfl (Mix.pi_zipM rfl T.zzip (pa_cons (C8.pe_c cparts_of hr (by decide) rfl (pa_cons (pv 4) pa_nil)) (pa_cons (C8.pe_c cscopes_of hr (by decide) rfl (pa_cons (pv 4) pa_nil)) pa_nil))) (pg_tup rfl (pgs_cons (pg_name (i := 8) scFree.nd rfl (Or.inl rfl)) (pgs_cons (pg_name (i := 9) scFree.nd rfl (Or.inl rfl)) pgs_nil)))
      (pss_one (ps_expr (pe_bm PySem.F.plainAttrs_list PySem.F.slot_list_extend PySem.F.type_list_extend mt_extend (pv 3) (pa_cons (pe_lst (pa_cons (pe_tup (pa_cons pe_non (pa_cons (pv 9) (pa_cons (pe_un un_neg pe_int) pa_nil)))) (pa_cons (pe_tup (pa_cons (pv 8) (pa_cons (pe_tup pa_nil) (pa_cons pe_int pa_nil)))) (pa_cons (pe_tup (pa_cons pe_non (pa_cons (pv 9) (pa_cons pe_int pa_nil)))) pa_nil)))) pa_nil))))))))))))
    (pss_one (ps_ret (pe_callB (sorted_dAny rfl) rfl T.zsorted PyProof.Rows.boot_sorted (pa_cons (pv 1) pa_nil)))))))), ?_⟩
  intro fd0 hfd
  have s0 := same_new hfd (.dK [])
  have e0 : upd H fd0 (.dK []) fd0 = some (.dK (setS [])) := upd_same
  generalize upd H fd0 (.dK []) = H1 at s0 e0 ⊢
  intro bd hbd
  have s1 := same_new hbd (.dK [])
  have e1 : upd H1 bd (.dK []) bd = some (.dK []) := upd_same
  have hbdH := free_of s0 hbd
  have nfb : fd0 ≠ bd := fun z => by rw [← z, e0] at hbd; cases hbd
  generalize upd H1 bd (.dK []) = H2 at s1 e1 ⊢
  refine ⟨_, rfl, by show 0 ≤ sizeLine; decide, fun u0 hu0 => ⟨by show 3 ≤ sizeLine; decide, fun tp htp => ⟨by show 1 ≤ sizeLine; decide, fun td htd => ?_⟩⟩⟩
  have s2 := same_new hu0 (.tup [])
  have s3 := same_new htp (.tup [v, .ref u0, .int 0])
  have s4 := same_new htd (.lst [.ref tp])
  have e4 : upd (upd (upd H2 u0 (.tup [])) tp (.tup [v, .ref u0, .int 0])) td (.lst [.ref tp]) td = some (.lst [.ref tp]) := upd_same
  have st0 : (tkD (.vis k)).At (Ex H) (upd (upd (upd H2 u0 (.tup [])) tp (.tup [v, .ref u0, .int 0])) td (.lst [.ref tp])) (.ref tp) :=
    at_tup (s4 _ _ upd_same) (ats_cons (hat.keep (fr_same (sameT s0 (sameT s1 (sameT s2 (sameT s3 s4)))))) (ats_cons (at_nameT (zs := []) (s4 _ _ (s3 _ _ upd_same)) fun y hy => by cases hy) (ats_cons at_int' ats_nil)))
  have ef := sameT s1 (sameT s2 (sameT s3 s4)) _ _ e0
  have eb := sameT s2 (sameT s3 s4) _ _ e1
  have sA := sameT s0 (sameT s1 (sameT s2 (sameT s3 s4)))
  have htdH := free_of (sameT s0 (sameT s1 (sameT s2 s3))) htd
  have nft : fd0 ≠ td := fun z => by rw [← z, sameT s1 (sameT s2 s3) _ _ e0] at htd; cases htd
  have nbt : bd ≠ td := fun z => by rw [← z, sameT s2 s3 _ _ e1] at htd; cases htd
  generalize upd (upd (upd H2 u0 (.tup [])) tp (.tup [v, .ref u0, .int 0])) td (.lst [.ref tp]) = H3 at e4 st0 ef eb sA ⊢
  clear s0 e0 s1 e1 s2 s3 s4 hbd hu0 htp htd
  have ntd : ¬ Ex H td := fun z => z htdH
  refine ⟨fun n' σ G => ∃ (kF : List Str) (kvs : List (Key × V)) (c : Str → Int) (st : List Tk) (xs : List V) (v4 v5 v6 v7 v8 v9 : Option V), n' = wts st ∧ σ = [some v, some (.ref fd0), some (.ref bd), some (.ref td), v4, v5, v6, v7, v8, v9] ∧ Same H G ∧ G fd0 = some (.dK (setS kF)) ∧ kF.Nodup ∧ G bd = some (.dK kvs) ∧ BAt kvs c (bnd k) ∧ G td = some (.lst xs) ∧ Dd.Ats (Ex H) G (st.map tkD) xs ∧ (∀ t ∈ st, tkOk (bnd k) t) ∧ okS c st.reverse ∧ kF.length + vsz st ≤ k.sz ∧ wts st ≤ 3 * k.sz ∧ ∀ s, (s ∈ kF ∨ frS c st.reverse s) ↔ fr k s,
    ⟨_, [], [], fun _ => 0, [.vis k], [.ref tp], none, none, none, none, none, none, rfl, rfl, sA, ef, List.nodup_nil, eb, ⟨fun s => rfl, [], rfl, List.nodup_nil, fun s h => by cases h⟩, e4, ats_one st0, fun t ht => by rw [List.mem_singleton.mp ht]; exact ⟨htt, fun s h => h⟩, ⟨fun s => Int.le_refl 0, trivial⟩, by show 0 + (k.sz + 0) ≤ _; omega, by show (3 * k.sz - 2) + 0 ≤ _; omega, fun s => ?_⟩, ?_⟩
  · constructor
    · rintro (h | ⟨h, _⟩ | h)
      · cases h
      · exact h
      · exact h.elim
    · exact fun h => .inr (.inl ⟨h, rfl⟩)
  rintro n' σ G ⟨kF, kvs, c, st, xs, v4, v5, v6, v7, v8, v9, rfl, rfl, sG, hfG, nod, hbG, BA, htG, hats, hgood, hokS, hvs, hwt, hfr⟩
  have hlx := ats_len hats
  rw [List.length_map] at hlx
  have hlw := wts_len st
  refine ⟨_, rfl, _, .inl ⟨_, SqL.of htG, rfl⟩, ?_⟩
  rcases List.eq_nil_or_concat st with rfl | ⟨M, t, rfl⟩
  · cases (show xs = [] from hats)
    refine iteF ?_
    refine ⟨_, rfl, fd0, _, kF, rfl, .inl hfG, ?_, fun ys p hperm hsrt hp => ?_⟩
    · unfold setS
      rw [List.map_map]
      rfl
    refine q p ys _ (sameT sG (same_new hp _)) (free_of sG hp) upd_same (up_of (rise_of hsrt) (hperm.nodup_iff.mpr nod)) (fun s => ?_) (by rw [hperm.length_eq]; omega)
    rw [hperm.mem_iff, ← hfr s]
    exact ⟨.inl, fun h => h.elim id fun z => z.elim⟩
  rw [List.concat_eq_append] at *
  rw [List.map_append] at hats
  obtain ⟨xs', x, rfl, hats', hx⟩ := ats_snoc hats
  have ne : (!(xs' ++ [x]).isEmpty) = true := by cases xs' <;> rfl
  rw [ne]
  refine iteT ?_
  refine ⟨fun σ' G' => ∃ (kF : List Str) (kvs : List (Key × V)) (c : Str → Int) (st : List Tk) (xs : List V) (v4 v5 v6 v7 v8 v9 : Option V), wts st < wts (M ++ [t]) ∧ σ' = [some v, some (.ref fd0), some (.ref bd), some (.ref td), v4, v5, v6, v7, v8, v9] ∧ Same H G' ∧ G' fd0 = some (.dK (setS kF)) ∧ kF.Nodup ∧ G' bd = some (.dK kvs) ∧ BAt kvs c (bnd k) ∧ G' td = some (.lst xs) ∧ Dd.Ats (Ex H) G' (st.map tkD) xs ∧ (∀ t ∈ st, tkOk (bnd k) t) ∧ okS c st.reverse ∧ kF.length + vsz st ≤ k.sz ∧ wts st ≤ 3 * k.sz ∧ ∀ s, (s ∈ kF ∨ frS c st.reverse s) ↔ fr k s,
    fun σ' G' ⟨kF, kvs, c, st, xs, v4, v5, v6, v7, v8, v9, lt, rest⟩ => ⟨_, lt, kF, kvs, c, st, xs, v4, v5, v6, v7, v8, v9, rfl, rest⟩, ?_⟩
  have hgM : ∀ t' ∈ M, tkOk (bnd k) t' := fun t' h => hgood t' (List.mem_append_left _ h)
  have hgt := hgood t (List.mem_append_right _ (List.mem_singleton.mpr rfl))
  rw [List.reverse_append] at hokS hfr
  rw [vsz_app] at hvs
  rw [wts_app] at hwt hlw ⊢
  have hlM := wts_len M
  have hl1 := ats_len hats'
  rw [List.length_map] at hl1
  have f4 : Fr (Ex H) G (upd G td (.lst xs')) := fr_list htG ntd
  have s4 : Same H (upd G td (.lst xs')) := same_upd htdH sG _
  have h4 : upd G td (.lst xs') td = some (.lst xs') := upd_same
  have hf4 : upd G td (.lst xs') fd0 = some (.dK (setS kF)) := by rw [upd_ne nft]; exact hfG
  have hb4 : upd G td (.lst xs') bd = some (.dK kvs) := by rw [upd_ne nbt]; exact hbG
  cases t with
  | chg ns d =>
    obtain ⟨tt, zs3, rfl, htt2, y0, ys0, rfl, hy0, y1, ys1, rfl, hy1, y2, ys2, rfl, hy2, hn⟩ := hx
    cases (show ys2 = [] from hn)
    cases (show y0 = .non from hy0)
    cases (show y2 = .int d from hy2)
    obtain ⟨u, rfl, hu1, hu2⟩ := nameT_at hy1
    have hq1 : upd G td (.lst (xs' ++ [V.ref tt]).dropLast) tt = some (.tup [.non, .ref u, .int d]) := by
      rw [List.dropLast_concat]
      exact f4.1 _ _ htt2
    refine ⟨_, rfl, .inl ⟨rfl, _, SqL.of htG⟩, td, _, .ref tt, rfl, rfl, htG, by simp, tt, _, rfl, SqT.of hq1, rfl, _, _, rfl, _, _, rfl, _, _, rfl, rfl, ?_⟩
    rw [List.dropLast_concat]
    replace hats' := hats'.keep f4
    replace hu1 := f4.1 _ _ hu1
    generalize upd G td (.lst xs') = G4 at f4 s4 h4 hf4 hb4 hats' hu1 ⊢
    refine ⟨_, rfl, rfl, _, rfl, ?_⟩
    have hd0 : d ≠ 0 := by rcases hgt.2 with e | e <;> rw [e] <;> decide
    show if (!decide (V.int d = V.int 0)) = true then _ else _
    rw [decide_eq_false fun e => hd0 (V.int.inj e)]
    refine iteT ?_
    refine ⟨_, rfl, u, rfl, ⟨_, SqT.of hu1⟩, for_tup (a := u) (xs := ns.map V.str)
      (fun i σ G' => ∃ (kvs : List (Key × V)) (v7 : Option V), σ = [some v, some (.ref fd0), some (.ref bd), some (.ref td), some .non, some (.ref u), some (.int d), v7, v8, v9] ∧ Same H G' ∧ G' fd0 = some (.dK (setS kF)) ∧ G' bd = some (.dK kvs) ∧ BAt kvs (bump c (ns.take i) d) (bnd k) ∧ G' td = some (.lst xs') ∧ Dd.Ats (Ex H) G' (M.map tkD) xs' ∧ G' u = some (.tup (ns.map V.str)))
      ⟨kvs, v7, rfl, s4, hf4, hb4, by rw [List.take_zero, bump_nil]; exact BA, h4, hats', hu1⟩ (fun i σ G' _ ⟨_, _, _, _, _, _, _, _, _, h⟩ => SqT.of h) ?_ ?_⟩
    · rintro i x σ G' hxi ⟨kvs, v7, rfl, sG', hfG', hbG', BA', htG', hats2, hu3⟩
      obtain ⟨y, hy, rfl⟩ : ∃ y, ns[i]? = some y ∧ x = .str y := by
        rw [List.getElem?_map] at hxi
        cases e : ns[i]? with
        | none => rw [e] at hxi; cases hxi
        | some y => rw [e] at hxi; exact ⟨y, rfl, (Option.some.inj hxi).symm⟩
      have hyU := hgt.1 y (List.mem_of_getElem? hy)
      have hkl := BA'.len
      refine ⟨_, rfl, bd, rfl, .inl ⟨_, .inl hbG'⟩, _, rfl, _, DGet.k (k := Sum.inr y) hbG', _, rfl, _, _, BA'.val y, rfl, _, rfl, _, rfl, bd, _, rfl, DPut.k (k := Sum.inr y) hbG' (by omega), ?_⟩
      have f9 : Fr (Ex H) G' (upd G' bd (.dK (putK kvs (Sum.inr y) (.int (bump c (ns.take i) d y + d))))) := fr_dict hbG'
      refine ⟨_, _, rfl, same_upd hbdH sG' _, by rw [upd_ne nfb]; exact hfG', upd_same, ?_, by rw [upd_ne nbt.symm]; exact htG', hats2.keep f9, f9.1 _ _ hu3⟩
      rw [List.take_add_one, hy]
      show BAt _ (bump c (ns.take i ++ [y]) d) _
      rw [← bump_snoc]
      exact BA'.put d hyU
    rintro σ G' ⟨kvs, v7, rfl, sG', hfG', hbG', BA', htG', hats2, hu3⟩
    rw [List.length_map, List.take_length] at BA'
    refine ⟨kF, kvs, bump c ns d, M, xs', _, _, _, _, _, _, ?_, rfl, sG', hfG', nod, hbG', BA', htG', hats2, hgM, hokS, ?_, ?_, hfr⟩
    · show wts M < wts M + (1 + 0)
      omega
    · have hvs : kF.length + (vsz M + 0) ≤ k.sz := hvs
      omega
    · omega
  | vis p =>
    obtain ⟨tt, zs3, rfl, htt2, y0, ys0, rfl, hy0, y1, ys1, rfl, hy1, y2, ys2, rfl, hy2, hn⟩ := hx
    cases (show ys2 = [] from hn)
    cases (show y2 = .int 0 from hy2)
    obtain ⟨u, rfl, hu1, hu2⟩ := nameT_at hy1
    obtain ⟨hpt, hpb⟩ := hgt
    obtain ⟨hpf, hpp⟩ := tt_parts hpt
    have hps := parts_sz hpf
    have hvs : kF.length + (vsz M + (p.sz + 0)) ≤ k.sz := hvs
    have hwt : wts M + ((3 * p.sz - 2) + 0) ≤ 3 * k.sz := hwt
    have hq1 : upd G td (.lst (xs' ++ [V.ref tt]).dropLast) tt = some (.tup [y0, .ref u, .int 0]) := by
      rw [List.dropLast_concat]
      exact f4.1 _ _ htt2
    refine ⟨_, rfl, .inl ⟨rfl, _, SqL.of htG⟩, td, _, .ref tt, rfl, rfl, htG, by simp, tt, _, rfl, SqT.of hq1, rfl, _, _, rfl, _, _, rfl, _, _, rfl, rfl, ?_⟩
    rw [List.dropLast_concat]
    replace hats' := hats'.keep f4
    replace hy0 := hy0.keep f4
    generalize upd G td (.lst xs') = G4 at f4 s4 h4 hf4 hb4 hats' hy0 ⊢
    refine ⟨_, rfl, rfl, _, rfl, ?_⟩
    show if (!decide (V.int 0 = V.int 0)) = true then _ else _
    rw [decide_eq_true rfl]
    refine iteF ?_
    obtain ⟨z, r, rfl, hfz⟩ := form_tup hpf
    obtain ⟨a, ys, rfl, ha, hys, hyl, hzl⟩ := head_at hy0
    refine ⟨_, rfl, a, _, 0, _, rfl, rfl, SqT.of ha, at0 _ _, rfl, _, rfl, ?_⟩
    have hcp : ∀ s, 0 ≤ c s := hokS.1
    have hokM : okS c M.reverse := hokS.2
    by_cases cv : z = "var"
    · subst cv
      show if decide (V.str "var" = V.str "var") = true then _ else _
      rw [wtt]
      refine iteT ?_
      rw [fw_var] at hfz
      obtain ⟨hr1, hn1⟩ := fand hfz
      have hr1 : r.length = 1 := of_decide_eq_true hr1
      obtain ⟨s0, rfl⟩ : ∃ s0, r = [.str s0] := by
        match r, hr1, hn1 with
        | [x], _, hn1 => exact ⟨strOf x, by rw [← name_str (show isName x = true from hn1)]⟩
      obtain ⟨x1, ys3, rfl, hx1, hn3⟩ := hys
      cases (show ys3 = [] from hn3)
      obtain ⟨rfl, _⟩ := (show x1 = .str s0 ∧ _ from hx1)
      have hfv : ∀ s, fr (varD s0) s ↔ s = s0 := fun s => fr_var hpt
      refine ⟨_, rfl, bd, rfl, .inl ⟨_, .inl hb4⟩, _, rfl, a, _, 1, _, rfl, rfl, SqT.of ha, at1 _ _ _, _, DGet.k (k := Sum.inr s0) hb4, ?_⟩
      rw [BA.val s0]
      refine ⟨rfl, _, rfl, ?_⟩
      by_cases c0 : c s0 = 0
      · rw [c0]
        show if decide (V.int 0 = V.int 0) = true then _ else _
        rw [decide_eq_true rfl]
        refine iteT ?_
        refine ⟨_, rfl, _, rfl, a, _, 1, _, rfl, rfl, SqT.of ha, at1 _ _ _, fd0, _, rfl, DPut.k (k := Sum.inr s0) hf4 (by unfold setS; rw [List.length_map]; omega), ?_⟩
        have f9 : Fr (Ex H) G4 (upd G4 fd0 (.dK (putK (setS kF) (Sum.inr s0) (.bl true)))) := fr_dict hf4
        have hla := len_addS kF s0
        refine ⟨addS kF s0, kvs, c, M, xs', _, _, _, _, _, _, ?_, rfl, same_upd hfd s4 _, by rw [upd_same, put_setS], nodup_addS nod, by rw [upd_ne nfb.symm]; exact hb4, BA, by rw [upd_ne nft.symm]; exact h4, hats'.keep f9, hgM, hokM, ?_, ?_, fun s => ?_⟩
        · show wts M < wts M + ((3 * (varD s0).sz - 2) + 0)
          have : (varD s0).sz = 3 := rfl
          omega
        · have : (varD s0).sz = 3 := rfl
          have hvs : kF.length + (vsz M + ((varD s0).sz + 0)) ≤ k.sz := hvs
          omega
        · omega
        · rw [mem_addS, ← hfr s]
          show _ ↔ _ ∨ ((fr (varD s0) s ∧ c s = 0) ∨ frS c M.reverse s)
          rw [hfv s]
          constructor
          · rintro ((h | h) | h)
            · exact .inl h
            · exact .inr (.inl ⟨h, by rw [h]; exact c0⟩)
            · exact .inr (.inr h)
          · rintro (h | ⟨h, _⟩ | h)
            · exact .inl (.inl h)
            · exact .inl (.inr h)
            · exact .inr h
      · show if decide (V.int (c s0) = V.int 0) = true then _ else _
        rw [decide_eq_false fun e => c0 (V.int.inj e)]
        refine iteF ?_
        refine ⟨kF, kvs, c, M, xs', _, _, _, _, _, _, ?_, rfl, s4, hf4, nod, hb4, BA, h4, hats', hgM, hokM, ?_, ?_, fun s => ?_⟩
        · show wts M < wts M + ((3 * (varD s0).sz - 2) + 0)
          have : (varD s0).sz = 3 := rfl
          omega
        · omega
        · omega
        · rw [← hfr s]
          show _ ↔ _ ∨ ((fr (varD s0) s ∧ c s = 0) ∨ frS c M.reverse s)
          rw [hfv s]
          constructor
          · rintro (h | h)
            · exact .inl h
            · exact .inr (.inr h)
          · rintro (h | ⟨h, h2⟩ | h)
            · exact .inl h
            · rw [h] at h2
              exact (c0 h2).elim
            · exact .inr h
    show if decide (V.str z = V.str "var") = true then _ else _
    rw [wne cv]
    refine iteF ?_
    generalize hpe : Dd.tup (.str z :: r) = p at *
    have hos := own_sz hpf
    have hsl := scopes_len hpf
    have hpp2 := szs_len (partsD p)
    refine ⟨_, rfl, Ex H, .ref a, p, rfl, hy0, hpf, by omega, fun b5 zs G5 s5 hb5 hzs => ⟨_, rfl, Ex H, .ref a, p, rfl, hy0.keep (fr_same s5), hpf, by omega, fun L5 xs5 G6 s6 hL5 h6 hx6 => ?_⟩⟩
    have hzl5 := ats_len hzs
    have hxl6 := ats_len hx6
    rw [List.length_map] at hxl6
    have sG6 := sameT s4 (sameT s5 s6)
    have s56 := sameT s5 s6
    have nL5 : L5 ≠ td := fun e => by rw [e, s5 _ _ h4] at hL5; cases hL5
    have hzs6 := hzs.keep (fr_same s6)
    have hM6 := hats'.keep (fr_same s56)
    refine ⟨b5, L5, zs, xs5, rfl, SqT.of (s6 _ _ hb5), SqL.of h6, ?_⟩
    refine Mix.for_zipM (xs := zs) (ys := xs5) (by rw [hzl5, hxl6, hsl]) (fun i σ G' => ∃ (v8 v9 : Option V) (xs2 : List V), σ = [some v, some (.ref fd0), some (.ref bd), some (.ref td), some (.ref a), some (.ref u), some (.int 0), v7, v8, v9] ∧ Same H G' ∧ Fr (Ex H) G6 G' ∧ G' fd0 = some (.dK (setS kF)) ∧ G' bd = some (.dK kvs) ∧ G' td = some (.lst xs2) ∧ G' L5 = some (.lst xs5) ∧ Dd.Ats (Ex H) G' ((M ++ ((((scopesD p).zip (partsD p)).take i).map tripR).flatten).map tkD) xs2)
      ⟨_, _, xs', rfl, sG6, Fr.refl _ _, s56 _ _ hf4, s56 _ _ hb4, s56 _ _ h4, h6, by rw [List.take_zero]; show Dd.Ats _ _ ((M ++ []).map tkD) _; rw [List.append_nil]; exact hM6⟩
      (fun i σ G' ⟨_, _, _, _, _, hfr', _, _, _, h, _⟩ => ⟨SqT.of (hfr'.1 _ _ (s6 _ _ hb5)), SqL.of h⟩) ?_ ?_
    · rintro i x y T5 σ G' hxi hyi ⟨v8, v9, xs2, rfl, sG', fG', hfG', hbG', htG', hLG', hats2⟩ hT
      obtain ⟨pp, hpp5, hppa⟩ := ats_get hzs6 hxi
      obtain ⟨nd, hnd, hnda⟩ := ats_get hx6 hyi
      rw [List.getElem?_map] at hnd
      cases hns : (scopesD p)[i]? with
      | none => rw [hns] at hnd; cases hnd
      | some ns =>
        rw [hns] at hnd
        cases hnd
        obtain ⟨u5, rfl, hu5, hu6⟩ := nameT_at hnda
        have hq : ((scopesD p).zip (partsD p))[i]? = some (ns, pp) := List.getElem?_zip_eq_some.mpr ⟨hns, hpp5⟩
        have hil : i < ((scopesD p).zip (partsD p)).length := (List.getElem?_eq_some_iff.mp hq).1
        rw [List.length_zip] at hil
        have hppa' := hppa.keep fG'
        have hu5' := fG'.1 _ _ hu5
        have sT := same_new hT (.tup [x, .ref u5])
        have hl2 := ats_len hats2
        rw [List.length_map, List.length_append, len_trips, List.length_take] at hl2
        refine ⟨T5, _, rfl, SqT.of upd_same, rfl, _, _, rfl, _, _, rfl, rfl, ?_⟩
        have hT' := sT _ _ htG'
        have hLT := sT _ _ hLG'
        have hfT := sT _ _ hfG'
        have hbT := sT _ _ hbG'
        replace hats2 := hats2.keep (fr_same sT)
        replace hppa' := hppa'.keep (fr_same sT)
        replace hu5' := sT _ _ hu5'
        have fGT := fG'.trans (fr_same sT)
        have sGT := sameT sG' sT
        generalize upd G' T5 (.tup [x, .ref u5]) = GT at hT' hLT hfT hbT hats2 hppa' hu5' fGT sGT ⊢
        refine ⟨_, rfl, .inl ⟨rfl, _, SqL.of hT'⟩, _, rfl, _, rfl, by show 3 ≤ sizeLine; decide, fun t1 ht1 => ?_⟩
        refine ⟨_, rfl, by show 0 ≤ sizeLine; decide, fun u2 hu2' => ⟨by show 3 ≤ sizeLine; decide, fun t2 ht2 => ⟨_, rfl, by show 3 ≤ sizeLine; decide, fun t3 ht3 => ⟨by show 3 ≤ sizeLine; decide, fun l4 hl4 => ?_⟩⟩⟩⟩
        have a1 := same_new ht1 (.tup [.non, .ref u5, .int (-1)])
        have a2 := same_new hu2' (.tup [])
        have a3 := same_new ht2 (.tup [x, .ref u2, .int 0])
        have a4 := same_new ht3 (.tup [.non, .ref u5, .int 1])
        have a5 := same_new hl4 (.lst [.ref t1, .ref t2, .ref t3])
        have a45 := sameT a4 a5
        have a345 := sameT a3 a45
        have a2345 := sameT a2 a345
        have aA := sameT a1 a2345
        have b1 : (tkD (.chg ns (-1))).At (Ex H) _ (.ref t1) := at_tup (a2345 _ _ upd_same) (ats_cons (show (Dd.non).At _ _ V.non from rfl) (ats_cons (at_nameT (aA _ _ hu5') hu6) (ats_cons at_int' ats_nil)))
        have b2 : (tkD (.vis pp)).At (Ex H) _ (.ref t2) := at_tup (a45 _ _ upd_same) (ats_cons (hppa'.keep (fr_same aA)) (ats_cons (at_nameT (zs := []) (a345 _ _ upd_same) fun y hy => by cases hy) (ats_cons at_int' ats_nil)))
        have b3 : (tkD (.chg ns 1)).At (Ex H) _ (.ref t3) := at_tup (a5 _ _ upd_same) (ats_cons (show (Dd.non).At _ _ V.non from rfl) (ats_cons (at_nameT (aA _ _ hu5') hu6) (ats_cons at_int' ats_nil)))
        have bL : Dd.Ats (Ex H) _ ((tripR (ns, pp)).map tkD) [.ref t1, .ref t2, .ref t3] := ats_cons b1 (ats_cons b2 (ats_one b3))
        have hl9 := (fun z => z : upd (upd (upd (upd (upd GT t1 (.tup [.non, .ref u5, .int (-1)])) u2 (.tup [])) t2 (.tup [x, .ref u2, .int 0])) t3 (.tup [.non, .ref u5, .int 1])) l4 (.lst [.ref t1, .ref t2, .ref t3]) l4 = some (.lst [.ref t1, .ref t2, .ref t3]) → _) upd_same
        replace hats2 := hats2.keep (fr_same aA)
        replace hT' := aA _ _ hT'
        replace hLT := aA _ _ hLT
        replace hfT := aA _ _ hfT
        replace hbT := aA _ _ hbT
        replace fGT := fGT.trans (fr_same aA)
        replace sGT := sameT sGT aA
        generalize upd (upd (upd (upd (upd GT t1 (.tup [.non, .ref u5, .int (-1)])) u2 (.tup [])) t2 (.tup [x, .ref u2, .int 0])) t3 (.tup [.non, .ref u5, .int 1])) l4 (.lst [.ref t1, .ref t2, .ref t3]) = G9 at hats2 hT' hLT hfT hbT fGT sGT bL hl9 ⊢
        have hmin := Nat.min_le_left i ((scopesD p).zip (partsD p)).length
        refine ⟨td, l4, xs2, _, rfl, rfl, hT', hl9, ?_, ?_⟩
        · show xs2.length + 3 ≤ _
          omega
        have f10 : Fr (Ex H) G9 (upd G9 td (.lst (xs2 ++ [.ref t1, .ref t2, .ref t3]))) := fr_list hT' ntd
        refine ⟨_, _, _, rfl, same_upd htdH sGT _, fGT.trans f10, by rw [upd_ne nft]; exact hfT, by rw [upd_ne nbt]; exact hbT, upd_same, by rw [upd_ne nL5]; exact hLT, ?_⟩
        rw [tk_take hq, ← List.append_assoc, List.map_append]
        exact ats_app (hats2.keep f10) (bL.keep f10)
    rintro σ G' ⟨v8, v9, xs2, rfl, sG', fG', hfG', hbG', htG', hLG', hats2⟩
    have hzlen : zs.length = ((scopesD p).zip (partsD p)).length := by rw [List.length_zip, hzl5, hsl, Nat.min_self]
    rw [hzlen, List.take_length] at hats2
    have hsnd : ((scopesD p).zip (partsD p)).map (·.2) = partsD p := zip_fst hsl
    have hw9 := wts_trips ((scopesD p).zip (partsD p))
    have hv9 := vsz_trips ((scopesD p).zip (partsD p))
    rw [hsnd] at hw9 hv9
    refine ⟨kF, kvs, c, M ++ (((scopesD p).zip (partsD p)).map tripR).flatten, xs2, _, _, _, _, _, _, ?_, rfl, sG', hfG', nod, hbG', BA, htG', hats2, fun t' ht' => ?_, ?_, ?_, ?_, fun s => ?_⟩
    · rw [wts_app, hw9]
      show _ < wts M + ((3 * p.sz - 2) + 0)
      omega
    · rcases List.mem_append.mp ht' with e | e
      · exact hgM t' e
      · obtain ⟨l, hl, hl2⟩ := List.mem_flatten.mp e
        obtain ⟨qq, hqq, rfl⟩ := List.mem_map.mp hl
        have hqm := List.of_mem_zip (a := qq.1) (b := qq.2) hqq
        have hn1 : ∀ s ∈ qq.1, s ∈ bnd k := fun s hs => hpb s (by
          rw [bnd_eq hpt]
          exact List.mem_append_left _ (scopes_own hpf qq.1 hqm.1 s hs))
        rcases List.mem_cons.mp hl2 with e1 | e1
        · rw [e1]; exact ⟨hn1, .inr rfl⟩
        rcases List.mem_cons.mp e1 with e1 | e1
        · rw [e1]
          exact ⟨hpp _ hqm.2, fun s hs => hpb s (by
            rw [bnd_eq hpt]
            exact List.mem_append_right _ (List.mem_flatten.mpr ⟨_, List.mem_map.mpr ⟨_, hqm.2, rfl⟩, hs⟩))⟩
        · rw [List.mem_singleton.mp e1]; exact ⟨hn1, .inl rfl⟩
    · rw [List.reverse_append, trips_rev]
      exact okS_trips _ c _ hcp hokM
    · rw [vsz_app, hv9]
      omega
    · rw [wts_app, hw9]
      omega
    · rw [List.reverse_append, trips_rev, frS_trips _ c _ s hcp, rev_frs, ← hfr s]
      show _ ↔ _ ∨ ((fr p s ∧ c s = 0) ∨ frS c M.reverse s)
      rw [fr_eq hpt s]
      have nv : p ≠ varD s := fun e => cv (by rw [← hpe] at e; exact var_word e)
      constructor
      · rintro (h | ⟨h1, h2⟩ | h)
        · exact .inl h
        · exact .inr (.inl ⟨.inr h1, h2⟩)
        · exact .inr (.inr h)
      · rintro (h | ⟨h1 | h1, h2⟩ | h)
        · exact .inl h
        · exact (nv h1).elim
        · exact .inr (.inl ⟨h1, h2⟩)
        · exact .inr (.inr h)
abbrev sLFree : Stmt := topS 81
theorem scLFree : FnScope ["term", "found", "names", "part", "name"] ["term"] (defScope sLFree) := ⟨rfl, rfl, rfl, by decide +kernel, rfl, by decide +kernel, by decide +kernel⟩
def spLFree (n : Nat) : Sp := fun vs H Q _ => ∃ (B : Addr → Prop) (v : V) (k : Dd), vs = [v] ∧ k.At B H v ∧ isN n k = true ∧ k.sz ≤ 1000000 ∧ (∀ a, H a = none → ¬ B a) ∧ ∀ (L : Addr) (ys : List Str) (H' : Hp), Same H H' → H L = none → H' L = some (.lst (ys.map V.str)) → ys.Nodup → (∀ s, s ∈ ys ↔ fr k s) → ys.length ≤ k.sz → Q (.ref L) H'
theorem c_lfree1 {f : Addr} {fd : FuncData} (c_law_inner : C8.Cal P w K mg base 1 "_law_inner" spInner []) {n : Nat} (c_law_free : C8.Cal P w K mg base (n + 1) "_law_free" (spLFree n) []) (F : Fun K "_law_free" "_law_free" sLFree f fd) (b : Binds K fd ["term"] []) (hm : mg "_law_free" = some (.ref f)) : C8.Cal P w K mg base (n + 1 + 1) "_law_free" (spLFree (n + 1)) [] := by
  refine cal_of F hm b scLFree (fun vs H Q E h => ?_) (fun cdv A outer s H vs Q E hr h => ?_)
  · obtain ⟨B, v, k, rfl, _⟩ := h
    rfl
  obtain ⟨B0, v, k, rfl, hat, hN, hsz, hnB, q⟩ := h
  obtain ⟨hf, hpN⟩ := fand hN
  have hf := (fand hf).1
  have hpN := List.all_eq_true.mp hpN
  have hps := parts_sz hf
  have hbig := big
  have htt := isN_T _ _ hN
  refine ⟨_, (pss_cons (ps_if (pt_cmpR op_eq (pe_ix ix_tup (pv 0) pe_int (fun _ _ => rfl)) pe_str (nomark _))
      (pss_one (ps_ret (pe_lst (pa_cons (pe_ix ix_tup (pv 0) pe_int (fun _ _ => rfl)) pa_nil))))
      pss_nil)
    (pss_cons (ps_set (i := 1) scLFree.nd rfl (Or.inl rfl) (pe_lst pa_nil))
    (pss_cons (ps_for PassesOwn.never rfl (pi_list (C8.pe_c c_law_inner hr (by omega) rfl (pa_cons (pv 0) pa_nil))) (pg_tup rfl (pgs_cons (pg_name (i := 2) scLFree.nd rfl (Or.inl rfl)) (pgs_cons (pg_name (i := 3) scLFree.nd rfl (Or.inl rfl)) pgs_nil)))
      (pss_one (ps_for PassesOwn.never rfl (pi_list (C8.pe_c c_law_free hr (by omega) rfl (pa_cons (pv 3) pa_nil))) (pg_name (i := 4) scLFree.nd rfl (Or.inl rfl))
      (pss_one (ps_if (PW.pt (pw_and (pt_cmpR op_notIn_seq (pv 4) (pv 2) rfl) (pw_and1 (pt_cmpR op_notIn_seq (pv 4) (pv 1) rfl))))
      (pss_one (ps_expr (pe_bm PySem.F.plainAttrs_list PySem.F.slot_list_append PySem.F.type_list_append mt_append (pv 1) (pa_cons (pv 4) pa_nil))))
      pss_nil)))))
    (pss_one (ps_ret (pv 1)))))), ?_⟩
  obtain ⟨z, r, rfl, hfz⟩ := form_tup hf
  obtain ⟨a, ys0, rfl, ha, hys, hyl, hzl⟩ := head_at hat
  refine ⟨_, rfl, a, _, 0, _, rfl, rfl, SqT.of ha, at0 _ _, rfl, _, rfl, ?_⟩
  by_cases cv : z = "var"
  · subst cv
    show if decide (V.str "var" = V.str "var") = true then _ else _
    rw [wtt]
    refine iteT ?_
    rw [fw_var] at hfz
    obtain ⟨hr1, hn1⟩ := fand hfz
    have hr1 : r.length = 1 := of_decide_eq_true hr1
    obtain ⟨s0, rfl⟩ : ∃ s0, r = [.str s0] := by
      match r, hr1, hn1 with
      | [x], _, hn1 => exact ⟨strOf x, by rw [← name_str (show isName x = true from hn1)]⟩
    obtain ⟨x1, ys3, rfl, hx1, hn3⟩ := hys
    obtain ⟨rfl, _⟩ := (show x1 = .str s0 ∧ _ from hx1)
    refine ⟨_, rfl, a, _, 1, _, rfl, rfl, SqT.of ha, at1 _ _ _, by show 1 ≤ sizeLine; decide, fun L hL => ?_⟩
    exact q L [s0] _ (same_new hL _) hL upd_same (List.nodup_cons.mpr ⟨List.not_mem_nil, List.nodup_nil⟩) (fun s => by rw [List.mem_singleton]; exact (fr_var (s := s0) (t := s) htt).symm) (sz_pos _)
  show if decide (V.str z = V.str "var") = true then _ else _
  rw [wne cv]
  refine iteF ?_
  generalize hpe : Dd.tup (.str z :: r) = k at *
  refine ⟨by show 0 ≤ sizeLine; decide, fun Fd hFd => ?_⟩
  have s0 := same_new hFd (.lst [])
  have e0 : upd H Fd (.lst []) Fd = some (.lst (([] : List Str).map V.str)) := upd_same
  generalize upd H Fd (.lst []) = H0 at s0 e0 ⊢
  have hnF := hnB Fd hFd
  refine ⟨_, rfl, B0, .ref a, k, rfl, hat.keep (fr_same s0), hf, hsz, fun b hb => hnB b (free_of s0 hb), fun L xs H1 s1 hL h1 hx => ?_⟩
  have nLF : L ≠ Fd := fun e => by rw [e, e0] at hL; cases hL
  have hsl := scopes_len hf
  have hfin : ∀ (ys : List Str), (∀ s, s ∈ ys ↔ ∃ q ∈ (scopesD k).zip (partsD k), s ∉ q.1 ∧ fr q.2 s) → ∀ s, s ∈ ys ↔ fr k s := fun ys h s => by
    rw [h s, fr_eq htt s]
    exact ⟨.inr, fun h => h.elim (fun e => (cv (by rw [← hpe] at e; exact var_word e)).elim) id⟩
  refine ⟨L, rfl, ⟨_, SqL.of h1⟩, for_list (a := L) (xs := xs) (fun i σ G => ∃ (ys : List Str) (v2 v3 v4 : Option V), σ = [some (.ref a), some (.ref Fd), v2, v3, v4] ∧ Same H G ∧ Fr B0 H1 G ∧ G L = some (.lst xs) ∧ G Fd = some (.lst (ys.map V.str)) ∧ ys.Nodup ∧ ys.length ≤ Dd.szs ((partsD k).take i) ∧ ∀ s, s ∈ ys ↔ ∃ q ∈ ((scopesD k).zip (partsD k)).take i, s ∉ q.1 ∧ fr q.2 s)
    ⟨[], _, _, _, rfl, sameT s0 s1, Fr.refl _ _, h1, s1 _ _ e0, List.nodup_nil, Nat.zero_le _, fun s => ⟨fun h => absurd h List.not_mem_nil, fun ⟨q, h, _⟩ => absurd h (by simp)⟩⟩ (fun i σ G _ ⟨_, _, _, _, _, _, _, h, _⟩ => SqL.of h) ?_ ?_⟩
  · rintro i x σ G hxi ⟨ys, v2, v3, v4, rfl, sG, fG, hLG, hFG, nod, hlen, hmem⟩
    obtain ⟨pd, hpd, hpa⟩ := ats_get hx hxi
    obtain ⟨ns, p, hns, hp, rfl⟩ := List.getElem?_zipWith_eq_some.mp hpd
    obtain ⟨t, x1, y1, rfl, ht, hx1, hy1⟩ := pair_at (m := [nameT ns, p]) hpa rfl
    have hpm := List.mem_of_getElem? hp
    have hpz := szs_mem hpm
    have hx1 : (nameT ns).At B0 H1 x1 := hx1
    have hy1 : p.At B0 H1 y1 := hy1
    obtain ⟨u, rfl, hu, hu2⟩ := nameT_at hx1
    have hq : ((scopesD k).zip (partsD k))[i]? = some (ns, p) := List.getElem?_zip_eq_some.mpr ⟨hns, hp⟩
    have hsz1 : Dd.szs ((partsD k).take (i + 1)) = Dd.szs ((partsD k).take i) + p.sz := by
      rw [List.take_add_one, hp, szs_app]
      show _ + (p.sz + 0) = _
      omega
    have hsz2 : Dd.szs ((partsD k).take (i + 1)) ≤ Dd.szs (partsD k) := by
      have e := szs_app ((partsD k).take (i + 1)) ((partsD k).drop (i + 1))
      rw [List.take_append_drop] at e
      omega
    refine ⟨t, _, rfl, SqT.of (fG.1 _ _ ht), rfl, _, _, rfl, _, _, rfl, rfl, ?_⟩
    refine ⟨_, rfl, B0, y1, p, rfl, hy1.keep fG, hpN p hpm, by omega, fun b hb => hnB b (free_of sG hb), fun L2 zs G2 s2 hL2 h2 nod2 hmem2 hlen2 => ?_⟩
    have nL2 : L2 ≠ Fd := fun e => by rw [e, hFG] at hL2; cases hL2
    have nL2L : L2 ≠ L := fun e => by rw [e, hLG] at hL2; cases hL2
    refine ⟨L2, rfl, ⟨_, SqL.of h2⟩, for_list (a := L2) (xs := zs.map V.str) (fun j σ G' => ∃ (ws : List Str) (v4 : Option V), σ = [some (.ref a), some (.ref Fd), some (.ref u), some y1, v4] ∧ Same H G' ∧ Fr B0 H1 G' ∧ G' L = some (.lst xs) ∧ G' L2 = some (.lst (zs.map V.str)) ∧ G' Fd = some (.lst (ws.map V.str)) ∧ ws.Nodup ∧ ws.length ≤ Dd.szs ((partsD k).take i) + j ∧ ∀ s, s ∈ ws ↔ s ∈ ys ∨ (s ∈ zs.take j ∧ s ∉ ns))
      ⟨ys, _, rfl, sameT sG s2, fG.trans (fr_same s2), s2 _ _ hLG, h2, s2 _ _ hFG, nod, by omega, fun s => ⟨.inl, fun h => h.elim id fun z => by rw [List.take_zero] at z; cases z.1⟩⟩ (fun j σ G' _ ⟨_, _, _, _, _, _, h, _⟩ => SqL.of h) ?_ ?_⟩
    · rintro j x' σ G' hxj ⟨ws, v4, rfl, sG', fG', hLG', hL2G', hFG', nodw, hlw, hmw⟩
      obtain ⟨y, hy, rfl⟩ : ∃ y, zs[j]? = some y ∧ x' = .str y := by
        rw [List.getElem?_map] at hxj
        cases e : zs[j]? with
        | none => rw [e] at hxj; cases hxj
        | some y => rw [e] at hxj; exact ⟨y, rfl, (Option.some.inj hxj).symm⟩
      have hjl : j < zs.length := (List.getElem?_eq_some_iff.mp hy).1
      have tk : zs.take (j + 1) = zs.take j ++ [y] := by rw [List.take_add_one, hy]; rfl
      have stay : (y ∈ ns ∨ y ∈ ws) → ∃ (ws' : List Str) (v4' : Option V), [some (V.ref a), some (.ref Fd), some (.ref u), some y1, some (.str y)] = [some (.ref a), some (.ref Fd), some (.ref u), some y1, v4'] ∧ Same H G' ∧ Fr B0 H1 G' ∧ G' L = some (.lst xs) ∧ G' L2 = some (.lst (zs.map V.str)) ∧ G' Fd = some (.lst (ws'.map V.str)) ∧ ws'.Nodup ∧ ws'.length ≤ Dd.szs ((partsD k).take i) + (j + 1) ∧ ∀ s, s ∈ ws' ↔ s ∈ ys ∨ (s ∈ zs.take (j + 1) ∧ s ∉ ns) := fun hin => by
        refine ⟨ws, _, rfl, sG', fG', hLG', hL2G', hFG', nodw, by omega, fun s => ?_⟩
        rw [hmw s, tk, List.mem_append, List.mem_singleton]
        constructor
        · rintro (h | ⟨h1, h2⟩)
          · exact .inl h
          · exact .inr ⟨.inl h1, h2⟩
        · rintro (h | ⟨h1 | h1, h2⟩)
          · exact .inl h
          · exact .inr ⟨h1, h2⟩
          · rcases hin with e | e
            · rw [h1] at h2; exact (h2 e).elim
            · rw [h1]; exact (hmw y).mp e
      refine ⟨_, rfl, _, rfl, u, _, rfl, .inr (SqT.of (fG'.1 _ _ hu)), rfl, flat_strs ns, ?_⟩
      rw [show (if true = true then !inV (.str y) (ns.map V.str) else inV (.str y) (ns.map V.str)) = !decide (y ∈ ns) by rw [if_pos rfl, inV_strs]]
      refine ⟨_, rfl, ?_⟩
      by_cases hin : y ∈ ns
      · rw [decide_eq_true hin]
        refine iteF (iteF ?_)
        exact stay (.inl hin)
      rw [decide_eq_false hin]
      refine iteT ?_
      refine ⟨_, rfl, _, rfl, Fd, _, rfl, .inl (SqL.of hFG'), rfl, flat_strs ws, ?_⟩
      rw [show (if true = true then !inV (.str y) (ws.map V.str) else inV (.str y) (ws.map V.str)) = !decide (y ∈ ws) by rw [if_pos rfl, inV_strs]]
      refine ⟨_, rfl, ?_⟩
      by_cases hin2 : y ∈ ws
      · rw [decide_eq_true hin2]
        refine iteF ?_
        exact stay (.inr hin2)
      rw [decide_eq_false hin2]
      refine iteT ?_
      refine ⟨_, rfl, .inl ⟨rfl, _, SqL.of hFG'⟩, _, rfl, Fd, _, _, rfl, rfl, hFG', ?_, ?_⟩
      · rw [List.length_map]
        omega
      have f9 : Fr B0 G' (upd G' Fd (.lst (ws.map V.str ++ [.str y]))) := fr_list hFG' hnF
      refine ⟨ws ++ [y], _, rfl, same_upd hFd sG' _, fG'.trans f9, by rw [upd_ne nLF]; exact hLG', by rw [upd_ne nL2]; exact hL2G', by rw [upd_same, List.map_append]; rfl, List.nodup_append.mpr ⟨nodw, List.pairwise_singleton _ _, fun c hc d hd e => hin2 (by rw [← List.mem_singleton.mp hd, ← e]; exact hc)⟩, by rw [List.length_append]; show _ + 1 ≤ _; omega, fun s => ?_⟩
      rw [List.mem_append, List.mem_singleton, hmw s, tk, List.mem_append, List.mem_singleton]
      constructor
      · rintro ((h | ⟨h1, h2⟩) | h)
        · exact .inl h
        · exact .inr ⟨.inl h1, h2⟩
        · exact .inr ⟨.inr h, by rw [h]; exact hin⟩
      · rintro (h | ⟨h1 | h1, h2⟩)
        · exact .inl (.inl h)
        · exact .inl (.inr ⟨h1, h2⟩)
        · exact .inr h1
    rintro σ G' ⟨ws, v4, rfl, sG', fG', hLG', hL2G', hFG', nodw, hlw, hmw⟩
    rw [List.length_map] at hlw
    rw [List.length_map, List.take_length] at hmw
    refine ⟨ws, _, _, _, rfl, sG', fG', hLG', hFG', nodw, by omega, fun s => ?_⟩
    rw [hmw s, hmem s, hmem2 s, List.take_add_one, hq]
    constructor
    · rintro (⟨q', h1, h2⟩ | ⟨h1, h2⟩)
      · exact ⟨q', List.mem_append_left _ h1, h2⟩
      · exact ⟨(ns, p), List.mem_append_right _ (List.mem_singleton.mpr rfl), h2, h1⟩
    · rintro ⟨q', h1, h2⟩
      rcases List.mem_append.mp h1 with e | e
      · exact .inl ⟨q', e, h2⟩
      · have e : q' ∈ [(ns, p)] := e
        rw [List.mem_singleton.mp e] at h2
        exact .inr ⟨h2.2, h2.1⟩
  rintro σ G ⟨ys, v2, v3, v4, rfl, sG, fG, hLG, hFG, nod, hlen, hmem⟩
  have hl := ats_len hx
  have hl2 : xs.length = (partsD k).length := by
    rw [hl]
    unfold innerD
    rw [List.length_zipWith, hsl, Nat.min_self]
  have hl3 : ((scopesD k).zip (partsD k)).length = (partsD k).length := by rw [List.length_zip, hsl, Nat.min_self]
  rw [hl2, List.take_length] at hlen
  rw [hl2, ← hl3, List.take_length] at hmem
  exact ⟨_, rfl, q Fd ys G sG hFd hFG nod (hfin ys hmem) (by omega)⟩
theorem c_lfree {f : Addr} {fd : FuncData} (c_law_inner : C8.Cal P w K mg base 1 "_law_inner" spInner []) (F : Fun K "_law_free" "_law_free" sLFree f fd) (b : Binds K fd ["term"] []) (hm : mg "_law_free" = some (.ref f)) : ∀ n : Nat, C8.Cal P w K mg base (n + 1) "_law_free" (spLFree n) []
  | 0 => cal_none F hm b fun vs H Q E h => by
    obtain ⟨B, v, k, _, _, h, _⟩ := h
    cases h
  | n + 1 => c_lfree1 c_law_inner (c_lfree c_law_inner F b hm n) F b hm
end
end Toy

set_option Elab.async false
set_option linter.all false
set_option maxRecDepth 100000
set_option maxHeartbeats 4000000
/-! Part V: terms of good names, their free names; texts in rows. -/
namespace Toy
open PySem L2
open PyProof.Rows (envOfC)
/-- a name that is no word of a form -/
def nameOk (x : Str) : Prop := isName (.str x) = true ∧ x ∉ words
def globs : List Str := ["f", "g", "h", "k", "c", "m", "b"]
theorem globs_ok : ∀ x ∈ globs, nameOk x := by unfold nameOk; decide +kernel
theorem nameOk.len {x : Str} (h : nameOk x) : x.length ≤ 1000 := str_le (d := .str x) h.1
def xN (n : Int) : Str := ("x" : Str) ++ Str.ofString (toString n)
theorem cps_app (a b : Str) : (a ++ b).cps.toList = a.cps.toList ++ b.cps.toList := by
  show (a.cps ++ b.cps).toList = _
  simp
theorem len_cps (a : Str) : a.length = a.cps.toList.length := by
  rw [Array.length_toList]
  rfl
theorem word_head : ∀ z ∈ words, z.cps.toList.head? ≠ some 120 := by decide +kernel
theorem xN_ok {n : Int} (h0 : 0 ≤ n) (h1 : n < 10 ^ 10) : nameOk (xN n) := by
  have hl : (Str.ofString (toString n)).length ≤ 10 := PySem.W.KT.len_num h0 h1
  have e : (xN n).cps.toList = 120 :: (Str.ofString (toString n)).cps.toList := cps_app _ _
  have hlen : (xN n).length = 1 + (Str.ofString (toString n)).length := by
    rw [len_cps, e, len_cps]
    exact Nat.add_comm _ _
  refine ⟨?_, fun hm => ?_⟩
  · show ((decide (1 ≤ (xN n).length) && decide ((xN n).length ≤ 80)) && (xN n).cps.toList.all fun c => decide (33 ≤ c) && decide (c ≤ 126) && decide (c ≠ 37)) = true
    rw [decide_eq_true (by omega), decide_eq_true (by omega), e, Bool.true_and, Bool.true_and, List.all_eq_true]
    intro c hc
    rcases List.mem_cons.mp hc with z | z
    · rw [z]; decide
    · have hn : ¬ (c ≠ 45 ∧ (c < 48 ∨ 57 < c)) := fun k => PyProof.Rows.int_text_free' c k n z
      rw [Bool.and_eq_true, Bool.and_eq_true]
      exact ⟨⟨decide_eq_true (by omega), decide_eq_true (by omega)⟩, decide_eq_true (by omega)⟩
  · have h2 := word_head _ hm
    rw [e] at h2
    exact h2 rfl
/-- a term, not deeper than n, not greater than z, whose free names are in U or of the definitions -/
structure Gz (n z : Nat) (U : List Str) (k : Dd) : Prop where
  ok : isN n k = true
  sz : k.sz ≤ z
  fri : ∀ s, fr k s → s ∈ U ∨ s ∈ globs
theorem Gz.mono {n m z y : Nat} {U W : List Str} {k : Dd} (h : Gz n z U k) (h1 : n ≤ m) (h2 : z ≤ y) (h3 : ∀ s ∈ U, s ∈ W) : Gz m y W k := ⟨isN_mono _ _ _ h1 h.ok, Nat.le_trans h.sz h2, fun s hs => (h.fri s hs).imp (h3 s) id⟩
theorem zip_mem {α β : Type} : ∀ {l : List α} {m : List β} {y : β}, l.length = m.length → y ∈ m → ∃ x, (x, y) ∈ l.zip m
  | a :: l, b :: m, y, h, hy => by
    rcases List.mem_cons.mp hy with e | e
    · exact ⟨a, by rw [e]; exact List.mem_cons_self ..⟩
    · obtain ⟨x, hx⟩ := zip_mem (Nat.succ.inj h) e
      exact ⟨x, List.mem_cons_of_mem _ hx⟩
  | [], _ :: _, _, h, _ => by cases h
theorem gz_mk {n z : Nat} {U : List Str} {w : Str} {r : List Dd} (hw : w ≠ "var") (h1 : formW w r = true) (h2 : niceW w r = true) (h3 : ∀ q ∈ (scopesW w r).zip (partsW w r), isN n q.2 = true ∧ ∀ s, fr q.2 s → s ∈ q.1 ∨ s ∈ U ∨ s ∈ globs) (h4 : (Dd.tup (.str w :: r)).sz ≤ z) : Gz (n + 1) z U (.tup (.str w :: r)) := by
  have hl : (scopesW w r).length = (partsW w r).length := scopes_len (k := .tup (.str w :: r)) h1
  have hn : isN (n + 1) (.tup (.str w :: r)) = true := isN_mk h1 h2 fun p hp => by
    obtain ⟨x, hx⟩ := zip_mem hl hp
    exact (h3 _ hx).1
  refine ⟨hn, h4, fun s hs => ?_⟩
  rw [fr_eq (isN_T _ _ hn)] at hs
  rcases hs with e | ⟨q, hq, h5, h6⟩
  · exact (hw (var_word e)).elim
  · exact ((h3 q hq).2 s h6).elim (fun z => (h5 z).elim) id
theorem gz_num {U : List Str} {i : Int} (h0 : -1000000000000000 ≤ i) (h1 : i ≤ 1000000000000000) : Gz 1 3 U (.tup [.str "num", .int i]) := by
  refine gz_mk (by decide +kernel) ?_ (nice_other nw.1 nw.2.1) (fun q hq => ?_) (Nat.le_refl _)
  · rw [fw_num]
    show (decide (1 = 1) && (decide (-1000000000000000 ≤ i) && decide (i ≤ 1000000000000000))) = true
    rw [decide_eq_true h0, decide_eq_true h1]
    rfl
  · rw [pw_num, List.zip_nil_right] at hq
    cases hq
theorem tt_var {x : Str} (h : isName (.str x) = true) : isTT (varD x) = true := by
  rw [isTT_eq]
  show (formW "var" [.str x] && (partsW "var" [.str x]).all isTT) = true
  rw [fw_var, pw_var]
  show ((decide (1 = 1) && isName (.str x)) && true) = true
  rw [h]
  rfl
theorem gz_var {U : List Str} {x : Str} (h : isName (.str x) = true) (hx : x ∈ U ∨ x ∈ globs) : Gz 1 3 U (.tup [.str "var", .str x]) := by
  refine ⟨isN_mk ?_ (nice_other nw.2.2.1 nw.2.2.2.1) (fun p hp => by rw [pw_var] at hp; cases hp), Nat.le_refl _, fun s hs => ?_⟩
  · rw [fw_var]
    show (decide (1 = 1) && isName (.str x)) = true
    rw [h]
    rfl
  · have e := (fr_var (tt_var h)).mp hs
    rw [e]
    exact hx
theorem Gz.all {n z : Nat} {U : List Str} {k : Dd} (h : Gz n z U k) : isN n k = true ∧ ∀ s, fr k s → s ∈ ([] : List Str) ∨ s ∈ U ∨ s ∈ globs := ⟨h.ok, fun s hs => .inr (h.fri s hs)⟩
theorem Gz.under {n z : Nat} {U : List Str} {ns : List Str} {k : Dd} (h : Gz n z (ns ++ U) k) : isN n k = true ∧ ∀ s, fr k s → s ∈ ns ∨ s ∈ U ∨ s ∈ globs := ⟨h.ok, fun s hs => by
  rcases h.fri s hs with e | e
  · exact (List.mem_append.mp e).imp id .inl
  · exact .inr (.inr e)⟩
theorem gz_app {n y z : Nat} {U : List Str} {a b : Dd} (ha : Gz n y U a) (hb : Gz n z U b) : Gz (n + 1) (y + z + 2) U (.tup [.str "app", a, b]) := by
  have h1 := ha.sz
  have h2 := hb.sz
  refine gz_mk (by decide +kernel) (by rw [fw_app]; rfl) (nice_other nw.2.2.2.2.1 nw.2.2.2.2.2.1) (fun q hq => ?_) (by show 1 + (1 + (a.sz + (b.sz + 0))) ≤ _; omega)
  rw [sw_app, pw_app] at hq
  have hq : q ∈ [(([] : List Str), a), ([], b)] := hq
  simp only [List.mem_cons, List.not_mem_nil, or_false] at hq
  rcases hq with rfl | rfl
  · exact ha.all
  · exact hb.all
theorem gz_lam {n z : Nat} {U : List Str} {x : Str} {b : Dd} (hx : isName (.str x) = true) (hb : Gz n z (x :: U) b) : Gz (n + 1) (z + 3) U (.tup [.str "lam", .str x, b]) := by
  have h2 := hb.sz
  refine gz_mk (by decide +kernel) ?_ (nice_other nw.2.2.2.2.2.2.1 nw.2.2.2.2.2.2.2.1) (fun q hq => ?_) (by show 1 + (1 + (1 + (b.sz + 0))) ≤ _; omega)
  · rw [fw_lam]
    show (decide (2 = 2) && isName (.str x)) = true
    rw [hx]
    rfl
  · rw [sw_lam, pw_lam] at hq
    have hq : q ∈ [([x], b)] := hq
    rw [List.mem_singleton.mp hq]
    exact Gz.under (ns := [x]) hb
theorem gz_note {n z : Nat} {U : List Str} {i : Int} {b : Dd} (h0 : 0 ≤ i) (h1 : i ≤ 1000000000000) (hb : Gz n z U b) : Gz (n + 1) (z + 3) U (.tup [.str "note", .int i, b]) := by
  have h2 := hb.sz
  refine gz_mk (by decide +kernel) ?_ (nice_other nw.2.2.2.2.2.2.2.2.2.2.2.2.2.2.2.2.1 nw.2.2.2.2.2.2.2.2.2.2.2.2.2.2.2.2.2) (fun q hq => ?_) (by show 1 + (1 + (1 + (b.sz + 0))) ≤ _; omega)
  · rw [fw_note]
    show (decide (2 = 2) && (decide (0 ≤ i) && decide (i ≤ 1000000000000))) = true
    rw [decide_eq_true h0, decide_eq_true h1]
    rfl
  · rw [sw_note, pw_note] at hq
    have hq : q ∈ [(([] : List Str), b)] := hq
    rw [List.mem_singleton.mp hq]
    exact hb.all
theorem gz_seq {n y z : Nat} {U : List Str} {x : Str} {a b : Dd} (hx : isName (.str x) = true) (ha : Gz n y U a) (hb : Gz n z (x :: U) b) : Gz (n + 1) (y + z + 3) U (.tup [.str "seq", .str x, a, b]) := by
  have h1 := ha.sz
  have h2 := hb.sz
  refine gz_mk (by decide +kernel) ?_ (nice_other nw.2.2.2.2.2.2.2.2.2.2.1 nw.2.2.2.2.2.2.2.2.2.2.2.1) (fun q hq => ?_) (by show 1 + (1 + (1 + (a.sz + (b.sz + 0)))) ≤ _; omega)
  · rw [fw_seq]
    show (decide (3 = 3) && isName (.str x)) = true
    rw [hx]
    rfl
  · rw [sw_seq, pw_seq] at hq
    have hq : q ∈ [(([] : List Str), a), ([x], b)] := hq
    simp only [List.mem_cons, List.not_mem_nil, or_false] at hq
    rcases hq with rfl | rfl
    · exact ha.all
    · exact Gz.under (ns := [x]) hb
theorem gz_prim {n y z : Nat} {U : List Str} {x : Str} {a b : Dd} (hx : x ∈ signs) (ha : Gz n y U a) (hb : Gz n z U b) : Gz (n + 1) (y + z + 3) U (.tup [.str "prim", .str x, a, b]) := by
  have h1 := ha.sz
  have h2 := hb.sz
  refine gz_mk (by decide +kernel) ?_ (nice_other nw.2.2.2.2.2.2.2.2.2.2.2.2.2.2.1 nw.2.2.2.2.2.2.2.2.2.2.2.2.2.2.2.1) (fun q hq => ?_) (by show 1 + (1 + (1 + (a.sz + (b.sz + 0)))) ≤ _; omega)
  · rw [fw_prim]
    show (decide (3 = 3) && decide (x ∈ signs)) = true
    rw [decide_eq_true hx]
    rfl
  · rw [sw_prim, pw_prim] at hq
    have hq : q ∈ [(([] : List Str), a), ([], b)] := hq
    simp only [List.mem_cons, List.not_mem_nil, or_false] at hq
    rcases hq with rfl | rfl
    · exact ha.all
    · exact hb.all
theorem szs_le {z : Nat} : ∀ {l : List Dd}, (∀ k ∈ l, k.sz ≤ z) → Dd.szs l ≤ l.length * z
  | [], _ => Nat.zero_le _
  | k :: l, h => by
    have h1 := h k (List.mem_cons_self ..)
    have h2 := szs_le fun q hq => h q (List.mem_cons_of_mem _ hq)
    show k.sz + Dd.szs l ≤ (l.length + 1) * z
    rw [Nat.succ_mul]
    omega
theorem zip_map_l {α β γ : Type} (f : α → γ) : ∀ (l : List α) (m : List β), ∀ q ∈ (l.map f).zip m, ∃ a ∈ l, ∃ b ∈ m, q = (f a, b)
  | [], _, q, h => by cases h
  | a :: l, [], q, h => by cases h
  | a :: l, b :: m, q, h => by
    have h : q ∈ (f a, b) :: (l.map f).zip m := h
    rcases List.mem_cons.mp h with e | e
    · exact ⟨a, List.mem_cons_self .., b, List.mem_cons_self .., e⟩
    · obtain ⟨a', h1, b', h2, e'⟩ := zip_map_l f l m q e
      exact ⟨a', List.mem_cons_of_mem _ h1, b', List.mem_cons_of_mem _ h2, e'⟩
theorem gz_con {n z c : Nat} {U : List Str} {i : Int} {l : List Dd} (h0 : 0 ≤ i) (h1 : i ≤ 1000) (hl : l.length ≤ c) (h : ∀ k ∈ l, Gz n z U k) : Gz (n + 1) (c * z + 4) U (.tup [.str "con", .int i, .tup l]) := by
  have h2 := szs_le fun k hk => (h k hk).sz
  have h3 : l.length * z ≤ c * z := Nat.mul_le_mul_right _ hl
  refine gz_mk (by decide +kernel) ?_ (nice_other nw.2.2.2.2.2.2.2.2.2.2.2.2.1 nw.2.2.2.2.2.2.2.2.2.2.2.2.2.1) (fun q hq => ?_) (by show 1 + (1 + (1 + (1 + Dd.szs l + 0))) ≤ _; omega)
  · rw [fw_con]
    show (decide (2 = 2) && ((decide (0 ≤ i) && decide (i ≤ 1000)) && true)) = true
    rw [decide_eq_true h0, decide_eq_true h1]
    rfl
  · rw [sw_con, pw_con] at hq
    obtain ⟨a, ha, b, hb, rfl⟩ := zip_map_l _ _ _ q hq
    exact (h b hb).all
/-- names, all different -/
theorem areNames_of {zs : List Str} (h1 : ∀ z ∈ zs, isName (.str z) = true) (h2 : zs.Nodup) : areNames (nameT zs) = true := by
  show ((zs.map Dd.str).all isName && distK ((zs.map Dd.str).map keyD)) = true
  rw [Bool.and_eq_true]
  refine ⟨?_, dist_nodup ?_⟩
  · rw [List.all_map, List.all_eq_true]
    exact fun z hz => h1 z hz
  · rw [List.map_map]
    exact List.Pairwise.map _ (fun a b h e => h (Sum.inr.inj e)) h2
theorem zip_app {α β : Type} {l1 l2 : List α} {m1 m2 : List β} (h : l1.length = m1.length) : (l1 ++ l2).zip (m1 ++ m2) = l1.zip m1 ++ l2.zip m2 := List.zip_append h
theorem gz_let {n z c : Nat} {U : List Str} {zs : List Str} {l : List Dd} {b : Dd} (hz : ∀ x ∈ zs, isName (.str x) = true) (hn : zs.Nodup) (hlen : zs.length = l.length) (h0 : 0 < l.length) (hc : l.length ≤ c) (h : ∀ k ∈ l, Gz n z (zs ++ U) k) (hb : Gz n z (zs ++ U) b) : Gz (n + 1) (c * (z + 2) + z + 3) U (.tup [.str "let", .tup (rowsL zs l), b]) := by
  have h1 := hb.sz
  have h2 := szs_le fun k hk => (h k hk).sz
  have h3 : l.length * (z + 2) ≤ c * (z + 2) := Nat.mul_le_mul_right _ hc
  rw [Nat.mul_add] at h3
  have eN : (rowsL zs l).map (fun q => strOf (nth 0 q)) = zs := by
    have e := rowsL_names hlen
    have e2 := congrArg (List.map strOf) e
    rw [List.map_map, List.map_map] at e2
    have e3 : zs.map (strOf ∘ Dd.str) = zs.map id := List.map_congr_left fun _ _ => rfl
    rw [e3, List.map_id] at e2
    exact e2
  refine gz_mk (by decide +kernel) ?_ (nice_other nw.2.2.2.2.2.2.2.2.1 nw.2.2.2.2.2.2.2.2.2.1) (fun q hq => ?_) (by show 1 + (1 + (1 + Dd.szs (rowsL zs l) + (b.sz + 0))) ≤ _; rw [rowsL_sz hlen]; omega)
  · rw [fw_let]
    show (decide (2 = 2) && (rowsL zs l).all (isRow 2) && (decide (0 < (rowsL zs l).length) && areNames (.tup ((rowsL zs l).map (nth 0))))) = true
    rw [rowsL_two, rowsL_names hlen, rowsL_len hlen, decide_eq_true h0, show areNames (.tup (zs.map Dd.str)) = true from areNames_of hz hn]
    rfl
  · rw [sw_let, pw_let] at hq
    have hq : q ∈ ((rowsL zs l).map (fun _ => (rowsL zs l).map fun q => strOf (nth 0 q)) ++ [(rowsL zs l).map fun q => strOf (nth 0 q)]).zip ((rowsL zs l).map (nth 1) ++ [b]) := hq
    rw [eN, rowsL_terms hlen, zip_app (by rw [List.length_map, rowsL_len hlen])] at hq
    rcases List.mem_append.mp hq with e | e
    · obtain ⟨a, ha, k, hk, rfl⟩ := zip_map_l _ _ _ q e
      exact (h k hk).under
    · have e : q ∈ [(zs, b)] := e
      rw [List.mem_singleton.mp e]
      exact hb.under
/-- a default: none, or a name and a term -/
structure DfOk (n z : Nat) (U : List Str) (o : Option (Str × Dd)) : Prop where
  ok : ∀ q, o = some q → nameOk q.1 ∧ Gz n z (q.1 :: U) q.2
theorem dfl_good {n z : Nat} {U : List Str} {o : Option (Str × Dd)} (h : DfOk n z U o) : isDflt (dfl o) = true ∧ kindTup (dfl o) = false ∧ (dfl o).sz ≤ z + 2 ∧ ∀ q ∈ (dfltNs (dfl o)).zip (dfltP (dfl o)), isN n q.2 = true ∧ ∀ s, fr q.2 s → s ∈ q.1 ∨ s ∈ U ∨ s ∈ globs := by
  cases o with
  | none => exact ⟨rfl, rfl, by show 1 ≤ _; omega, fun q h => by cases h⟩
  | some q =>
    obtain ⟨⟨h1, h2⟩, h3⟩ := h.ok q rfl
    have h4 := h3.sz
    refine ⟨by show (true && isName (.str q.1)) = true; rw [h1]; rfl, decide_eq_false h2, by show 1 + (1 + (q.2.sz + 0)) ≤ _; omega, fun y hy => ?_⟩
    have hy : y ∈ [([q.1], q.2)] := hy
    rw [List.mem_singleton.mp hy]
    exact Gz.under (ns := [q.1]) h3
theorem szs_Cz {z : Nat} : ∀ {l : List (Int × List Str × Dd)}, (∀ q ∈ l, q.2.1.length ≤ 2 ∧ q.2.2.sz ≤ z) → Dd.szs (rowsC l) ≤ l.length * (z + 5)
  | [], _ => Nat.zero_le _
  | q :: l, h => by
    obtain ⟨h1, h2⟩ := h q (List.mem_cons_self ..)
    have h3 := szs_Cz fun q hq => h q (List.mem_cons_of_mem _ hq)
    have h4 := szs_strs q.2.1
    show (1 + (1 + ((1 + Dd.szs (q.2.1.map Dd.str)) + (q.2.2.sz + 0)))) + Dd.szs (rowsC l) ≤ (l.length + 1) * (z + 5)
    rw [Nat.succ_mul]
    omega
theorem szs_Pz {z : Nat} : ∀ {l : List (Int × Dd)}, (∀ q ∈ l, q.2.sz ≤ z) → Dd.szs (rowsP l) ≤ l.length * (z + 5)
  | [], _ => Nat.zero_le _
  | q :: l, h => by
    have h2 := h q (List.mem_cons_self ..)
    have h3 := szs_Pz fun q hq => h q (List.mem_cons_of_mem _ hq)
    show (1 + (1 + (q.2.sz + 0))) + Dd.szs (rowsP l) ≤ (l.length + 1) * (z + 5)
    rw [Nat.succ_mul]
    omega
theorem dflt_lenz {n z : Nat} {U : List Str} {o : Option (Str × Dd)} (h : DfOk n z U o) : (dfltNs (dfl o)).length = (dfltP (dfl o)).length := dflt_len (dfl_good h).1
theorem gz_case {n z : Nat} {U : List Str} {f : Dd} {l : List (Int × List Str × Dd)} {o : Option (Str × Dd)} (hf : Gz n z U f) (hl : l.length ≤ 2) (h : ∀ q ∈ l, 0 ≤ q.1 ∧ q.1 ≤ 1000 ∧ (∀ x ∈ q.2.1, isName (.str x) = true) ∧ q.2.1.Nodup ∧ q.2.1.length ≤ 2 ∧ Gz n z (q.2.1 ++ U) q.2.2) (ho : DfOk n z U o) :
    Gz (n + 1) (4 * z + 20) U (.tup [.str "case", f, .tup (rowsC l), dfl o]) := by
  have h1 := hf.sz
  have h2 := szs_Cz (z := z) (l := l) fun q hq => ⟨(h q hq).2.2.2.2.1, (h q hq).2.2.2.2.2.sz⟩
  have h4 : l.length * (z + 5) ≤ 2 * (z + 5) := Nat.mul_le_mul_right _ hl
  obtain ⟨k1, k2, k3, k4⟩ := dfl_good ho
  refine gz_mk (by decide +kernel) ?_ ?_ (fun q hq => ?_) (by show 1 + (1 + (f.sz + (1 + Dd.szs (rowsC l) + ((dfl o).sz + 0)))) ≤ _; omega)
  · rw [fw_case]
    show (decide (3 = 3) && (rowsC l).all (isRow 3) && isDflt (dfl o) && (rowsC l).all fun q => numIn 0 1000 (nth 0 q) && areNames (nth 1 q)) = true
    rw [k1, show (rowsC l).all (isRow 3) = true by unfold rowsC; rw [List.all_map, List.all_eq_true]; exact fun q _ => rfl,
      show ((rowsC l).all fun q => numIn 0 1000 (nth 0 q) && areNames (nth 1 q)) = true by
        unfold rowsC
        rw [List.all_map, List.all_eq_true]
        intro q hq
        obtain ⟨g1, g2, g3, g4, g5, g6⟩ := h q hq
        show ((decide (0 ≤ q.1) && decide (q.1 ≤ 1000)) && areNames (nameT q.2.1)) = true
        rw [decide_eq_true g1, decide_eq_true g2, areNames_of g3 g4]
        rfl]
    rfl
  · unfold niceW
    rw [if_pos rfl]
    show (!kindTup (dfl o)) = true
    rw [k2]
    rfl
  · rw [sw_case, pw_case] at hq
    have hq : q ∈ ([] :: ((rowsC l).map (fun q => strsOf (nth 1 q)) ++ dfltNs (dfl o))).zip (f :: ((rowsC l).map lastD ++ dfltP (dfl o))) := hq
    rw [List.zip_cons_cons, zip_app (by rw [List.length_map, List.length_map])] at hq
    rcases List.mem_cons.mp hq with e | e
    · rw [e]; exact hf.all
    rcases List.mem_append.mp e with e | e
    · have e : q ∈ (l.map fun q => ((q.2.1.map Dd.str).map strOf, q.2.2)) := by
        have z : ((rowsC l).map (fun q => strsOf (nth 1 q))).zip ((rowsC l).map lastD) = l.map fun q => ((q.2.1.map Dd.str).map strOf, q.2.2) := by
          unfold rowsC
          rw [List.map_map, List.map_map, List.zip_map']
          rfl
        rwa [z] at e
      obtain ⟨y, hy, rfl⟩ := List.mem_map.mp e
      have es : (y.2.1.map Dd.str).map strOf = y.2.1 := by
        rw [List.map_map]
        exact List.map_id _
      show isN n y.2.2 = true ∧ ∀ s, fr y.2.2 s → s ∈ (y.2.1.map Dd.str).map strOf ∨ _
      rw [es]
      exact (h y hy).2.2.2.2.2.under
    · exact k4 q e
theorem gz_pick {n z : Nat} {U : List Str} {f : Dd} {l : List (Int × Dd)} {o : Option (Str × Dd)} (hf : Gz n z U f) (hl : l.length ≤ 2) (h : ∀ q ∈ l, -10 ≤ q.1 ∧ q.1 ≤ 10 ∧ Gz n z U q.2) (hn : (l.map (·.1)).Nodup) (ho : DfOk n z U o) :
    Gz (n + 1) (4 * z + 20) U (.tup [.str "pick", f, .tup (rowsP l), dfl o]) := by
  have h1 := hf.sz
  have h2 := szs_Pz (z := z) (l := l) fun q hq => (h q hq).2.2.sz
  have h4 : l.length * (z + 5) ≤ 2 * (z + 5) := Nat.mul_le_mul_right _ hl
  obtain ⟨k1, k2, k3, k4⟩ := dfl_good ho
  have e1 : ((rowsP l).map (nth 0)) = l.map fun q => Dd.int q.1 := by unfold rowsP; rw [List.map_map]; rfl
  refine gz_mk (by decide +kernel) ?_ ?_ (fun q hq => ?_) (by show 1 + (1 + (f.sz + (1 + Dd.szs (rowsP l) + ((dfl o).sz + 0)))) ≤ _; omega)
  · rw [fw_pick]
    show (decide (3 = 3) && (rowsP l).all (isRow 2) && isDflt (dfl o) && (((rowsP l).map (nth 0)).all cNum && distK (((rowsP l).map (nth 0)).map keyD))) = true
    rw [k1, e1, show (rowsP l).all (isRow 2) = true by unfold rowsP; rw [List.all_map, List.all_eq_true]; exact fun q _ => rfl,
      show ((l.map fun q => Dd.int q.1).all cNum) = true by
        rw [List.all_map, List.all_eq_true]
        intro q hq
        obtain ⟨g1, g2, g3⟩ := h q hq
        show (decide (-1000000000000000 ≤ q.1) && decide (q.1 ≤ 1000000000000000)) = true
        rw [decide_eq_true (by omega), decide_eq_true (by omega)]
        rfl,
      dist_nodup (by rw [List.map_map]; exact (List.pairwise_map.mpr ((List.pairwise_map.mp hn).imp fun hab e => hab (Sum.inl.inj e))))]
    rfl
  · unfold niceW
    rw [if_neg (by decide +kernel), if_pos rfl]
    show (!kindTup (dfl o)) = true
    rw [k2]
    rfl
  · rw [sw_pick, pw_pick] at hq
    have hq : q ∈ ([] :: ((rowsP l).map (fun _ => ([] : List Str)) ++ dfltNs (dfl o))).zip (f :: ((rowsP l).map lastD ++ dfltP (dfl o))) := hq
    rw [List.zip_cons_cons, zip_app (by rw [List.length_map, List.length_map])] at hq
    rcases List.mem_cons.mp hq with e | e
    · rw [e]; exact hf.all
    rcases List.mem_append.mp e with e | e
    · obtain ⟨a, ha, k, hk, rfl⟩ := zip_map_l _ _ _ q e
      obtain ⟨y, hy, rfl⟩ := List.mem_map.mp hk
      unfold rowsP at hy
      obtain ⟨y', hy', rfl⟩ := List.mem_map.mp hy
      exact (h y' hy').2.2.all
    · exact k4 q e
/-! ### rows of texts are equal -/
theorem name_okS {x : Str} (h : isName (.str x) = true) : PyData.strOk x = true := by
  have h : ((decide (1 ≤ x.length) && decide (x.length ≤ 80)) && x.cps.toList.all fun c => decide (33 ≤ c) && decide (c ≤ 126) && decide (c ≠ 37)) = true := h
  have h2 := List.all_eq_true.mp (fand h).2
  unfold PyData.strOk
  rw [Array.all_eq_true_iff_forall_mem]
  intro c hc
  have h3 := h2 c (Array.mem_toList_iff.mpr hc)
  have := of_decide_eq_true (fand (fand h3).1).2
  exact decide_eq_true (by omega)
theorem strs_dp {K : PySem.W.Frag} {H : Hp} : ∀ ks : List Str, DpAll K H (ks.map V.str) (ks.map PyData.str)
  | [] => .nil
  | s :: ks => .cons (.str s) (strs_dp ks)
theorem strs_lay : ∀ ks : List Str, (∀ k ∈ ks, PyData.strOk k = true) → PyData.canLayAll0 (ks.map PyData.str) = true
  | [], _ => by simp [PyData.canLayAll0]
  | s :: ks, h => by
    have z := strs_lay ks fun k hk => h k (List.mem_cons_of_mem _ hk)
    have z2 : PyData.strOk s = true := h s (List.mem_cons_self ..)
    simp [PyData.canLayAll0, PyData.canLay0, z, z2]
theorem strs_depth : ∀ ks : List Str, PyData.depthAll (ks.map PyData.str) ≤ 1
  | [] => by simp [PyData.depthAll]
  | s :: ks => by
    have z := strs_depth ks
    simp [PyData.depthAll, PyData.depth]
    omega
theorem strs_shaped {ks : List Str} (h : ∀ k ∈ ks, isName (.str k) = true) : SeqAt.shaped (.list (ks.map PyData.str)) = true := by
  have z := strs_lay ks fun k hk => name_okS (h k hk)
  have z2 := strs_depth ks
  unfold SeqAt.shaped
  rw [Bool.and_eq_true]
  refine ⟨by simp [PyData.canLay0, z], decide_eq_true ?_⟩
  have z3 : (PyData.list (ks.map PyData.str)).depth ≤ 1 + PyData.depthAll (ks.map PyData.str) := by simp [PyData.depth]; omega
  omega
theorem strs_eq {ks : List Str} (h : ∀ k ∈ ks, isName (.str k) = true) : PyData.eqv (.list (ks.map PyData.str)) (.list (ks.map PyData.str)) = true :=
  SeqAt.eqv_refl _ (by
    have z := strs_lay ks fun k hk => name_okS (h k hk)
    simp [PyData.canLay0, z])
theorem strs_nil {ks : List Str} : PyData.eqv (.list (ks.map PyData.str)) (.list []) = decide (ks = []) := by
  cases ks with
  | nil => simp [PyData.eqv, PyData.eqvAll]
  | cons x r => simp [PyData.eqv, PyData.eqvAll]
end Toy

set_option Elab.async false
set_option linter.all false
set_option maxRecDepth 100000
set_option maxHeartbeats 4000000
/-! Part W: typed terms drawn: new names, variables, numbers, leaves. -/
namespace Toy
open PySem L2
open PyProof.Rows (envOfC)
theorem nk_rn : ¬ (Sum.inr ("row" : Str) : Key) = Sum.inr ("names" : Str) := by decide +kernel
theorem nk_an : ¬ (Sum.inr ("at" : Str) : Key) = Sum.inr ("names" : Str) := by decide +kernel
theorem dk_names (r : Addr) (i n l : Int) : valV (dk4 r i n l) (Sum.inr "names" : Key) = some (.int n) := (valV_neg nk_rn).trans ((valV_neg nk_an).trans (valV_pos rfl))
theorem dk_putn (r : Addr) (i n l j : Int) : putK (dk4 r i n l) (Sum.inr "names" : Key) (.int j) = dk4 r i j l := by
  have h1 : ¬ ("row" : Str) = "names" := by decide +kernel
  have h2 : ¬ ("at" : Str) = "names" := by decide +kernel
  have h3 : ¬ ("left" : Str) = "names" := by decide +kernel
  simp [putK, dk4, h1, h2, h3]
structure TxtY (mg : Str → Option Value) : Prop where
  zlen : mg "len" = none
  zmin : mg "min" = none
  zstr : mg "str" = none
  zint : mg "int" = none
  zlist : mg "list" = none
  ztuple : mg "tuple" = none
  zrange : mg "range" = none
  zreversed : mg "reversed" = none
/-- a scope: names and their kinds, in a list of pairs -/
def scD (q : Str × Str) : Dd := .tup [.str q.1, .str q.2]
structure ScAt (H : Hp) (sc : Addr) (S : List (Str × Str)) : Prop where
  at' : ∃ xs, H sc = some (.lst xs) ∧ Dd.Ats F0 H (S.map scD) xs
  ok : ∀ q ∈ S, nameOk q.1 ∧ q.2.length ≤ 1000
def sn (S : List (Str × Str)) : List Str := S.map (·.1)
theorem ScAt.keep {p r sc : Addr} {C : Nat} {S : List (Str × Str)} {H H' : Hp} (h : ScAt H sc S) (k : Keep p H H') (d : DAt H p r C) : ScAt H' sc S := by
  obtain ⟨xs, h1, h2⟩ := h.at'
  exact ⟨⟨xs, k _ _ (d.ne_list h1) h1, h2.keep (fr_keep k d)⟩, h.ok⟩
theorem ScAt.same {sc : Addr} {S : List (Str × Str)} {H H' : Hp} (h : ScAt H sc S) (s : Same H H') : ScAt H' sc S := by
  obtain ⟨xs, h1, h2⟩ := h.at'
  exact ⟨⟨xs, s _ _ h1, h2.keep (fr_same s)⟩, h.ok⟩
theorem sc_ext {H G : Hp} {sc t : Addr} {S : List (Str × Str)} {xs : List V} {x kd : Str} (hats : Dd.Ats F0 H (S.map scD) xs) (hok : ∀ q ∈ S, nameOk q.1 ∧ q.2.length ≤ 1000) (s : Same H G) (ht : G t = some (.tup [.str x, .str kd])) (h2 : G sc = some (.lst (xs ++ [.ref t]))) (hx : nameOk x) (hk : kd.length ≤ 1000) : ScAt G sc (S ++ [(x, kd)]) :=
  ⟨⟨_, h2, by
    rw [List.map_append]
    exact ats_app (hats.keep (fr_same s)) (ats_one (at_tup ht (ats_cons (at_str' hx.len) (ats_cons (at_str' hk) ats_nil)) : (scD (x, kd)).At F0 G (.ref t)))⟩, fun q hq => by
    rcases List.mem_append.mp hq with e | e
    · exact hok q e
    · rw [List.mem_singleton.mp e]
      exact ⟨hx, hk⟩⟩
theorem sn_snoc {S : List (Str × Str)} {x kd s : Str} (h : s ∈ sn (S ++ [(x, kd)])) : s ∈ x :: sn S := by
  unfold sn at h ⊢
  rw [List.map_append] at h
  rcases List.mem_append.mp h with e | e
  · exact List.mem_cons_of_mem _ e
  · have e : s ∈ [x] := e
    rw [List.mem_singleton.mp e]; exact List.mem_cons_self ..
theorem sn_snoc2 {S : List (Str × Str)} {x y k1 k2 s : Str} (h : s ∈ sn (S ++ [(x, k1), (y, k2)])) : s ∈ [x, y] ++ sn S := by
  unfold sn at h ⊢
  rw [List.map_append] at h
  rcases List.mem_append.mp h with e | e
  · exact List.mem_append_right _ e
  · exact List.mem_append_left _ e
section
variable {P : Program} {w : World} {K : PySem.W.Frag} {mg : Str → Option Value} {base : Heap}
abbrev sFresh : Stmt := topS 61
theorem scFresh : FnScope ["d"] ["d"] (defScope sFresh) := ⟨rfl, rfl, rfl, by decide +kernel, rfl, by decide +kernel, by decide +kernel⟩
def spFresh : Sp := fun vs H Q _ => ∃ (p r : Addr) (B : Nat), vs = [.ref p] ∧ DAt H p r B ∧ B ≤ 1000000000 ∧ ∀ (x : Str) (H' : Hp), nameOk x → Keep p H H' → DAt H' p r (B + 1) → Q (.str x) H'
theorem c_fresh {f : Addr} {fd : FuncData} (T : TxtY mg) (F : Fun K "_law_fresh" "_law_fresh" sFresh f fd) (b : Binds K fd ["d"] []) (hm : mg "_law_fresh" = some (.ref f)) : C8.Cal P w K mg base 1 "_law_fresh" spFresh [] := by
  refine cal_of F hm b scFresh (fun vs H Q E h => ?_) (fun cdv A outer s H vs Q E hr h => ?_)
  · obtain ⟨p, r, B, rfl, _⟩ := h
    rfl
  obtain ⟨p, r, B, rfl, ⟨row, i, n, l, hp, hrow, ok, hi, hn0, hn1⟩, hB, q⟩ := h
  have hu := hu_of hr
  have npr : r ≠ p := ne_of hrow hp (by intro z; cases z)
  refine ⟨_, (pss_cons (ps_dput hu (pv 0) pe_str (pe_op op_add (pe_dget hu (pv 0) pe_str (fun _ _ => rfl)) pe_int) rfl)
    (pss_one (ps_ret (pe_op op_add_str pe_str (pe_callTy call_str_int rfl T.zstr boot_str (pa_cons (pe_dget hu (pv 0) pe_str (fun _ _ => rfl)) pa_nil)))))), ?_⟩
  refine ⟨_, rfl, p, _, rfl, (dk_names r _ _ _ ▸ DGet.k (k := Sum.inr "names") hp), _, _, rfl, rfl, _, rfl, p, _, rfl, DPut.k (k := Sum.inr "names") hp (by show 4 < sizeLine; decide), ?_⟩
  rw [dk_putn]
  have hp2 : upd H p (.dK (dk4 r (i : Int) (n + 1) l)) p = some (.dK (dk4 r (i : Int) (n + 1) l)) := upd_same
  have k2 : Keep p H (upd H p (.dK (dk4 r (i : Int) (n + 1) l))) := fun b o hb e => by rw [upd_ne hb]; exact e
  have d2 : DAt (upd H p (.dK (dk4 r (i : Int) (n + 1) l))) p r (B + 1) := ⟨row, i, n + 1, l, hp2, by rw [upd_ne npr]; exact hrow, ok, by omega⟩
  have hx := xN_ok (n := n + 1) (by omega) (by omega)
  have hl : (Str.ofString (toString (n + 1))).length ≤ 10 := PySem.W.KT.len_num (by omega) (by omega)
  have hlog : (n + 1).natAbs.log2 < 1920 := (Nat.log2_lt (by omega)).mpr (Nat.lt_of_lt_of_le (show (n + 1).natAbs < 2 ^ 34 by omega) (Nat.pow_le_pow_right (by decide) (by decide)))
  refine ⟨_, rfl, p, _, rfl, (dk_names r _ _ _ ▸ DGet.k (k := Sum.inr "names") hp2), _, rfl, hlog, _, _, rfl, rfl, ?_, q _ _ hx k2 d2⟩
  have := big
  show 1 + _ ≤ _
  omega
abbrev sVar : Stmt := topS 67
theorem scVar : FnScope ["d", "scope", "kind", "found", "name", "other"] ["d", "scope", "kind"] (defScope sVar) := ⟨rfl, rfl, rfl, by decide +kernel, rfl, by decide +kernel, by decide +kernel⟩
def spVar : Sp := fun vs H Q _ => ∃ (p r sc : Addr) (B : Nat) (S : List (Str × Str)) (kd : Str), vs = [.ref p, .ref sc, .str kd] ∧ DAt H p r B ∧ ScAt H sc S ∧ S.length ≤ 1000 ∧ ∀ (v : V) (H' : Hp), Keep p H H' → DAt H' p r (B + 1) → (v = .non ∨ ∃ (t : Addr) (x : Str), v = .ref t ∧ H' t = some (.tup [.str "var", .str x]) ∧ x ∈ sn S ∧ nameOk x) → Q v H'
theorem c_var {f : Addr} {fd : FuncData} (T : TxtY mg) (c_law_take : C8.Cal P w K mg base 1 "_law_take" spTake []) (F : Fun K "_law_var" "_law_var" sVar f fd) (b : Binds K fd ["d", "scope", "kind"] []) (hm : mg "_law_var" = some (.ref f)) : C8.Cal P w K mg base 2 "_law_var" spVar [] := by
  refine cal_of F hm b scVar (fun vs H Q E h => ?_) (fun cdv A outer s H vs Q E hr h => ?_)
  · obtain ⟨p, r, sc, B, S, kd, rfl, _⟩ := h
    rfl
  obtain ⟨p, r, sc, B, S, kd, rfl, d0, ⟨⟨xs, hsc, hats⟩, hok⟩, hSl, q⟩ := h
  have hu := hu_of hr
  have hu64 := hr.units
  refine ⟨_, (pss_cons (ps_setLc (i := 3) (own := [("name", 4), ("other", 5)]) (g := gTup K 2 (gCons (gName 4) (gCons (gName 5) (gNil)))) (tt := (tTest (tOp rEq (tVar 5) (tVar 2)))) (te := (tVar 4)) rfl scVar.nd rfl rfl (sw_true rfl rfl rfl (by decide +kernel)) (pi_list (pv 1)) (blkOk_by (own := [("name", 4), ("other", 5)]) (N := ["d", "scope", "kind", "found", "name", "other"]) (sc := defScope sVar) (by decide +kernel)) (fun _ _ _ _ _ => (pg_tup rfl (pgs_cons (pg_name (i := 4) scVar.nd rfl (Or.inl rfl)) (pgs_cons (pg_name (i := 5) scVar.nd rfl (Or.inl rfl)) pgs_nil)))) (fun _ _ _ _ _ => pts_one (pt_cmpR op_eq (pv 5) (pv 2) (nomark _))) (fun _ _ _ _ _ => (pv 4)))
    (pss_cons (ps_if (pt_cmpR (op_eqD hu64) (pv 3) (pe_lst pa_nil) (nomark _))
      (pss_one (ps_ret pe_non))
      pss_nil)
    (pss_one (ps_ret (pe_tup (pa_cons pe_str (pa_cons (pe_ix ix_list (pv 3) (pe_op op_sub (pe_op op_sub (pe_callB call_len_seq rfl T.zlen PySem.boot_len (pa_cons (pv 3) pa_nil)) pe_int) (pe_op op_mod (C8.pe_c c_law_take hr (by decide) rfl (pa_cons (pv 0) pa_nil)) (pe_callB (call_min2 rfl) rfl T.zmin boot_min (pa_cons (pe_callB call_len_seq rfl T.zlen PySem.boot_len (pa_cons (pv 3) pa_nil)) (pa_cons pe_int pa_nil))))) (fun _ _ => rfl)) pa_nil))))))), ?_⟩
  have hxl := ats_len hats
  rw [List.length_map] at hxl
  refine ⟨_, rfl, sc, rfl, ⟨_, SqL.of hsc⟩, fun D hD => ?_⟩
  refine lc_list (a := sc) (xs := xs) (fun i G => Same H G ∧ ∃ ys : List Str, G D = some (.lst (ys.map V.str)) ∧ ys.length ≤ i ∧ ∀ y ∈ ys, y ∈ sn S ∧ nameOk y) ⟨same_new hD _, [], upd_same, Nat.le_refl _, fun y h => absurd h List.not_mem_nil⟩ (fun i G hi ⟨h, _⟩ => SqL.of (h _ _ hsc)) ?_ ?_
  · rintro i x G hx ⟨h1, ys, h2, h3, h4⟩
    obtain ⟨kk, hk, hkx⟩ := ats_get hats hx
    rw [List.getElem?_map] at hk
    cases hq : S[i]? with
    | none => rw [hq] at hk; cases hk
    | some qq =>
      rw [hq] at hk
      cases hk
      have hil : i < S.length := (List.getElem?_eq_some_iff.mp hq).1
      have hqm := List.mem_of_getElem? hq
      obtain ⟨t, x1, y1, rfl, ht, hx1, hy1⟩ := pair_at (m := [.str qq.1, .str qq.2]) hkx rfl
      obtain ⟨rfl, _⟩ := (show x1 = .str qq.1 ∧ _ from hx1)
      obtain ⟨rfl, _⟩ := (show y1 = .str qq.2 ∧ _ from hy1)
      refine ⟨t, _, rfl, SqT.of (h1 _ _ ht), rfl, _, _, rfl, _, _, rfl, rfl, rfl, ?_⟩
      refine ⟨_, rfl, _, rfl, rfl, _, rfl, ?_⟩
      show if decide (V.str qq.2 = V.str kd) = true then _ else _
      rcases Bool.eq_false_or_eq_true (decide (V.str qq.2 = V.str kd)) with c | c
      · rw [c]
        refine iteT ?_
        refine ⟨_, rfl, _, h2, by rw [List.length_map]; exact szl (by omega), same_upd hD h1 _, ys ++ [qq.1], by rw [upd_same, List.map_append]; rfl, by rw [List.length_append]; show _ + 1 ≤ _; omega, fun y hy => ?_⟩
        rcases List.mem_append.mp hy with e | e
        · exact h4 y e
        · rw [List.mem_singleton.mp e]
          exact ⟨List.mem_map.mpr ⟨qq, hqm, rfl⟩, (hok qq hqm).1⟩
      · rw [c]
        refine iteF ?_
        exact ⟨h1, ys, h2, by omega, h4⟩
  rintro G ⟨s1, ys, hys, hyl, hyn⟩
  have hnm : ∀ y ∈ ys, isName (.str y) = true := fun y hy => (hyn y hy).2.1
  refine ⟨_, rfl, by show 0 ≤ sizeLine; decide, fun l0 hl0 => ?_⟩
  have s2 := same_new hl0 (.lst [])
  have e2 : upd G l0 (.lst []) l0 = some (.lst (([] : List Str).map V.str)) := upd_same
  have hys2 := s2 _ _ hys
  generalize upd G l0 (.lst []) = G2 at s2 e2 hys2 ⊢
  have d2 := d0.same (sameT s1 s2)
  refine ⟨_, _, .lst (SqL.of hys2) (strs_dp ys), .lst (SqL.of e2) (strs_dp []), strs_shaped hnm, strs_shaped (fun y h => absurd h List.not_mem_nil), _, rfl, ?_⟩
  show if PyData.eqv (.list (ys.map PyData.str)) (.list []) = true then _ else _
  rw [strs_nil]
  have sA := sameT s1 s2
  by_cases c : ys = []
  · rw [decide_eq_true c]
    refine iteT ?_
    exact q .non G2 (Keep.same sA) (d2.more (by omega)) (.inl rfl)
  rw [decide_eq_false c]
  refine iteF ?_
  have hpos : 0 < ys.length := List.length_pos_iff.mpr c
  refine ⟨_, rfl, _, rfl, D, _, rfl, .inl (SqL.of hys2), ?_⟩
  refine ⟨_, _, rfl, rfl, _, rfl, p, r, B, rfl, d2, fun n H3 n0 n1 k3 d3 => ?_⟩
  have hys3 := k3 _ _ (d2.ne_list hys2) hys2
  refine ⟨_, rfl, D, _, rfl, .inl (SqL.of hys3), _, _, rfl, ?_⟩
  rw [List.length_map]
  have hm0 : (0 : Int) < (if (5 : Int) < (ys.length : Int) then 5 else (ys.length : Int)) := by split <;> omega
  have hm1 : (if (5 : Int) < (ys.length : Int) then 5 else (ys.length : Int)) ≤ (ys.length : Int) := by split <;> omega
  generalize (if (5 : Int) < (ys.length : Int) then 5 else (ys.length : Int)) = mm at hm0 hm1 ⊢
  have g0 := Int.emod_nonneg n (show mm ≠ 0 by omega)
  have g1 := Int.emod_lt_of_pos n hm0
  obtain ⟨z, hz, ez⟩ := at_str (zs := ys) (i := (ys.length : Int) - 1 - n % mm) (by omega) (by omega)
  refine ⟨_, _, rfl, rfl, hm0, _, _, rfl, rfl, D, _, _, _, rfl, rfl, SqL.of hys3, ez, by show 2 ≤ sizeLine; decide, fun t ht => ?_⟩
  have s4 := same_new ht (.tup [.str "var", .str z])
  exact q _ _ (((Keep.same sA).trans k3).trans (Keep.same s4)) (d3.same s4) (.inr ⟨t, z, rfl, upd_same, (hyn z hz).1, (hyn z hz).2⟩)
def nums : List Int := [0, 1, 2, 3, 4, 5, 7, -1, -3, 10, 100, 10 ^ (15 : Int).toNat, 10 ^ (8 : Int).toNat, 3 * 10 ^ (7 : Int).toNat, 6, 2]
theorem nums_ok : ∀ z ∈ nums, -1000000000000000 ≤ z ∧ z ≤ 1000000000000000 := by decide +kernel
abbrev sNum : Stmt := topS 68
theorem scNum : FnScope ["d", "numbers"] ["d"] (defScope sNum) := ⟨rfl, rfl, rfl, by decide +kernel, rfl, by decide +kernel, by decide +kernel⟩
def spNum : Sp := fun vs H Q _ => ∃ (p r : Addr) (B : Nat), vs = [.ref p] ∧ DAt H p r B ∧ ∀ (v : V) (k : Dd) (H' : Hp), Keep p H H' → DAt H' p r (B + 1) → k.At F0 H' v → (∀ U, Gz 1 3 U k) → Q v H'
theorem c_num {f : Addr} {fd : FuncData} (c_law_take : C8.Cal P w K mg base 1 "_law_take" spTake []) (F : Fun K "_law_number" "_law_number" sNum f fd) (b : Binds K fd ["d"] []) (hm : mg "_law_number" = some (.ref f)) : C8.Cal P w K mg base 2 "_law_number" spNum [] := by
  refine cal_of F hm b scNum (fun vs H Q E h => ?_) (fun cdv A outer s H vs Q E hr h => ?_)
  · obtain ⟨p, r, B, rfl, _⟩ := h
    rfl
  obtain ⟨p, r, B, rfl, d0, q⟩ := h
  refine ⟨_, (pss_cons (ps_set (i := 1) scNum.nd rfl (Or.inl rfl) (pe_lst (pa_cons pe_int (pa_cons pe_int (pa_cons pe_int (pa_cons pe_int (pa_cons pe_int (pa_cons pe_int (pa_cons pe_int (pa_cons (pe_un un_neg pe_int) (pa_cons (pe_un un_neg pe_int) (pa_cons pe_int (pa_cons pe_int (pa_cons (pe_op op_pow pe_int pe_int) (pa_cons (pe_op op_pow pe_int pe_int) (pa_cons (pe_op op_mul pe_int (pe_op op_pow pe_int pe_int)) (pa_cons pe_int (pa_cons pe_int pa_nil))))))))))))))))))
    (pss_one (ps_ret (pe_tup (pa_cons pe_str (pa_cons (pe_ix ix_list (pv 1) (pe_op op_mod (C8.pe_c c_law_take hr (by decide) rfl (pa_cons (pv 0) pa_nil)) pe_int) (fun _ _ => rfl)) pa_nil)))))), ?_⟩
  refine ⟨_, rfl, _, rfl, _, _, rfl, rfl, (by unfold CPow; decide), _, _, rfl, rfl, (by unfold CPow; decide), _, _, rfl, rfl, (by unfold CPow; decide), _, _, rfl, rfl, (by unfold CMul; decide), by show 16 ≤ sizeLine; decide, fun lz hlz => ?_⟩
  have s2 := same_new hlz (.lst (nums.map V.int))
  have e2 : upd H lz (.lst (nums.map V.int)) lz = some (.lst (nums.map V.int)) := upd_same
  have d2 := d0.same s2
  refine ⟨_, rfl, _, rfl, p, r, _, rfl, d2, fun n2 H2 n20 n21 k3 d3 => ?_⟩
  obtain ⟨z, hz, ez⟩ := at_intN (ns := nums) (i := n2 % 16) (Int.emod_nonneg _ (by decide)) (by show n2 % 16 < 16; exact Int.emod_lt_of_pos _ (by decide))
  refine ⟨_, _, rfl, rfl, (show (0 : Int) < 16 by decide), lz, _, _, _, rfl, rfl, SqL.of (k3 _ _ (d2.ne_list e2) e2), ez, ?_⟩
  refine ⟨by show 2 ≤ sizeLine; decide, fun t ht => ?_⟩
  have s3 := same_new ht (.tup [.str "num", .int z])
  exact q _ (.tup [.str "num", .int z]) _ (((Keep.same s2).trans k3).trans (Keep.same s3)) (d3.same s3) (at_tup upd_same (ats_cons (at_str' (by decide +kernel)) (ats_cons at_int' ats_nil))) fun U => gz_num (nums_ok z hz).1 (nums_ok z hz).2
abbrev sLeaf : Stmt := topS 69
theorem scLeaf : FnScope ["d", "scope", "kind", "found", "name"] ["d", "scope", "kind"] (defScope sLeaf) := ⟨rfl, rfl, rfl, by decide +kernel, rfl, by decide +kernel, by decide +kernel⟩
def spLeaf (m : Nat) : Sp := fun vs H Q _ => ∃ (p r sc : Addr) (B : Nat) (S : List (Str × Str)) (kd : Str), vs = [.ref p, .ref sc, .str kd] ∧ 0 < m ∧ (m = 1 → kd = "I") ∧ DAt H p r B ∧ ScAt H sc S ∧ S.length + m ≤ 1000 ∧ B + 10 * m ≤ 1000000000 ∧ ∀ (v : V) (k : Dd) (H' : Hp), Keep p H H' → DAt H' p r (B + 3 * m) → k.At F0 H' v → Gz m (10 * m) (sn S) k → Q v H'
theorem c_leaf1 {f : Addr} {fd : FuncData} (T : TxtY mg) (c_law_take : C8.Cal P w K mg base 1 "_law_take" spTake []) (c_law_fresh : C8.Cal P w K mg base 1 "_law_fresh" spFresh []) (c_law_var : C8.Cal P w K mg base 2 "_law_var" spVar []) (c_law_number : C8.Cal P w K mg base 2 "_law_number" spNum []) {m : Nat} (c_law_leaf : C8.Cal P w K mg base (m + 2) "_law_leaf" (spLeaf m) []) (hm1 : m ≤ 1) (F : Fun K "_law_leaf" "_law_leaf" sLeaf f fd) (b : Binds K fd ["d", "scope", "kind"] []) (hm : mg "_law_leaf" = some (.ref f)) : C8.Cal P w K mg base (m + 1 + 2) "_law_leaf" (spLeaf (m + 1)) [] := by
  refine cal_of F hm b scLeaf (fun vs H Q E h => ?_) (fun cdv A outer s H vs Q E hr h => ?_)
  · obtain ⟨p, r, sc, B, S, kd, rfl, _⟩ := h
    rfl
  obtain ⟨p, r, sc, B, S, kd, rfl, _, hkd, d0, hS, hSl, hB, q⟩ := h
  refine ⟨_, (pss_cons (ps_set (i := 3) scLeaf.nd rfl (Or.inl rfl) (C8.pe_c c_law_var hr (by omega) rfl (pa_cons (pv 0) (pa_cons (pv 1) (pa_cons (pv 2) pa_nil)))))
    (C8.pss_cut (ps_if (PW.pt (pw_and (pt_cmpR op_notN (pv 3) pe_non (nomark _)) (pw_and1 (pt_cmpR op_gt (pe_op op_mod (C8.pe_c c_law_take hr (by omega) rfl (pa_cons (pv 0) pa_nil)) pe_int) pe_int (nomark _)))))
      (pss_one (ps_ret (pv 3)))
      pss_nil)
    (pss_cons (ps_if (pt_cmpR op_eq (pv 2) pe_str (nomark _))
      (pss_one (ps_ret (C8.pe_c c_law_number hr (by omega) rfl (pa_cons (pv 0) pa_nil))))
      pss_nil)
    (pss_cons (ps_if (pt_cmpR op_eq (pv 2) pe_str (nomark _))
      (pss_one (ps_ret (pe_tup (pa_cons pe_str (pa_cons (pe_op op_mod (C8.pe_c c_law_take hr (by omega) rfl (pa_cons (pv 0) pa_nil)) pe_int) (pa_cons (pe_tup pa_nil) pa_nil))))))
      pss_nil)
    (pss_cons (ps_if (pt_cmpR op_eq (pv 2) pe_str (nomark _))
      (pss_cons (ps_if (pt_cmpR op_eq (pe_op op_mod (C8.pe_c c_law_take hr (by omega) rfl (pa_cons (pv 0) pa_nil)) pe_int) pe_int (nomark _))
      (pss_one (ps_ret (pe_tup (pa_cons pe_str (pa_cons pe_int (pa_cons (pe_tup pa_nil) pa_nil))))))
      pss_nil)
    (pss_one (ps_ret (pe_tup (pa_cons pe_str (pa_cons pe_int (pa_cons (pe_tup (pa_cons (C8.pe_c c_law_leaf hr (by omega) rfl (pa_cons (pv 0) (pa_cons (pv 1) (pa_cons pe_str pa_nil)))) (pa_cons (pe_tup (pa_cons pe_str (pa_cons pe_int (pa_cons (pe_tup pa_nil) pa_nil)))) pa_nil))) pa_nil)))))))
      pss_nil)
    (pss_cons (ps_set (i := 4) scLeaf.nd rfl (Or.inl rfl) (C8.pe_c c_law_fresh hr (by omega) rfl (pa_cons (pv 0) pa_nil)))
    (pss_one (ps_ret (pe_tup (pa_cons pe_str (pa_cons (pv 4) (pa_cons (C8.pe_c c_law_leaf hr (by omega) rfl (pa_cons (pv 0) (pa_cons (pe_op op_cat (pv 1) (pe_lst (pa_cons (pe_tup (pa_cons (pv 4) (pa_cons pe_str pa_nil))) pa_nil))) (pa_cons pe_str pa_nil)))) pa_nil)))))))))))), ?_⟩
  refine ⟨_, rfl, _, rfl, _, rfl, p, r, sc, B, S, kd, rfl, d0, hS, by omega, fun v H1 k1 d1 hv => ?_⟩
  have hS1 := hS.keep k1 d0
  have rest : ∀ (H2 : Hp) (B2 : Nat), Keep p H H2 → DAt H2 p r B2 → B2 ≤ B + 2 → ScAt H2 sc S → ∃ X : Prop, X ∧ True := fun _ _ _ _ _ _ => ⟨True, trivial, trivial⟩
  refine ⟨fun σ G => ∃ (v4 : Option V), σ = [some (.ref p), some (.ref sc), some (.str kd), some v, v4] ∧ Keep p H G ∧ DAt G p r (B + 2) ∧ ScAt G sc S, ?_, ?_⟩
  · refine ⟨_, rfl, rfl, ?_⟩
    refine ⟨_, rfl, ?_⟩
    show if (!decide (v = V.non)) = true then _ else _
    rcases hv with rfl | ⟨t, x, rfl, ht, hxS, hx⟩
    · rw [decide_eq_true rfl]
      refine iteF (iteF ?_)
      exact ⟨_, rfl, k1, d1.more (by omega), hS1⟩
    rw [decide_eq_false (by intro e; cases e)]
    refine iteT ?_
    refine ⟨_, rfl, p, r, _, rfl, d1, fun n H2 n0 n1 k2 d2 => ?_⟩
    refine ⟨_, _, rfl, rfl, (show (0 : Int) < 5 by decide), _, _, rfl, rfl, _, rfl, ?_⟩
    show if decide (0 < n % 5) = true then _ else _
    rcases Bool.eq_false_or_eq_true (decide (0 < n % 5)) with c | c
    · rw [c]
      refine iteT ?_
      refine ⟨_, rfl, q _ (.tup [.str "var", .str x]) H2 (k1.trans k2) (d2.more (by omega)) (at_tup (k2 _ _ (d1.ne_tup ht) ht) (ats_cons (at_str' (by decide +kernel)) (ats_cons (at_str' hx.len) ats_nil))) ?_⟩
      exact (gz_var hx.1 (.inl hxS)).mono (by omega) (by omega) fun s h => h
    · rw [c]
      refine iteF ?_
      exact ⟨_, rfl, k1.trans k2, d2, hS1.keep k2 d1⟩
  rintro σ G ⟨v4, rfl, kG, dG, hSG⟩
  refine ⟨_, rfl, rfl, _, rfl, ?_⟩
  by_cases c1 : kd = "I"
  · subst c1
    show if decide (V.str "I" = V.str "I") = true then _ else _
    rw [wtt]
    refine iteT ?_
    exact ⟨_, rfl, p, r, _, rfl, dG, fun v2 k2 H2 kk dd aa gg => q v2 k2 H2 (kG.trans kk) (dd.more (by omega)) aa ((gg (sn S)).mono (by omega) (by omega) fun s h => h)⟩
  show if decide (V.str kd = V.str "I") = true then _ else _
  rw [wne c1]
  refine iteF ?_
  obtain rfl : m = 1 := by
    rcases Nat.eq_or_lt_of_le hm1 with e | e
    · exact e
    · exact (c1 (hkd (by omega))).elim
  refine ⟨_, rfl, rfl, _, rfl, ?_⟩
  by_cases c2 : kd = "B"
  · subst c2
    show if decide (V.str "B" = V.str "B") = true then _ else _
    rw [wtt]
    refine iteT ?_
    refine ⟨_, rfl, p, r, _, rfl, dG, fun n H2 n0 n1 k2 d2 => ?_⟩
    have m0 := Int.emod_nonneg n (show (2 : Int) ≠ 0 by decide)
    have m1 := Int.emod_lt_of_pos n (show (0 : Int) < 2 by decide)
    refine ⟨_, _, rfl, rfl, (show (0 : Int) < 2 by decide), by show 0 ≤ sizeLine; decide, fun u hu => ⟨by show 3 ≤ sizeLine; decide, fun t ht => ?_⟩⟩
    have su := same_new hu (.tup [])
    have st := same_new ht (.tup [.str "con", .int (n % 2), .ref u])
    exact q _ (.tup [.str "con", .int (n % 2), .tup []]) _ ((kG.trans k2).trans (Keep.same (sameT su st))) ((d2.same (sameT su st)).more (by omega)) (at_tup upd_same (ats_cons (at_str' (by decide +kernel)) (ats_cons at_int' (ats_cons (at_tup (st _ _ upd_same) ats_nil) ats_nil)))) ((gz_con (n := 1) (z := 1) (c := 0) (by omega) (by omega) (Nat.le_refl _) fun k h => absurd h List.not_mem_nil).mono (by omega) (by omega) fun s h => h)
  show if decide (V.str kd = V.str "B") = true then _ else _
  rw [wne c2]
  refine iteF ?_
  refine ⟨_, rfl, rfl, _, rfl, ?_⟩
  by_cases c3 : kd = "L"
  · subst c3
    show if decide (V.str "L" = V.str "L") = true then _ else _
    rw [wtt]
    refine iteT ?_
    refine ⟨_, rfl, p, r, _, rfl, dG, fun n H2 n0 n1 k2 d2 => ?_⟩
    have hS2 := hSG.keep k2 dG
    refine ⟨_, _, rfl, rfl, (show (0 : Int) < 2 by decide), rfl, _, rfl, ?_⟩
    show if decide (V.int (n % 2) = V.int 0) = true then _ else _
    rcases Bool.eq_false_or_eq_true (decide (V.int (n % 2) = V.int 0)) with c | c
    · rw [c]
      refine iteT ?_
      refine ⟨by show 0 ≤ sizeLine; decide, fun u hu => ⟨by show 3 ≤ sizeLine; decide, fun t ht => ?_⟩⟩
      have su := same_new hu (.tup [])
      have st := same_new ht (.tup [.str "con", .int 0, .ref u])
      exact q _ (.tup [.str "con", .int 0, .tup []]) _ ((kG.trans k2).trans (Keep.same (sameT su st))) ((d2.same (sameT su st)).more (by omega)) (at_tup upd_same (ats_cons (at_str' (by decide +kernel)) (ats_cons at_int' (ats_cons (at_tup (st _ _ upd_same) ats_nil) ats_nil)))) ((gz_con (n := 1) (z := 1) (c := 0) (by omega) (by omega) (Nat.le_refl _) fun k h => absurd h List.not_mem_nil).mono (by omega) (by omega) fun s h => h)
    rw [c]
    refine iteF ?_
    refine ⟨_, rfl, _, rfl, p, r, sc, _, S, "I", rfl, by decide, fun _ => rfl, d2, hS2, by omega, by omega, fun v3 k3 H3 kk3 dd3 aa3 gg3 => ?_⟩
    refine ⟨by show 0 ≤ sizeLine; decide, fun u hu => ⟨by show 3 ≤ sizeLine; decide, fun t ht => ⟨by show 2 ≤ sizeLine; decide, fun t2 ht2 => ⟨by show 3 ≤ sizeLine; decide, fun t3 ht3 => ?_⟩⟩⟩⟩
    have su := same_new hu (.tup [])
    have st := same_new ht (.tup [.str "con", .int 0, .ref u])
    have st2 := same_new ht2 (.tup [v3, .ref t])
    have st3 := same_new ht3 (.tup [.str "con", .int 1, .ref t2])
    have s23 := sameT st2 st3
    have sA := sameT su (sameT st s23)
    refine q _ (.tup [.str "con", .int 1, .tup [k3, .tup [.str "con", .int 0, .tup []]]]) _ (((kG.trans k2).trans kk3).trans (Keep.same sA)) ((dd3.same sA).more (by omega)) (at_tup upd_same (ats_cons (at_str' (by decide +kernel)) (ats_cons at_int' (ats_cons (at_tup (st3 _ _ upd_same) (ats_cons (aa3.keep (fr_same sA)) (ats_cons (at_tup (s23 _ _ upd_same) (ats_cons (at_str' (by decide +kernel)) (ats_cons at_int' (ats_cons (at_tup (sameT st s23 _ _ upd_same) ats_nil) ats_nil)))) ats_nil))) ats_nil)))) ?_
    have hsz := gg3.sz
    have g0 : Gz 1 4 (sn S) (.tup [.str "con", .int 0, .tup []]) := (gz_con (n := 0) (z := 1) (c := 0) (by omega) (by omega) (Nat.le_refl _) fun k h => absurd h List.not_mem_nil).mono (by omega) (by omega) fun s h => h
    have gg4 : Gz 1 10 (sn S) k3 := gg3.mono (by omega) (by omega) fun s h => h
    have hl := gz_con (n := 1) (z := 10) (c := 2) (i := 1) (l := [k3, .tup [.str "con", .int 0, .tup []]]) (by omega) (by omega) (Nat.le_refl _) fun k h => by
      simp only [List.mem_cons, List.not_mem_nil, or_false] at h
      rcases h with rfl | rfl
      · exact gg4
      · exact g0.mono (by omega) (by omega) fun s h => h
    refine ⟨hl.ok, ?_, hl.fri⟩
    show 1 + (1 + (1 + (1 + (k3.sz + (4 + 0)) + 0))) ≤ 20
    omega
  show if decide (V.str kd = V.str "L") = true then _ else _
  rw [wne c3]
  refine iteF ?_
  refine ⟨_, rfl, p, r, _, rfl, dG, by omega, fun x H2 hx k2 d2 => ?_⟩
  have hS2 := hSG.keep k2 dG
  obtain ⟨xs, hsc, hats⟩ := hS2.at'
  refine ⟨_, rfl, _, rfl, _, rfl, _, rfl, by show 2 ≤ sizeLine; decide, fun t ht => ⟨by show 1 ≤ sizeLine; decide, fun l1 hl1 => ?_⟩⟩
  have st := same_new ht (.tup [.str x, .str "I"])
  have sl := same_new hl1 (.lst [.ref t])
  have hxl := ats_len hats
  rw [List.length_map] at hxl
  refine ⟨sc, l1, xs, _, rfl, rfl, sl _ _ (st _ _ hsc), upd_same, by have := big; show xs.length + 1 ≤ _; omega, fun sc2 hsc2 => ?_⟩
  have s3 := same_new hsc2 (.lst (xs ++ [.ref t]))
  have sA := sameT st (sameT sl s3)
  have hS3 : ScAt (upd (upd (upd H2 t (.tup [.str x, .str "I"])) l1 (.lst [.ref t])) sc2 (.lst (xs ++ [.ref t]))) sc2 (S ++ [(x, ("I" : Str))]) := sc_ext (t := t) hats hS.ok sA (s3 _ _ (sl _ _ upd_same)) upd_same hx (by decide +kernel)
  refine ⟨p, r, sc2, _, S ++ [(x, ("I" : Str))], "I", rfl, by decide, fun _ => rfl, d2.same sA, hS3, by rw [List.length_append]; show _ + 1 + 1 ≤ _; omega, by omega, fun v3 k3 H3 kk3 dd3 aa3 gg3 => ?_⟩
  refine ⟨by show 3 ≤ sizeLine; decide, fun t3 ht3 => ?_⟩
  have s4 := same_new ht3 (.tup [.str "lam", .str x, v3])
  refine q _ (.tup [.str "lam", .str x, k3]) _ ((((kG.trans k2).trans (Keep.same sA)).trans kk3).trans (Keep.same s4)) ((dd3.same s4).more (by omega)) (at_tup upd_same (ats_cons (at_str' (by decide +kernel)) (ats_cons (at_str' hx.len) (ats_cons (aa3.keep (fr_same s4)) ats_nil)))) ?_
  exact (gz_lam (n := 1) (z := 10) hx.1 (gg3.mono (by omega) (by omega) fun s h => sn_snoc h)).mono (by omega) (by omega) fun s h => h
theorem c_leaf {f : Addr} {fd : FuncData} (T : TxtY mg) (c_law_take : C8.Cal P w K mg base 1 "_law_take" spTake []) (c_law_fresh : C8.Cal P w K mg base 1 "_law_fresh" spFresh []) (c_law_var : C8.Cal P w K mg base 2 "_law_var" spVar []) (c_law_number : C8.Cal P w K mg base 2 "_law_number" spNum []) (F : Fun K "_law_leaf" "_law_leaf" sLeaf f fd) (b : Binds K fd ["d", "scope", "kind"] []) (hm : mg "_law_leaf" = some (.ref f)) : C8.Cal P w K mg base 4 "_law_leaf" (spLeaf 2) [] :=
  c_leaf1 T c_law_take c_law_fresh c_law_var c_law_number (c_leaf1 T c_law_take c_law_fresh c_law_var c_law_number (cal_none F hm b fun vs H Q E h => by
    obtain ⟨p, r, sc, B, S, kd, _, h, _⟩ := h
    omega) (by decide) F b hm) (by decide) F b hm
end
end Toy

set_option Elab.async false
set_option linter.all false
set_option maxRecDepth 100000
set_option maxHeartbeats 4000000
/-! Part A2: lets and defaults of typed terms. -/
namespace Toy
open PySem L2
open PyProof.Rows (envOfC)
/-- the reader, with the number of the last new name -/
def DAtN (H : Hp) (p r : Addr) (B : Nat) (n : Int) : Prop := ∃ (row : List Int) (i : Nat) (l : Int), H p = some (.dK (dk4 r (i : Int) n l)) ∧ H r = some (.lst (row.map V.int)) ∧ RowOk row ∧ (i ≤ B ∧ 0 ≤ n ∧ n ≤ (B : Int))
theorem DAt.n {H : Hp} {p r : Addr} {B : Nat} (d : DAt H p r B) : ∃ n, DAtN H p r B n := by
  obtain ⟨row, i, n, l, h⟩ := d
  exact ⟨n, row, i, l, h⟩
theorem DAtN.to {H : Hp} {p r : Addr} {B : Nat} {n : Int} (d : DAtN H p r B n) : DAt H p r B := by
  obtain ⟨row, i, l, h⟩ := d
  exact ⟨row, i, n, l, h⟩
theorem DAtN.same {H H' : Hp} {p r : Addr} {B : Nat} {n : Int} (d : DAtN H p r B n) (s : Same H H') : DAtN H' p r B n := by
  obtain ⟨row, i, l, h1, h2, h3⟩ := d
  exact ⟨row, i, l, s _ _ h1, s _ _ h2, h3⟩
theorem DAtN.off {H : Hp} {p r x : Addr} {B : Nat} {n : Int} (d : DAtN H p r B n) (h1 : x ≠ p) (h2 : x ≠ r) (o : HO) : DAtN (upd H x o) p r B n := by
  obtain ⟨row, i, l, g1, g2, g3⟩ := d
  exact ⟨row, i, l, by rw [upd_ne h1.symm]; exact g1, by rw [upd_ne h2.symm]; exact g2, g3⟩
theorem DAtN.more {H : Hp} {p r : Addr} {B C : Nat} {n : Int} (d : DAtN H p r B n) (h : B ≤ C) : DAtN H p r C n := by
  obtain ⟨row, i, l, h1, h2, h3, h4⟩ := d
  exact ⟨row, i, l, h1, h2, h3, by omega⟩
theorem DAtN.pos {H : Hp} {p r : Addr} {B : Nat} {n : Int} (d : DAtN H p r B n) : 0 ≤ n ∧ n ≤ (B : Int) := by
  obtain ⟨row, i, l, _, _, _, h4⟩ := d
  omega
theorem xN_inj {a b : Int} (a0 : 0 ≤ a) (a1 : a < 10 ^ 10) (b0 : 0 ≤ b) (b1 : b < 10 ^ 10) (h : xN a = xN b) : a = b := by
  have e := congrArg (fun z => z.cps.toList) h
  have e : (xN a).cps.toList = (xN b).cps.toList := e
  unfold xN at e
  rw [cps_app, cps_app] at e
  have e2 := str_cps (List.append_cancel_left e)
  have h1 := PySem.W.KIN.num_reads a0 a1
  rw [e2, PySem.W.KIN.num_reads b0 b1] at h1
  exact (Option.some.inj h1).symm
theorem atL (xs : List V) (x : V) : atI (xs ++ [x]) (-1) = some x := by
  have e : ixN (xs ++ [x]).length (-1) = some xs.length := by
    unfold ixN
    rw [if_neg (by decide), if_pos (by rw [List.length_append]; show -(((xs.length + 1 : Nat)) : Int) ≤ -1; omega)]
    rw [List.length_append]
    refine congrArg some ?_
    show (-1 + ((xs.length + 1 : Nat) : Int)).toNat = _
    omega
  show (ixN (xs ++ [x]).length (-1)).bind (fun j => (xs ++ [x])[j]?) = _
  rw [e]
  show (xs ++ [x])[xs.length]? = _
  simp
theorem p4n (e : Nat) : 4 ^ (e + 1) = 4 * 4 ^ e := by rw [Nat.pow_succ]; omega
theorem ed4 (a b c : V) (e : Nat) : [a, b, c, V.int (((e + 1 : Nat) : Int) - 1)] = [a, b, c, V.int (e : Int)] := by rw [show ((e + 1 : Nat) : Int) - 1 = (e : Int) by omega]
theorem sn_mem {S : List (Str × Str)} {s : Str} (h : s ∈ sn S) : ∃ q ∈ S, q.1 = s := List.mem_map.mp h
def kinds5 : List Str := ["I", "L", "F", "I", "B"]
theorem kinds5_ok : ∀ z ∈ kinds5, z.length ≤ 1000 := by decide +kernel
theorem sn_app (S T : List (Str × Str)) : sn (S ++ T) = sn S ++ sn T := List.map_append
section
variable {P : Program} {w : World} {K : PySem.W.Frag} {mg : Str → Option Value} {base : Heap}
def spTakeN : Sp := fun vs H Q _ => ∃ (p r : Addr) (B : Nat) (m : Int), vs = [.ref p] ∧ DAtN H p r B m ∧ ∀ (n : Int) (H' : Hp), 0 ≤ n → n ≤ 997 + (B : Int) → Keep p H H' → DAtN H' p r (B + 1) m → Q (.int n) H'
theorem c_takeN {f : Addr} {fd : FuncData} (T : TxtD mg) (F : Fun K "_law_take" "_law_take" sTake f fd) (b : Binds K fd ["d"] []) (hm : mg "_law_take" = some (.ref f)) : C8.Cal P w K mg base 1 "_law_take" spTakeN [] := by
  refine cal_of F hm b scTake (fun vs H Q E h => ?_) (fun cdv A outer s H vs Q E hr h => ?_)
  · obtain ⟨p, r, B, m, rfl, _⟩ := h
    rfl
  obtain ⟨p, r, B, n, rfl, ⟨row, i, l, hp, hrow, ⟨⟨hl0, hl1⟩, hrw⟩, hiB⟩, q⟩ := h
  have hu := hu_of hr
  have npr : r ≠ p := ne_of hrow hp (by intro z; cases z)
  refine ⟨_, (pss_cons (ps_set (i := 1) scTake.nd rfl (Or.inl rfl) (pe_dget hu (pv 0) pe_str (fun _ _ => rfl)))
    (pss_cons (ps_dput hu (pv 0) pe_str (pe_op op_add (pv 1) pe_int) rfl)
    (pss_one (ps_ret (pe_op op_add (pe_ix ix_list (pe_dget hu (pv 0) pe_str (fun _ _ => rfl)) (pe_op op_mod (pv 1) (pe_callB call_len_seq rfl T.zlen PySem.boot_len (pa_cons (pe_dget hu (pv 0) pe_str (fun _ _ => rfl)) pa_nil))) (fun _ _ => rfl)) (pe_op op_fdiv (pv 1) (pe_callB call_len_seq rfl T.zlen PySem.boot_len (pa_cons (pe_dget hu (pv 0) pe_str (fun _ _ => rfl)) pa_nil)))))))), ?_⟩
  refine ⟨_, rfl, p, _, rfl, (dk_at r _ _ _ ▸ DGet.k (k := Sum.inr "at") hp), ?_⟩
  refine ⟨_, rfl, _, _, rfl, rfl, _, rfl, p, _, rfl, DPut.k (k := Sum.inr "at") hp (by show 4 < sizeLine; decide), ?_⟩
  rw [dk_put]
  have hp2 : upd H p (.dK (dk4 r ((i : Int) + 1) n l)) p = some (.dK (dk4 r ((i : Int) + 1) n l)) := upd_same
  have hr2 : upd H p (.dK (dk4 r ((i : Int) + 1) n l)) r = some (.lst (row.map V.int)) := by rw [upd_ne npr]; exact hrow
  have fin : ∀ z : Int, 0 ≤ z → z ≤ 997 + (B : Int) → Q (.int z) (upd H p (.dK (dk4 r ((i : Int) + 1) n l))) := fun z h0 h1 =>
    q z _ h0 h1 (fun b o hb e => by rw [upd_ne hb]; exact e) ⟨row, i + 1, l, by rw [upd_same]; rfl, hr2, ⟨⟨hl0, hl1⟩, hrw⟩, by omega⟩
  generalize upd H p (.dK (dk4 r ((i : Int) + 1) n l)) = H2 at hp2 hr2 fin ⊢
  have hlen : (0 : Int) < (((row.map V.int).length : Nat) : Int) := by rw [List.length_map]; omega
  have m0 := Int.emod_nonneg (i : Int) (b := (((row.map V.int).length : Nat) : Int)) (by omega)
  have m1 := Int.emod_lt_of_pos (i : Int) hlen
  obtain ⟨v, hv, hv0, hv1⟩ := at_intR hrw (i := (i : Int) % (((row.map V.int).length : Nat) : Int)) m0 (by rw [List.length_map] at m1 ⊢; exact m1)
  refine ⟨_, rfl, p, _, rfl, (dk_row r _ _ _ ▸ DGet.k (k := Sum.inr "row") hp2), _, rfl, _, rfl, p, _, rfl, (dk_row r _ _ _ ▸ DGet.k (k := Sum.inr "row") hp2), r, _, rfl, .inl (SqL.of hr2), _, _, rfl, rfl, hlen, r, _, _, _, rfl, rfl, SqL.of hr2, hv, ?_⟩
  refine ⟨_, rfl, _, rfl, p, _, rfl, (dk_row r _ _ _ ▸ DGet.k (k := Sum.inr "row") hp2), r, _, rfl, .inl (SqL.of hr2), ?_⟩
  refine ⟨_, _, rfl, rfl, ⟨hlen, by rw [List.length_map]; omega⟩, _, _, rfl, rfl, ?_⟩
  have d0 := Int.ediv_nonneg (a := (i : Int)) (b := (((row.map V.int).length : Nat) : Int)) (by omega) (by omega)
  have d1 : (i : Int) / (((row.map V.int).length : Nat) : Int) ≤ (i : Int) := Int.ediv_le_self _ (by omega)
  exact fin _ (by omega) (by omega)
def spFreshN : Sp := fun vs H Q _ => ∃ (p r : Addr) (B : Nat) (m : Int), vs = [.ref p] ∧ DAtN H p r B m ∧ B ≤ 1000000000 ∧ ∀ (H' : Hp), nameOk (xN (m + 1)) → Keep p H H' → DAtN H' p r (B + 1) (m + 1) → Q (.str (xN (m + 1))) H'
theorem c_freshN {f : Addr} {fd : FuncData} (T : TxtY mg) (F : Fun K "_law_fresh" "_law_fresh" sFresh f fd) (b : Binds K fd ["d"] []) (hm : mg "_law_fresh" = some (.ref f)) : C8.Cal P w K mg base 1 "_law_fresh" spFreshN [] := by
  refine cal_of F hm b scFresh (fun vs H Q E h => ?_) (fun cdv A outer s H vs Q E hr h => ?_)
  · obtain ⟨p, r, B, m, rfl, _⟩ := h
    rfl
  obtain ⟨p, r, B, n, rfl, ⟨row, i, l, hp, hrow, ok, hi, hn0, hn1⟩, hB, q⟩ := h
  have hu := hu_of hr
  have npr : r ≠ p := ne_of hrow hp (by intro z; cases z)
  refine ⟨_, (pss_cons (ps_dput hu (pv 0) pe_str (pe_op op_add (pe_dget hu (pv 0) pe_str (fun _ _ => rfl)) pe_int) rfl)
    (pss_one (ps_ret (pe_op op_add_str pe_str (pe_callTy call_str_int rfl T.zstr boot_str (pa_cons (pe_dget hu (pv 0) pe_str (fun _ _ => rfl)) pa_nil)))))), ?_⟩
  refine ⟨_, rfl, p, _, rfl, (dk_names r _ _ _ ▸ DGet.k (k := Sum.inr "names") hp), _, _, rfl, rfl, _, rfl, p, _, rfl, DPut.k (k := Sum.inr "names") hp (by show 4 < sizeLine; decide), ?_⟩
  rw [dk_putn]
  have hp2 : upd H p (.dK (dk4 r (i : Int) (n + 1) l)) p = some (.dK (dk4 r (i : Int) (n + 1) l)) := upd_same
  have k2 : Keep p H (upd H p (.dK (dk4 r (i : Int) (n + 1) l))) := fun b o hb e => by rw [upd_ne hb]; exact e
  have d2 : DAtN (upd H p (.dK (dk4 r (i : Int) (n + 1) l))) p r (B + 1) (n + 1) := ⟨row, i, l, hp2, by rw [upd_ne npr]; exact hrow, ok, by omega⟩
  have hx := xN_ok (n := n + 1) (by omega) (by omega)
  have hl : (Str.ofString (toString (n + 1))).length ≤ 10 := PySem.W.KT.len_num (by omega) (by omega)
  have hlog : (n + 1).natAbs.log2 < 1920 := (Nat.log2_lt (by omega)).mpr (Nat.lt_of_lt_of_le (show (n + 1).natAbs < 2 ^ 34 by omega) (Nat.pow_le_pow_right (by decide) (by decide)))
  refine ⟨_, rfl, p, _, rfl, (dk_names r _ _ _ ▸ DGet.k (k := Sum.inr "names") hp2), _, rfl, hlog, _, _, rfl, rfl, ?_, q _ hx k2 d2⟩
  have := big
  show 1 + _ ≤ _
  omega
/-- a typed term of this depth -/
def spTerm (n : Nat) : Sp := fun vs H Q _ => ∃ (p r sc : Addr) (B e : Nat) (S : List (Str × Str)) (kd : Str), vs = [.ref p, .ref sc, .str kd, .int (e : Int)] ∧ kd.length ≤ 1000 ∧ e < n ∧ DAt H p r B ∧ ScAt H sc S ∧ S.length + 3 * e ≤ 900 ∧ B + 40 * 4 ^ e ≤ 1000000000 ∧
  ∀ (v : V) (k : Dd) (H' : Hp), Keep p H H' → DAt H' p r (B + (40 * 4 ^ e - 20)) → k.At F0 H' v → Gz (3 * e + 2) (60 * 4 ^ e - 30) (sn S) k → Q v H'
def spLet (n : Nat) : Sp := fun vs H Q _ => ∃ (p r sc : Addr) (B e m : Nat) (S : List (Str × Str)) (kd : Str), vs = [.ref p, .ref sc, .str kd, .int ((e + 1 : Nat) : Int), .int (m : Int)] ∧ e < n ∧ 1 ≤ m ∧ m ≤ 2 ∧ kd.length ≤ 1000 ∧ DAt H p r B ∧ ScAt H sc S ∧ S.length + 3 * (e + 1) ≤ 900 ∧ B + 40 * 4 ^ (e + 1) ≤ 1000000005 ∧
  ∀ (v : V) (k : Dd) (H' : Hp), Keep p H H' → DAt H' p r (B + (40 * 4 ^ (e + 1) - 25)) → k.At F0 H' v → Gz (3 * (e + 1) + 2) (60 * 4 ^ (e + 1) - 30) (sn S) k → Q v H'
abbrev sLet : Stmt := topS 70
theorem scLet : FnScope ["d", "scope", "kind", "depth", "many", "group", "inner", "k", "name", "own", "terms", "other"] ["d", "scope", "kind", "depth", "many"] (defScope sLet) := ⟨rfl, rfl, rfl, by decide +kernel, rfl, by decide +kernel, by decide +kernel⟩
theorem c_let {f : Addr} {fd : FuncData} {n : Nat} (T : TxtY mg) (c_law_take : C8.Cal P w K mg base 1 "_law_take" spTakeN []) (c_law_fresh : C8.Cal P w K mg base 1 "_law_fresh" spFreshN []) (c_law_term : C8.Cal P w K mg base (3 * n + 5) "_law_term" (spTerm n) []) (F : Fun K "_law_let" "_law_let" sLet f fd) (b : Binds K fd ["d", "scope", "kind", "depth", "many"] []) (hm : mg "_law_let" = some (.ref f)) : C8.Cal P w K mg base (3 * n + 6) "_law_let" (spLet n) [] := by
  refine cal_of F hm b scLet (fun vs H Q E h => ?_) (fun cdv A outer s H vs Q E hr h => ?_)
  · obtain ⟨p, r, sc, B, e, m, S, kd, rfl, _⟩ := h
    rfl
  obtain ⟨p, r, sc, B, e, m, S, kd, rfl, hen, hm1, hm2, hkd, d0, hS, hSl, hB, q⟩ := h
  have hP := pow_pos4 e
  rw [p4n] at hB q
  obtain ⟨m0, dN⟩ := d0.n
  obtain ⟨hm00, hm01⟩ := dN.pos
  refine ⟨_, (pss_cons (ps_set (i := 5) scLet.nd rfl (Or.inl rfl) (pe_lst pa_nil))
    (pss_cons (ps_set (i := 6) scLet.nd rfl (Or.inl rfl) (pe_callTy call_list_of rfl T.zlist boot_list (pa_cons (pv 1) pa_nil)))
    (pss_cons (ps_for PassesOwn.never rfl (pi_range1 rfl T.zrange (pa_cons (pv 4) pa_nil)) (pg_name (i := 7) scLet.nd rfl (Or.inl rfl))
      (pss_cons (ps_set (i := 8) scLet.nd rfl (Or.inl rfl) (C8.pe_c c_law_fresh hr (by omega) rfl (pa_cons (pv 0) pa_nil)))
    (pss_cons (ps_expr (pe_bm PySem.F.plainAttrs_list PySem.F.slot_list_append PySem.F.type_list_append mt_append (pv 5) (pa_cons (pe_tup (pa_cons (pv 8) (pa_cons (pe_ix ix_list (pe_lst (pa_strs (zs := ["I", "L", "F", "I", "B"]) rfl)) (pe_op op_mod (C8.pe_c c_law_take hr (by omega) rfl (pa_cons (pv 0) pa_nil)) pe_int) (fun _ _ => rfl)) pa_nil))) pa_nil)))
    (pss_one (ps_expr (pe_bm PySem.F.plainAttrs_list PySem.F.slot_list_append PySem.F.type_list_append mt_append (pv 6) (pa_cons (pe_ix ix_list (pv 5) (pe_un un_neg pe_int) (fun _ _ => rfl)) pa_nil)))))))
    (C8.pss_cut (ps_set (i := 9) scLet.nd rfl (Or.inr rfl) (pv 6))
    (C8.pss_cut (ps_if (PW.pt (pw_and (pt_cmpR op_gt (pe_op op_mod (C8.pe_c c_law_take hr (by omega) rfl (pa_cons (pv 0) pa_nil)) pe_int) pe_int (nomark _)) (pw_and1 (pt_cmpR op_eq (pv 4) pe_int (nomark _)))))
      (pss_one (ps_set (i := 9) scLet.nd rfl (Or.inr rfl) (pv 1)))
      pss_nil)
    (pss_cons (ps_setLc (i := 10) (own := [("name", 8), ("other", 11)]) (g := gTup K 2 (gCons (gName 8) (gCons (gName 11) (gNil)))) (tt := tYes) (te := (tTup (tCons (tVar 8) (tCons (tCall (spTerm n) [] C8.E0 (tCons (tVar 0) (tCons (tVar 9) (tCons (tVar 11) (tCons (tOp (rI0 fun i j => .int (i - j)) (tVar 3) (tC (.int 1))) tNil))))) tNil)))) rfl scLet.nd rfl rfl (sw_true rfl rfl rfl (by decide +kernel)) (pi_list (pv 5)) (blkOk_by (own := [("name", 8), ("other", 11)]) (N := ["d", "scope", "kind", "depth", "many", "group", "inner", "k", "name", "own", "terms", "other"]) (sc := defScope sLet) (by decide +kernel)) (fun _ _ _ _ _ => (pg_tup rfl (pgs_cons (pg_name (i := 8) scLet.nd rfl (Or.inl rfl)) (pgs_cons (pg_name (i := 11) scLet.nd rfl (Or.inl rfl)) pgs_nil)))) (fun _ _ _ _ _ => pts_nil) (fun _ _ _ _ _ => (pe_tup (pa_cons (pv 8) (pa_cons (C8.pe_c c_law_term hr (by omega) rfl (pa_cons (pv 0) (pa_cons (pv 9) (pa_cons (pv 11) (pa_cons (pe_op op_sub (pv 3) pe_int) pa_nil))))) pa_nil)))))
    (pss_one (ps_ret (pe_tup (pa_cons pe_str (pa_cons (pe_callTy call_tuple_of rfl T.ztuple boot_tuple (pa_cons (pv 10) pa_nil)) (pa_cons (C8.pe_c c_law_term hr (by omega) rfl (pa_cons (pv 0) (pa_cons (pv 6) (pa_cons (pv 2) (pa_cons (pe_op op_sub (pv 3) pe_int) pa_nil))))) pa_nil)))))))))))), ?_⟩
  refine ⟨by show 0 ≤ sizeLine; decide, fun Gp hGp => ?_⟩
  obtain ⟨nGp, nGr⟩ := d0.fresh hGp
  have s1 := same_new hGp (.lst [])
  have e1 : upd H Gp (.lst []) Gp = some (.lst []) := upd_same
  generalize upd H Gp (.lst []) = H1 at s1 e1 ⊢
  have hS1 := hS.same s1
  obtain ⟨xs, hsc, hats⟩ := hS1.at'
  refine ⟨_, rfl, sc, _, rfl, .inl (SqL.of hsc), fun In hIn => ?_⟩
  have s2 := same_new hIn (.lst xs)
  have e2 : upd H1 In (.lst xs) In = some (.lst xs) := upd_same
  have nIG : In ≠ Gp := fun z => by rw [z, e1] at hIn; cases hIn
  have nIp : In ≠ p := fun z => (d0.same s1).fresh hIn |>.1 z
  have nIr : In ≠ r := fun z => (d0.same s1).fresh hIn |>.2 z
  have hInH := free_of s1 hIn
  have e1' := s2 _ _ e1
  have s12 := sameT s1 s2
  generalize upd H1 In (.lst xs) = H2 at s2 e2 e1' s12 ⊢
  have hxl := ats_len hats
  rw [List.length_map] at hxl
  have nGsc : sc ≠ Gp := fun z => by
    obtain ⟨xs', h', _⟩ := hS.at'
    rw [z, hGp] at h'; cases h'
  have nIsc : sc ≠ In := fun z => by rw [z, hIn] at hsc; cases hsc
  have hbig := big
  refine ⟨_, rfl, _, rfl, by omega, by omega, for_range
    (fun (i : Nat) σ G => ∃ (gs : List (Str × Str)) (gxs : List V) (v7 v8 : Option V), σ = [some (.ref p), some (.ref sc), some (.str kd), some (.int ((e + 1 : Nat) : Int)), some (.int (m : Int)), some (.ref Gp), some (.ref In), v7, v8, none, none, none] ∧ Keep p H G ∧ DAtN G p r (B + 2 * i) (m0 + (i : Int)) ∧ G Gp = some (.lst gxs) ∧ G In = some (.lst (xs ++ gxs)) ∧ Dd.Ats F0 G (gs.map scD) gxs ∧ Dd.Ats F0 G (S.map scD) xs ∧ gs.length = i ∧ (sn gs).Nodup ∧ ∀ q ∈ gs, nameOk q.1 ∧ q.2.length ≤ 1000 ∧ ∃ j : Int, q.1 = xN j ∧ 0 ≤ j ∧ j ≤ m0 + (i : Int))
    ⟨[], [], none, none, rfl, Keep.same s12, (by rw [show m0 + ((0 : Nat) : Int) = m0 by omega]; exact (dN.same s12).more (by omega)), e1', by rw [List.append_nil]; exact e2, rfl, hats.keep (fr_same s2), rfl, List.nodup_nil, fun q h => absurd h List.not_mem_nil⟩ ?_ ?_⟩
  · rintro i σ G hi ⟨gs, gxs, v7, v8, rfl, kG, dG, hGG, hIG, aG, aS, hgl, hnd, hgs⟩
    have hi2 : i < 2 := by omega
    have hgxl := ats_len aG
    rw [List.length_map] at hgxl
    refine ⟨_, rfl, p, r, _, _, rfl, dG, by omega, fun G1 hx k1 d1 => ?_⟩
    have hx' := hx
    generalize hxe : xN (m0 + (i : Int) + 1) = x at hx ⊢
    have hGG1 := k1 _ _ nGp hGG
    have hIG1 := k1 _ _ nIp hIG
    refine ⟨_, rfl, .inl ⟨rfl, _, SqL.of hGG1⟩, _, rfl, by show 5 ≤ sizeLine; decide, fun lz hlz => ?_⟩
    have s3 := same_new hlz (.lst (kinds5.map V.str))
    have e3 : upd G1 lz (.lst (kinds5.map V.str)) lz = some (.lst (kinds5.map V.str)) := upd_same
    have d3 := d1.same s3
    refine ⟨_, rfl, p, r, _, _, rfl, d3, fun n3 G3 n30 n31 k3 d4 => ?_⟩
    obtain ⟨z, hz, ez⟩ := at_str (zs := kinds5) (i := n3 % 5) (Int.emod_nonneg _ (by decide)) (by show n3 % 5 < 5; exact Int.emod_lt_of_pos _ (by decide))
    refine ⟨_, _, rfl, rfl, (show (0 : Int) < 5 by decide), lz, _, _, _, rfl, rfl, SqL.of (k3 _ _ (d3.to.ne_list e3) e3), ez, by show 2 ≤ sizeLine; decide, fun t ht => ?_⟩
    have s5 := same_new ht (.tup [.str x, .str z])
    have e5 : upd G3 t (.tup [.str x, .str z]) t = some (.tup [.str x, .str z]) := upd_same
    have kA : Keep p G (upd G3 t (.tup [.str x, .str z])) := ((k1.trans (Keep.same s3)).trans k3).trans (Keep.same s5)
    have hGG5 := kA _ _ nGp hGG
    have hIG5 := kA _ _ nIp hIG
    have d5 := d4.same s5
    have fA : Fr F0 G (upd G3 t (.tup [.str x, .str z])) := fr_keep kA dG.to
    have aG5 := aG.keep fA
    have aS5 := aS.keep fA
    have kH := kG.trans kA
    generalize upd G3 t (.tup [.str x, .str z]) = G5 at e5 hGG5 hIG5 d5 aG5 aS5 kH ⊢
    refine ⟨Gp, _, _, rfl, rfl, hGG5, szl (by omega), ?_⟩
    have f6 : Fr F0 G5 (upd G5 Gp (.lst (gxs ++ [.ref t]))) := fr_list hGG5 fun z => z
    have e6 : upd G5 Gp (.lst (gxs ++ [.ref t])) Gp = some (.lst (gxs ++ [.ref t])) := upd_same
    have hIG6 : upd G5 Gp (.lst (gxs ++ [.ref t])) In = some (.lst (xs ++ gxs)) := by rw [upd_ne nIG]; exact hIG5
    have d6 := d5.off nGp nGr (.lst (gxs ++ [.ref t]))
    have aG6 := aG5.keep f6
    have aS6 := aS5.keep f6
    have et6 : (scD (x, z)).At F0 (upd G5 Gp (.lst (gxs ++ [.ref t]))) (.ref t) := (at_tup e5 (ats_cons (at_str' hx.len) (ats_cons (at_str' (kinds5_ok z hz)) ats_nil)) : (scD (x, z)).At F0 G5 (.ref t)).keep f6
    have kH6 : Keep p H (upd G5 Gp (.lst (gxs ++ [.ref t]))) := keep_upd hGp kH _
    generalize upd G5 Gp (.lst (gxs ++ [.ref t])) = G6 at e6 hIG6 d6 aG6 aS6 et6 kH6 ⊢
    refine ⟨_, rfl, .inl ⟨rfl, _, SqL.of hIG6⟩, _, rfl, _, rfl, Gp, _, -1, _, rfl, rfl, SqL.of e6, atL _ _, In, _, _, rfl, rfl, hIG6, szl (by rw [List.length_append]; omega), ?_⟩
    have f7 : Fr F0 G6 (upd G6 In (.lst (xs ++ gxs ++ [.ref t]))) := fr_list hIG6 fun z => z
    refine ⟨gs ++ [(x, z)], gxs ++ [.ref t], _, _, rfl, keep_upd hInH kH6 _, ?_, by rw [upd_ne nIG.symm]; exact e6, by rw [upd_same, List.append_assoc], ?_, aS6.keep f7, by rw [List.length_append, hgl]; rfl, ?_, fun qq hq => ?_⟩
    · have d7 := (d6.off nIp nIr (.lst (xs ++ gxs ++ [.ref t]))).more (show B + 2 * i + 1 + 1 ≤ B + 2 * (i + 1) by omega)
      rw [show m0 + ((i + 1 : Nat) : Int) = m0 + (i : Int) + 1 by omega]
      exact d7
    · rw [List.map_append]
      exact ats_app (aG6.keep f7) (ats_one (et6.keep f7))
    · rw [sn_app, List.nodup_append]
      refine ⟨hnd, List.pairwise_singleton _ _, fun a ha b hb e => ?_⟩
      have hb : b ∈ [x] := hb
      rw [List.mem_singleton.mp hb] at e
      obtain ⟨q', hq', hqa⟩ := sn_mem ha
      obtain ⟨_, _, j, hj, hj0, hj1⟩ := hgs q' hq'
      have := xN_inj (a := j) (b := m0 + (i : Int) + 1) hj0 (by omega) (by omega) (by omega) (by rw [← hj, hqa, e, hxe])
      omega
    · rcases List.mem_append.mp hq with e | e
      · obtain ⟨h1, h2, j, hj, hj0, hj1⟩ := hgs qq e
        exact ⟨h1, h2, j, hj, hj0, by omega⟩
      · rw [List.mem_singleton.mp e]
        exact ⟨hx, kinds5_ok z hz, _, hxe.symm, by omega, by omega⟩
  rintro σ G ⟨gs, gxs, v7, v8, rfl, kG, dGN, hGG, hIG, aG, aS, hgl, hnd, hgs⟩
  rw [Int.toNat_natCast] at hgl dGN
  have hgxl := ats_len aG
  rw [List.length_map] at hgxl
  -- own = inner
  have hgood : ∀ q ∈ gs, nameOk q.1 ∧ q.2.length ≤ 1000 := fun q hq => ⟨(hgs q hq).1, (hgs q hq).2.1⟩
  have scI : ScAt G In (S ++ gs) := ⟨⟨_, hIG, by rw [List.map_append]; exact ats_app aS aG⟩, fun q hq => (List.mem_append.mp hq).elim (hS.ok q) (hgood q)⟩
  have hS0 : ScAt G sc S := ⟨⟨xs, kG _ _ (fun z => by
      obtain ⟨xs', h', _⟩ := hS.at'
      obtain ⟨row, i, nn, l, h1, _⟩ := d0
      rw [z, h1] at h'; cases h') (by
      obtain ⟨xs', h', _⟩ := hS.at'
      have := s1 _ _ h'
      rw [hsc] at this
      cases this
      exact h'), aS⟩, hS.ok⟩
  refine ⟨fun σ G' => σ = [some (.ref p), some (.ref sc), some (.str kd), some (.int ((e + 1 : Nat) : Int)), some (.int (m : Int)), some (.ref Gp), some (.ref In), v7, v8, some (.ref In), none, none] ∧ G = G', ⟨_, rfl, rfl, rfl⟩, ?_⟩
  rintro σ G' ⟨rfl, rfl⟩
  refine ⟨fun σ G' => ∃ (ow : Addr) (T' : List (Str × Str)), σ = [some (.ref p), some (.ref sc), some (.str kd), some (.int ((e + 1 : Nat) : Int)), some (.int (m : Int)), some (.ref Gp), some (.ref In), v7, v8, some (.ref ow), none, none] ∧ Keep p G G' ∧ DAt G' p r (B + 2 * m + 1) ∧ ScAt G' ow T' ∧ T'.length ≤ S.length + 2 ∧ ∀ s ∈ sn T', s ∈ sn (S ++ gs), ?_, ?_⟩
  · refine ⟨_, rfl, p, r, _, _, rfl, dGN, fun n3 G3 n30 n31 k3 d3N => ?_⟩
    have d3 := d3N.to
    have scI3 := scI.keep k3 dGN.to
    have scS3 := hS0.keep k3 dGN.to
    have keepI : ∃ (ow : Addr) (T' : List (Str × Str)), [some (V.ref p), some (.ref sc), some (.str kd), some (.int ((e + 1 : Nat) : Int)), some (.int (m : Int)), some (.ref Gp), some (.ref In), v7, v8, some (.ref In), none, none] = [some (.ref p), some (.ref sc), some (.str kd), some (.int ((e + 1 : Nat) : Int)), some (.int (m : Int)), some (.ref Gp), some (.ref In), v7, v8, some (.ref ow), none, none] ∧ Keep p G G3 ∧ DAt G3 p r (B + 2 * m + 1) ∧ ScAt G3 ow T' ∧ T'.length ≤ S.length + 2 ∧ ∀ s ∈ sn T', s ∈ sn (S ++ gs) := ⟨In, S ++ gs, rfl, k3, d3, scI3, by rw [List.length_append]; omega, fun s h => h⟩
    refine ⟨_, _, rfl, rfl, (show (0 : Int) < 3 by decide), _, _, rfl, rfl, _, rfl, ?_⟩
    show if decide (0 < n3 % 3) = true then _ else _
    rcases Bool.eq_false_or_eq_true (decide (0 < n3 % 3)) with c | c
    · rw [c]
      refine iteT ?_
      refine ⟨_, rfl, rfl, _, rfl, ?_⟩
      show if decide (V.int (m : Int) = V.int 1) = true then _ else _
      rcases Bool.eq_false_or_eq_true (decide (V.int (m : Int) = V.int 1)) with c2 | c2
      · rw [c2]
        refine iteT ?_
        exact ⟨_, rfl, sc, S, rfl, k3, d3, scS3, by omega, fun s h => by rw [sn_app]; exact List.mem_append_left _ h⟩
      · rw [c2]
        refine iteF ?_
        exact keepI
    · rw [c]
      refine iteF (iteF ?_)
      exact keepI
  rintro σ G3 ⟨ow, T', rfl, k3, d3, scO, hTl, hTs⟩
  have scI3 := scI.keep k3 dGN.to
  have hGG3 := k3 _ _ nGp hGG
  have aG3 := aG.keep (fr_keep k3 dGN.to)
  have kG3 := kG.trans k3
  refine ⟨_, rfl, Gp, rfl, ⟨_, SqL.of hGG3⟩, fun D hD => ?_⟩
  obtain ⟨nDp, nDr⟩ := d3.fresh hD
  refine lc_list (a := Gp) (xs := gxs) (fun i G' => ∃ (l : List Dd) (ys : List V), G' D = some (.lst ys) ∧ Keep p G3 G' ∧ DAt G' p r (B + 2 * m + 1 + i * (40 * 4 ^ e - 20)) ∧ Dd.Ats F0 G' (rowsL ((sn gs).take i) l) ys ∧ l.length = i ∧ ∀ k ∈ l, Gz (3 * e + 2) (60 * 4 ^ e - 30) (sn gs ++ sn S) k) ⟨[], [], upd_same, Keep.same (same_new hD _), (d3.same (same_new hD _)).more (by omega), rfl, rfl, fun k h => absurd h List.not_mem_nil⟩ (fun i G' hi ⟨_, _, _, h2, _⟩ => SqL.of (h2 _ _ nGp hGG3)) ?_ ?_
  · rintro i x G' hx ⟨l, ys, h1, h2, h3, h4, h5, h6⟩
    obtain ⟨kk, hk, hkx⟩ := ats_get aG3 hx
    rw [List.getElem?_map] at hk
    cases hq : gs[i]? with
    | none => rw [hq] at hk; cases hk
    | some qq =>
      rw [hq] at hk
      cases hk
      have hil : i < gs.length := (List.getElem?_eq_some_iff.mp hq).1
      have hqm := List.mem_of_getElem? hq
      obtain ⟨t, x1, y1, rfl, ht, hx1, hy1⟩ := pair_at (m := [.str qq.1, .str qq.2]) hkx rfl
      obtain ⟨rfl, _⟩ := (show x1 = .str qq.1 ∧ _ from hx1)
      obtain ⟨rfl, _⟩ := (show y1 = .str qq.2 ∧ _ from hy1)
      have hsn : (sn gs)[i]? = some qq.1 := by unfold sn; rw [List.getElem?_map, hq]; rfl
      have hic : i * (40 * 4 ^ e - 20) ≤ 1 * (40 * 4 ^ e - 20) := Nat.mul_le_mul_right _ (by omega)
      have hic1 : (i + 1) * (40 * 4 ^ e - 20) = i * (40 * 4 ^ e - 20) + (40 * 4 ^ e - 20) := Nat.succ_mul _ _
      have hyl := ats_len h4
      have hsl : (sn gs).length = gs.length := by unfold sn; rw [List.length_map]
      rw [rowsL_len (by rw [List.length_take, h5, hsl]; omega), h5] at hyl
      have ht' := h2 _ _ (d3.ne_tup ht) ht
      refine ⟨t, _, rfl, SqT.of ht', rfl, _, _, rfl, _, _, rfl, rfl, rfl, ?_⟩
      refine tYes_if ?_
      refine ⟨_, rfl, _, rfl, _, rfl, _, rfl, _, rfl, _, _, rfl, rfl, p, r, ow, _, e, T', _, ed4 _ _ _ _, (hgs qq hqm).2.1, hen, h3, scO.keep h2 d3, by omega, by omega, fun v1 g1 G4 k4 d4 a4 hg => ⟨by show 2 ≤ sizeLine; decide, fun u1 hu1 => ?_⟩⟩
      have h1' := k4 _ _ nDp h1
      have s5 := same_new hu1 (.tup [.str qq.1, v1])
      have h1'' := s5 _ _ h1'
      have f5 := fr_same (B := F0) s5
      have e5 : upd G4 u1 (.tup [.str qq.1, v1]) u1 = some (.tup [.str qq.1, v1]) := upd_same
      have d5 := d4.same s5
      have a5 := a4.keep f5
      have h45 := (h4.keep (fr_keep k4 h3)).keep f5
      have k5 := (h2.trans k4).trans (Keep.same s5)
      generalize upd G4 u1 (.tup [.str qq.1, v1]) = G5 at e5 h1'' d5 a5 h45 k5 ⊢
      have fL : Fr F0 G5 (upd G5 D (.lst (ys ++ [.ref u1]))) := fr_list h1'' fun z => z
      refine ⟨ys, h1'', szl (by omega), l ++ [g1], ys ++ [.ref u1], upd_same, keep_upd hD k5 _, (d5.off nDp nDr _).more (by omega), ?_, by rw [List.length_append, h5]; rfl, fun k hk => ?_⟩
      · rw [List.take_add_one, hsn, show rowsL ((sn gs).take i ++ (some qq.1).toList) (l ++ [g1]) = rowsL ((sn gs).take i) l ++ [.tup [.str qq.1, g1]] by
          unfold rowsL
          rw [List.zipWith_append (by rw [List.length_take, h5, hsl]; omega)]
          rfl]
        exact ats_app (h45.keep fL) (ats_one ((at_tup e5 (ats_cons (at_str' (hgs qq hqm).1.len) (ats_cons a5 ats_nil))).keep fL))
      · rcases List.mem_append.mp hk with z' | z'
        · exact h6 k z'
        · rw [List.mem_singleton.mp z']
          exact hg.mono (Nat.le_refl _) (Nat.le_refl _) fun s hs => by
            have := hTs s hs
            rw [sn_app] at this
            exact (List.mem_append.mp this).elim (fun z => List.mem_append_right _ z) fun z => List.mem_append_left _ z
  rintro G' ⟨l, ys, h1, h2, h3, h4, h5, h6⟩
  rw [hgxl] at h3 h4 h5
  have hsl : (sn gs).length = gs.length := by unfold sn; rw [List.length_map]
  rw [← hsl, List.take_length] at h4
  have hic : gs.length * (40 * 4 ^ e - 20) ≤ 2 * (40 * 4 ^ e - 20) := Nat.mul_le_mul_right _ (by omega)
  refine ⟨_, rfl, D, ys, rfl, .inl ⟨SqL.of h1, fun u1 hu1 => ?_⟩⟩
  have s6 := same_new hu1 (.tup ys)
  have e6 : upd G' u1 (.tup ys) u1 = some (.tup ys) := upd_same
  have d6 := h3.same s6
  have a6 := Dd.Ats.keep (fr_same (B := F0) s6) h4
  have kk6 := h2.trans (Keep.same s6)
  have scI6 := scI3.keep kk6 d3
  have kA6 := kG3.trans kk6
  generalize upd G' u1 (.tup ys) = G6 at e6 d6 a6 kk6 scI6 kA6 ⊢
  refine ⟨_, rfl, _, rfl, _, rfl, _, rfl, _, _, rfl, rfl, p, r, In, _, e, S ++ gs, kd, ed4 _ _ _ _, hkd, hen, d6, scI6, by rw [List.length_append]; omega, by omega, fun v4 g4 G7 k7 d7 a7 h7 => ⟨by show 3 ≤ sizeLine; decide, fun t5 ht5 => ?_⟩⟩
  have s8 := same_new ht5 (.tup [.str "let", .ref u1, v4])
  have f8 := fr_same (B := F0) s8
  have hgz := gz_let (n := 3 * e + 2) (z := 60 * 4 ^ e - 30) (c := 2) (U := sn S) (zs := sn gs) (l := l) (b := g4) (fun x hx => by
    obtain ⟨q', hq', rfl⟩ := sn_mem hx
    exact (hgood q' hq').1.1) hnd (by omega) (by omega) (by omega) h6 (h7.mono (Nat.le_refl _) (Nat.le_refl _) fun s hs => by
      rw [sn_app] at hs
      exact (List.mem_append.mp hs).elim (fun z => List.mem_append_right _ z) fun z => List.mem_append_left _ z)
  exact q _ (.tup [.str "let", .tup (rowsL (sn gs) l), g4]) _ ((kA6.trans k7).trans (Keep.same s8)) ((d7.same s8).more (by omega)) (at_tup upd_same (ats_cons (at_str' (by decide +kernel)) (ats_cons (at_tup (s8 _ _ (k7 _ _ (d6.ne_tup e6) e6)) ((a6.keep (fr_keep k7 d6)).keep f8)) (ats_cons (a7.keep f8) ats_nil)))) (hgz.mono (by omega) (by omega) fun s h => h)
def spDefault (n : Nat) : Sp := fun vs H Q _ => ∃ (p r sc : Addr) (B e m : Nat) (S : List (Str × Str)) (kd ot : Str), vs = [.ref p, .ref sc, .str kd, .str ot, .int ((e + 1 : Nat) : Int), .int (m : Int)] ∧ e < n ∧ 1 ≤ m ∧ m ≤ 3 ∧ ot.length ≤ 1000 ∧ kd.length ≤ 1000 ∧ DAt H p r B ∧ ScAt H sc S ∧ S.length + 3 * (e + 1) ≤ 900 ∧ B + 2 + 40 * 4 ^ e ≤ 1000000000 ∧
  ∀ (v : V) (o : Option (Str × Dd)) (H' : Hp), Keep p H H' → DAt H' p r (B + 2 + (40 * 4 ^ e - 20)) → (dfl o).At F0 H' v → DfOk (3 * e + 2) (60 * 4 ^ e - 30) (sn S) o → Q v H'
abbrev sDflt2 : Stmt := topS 71
theorem scDflt2 : FnScope ["d", "scope", "kind", "other", "depth", "odds", "name"] ["d", "scope", "kind", "other", "depth", "odds"] (defScope sDflt2) := ⟨rfl, rfl, rfl, by decide +kernel, rfl, by decide +kernel, by decide +kernel⟩
theorem c_default {f : Addr} {fd : FuncData} {n : Nat} (c_law_take : C8.Cal P w K mg base 1 "_law_take" spTake []) (c_law_fresh : C8.Cal P w K mg base 1 "_law_fresh" spFresh []) (c_law_term : C8.Cal P w K mg base (3 * n + 5) "_law_term" (spTerm n) []) (F : Fun K "_law_default" "_law_default" sDflt2 f fd) (b : Binds K fd ["d", "scope", "kind", "other", "depth", "odds"] []) (hm : mg "_law_default" = some (.ref f)) : C8.Cal P w K mg base (3 * n + 6) "_law_default" (spDefault n) [] := by
  refine cal_of F hm b scDflt2 (fun vs H Q E h => ?_) (fun cdv A outer s H vs Q E hr h => ?_)
  · obtain ⟨p, r, sc, B, e, m, S, kd, ot, rfl, _⟩ := h
    rfl
  obtain ⟨p, r, sc, B, e, m, S, kd, ot, rfl, hen, hm1, hm3, hot, hkd, d0, hS, hSl, hB, q⟩ := h
  have hP := pow_pos4 e
  refine ⟨_, (pss_cons (ps_if (pt_cmpR op_gt (pe_op op_mod (C8.pe_c c_law_take hr (by omega) rfl (pa_cons (pv 0) pa_nil)) (pv 5)) pe_int (nomark _))
      (pss_one (ps_ret pe_non))
      pss_nil)
    (pss_cons (ps_set (i := 6) scDflt2.nd rfl (Or.inl rfl) (C8.pe_c c_law_fresh hr (by omega) rfl (pa_cons (pv 0) pa_nil)))
    (pss_one (ps_ret (pe_tup (pa_cons (pv 6) (pa_cons (C8.pe_c c_law_term hr (by omega) rfl (pa_cons (pv 0) (pa_cons (pe_op op_cat (pv 1) (pe_lst (pa_cons (pe_tup (pa_cons (pv 6) (pa_cons (pv 3) pa_nil))) pa_nil))) (pa_cons (pv 2) (pa_cons (pe_op op_sub (pv 4) pe_int) pa_nil))))) pa_nil))))))), ?_⟩
  refine ⟨_, rfl, p, r, _, rfl, d0, fun n1 H1 n10 n11 k1 d1 => ?_⟩
  refine ⟨_, rfl, _, _, rfl, rfl, by omega, _, _, rfl, rfl, _, rfl, ?_⟩
  show if decide (0 < n1 % (m : Int)) = true then _ else _
  rcases Bool.eq_false_or_eq_true (decide (0 < n1 % (m : Int))) with c | c
  · rw [c]
    refine iteT ?_
    exact q .non none H1 k1 (d1.more (by omega)) rfl ⟨fun q h => by cases h⟩
  rw [c]
  refine iteF ?_
  refine ⟨_, rfl, p, r, _, rfl, d1, by omega, fun x H2 hx k2 d2 => ?_⟩
  have hS2 := (hS.keep k1 d0).keep k2 d1
  obtain ⟨xs, hsc, hats⟩ := hS2.at'
  have hxl := ats_len hats
  rw [List.length_map] at hxl
  refine ⟨_, rfl, _, rfl, _, rfl, _, rfl, _, rfl, by show 2 ≤ sizeLine; decide, fun t ht => ⟨by show 1 ≤ sizeLine; decide, fun l1 hl1 => ?_⟩⟩
  have st := same_new ht (.tup [.str x, .str ot])
  have sl := same_new hl1 (.lst [.ref t])
  refine ⟨sc, l1, xs, _, rfl, rfl, sl _ _ (st _ _ hsc), upd_same, by have := big; show xs.length + 1 ≤ _; omega, fun sc2 hsc2 => ?_⟩
  have s3 := same_new hsc2 (.lst (xs ++ [.ref t]))
  have sA := sameT st (sameT sl s3)
  have hS3 := sc_ext (sc := sc2) (t := t) (x := x) (kd := ot) hats hS.ok sA (s3 _ _ (sl _ _ upd_same)) upd_same hx hot
  refine ⟨_, rfl, _, rfl, _, _, rfl, rfl, p, r, sc2, _, e, S ++ [(x, ot)], kd, ed4 _ _ _ _, hkd, hen, d2.same sA, hS3, by rw [List.length_append]; show _ + 1 + _ ≤ _; omega, by omega, fun v3 k3 H3 kk3 dd3 aa3 gg3 => ⟨by show 2 ≤ sizeLine; decide, fun t3 ht3 => ?_⟩⟩
  have s4 := same_new ht3 (.tup [.str x, v3])
  exact q _ (some (x, k3)) _ ((((k1.trans k2).trans (Keep.same sA)).trans kk3).trans (Keep.same s4)) ((dd3.same s4).more (by omega)) (at_tup upd_same (ats_cons (at_str' hx.len) (ats_cons (aa3.keep (fr_same s4)) ats_nil))) ⟨fun q' h => by
    cases h
    exact ⟨hx, gg3.mono (Nat.le_refl _) (Nat.le_refl _) fun s h => sn_snoc h⟩⟩
end
end Toy

set_option Elab.async false
set_option linter.all false
set_option maxRecDepth 100000
set_option maxHeartbeats 4000000
/-! Part C2: cases and choices of typed terms. -/
namespace Toy
open PySem L2
open PyProof.Rows (envOfC)
theorem sc_ext2 {H G : Hp} {sc t u : Addr} {S : List (Str × Str)} {xs : List V} {x y k1 k2 : Str} (hats : Dd.Ats F0 H (S.map scD) xs) (hok : ∀ q ∈ S, nameOk q.1 ∧ q.2.length ≤ 1000) (s : Same H G) (ht : G t = some (.tup [.str x, .str k1])) (hu : G u = some (.tup [.str y, .str k2])) (h2 : G sc = some (.lst (xs ++ [.ref t, .ref u]))) (hx : nameOk x) (hy : nameOk y) (hk1 : k1.length ≤ 1000) (hk2 : k2.length ≤ 1000) : ScAt G sc (S ++ [(x, k1), (y, k2)]) :=
  ⟨⟨_, h2, by
    rw [List.map_append]
    exact ats_app (hats.keep (fr_same s)) (ats_cons (at_tup ht (ats_cons (at_str' hx.len) (ats_cons (at_str' hk1) ats_nil)) : (scD (x, k1)).At F0 G (.ref t)) (ats_one (at_tup hu (ats_cons (at_str' hy.len) (ats_cons (at_str' hk2) ats_nil)) : (scD (y, k2)).At F0 G (.ref u))))⟩, fun q hq => by
    rcases List.mem_append.mp hq with e | e
    · exact hok q e
    · simp only [List.mem_cons, List.not_mem_nil, or_false] at e
      rcases e with rfl | rfl
      · exact ⟨hx, hk1⟩
      · exact ⟨hy, hk2⟩⟩
/-- a row of a case -/
def RowOk2 (n z : Nat) (U : List Str) (q : Int × List Str × Dd) : Prop := 0 ≤ q.1 ∧ q.1 ≤ 1000 ∧ (∀ x ∈ q.2.1, isName (.str x) = true) ∧ q.2.1.Nodup ∧ q.2.1.length ≤ 2 ∧ Gz n z (q.2.1 ++ U) q.2.2
theorem row0 {n z : Nat} {U : List Str} {i : Int} {k : Dd} (h0 : 0 ≤ i) (h1 : i ≤ 1000) (h : Gz n z U k) : RowOk2 n z U (i, [], k) := ⟨h0, h1, fun x h => absurd h List.not_mem_nil, List.nodup_nil, Nat.zero_le _, h⟩
section
variable {P : Program} {w : World} {K : PySem.W.Frag} {mg : Str → Option Value} {base : Heap}
def spHelp (n : Nat) : Sp := fun vs H Q _ => ∃ (p r sc : Addr) (B e : Nat) (S : List (Str × Str)) (kd : Str), vs = [.ref p, .ref sc, .str kd, .int ((e + 1 : Nat) : Int)] ∧ e < n ∧ kd.length ≤ 1000 ∧ DAt H p r B ∧ ScAt H sc S ∧ S.length + 3 * (e + 1) ≤ 900 ∧ B + 40 * 4 ^ (e + 1) ≤ 1000000005 ∧
  ∀ (v : V) (k : Dd) (H' : Hp), Keep p H H' → DAt H' p r (B + (40 * 4 ^ (e + 1) - 25)) → k.At F0 H' v → Gz (3 * (e + 1) + 2) (60 * 4 ^ (e + 1) - 30) (sn S) k → Q v H'
abbrev sCase : Stmt := topS 72
theorem scCase : FnScope ["d", "scope", "kind", "depth", "turn", "first", "found", "head", "tail", "more"] ["d", "scope", "kind", "depth"] (defScope sCase) := ⟨rfl, rfl, rfl, by decide +kernel, rfl, by decide +kernel, by decide +kernel⟩
theorem c_case {f : Addr} {fd : FuncData} {n : Nat} (T : TxtY mg) (c_law_take : C8.Cal P w K mg base 1 "_law_take" spTake []) (c_law_fresh : C8.Cal P w K mg base 1 "_law_fresh" spFreshN []) (c_law_term : C8.Cal P w K mg base (3 * n + 5) "_law_term" (spTerm n) []) (c_law_default : C8.Cal P w K mg base (3 * n + 6) "_law_default" (spDefault n) []) (F : Fun K "_law_case" "_law_case" sCase f fd) (b : Binds K fd ["d", "scope", "kind", "depth"] []) (hm : mg "_law_case" = some (.ref f)) : C8.Cal P w K mg base (3 * n + 7) "_law_case" (spHelp n) [] := by
  refine cal_of F hm b scCase (fun vs H Q E h => ?_) (fun cdv A outer s H vs Q E hr h => ?_)
  · obtain ⟨p, r, sc, B, e, S, kd, rfl, _⟩ := h
    rfl
  obtain ⟨p, r, sc, B, e, S, kd, rfl, hen, hkd, d0, hS, hSl, hB, q⟩ := h
  have hP := pow_pos4 e
  have hbig := big
  rw [p4n] at hB q
  refine ⟨_, (pss_cons (ps_set (i := 4) scCase.nd rfl (Or.inl rfl) (pe_op op_mod (C8.pe_c c_law_take hr (by omega) rfl (pa_cons (pv 0) pa_nil)) pe_int))
    (pss_cons (ps_if (pt_cmpR op_lt (pv 4) pe_int (nomark _))
      (pss_cons (ps_set (i := 5) scCase.nd rfl (Or.inl rfl) (C8.pe_c c_law_term hr (by omega) rfl (pa_cons (pv 0) (pa_cons (pv 1) (pa_cons pe_str (pa_cons (pe_op op_sub (pv 3) pe_int) pa_nil))))))
    (pss_cons (ps_set (i := 6) scCase.nd rfl (Or.inl rfl) (pe_lst (pa_cons (pe_tup (pa_cons pe_int (pa_cons (pe_tup pa_nil) (pa_cons (C8.pe_c c_law_term hr (by omega) rfl (pa_cons (pv 0) (pa_cons (pv 1) (pa_cons (pv 2) (pa_cons (pe_op op_sub (pv 3) pe_int) pa_nil))))) pa_nil)))) (pa_cons (pe_tup (pa_cons pe_int (pa_cons (pe_tup pa_nil) (pa_cons (C8.pe_c c_law_term hr (by omega) rfl (pa_cons (pv 0) (pa_cons (pv 1) (pa_cons (pv 2) (pa_cons (pe_op op_sub (pv 3) pe_int) pa_nil))))) pa_nil)))) pa_nil))))
    (C8.pss_cut (ps_if (PW.pt (pw_and (pt_cmpR op_eq (pv 4) pe_int (nomark _)) (pw_and1 (pt_cmpR op_eq (pe_op op_mod (C8.pe_c c_law_take hr (by omega) rfl (pa_cons (pv 0) pa_nil)) pe_int) pe_int (nomark _)))))
      (pss_one (ps_set (i := 6) scCase.nd rfl (Or.inl rfl) (pe_slice sl_list (pv 6) (po_some pe_int) po_none)))
      pss_nil)
    (pss_one (ps_ret (pe_tup (pa_cons pe_str (pa_cons (pv 5) (pa_cons (pe_callTy call_tuple_of rfl T.ztuple boot_tuple (pa_cons (pv 6) pa_nil)) (pa_cons (C8.pe_c c_law_default hr (by omega) rfl (pa_cons (pv 0) (pa_cons (pv 1) (pa_cons (pv 2) (pa_cons pe_str (pa_cons (pv 3) (pa_cons pe_int pa_nil))))))) pa_nil))))))))))
      pss_nil)
    (pss_cons (ps_set (i := 5) scCase.nd rfl (Or.inl rfl) (C8.pe_c c_law_term hr (by omega) rfl (pa_cons (pv 0) (pa_cons (pv 1) (pa_cons pe_str (pa_cons (pe_op op_sub (pv 3) pe_int) pa_nil))))))
    (pss_cons (ps_set (i := 7) scCase.nd rfl (Or.inl rfl) (C8.pe_c c_law_fresh hr (by omega) rfl (pa_cons (pv 0) pa_nil)))
    (pss_cons (ps_set (i := 8) scCase.nd rfl (Or.inl rfl) (C8.pe_c c_law_fresh hr (by omega) rfl (pa_cons (pv 0) pa_nil)))
    (pss_cons (ps_set (i := 9) scCase.nd rfl (Or.inl rfl) (C8.pe_c c_law_term hr (by omega) rfl (pa_cons (pv 0) (pa_cons (pe_op op_cat (pv 1) (pe_lst (pa_cons (pe_tup (pa_cons (pv 7) (pa_cons pe_str pa_nil))) (pa_cons (pe_tup (pa_cons (pv 8) (pa_cons pe_str pa_nil))) pa_nil)))) (pa_cons (pv 2) (pa_cons (pe_op op_sub (pv 3) pe_int) pa_nil))))))
    (pss_cons (ps_set (i := 6) scCase.nd rfl (Or.inl rfl) (pe_lst (pa_cons (pe_tup (pa_cons pe_int (pa_cons (pe_tup (pa_cons (pv 7) (pa_cons (pv 8) pa_nil))) (pa_cons (pv 9) pa_nil)))) pa_nil)))
    (C8.pss_cut (ps_if (pt_cmpR op_eq (pv 4) pe_int (nomark _))
      (pss_one (ps_set (i := 6) scCase.nd rfl (Or.inl rfl) (pe_op op_cat (pe_lst (pa_cons (pe_tup (pa_cons pe_int (pa_cons (pe_tup pa_nil) (pa_cons (C8.pe_c c_law_term hr (by omega) rfl (pa_cons (pv 0) (pa_cons (pv 1) (pa_cons (pv 2) (pa_cons (pe_op op_sub (pv 3) pe_int) pa_nil))))) pa_nil)))) pa_nil)) (pv 6))))
      pss_nil)
    (pss_one (ps_ret (pe_tup (pa_cons pe_str (pa_cons (pv 5) (pa_cons (pe_callTy call_tuple_of rfl T.ztuple boot_tuple (pa_cons (pv 6) pa_nil)) (pa_cons (C8.pe_c c_law_default hr (by omega) rfl (pa_cons (pv 0) (pa_cons (pv 1) (pa_cons (pv 2) (pa_cons pe_str (pa_cons (pv 3) (pa_cons pe_int pa_nil))))))) pa_nil))))))))))))))), ?_⟩
  refine ⟨_, rfl, p, r, _, rfl, d0, fun n1 H1 n10 n11 k1 d1 => ?_⟩
  have m10 := Int.emod_nonneg n1 (show (4 : Int) ≠ 0 by decide)
  have m11 := Int.emod_lt_of_pos n1 (show (0 : Int) < 4 by decide)
  refine ⟨_, _, rfl, rfl, (show (0 : Int) < 4 by decide), ?_⟩
  show gName 4 (V.int (n1 % 4)) _ _ _
  generalize n1 % 4 = u at *
  have hS1 := hS.keep k1 d0
  refine ⟨_, rfl, _, _, rfl, rfl, _, rfl, ?_⟩
  show if decide (u < 2) = true then _ else _
  rcases Bool.eq_false_or_eq_true (decide (u < 2)) with c | c
  · rw [c]
    refine iteT ?_
    refine ⟨_, rfl, _, rfl, _, rfl, _, _, rfl, rfl, p, r, sc, _, e, S, "B", ed4 _ _ _ _, by decide +kernel, hen, d1, hS1, by omega, by omega, fun v2 g2 H2 k2 d2 a2 h2 => ?_⟩
    have hS2 := hS1.keep k2 d1
    refine ⟨by show 0 ≤ sizeLine; decide, fun u3 hu3 => ?_⟩
    have s3 := same_new hu3 (.tup [])
    have e3 : upd H2 u3 (.tup []) u3 = some (.tup []) := upd_same
    have d3 := d2.same s3
    have hS3 := hS2.same s3
    have a23 := a2.keep (fr_same s3)
    have kk3 := (k1.trans k2).trans (Keep.same s3)
    generalize upd H2 u3 (.tup []) = H3 at e3 d3 hS3 a23 kk3 ⊢
    refine ⟨_, rfl, _, rfl, _, rfl, _, rfl, _, _, rfl, rfl, p, r, sc, _, e, S, kd, ed4 _ _ _ _, hkd, hen, d3, hS3, by omega, by omega, fun v4 g4 H4 k4 d4 a4 h4 => ⟨by show 3 ≤ sizeLine; decide, fun t4 ht4 => ?_⟩⟩
    have s5 := same_new ht4 (.tup [.int 0, .ref u3, v4])
    have f5 := (fr_keep (B := F0) k4 d3).trans (fr_same s5)
    have e5 : (Dd.tup [.int 0, nameT [], g4]).At F0 (upd H4 t4 (.tup [.int 0, .ref u3, v4])) (.ref t4) := at_tup upd_same (ats_cons at_int' (ats_cons (at_tup (f5.1 _ _ e3) ats_nil) (ats_cons (a4.keep (fr_same s5)) ats_nil)))
    have d5 := d4.same s5
    have hS5 := (hS3.keep k4 d3).same s5
    have a25 := a23.keep f5
    have kk5 := (kk3.trans k4).trans (Keep.same s5)
    generalize upd H4 t4 (.tup [.int 0, .ref u3, v4]) = H5 at e5 d5 hS5 a25 kk5 ⊢
    refine ⟨by show 0 ≤ sizeLine; decide, fun u6 hu6 => ?_⟩
    have s6 := same_new hu6 (.tup [])
    have e6 : upd H5 u6 (.tup []) u6 = some (.tup []) := upd_same
    have d6 := d5.same s6
    have hS6 := hS5.same s6
    have a26 := a25.keep (fr_same s6)
    have e56 := e5.keep (fr_same s6)
    have kk6 := kk5.trans (Keep.same s6)
    generalize upd H5 u6 (.tup []) = H6 at e6 d6 hS6 a26 e56 kk6 ⊢
    refine ⟨_, rfl, _, rfl, _, rfl, _, rfl, _, _, rfl, rfl, p, r, sc, _, e, S, kd, ed4 _ _ _ _, hkd, hen, d6, hS6, by omega, by omega, fun v7 g7 H7 k7 d7 a7 h7 => ⟨by show 3 ≤ sizeLine; decide, fun t7 ht7 => ⟨by show 2 ≤ sizeLine; decide, fun L hL => ?_⟩⟩⟩
    have s8 := same_new ht7 (.tup [.int 1, .ref u6, v7])
    have s9 := same_new hL (.lst [.ref t4, .ref t7])
    have f7 := fr_keep (B := F0) k7 d6
    have s89 := sameT s8 s9
    have f9 := f7.trans (fr_same s89)
    have e9 : (Dd.tup [.int 1, nameT [], g7]).At F0 (upd (upd H7 t7 (.tup [.int 1, .ref u6, v7])) L (.lst [.ref t4, .ref t7])) (.ref t7) := at_tup (s9 _ _ upd_same) (ats_cons at_int' (ats_cons (at_tup (f9.1 _ _ e6) ats_nil) (ats_cons (a7.keep (fr_same s89)) ats_nil)))
    have eL : upd (upd H7 t7 (.tup [.int 1, .ref u6, v7])) L (.lst [.ref t4, .ref t7]) L = some (.lst [.ref t4, .ref t7]) := upd_same
    have d9 := d7.same s89
    have hS9 := (hS6.keep k7 d6).same s89
    have a29 := a26.keep f9
    have e59 := e56.keep f9
    have kk9 := (kk6.trans k7).trans (Keep.same s89)
    generalize upd (upd H7 t7 (.tup [.int 1, .ref u6, v7])) L (.lst [.ref t4, .ref t7]) = H9 at e9 eL d9 hS9 a29 e59 kk9 ⊢
    refine ⟨fun σ G => ∃ (Fo : Addr) (ys : List V) (l : List (Int × List Str × Dd)), σ = [some (.ref p), some (.ref sc), some (.str kd), some (.int ((e + 1 : Nat) : Int)), some (.int u), some v2, some (.ref Fo), none, none, none] ∧ Keep p H G ∧ DAt G p r (B + 3 * (40 * 4 ^ e - 20) + 2) ∧ ScAt G sc S ∧ g2.At F0 G v2 ∧ G Fo = some (.lst ys) ∧ Dd.Ats F0 G (rowsC l) ys ∧ l.length ≤ 2 ∧ ∀ q ∈ l, RowOk2 (3 * e + 2) (60 * 4 ^ e - 30) (sn S) q, ?_, ?_⟩
    · have all2 : ∀ q ∈ [((0 : Int), ([] : List Str), g4), (1, [], g7)], RowOk2 (3 * e + 2) (60 * 4 ^ e - 30) (sn S) q := fun q hq => by
        simp only [List.mem_cons, List.not_mem_nil, or_false] at hq
        rcases hq with rfl | rfl
        · exact row0 (by decide) (by decide) h4
        · exact row0 (by decide) (by decide) h7
      have stay : ∀ G (k : Keep p H9 G) (d : DAt G p r (B + 3 * (40 * 4 ^ e - 20) + 2)), ∃ (Fo : Addr) (ys : List V) (l : List (Int × List Str × Dd)), [some (V.ref p), some (.ref sc), some (.str kd), some (.int ((e + 1 : Nat) : Int)), some (.int u), some v2, some (.ref L), none, none, none] = [some (.ref p), some (.ref sc), some (.str kd), some (.int ((e + 1 : Nat) : Int)), some (.int u), some v2, some (.ref Fo), none, none, none] ∧ Keep p H G ∧ DAt G p r (B + 3 * (40 * 4 ^ e - 20) + 2) ∧ ScAt G sc S ∧ g2.At F0 G v2 ∧ G Fo = some (.lst ys) ∧ Dd.Ats F0 G (rowsC l) ys ∧ l.length ≤ 2 ∧ ∀ q ∈ l, RowOk2 (3 * e + 2) (60 * 4 ^ e - 30) (sn S) q := fun G k d =>
        ⟨L, _, [(0, [], g4), (1, [], g7)], rfl, kk9.trans k, d, hS9.keep k d9, a29.keep (fr_keep k d9), k _ _ (d9.ne_list eL) eL, ats_cons (e59.keep (fr_keep k d9)) (ats_one (e9.keep (fr_keep k d9))), Nat.le_refl _, all2⟩
      refine ⟨_, rfl, rfl, _, rfl, ?_⟩
      show if decide (V.int u = V.int 0) = true then _ else _
      rcases Bool.eq_false_or_eq_true (decide (V.int u = V.int 0)) with c2 | c2
      · rw [c2]
        refine iteT ?_
        refine ⟨_, rfl, p, r, _, rfl, d9, fun n3 G3 n30 n31 k3 d3' => ?_⟩
        have d3' := d3'.more (show _ ≤ B + 3 * (40 * 4 ^ e - 20) + 2 by omega)
        refine ⟨_, _, rfl, rfl, (show (0 : Int) < 3 by decide), rfl, _, rfl, ?_⟩
        show if decide (V.int (n3 % 3) = V.int 0) = true then _ else _
        rcases Bool.eq_false_or_eq_true (decide (V.int (n3 % 3) = V.int 0)) with c3 | c3
        · rw [c3]
          refine iteT ?_
          have eL3 := k3 _ _ (d9.ne_list eL) eL
          refine ⟨_, rfl, _, rfl, L, _, rfl, SqL.of eL3, fun L2 hL2 => ?_⟩
          rw [show cutV [V.ref t4, .ref t7] (some 1) none = [.ref t7] from cut_from [V.ref t4, .ref t7] 1 (by show 1 ≤ 2; decide)]
          have s4 := same_new hL2 (.lst [.ref t7])
          exact ⟨L2, _, [(1, [], g7)], rfl, (kk9.trans k3).trans (Keep.same s4), d3'.same s4, (hS9.keep k3 d9).same s4, (a29.keep (fr_keep k3 d9)).keep (fr_same s4), upd_same, ats_one ((e9.keep (fr_keep k3 d9)).keep (fr_same s4)), by show 1 ≤ 2; decide, fun q hq => all2 q (List.mem_cons_of_mem _ hq)⟩
        · rw [c3]
          refine iteF ?_
          exact stay G3 k3 d3'
      · rw [c2]
        refine iteF (iteF ?_)
        exact stay H9 (Keep.refl _ _) (d9.more (by omega))
    rintro σ G ⟨Fo, ys, l, rfl, kG, dG, hSG, aG, eF, aL, hl, hq⟩
    refine ⟨_, rfl, _, rfl, Fo, ys, rfl, .inl ⟨SqL.of eF, fun tt htt => ?_⟩⟩
    have s10 := same_new htt (.tup ys)
    have e10 : (Dd.tup (rowsC l)).At F0 (upd G tt (.tup ys)) (.ref tt) := at_tup upd_same (aL.keep (fr_same s10))
    have d10 := dG.same s10
    have hS10 := hSG.same s10
    have a10 := aG.keep (fr_same s10)
    have k10 := kG.trans (Keep.same s10)
    generalize upd G tt (.tup ys) = G10 at e10 d10 hS10 a10 k10 ⊢
    refine ⟨_, rfl, _, rfl, _, rfl, _, rfl, p, r, sc, _, e, 3, S, kd, "B", rfl, hen, by decide, by decide, by decide +kernel, hkd, d10, hS10, by omega, by omega, fun v11 o G11 k11 d11 a11 ho => ⟨by show 4 ≤ sizeLine; decide, fun t12 ht12 => ?_⟩⟩
    have s12 := same_new ht12 (.tup [.str "case", v2, .ref tt, v11])
    have f11 := fr_keep (B := F0) k11 d10
    have f12 := fr_same (B := F0) s12
    have hgz := gz_case (n := 3 * e + 2) (z := 60 * 4 ^ e - 30) (U := sn S) (f := g2) (l := l) (o := o) h2 hl hq ho
    exact q _ (.tup [.str "case", g2, .tup (rowsC l), dfl o]) _ ((k10.trans k11).trans (Keep.same s12)) ((d11.same s12).more (by omega)) (at_tup upd_same (ats_cons (at_str' (by decide +kernel)) (ats_cons ((a10.keep f11).keep f12) (ats_cons ((e10.keep f11).keep f12) (ats_cons (a11.keep f12) ats_nil))))) (hgz.mono (by omega) (by omega) fun s h => h)
  rw [c]
  refine iteF ?_
  refine ⟨_, rfl, _, rfl, _, rfl, _, _, rfl, rfl, p, r, sc, _, e, S, "L", ed4 _ _ _ _, by decide +kernel, hen, d1, hS1, by omega, by omega, fun v2 g2 H2 k2 d2 a2 h2 => ?_⟩
  have hS2 := hS1.keep k2 d1
  obtain ⟨m0, dN⟩ := d2.n
  obtain ⟨hm00, hm01⟩ := dN.pos
  refine ⟨_, rfl, p, r, _, _, rfl, dN, by omega, fun H3 hx3 k3 d3N => ?_⟩
  refine ⟨_, rfl, p, r, _, _, rfl, d3N, by omega, fun H4 hx4 k4 d4N => ?_⟩
  have hne : xN (m0 + 1) ≠ xN (m0 + 1 + 1) := fun e => by
    have := xN_inj (a := m0 + 1) (b := m0 + 1 + 1) (by omega) (by omega) (by omega) (by omega) e
    omega
  generalize xN (m0 + 1) = x at hx3 hne ⊢
  generalize xN (m0 + 1 + 1) = y at hx4 hne ⊢
  have d4 := d4N.to
  have f34 := (fr_keep (B := F0) k3 dN.to).trans (fr_keep (B := F0) k4 d3N.to)
  have hS4 := (hS2.keep k3 dN.to).keep k4 d3N.to
  have a24 := a2.keep f34
  have kk4 := ((k1.trans k2).trans k3).trans k4
  clear dN d3N d4N k3 k4 f34
  obtain ⟨xs, hsc, hats⟩ := hS4.at'
  have hxl := ats_len hats
  rw [List.length_map] at hxl
  refine ⟨_, rfl, _, rfl, _, rfl, by show 2 ≤ sizeLine; decide, fun t5 ht5 => ⟨_, rfl, by show 2 ≤ sizeLine; decide, fun t6 ht6 => ⟨by show 2 ≤ sizeLine; decide, fun l1 hl1 => ?_⟩⟩⟩
  have s5 := same_new ht5 (.tup [.str x, .str "I"])
  have s6 := same_new ht6 (.tup [.str y, .str "L"])
  have s7 := same_new hl1 (.lst [.ref t5, .ref t6])
  refine ⟨sc, l1, xs, _, rfl, rfl, s7 _ _ (s6 _ _ (s5 _ _ hsc)), upd_same, by show xs.length + 2 ≤ _; omega, fun sc2 hsc2 => ?_⟩
  have s8 := same_new hsc2 (.lst (xs ++ [.ref t5, .ref t6]))
  have s78 := sameT s7 s8
  have s678 := sameT s6 s78
  have sA := sameT s5 s678
  have hS8 := sc_ext2 (sc := sc2) (t := t5) (u := t6) (x := x) (y := y) (k1 := "I") (k2 := "L") hats hS.ok sA (s678 _ _ upd_same) (s78 _ _ upd_same) upd_same hx3 hx4 (by decide +kernel) (by decide +kernel)
  have d8 := d4.same sA
  have hS48 := hS4.same sA
  have a28 := a24.keep (fr_same sA)
  have kk8 := kk4.trans (Keep.same sA)
  generalize upd (upd (upd (upd H4 t5 (.tup [.str x, .str "I"])) t6 (.tup [.str y, .str "L"])) l1 (.lst [.ref t5, .ref t6])) sc2 (.lst (xs ++ [.ref t5, .ref t6])) = H8 at hS8 d8 hS48 a28 kk8 ⊢
  refine ⟨_, rfl, _, rfl, _, _, rfl, rfl, p, r, sc2, _, e, _, kd, ed4 _ _ _ _, hkd, hen, d8, hS8, by rw [List.length_append]; show _ + 2 + _ ≤ _; omega, by omega, fun v9 g9 H9 k9 d9 a9 h9 => ?_⟩
  have hS9 := hS48.keep k9 d8
  have a29 := a28.keep (fr_keep k9 d8)
  have kk9 := kk8.trans k9
  refine ⟨_, rfl, _, rfl, by show 2 ≤ sizeLine; decide, fun u10 hu10 => ⟨_, rfl, by show 3 ≤ sizeLine; decide, fun t10 ht10 => ⟨by show 1 ≤ sizeLine; decide, fun L hL => ?_⟩⟩⟩
  have s10 := same_new hu10 (.tup [.str x, .str y])
  have s11 := same_new ht10 (.tup [.int 1, .ref u10, v9])
  have s12 := same_new hL (.lst [.ref t10])
  have s1112 := sameT s11 s12
  have sB := sameT s10 s1112
  have e12 : (Dd.tup [.int 1, nameT [x, y], g9]).At F0 (upd (upd (upd H9 u10 (.tup [.str x, .str y])) t10 (.tup [.int 1, .ref u10, v9])) L (.lst [.ref t10])) (.ref t10) := at_tup (s12 _ _ upd_same) (ats_cons at_int' (ats_cons (at_tup (s1112 _ _ upd_same) (ats_cons (at_str' hx3.len) (ats_cons (at_str' hx4.len) ats_nil))) (ats_cons (a9.keep (fr_same sB)) ats_nil)))
  have eL : upd (upd (upd H9 u10 (.tup [.str x, .str y])) t10 (.tup [.int 1, .ref u10, v9])) L (.lst [.ref t10]) L = some (.lst [.ref t10]) := upd_same
  have d12 := d9.same sB
  have hS12 := hS9.same sB
  have a212 := a29.keep (fr_same sB)
  have kk12 := kk9.trans (Keep.same sB)
  generalize upd (upd (upd H9 u10 (.tup [.str x, .str y])) t10 (.tup [.int 1, .ref u10, v9])) L (.lst [.ref t10]) = H12 at e12 eL d12 hS12 a212 kk12 ⊢
  have hrow : RowOk2 (3 * e + 2) (60 * 4 ^ e - 30) (sn S) (1, [x, y], g9) := ⟨(show (0 : Int) ≤ 1 by decide), (show (1 : Int) ≤ 1000 by decide), fun z hz => by
      simp only [List.mem_cons, List.not_mem_nil, or_false] at hz
      rcases hz with rfl | rfl
      · exact hx3.1
      · exact hx4.1, List.nodup_cons.mpr ⟨fun h => hne (List.mem_singleton.mp h), List.nodup_cons.mpr ⟨List.not_mem_nil, List.nodup_nil⟩⟩, Nat.le_refl _, h9.mono (Nat.le_refl _) (Nat.le_refl _) fun s hs => sn_snoc2 hs⟩
  refine ⟨fun σ G => ∃ (Fo : Addr) (ys : List V) (l : List (Int × List Str × Dd)), σ = [some (.ref p), some (.ref sc), some (.str kd), some (.int ((e + 1 : Nat) : Int)), some (.int u), some v2, some (.ref Fo), some (.str x), some (.str y), some v9] ∧ Keep p H G ∧ DAt G p r (B + 3 * (40 * 4 ^ e - 20) + 4) ∧ ScAt G sc S ∧ g2.At F0 G v2 ∧ G Fo = some (.lst ys) ∧ Dd.Ats F0 G (rowsC l) ys ∧ l.length ≤ 2 ∧ ∀ q ∈ l, RowOk2 (3 * e + 2) (60 * 4 ^ e - 30) (sn S) q, ?_, ?_⟩
  · refine ⟨_, rfl, rfl, _, rfl, ?_⟩
    show if decide (V.int u = V.int 2) = true then _ else _
    rcases Bool.eq_false_or_eq_true (decide (V.int u = V.int 2)) with c2 | c2
    · rw [c2]
      refine iteT ?_
      refine ⟨by show 0 ≤ sizeLine; decide, fun u13 hu13 => ?_⟩
      have s13 := same_new hu13 (.tup [])
      have e13 : upd H12 u13 (.tup []) u13 = some (.tup []) := upd_same
      have d13 := d12.same s13
      have hS13 := hS12.same s13
      have a213 := a212.keep (fr_same s13)
      have e1213 := e12.keep (fr_same s13)
      have eL13 := s13 _ _ eL
      have kk13 := kk12.trans (Keep.same s13)
      generalize upd H12 u13 (.tup []) = H13 at e13 d13 hS13 a213 e1213 eL13 kk13 ⊢
      refine ⟨_, rfl, _, rfl, _, rfl, _, rfl, _, _, rfl, rfl, p, r, sc, _, e, S, kd, ed4 _ _ _ _, hkd, hen, d13, hS13, by omega, by omega, fun v14 g14 H14 k14 d14 a14 h14 => ⟨by show 3 ≤ sizeLine; decide, fun t15 ht15 => ⟨by show 1 ≤ sizeLine; decide, fun l16 hl16 => ?_⟩⟩⟩
      have s15 := same_new ht15 (.tup [.int 0, .ref u13, v14])
      have s16 := same_new hl16 (.lst [.ref t15])
      have f14 := fr_keep (B := F0) k14 d13
      have eL14 := k14 _ _ (d13.ne_list eL13) eL13
      refine ⟨_, rfl, l16, L, _, _, rfl, rfl, upd_same, s16 _ _ (s15 _ _ eL14), by show 2 ≤ sizeLine; decide, fun L17 hL17 => ?_⟩
      have s17 := same_new hL17 (.lst ([.ref t15] ++ [.ref t10]))
      have s167 := sameT s16 s17
      have sC := sameT s15 s167
      have fC := f14.trans (fr_same sC)
      have e15 : (Dd.tup [.int 0, nameT [], g14]).At F0 (upd (upd (upd H14 t15 (.tup [.int 0, .ref u13, v14])) l16 (.lst [.ref t15])) L17 (.lst ([.ref t15] ++ [.ref t10]))) (.ref t15) := at_tup (s167 _ _ upd_same) (ats_cons at_int' (ats_cons (at_tup (fC.1 _ _ e13) ats_nil) (ats_cons (a14.keep (fr_same sC)) ats_nil)))
      refine ⟨L17, _, [(0, [], g14), (1, [x, y], g9)], rfl, (kk13.trans k14).trans (Keep.same sC), (d14.same sC).more (by omega), (hS13.keep k14 d13).same sC, a213.keep fC, upd_same, ats_cons e15 (ats_one (e1213.keep fC)), Nat.le_refl _, fun q hq => ?_⟩
      simp only [List.mem_cons, List.not_mem_nil, or_false] at hq
      rcases hq with rfl | rfl
      · exact row0 (by decide) (by decide) h14
      · exact hrow
    · rw [c2]
      refine iteF ?_
      refine ⟨L, _, [(1, [x, y], g9)], rfl, kk12, d12.more (by omega), hS12, a212, eL, ats_one e12, by show 1 ≤ 2; decide, fun q hq => ?_⟩
      rw [List.mem_singleton.mp hq]
      exact hrow
  rintro σ G ⟨Fo, ys, l, rfl, kG, dG, hSG, aG, eF, aL, hl, hq⟩
  refine ⟨_, rfl, _, rfl, Fo, ys, rfl, .inl ⟨SqL.of eF, fun tt htt => ?_⟩⟩
  have s10 := same_new htt (.tup ys)
  have e10 : (Dd.tup (rowsC l)).At F0 (upd G tt (.tup ys)) (.ref tt) := at_tup upd_same (aL.keep (fr_same s10))
  have d10 := dG.same s10
  have hS10 := hSG.same s10
  have a10 := aG.keep (fr_same s10)
  have k10 := kG.trans (Keep.same s10)
  generalize upd G tt (.tup ys) = G10 at e10 d10 hS10 a10 k10 ⊢
  refine ⟨_, rfl, _, rfl, _, rfl, _, rfl, p, r, sc, _, e, 2, S, kd, "L", rfl, hen, by decide, by decide, by decide +kernel, hkd, d10, hS10, by omega, by omega, fun v11 o G11 k11 d11 a11 ho => ⟨by show 4 ≤ sizeLine; decide, fun t12 ht12 => ?_⟩⟩
  have s12 := same_new ht12 (.tup [.str "case", v2, .ref tt, v11])
  have f11 := fr_keep (B := F0) k11 d10
  have f12 := fr_same (B := F0) s12
  have hgz := gz_case (n := 3 * e + 2) (z := 60 * 4 ^ e - 30) (U := sn S) (f := g2) (l := l) (o := o) h2 hl hq ho
  exact q _ (.tup [.str "case", g2, .tup (rowsC l), dfl o]) _ ((k10.trans k11).trans (Keep.same s12)) ((d11.same s12).more (by omega)) (at_tup upd_same (ats_cons (at_str' (by decide +kernel)) (ats_cons ((a10.keep f11).keep f12) (ats_cons ((e10.keep f11).keep f12) (ats_cons (a11.keep f12) ats_nil))))) (hgz.mono (by omega) (by omega) fun s h => h)
abbrev sChoice : Stmt := topS 73
theorem scChoice : FnScope ["d", "scope", "kind", "depth", "first", "start", "found", "k"] ["d", "scope", "kind", "depth"] (defScope sChoice) := ⟨rfl, rfl, rfl, by decide +kernel, rfl, by decide +kernel, by decide +kernel⟩
theorem c_choice {f : Addr} {fd : FuncData} {n : Nat} (T : TxtY mg) (c_law_take : C8.Cal P w K mg base 1 "_law_take" spTake []) (c_law_term : C8.Cal P w K mg base (3 * n + 5) "_law_term" (spTerm n) []) (c_law_default : C8.Cal P w K mg base (3 * n + 6) "_law_default" (spDefault n) []) (F : Fun K "_law_choice" "_law_choice" sChoice f fd) (b : Binds K fd ["d", "scope", "kind", "depth"] []) (hm : mg "_law_choice" = some (.ref f)) : C8.Cal P w K mg base (3 * n + 7) "_law_choice" (spHelp n) [] := by
  refine cal_of F hm b scChoice (fun vs H Q E h => ?_) (fun cdv A outer s H vs Q E hr h => ?_)
  · obtain ⟨p, r, sc, B, e, S, kd, rfl, _⟩ := h
    rfl
  obtain ⟨p, r, sc, B, e, S, kd, rfl, hen, hkd, d0, hS, hSl, hB, q⟩ := h
  have hP := pow_pos4 e
  have hbig := big
  rw [p4n] at hB q
  refine ⟨_, (pss_cons (ps_set (i := 4) scChoice.nd rfl (Or.inl rfl) (C8.pe_c c_law_term hr (by omega) rfl (pa_cons (pv 0) (pa_cons (pv 1) (pa_cons pe_str (pa_cons (pe_op op_sub (pv 3) pe_int) pa_nil))))))
    (pss_cons (ps_set (i := 5) scChoice.nd rfl (Or.inr rfl) (pe_op op_mod (C8.pe_c c_law_take hr (by omega) rfl (pa_cons (pv 0) pa_nil)) pe_int))
    (pss_cons (ps_setLc (i := 6) (own := [("k", 7)]) (g := gName 7) (tt := tYes) (te := (tTup (tCons (tOp (rI0 fun i j => .int (i + j)) (tVar 5) (tVar 7)) (tCons (tCall (spTerm n) [] C8.E0 (tCons (tVar 0) (tCons (tVar 1) (tCons (tVar 2) (tCons (tOp (rI0 fun i j => .int (i - j)) (tVar 3) (tC (.int 1))) tNil))))) tNil)))) rfl scChoice.nd rfl rfl (sw_true rfl rfl rfl (by decide +kernel)) (pi_range1 rfl T.zrange (pa_cons (pe_op op_add pe_int (pe_op op_mod (C8.pe_c c_law_take hr (by omega) rfl (pa_cons (pv 0) pa_nil)) pe_int)) pa_nil)) (blkOk_by (own := [("k", 7)]) (N := ["d", "scope", "kind", "depth", "first", "start", "found", "k"]) (sc := defScope sChoice) (by decide +kernel)) (fun _ _ _ _ _ => (pg_name (i := 7) scChoice.nd rfl (Or.inl rfl))) (fun _ _ _ _ _ => pts_nil) (fun _ _ _ _ _ => (pe_tup (pa_cons (pe_op op_add (pv 5) (pv 7)) (pa_cons (C8.pe_c c_law_term hr (by omega) rfl (pa_cons (pv 0) (pa_cons (pv 1) (pa_cons (pv 2) (pa_cons (pe_op op_sub (pv 3) pe_int) pa_nil))))) pa_nil)))))
    (pss_one (ps_ret (pe_tup (pa_cons pe_str (pa_cons (pv 4) (pa_cons (pe_callTy call_tuple_of rfl T.ztuple boot_tuple (pa_cons (pv 6) pa_nil)) (pa_cons (C8.pe_c c_law_default hr (by omega) rfl (pa_cons (pv 0) (pa_cons (pv 1) (pa_cons (pv 2) (pa_cons pe_str (pa_cons (pv 3) (pa_cons (pe_op op_sub pe_int (pe_op op_mod (pv 5) pe_int)) pa_nil))))))) pa_nil)))))))))), ?_⟩
  refine ⟨_, rfl, _, rfl, _, rfl, _, _, rfl, rfl, p, r, sc, _, e, S, "I", ed4 _ _ _ _, by decide +kernel, hen, d0, hS, by omega, by omega, fun v2 g2 H2 k2 d2 a2 h2 => ?_⟩
  have hS2 := hS.keep k2 d0
  refine ⟨_, rfl, p, r, _, rfl, d2, fun n3 H3 n30 n31 k3 d3 => ?_⟩
  have m30 := Int.emod_nonneg n3 (show (3 : Int) ≠ 0 by decide)
  have m31 := Int.emod_lt_of_pos n3 (show (0 : Int) < 3 by decide)
  refine ⟨_, _, rfl, rfl, (show (0 : Int) < 3 by decide), ?_⟩
  show gName 5 (V.int (n3 % 3)) _ _ _
  generalize n3 % 3 = st at *
  have hS3 := hS2.keep k3 d2
  have a23 := a2.keep (fr_keep k3 d2)
  refine ⟨_, rfl, p, r, _, rfl, d3, fun n4 H4 n40 n41 k4 d4 => ?_⟩
  have m40 := Int.emod_nonneg n4 (show (2 : Int) ≠ 0 by decide)
  have m41 := Int.emod_lt_of_pos n4 (show (0 : Int) < 2 by decide)
  have hS4 := hS3.keep k4 d3
  have a24 := a23.keep (fr_keep k4 d3)
  have kk4 := (k2.trans k3).trans k4
  refine ⟨_, _, rfl, rfl, (show (0 : Int) < 2 by decide), _, _, rfl, rfl, _, rfl, by omega, by omega, fun D hD => ?_⟩
  obtain ⟨nDp, nDr⟩ := d4.fresh hD
  have hm2 : (1 + n4 % 2).toNat ≤ 2 := by omega
  have hm1 : 1 ≤ (1 + n4 % 2).toNat := by omega
  refine lc_range (Pv := fun i G' => ∃ (l : List (Int × Dd)) (xs : List V), G' D = some (.lst xs) ∧ Keep p H4 G' ∧ DAt G' p r (B + (40 * 4 ^ e - 20) + 2 + i * (40 * 4 ^ e - 20)) ∧ Dd.Ats F0 G' (rowsP l) xs ∧ l.length = i ∧ (∀ q ∈ l, -10 ≤ q.1 ∧ q.1 < st + (i : Int) ∧ Gz (3 * e + 2) (60 * 4 ^ e - 30) (sn S) q.2) ∧ (l.map (·.1)).Nodup) ⟨[], [], upd_same, Keep.same (same_new hD _), (d4.same (same_new hD _)).more (by omega), rfl, rfl, (fun q h => absurd h List.not_mem_nil), List.nodup_nil⟩ ?_ ?_
  · rintro i G' hi ⟨l, xs, h1, h2', h3, h4, h5, h6, h7⟩
    have hi2 : i ≤ 1 := by omega
    have hic : i * (40 * 4 ^ e - 20) ≤ 1 * (40 * 4 ^ e - 20) := Nat.mul_le_mul_right _ hi2
    have hic1 : (i + 1) * (40 * 4 ^ e - 20) = i * (40 * 4 ^ e - 20) + (40 * 4 ^ e - 20) := Nat.succ_mul _ _
    have hxl := ats_len h4
    have hrl : (rowsP l).length = l.length := by unfold rowsP; rw [List.length_map]
    refine ⟨rfl, ?_⟩
    refine tYes_if ?_
    refine ⟨_, rfl, _, rfl, _, _, rfl, rfl, _, rfl, _, rfl, _, rfl, _, rfl, _, _, rfl, rfl, p, r, sc, _, e, S, kd, ed4 _ _ _ _, hkd, hen, h3, hS4.keep h2' d4, by omega, by omega, fun v1 g1 G2 k2 d2 a2 hg => ⟨by show 2 ≤ sizeLine; decide, fun u1 hu1 => ?_⟩⟩
    have h1' := k2 _ _ nDp h1
    have s5 := same_new hu1 (.tup [.int (st + (0 + (i : Int))), v1])
    have h1'' := s5 _ _ h1'
    have f5 := fr_same (B := F0) s5
    have e5 : upd G2 u1 (.tup [.int (st + (0 + (i : Int))), v1]) u1 = some (.tup [.int (st + (0 + (i : Int))), v1]) := upd_same
    have d5 := d2.same s5
    have a5 := a2.keep f5
    have h45 := (h4.keep (fr_keep k2 h3)).keep f5
    have k5 := (h2'.trans k2).trans (Keep.same s5)
    generalize upd G2 u1 (.tup [.int (st + (0 + (i : Int))), v1]) = G5 at e5 h1'' d5 a5 h45 k5 ⊢
    have fL : Fr F0 G5 (upd G5 D (.lst (xs ++ [.ref u1]))) := fr_list h1'' fun z => z
    refine ⟨xs, h1'', szl (by omega), l ++ [(st + (0 + (i : Int)), g1)], xs ++ [.ref u1], upd_same, keep_upd hD k5 _, (d5.off nDp nDr _).more (by omega), ?_, by rw [List.length_append, h5]; rfl, fun y hy => ?_, ?_⟩
    · rw [show rowsP (l ++ [(st + (0 + (i : Int)), g1)]) = rowsP l ++ [.tup [.int (st + (0 + (i : Int))), g1]] by unfold rowsP; rw [List.map_append]; rfl]
      exact ats_app (h45.keep fL) (ats_one ((at_tup e5 (ats_cons at_int' (ats_cons a5 ats_nil))).keep fL))
    · rcases List.mem_append.mp hy with z' | z'
      · obtain ⟨y1, y2, y3⟩ := h6 y z'
        exact ⟨y1, by omega, y3⟩
      · rw [List.mem_singleton.mp z']
        exact ⟨by show -10 ≤ st + (0 + (i : Int)); omega, by show st + (0 + (i : Int)) < st + ((i + 1 : Nat) : Int); omega, hg⟩
    · rw [List.map_append, List.nodup_append]
      refine ⟨h7, List.pairwise_singleton _ _, fun a ha b hb e' => ?_⟩
      obtain ⟨q1, hq1, rfl⟩ := List.mem_map.mp ha
      have hb : b ∈ [st + (0 + (i : Int))] := hb
      rw [List.mem_singleton.mp hb] at e'
      have := (h6 q1 hq1).2.1
      omega
  rintro G' ⟨l, xs, h1, h2', h3, h4, h5, h6, h7⟩
  generalize (1 + n4 % 2).toNat = mm at hm2 hm1 h3 h5 h6
  have hic : mm * (40 * 4 ^ e - 20) ≤ 2 * (40 * 4 ^ e - 20) := Nat.mul_le_mul_right _ hm2
  have hS5 := hS4.keep h2' d4
  have a25 := a24.keep (fr_keep h2' d4)
  have kk5 := kk4.trans h2'
  refine ⟨_, rfl, _, rfl, D, xs, rfl, .inl ⟨SqL.of h1, fun tt htt => ?_⟩⟩
  have s10 := same_new htt (.tup xs)
  have e10 : (Dd.tup (rowsP l)).At F0 (upd G' tt (.tup xs)) (.ref tt) := at_tup upd_same (h4.keep (fr_same s10))
  have d10 := h3.same s10
  have hS10 := hS5.same s10
  have a10 := a25.keep (fr_same s10)
  have k10 := kk5.trans (Keep.same s10)
  generalize upd G' tt (.tup xs) = G10 at e10 d10 hS10 a10 k10 ⊢
  have o0 := Int.emod_nonneg st (show (2 : Int) ≠ 0 by decide)
  have o1 := Int.emod_lt_of_pos st (show (0 : Int) < 2 by decide)
  refine ⟨_, rfl, _, rfl, _, rfl, _, rfl, _, rfl, _, _, rfl, rfl, (show (0 : Int) < 2 by decide), _, _, rfl, rfl, p, r, sc, _, e, (2 - st % 2).toNat, S, kd, "I", by rw [Int.toNat_of_nonneg (by omega)]; rfl, hen, by omega, by omega, by decide +kernel, hkd, d10, hS10, by omega, by omega, fun v11 o G11 k11 d11 a11 ho => ⟨by show 4 ≤ sizeLine; decide, fun t12 ht12 => ?_⟩⟩
  have s12 := same_new ht12 (.tup [.str "pick", v2, .ref tt, v11])
  have f11 := fr_keep (B := F0) k11 d10
  have f12 := fr_same (B := F0) s12
  have hgz := gz_pick (n := 3 * e + 2) (z := 60 * 4 ^ e - 30) (U := sn S) (f := g2) (l := l) (o := o) h2 (by omega) (fun y hy => ⟨(h6 y hy).1, by have := (h6 y hy).2.1; omega, (h6 y hy).2.2⟩) h7 ho
  exact q _ (.tup [.str "pick", g2, .tup (rowsP l), dfl o]) _ ((k10.trans k11).trans (Keep.same s12)) ((d11.same s12).more (by omega)) (at_tup upd_same (ats_cons (at_str' (by decide +kernel)) (ats_cons ((a10.keep f11).keep f12) (ats_cons ((e10.keep f11).keep f12) (ats_cons (a11.keep f12) ats_nil))))) (hgz.mono (by omega) (by omega) fun s h => h)
end
end Toy

set_option Elab.async false
set_option linter.all false
set_option maxRecDepth 100000
set_option maxHeartbeats 4000000
/-! Part E2: the definitions of a typed program, calls of them. -/
namespace Toy
open PySem L2
open PyProof.Rows (envOfC)
theorem pe_c0 {X : Cx} {k j : Nat} {x : Str} {sp : Sp} {dvs : List V} {p pos : Pos} (c : C8.Cal X.prog X.w X.K X.mg X.base k x sp dvs) (hr : Room j X.A) (hk : k ≤ j) (hg : Gl X x) (hdb : (x == ("__debug__" : Str)) = false := by decide) :
    PE X (.Call (.Name x p) [] [] pos) (tCall sp dvs C8.E0 tNil) := by
  obtain ⟨f, fd, ps, ds, F, hm, kp, b, d⟩ := c.ex
  exact pe_call0 F (hr.mono hk) hg hm kp b d C8.pass0 hdb
/-- this reading makes this thing; its lists are new -/
def Nw (H0 : Hp) : Addr → Prop := fun a => H0 a = none
def Mk (te : TE) (k : Dd) : Prop := ∀ (H0 : Hp) (σ : L2.St) (H : Hp) (Q : VK), Same H0 H → (∀ v H', Same H H' → k.At (Nw H0) H' v → Q v H') → te σ H Q
def Mks (ta : TA) (l : List Dd) : Prop := ∀ (H0 : Hp) (σ : L2.St) (H : Hp) (Q : List V → Hp → Prop), Same H0 H → (∀ vs H', Same H H' → Dd.Ats (Nw H0) H' l vs → Q vs H') → ta σ H Q
theorem same_refl (H : Hp) : Same H H := fun _ _ e => e
theorem mk_str {z : Str} (h : z.length ≤ 1000) : Mk (tC (.str z)) (.str z) := fun _ σ H Q _ q => q _ H (same_refl H) ⟨rfl, h⟩
theorem mks_nil : Mks tNil [] := fun _ σ H Q _ q => q [] H (same_refl H) rfl
theorem mks_cons {te : TE} {ta : TA} {k : Dd} {l : List Dd} (h : Mk te k) (hs : Mks ta l) : Mks (tCons te ta) (k :: l) := fun H0 σ H Q s0 q =>
  h H0 σ H _ s0 fun x H1 s1 a1 => hs H0 σ H1 _ (sameT s0 s1) fun xs H2 s2 a2 => q (x :: xs) H2 (sameT s1 s2) (ats_cons (a1.keep (fr_same s2)) a2)
theorem mks_strs {zs : List Str} (h : ∀ z ∈ zs, z.length ≤ 1000) : Mks (tStrs zs) (zs.map Dd.str) := fun _ σ H Q _ q => q _ H (same_refl H) (ats_strs h)
theorem mk_tup {ta : TA} {l : List Dd} (h : Mks ta l) (hl : l.length ≤ 1000) : Mk (tTup ta) (.tup l) := fun H0 σ H Q s0 q => h H0 σ H _ s0 fun xs H1 s1 a1 => ⟨by rw [ats_len a1]; exact Nat.le_trans hl (by decide), fun p hp =>
  q _ _ (sameT s1 (same_new hp _)) (at_tup upd_same (a1.keep (fr_same (same_new hp _))))⟩
theorem mk_lst {ta : TA} {l : List Dd} (h : Mks ta l) (hl : l.length ≤ 1000) : Mk (tLst ta) (.lst l) := fun H0 σ H Q s0 q => h H0 σ H _ s0 fun xs H1 s1 a1 => ⟨by rw [ats_len a1]; exact Nat.le_trans hl (by decide), fun p hp =>
  q _ _ (sameT s1 (same_new hp _)) ⟨p, xs, rfl, free_of (sameT s0 s1) hp, upd_same, a1.keep (fr_same (same_new hp _))⟩⟩
theorem run_asgL {ta : TA} {l : List Dd} {rest : TS} {D : Ends} {σ : L2.St} {H : Hp} {i : Nat} (h : Mks ta l) (hl : l.length ≤ 1000)
    (q : ∀ p xs H', Same H H' → H p = none → H' p = some (.lst xs) → Dd.Ats (Nw H) H' l xs → rest D (σ.set i (some (.ref p))) H') : tSeq (tAsg (tLst ta) (gName i)) rest D σ H :=
  h H σ H _ (same_refl H) fun xs H1 s1 a1 => ⟨by rw [ats_len a1]; exact Nat.le_trans hl (by decide), fun p hp => q p xs _ (sameT s1 (same_new hp _)) (free_of s1 hp) upd_same (a1.keep (fr_same (same_new hp _)))⟩
/-- a definition of the typed program: its name, the kinds of its parameters, its own kind -/
abbrev GRow := Str × List Str × Str
def rowG (q : GRow) : Dd := .tup [.str q.1, .lst (q.2.1.map Dd.str), .str q.2.2]
def glob1 : List GRow := [("f", ["I"], "I"), ("g", ["I", "I"], "I"), ("h", ["I"], "L"), ("k", ["L", "I"], "I")]
def glob2 : List GRow := [("c", [], "I"), ("m", ["F", "I", "L"], "L"), ("b", ["I"], "B")]
def glob : List GRow := glob1 ++ glob2
theorem glob_ok : ∀ q ∈ glob, q.1 ∈ globs ∧ q.2.1.length ≤ 3 ∧ (∀ z ∈ q.2.1, z.length ≤ 1000) ∧ q.2.2.length ≤ 1000 := by decide +kernel
def rowP (q : GRow) : PyData := .tuple [.str q.1, .list (q.2.1.map PyData.str), .str q.2.2]
theorem glob_lay : ∀ q ∈ glob, PyData.canLay0 (rowP q) = true := by decide +kernel
theorem glob_depth : ∀ q ∈ glob, PyData.depth (rowP q) ≤ 3 := by decide +kernel
theorem strs_dpK {K : PySem.W.Frag} {B : Addr → Prop} {H : Hp} {zs : List Str} {xs : List V} (h : Dd.Ats B H (zs.map Dd.str) xs) : DpAll K H xs (zs.map PyData.str) := by
  rw [(ats_strs_eq h).1]
  exact strs_dp zs
theorem row_dp {K : PySem.W.Frag} {B : Addr → Prop} {H : Hp} {q : GRow} {v : V} (h : (rowG q).At B H v) : Dp K H v (rowP q) := by
  obtain ⟨t, xs, rfl, ht, x0, ys0, rfl, h0, x1, ys1, rfl, h1, x2, ys2, rfl, h2, hn⟩ := h
  cases (show ys2 = [] from hn)
  obtain ⟨rfl, _⟩ := (show x0 = .str q.1 ∧ _ from h0)
  obtain ⟨rfl, _⟩ := (show x2 = .str q.2.2 ∧ _ from h2)
  obtain ⟨a, zs, rfl, _, ha, hs⟩ := h1
  exact .tup (SqT.of ht) (.cons (.str _) (.cons (.lst (SqL.of ha) (strs_dpK hs)) (.cons (.str _) .nil)))
theorem rows_dp {K : PySem.W.Frag} {B : Addr → Prop} {H : Hp} : ∀ {l : List GRow} {xs : List V}, Dd.Ats B H (l.map rowG) xs → DpAll K H xs (l.map rowP)
  | [], _, h => by cases h; exact .nil
  | q :: l, _, ⟨x, ys, e, h, hs⟩ => by
    cases e
    exact .cons (row_dp h) (rows_dp hs)
theorem rows_lay : ∀ {l : List GRow}, (∀ q ∈ l, q ∈ glob) → PyData.canLayAll0 (l.map rowP) = true
  | [], _ => by simp [PyData.canLayAll0]
  | q :: l, h => by
    have z := rows_lay fun k hk => h k (List.mem_cons_of_mem _ hk)
    have z2 := glob_lay q (h q (List.mem_cons_self ..))
    simp [PyData.canLayAll0, z, z2]
theorem rows_depth : ∀ {l : List GRow}, (∀ q ∈ l, q ∈ glob) → PyData.depthAll (l.map rowP) ≤ 3
  | [], _ => by simp [PyData.depthAll]
  | q :: l, h => by
    have z := rows_depth fun k hk => h k (List.mem_cons_of_mem _ hk)
    have z2 := glob_depth q (h q (List.mem_cons_self ..))
    simp [PyData.depthAll]
    omega
theorem rows_shaped {l : List GRow} (h : ∀ q ∈ l, q ∈ glob) : SeqAt.shaped (.list (l.map rowP)) = true := by
  have z := rows_lay h
  have z2 := rows_depth h
  unfold SeqAt.shaped
  rw [Bool.and_eq_true]
  refine ⟨by simp [PyData.canLay0, z], decide_eq_true ?_⟩
  have z3 : (PyData.list (l.map rowP)).depth ≤ 1 + PyData.depthAll (l.map rowP) := by simp [PyData.depth]; omega
  omega
theorem rows_nil {l : List GRow} : PyData.eqv (.list (l.map rowP)) (.list []) = decide (l = []) := by
  cases l with
  | nil => simp [PyData.eqv, PyData.eqvAll]
  | cons x r => simp [PyData.eqv, PyData.eqvAll]
section
variable {P : Program} {w : World} {K : PySem.W.Frag} {mg : Str → Option Value} {base : Heap}
abbrev sGlobals : Stmt := topS 74
theorem scGlobals : FnScope ["rows"] [] (defScope sGlobals) := ⟨rfl, rfl, rfl, by decide +kernel, rfl, by decide +kernel, by decide +kernel⟩
def spGlobals : Sp := fun vs H Q _ => vs = [] ∧ ∀ (L : Addr) (xs : List V) (H' : Hp), Same H H' → H L = none → H' L = some (.lst xs) → Dd.Ats (Nw H) H' (glob.map rowG) xs → Q (.ref L) H'
theorem c_globals {f : Addr} {fd : FuncData} (F : Fun K "_law_globals" "_law_globals" sGlobals f fd) (b : Binds K fd [] []) (hm : mg "_law_globals" = some (.ref f)) : C8.Cal P w K mg base 1 "_law_globals" spGlobals [] := by
  refine cal_of F hm b scGlobals (fun vs H Q E h => ?_) (fun cdv A outer s H vs Q E hr h => ?_)
  · obtain ⟨rfl, _⟩ := h
    rfl
  obtain ⟨rfl, q⟩ := h
  refine ⟨_, (pss_cons (ps_set (i := 0) scGlobals.nd rfl (Or.inl rfl) (pe_lst (pa_cons (pe_tup (pa_cons pe_str (pa_cons (pe_lst (pa_cons pe_str pa_nil)) (pa_cons pe_str pa_nil)))) (pa_cons (pe_tup (pa_cons pe_str (pa_cons (pe_lst (pa_cons pe_str (pa_cons pe_str pa_nil))) (pa_cons pe_str pa_nil)))) (pa_cons (pe_tup (pa_cons pe_str (pa_cons (pe_lst (pa_cons pe_str pa_nil)) (pa_cons pe_str pa_nil)))) (pa_cons (pe_tup (pa_cons pe_str (pa_cons (pe_lst (pa_cons pe_str (pa_cons pe_str pa_nil))) (pa_cons pe_str pa_nil)))) pa_nil))))))
    (pss_one (ps_ret (pe_op op_cat (pv 0) (pe_lst (pa_cons (pe_tup (pa_cons pe_str (pa_cons (pe_lst pa_nil) (pa_cons pe_str pa_nil)))) (pa_cons (pe_tup (pa_cons pe_str (pa_cons (pe_lst (pa_strs (zs := ["F", "I", "L"]) rfl)) (pa_cons pe_str pa_nil)))) (pa_cons (pe_tup (pa_cons pe_str (pa_cons (pe_lst (pa_cons pe_str pa_nil)) (pa_cons pe_str pa_nil)))) pa_nil)))))))), ?_⟩
  have st : ∀ {z : Str}, z.length ≤ 1000 → Mk (tC (.str z)) (.str z) := fun h => mk_str h
  refine run_asgL (l := glob1.map rowG) (mks_cons (mk_tup (mks_cons (mk_str (by decide +kernel)) (mks_cons (mk_lst (mks_cons (mk_str (by decide +kernel)) mks_nil) (by decide)) (mks_cons (mk_str (by decide +kernel)) mks_nil))) (by decide)) (mks_cons (mk_tup (mks_cons (mk_str (by decide +kernel)) (mks_cons (mk_lst (mks_cons (mk_str (by decide +kernel)) (mks_cons (mk_str (by decide +kernel)) mks_nil)) (by decide)) (mks_cons (mk_str (by decide +kernel)) mks_nil))) (by decide)) (mks_cons (mk_tup (mks_cons (mk_str (by decide +kernel)) (mks_cons (mk_lst (mks_cons (mk_str (by decide +kernel)) mks_nil) (by decide)) (mks_cons (mk_str (by decide +kernel)) mks_nil))) (by decide)) (mks_cons (mk_tup (mks_cons (mk_str (by decide +kernel)) (mks_cons (mk_lst (mks_cons (mk_str (by decide +kernel)) (mks_cons (mk_str (by decide +kernel)) mks_nil)) (by decide)) (mks_cons (mk_str (by decide +kernel)) mks_nil))) (by decide)) mks_nil)))) (by decide) fun p1 xs1 H1 s1 hp1 e1 a1 => ?_
  refine ⟨_, rfl, ?_⟩
  have hb : Mk (tLst (tCons (tTup (tCons (tC (.str "c")) (tCons (tLst tNil) (tCons (tC (.str "I")) tNil)))) (tCons (tTup (tCons (tC (.str "m")) (tCons (tLst (tStrs ["F", "I", "L"])) (tCons (tC (.str "L")) tNil)))) (tCons (tTup (tCons (tC (.str "b")) (tCons (tLst (tCons (tC (.str "I")) tNil)) (tCons (tC (.str "B")) tNil)))) tNil)))) (.lst (glob2.map rowG)) :=
    mk_lst (mks_cons (mk_tup (mks_cons (mk_str (by decide +kernel)) (mks_cons (mk_lst mks_nil (by decide)) (mks_cons (mk_str (by decide +kernel)) mks_nil))) (by decide)) (mks_cons (mk_tup (mks_cons (mk_str (by decide +kernel)) (mks_cons (mk_lst (mks_strs (by decide +kernel)) (by decide)) (mks_cons (mk_str (by decide +kernel)) mks_nil))) (by decide)) (mks_cons (mk_tup (mks_cons (mk_str (by decide +kernel)) (mks_cons (mk_lst (mks_cons (mk_str (by decide +kernel)) mks_nil) (by decide)) (mks_cons (mk_str (by decide +kernel)) mks_nil))) (by decide)) mks_nil))) (by decide)
  refine hb H _ _ _ s1 fun v2 H2 s2 a2 => ?_
  obtain ⟨p2, xs2, rfl, _, e2, b2⟩ := a2
  refine ⟨p1, p2, xs1, xs2, rfl, rfl, s2 _ _ e1, e2, ?_, fun L hL => ?_⟩
  · rw [ats_len a1, ats_len b2]
    decide
  have s3 := same_new hL (.lst (xs1 ++ xs2))
  refine q L _ _ (sameT s1 (sameT s2 s3)) (free_of (sameT s1 s2) hL) upd_same ?_
  unfold glob
  rw [List.map_append]
  exact ats_app (a1.keep (fr_same (sameT s2 s3))) (b2.keep (fr_same s3))
abbrev sLCall : Stmt := topS 75
theorem scLCall : FnScope ["d", "scope", "kind", "depth", "rows", "name", "kinds", "other", "term", "one", "row"] ["d", "scope", "kind", "depth"] (defScope sLCall) := ⟨rfl, rfl, rfl, by decide +kernel, rfl, by decide +kernel, by decide +kernel⟩
theorem c_lcall {f : Addr} {fd : FuncData} {n : Nat} (T : TxtY mg) (c_law_globals : C8.Cal P w K mg base 1 "_law_globals" spGlobals []) (c_law_take : C8.Cal P w K mg base 1 "_law_take" spTake []) (c_law_leaf : C8.Cal P w K mg base 4 "_law_leaf" (spLeaf 2) []) (c_law_term : C8.Cal P w K mg base (3 * n + 5) "_law_term" (spTerm n) []) (F : Fun K "_law_call" "_law_call" sLCall f fd) (b : Binds K fd ["d", "scope", "kind", "depth"] []) (hm : mg "_law_call" = some (.ref f)) : C8.Cal P w K mg base (3 * n + 6) "_law_call" (spHelp n) [] := by
  refine cal_of F hm b scLCall (fun vs H Q E h => ?_) (fun cdv A outer s H vs Q E hr h => ?_)
  · obtain ⟨p, r, sc, B, e, S, kd, rfl, _⟩ := h
    rfl
  obtain ⟨p, r, sc, B, e, S, kd, rfl, hen, hkd, d0, hS, hSl, hB, q⟩ := h
  have hP := pow_pos4 e
  have hbig := big
  have hu := hu_of hr
  have hu64 := hr.units
  rw [p4n] at hB q
  refine ⟨_, (pss_cons (ps_setLc (i := 4) (own := [("row", 10)]) (g := gName 10) (tt := (tTest (tOp rEq (tOp (rIxT K) (tVar 10) (tC (.int 2))) (tVar 2)))) (te := (tVar 10)) rfl scLCall.nd rfl rfl (sw_true rfl rfl rfl (by decide +kernel)) (pi_list (pe_c0 c_law_globals hr (by omega) rfl)) (blkOk_by (own := [("row", 10)]) (N := ["d", "scope", "kind", "depth", "rows", "name", "kinds", "other", "term", "one", "row"]) (sc := defScope sLCall) (by decide +kernel)) (fun _ _ _ _ _ => (pg_name (i := 10) scLCall.nd rfl (Or.inl rfl))) (fun _ _ _ _ _ => pts_one (pt_cmpR op_eq (pe_ix ix_tup (pv 10) pe_int (fun _ _ => rfl)) (pv 2) (nomark _))) (fun _ _ _ _ _ => (pv 10)))
    (pss_cons (ps_if (pt_cmpR (op_eqD hu64) (pv 4) (pe_lst pa_nil) (nomark _))
      (pss_one (ps_ret (C8.pe_c c_law_leaf hr (by omega) rfl (pa_cons (pv 0) (pa_cons (pv 1) (pa_cons (pv 2) pa_nil))))))
      pss_nil)
    (pss_cons (ps_asg (pe_ix ix_list (pv 4) (pe_op op_mod (C8.pe_c c_law_take hr (by omega) rfl (pa_cons (pv 0) pa_nil)) (pe_callB call_len_seq rfl T.zlen PySem.boot_len (pa_cons (pv 4) pa_nil))) (fun _ _ => rfl)) (pg_tup rfl (pgs_cons (pg_name (i := 5) scLCall.nd rfl (Or.inl rfl)) (pgs_cons (pg_name (i := 6) scLCall.nd rfl (Or.inl rfl)) (pgs_cons (pg_name (i := 7) scLCall.nd rfl (Or.inl rfl)) pgs_nil)))))
    (pss_cons (ps_set (i := 8) scLCall.nd rfl (Or.inl rfl) (pe_tup (pa_cons pe_str (pa_cons (pv 5) pa_nil))))
    (pss_cons (ps_for PassesOwn.never rfl (pi_list (pv 6)) (pg_name (i := 9) scLCall.nd rfl (Or.inl rfl))
      (pss_one (ps_set (i := 8) scLCall.nd rfl (Or.inl rfl) (pe_tup (pa_cons pe_str (pa_cons (pv 8) (pa_cons (C8.pe_c c_law_term hr (by omega) rfl (pa_cons (pv 0) (pa_cons (pv 1) (pa_cons (pv 9) (pa_cons (pe_op op_sub (pv 3) pe_int) pa_nil))))) pa_nil)))))))
    (pss_one (ps_ret (pv 8)))))))), ?_⟩
  refine ⟨rfl, fun L xs H1 s1 hL eL aL0 => ?_⟩
  have aL := aL0.here
  have hxl := ats_len aL
  rw [List.length_map] at hxl
  have hgl : glob.length = 7 := rfl
  refine ⟨L, rfl, ⟨_, SqL.of eL⟩, fun D hD => ?_⟩
  have nD : ¬ Ex H1 D := fun z => z hD
  refine lc_list (a := L) (xs := xs) (fun i G => Same H1 G ∧ ∃ (ys : List V) (rs : List GRow), G D = some (.lst ys) ∧ Dd.Ats (Ex H1) G (rs.map rowG) ys ∧ rs.length ≤ i ∧ ∀ x ∈ rs, x ∈ glob) ⟨same_new hD _, [], [], upd_same, rfl, Nat.le_refl _, fun x h => absurd h List.not_mem_nil⟩ (fun i G hi ⟨h, _⟩ => SqL.of (h _ _ eL)) ?_ ?_
  · rintro i x G hx ⟨h1, ys, rs, h2, h3, h4, h5⟩
    obtain ⟨kk, hk, hkx⟩ := ats_get aL hx
    rw [List.getElem?_map] at hk
    cases hq : glob[i]? with
    | none => rw [hq] at hk; cases hk
    | some g =>
      rw [hq] at hk
      cases hk
      have hgm := List.mem_of_getElem? hq
      have hil : i < glob.length := (List.getElem?_eq_some_iff.mp hq).1
      have hyl := ats_len h3
      rw [List.length_map] at hyl
      obtain ⟨t, xs3, rfl, ht, x0, ys0, rfl, h0, x1, ys1, rfl, h1', x2, ys2, rfl, h2', hn⟩ := id hkx
      obtain ⟨rfl, _⟩ := (show x2 = .str g.2.2 ∧ _ from h2')
      refine ⟨rfl, ?_⟩
      refine ⟨_, rfl, t, _, 2, _, rfl, rfl, SqT.of (h1 _ _ ht), at2 _ _ _ _, _, rfl, rfl, _, rfl, ?_⟩
      show if decide (V.str g.2.2 = V.str kd) = true then _ else _
      rcases Bool.eq_false_or_eq_true (decide (V.str g.2.2 = V.str kd)) with c | c
      · rw [c]
        refine iteT ?_
        have fD : Fr (Ex H1) G (upd G D (.lst (ys ++ [.ref t]))) := fr_list h2 nD
        refine ⟨_, rfl, ys, h2, szl (by omega), same_upd hD h1 _, ys ++ [.ref t], rs ++ [g], upd_same, ?_, by rw [List.length_append]; show _ + 1 ≤ _; omega, fun y hy => ?_⟩
        · rw [List.map_append]
          exact ats_app (h3.keep fD) (ats_one ((hkx.keep (fr_same h1)).keep fD))
        · rcases List.mem_append.mp hy with e' | e'
          · exact h5 y e'
          · rw [List.mem_singleton.mp e']; exact hgm
      · rw [c]
        refine iteF ?_
        exact ⟨h1, ys, rs, h2, h3, by omega, h5⟩
  rintro G ⟨sG, ys, rs, eD, aD, hrl, hrg⟩
  rw [hxl] at hrl
  have hyl := ats_len aD
  rw [List.length_map] at hyl
  refine ⟨_, rfl, by show 0 ≤ sizeLine; decide, fun l0 hl0 => ?_⟩
  have s2 := same_new hl0 (.lst [])
  have e2 : upd G l0 (.lst []) l0 = some (.lst []) := upd_same
  have eD2 := s2 _ _ eD
  have aD2 := aD.keep (fr_same s2)
  generalize upd G l0 (.lst []) = G2 at s2 e2 eD2 aD2 ⊢
  have sA := sameT s1 (sameT sG s2)
  have d2 := d0.same sA
  have hS2 := hS.same sA
  refine ⟨_, _, .lst (SqL.of eD2) (rows_dp aD2), .lst (SqL.of e2) .nil, rows_shaped hrg, (by decide +kernel), _, rfl, ?_⟩
  show if PyData.eqv (.list (rs.map rowP)) (.list []) = true then _ else _
  rw [rows_nil]
  by_cases c : rs = []
  · rw [decide_eq_true c]
    refine iteT ?_
    refine ⟨_, rfl, _, rfl, _, rfl, p, r, sc, _, S, kd, rfl, by decide, fun h => absurd h (by decide), d2, hS2, by omega, by omega, fun v k H3 kk dd aa gg => q v k H3 ((Keep.same sA).trans kk) (dd.more (by omega)) aa (gg.mono (by omega) (by omega) fun s h => h)⟩
  rw [decide_eq_false c]
  refine iteF ?_
  have hpos : 0 < rs.length := List.length_pos_iff.mpr c
  refine ⟨_, rfl, _, rfl, p, r, _, rfl, d2, fun n3 H3 n30 n31 k3 d3 => ?_⟩
  have eD3 := k3 _ _ (d2.ne_list eD2) eD2
  have aD3 := aD2.keep (fr_keep k3 d2)
  have m0 := Int.emod_nonneg n3 (b := ((ys.length : Nat) : Int)) (by omega)
  have m1 := Int.emod_lt_of_pos n3 (b := ((ys.length : Nat) : Int)) (by omega)
  obtain ⟨x, hx⟩ : ∃ x, ys[(n3 % ((ys.length : Nat) : Int)).toNat]? = some x := ⟨_, List.getElem?_eq_getElem (by omega)⟩
  have hxi : atI ys (n3 % ((ys.length : Nat) : Int)) = some x := by
    have z := atI_nat hx
    rwa [Int.toNat_of_nonneg m0] at z
  obtain ⟨kk, hk, hkx⟩ := ats_get aD3 hx
  rw [List.getElem?_map] at hk
  cases hq : rs[(n3 % ((ys.length : Nat) : Int)).toNat]? with
  | none => rw [hq] at hk; cases hk
  | some g =>
    rw [hq] at hk
    cases hk
    have hgm := hrg g (List.mem_of_getElem? hq)
    obtain ⟨ok1, ok2, ok3, ok4⟩ := glob_ok g hgm
    obtain ⟨t, xs3, rfl, ht, x0, ys0, rfl, h0, x1, ys1, rfl, h1', x2, ys2, rfl, h2', hn⟩ := id hkx
    cases (show ys2 = [] from hn)
    obtain ⟨rfl, _⟩ := (show x0 = .str g.1 ∧ _ from h0)
    obtain ⟨rfl, _⟩ := (show x2 = .str g.2.2 ∧ _ from h2')
    obtain ⟨lk, zs, rfl, _, hlk, hzs⟩ := h1'
    obtain ⟨rfl, _⟩ := ats_strs_eq hzs
    have hS3 := hS2.keep k3 d2
    refine ⟨_, rfl, D, _, rfl, .inl (SqL.of eD3), _, _, rfl, rfl, by omega, D, _, _, _, rfl, rfl, SqL.of eD3, hxi, t, _, rfl, SqT.of ht, rfl, _, _, rfl, _, _, rfl, _, _, rfl, rfl, ?_⟩
    refine ⟨_, rfl, by show 2 ≤ sizeLine; decide, fun t4 ht4 => ?_⟩
    have s4 := same_new ht4 (.tup [.str "var", .str g.1])
    have e4 : (Dd.tup [.str "var", .str g.1]).At F0 (upd H3 t4 (.tup [.str "var", .str g.1])) (.ref t4) := at_tup upd_same (ats_cons (at_str' (by decide +kernel)) (ats_cons (at_str' (globs_ok g.1 ok1).len) ats_nil))
    have d4 := d3.same s4
    have hS4 := hS3.same s4
    have hlk4 := s4 _ _ hlk
    have kk4 := ((Keep.same sA).trans k3).trans (Keep.same s4)
    generalize upd H3 t4 (.tup [.str "var", .str g.1]) = H4 at e4 d4 hS4 hlk4 kk4 ⊢
    have nlk : lk ≠ p := d4.ne_list hlk4
    have hgz0 : Gz (3 * e + 2) 3 (sn S) (.tup [.str "var", .str g.1]) := (gz_var (globs_ok g.1 ok1).1 (.inr ok1)).mono (by omega) (Nat.le_refl _) fun s h => h
    refine ⟨_, rfl, lk, rfl, ⟨_, SqL.of hlk4⟩, for_list (a := lk) (xs := g.2.1.map V.str)
      (fun i σ G' => ∃ (v8 : V) (g8 : Dd) (v9 : Option V), σ = [some (.ref p), some (.ref sc), some (.str kd), some (.int ((e + 1 : Nat) : Int)), some (.ref D), some (.str g.1), some (.ref lk), some (.str g.2.2), some v8, v9, none] ∧ Keep p H4 G' ∧ DAt G' p r (B + 1 + i * (40 * 4 ^ e - 20)) ∧ g8.At F0 G' v8 ∧ Gz (3 * e + 2 + i) (3 + i * (60 * 4 ^ e - 28)) (sn S) g8)
      ⟨_, _, _, rfl, Keep.refl _ _, d4.more (by omega), e4, hgz0.mono (by omega) (by omega) fun s h => h⟩ (fun i σ G' _ ⟨_, _, _, _, h, _⟩ => SqL.of (h _ _ nlk hlk4)) ?_ ?_⟩
    · rintro i x σ G' hxi' ⟨v8, g8, v9, rfl, kG, dG, a8, gz8⟩
      rw [List.getElem?_map] at hxi'
      obtain ⟨z, hzi, rfl⟩ := Option.map_eq_some_iff.mp hxi'
      have hil : i < g.2.1.length := (List.getElem?_eq_some_iff.mp hzi).1
      have hic : i * (40 * 4 ^ e - 20) ≤ 2 * (40 * 4 ^ e - 20) := Nat.mul_le_mul_right _ (by omega)
      have hic1 : (i + 1) * (40 * 4 ^ e - 20) = i * (40 * 4 ^ e - 20) + (40 * 4 ^ e - 20) := Nat.succ_mul _ _
      have hic2 : (i + 1) * (60 * 4 ^ e - 28) = i * (60 * 4 ^ e - 28) + (60 * 4 ^ e - 28) := Nat.succ_mul _ _
      refine ⟨_, rfl, _, rfl, _, rfl, _, rfl, _, rfl, _, _, rfl, rfl, p, r, sc, _, e, S, z, ed4 _ _ _ _, ok3 z (List.mem_of_getElem? hzi), hen, dG, hS4.keep kG d4, by omega, by omega, fun v1 g1 G2 k2 d2 a2 hg => ⟨by show 3 ≤ sizeLine; decide, fun u1 hu1 => ?_⟩⟩
      have s5 := same_new hu1 (.tup [.str "app", v8, v1])
      have f5 := fr_same (B := F0) s5
      refine ⟨_, .tup [.str "app", g8, g1], _, rfl, (kG.trans k2).trans (Keep.same s5), (d2.same s5).more (by omega), at_tup upd_same (ats_cons (at_str' (by decide +kernel)) (ats_cons ((a8.keep (fr_keep k2 dG)).keep f5) (ats_cons (a2.keep f5) ats_nil))), ?_⟩
      exact (gz_app gz8 (hg.mono (by omega) (Nat.le_refl _) fun s h => h)).mono (by omega) (by omega) fun s h => h
    rintro σ G' ⟨v8, g8, v9, rfl, kG, dG, a8, gz8⟩
    rw [List.length_map] at dG gz8
    have hic : g.2.1.length * (40 * 4 ^ e - 20) ≤ 3 * (40 * 4 ^ e - 20) := Nat.mul_le_mul_right _ ok2
    have hic2 : g.2.1.length * (60 * 4 ^ e - 28) ≤ 3 * (60 * 4 ^ e - 28) := Nat.mul_le_mul_right _ ok2
    exact ⟨_, rfl, q v8 g8 G' (kk4.trans kG) (dG.more (by omega)) a8 (gz8.mono (by omega) (by omega) fun s h => h)⟩
end
end Toy

set_option Elab.async false
set_option linter.all false
set_option maxRecDepth 100000
set_option maxHeartbeats 4000000
/-! Part G2: typed terms. -/
namespace Toy
open PySem L2
open PyProof.Rows (envOfC)
def sig7 : List Str := ["+", "-", "*", "div", "mod", "+", "-"]
theorem sig7_ok : ∀ z ∈ sig7, z ∈ signs := by decide +kernel
def sig3 : List Str := ["==", "<", "<="]
theorem sig3_ok : ∀ z ∈ sig3, z ∈ signs := by decide +kernel
def kin3 : List Str := ["I", "L", "F"]
theorem kin3_ok : ∀ z ∈ kin3, z.length ≤ 1000 := by decide +kernel
section
variable {P : Program} {w : World} {K : PySem.W.Frag} {mg : Str → Option Value} {base : Heap}
def spOwnT (n : Nat) : Sp := fun vs H Q _ => ∃ (p r sc : Addr) (B e : Nat) (S : List (Str × Str)) (kd : Str), vs = [.ref p, .ref sc, .str kd, .int ((e + 1 : Nat) : Int)] ∧ e < n ∧ kd.length ≤ 1000 ∧ DAt H p r B ∧ ScAt H sc S ∧ S.length + 3 * (e + 1) ≤ 900 ∧ B + 40 * 4 ^ (e + 1) ≤ 1000000003 ∧
  ∀ (v : V) (k : Dd) (H' : Hp), Keep p H H' → DAt H' p r (B + (40 * 4 ^ (e + 1) - 23)) → k.At F0 H' v → Gz (3 * (e + 1) + 2) (60 * 4 ^ (e + 1) - 30) (sn S) k → Q v H'
abbrev sLOwn2 : Stmt := topS 76
theorem scLOwn2 : FnScope ["d", "scope", "kind", "depth", "turn", "sign", "name"] ["d", "scope", "kind", "depth"] (defScope sLOwn2) := ⟨rfl, rfl, rfl, by decide +kernel, rfl, by decide +kernel, by decide +kernel⟩
theorem c_own2 {f : Addr} {fd : FuncData} {n : Nat} (c_law_take : C8.Cal P w K mg base 1 "_law_take" spTake []) (c_law_fresh : C8.Cal P w K mg base 1 "_law_fresh" spFresh []) (c_law_term : C8.Cal P w K mg base (3 * n + 5) "_law_term" (spTerm n) []) (c_law_call : C8.Cal P w K mg base (3 * n + 6) "_law_call" (spHelp n) []) (F : Fun K "_law_own" "_law_own" sLOwn2 f fd) (b : Binds K fd ["d", "scope", "kind", "depth"] []) (hm : mg "_law_own" = some (.ref f)) : C8.Cal P w K mg base (3 * n + 7) "_law_own" (spOwnT n) [] := by
  refine cal_of F hm b scLOwn2 (fun vs H Q E h => ?_) (fun cdv A outer s H vs Q E hr h => ?_)
  · obtain ⟨p, r, sc, B, e, S, kd, rfl, _⟩ := h
    rfl
  obtain ⟨p, r, sc, B, e, S, kd, rfl, hen, hkd, d0, hS, hSl, hB, q⟩ := h
  have hP := pow_pos4 e
  have hbig := big
  rw [p4n] at hB q
  refine ⟨_, (pss_cons (ps_set (i := 4) scLOwn2.nd rfl (Or.inl rfl) (pe_op op_mod (C8.pe_c c_law_take hr (by omega) rfl (pa_cons (pv 0) pa_nil)) pe_int))
    (pss_cons (ps_if (PW.pt (pw_and (pt_cmpR op_eq (pv 2) pe_str (nomark _)) (pw_and1 (pt_cmpR op_lt (pv 4) pe_int (nomark _)))))
      (pss_cons (ps_set (i := 5) scLOwn2.nd rfl (Or.inl rfl) (pe_ix ix_list (pe_lst (pa_strs (zs := ["+", "-", "*", "div", "mod", "+", "-"]) rfl)) (pe_op op_mod (C8.pe_c c_law_take hr (by omega) rfl (pa_cons (pv 0) pa_nil)) pe_int) (fun _ _ => rfl)))
    (pss_one (ps_ret (pe_tup (pa_cons pe_str (pa_cons (pv 5) (pa_cons (C8.pe_c c_law_term hr (by omega) rfl (pa_cons (pv 0) (pa_cons (pv 1) (pa_cons pe_str (pa_cons (pe_op op_sub (pv 3) pe_int) pa_nil))))) (pa_cons (C8.pe_c c_law_term hr (by omega) rfl (pa_cons (pv 0) (pa_cons (pv 1) (pa_cons pe_str (pa_cons (pe_op op_sub (pv 3) pe_int) pa_nil))))) pa_nil))))))))
      pss_nil)
    (pss_cons (ps_if (PW.pt (pw_and (pt_cmpR op_eq (pv 2) pe_str (nomark _)) (pw_and1 (pt_cmpR op_lt (pv 4) pe_int (nomark _)))))
      (pss_cons (ps_set (i := 5) scLOwn2.nd rfl (Or.inl rfl) (pe_ix ix_list (pe_lst (pa_strs (zs := ["==", "<", "<="]) rfl)) (pe_op op_mod (C8.pe_c c_law_take hr (by omega) rfl (pa_cons (pv 0) pa_nil)) pe_int) (fun _ _ => rfl)))
    (pss_one (ps_ret (pe_tup (pa_cons pe_str (pa_cons (pv 5) (pa_cons (C8.pe_c c_law_term hr (by omega) rfl (pa_cons (pv 0) (pa_cons (pv 1) (pa_cons pe_str (pa_cons (pe_op op_sub (pv 3) pe_int) pa_nil))))) (pa_cons (C8.pe_c c_law_term hr (by omega) rfl (pa_cons (pv 0) (pa_cons (pv 1) (pa_cons pe_str (pa_cons (pe_op op_sub (pv 3) pe_int) pa_nil))))) pa_nil))))))))
      pss_nil)
    (pss_cons (ps_if (PW.pt (pw_and (pt_cmpR op_eq (pv 2) pe_str (nomark _)) (pw_and1 (pt_cmpR op_eq (pv 4) pe_int (nomark _)))))
      (pss_one (ps_ret (pe_tup (pa_cons pe_str (pa_cons pe_int (pa_cons (pe_tup (pa_cons (C8.pe_c c_law_term hr (by omega) rfl (pa_cons (pv 0) (pa_cons (pv 1) (pa_cons pe_str (pa_cons (pe_op op_sub (pv 3) pe_int) pa_nil))))) (pa_cons (C8.pe_c c_law_term hr (by omega) rfl (pa_cons (pv 0) (pa_cons (pv 1) (pa_cons pe_str (pa_cons (pe_op op_sub (pv 3) pe_int) pa_nil))))) pa_nil))) pa_nil))))))
      pss_nil)
    (pss_cons (ps_if (pt_cmpR op_eq (pv 2) pe_str (nomark _))
      (pss_cons (ps_if (pt_cmpR op_eq (pv 4) pe_int (nomark _))
      (pss_one (ps_ret (pe_tup (pa_cons pe_str (pa_cons (pe_tup (pa_cons pe_str (pa_cons pe_str pa_nil))) (pa_cons (C8.pe_c c_law_term hr (by omega) rfl (pa_cons (pv 0) (pa_cons (pv 1) (pa_cons pe_str (pa_cons (pe_op op_sub (pv 3) pe_int) pa_nil))))) pa_nil))))))
      pss_nil)
    (pss_cons (ps_set (i := 6) scLOwn2.nd rfl (Or.inl rfl) (C8.pe_c c_law_fresh hr (by omega) rfl (pa_cons (pv 0) pa_nil)))
    (pss_one (ps_ret (pe_tup (pa_cons pe_str (pa_cons (pv 6) (pa_cons (C8.pe_c c_law_term hr (by omega) rfl (pa_cons (pv 0) (pa_cons (pe_op op_cat (pv 1) (pe_lst (pa_cons (pe_tup (pa_cons (pv 6) (pa_cons pe_str pa_nil))) pa_nil))) (pa_cons pe_str (pa_cons (pe_op op_sub (pv 3) pe_int) pa_nil))))) pa_nil))))))))
      pss_nil)
    (pss_one (ps_ret (C8.pe_c c_law_call hr (by omega) rfl (pa_cons (pv 0) (pa_cons (pv 1) (pa_cons (pv 2) (pa_cons (pv 3) pa_nil)))))))))))), ?_⟩
  refine ⟨_, rfl, p, r, _, rfl, d0, fun n1 H1 n10 n11 k1 d1 => ?_⟩
  have m10 := Int.emod_nonneg n1 (show (3 : Int) ≠ 0 by decide)
  have m11 := Int.emod_lt_of_pos n1 (show (0 : Int) < 3 by decide)
  refine ⟨_, _, rfl, rfl, (show (0 : Int) < 3 by decide), ?_⟩
  show gName 4 (V.int (n1 % 3)) _ _ _
  generalize n1 % 3 = u at *
  have hS1 := hS.keep k1 d0
  -- two numbers
  have pr : ∀ (sg : Str) (v2 v3 : V) (g2 g3 : Dd) (H2 H3 : Hp) (B2 B3 : Nat), sg ∈ signs → Keep p H1 H2 → DAt H2 p r B2 → g2.At F0 H2 v2 → Gz (3 * e + 2) (60 * 4 ^ e - 30) (sn S) g2 → Keep p H2 H3 → DAt H3 p r B3 → B3 ≤ B + 2 * (40 * 4 ^ e - 20) + 2 → g3.At F0 H3 v3 → Gz (3 * e + 2) (60 * 4 ^ e - 30) (sn S) g3 → ∀ t, H3 t = none → Q (.ref t) (upd H3 t (.tup [.str "prim", .str sg, v2, v3])) := fun sg v2 v3 g2 g3 H2 H3 B2 B3 hsg k2 d2 a2 h2 k3 d3 hB3 a3 h3 t ht => by
    have s4 := same_new ht (.tup [.str "prim", .str sg, v2, v3])
    have f4 := fr_same (B := F0) s4
    exact q _ (.tup [.str "prim", .str sg, g2, g3]) _ (((k1.trans k2).trans k3).trans (Keep.same s4)) ((d3.same s4).more (by omega)) (at_tup upd_same (ats_cons (at_str' (by decide +kernel)) (ats_cons (at_str' (signs_ok sg hsg)) (ats_cons ((a2.keep (fr_keep k3 d2)).keep f4) (ats_cons (a3.keep f4) ats_nil))))) ((gz_prim hsg h2 h3).mono (by omega) (by omega) fun s h => h)
  refine ⟨_, rfl, rfl, _, rfl, ?_⟩
  by_cases c1 : kd = "I"
  · have rest : ¬ u < 2 → True := fun _ => trivial
    subst c1
    show if decide (V.str "I" = V.str "I") = true then _ else _
    rw [wtt]
    refine iteT ?_
    refine ⟨_, rfl, _, _, rfl, rfl, _, rfl, ?_⟩
    show if decide (u < 2) = true then _ else _
    rcases Bool.eq_false_or_eq_true (decide (u < 2)) with c | c
    · rw [c]
      refine iteT ?_
      refine ⟨by show 7 ≤ sizeLine; decide, fun lz hlz => ?_⟩
      have s2 := same_new hlz (.lst (sig7.map V.str))
      have e2 : upd H1 lz (.lst (sig7.map V.str)) lz = some (.lst (sig7.map V.str)) := upd_same
      have d2 := d1.same s2
      have hS2 := hS1.same s2
      refine ⟨_, rfl, p, r, _, rfl, d2, fun n3 H3 n30 n31 k3 d3 => ?_⟩
      obtain ⟨z, hz, ez⟩ := at_str (zs := sig7) (i := n3 % 7) (Int.emod_nonneg _ (by decide)) (by show n3 % 7 < 7; exact Int.emod_lt_of_pos _ (by decide))
      refine ⟨_, _, rfl, rfl, (show (0 : Int) < 7 by decide), lz, _, _, _, rfl, rfl, SqL.of (k3 _ _ (d2.ne_list e2) e2), ez, ?_⟩
      have hS3 := hS2.keep k3 d2
      have kk3 := (Keep.same s2).trans k3
      refine ⟨_, rfl, _, rfl, _, rfl, _, rfl, _, _, rfl, rfl, p, r, sc, _, e, S, "I", ed4 _ _ _ _, by decide +kernel, hen, d3, hS3, by omega, by omega, fun v4 g4 H4 k4 d4 a4 h4 => ?_⟩
      have hS4 := hS3.keep k4 d3
      refine ⟨_, rfl, _, rfl, _, rfl, _, _, rfl, rfl, p, r, sc, _, e, S, "I", ed4 _ _ _ _, by decide +kernel, hen, d4, hS4, by omega, by omega, fun v5 g5 H5 k5 d5 a5 h5 => ⟨by show 4 ≤ sizeLine; decide, fun t ht => ?_⟩⟩
      exact pr z v4 v5 g4 g5 H4 H5 _ _ (sig7_ok z hz) (kk3.trans k4) d4 a4 h4 k5 d5 (by omega) a5 h5 t ht
    rw [c]
    refine iteF ?_
    refine ⟨_, rfl, rfl, _, rfl, ?_⟩
    show if decide (V.str "I" = V.str "B") = true then _ else _
    rw [wne (by decide +kernel)]
    refine iteF (iteF ?_)
    refine ⟨_, rfl, rfl, _, rfl, ?_⟩
    show if decide (V.str "I" = V.str "L") = true then _ else _
    rw [wne (by decide +kernel)]
    refine iteF (iteF ?_)
    refine ⟨_, rfl, rfl, _, rfl, ?_⟩
    show if decide (V.str "I" = V.str "F") = true then _ else _
    rw [wne (by decide +kernel)]
    refine iteF ?_
    exact ⟨_, rfl, _, rfl, _, rfl, _, rfl, p, r, sc, _, e, S, "I", rfl, hen, hkd, d1, hS1, by omega, by rw [p4n]; omega, fun v k H2 kk dd aa gg => q v k H2 (k1.trans kk) (dd.more (by rw [p4n]; omega)) aa (by rw [p4n] at gg; exact gg)⟩
  show if decide (V.str kd = V.str "I") = true then _ else _
  rw [wne c1]
  refine iteF (iteF ?_)
  refine ⟨_, rfl, rfl, _, rfl, ?_⟩
  by_cases c2 : kd = "B"
  · subst c2
    show if decide (V.str "B" = V.str "B") = true then _ else _
    rw [wtt]
    refine iteT ?_
    refine ⟨_, rfl, _, _, rfl, rfl, _, rfl, ?_⟩
    show if decide (u < 2) = true then _ else _
    rcases Bool.eq_false_or_eq_true (decide (u < 2)) with c | c
    · rw [c]
      refine iteT ?_
      refine ⟨by show 3 ≤ sizeLine; decide, fun lz hlz => ?_⟩
      have s2 := same_new hlz (.lst (sig3.map V.str))
      have e2 : upd H1 lz (.lst (sig3.map V.str)) lz = some (.lst (sig3.map V.str)) := upd_same
      have d2 := d1.same s2
      have hS2 := hS1.same s2
      refine ⟨_, rfl, p, r, _, rfl, d2, fun n3 H3 n30 n31 k3 d3 => ?_⟩
      obtain ⟨z, hz, ez⟩ := at_str (zs := sig3) (i := n3 % 3) (Int.emod_nonneg _ (by decide)) (by show n3 % 3 < 3; exact Int.emod_lt_of_pos _ (by decide))
      refine ⟨_, _, rfl, rfl, (show (0 : Int) < 3 by decide), lz, _, _, _, rfl, rfl, SqL.of (k3 _ _ (d2.ne_list e2) e2), ez, ?_⟩
      have hS3 := hS2.keep k3 d2
      have kk3 := (Keep.same s2).trans k3
      refine ⟨_, rfl, _, rfl, _, rfl, _, rfl, _, _, rfl, rfl, p, r, sc, _, e, S, "I", ed4 _ _ _ _, by decide +kernel, hen, d3, hS3, by omega, by omega, fun v4 g4 H4 k4 d4 a4 h4 => ?_⟩
      have hS4 := hS3.keep k4 d3
      refine ⟨_, rfl, _, rfl, _, rfl, _, _, rfl, rfl, p, r, sc, _, e, S, "I", ed4 _ _ _ _, by decide +kernel, hen, d4, hS4, by omega, by omega, fun v5 g5 H5 k5 d5 a5 h5 => ⟨by show 4 ≤ sizeLine; decide, fun t ht => ?_⟩⟩
      exact pr z v4 v5 g4 g5 H4 H5 _ _ (sig3_ok z hz) (kk3.trans k4) d4 a4 h4 k5 d5 (by omega) a5 h5 t ht
    rw [c]
    refine iteF ?_
    refine ⟨_, rfl, rfl, _, rfl, ?_⟩
    show if decide (V.str "B" = V.str "L") = true then _ else _
    rw [wne (by decide +kernel)]
    refine iteF (iteF ?_)
    refine ⟨_, rfl, rfl, _, rfl, ?_⟩
    show if decide (V.str "B" = V.str "F") = true then _ else _
    rw [wne (by decide +kernel)]
    refine iteF ?_
    exact ⟨_, rfl, _, rfl, _, rfl, _, rfl, p, r, sc, _, e, S, "B", rfl, hen, hkd, d1, hS1, by omega, by rw [p4n]; omega, fun v k H2 kk dd aa gg => q v k H2 (k1.trans kk) (dd.more (by rw [p4n]; omega)) aa (by rw [p4n] at gg; exact gg)⟩
  show if decide (V.str kd = V.str "B") = true then _ else _
  rw [wne c2]
  refine iteF (iteF ?_)
  refine ⟨_, rfl, rfl, _, rfl, ?_⟩
  by_cases c3 : kd = "L"
  · subst c3
    show if decide (V.str "L" = V.str "L") = true then _ else _
    rw [wtt]
    refine iteT ?_
    refine ⟨_, rfl, rfl, _, rfl, ?_⟩
    show if decide (V.int u = V.int 0) = true then _ else _
    rcases Bool.eq_false_or_eq_true (decide (V.int u = V.int 0)) with c | c
    · rw [c]
      refine iteT ?_
      refine ⟨_, rfl, _, rfl, _, rfl, _, _, rfl, rfl, p, r, sc, _, e, S, "I", ed4 _ _ _ _, by decide +kernel, hen, d1, hS1, by omega, by omega, fun v4 g4 H4 k4 d4 a4 h4 => ?_⟩
      have hS4 := hS1.keep k4 d1
      refine ⟨_, rfl, _, rfl, _, rfl, _, _, rfl, rfl, p, r, sc, _, e, S, "L", ed4 _ _ _ _, by decide +kernel, hen, d4, hS4, by omega, by omega, fun v5 g5 H5 k5 d5 a5 h5 => ⟨by show 2 ≤ sizeLine; decide, fun t ht => ⟨by show 3 ≤ sizeLine; decide, fun t2 ht2 => ?_⟩⟩⟩
      have s6 := same_new ht (.tup [v4, v5])
      have s7 := same_new ht2 (.tup [.str "con", .int 1, .ref t])
      have s67 := sameT s6 s7
      have f67 := fr_same (B := F0) s67
      refine q _ (.tup [.str "con", .int 1, .tup [g4, g5]]) _ (((k1.trans k4).trans k5).trans (Keep.same s67)) ((d5.same s67).more (by omega)) (at_tup upd_same (ats_cons (at_str' (by decide +kernel)) (ats_cons at_int' (ats_cons (at_tup (s7 _ _ upd_same) (ats_cons ((a4.keep (fr_keep k5 d4)).keep f67) (ats_cons (a5.keep f67) ats_nil))) ats_nil)))) ?_
      exact (gz_con (n := 3 * e + 2) (z := 60 * 4 ^ e - 30) (c := 2) (i := 1) (l := [g4, g5]) (by omega) (by omega) (Nat.le_refl _) fun k h => by
        simp only [List.mem_cons, List.not_mem_nil, or_false] at h
        rcases h with rfl | rfl
        · exact h4
        · exact h5).mono (by omega) (by omega) fun s h => h
    rw [c]
    refine iteF ?_
    refine ⟨_, rfl, rfl, _, rfl, ?_⟩
    show if decide (V.str "L" = V.str "F") = true then _ else _
    rw [wne (by decide +kernel)]
    refine iteF ?_
    exact ⟨_, rfl, _, rfl, _, rfl, _, rfl, p, r, sc, _, e, S, "L", rfl, hen, hkd, d1, hS1, by omega, by rw [p4n]; omega, fun v k H2 kk dd aa gg => q v k H2 (k1.trans kk) (dd.more (by rw [p4n]; omega)) aa (by rw [p4n] at gg; exact gg)⟩
  show if decide (V.str kd = V.str "L") = true then _ else _
  rw [wne c3]
  refine iteF (iteF ?_)
  refine ⟨_, rfl, rfl, _, rfl, ?_⟩
  by_cases c4 : kd = "F"
  · subst c4
    show if decide (V.str "F" = V.str "F") = true then _ else _
    rw [wtt]
    refine iteT ?_
    refine ⟨_, rfl, rfl, _, rfl, ?_⟩
    show if decide (V.int u = V.int 0) = true then _ else _
    rcases Bool.eq_false_or_eq_true (decide (V.int u = V.int 0)) with c | c
    · rw [c]
      refine iteT ?_
      refine ⟨by show 2 ≤ sizeLine; decide, fun t1 ht1 => ?_⟩
      have s2 := same_new ht1 (.tup [.str "var", .str "g"])
      have e2 : (Dd.tup [.str "var", .str "g"]).At F0 (upd H1 t1 (.tup [.str "var", .str "g"])) (.ref t1) := at_tup upd_same (ats_cons (at_str' (by decide +kernel)) (ats_cons (at_str' (by decide +kernel)) ats_nil))
      have d2 := d1.same s2
      have hS2 := hS1.same s2
      have kk2 := k1.trans (Keep.same s2)
      generalize upd H1 t1 (.tup [.str "var", .str "g"]) = H2 at e2 d2 hS2 kk2 ⊢
      refine ⟨_, rfl, _, rfl, _, rfl, _, _, rfl, rfl, p, r, sc, _, e, S, "I", ed4 _ _ _ _, by decide +kernel, hen, d2, hS2, by omega, by omega, fun v4 g4 H4 k4 d4 a4 h4 => ⟨by show 3 ≤ sizeLine; decide, fun t ht => ?_⟩⟩
      have s6 := same_new ht (.tup [.str "app", .ref t1, v4])
      have f6 := fr_same (B := F0) s6
      have hg : ("g" : Str) ∈ globs := by decide +kernel
      exact q _ (.tup [.str "app", .tup [.str "var", .str "g"], g4]) _ ((kk2.trans k4).trans (Keep.same s6)) ((d4.same s6).more (by omega)) (at_tup upd_same (ats_cons (at_str' (by decide +kernel)) (ats_cons ((e2.keep (fr_keep k4 d2)).keep f6) (ats_cons (a4.keep f6) ats_nil)))) ((gz_app ((gz_var (U := sn S) (globs_ok "g" hg).1 (.inr hg)).mono (show 1 ≤ 3 * e + 2 by omega) (Nat.le_refl _) fun s h => h) h4).mono (by omega) (by omega) fun s h => h)
    rw [c]
    refine iteF ?_
    refine ⟨_, rfl, p, r, _, rfl, d1, by omega, fun x H2 hx k2 d2 => ?_⟩
    have hS2 := hS1.keep k2 d1
    obtain ⟨xs, hsc, hats⟩ := hS2.at'
    have hxl := ats_len hats
    rw [List.length_map] at hxl
    refine ⟨_, rfl, _, rfl, _, rfl, _, rfl, by show 2 ≤ sizeLine; decide, fun t ht => ⟨by show 1 ≤ sizeLine; decide, fun l1 hl1 => ?_⟩⟩
    have st := same_new ht (.tup [.str x, .str "I"])
    have sl := same_new hl1 (.lst [.ref t])
    refine ⟨sc, l1, xs, _, rfl, rfl, sl _ _ (st _ _ hsc), upd_same, by show xs.length + 1 ≤ _; omega, fun sc2 hsc2 => ?_⟩
    have s3 := same_new hsc2 (.lst (xs ++ [.ref t]))
    have sA := sameT st (sameT sl s3)
    have hS3 := sc_ext (sc := sc2) (t := t) (x := x) (kd := "I") hats hS.ok sA (s3 _ _ (sl _ _ upd_same)) upd_same hx (by decide +kernel)
    refine ⟨_, rfl, _, _, rfl, rfl, p, r, sc2, _, e, _, "I", ed4 _ _ _ _, by decide +kernel, hen, d2.same sA, hS3, by rw [List.length_append]; show _ + 1 + _ ≤ _; omega, by omega, fun v3 k3 H3 kk3 dd3 aa3 gg3 => ⟨by show 3 ≤ sizeLine; decide, fun t3 ht3 => ?_⟩⟩
    have s4 := same_new ht3 (.tup [.str "lam", .str x, v3])
    exact q _ (.tup [.str "lam", .str x, k3]) _ ((((k1.trans k2).trans (Keep.same sA)).trans kk3).trans (Keep.same s4)) ((dd3.same s4).more (by omega)) (at_tup upd_same (ats_cons (at_str' (by decide +kernel)) (ats_cons (at_str' hx.len) (ats_cons (aa3.keep (fr_same s4)) ats_nil)))) ((gz_lam hx.1 (gg3.mono (Nat.le_refl _) (Nat.le_refl _) fun s h => sn_snoc h)).mono (by omega) (by omega) fun s h => h)
  show if decide (V.str kd = V.str "F") = true then _ else _
  rw [wne c4]
  refine iteF ?_
  exact ⟨_, rfl, _, rfl, _, rfl, _, rfl, p, r, sc, _, e, S, kd, rfl, hen, hkd, d1, hS1, by omega, by rw [p4n]; omega, fun v k H2 kk dd aa gg => q v k H2 (k1.trans kk) (dd.more (by rw [p4n]; omega)) aa (by rw [p4n] at gg; exact gg)⟩
abbrev sTerm : Stmt := topS 77
theorem scTerm : FnScope ["d", "scope", "kind", "depth", "turn", "name", "other", "first", "body"] ["d", "scope", "kind", "depth"] (defScope sTerm) := ⟨rfl, rfl, rfl, by decide +kernel, rfl, by decide +kernel, by decide +kernel⟩
theorem c_term1 {f : Addr} {fd : FuncData} {n : Nat} (T : TxtY mg) (c_law_take : C8.Cal P w K mg base 1 "_law_take" spTake []) (c_law_fresh : C8.Cal P w K mg base 1 "_law_fresh" spFresh []) (c_law_leaf : C8.Cal P w K mg base 4 "_law_leaf" (spLeaf 2) []) (c_law_let : C8.Cal P w K mg base (3 * n + 6) "_law_let" (spLet n) []) (c_law_case : C8.Cal P w K mg base (3 * n + 7) "_law_case" (spHelp n) []) (c_law_choice : C8.Cal P w K mg base (3 * n + 7) "_law_choice" (spHelp n) []) (c_law_own : C8.Cal P w K mg base (3 * n + 7) "_law_own" (spOwnT n) []) (c_law_term : C8.Cal P w K mg base (3 * n + 5) "_law_term" (spTerm n) [])
    (F : Fun K "_law_term" "_law_term" sTerm f fd) (b : Binds K fd ["d", "scope", "kind", "depth"] []) (hm : mg "_law_term" = some (.ref f)) : C8.Cal P w K mg base (3 * (n + 1) + 5) "_law_term" (spTerm (n + 1)) [] := by
  refine cal_of F hm b scTerm (fun vs H Q E h => ?_) (fun cdv A outer s H vs Q E hr h => ?_)
  · obtain ⟨p, r, sc, B, e, S, kd, rfl, _⟩ := h
    rfl
  obtain ⟨p, r, sc, B, e, S, kd, rfl, hkd, hen, d0, hS, hSl, hB, q⟩ := h
  have hP := pow_pos4 e
  have hbig := big
  have hu := hu_of hr
  refine ⟨_, (pss_cons (ps_if (PW.pt (pw_or (pt_cmpR op_le (pv 3) pe_int (nomark _)) (pw_or1 (pt_cmpR op_le (pe_dget hu (pv 0) pe_str (fun _ _ => rfl)) pe_int (nomark _)))))
      (pss_one (ps_ret (C8.pe_c c_law_leaf hr (by omega) rfl (pa_cons (pv 0) (pa_cons (pv 1) (pa_cons (pv 2) pa_nil))))))
      pss_nil)
    (pss_cons (ps_dput hu (pv 0) pe_str (pe_op op_sub (pe_dget hu (pv 0) pe_str (fun _ _ => rfl)) pe_int) rfl)
    (pss_cons (ps_set (i := 4) scTerm.nd rfl (Or.inl rfl) (pe_op op_mod (C8.pe_c c_law_take hr (by omega) rfl (pa_cons (pv 0) pa_nil)) pe_int))
    (pss_cons (ps_if (pt_cmpR op_lt (pv 4) pe_int (nomark _))
      (pss_one (ps_ret (C8.pe_c c_law_leaf hr (by omega) rfl (pa_cons (pv 0) (pa_cons (pv 1) (pa_cons (pv 2) pa_nil))))))
      pss_nil)
    (pss_cons (ps_if (pt_cmpR op_eq (pv 4) pe_int (nomark _))
      (pss_one (ps_ret (pe_tup (pa_cons pe_str (pa_cons (pe_op op_mod (C8.pe_c c_law_take hr (by omega) rfl (pa_cons (pv 0) pa_nil)) pe_int) (pa_cons (C8.pe_c c_law_term hr (by omega) rfl (pa_cons (pv 0) (pa_cons (pv 1) (pa_cons (pv 2) (pa_cons (pe_op op_sub (pv 3) pe_int) pa_nil))))) pa_nil))))))
      pss_nil)
    (pss_cons (ps_if (PW.pt (pw_or (pt_cmpR op_eq (pv 4) pe_int (nomark _)) (pw_or1 (pt_cmpR op_eq (pv 4) pe_int (nomark _)))))
      (pss_one (ps_ret (C8.pe_c c_law_let hr (by omega) rfl (pa_cons (pv 0) (pa_cons (pv 1) (pa_cons (pv 2) (pa_cons (pv 3) (pa_cons (pe_op op_add pe_int (pe_callTy call_int1 rfl T.zint boot_int (pa_cons (pe_cmpR op_eq (pe_op op_mod (C8.pe_c c_law_take hr (by omega) rfl (pa_cons (pv 0) pa_nil)) pe_int) pe_int (nomark _)) pa_nil))) pa_nil))))))))
      pss_nil)
    (pss_cons (ps_if (pt_cmpR op_eq (pv 4) pe_int (nomark _))
      (pss_cons (ps_set (i := 5) scTerm.nd rfl (Or.inl rfl) (C8.pe_c c_law_fresh hr (by omega) rfl (pa_cons (pv 0) pa_nil)))
    (pss_cons (ps_set (i := 6) scTerm.nd rfl (Or.inl rfl) (pe_ix ix_list (pe_lst (pa_strs (zs := ["I", "L", "F"]) rfl)) (pe_op op_mod (C8.pe_c c_law_take hr (by omega) rfl (pa_cons (pv 0) pa_nil)) pe_int) (fun _ _ => rfl)))
    (pss_cons (ps_set (i := 7) scTerm.nd rfl (Or.inl rfl) (C8.pe_c c_law_term hr (by omega) rfl (pa_cons (pv 0) (pa_cons (pv 1) (pa_cons (pv 6) (pa_cons (pe_op op_sub (pv 3) pe_int) pa_nil))))))
    (pss_one (ps_ret (pe_tup (pa_cons pe_str (pa_cons (pv 5) (pa_cons (pv 7) (pa_cons (C8.pe_c c_law_term hr (by omega) rfl (pa_cons (pv 0) (pa_cons (pe_op op_cat (pv 1) (pe_lst (pa_cons (pe_tup (pa_cons (pv 5) (pa_cons (pv 6) pa_nil))) pa_nil))) (pa_cons (pv 2) (pa_cons (pe_op op_sub (pv 3) pe_int) pa_nil))))) pa_nil))))))))))
      pss_nil)
    (pss_cons (ps_if (PW.pt (pw_or (pt_cmpR op_eq (pv 4) pe_int (nomark _)) (pw_or1 (pt_cmpR op_eq (pv 4) pe_int (nomark _)))))
      (pss_one (ps_ret (C8.pe_c c_law_case hr (by omega) rfl (pa_cons (pv 0) (pa_cons (pv 1) (pa_cons (pv 2) (pa_cons (pv 3) pa_nil)))))))
      pss_nil)
    (pss_cons (ps_if (pt_cmpR op_eq (pv 4) pe_int (nomark _))
      (pss_one (ps_ret (C8.pe_c c_law_choice hr (by omega) rfl (pa_cons (pv 0) (pa_cons (pv 1) (pa_cons (pv 2) (pa_cons (pv 3) pa_nil)))))))
      pss_nil)
    (pss_cons (ps_if (pt_cmpR op_eq (pv 4) pe_int (nomark _))
      (pss_cons (ps_set (i := 5) scTerm.nd rfl (Or.inl rfl) (C8.pe_c c_law_fresh hr (by omega) rfl (pa_cons (pv 0) pa_nil)))
    (pss_cons (ps_set (i := 8) scTerm.nd rfl (Or.inl rfl) (C8.pe_c c_law_term hr (by omega) rfl (pa_cons (pv 0) (pa_cons (pe_op op_cat (pv 1) (pe_lst (pa_cons (pe_tup (pa_cons (pv 5) (pa_cons pe_str pa_nil))) pa_nil))) (pa_cons (pv 2) (pa_cons (pe_op op_sub (pv 3) pe_int) pa_nil))))))
    (pss_one (ps_ret (pe_tup (pa_cons pe_str (pa_cons (pe_tup (pa_cons pe_str (pa_cons (pv 5) (pa_cons (pv 8) pa_nil)))) (pa_cons (C8.pe_c c_law_term hr (by omega) rfl (pa_cons (pv 0) (pa_cons (pv 1) (pa_cons pe_str (pa_cons (pe_op op_sub (pv 3) pe_int) pa_nil))))) pa_nil))))))))
      pss_nil)
    (pss_cons (ps_if (PW.pt (pw_and (pt_cmpR op_eq (pv 4) pe_int (nomark _)) (pw_and1 (pt_cmpR op_eq (pv 2) pe_str (nomark _)))))
      (pss_one (ps_ret (pe_tup (pa_cons pe_str (pa_cons (C8.pe_c c_law_term hr (by omega) rfl (pa_cons (pv 0) (pa_cons (pv 1) (pa_cons pe_str (pa_cons (pe_op op_sub (pv 3) pe_int) pa_nil))))) (pa_cons (C8.pe_c c_law_term hr (by omega) rfl (pa_cons (pv 0) (pa_cons (pv 1) (pa_cons pe_str (pa_cons (pe_op op_sub (pv 3) pe_int) pa_nil))))) pa_nil))))))
      pss_nil)
    (pss_one (ps_ret (C8.pe_c c_law_own hr (by omega) rfl (pa_cons (pv 0) (pa_cons (pv 1) (pa_cons (pv 2) (pa_cons (pv 3) pa_nil)))))))))))))))))), ?_⟩
  obtain ⟨row, i1, nn, left, hp1, hrow1, ok1, hi1⟩ := d0
  have d0 : DAt H p r B := ⟨row, i1, nn, left, hp1, hrow1, ok1, hi1⟩
  refine ⟨_, rfl, _, _, rfl, rfl, _, rfl, ?_⟩
  show if decide ((e : Int) ≤ 0) = true then _ else _
  rcases Bool.eq_false_or_eq_true (decide ((e : Int) ≤ 0)) with c1 | c1
  · rw [c1]
    refine iteT (iteT ?_)
    exact ⟨_, rfl, _, rfl, _, rfl, p, r, sc, B, S, kd, rfl, by decide, fun h => absurd h (by decide), d0, hS, by omega, by omega, fun v k H' kk dd aa gg => q v k H' kk (dd.more (by omega)) aa (gg.mono (by omega) (by omega) fun s h => h)⟩
  rw [c1]
  refine iteF ?_
  refine ⟨_, rfl, p, _, rfl, (dk_left r _ _ _ ▸ DGet.k (k := Sum.inr "left") hp1), _, _, rfl, rfl, _, rfl, ?_⟩
  show if decide (left ≤ 0) = true then _ else _
  rcases Bool.eq_false_or_eq_true (decide (left ≤ 0)) with c2 | c2
  · rw [c2]
    refine iteT ?_
    exact ⟨_, rfl, _, rfl, _, rfl, p, r, sc, B, S, kd, rfl, by decide, fun h => absurd h (by decide), d0, hS, by omega, by omega, fun v k H' kk dd aa gg => q v k H' kk (dd.more (by omega)) aa (gg.mono (by omega) (by omega) fun s h => h)⟩
  rw [c2]
  refine iteF ?_
  obtain ⟨e', rfl⟩ : ∃ e', e = e' + 1 := ⟨e - 1, by have := of_decide_eq_false c1; omega⟩
  have hP := pow_pos4 e'
  have hen' : e' < n := by omega
  have hB' := hB
  have q' := q
  rw [p4n] at hB q
  refine ⟨_, rfl, p, _, rfl, (dk_left r _ _ _ ▸ DGet.k (k := Sum.inr "left") hp1), _, _, rfl, rfl, _, rfl, p, _, rfl, DPut.k (k := Sum.inr "left") hp1 (by show 4 < sizeLine; decide), ?_⟩
  rw [dk_putl]
  have npr : r ≠ p := ne_of hrow1 hp1 (by intro z; cases z)
  have dG : DAt (upd H p (.dK (dk4 r i1 nn (left - 1)))) p r B := ⟨row, i1, nn, left - 1, upd_same, by rw [upd_ne npr]; exact hrow1, ok1, hi1⟩
  have kG : Keep p H (upd H p (.dK (dk4 r i1 nn (left - 1)))) := fun b o hb e => by rw [upd_ne hb]; exact e
  generalize upd H p (.dK (dk4 r i1 nn (left - 1))) = G at dG kG ⊢
  have hSG := hS.keep kG d0
  clear hp1 hrow1 hS d0
  refine ⟨_, rfl, p, r, _, rfl, dG, fun n1 H1 n10 n11 k1 d1 => ?_⟩
  have m10 := Int.emod_nonneg n1 (show (16 : Int) ≠ 0 by decide)
  have m11 := Int.emod_lt_of_pos n1 (show (0 : Int) < 16 by decide)
  refine ⟨_, _, rfl, rfl, (show (0 : Int) < 16 by decide), ?_⟩
  show gName 4 (V.int (n1 % 16)) _ _ _
  generalize n1 % 16 = u at *
  have hS1 := hSG.keep k1 dG
  have kA := kG.trans k1
  clear kG k1 dG hSG
  refine ⟨_, rfl, _, _, rfl, rfl, _, rfl, ?_⟩
  show if decide (u < 2) = true then _ else _
  rcases Bool.eq_false_or_eq_true (decide (u < 2)) with c3 | c3
  · rw [c3]
    refine iteT ?_
    exact ⟨_, rfl, _, rfl, _, rfl, p, r, sc, _, S, kd, rfl, by decide, fun h => absurd h (by decide), d1, hS1, by omega, by omega, fun v k H' kk dd aa gg => q v k H' (kA.trans kk) (dd.more (by omega)) aa (gg.mono (by omega) (by omega) fun s h => h)⟩
  rw [c3]
  refine iteF ?_
  refine ⟨_, rfl, rfl, _, rfl, ?_⟩
  show if decide (V.int u = V.int 2) = true then _ else _
  rcases Bool.eq_false_or_eq_true (decide (V.int u = V.int 2)) with t1 | t1
  · rw [t1]
    refine iteT ?_
    refine ⟨_, rfl, p, r, _, rfl, d1, fun n2 H2 n20 n21 k2 d2 => ?_⟩
    have m20 := Int.emod_nonneg n2 (show (40 : Int) ≠ 0 by decide)
    have m21 := Int.emod_lt_of_pos n2 (show (0 : Int) < 40 by decide)
    refine ⟨_, _, rfl, rfl, (show (0 : Int) < 40 by decide), _, rfl, _, rfl, _, rfl, _, rfl, _, _, rfl, rfl, p, r, sc, _, e', S, kd, ed4 _ _ _ _, hkd, hen', d2, hS1.keep k2 d1, by omega, by omega, fun v3 g3 H3 k3 d3 a3 h3 => ⟨by show 3 ≤ sizeLine; decide, fun t ht => ?_⟩⟩
    have s4 := same_new ht (.tup [.str "note", .int (n2 % 40), v3])
    exact q _ (.tup [.str "note", .int (n2 % 40), g3]) _ (((kA.trans k2).trans k3).trans (Keep.same s4)) ((d3.same s4).more (by omega)) (at_tup upd_same (ats_cons (at_str' (by decide +kernel)) (ats_cons at_int' (ats_cons (a3.keep (fr_same s4)) ats_nil)))) ((gz_note m20 (by omega) h3).mono (by omega) (by omega) fun s h => h)
  rw [t1]
  refine iteF ?_
  have lt : ∃ X : Prop, X := ⟨True, trivial⟩
  refine ⟨_, rfl, rfl, _, rfl, ?_⟩
  show if decide (V.int u = V.int 3) = true then _ else _
  have goLet : ∀ (n2 : Int) (H2 : Hp) (bb : Bool), Keep p H1 H2 → DAt H2 p r (B + 1 + 1) → spLet n ([V.ref p, .ref sc, .str kd, .int ((e' + 1 : Nat) : Int), .int (1 + (if bb = true then 1 else 0))] ++ []) H2 Q C8.E0 := fun n2 H2 bb k2 d2 => by
    cases bb with
    | true => exact ⟨p, r, sc, _, e', 2, S, kd, rfl, hen', by decide, by decide, hkd, d2, hS1.keep k2 d1, by omega, by rw [p4n]; omega, fun v k H' kk dd aa gg => q' v k H' ((kA.trans k2).trans kk) (dd.more (by rw [p4n]; omega)) aa (gg.mono (Nat.le_refl _) (Nat.le_refl _) fun s h => h)⟩
    | false => exact ⟨p, r, sc, _, e', 1, S, kd, rfl, hen', by decide, by decide, hkd, d2, hS1.keep k2 d1, by omega, by rw [p4n]; omega, fun v k H' kk dd aa gg => q' v k H' ((kA.trans k2).trans kk) (dd.more (by rw [p4n]; omega)) aa (gg.mono (Nat.le_refl _) (Nat.le_refl _) fun s h => h)⟩
  rcases Bool.eq_false_or_eq_true (decide (V.int u = V.int 3)) with t2 | t2
  · rw [t2]
    refine iteT (iteT ?_)
    refine ⟨_, rfl, _, rfl, _, rfl, _, rfl, _, rfl, p, r, _, rfl, d1, fun n2 H2 n20 n21 k2 d2 => ?_⟩
    refine ⟨_, _, rfl, rfl, (show (0 : Int) < 4 by decide), rfl, .inr ⟨_, rfl, _, _, rfl, rfl, ?_⟩⟩
    exact goLet n2 H2 _ k2 d2
  rw [t2]
  refine iteF ?_
  refine ⟨_, rfl, rfl, _, rfl, ?_⟩
  show if decide (V.int u = V.int 4) = true then _ else _
  rcases Bool.eq_false_or_eq_true (decide (V.int u = V.int 4)) with t3 | t3
  · rw [t3]
    refine iteT ?_
    refine ⟨_, rfl, _, rfl, _, rfl, _, rfl, _, rfl, p, r, _, rfl, d1, fun n2 H2 n20 n21 k2 d2 => ?_⟩
    refine ⟨_, _, rfl, rfl, (show (0 : Int) < 4 by decide), rfl, .inr ⟨_, rfl, _, _, rfl, rfl, ?_⟩⟩
    exact goLet n2 H2 _ k2 d2
  rw [t3]
  refine iteF ?_
  clear goLet lt
  refine ⟨_, rfl, rfl, _, rfl, ?_⟩
  show if decide (V.int u = V.int 5) = true then _ else _
  rcases Bool.eq_false_or_eq_true (decide (V.int u = V.int 5)) with t4 | t4
  · rw [t4]
    refine iteT ?_
    refine ⟨_, rfl, p, r, _, rfl, d1, by omega, fun x H2 hx k2 d2 => ?_⟩
    have hS2 := hS1.keep k2 d1
    refine ⟨by show 3 ≤ sizeLine; decide, fun lz hlz => ?_⟩
    have s3 := same_new hlz (.lst (kin3.map V.str))
    have e3 : upd H2 lz (.lst (kin3.map V.str)) lz = some (.lst (kin3.map V.str)) := upd_same
    have d3 := d2.same s3
    have hS3 := hS2.same s3
    refine ⟨_, rfl, p, r, _, rfl, d3, fun n4 H4 n40 n41 k4 d4 => ?_⟩
    obtain ⟨z, hz, ez⟩ := at_str (zs := kin3) (i := n4 % 3) (Int.emod_nonneg _ (by decide)) (by show n4 % 3 < 3; exact Int.emod_lt_of_pos _ (by decide))
    refine ⟨_, _, rfl, rfl, (show (0 : Int) < 3 by decide), lz, _, _, _, rfl, rfl, SqL.of (k4 _ _ (d3.ne_list e3) e3), ez, ?_⟩
    have hS4 := hS3.keep k4 d3
    have kB := ((kA.trans k2).trans (Keep.same s3)).trans k4
    have hzl := kin3_ok z hz
    refine ⟨_, rfl, _, rfl, _, rfl, _, rfl, _, _, rfl, rfl, p, r, sc, _, e', S, z, ed4 _ _ _ _, hzl, hen', d4, hS4, by omega, by omega, fun v5 g5 H5 k5 d5 a5 h5 => ?_⟩
    have hS5 := hS4.keep k5 d4
    obtain ⟨xs, hsc, hats⟩ := hS5.at'
    have hxl := ats_len hats
    rw [List.length_map] at hxl
    refine ⟨_, rfl, _, rfl, _, rfl, _, rfl, _, rfl, _, rfl, by show 2 ≤ sizeLine; decide, fun t ht => ⟨by show 1 ≤ sizeLine; decide, fun l1 hl1 => ?_⟩⟩
    have st := same_new ht (.tup [.str x, .str z])
    have sl := same_new hl1 (.lst [.ref t])
    refine ⟨sc, l1, xs, _, rfl, rfl, sl _ _ (st _ _ hsc), upd_same, by show xs.length + 1 ≤ _; omega, fun sc2 hsc2 => ?_⟩
    have s6 := same_new hsc2 (.lst (xs ++ [.ref t]))
    have sA := sameT st (sameT sl s6)
    have hS6 := sc_ext (sc := sc2) (t := t) (x := x) (kd := z) hats hS5.ok sA (s6 _ _ (sl _ _ upd_same)) upd_same hx hzl
    refine ⟨_, rfl, _, rfl, _, _, rfl, rfl, p, r, sc2, _, e', _, kd, ed4 _ _ _ _, hkd, hen', d5.same sA, hS6, by rw [List.length_append]; show _ + 1 + _ ≤ _; omega, by omega, fun v7 g7 H7 k7 d7 a7 h7 => ⟨by show 4 ≤ sizeLine; decide, fun t8 ht8 => ?_⟩⟩
    have s8 := same_new ht8 (.tup [.str "seq", .str x, v5, v7])
    have f7 := (fr_same (B := F0) sA).trans (fr_keep k7 (d5.same sA))
    have f8 := fr_same (B := F0) s8
    exact q _ (.tup [.str "seq", .str x, g5, g7]) _ ((((kB.trans k5).trans (Keep.same sA)).trans k7).trans (Keep.same s8)) ((d7.same s8).more (by omega)) (at_tup upd_same (ats_cons (at_str' (by decide +kernel)) (ats_cons (at_str' hx.len) (ats_cons ((a5.keep f7).keep f8) (ats_cons (a7.keep f8) ats_nil))))) ((gz_seq hx.1 h5 (h7.mono (Nat.le_refl _) (Nat.le_refl _) fun s h => sn_snoc h)).mono (by omega) (by omega) fun s h => h)
  rw [t4]
  refine iteF ?_
  refine ⟨_, rfl, rfl, _, rfl, ?_⟩
  show if decide (V.int u = V.int 6) = true then _ else _
  rcases Bool.eq_false_or_eq_true (decide (V.int u = V.int 6)) with t5 | t5
  · rw [t5]
    refine iteT (iteT ?_)
    exact ⟨_, rfl, _, rfl, _, rfl, _, rfl, p, r, sc, _, e', S, kd, rfl, hen', hkd, d1, hS1, by omega, by rw [p4n]; omega, fun v k H' kk dd aa gg => q' v k H' (kA.trans kk) (dd.more (by rw [p4n]; omega)) aa gg⟩
  rw [t5]
  refine iteF ?_
  refine ⟨_, rfl, rfl, _, rfl, ?_⟩
  show if decide (V.int u = V.int 7) = true then _ else _
  rcases Bool.eq_false_or_eq_true (decide (V.int u = V.int 7)) with t6 | t6
  · rw [t6]
    refine iteT ?_
    exact ⟨_, rfl, _, rfl, _, rfl, _, rfl, p, r, sc, _, e', S, kd, rfl, hen', hkd, d1, hS1, by omega, by rw [p4n]; omega, fun v k H' kk dd aa gg => q' v k H' (kA.trans kk) (dd.more (by rw [p4n]; omega)) aa gg⟩
  rw [t6]
  refine iteF ?_
  refine ⟨_, rfl, rfl, _, rfl, ?_⟩
  show if decide (V.int u = V.int 8) = true then _ else _
  rcases Bool.eq_false_or_eq_true (decide (V.int u = V.int 8)) with t7 | t7
  · rw [t7]
    refine iteT ?_
    exact ⟨_, rfl, _, rfl, _, rfl, _, rfl, p, r, sc, _, e', S, kd, rfl, hen', hkd, d1, hS1, by omega, by rw [p4n]; omega, fun v k H' kk dd aa gg => q' v k H' (kA.trans kk) (dd.more (by rw [p4n]; omega)) aa gg⟩
  rw [t7]
  refine iteF ?_
  refine ⟨_, rfl, rfl, _, rfl, ?_⟩
  show if decide (V.int u = V.int 9) = true then _ else _
  rcases Bool.eq_false_or_eq_true (decide (V.int u = V.int 9)) with t8 | t8
  · rw [t8]
    refine iteT ?_
    refine ⟨_, rfl, p, r, _, rfl, d1, by omega, fun x H2 hx k2 d2 => ?_⟩
    have hS2 := hS1.keep k2 d1
    obtain ⟨xs, hsc, hats⟩ := hS2.at'
    have hxl := ats_len hats
    rw [List.length_map] at hxl
    refine ⟨_, rfl, _, rfl, _, rfl, by show 2 ≤ sizeLine; decide, fun t ht => ⟨by show 1 ≤ sizeLine; decide, fun l1 hl1 => ?_⟩⟩
    have st := same_new ht (.tup [.str x, .str "I"])
    have sl := same_new hl1 (.lst [.ref t])
    refine ⟨sc, l1, xs, _, rfl, rfl, sl _ _ (st _ _ hsc), upd_same, by show xs.length + 1 ≤ _; omega, fun sc2 hsc2 => ?_⟩
    have s6 := same_new hsc2 (.lst (xs ++ [.ref t]))
    have sA := sameT st (sameT sl s6)
    have hS6 := sc_ext (sc := sc2) (t := t) (x := x) (kd := "I") hats hS2.ok sA (s6 _ _ (sl _ _ upd_same)) upd_same hx (by decide +kernel)
    refine ⟨_, rfl, _, rfl, _, _, rfl, rfl, p, r, sc2, _, e', _, kd, ed4 _ _ _ _, hkd, hen', d2.same sA, hS6, by rw [List.length_append]; show _ + 1 + _ ≤ _; omega, by omega, fun v7 g7 H7 k7 d7 a7 h7 => ?_⟩
    have hS7 := (hS2.same sA).keep k7 (d2.same sA)
    refine ⟨_, rfl, _, rfl, by show 3 ≤ sizeLine; decide, fun t8 ht8 => ?_⟩
    have s8 := same_new ht8 (.tup [.str "lam", .str x, v7])
    have e8 : (Dd.tup [.str "lam", .str x, g7]).At F0 (upd H7 t8 (.tup [.str "lam", .str x, v7])) (.ref t8) := at_tup upd_same (ats_cons (at_str' (by decide +kernel)) (ats_cons (at_str' hx.len) (ats_cons (a7.keep (fr_same s8)) ats_nil)))
    have d8 := d7.same s8
    have hS8 := hS7.same s8
    have kB := (((kA.trans k2).trans (Keep.same sA)).trans k7).trans (Keep.same s8)
    generalize upd H7 t8 (.tup [.str "lam", .str x, v7]) = H8 at e8 d8 hS8 kB ⊢
    refine ⟨_, rfl, _, rfl, _, rfl, _, _, rfl, rfl, p, r, sc, _, e', S, "I", ed4 _ _ _ _, by decide +kernel, hen', d8, hS8, by omega, by omega, fun v9 g9 H9 k9 d9 a9 h9 => ⟨by show 3 ≤ sizeLine; decide, fun t10 ht10 => ?_⟩⟩
    have s10 := same_new ht10 (.tup [.str "app", .ref t8, v9])
    have f10 := fr_same (B := F0) s10
    exact q _ (.tup [.str "app", .tup [.str "lam", .str x, g7], g9]) _ ((kB.trans k9).trans (Keep.same s10)) ((d9.same s10).more (by omega)) (at_tup upd_same (ats_cons (at_str' (by decide +kernel)) (ats_cons ((e8.keep (fr_keep k9 d8)).keep f10) (ats_cons (a9.keep f10) ats_nil)))) ((gz_app (gz_lam hx.1 (h7.mono (Nat.le_refl _) (Nat.le_refl _) fun s h => sn_snoc h)) (h9.mono (Nat.le_succ _) (Nat.le_refl _) fun s h => h)).mono (by omega) (by omega) fun s h => h)
  rw [t8]
  refine iteF ?_
  refine ⟨_, rfl, rfl, _, rfl, ?_⟩
  show if decide (V.int u = V.int 10) = true then _ else _
  have own : spOwnT n ([V.ref p, .ref sc, .str kd, .int ((e' + 1 : Nat) : Int)] ++ []) H1 Q C8.E0 := ⟨p, r, sc, _, e', S, kd, rfl, hen', hkd, d1, hS1, by omega, by rw [p4n]; omega, fun v k H' kk dd aa gg => q' v k H' (kA.trans kk) (dd.more (by rw [p4n]; omega)) aa gg⟩
  rcases Bool.eq_false_or_eq_true (decide (V.int u = V.int 10)) with t9 | t9
  · rw [t9]
    refine iteT ?_
    refine ⟨_, rfl, rfl, _, rfl, ?_⟩
    show if decide (V.str kd = V.str "I") = true then _ else _
    rcases Bool.eq_false_or_eq_true (decide (V.str kd = V.str "I")) with t10 | t10
    · rw [t10]
      refine iteT ?_
      refine ⟨_, rfl, _, rfl, _, rfl, _, _, rfl, rfl, p, r, sc, _, e', S, "F", ed4 _ _ _ _, by decide +kernel, hen', d1, hS1, by omega, by omega, fun v4 g4 H4 k4 d4 a4 h4 => ?_⟩
      refine ⟨_, rfl, _, rfl, _, rfl, _, _, rfl, rfl, p, r, sc, _, e', S, "I", ed4 _ _ _ _, by decide +kernel, hen', d4, hS1.keep k4 d1, by omega, by omega, fun v5 g5 H5 k5 d5 a5 h5 => ⟨by show 3 ≤ sizeLine; decide, fun t ht => ?_⟩⟩
      have s6 := same_new ht (.tup [.str "app", v4, v5])
      have f6 := fr_same (B := F0) s6
      exact q _ (.tup [.str "app", g4, g5]) _ (((kA.trans k4).trans k5).trans (Keep.same s6)) ((d5.same s6).more (by omega)) (at_tup upd_same (ats_cons (at_str' (by decide +kernel)) (ats_cons ((a4.keep (fr_keep k5 d4)).keep f6) (ats_cons (a5.keep f6) ats_nil)))) ((gz_app h4 h5).mono (by omega) (by omega) fun s h => h)
    · rw [t10]
      refine iteF ?_
      exact ⟨_, rfl, _, rfl, _, rfl, _, rfl, own⟩
  rw [t9]
  refine iteF (iteF ?_)
  exact ⟨_, rfl, _, rfl, _, rfl, _, rfl, own⟩
end
end Toy

set_option Elab.async false
set_option linter.all false
set_option maxRecDepth 100000
set_option maxHeartbeats 4000000
/-! Part I2: a typed program. -/
namespace Toy
open PySem L2
open PyProof.Rows (envOfC)
theorem cut_to (xs : List V) (k : Nat) (h : k ≤ xs.length) : cutV xs none (some (k : Int)) = xs.take k := by
  unfold cutV
  rw [HT.sIx_none, HT.sIx_nat, List.drop_zero, Nat.sub_zero, Nat.min_eq_left h]
theorem boot_reversed : bootBuiltins "reversed" = some (.type "reversed") := by decide +kernel
/-- a program: definitions, and the name of its main one -/
def defD (q : Str × Dd) : Dd := .tup [.str q.1, q.2]
def progD (l : List (Str × Dd)) (m : Str) : Dd := .tup [.tup (l.map defD), .str m]
structure ProgOk (l : List (Str × Dd)) : Prop where
  gz : ∀ q ∈ l, Gz 17 31000 [] q.2
  nm : ∃ a, l.map (·.1) = globs.take a ++ [("main" : Str)] ++ globs.drop a
theorem glob_names : glob.map (·.1) = globs := rfl
theorem Dd.Ats.here2 {B : Addr → Prop} {H : Hp} {l : List Dd} {xs : List V} (h : Dd.Ats B H l xs) : Dd.Ats (fun a => B a ∧ H a ≠ none) H l xs := h.weak fun a xs e b => ⟨b, by rw [e]; exact fun z => by cases z⟩
theorem ats_take {B : Addr → Prop} {H : Hp} : ∀ {l : List Dd} {xs : List V} (n : Nat), Dd.Ats B H l xs → Dd.Ats B H (l.take n) (xs.take n)
  | [], _, n, h => by cases h; rw [List.take_nil, List.take_nil]; exact rfl
  | k :: l, _, 0, h => rfl
  | k :: l, _, n + 1, ⟨x, ys, e, h, hs⟩ => by
    cases e
    exact ⟨x, ys.take n, rfl, h, ats_take n hs⟩
theorem ats_dropN {B : Addr → Prop} {H : Hp} : ∀ {l : List Dd} {xs : List V} (n : Nat), Dd.Ats B H l xs → Dd.Ats B H (l.drop n) (xs.drop n)
  | [], _, n, h => by cases h; rw [List.drop_nil, List.drop_nil]; exact rfl
  | k :: l, _, 0, h => h
  | k :: l, _, n + 1, ⟨x, ys, e, h, hs⟩ => by
    cases e
    exact ats_dropN n hs
section
variable {P : Program} {w : World} {K : PySem.W.Frag} {mg : Str → Option Value} {base : Heap}
theorem c_term {f : Addr} {fd : FuncData} (T : TxtY mg) (c_law_take : C8.Cal P w K mg base 1 "_law_take" spTake []) (c_law_takeN : C8.Cal P w K mg base 1 "_law_take" spTakeN []) (c_law_fresh : C8.Cal P w K mg base 1 "_law_fresh" spFresh []) (c_law_freshN : C8.Cal P w K mg base 1 "_law_fresh" spFreshN []) (c_law_leaf : C8.Cal P w K mg base 4 "_law_leaf" (spLeaf 2) []) (c_law_globals : C8.Cal P w K mg base 1 "_law_globals" spGlobals [])
    {fl fdf fc fo fa fw : Addr} {dl ddf dc dO da dw : FuncData}
    (Fl : Fun K "_law_let" "_law_let" sLet fl dl) (bl : Binds K dl ["d", "scope", "kind", "depth", "many"] []) (ml : mg "_law_let" = some (.ref fl))
    (Fd : Fun K "_law_default" "_law_default" sDflt2 fdf ddf) (bd : Binds K ddf ["d", "scope", "kind", "other", "depth", "odds"] []) (md : mg "_law_default" = some (.ref fdf))
    (Fc : Fun K "_law_case" "_law_case" sCase fc dc) (bc : Binds K dc ["d", "scope", "kind", "depth"] []) (mc : mg "_law_case" = some (.ref fc))
    (Fo : Fun K "_law_choice" "_law_choice" sChoice fo dO) (bo : Binds K dO ["d", "scope", "kind", "depth"] []) (mo : mg "_law_choice" = some (.ref fo))
    (Fa : Fun K "_law_call" "_law_call" sLCall fa da) (ba : Binds K da ["d", "scope", "kind", "depth"] []) (ma : mg "_law_call" = some (.ref fa))
    (Fw : Fun K "_law_own" "_law_own" sLOwn2 fw dw) (bw : Binds K dw ["d", "scope", "kind", "depth"] []) (mw : mg "_law_own" = some (.ref fw))
    (F : Fun K "_law_term" "_law_term" sTerm f fd) (b : Binds K fd ["d", "scope", "kind", "depth"] []) (hm : mg "_law_term" = some (.ref f)) : ∀ n : Nat, C8.Cal P w K mg base (3 * n + 5) "_law_term" (spTerm n) []
  | 0 => cal_none F hm b fun vs H Q E h => by
    obtain ⟨p, r, sc, B, e, S, kd, _, _, h, _⟩ := h
    exact Nat.not_lt_zero _ h
  | n + 1 => by
    have ct := c_term T c_law_take c_law_takeN c_law_fresh c_law_freshN c_law_leaf c_law_globals Fl bl ml Fd bd md Fc bc mc Fo bo mo Fa ba ma Fw bw mw F b hm n
    have cl := c_let T c_law_takeN c_law_freshN ct Fl bl ml
    have cd := c_default c_law_take c_law_fresh ct Fd bd md
    have cc := c_case T c_law_take c_law_freshN ct cd Fc bc mc
    have co := c_choice T c_law_take ct cd Fo bo mo
    have ca := c_lcall T c_law_globals c_law_take c_law_leaf ct Fa ba ma
    have cw := c_own2 c_law_take c_law_fresh ct ca Fw bw mw
    exact c_term1 T c_law_take c_law_fresh c_law_leaf cl cc co cw ct F b hm
abbrev sProg : Stmt := topS 78
theorem scProg : FnScope ["d", "definitions", "name", "kinds", "kind", "scope", "other", "term", "param", "at", "main"] ["d"] (defScope sProg) := ⟨rfl, rfl, rfl, by decide +kernel, rfl, by decide +kernel, by decide +kernel⟩
def spProg : Sp := fun vs H Q _ => ∃ (p r : Addr) (B : Nat), vs = [.ref p] ∧ DAt H p r B ∧ B ≤ 900000000 ∧ ∀ (v : V) (l : List (Str × Dd)) (H' : Hp), Keep p H H' → DAt H' p r (B + 300000) → (progD l "main").At F0 H' v → ProgOk l → Q v H'
theorem c_prog {f : Addr} {fd : FuncData} (T : TxtY mg) (c_law_take : C8.Cal P w K mg base 1 "_law_take" spTake []) (c_law_fresh : C8.Cal P w K mg base 1 "_law_fresh" spFresh []) (c_law_globals : C8.Cal P w K mg base 1 "_law_globals" spGlobals []) {n : Nat} (hn : n = 5) (c_law_term : C8.Cal P w K mg base (3 * n + 5) "_law_term" (spTerm n) []) (F : Fun K "_law_program" "_law_program" sProg f fd) (b : Binds K fd ["d"] []) (hm : mg "_law_program" = some (.ref f)) : C8.Cal P w K mg base (3 * n + 6) "_law_program" spProg [] := by
  refine cal_of F hm b scProg (fun vs H Q E h => ?_) (fun cdv A outer s H vs Q E hr h => ?_)
  · obtain ⟨p, r, B, rfl, _⟩ := h
    rfl
  obtain ⟨p, r, B, rfl, d0, hB, q⟩ := h
  have hbig := big
  refine ⟨_, (pss_cons (ps_set (i := 1) scProg.nd rfl (Or.inl rfl) (pe_lst pa_nil))
    (pss_cons (ps_for PassesOwn.never rfl (pi_list (pe_c0 c_law_globals hr (by omega) rfl)) (pg_tup rfl (pgs_cons (pg_name (i := 2) scProg.nd rfl (Or.inl rfl)) (pgs_cons (pg_name (i := 3) scProg.nd rfl (Or.inl rfl)) (pgs_cons (pg_name (i := 4) scProg.nd rfl (Or.inl rfl)) pgs_nil))))
      (pss_cons (ps_set (i := 5) scProg.nd rfl (Or.inl rfl) (pe_lst pa_nil))
    (pss_cons (ps_for PassesOwn.never rfl (pi_list (pv 3)) (pg_name (i := 6) scProg.nd rfl (Or.inl rfl))
      (pss_one (ps_expr (pe_bm PySem.F.plainAttrs_list PySem.F.slot_list_append PySem.F.type_list_append mt_append (pv 5) (pa_cons (pe_tup (pa_cons (C8.pe_c c_law_fresh hr (by omega) rfl (pa_cons (pv 0) pa_nil)) (pa_cons (pv 6) pa_nil))) pa_nil)))))
    (pss_cons (ps_set (i := 7) scProg.nd rfl (Or.inl rfl) (C8.pe_c c_law_term hr (by omega) rfl (pa_cons (pv 0) (pa_cons (pv 5) (pa_cons (pv 4) (pa_cons (pe_op op_add pe_int (pe_op op_mod (C8.pe_c c_law_take hr (by omega) rfl (pa_cons (pv 0) pa_nil)) pe_int)) pa_nil))))))
    (pss_cons (ps_for PassesOwn.never rfl (RT.pi_revA rfl T.zreversed (pv 5)) (pg_tup rfl (pgs_cons (pg_name (i := 8) scProg.nd rfl (Or.inl rfl)) (pgs_cons (pg_name (i := 6) scProg.nd rfl (Or.inl rfl)) pgs_nil)))
      (pss_one (ps_set (i := 7) scProg.nd rfl (Or.inl rfl) (pe_tup (pa_cons pe_str (pa_cons (pv 8) (pa_cons (pv 7) pa_nil)))))))
    (pss_one (ps_expr (pe_bm PySem.F.plainAttrs_list PySem.F.slot_list_append PySem.F.type_list_append mt_append (pv 1) (pa_cons (pe_tup (pa_cons (pv 2) (pa_cons (pv 7) pa_nil))) pa_nil)))))))))
    (pss_cons (ps_set (i := 9) scProg.nd rfl (Or.inl rfl) (pe_op op_mod (C8.pe_c c_law_take hr (by omega) rfl (pa_cons (pv 0) pa_nil)) (pe_op op_add (pe_callB call_len_seq rfl T.zlen PySem.boot_len (pa_cons (pv 1) pa_nil)) pe_int)))
    (pss_cons (ps_set (i := 10) scProg.nd rfl (Or.inl rfl) (pe_tup (pa_cons pe_str (pa_cons pe_int (pa_cons (pe_tup (pa_cons (C8.pe_c c_law_term hr (by omega) rfl (pa_cons (pv 0) (pa_cons (pe_lst pa_nil) (pa_cons pe_str (pa_cons pe_int pa_nil))))) (pa_cons (C8.pe_c c_law_term hr (by omega) rfl (pa_cons (pv 0) (pa_cons (pe_lst pa_nil) (pa_cons pe_str (pa_cons pe_int pa_nil))))) pa_nil))) pa_nil)))))
    (pss_one (ps_ret (pe_tup (pa_cons (pe_callTy call_tuple_of rfl T.ztuple boot_tuple (pa_cons (pe_op op_cat (pe_op op_cat (pe_slice sl_list (pv 1) po_none (po_some (pv 9))) (pe_lst (pa_cons (pe_tup (pa_cons pe_str (pa_cons (pv 10) pa_nil))) pa_nil))) (pe_slice sl_list (pv 1) (po_some (pv 9)) po_none)) pa_nil)) (pa_cons pe_str pa_nil))))))))), ?_⟩
  refine ⟨by show 0 ≤ sizeLine; decide, fun Df hDf => ?_⟩
  obtain ⟨nDp, nDr⟩ := d0.fresh hDf
  have s0 := same_new hDf (.lst [])
  have e0 : upd H Df (.lst []) Df = some (.lst []) := upd_same
  have d0' := d0.same s0
  generalize upd H Df (.lst []) = H0 at s0 e0 d0' ⊢
  refine ⟨rfl, fun L xs H1 s1 hL eL aL0 => ?_⟩
  have aL := aL0.here2
  have nLD : L ≠ Df := fun z => by rw [z, e0] at hL; cases hL
  have hxl := ats_len aL
  rw [List.length_map] at hxl
  have hgl : glob.length = 7 := rfl
  have d1 := d0'.same s1
  have nLp : L ≠ p := d1.ne_list eL
  have e1 := s1 _ _ e0
  have nBD : ¬ (Nw H0 Df ∧ H1 Df ≠ none) := fun z => by
    have := z.1
    unfold Nw at this
    rw [e0] at this; cases this
  refine ⟨L, rfl, ⟨_, SqL.of eL⟩, for_list (a := L) (xs := xs)
    (fun i σ G => ∃ (l : List (Str × Dd)) (dxs : List V) (v2 v3 v4 v5 v6 v7 v8 : Option V), σ = [some (.ref p), some (.ref Df), v2, v3, v4, v5, v6, v7, v8, none, none] ∧ Keep p H G ∧ (∀ a, a ≠ p → a ≠ Df → ∀ o, H1 a = some o → G a = some o) ∧ DAt G p r (B + i * 12000) ∧ G Df = some (.lst dxs) ∧ Dd.Ats F0 G (l.map defD) dxs ∧ l.map (·.1) = (glob.take i).map (·.1) ∧ ∀ q ∈ l, Gz 17 31000 [] q.2)
    ⟨[], [], none, none, none, none, none, none, none, rfl, Keep.same (sameT s0 s1), fun a _ _ o h => h, d1.more (by omega), e1, rfl, rfl, fun q h => absurd h List.not_mem_nil⟩ (fun i σ G _ ⟨_, _, _, _, _, _, _, _, _, _, _, h, _⟩ => SqL.of (h L nLp nLD _ eL)) ?_ ?_⟩
  · rintro i x σ G hx ⟨l, dxs, v2, v3, v4, v5, v6, v7, v8, rfl, kG, kD, dG, eD, aD, hln, hlg⟩
    obtain ⟨kk, hk, hkx⟩ := ats_get aL hx
    rw [List.getElem?_map] at hk
    cases hq : glob[i]? with
    | none => rw [hq] at hk; cases hk
    | some g =>
      rw [hq] at hk
      cases hk
      have hgm := List.mem_of_getElem? hq
      have hil : i < glob.length := (List.getElem?_eq_some_iff.mp hq).1
      obtain ⟨ok1, ok2, ok3, ok4⟩ := glob_ok g hgm
      obtain ⟨t, xs3, rfl, ht, x0, ys0, rfl, h0, x1, ys1, rfl, h1', x2, ys2, rfl, h2', hn2⟩ := id hkx
      cases (show ys2 = [] from hn2)
      obtain ⟨rfl, _⟩ := (show x0 = .str g.1 ∧ _ from h0)
      obtain ⟨rfl, _⟩ := (show x2 = .str g.2.2 ∧ _ from h2')
      obtain ⟨lk, zs, rfl, hBlk, hlk, hzs⟩ := h1'
      obtain ⟨rfl, _⟩ := ats_strs_eq hzs
      have nlkD : lk ≠ Df := fun z => nBD (z ▸ hBlk)
      have nlkp : lk ≠ p := d1.ne_list hlk
      have hlkG := kD lk nlkp nlkD _ hlk
      have htG := kD t (d1.ne_tup ht) (fun z => by rw [z, e1] at ht; cases ht) _ ht
      have hdl := ats_len aD
      rw [List.length_map] at hdl
      have hll : l.length = i := by
        have e := congrArg List.length hln
        rw [List.length_map, List.length_map, List.length_take] at e
        omega
      refine ⟨t, _, rfl, SqT.of htG, rfl, _, _, rfl, _, _, rfl, _, _, rfl, rfl, ?_⟩
      refine ⟨by show 0 ≤ sizeLine; decide, fun Sl hSl => ?_⟩
      obtain ⟨nSp, nSr⟩ := dG.fresh hSl
      have s2 := same_new hSl (.lst [])
      have e2 : upd G Sl (.lst []) Sl = some (.lst []) := upd_same
      have nDS : Df ≠ Sl := fun z => by rw [← z, eD] at hSl; cases hSl
      have nlkS : lk ≠ Sl := fun z => by rw [← z, hlkG] at hSl; cases hSl
      have d2 := dG.same s2
      have hlk2 := s2 _ _ hlkG
      generalize upd G Sl (.lst []) = G2 at s2 e2 d2 hlk2 ⊢
      have k2 := Keep.same (p := p) s2
      clear s2
      refine ⟨_, rfl, lk, rfl, ⟨_, SqL.of hlk2⟩, for_list (a := lk) (xs := g.2.1.map V.str)
        (fun j σ G' => ∃ (S : List (Str × Str)) (sxs : List V) (v6 : Option V), σ = [some (.ref p), some (.ref Df), some (.str g.1), some (.ref lk), some (.str g.2.2), some (.ref Sl), v6, v7, v8, none, none] ∧ Keep p G G' ∧ DAt G' p r (B + i * 12000 + j) ∧ G' Sl = some (.lst sxs) ∧ Dd.Ats F0 G' (S.map scD) sxs ∧ S.length = j ∧ ∀ q ∈ S, nameOk q.1 ∧ q.2.length ≤ 1000)
        ⟨[], [], _, rfl, k2, d2.more (by omega), e2, rfl, rfl, fun q h => absurd h List.not_mem_nil⟩ (fun j σ G' _ ⟨_, _, _, _, h, _⟩ => SqL.of (h _ _ nlkp hlkG)) ?_ ?_⟩
      · rintro j x' σ G' hxj ⟨S, sxs, v6, rfl, kG', dG', eS, aS, hSlen, hSok⟩
        rw [List.getElem?_map] at hxj
        obtain ⟨z, hzj, rfl⟩ := Option.map_eq_some_iff.mp hxj
        have hjl : j < g.2.1.length := (List.getElem?_eq_some_iff.mp hzj).1
        have hsl := ats_len aS
        rw [List.length_map] at hsl
        refine ⟨_, rfl, .inl ⟨rfl, _, SqL.of eS⟩, _, rfl, p, r, _, rfl, dG', by omega, fun nx G3 hnx k3 d3 => ⟨_, rfl, by show 2 ≤ sizeLine; decide, fun t3 ht3 => ?_⟩⟩
        have s4 := same_new ht3 (.tup [.str nx, .str z])
        have e4 : (scD (nx, z)).At F0 (upd G3 t3 (.tup [.str nx, .str z])) (.ref t3) := at_tup upd_same (ats_cons (at_str' hnx.len) (ats_cons (at_str' (ok3 z (List.mem_of_getElem? hzj))) ats_nil))
        have eS4 := s4 _ _ (k3 _ _ nSp eS)
        have d4 := d3.same s4
        have aS4 := (aS.keep (fr_keep k3 dG')).keep (fr_same s4)
        have k4 := (kG'.trans k3).trans (Keep.same s4)
        generalize upd G3 t3 (.tup [.str nx, .str z]) = G4 at e4 eS4 d4 aS4 k4 ⊢
        refine ⟨Sl, _, _, rfl, rfl, eS4, szl (by omega), ?_⟩
        have f5 : Fr F0 G4 (upd G4 Sl (.lst (sxs ++ [.ref t3]))) := fr_list eS4 fun z => z
        refine ⟨S ++ [(nx, z)], sxs ++ [.ref t3], _, rfl, keep_upd hSl k4 _, (d4.off nSp nSr _).more (by omega), upd_same, ?_, by rw [List.length_append, hSlen]; rfl, fun qq hqq => ?_⟩
        · rw [List.map_append]
          exact ats_app (aS4.keep f5) (ats_one (e4.keep f5))
        · rcases List.mem_append.mp hqq with e | e
          · exact hSok qq e
          · rw [List.mem_singleton.mp e]
            exact ⟨hnx, ok3 z (List.mem_of_getElem? hzj)⟩
      rintro σ G3 ⟨S, sxs, v6, rfl, k3, d3, eS, aS, hSlen, hSok⟩
      rw [List.length_map] at d3 hSlen
      have hsl := ats_len aS
      rw [List.length_map] at hsl
      have hSc : ScAt G3 Sl S := ⟨⟨_, eS, aS⟩, hSok⟩
      refine ⟨_, rfl, _, rfl, _, rfl, _, rfl, p, r, _, rfl, d3, fun n4 G4 n40 n41 k4 d4 => ?_⟩
      have m40 := Int.emod_nonneg n4 (show (3 : Int) ≠ 0 by decide)
      have m41 := Int.emod_lt_of_pos n4 (show (0 : Int) < 3 by decide)
      have hSc4 := hSc.keep k4 d3
      have he4 : (2 + n4 % 3).toNat ≤ 4 := by omega
      have hpe : 4 ^ (2 + n4 % 3).toNat ≤ 256 := Nat.pow_le_pow_right (show 0 < 4 by decide) he4
      have hpp := pow_pos4 (2 + n4 % 3).toNat
      refine ⟨_, _, rfl, rfl, (show (0 : Int) < 3 by decide), _, _, rfl, rfl, p, r, Sl, _, (2 + n4 % 3).toNat, S, _, by rw [Int.toNat_of_nonneg (by omega)]; rfl, ok4, by omega, d4, hSc4, by omega, by omega, fun v5 g5 G5 k5 d5 a5 h5 => ?_⟩
      have eS5 := k5 _ _ nSp (k4 _ _ nSp eS)
      have aS5 := (aS.keep (fr_keep k4 d3)).keep (fr_keep k5 d4)
      have k35 := (k3.trans k4).trans k5
      have d5 := d5.more (show _ ≤ B + i * 12000 + 11000 by omega)
      have h5 : Gz 14 15330 (sn S) g5 := h5.mono (by omega) (by omega) fun s h => h
      clear hpe hpp
      refine ⟨_, rfl, Sl, sxs, rfl, .inl ⟨SqL.of eS5, RT.for_Itv (K := K) (fun j σ G' => ∃ (v6 : Option V) (v7 : V) (k7 : Dd) (v8 : Option V), σ = [some (.ref p), some (.ref Df), some (.str g.1), some (.ref lk), some (.str g.2.2), some (.ref Sl), v6, some v7, v8, none, none] ∧ Same G5 G' ∧ k7.At F0 G' v7 ∧ Gz (14 + j) (15330 + 3 * j) (sn (S.take (S.length - j))) k7)
        ⟨_, _, _, _, rfl, fun _ _ e => e, a5, by rw [Nat.sub_zero, List.take_length]; exact h5⟩ (fun j σ G' ⟨_, _, _, _, _, h, _⟩ => SqL.of (h _ _ eS5)) ?_ ?_⟩⟩
      · rintro j x' σ G' hj hxj ⟨v6, v7, k7, v8, rfl, sG', a7, h7⟩
        obtain ⟨kk', hk', hkx'⟩ := ats_get aS5 hxj
        rw [List.getElem?_map] at hk'
        cases hq' : S[sxs.length - 1 - j]? with
        | none => rw [hq'] at hk'; cases hk'
        | some qq =>
          rw [hq'] at hk'
          cases hk'
          have hqm := List.mem_of_getElem? hq'
          have hqi := (List.getElem?_eq_some_iff.mp hq').1
          obtain ⟨t6, x6, y6, rfl, ht6, hx6, hy6⟩ := pair_at (m := [.str qq.1, .str qq.2]) hkx' rfl
          obtain ⟨rfl, _⟩ := (show x6 = .str qq.1 ∧ _ from hx6)
          obtain ⟨rfl, _⟩ := (show y6 = .str qq.2 ∧ _ from hy6)
          refine ⟨_, _, rfl, SqT.of (sG' _ _ ht6), rfl, _, _, rfl, _, _, rfl, rfl, ?_⟩
          refine ⟨_, rfl, _, rfl, by show 3 ≤ sizeLine; decide, fun t7 ht7 => ?_⟩
          have s8 := same_new ht7 (.tup [.str "lam", .str qq.1, v7])
          refine ⟨_, _, .tup [.str "lam", .str qq.1, k7], _, rfl, sameT sG' s8, at_tup upd_same (ats_cons (at_str' (by decide +kernel)) (ats_cons (at_str' (hSok qq hqm).1.len) (ats_cons (a7.keep (fr_same s8)) ats_nil))), ?_⟩
          refine (gz_lam (hSok qq hqm).1.1 (h7.mono (Nat.le_refl _) (Nat.le_refl _) fun s h => ?_)).mono (by omega) (by omega) fun s h => h
          have et : S.take (S.length - j) = S.take (S.length - (j + 1)) ++ [(qq.1, qq.2)] := by
            rw [show S.length - j = (S.length - (j + 1)) + 1 by omega, List.take_add_one, show S.length - (j + 1) = sxs.length - 1 - j by omega, hq']
            rfl
          rw [et] at h
          exact sn_snoc h
      rintro σ G6 ⟨v6, v7, k7, v8, rfl, sG6, a7, h7⟩
      rw [hsl, Nat.sub_self, List.take_zero] at h7
      have kG6 := (k35.trans (Keep.same (p := p) sG6))
      have d6 := d5.same sG6
      have eD6 := kG6 _ _ nDp eD
      have aD6 := aD.keep (fr_keep kG6 dG)
      refine ⟨_, rfl, .inl ⟨rfl, _, SqL.of eD6⟩, _, rfl, _, rfl, by show 2 ≤ sizeLine; decide, fun t8 ht8 => ?_⟩
      have s8 := same_new ht8 (.tup [.str g.1, v7])
      have e8 : (defD (g.1, k7)).At F0 (upd G6 t8 (.tup [.str g.1, v7])) (.ref t8) := at_tup upd_same (ats_cons (at_str' (globs_ok g.1 ok1).len) (ats_cons (a7.keep (fr_same s8)) ats_nil))
      have eD8 := s8 _ _ eD6
      have aD8 := aD6.keep (fr_same s8)
      have d8 := d6.same s8
      have k8 := kG6.trans (Keep.same s8)
      generalize upd G6 t8 (.tup [.str g.1, v7]) = G8 at e8 eD8 aD8 d8 k8 ⊢
      refine ⟨Df, _, _, rfl, rfl, eD8, szl (by omega), ?_⟩
      have f9 : Fr F0 G8 (upd G8 Df (.lst (dxs ++ [.ref t8]))) := fr_list eD8 fun z => z
      refine ⟨l ++ [(g.1, k7)], dxs ++ [.ref t8], _, _, _, _, _, _, _, rfl, keep_upd hDf (kG.trans k8) _, fun a na nb o h => by rw [upd_ne nb]; exact k8 _ _ na (kD a na nb o h), (d8.off nDp nDr _).more (by omega), upd_same, ?_, ?_, fun qq hqq => ?_⟩
      · rw [List.map_append]
        exact ats_app (aD8.keep f9) (ats_one (e8.keep f9))
      · rw [List.map_append, hln, List.take_add_one, hq, List.map_append]
        rfl
      · rcases List.mem_append.mp hqq with e | e
        · exact hlg qq e
        · rw [List.mem_singleton.mp e]
          exact h7.mono (by omega) (by omega) fun s h => h
  rintro σ G ⟨l, dxs, v2, v3, v4, v5, v6, v7, v8, rfl, kG, kD, dG, eD, aD, hln, hlg⟩
  rw [hxl] at dG hln
  rw [List.take_length, glob_names] at hln
  have hll : l.length = 7 := by
    have e := congrArg List.length hln
    rw [List.length_map] at e
    exact e
  have hdl := ats_len aD
  rw [List.length_map] at hdl
  refine ⟨_, rfl, p, r, _, rfl, dG, fun n1 G1 n10 n11 k1 d1 => ?_⟩
  have eD1 := k1 _ _ nDp eD
  have aD1 := aD.keep (fr_keep k1 dG)
  have m10 := Int.emod_nonneg n1 (b := ((dxs.length : Nat) : Int) + 1) (by omega)
  have m11 := Int.emod_lt_of_pos n1 (b := ((dxs.length : Nat) : Int) + 1) (by omega)
  refine ⟨_, rfl, Df, _, rfl, .inl (SqL.of eD1), _, _, rfl, rfl, _, _, rfl, rfl, by omega, ?_⟩
  show gName 9 (V.int (n1 % (((dxs.length : Nat) : Int) + 1))) _ _ _
  obtain ⟨a, ha⟩ : ∃ a : Nat, n1 % (((dxs.length : Nat) : Int) + 1) = (a : Int) := ⟨_, (Int.toNat_of_nonneg m10).symm⟩
  rw [ha] at m11 ⊢
  have ha7 : a ≤ dxs.length := by omega
  refine ⟨_, rfl, by show 0 ≤ sizeLine; decide, fun l2 hl2 => ?_⟩
  have s2 := same_new hl2 (.lst [])
  have hS2 : ScAt (upd G1 l2 (.lst [])) l2 [] := ⟨⟨[], upd_same, rfl⟩, fun q h => absurd h List.not_mem_nil⟩
  have d2 := d1.same s2
  have k2 := k1.trans (Keep.same s2)
  generalize upd G1 l2 (.lst []) = G2 at hS2 d2 k2 ⊢
  refine ⟨p, r, l2, _, 3, [], "I", rfl, by decide +kernel, by omega, d2, hS2, by decide, by omega, fun v3 g3 G3 k3 d3 a3 h3 => ?_⟩
  refine ⟨_, rfl, by show 0 ≤ sizeLine; decide, fun l4 hl4 => ?_⟩
  have s4 := same_new hl4 (.lst [])
  have hS4 : ScAt (upd G3 l4 (.lst [])) l4 [] := ⟨⟨[], upd_same, rfl⟩, fun q h => absurd h List.not_mem_nil⟩
  have d4 := d3.same s4
  have a34 := a3.keep (fr_same s4)
  have k4 := (k2.trans k3).trans (Keep.same s4)
  generalize upd G3 l4 (.lst []) = G4 at hS4 d4 a34 k4 ⊢
  refine ⟨p, r, l4, _, 4, [], "L", rfl, by decide +kernel, by omega, d4, hS4, by decide, by omega, fun v5 g5 G5 k5 d5 a5 h5 => ⟨by show 2 ≤ sizeLine; decide, fun t6 ht6 => ⟨by show 3 ≤ sizeLine; decide, fun t7 ht7 => ?_⟩⟩⟩
  have s6 := same_new ht6 (.tup [v3, v5])
  have s7 := same_new ht7 (.tup [.str "con", .int 1, .ref t6])
  have s67 := sameT s6 s7
  have f67 := fr_same (B := F0) s67
  have e7 : (Dd.tup [.str "con", .int 1, .tup [g3, g5]]).At F0 (upd (upd G5 t6 (.tup [v3, v5])) t7 (.tup [.str "con", .int 1, .ref t6])) (.ref t7) := at_tup upd_same (ats_cons (at_str' (by decide +kernel)) (ats_cons at_int' (ats_cons (at_tup (s7 _ _ upd_same) (ats_cons ((a34.keep (fr_keep k5 d4)).keep f67) (ats_cons (a5.keep f67) ats_nil))) ats_nil)))
  have d7 := d5.same s67
  have k7 := (k4.trans k5).trans (Keep.same s67)
  have hmg : Gz 17 31000 [] (.tup [.str "con", .int 1, .tup [g3, g5]]) := (gz_con (n := 14) (z := 15330) (c := 2) (i := 1) (l := [g3, g5]) (by omega) (by omega) (Nat.le_refl _) fun k h => by
    simp only [List.mem_cons, List.not_mem_nil, or_false] at h
    rcases h with rfl | rfl
    · exact h3.mono (by omega) (by decide) fun s h => h
    · exact h5.mono (by omega) (by decide) fun s h => h).mono (by omega) (by omega) fun s h => h
  have eD7 := k7 _ _ nDp eD
  have aD7 := aD.keep (fr_keep k7 dG)
  generalize upd (upd G5 t6 (.tup [v3, v5])) t7 (.tup [.str "con", .int 1, .ref t6]) = G7 at e7 d7 k7 eD7 aD7 ⊢
  show gName 10 (V.ref t7) _ _ _
  refine ⟨_, rfl, _, rfl, _, rfl, Df, _, rfl, SqL.of eD7, fun l1 hl1 => ?_⟩
  rw [cut_to _ _ ha7] at *
  have s8 := same_new hl1 (.lst (dxs.take a))
  have e8 := s8 _ _ eD7
  have c8 : upd G7 l1 (.lst (dxs.take a)) l1 = some (.lst (dxs.take a)) := upd_same
  have a8 := e7.keep (fr_same (B := F0) s8)
  have aD8 := aD7.keep (fr_same (B := F0) s8)
  have d8 := d7.same s8
  have k8 := k7.trans (Keep.same s8)
  generalize upd G7 l1 (.lst (dxs.take a)) = G8 at s8 e8 c8 a8 aD8 d8 k8 ⊢
  clear s8
  refine ⟨_, rfl, by show 2 ≤ sizeLine; decide, fun t9 ht9 => ⟨by show 1 ≤ sizeLine; decide, fun l9 hl9 => ?_⟩⟩
  have s9 := sameT (same_new ht9 (.tup [.str "main", .ref t7])) (same_new hl9 (.lst [.ref t9]))
  have m9 : (defD ("main", Dd.tup [.str "con", .int 1, .tup [g3, g5]])).At F0 (upd (upd G8 t9 (.tup [.str "main", .ref t7])) l9 (.lst [.ref t9])) (.ref t9) := at_tup ((same_new hl9 (.lst [.ref t9])) _ _ upd_same) (ats_cons (at_str' (show ("main" : Str).length ≤ 1000 by decide +kernel)) (ats_cons (a8.keep (fr_same s9)) ats_nil))
  have b9 : upd (upd G8 t9 (.tup [.str "main", .ref t7])) l9 (.lst [.ref t9]) l9 = some (.lst [.ref t9]) := upd_same
  have e9 := s9 _ _ e8
  have c9 := s9 _ _ c8
  have aD9 := aD8.keep (fr_same (B := F0) s9)
  have d9 := d8.same s9
  have k9 := k8.trans (Keep.same s9)
  generalize upd (upd G8 t9 (.tup [.str "main", .ref t7])) l9 (.lst [.ref t9]) = G9 at s9 m9 b9 e9 c9 aD9 d9 k9 ⊢
  clear s9
  have z1 : (dxs.take a).length ≤ 7 := by rw [List.length_take]; omega
  have z2 : (dxs.drop a).length ≤ 7 := by rw [List.length_drop]; omega
  have hs7 : 30 ≤ sizeLine := by decide
  refine ⟨l1, l9, _, _, rfl, rfl, c9, b9, by show _ + 1 ≤ sizeLine; omega, fun l10 hl10 => ?_⟩
  have s10 := same_new hl10 (.lst (dxs.take a ++ [.ref t9]))
  have c10 : upd G9 l10 (.lst (dxs.take a ++ [.ref t9])) l10 = some (.lst (dxs.take a ++ [.ref t9])) := upd_same
  have e10 := s10 _ _ e9
  have m10' := m9.keep (fr_same (B := F0) s10)
  have aD10 := aD9.keep (fr_same (B := F0) s10)
  have d10 := d9.same s10
  have k10 := k9.trans (Keep.same s10)
  generalize upd G9 l10 (.lst (dxs.take a ++ [.ref t9])) = G10 at s10 c10 e10 m10' aD10 d10 k10 ⊢
  clear s10
  refine ⟨_, rfl, _, rfl, _, rfl, Df, _, rfl, SqL.of e10, fun l11 hl11 => ?_⟩
  rw [cut_from _ _ ha7] at *
  have s11 := same_new hl11 (.lst (dxs.drop a))
  have b11 : upd G10 l11 (.lst (dxs.drop a)) l11 = some (.lst (dxs.drop a)) := upd_same
  have c11 := s11 _ _ c10
  have m11' := m10'.keep (fr_same (B := F0) s11)
  have aD11 := aD10.keep (fr_same (B := F0) s11)
  have d11 := d10.same s11
  have k11 := k10.trans (Keep.same s11)
  generalize upd G10 l11 (.lst (dxs.drop a)) = G11 at s11 b11 c11 m11' aD11 d11 k11 ⊢
  clear s11
  refine ⟨l10, l11, _, _, rfl, rfl, c11, b11, by rw [List.length_append]; show _ + 1 + _ ≤ sizeLine; omega, fun l12 hl12 => ?_⟩
  refine ⟨l12, _, rfl, .inl ⟨SqL.of upd_same, fun t13 ht13 => ?_⟩⟩
  have s13 := sameT (same_new hl12 (.lst (dxs.take a ++ [.ref t9] ++ dxs.drop a))) (same_new ht13 (.tup (dxs.take a ++ [.ref t9] ++ dxs.drop a)))
  refine ⟨by show 2 ≤ sizeLine; decide, fun t14 ht14 => ?_⟩
  have s14 := sameT s13 (same_new ht14 (.tup [.ref t13, .str "main"]))
  have f14 := fr_same (B := F0) s14
  have el : (l.take a ++ [(("main" : Str), Dd.tup [.str "con", .int 1, .tup [g3, g5]])] ++ l.drop a).map defD = (l.map defD).take a ++ [defD ("main", Dd.tup [.str "con", .int 1, .tup [g3, g5]])] ++ (l.map defD).drop a := by
    rw [List.map_append, List.map_append, List.map_take, List.map_drop]
    rfl
  refine q _ (l.take a ++ [(("main" : Str), Dd.tup [.str "con", .int 1, .tup [g3, g5]])] ++ l.drop a) _ (kG.trans (k11.trans (Keep.same s14))) ((d11.same s14).more (by omega)) (at_tup upd_same (ats_cons (at_tup ((same_new ht14 (.tup [.ref t13, .str "main"])) _ _ upd_same) ?_) (ats_cons (at_str' (by decide +kernel)) ats_nil))) ⟨fun q hq => ?_, a, ?_⟩
  · rw [el]
    exact ats_app (ats_app (ats_take a (aD11.keep f14)) (ats_one (m11'.keep f14))) (ats_dropN a (aD11.keep f14))
  · rcases List.mem_append.mp hq with h | h
    · rcases List.mem_append.mp h with h | h
      · exact hlg q (List.mem_of_mem_take h)
      · rw [List.mem_singleton.mp h]
        exact hmg
    · exact hlg q (List.mem_of_mem_drop h)
  · rw [List.map_append, List.map_append, List.map_take, List.map_drop, hln]
    rfl
end
end Toy

set_option Elab.async false
set_option linter.all false
set_option maxRecDepth 100000
set_option maxHeartbeats 4000000
/-! Part J3: own rules for errors: a base class's __init__ called by its class, a def that lets an error out, three clauses that name the error. -/
namespace Toy
open PySem PySem.Spec PyProof.Rows L2
section
variable {X : Cx} {o e : Expr} {es : List Expr} {ta : TA} {x : Str} {CN : Addr} {mc : Value} {p1 p2 pos : Pos}
/-- B.__init__(self, ..), B a class of the program that has ValueError's -/
theorem pe_binit {pl : Sem Bool} (hg : Gl X x) (hm : X.mg x = some (.ref CN)) (r : ClX.CRead X.K CN mc) (vV : PySem.W.findCls X.K (.ref CN) mc "__init__" = some (.val (.builtin "ValueError.__init__"))) (ha : PA X (e :: es) ta)
    (hdb : (x == ("__debug__" : Str)) = false := by decide)
    (hc : eval (.Call (.Attribute (.Name x p1) "__init__" p2) (e :: es) [] pos) X.env = (do
      let ov ← eval (.Name x p1) X.env
      standAt p2.atName
      let (f, first) ← holding [ov] (getMethod ov "__init__" pl)
      callWith pos f first (backTo pos (starEach (e :: es) X.env)) (backToKw pos (keywordEach [] X.env))) := by rfl)
    (he : starEach (e :: es) X.env = (false, eval e X.env) :: starEach es X.env := by rfl) (hpl : (backTo pos (starEach es X.env)).any (·.1) = false := by rfl) :
    PE X (.Call (.Attribute (.Name x p1) "__init__" p2) (e :: es) [] pos) (tVeI X.K ta) := by
  refine ⟨fun pins s σ H Q I h => ?_⟩
  refine PySem.W.methodCall_KW (ld_glob I hg hm ?_ hdb) hc
  refine PySem.W.method_cls I.kIn r.ga (PySem.W.cls_value I.kIn r.rd vV (by decide +kernel) ?_)
  show wpAny _ _ (callWith pos (Value.builtin "ValueError.__init__") [] (backTo pos (starEach (e :: es) X.env)) []) _ _ _
  refine PyProof.Rows.callWith_method1 (thn (ha.run pos pins _ σ H _ (I.tok _) h) fun us s1 ⟨vs, H1, I1, r1, a, C, ws, ev, hl, T, ea, q⟩ => ?_) he hpl
  subst ev
  cases r1 with
  | @cons _ u0 _ ur ra rw' =>
    obtain rfl : u0 = Value.ref a := ra
    have hlen : ur.length ≤ sizeLine := by
      rw [← Paired.length rw', sizeLine_eq]
      omega
    exact oinit_ok T I1 ea hlen fun s' J => ⟨.non, H1, J, rfl, q⟩
end
/-- a def that may let an error out, called by its name -/
structure CalX (P : Program) (w : World) (K : PySem.W.Frag) (mg : Str → Option Value) (base : Heap) (k : Nat) (x : Str) (sp : Sp) : Prop where
  ex : ∃ (f : Addr) (fd : FuncData) (ps : List Str), FnOk P w K mg base (L2.CX P w) k f fd ps sp ∧ mg x = some (.ref f) ∧ PySem.W.keepIn K (.ref f) = true ∧ Binds K fd ps []
section
variable {P : Program} {w : World} {K : PySem.W.Frag} {mg : Str → Option Value} {base : Heap}
theorem calX_of {x : Str} {st : Stmt} {f : Addr} {fd : FuncData} {N ps : List Str} {k : Nat} {sp : Sp} (F : Fun K x x st f fd) (hm : mg x = some (.ref f)) (b : Binds K fd ps []) (S : FnScope N ps (defScope st)) (len : ∀ vs H Q E, sp vs H Q E → vs.length = ps.length)
    (hbody : ∀ (cdv : Value) (A : Around) (outer : List Env) (s : Shared) (H : Hp) (vs : List V) (Q : VK) (E : XK), Room k (A.deeper (envOfC x (defScope st) s.heap.objs.size f cdv)) → sp vs H Q E →
      ∃ t, PSs (cxOf (L2.CX P w) P w K mg base N x (defScope st) f cdv A outer s H E) (defBody st) t ∧ t { nx := fun _ H' => Q .non H', rt := Q } (start N vs) H) : CalX P w K mg base (k + 1) x sp :=
  ⟨f, fd, ps, F.okX S len hbody, hm, F.kp, b⟩
end
theorem pe_cx {X : Cx} {k j : Nat} {x : Str} {sp : Sp} {W : WX} {p pos : Pos} {e : Expr} {es : List Expr} {t : TA} (c : CalX X.prog X.w X.K X.mg X.base k x sp) (hr : Room j X.A) (hk : k ≤ j) (hg : Gl X x) (tk : Takes X W) (ha : PA X (e :: es) t)
    (hdb : (x == ("__debug__" : Str)) = false := by decide) (he : starEach (e :: es) X.env = (false, eval e X.env) :: starEach es X.env := by rfl) (hpl : (backTo pos (starEach es X.env)).any (·.1) = false := by rfl) :
    PE X (.Call (.Name x p) (e :: es) [] pos) (tCallS sp (WE W) t) := by
  obtain ⟨f, fd, ps, F, hm, kp, b⟩ := c.ex
  exact pe_callS F (hr.mono hk) hg hm kp b (fun σ => passAt tk σ) ha hdb he hpl
section
variable {X : Cx} {n x1 x2 x3 : Str} {c1 c2 c3 : Value} {i : Nat} {body u1 u2 u3 : List Stmt} {b1 b2 b3 : Stmt} {np1 np2 np3 q1 q2 q3 pos : Pos} {tb : WX → TS} {t1 t2 t3 : Addr → Value → Option Addr → TS} {Wout : WX}
/-- try: .. / except c1 as n: .. / except c2 as n: .. / except c3 as n: .. -/
theorem ps_try_as3 (hs : X.stack = X.env :: X.outer) (hf : X.env.frame = some X.env.locals) (hN : X.N.Nodup) (hi : X.N[i]? = some n) (hln : X.env.kindOf n = some .local) (hc1 : Names X x1 c1) (hc2 : Names X x2 c2) (hc3 : Names X x3 c3) (tk : Takes X Wout)
    (hb : ∀ (W : WX) (pn : List (Addr × Obj)) (xe : Value → Shared → Prop), Takes (X.tr pn xe) W → PassesOwn (model X.prog X.w) X.A X.env xe → PSs (X.tr pn xe) body (tb W))
    (hu1 : ∀ (a : Addr) (oe : Obj) (cls : Value) (d : Option Addr) (pn : List (Addr × Obj)), Zc cls d oe → (∃ vs, oe.data = .fields vs) → PSs (X.suite a ((a, oe) :: pn)) (b1 :: u1) (t1 a cls d))
    (hu2 : ∀ (a : Addr) (oe : Obj) (cls : Value) (d : Option Addr) (pn : List (Addr × Obj)), Zc cls d oe → (∃ vs, oe.data = .fields vs) → PSs (X.suite a ((a, oe) :: pn)) (b2 :: u2) (t2 a cls d))
    (hu3 : ∀ (a : Addr) (oe : Obj) (cls : Value) (d : Option Addr) (pn : List (Addr × Obj)), Zc cls d oe → (∃ vs, oe.data = .fields vs) → PSs (X.suite a ((a, oe) :: pn)) (b3 :: u3) (t3 a cls d)) :
    PS X (.Try body [.ExceptHandler (some (.Name x1 np1)) (some n) (b1 :: u1) q1, .ExceptHandler (some (.Name x2 np2)) (some n) (b2 :: u2) q2, .ExceptHandler (some (.Name x3 np3)) (some n) (b3 :: u3) q3] [] [] pos) (fun D σ H => tb (wAs X.K c1 i t1 (wAs X.K c2 i t2 (wAs X.K c3 i t3 Wout D) D) D) D σ H) := by
  refine ⟨fun pins s σ H D I h => ?_⟩
  have ok := I.ok
  have hfr : X.A.frames = some (X.env :: X.outer) := by rw [ok.frames, hs]
  have hloc : Loc X.env.scope n := .inl hln
  refine wpAny_Try_except ?_
  refine wpAny_mono ((hb _ (X.pn ++ pins) (fun e s₁ => wpAny (model X.prog X.w) X.A (noteFrame e X.env) (fun _ s₂ => wpAny (model X.prog X.w) X.A (setFlight e none) (fun _ s₃ =>
    wpAny (model X.prog X.w) X.A (handleBy e X.env [.ExceptHandler (some (.Name x1 np1)) (some n) (b1 :: u1) q1, .ExceptHandler (some (.Name x2 np2)) (some n) (b2 :: u2) q2, .ExceptHandler (some (.Name x3 np3)) (some n) (b3 :: u3) q3]) (SP X pins D) X.xe s₃) X.xe s₂) X.xe s₁) (fun u s' air => ?_) PassesOwn.looking).run [] s σ H D (I.toTry _) h)
    (fun f s1 hsp => ?_) (fun e s1 he => he)
  · obtain ⟨a, B, sI, pins', σ', H', cls, d, rfl, J', nb, up, sky, na, os, ag, wish⟩ := air
    have J : Inv X pins σ' H' sI := J'.ofTry ok
    have sky' : Sky B (X.env :: X.outer) a (Zc cls d) X.env.locals s'.heap := by rw [← hs]; exact sky
    show wpAny (model X.prog X.w) X.A (noteFrame (.ref a) X.env) _ _ _
    refine Sky.land Zc.steady hfr hf sky' fun h3 fl3 up3 => ?_
    have J3 : Inv X pins σ' H' { s' with heap := h3 } := J.landed nb fl3.1 (up.trans up3) os ag
    obtain ⟨oe3, vs3, he3, hz3, hd3⟩ := fl3.there
    have nfr : a ∉ frs (X.env :: X.outer) := fun hm => by
      obtain ⟨_, o', e', hnf⟩ := fl3.2.2.1.mem hm
      rw [he3] at e'
      cases e'
      exact hnf _ hd3
    have nL : a ≠ X.env.locals := fun z => nfr (List.mem_filterMap.mpr ⟨X.env, List.mem_cons_self, by rw [hf, z]⟩)
    have nF : a ∉ X.fs := fun hm => by
      obtain ⟨e, he, q⟩ := List.mem_filterMap.mp hm
      exact nfr (List.mem_filterMap.mpr ⟨e, List.mem_cons_of_mem _ he, q⟩)
    have S3 := J3.suite he3 hd3 na nL nF
    -- one clause, whatever stands behind it
    have one : ∀ {x : Str} {c : Value} {ts : Addr → Value → Option Addr → TS} {b₀ : Stmt} {suite : List Stmt} {np q : Pos} {hds : List ExceptHandler} {Wn : WX}, Names X x c →
        (∀ (a : Addr) (oe : Obj) (cls : Value) (d : Option Addr) (pn : List (Addr × Obj)), Zc cls d oe → (∃ vs, oe.data = .fields vs) → PSs (X.suite a ((a, oe) :: pn)) (b₀ :: suite) (ts a cls d)) →
        wAs X.K c i ts Wn D cls d σ' H' → (Wn cls d σ' H' → wpAny (model X.prog X.w) X.A (handleBy (.ref a) X.env hds) (SP X pins D) X.xe { s' with heap := h3 }) →
        wpAny (model X.prog X.w) X.A (handleBy (.ref a) X.env (.ExceptHandler (some (.Name x np)) (some n) (b₀ :: suite) q :: hds)) (SP X pins D) X.xe { s' with heap := h3 } := by
      intro x c ts b₀ suite np q hds Wn hc hsu ⟨b, hb1, hyes, hno⟩ next
      refine wpAny_handleBy_cons (codeAny_handlers_test ?_) (by intro q; cases q)
      have LT : PySem.W.Looks (model X.prog X.w) h3 (typeOf (.ref a)) cls := fun A Q E s k q => wpAny_typeOf_ref (k _ _ he3) (by rw [hz3.1]; exact q)
      have LM := PySem.W.exm_one (M := model X.prog X.w) J3.kIn LT hb1
      have test : ∀ {Q : Value → Shared → Prop} {E : Value → Shared → Prop}, Q c { s' with heap := h3 } → wpAny (model X.prog X.w) (X.A.mark (some (.ref a))) (eval (.Name x np) X.env) Q E { s' with heap := h3 } := fun {Q E} q => by
        obtain ⟨hg, hdbg, hm | ⟨hm, hv, hnn⟩⟩ := hc
        · exact ld_glob (X := X.suite a ((a, oe3) :: (X.pn ++ pins))) S3 hg hm q hdbg
        · exact ld_blt (X := X.suite a ((a, oe3) :: (X.pn ++ pins))) S3 hg hm hv q hnn hdbg
      refine test (LM.here ?_)
      cases b with
      | false => exact next (hno rfl)
      | true =>
        refine codeAny_handlers_suite_as (HandSPX.lands_againZ fl3 fun h4 fl4 up4 => ?_)
        have J4 : Inv X pins σ' H' { s' with heap := h4 } := J.landed nb fl4.1 ((up.trans up3).trans up4) os ag
        obtain ⟨oe4, vs4, he4, hz4, hd4⟩ := fl4.there
        refine store_ok (X := X.suite a ((a, oe4) :: (X.pn ++ pins))) (v := .ref a) (J4.suite he4 hd4 na nL nF) hN hi hloc rfl (fun s5 S5 => ?_) (.inr hln)
        refine wpAny_mono ((hsu a oe4 cls d (X.pn ++ pins) hz4 ⟨_, hd4⟩).run [] s5 _ H' _ S5 (hyes rfl a na)) (fun f s6 hsp => ?_) (fun _ _ z => False.elim z)
        have leave : ∀ {σ6 : L2.St} {H6 : Hp} {Q : Shared → Prop}, Inv (X.suite a ((a, oe4) :: (X.pn ++ pins))) [] σ6 H6 s6 → (∀ s7, Inv X pins (σ6.set i none) H6 s7 → Q s7) →
            wpAny (model X.prog X.w) X.A (do bindName X.env n .none; unbindBehindTheSuite X.env n q) (fun _ s7 => Q s7) X.xe s6 := fun {σ6 H6 Q} S6 hq => gone_ok (S6.unsuite ok) hN hi hln hq
        cases f with
        | ret u =>
          obtain ⟨v6, σ6, H6, S6, r6, q6⟩ := hsp
          exact leave S6 fun s7 J7 => ⟨_, _, _, J7, r6, q6⟩
        | next =>
          obtain ⟨σ6, H6, S6, q6⟩ := hsp
          exact leave S6 fun s7 J7 => ⟨_, _, J7, q6⟩
        | brk =>
          obtain ⟨σ6, H6, S6, q6⟩ := hsp
          exact leave S6 fun s7 J7 => ⟨_, _, J7, q6⟩
        | cont =>
          obtain ⟨σ6, H6, S6, q6⟩ := hsp
          exact leave S6 fun s7 J7 => ⟨_, _, J7, q6⟩
    refine one hc1 hu1 wish fun wish2 => one hc2 hu2 wish2 fun wish3 => one hc3 hu3 wish3 fun wish4 => ?_
    -- no clause takes it
    refine wpAny_handleBy_nil ?_
    obtain ⟨k1, k2, k3, oe, vs, T, oT, ts', he, hz, hd, h1, hr⟩ := id fl3
    unfold PySem.passOn
    refine wpAny_bind (wpAny_field he hd h1 ?_)
    rw [if_neg (show ¬ ((Value.ref T == Value.none) = true) from by simp)]
    have fin : wpAny (model X.prog X.w) X.A (setFlight (.ref a) X.env.frame) (fun _ s4 => wpAny (model X.prog X.w) X.A (throw (.ref a) : Sem Flow) (SP X pins D) X.xe s4) X.xe { s' with heap := h3 } := by
      rw [hf]
      refine HandSPX.setFlight_upZ fl3 fun h4 hh4 up4 => wpAny_throw (tk _ _ ?_)
      exact ⟨a, B, sI, pins, σ', H', cls, d, rfl, J, nb, (up.trans up3).trans up4, .inr (.inr (by rw [hs]; exact hh4)), na, os, ag, wish4⟩
    first
      | exact wpAny_bind (wpAny_pure (wpAny_bind fin))
      | exact wpAny_bind fin
  · cases f with
    | next =>
      obtain ⟨σ', H', J', q⟩ := hsp
      exact wpAny_execs_nil ⟨σ', H', J'.ofTry ok, q⟩
    | brk =>
      obtain ⟨σ', H', J', q⟩ := hsp
      exact ⟨σ', H', J'.ofTry ok, q⟩
    | cont =>
      obtain ⟨σ', H', J', q⟩ := hsp
      exact ⟨σ', H', J'.ofTry ok, q⟩
    | ret u =>
      obtain ⟨v, σ', H', J', r, q⟩ := hsp
      exact ⟨v, σ', H', J'.ofTry ok, r, q⟩
end

/-! ### isinstance(e, c), e the error that the suite holds, with its dict -/
def rIsX (K : PySem.W.Frag) (a : Addr) (cls : Value) (d : Option Addr) : List V → Hp → VK → Prop := fun xs H Q => ∃ (D dd : Addr) (fs : List (Str × V)) (c : V) (cv : Value) (b : Bool), xs = [.ref a, c] ∧ cls = .ref D ∧ ExcC K D ∧ d = some dd ∧ H dd = some (.xd fs) ∧
  (∀ u, RelV c u → u = cv) ∧ PySem.W.kitOne K (.ref D) cv = some b ∧ Q (.bl b) H
theorem call_isX {X : Cx} {a : Addr} {oe : Obj} {cls : Value} {d : Option Addr} {pn : List (Addr × Obj)} (hz : Zc cls d oe) (hf : ∃ vs, oe.data = .fields vs) : CallR (X.suite a ((a, oe) :: pn)) (.builtin "isinstance") (rIsX X.K a cls d) := by
  intro pins s σ H xs us Q I r h
  obtain ⟨D, dd, fs, c, cv, b, rfl, rfl, C, rfl, ea, hcv, e, q⟩ := h
  cases r with
  | cons rx rr =>
    cases rr with
    | cons rt rr =>
      cases rr
      cases rx
      have ec := hcv _ rt
      subst ec
      obtain ⟨hget, _⟩ := I.pin (a, oe) (List.mem_append.mpr (.inl List.mem_cons_self))
      obtain ⟨vs, hv⟩ := hf
      have hx : ObjOk X.prog X.w H s.heap dd (.xd fs) := I.hok dd _ ea
      obtain ⟨mA, hns, hr⟩ := hx
      obtain ⟨od, ho, hl⟩ := lookIn_ns hns
      have J : PySem.W.InstAt s.heap a oe D (some od) := ⟨hget, hz.1, by unfold PySem.W.notCls; rw [hv] <;> rfl, by rw [hz.2]; exact ho⟩
      have hcl : (PySem.W.clsIn X.K D).isSome = true := by
        obtain ⟨cd, hc, _⟩ := PySem.W.any_some C.hd
        rw [hc] <;> rfl
      exact PySem.W.kia_one (PySem.W.kitx_exc hcl C.hg C.hk C.hs C.ha C.hn C.ht C.hm) I.kIn J e (fun z => nomatch z) fun tk => ⟨.bl b, H, I.kept (t' := tk) fun _ _ z => z, rfl, q⟩

/-! ### y = {k: v for ..} -/
section
variable {X : Cx}
theorem ps_setDc {i : Nat} {y : Str} {py : Pos} {kx vx tg iter : Expr} {ifs : List Expr} {scope : Scope} {own : List (Str × Nat)} {pos spos : Pos} {wi : TI} {g : TG} {tt : TT} {tk tv : TE} (hc : X.calm = true) (hN : X.N.Nodup) (hy : X.N[i]? = some y) (hyl : X.env.scope.names.lookup y = some .local)
    (hsw : swapsWith (.DictComp kx vx [⟨tg, iter, ifs, 0⟩] scope pos) (some (.Name y py)) spos.line X.env = pure true) (hi : PI X tg iter wi) (ok : BlkOk X.N X.env.scope scope own)
    (hg : ∀ (s : Shared) (H : Hp) (C : Addr) (cl : List (Str × Addr)) (fp : List Addr), PG (X.blk s H scope (compEnvC scope cl C X.env) fp) tg g) (ht : ∀ (s : Shared) (H : Hp) (C : Addr) (cl : List (Str × Addr)) (fp : List Addr), PTs (X.blk s H scope (compEnvC scope cl C X.env) fp) ifs tt)
    (hk : ∀ (s : Shared) (H : Hp) (C : Addr) (cl : List (Str × Addr)) (fp : List Addr), PE (X.blk s H scope (compEnvC scope cl C X.env) fp) kx tk)
    (he : ∀ (s : Shared) (H : Hp) (C : Addr) (cl : List (Str × Addr)) (fp : List Addr), PE (X.blk s H scope (compEnvC scope cl C X.env) fp) vx tv) (hs : ∀ x, foldedSetIterable iter X.env x = pure x := by intro _; rfl) :
    PS X (.Assign [.Name y py] (.DictComp kx vx [⟨tg, iter, ifs, 0⟩] scope pos) spos) (tAsg (tDc wi g tt tk tv (own.map (·.2))) (gName i)) := by
  refine ⟨fun pins s σ H D I h => ?_⟩
  rw [exec_Assign_Name_used _ _ _ _ hsw]
  refine wpAny_bind (wpAny_standAt (wpAny_bind ?_))
  show wpAny _ X.A (do let _ ← comprehension (.DictComp kx vx [⟨tg, iter, ifs, 0⟩] scope pos) scope X.env (firstIterPos [⟨tg, iter, ifs, 0⟩] pos) newDict false (eval iter X.env) (some (assign (.Name y py) X.env))) _ _ s
  have h : tDc wi g tt tk tv (own.map (·.2)) σ H (fun x H1 => gName i x σ H1 D.nx) := h
  refine wpAny_bind (thn (dc_core (Qf := fun _ s' => SP X pins D .next s') hc hN I hi ok hg ht hk he hs h fun L C s' m H' I' q hn f => ?_) fun _ s' hq => wpAny_pure (wpAny_pure hq))
  show wpAny _ _ (assign (.Name y py) X.env (.ref L)) _ _ _
  refine wpAny_assign_Name (store_ok2 (v := V.ref L) I' hN hy (.inl hyl) rfl (fun s2 I2 ⟨a, sb, ha⟩ => ?_) (.inr hyl))
  obtain ⟨f0, f1, f2, f3, f4, f5⟩ := f
  have haC : C ≠ a := by
    rcases ha with z | z
    · rw [z]; exact f1
    · exact fun e => f4 y a z e.symm
  refine ⟨m, hn.sameBut sb haC, fun h3 sb3 => ?_⟩
  exact ⟨_, H', I2.turned (t' := s2.toks) (fun b o hb e => (sb3.2 b hb).trans e) f0 f1 f3 f4 f5, q⟩
theorem sw_trueD {kx vx : Expr} {gs : List Comprehension} {scope : Scope} {pos py : Pos} {y : Str} {l : Nat} {env : Env} (hk : env.scope.kind = .function) (hy : env.scope.names.lookup y = some .local) (hl : (py.line == pos.line) = true)
    (ha : (scope.names.any fun (n, k) => n == y && (k == .local || k == .cell)) = false) : swapsWith (.DictComp kx vx gs scope pos) (some (.Name y py)) l env = pure true := by
  have ky : env.kindOf y = some .local := hy
  have hb : env.blockKind = .function := by unfold Env.blockKind; rw [hk]; rfl
  unfold swapsWith
  simp only [hb, ky, ha, Expr.pos, hl]
  rfl
end
end Toy

set_option Elab.async false
set_option linter.all false
set_option maxRecDepth 100000
set_option maxHeartbeats 4000000
/-! Part K3: what is wrong with a program, in plain Lean; the errors' own __init__; check_program. -/
namespace Toy
open PySem L2
open PyProof.Rows (envOfC)
/-- what is told of a program -/
inductive Vd where
  | bad (s : Str)
  | unb (s : Str)
  | twice (s : Str)
  | sound
/-- its free names, in order -/
noncomputable def frl (k : Dd) : List Str := open Classical in if h : ∃ ys, Up ys ∧ ∀ s, s ∈ ys ↔ fr k s then Classical.choose h else []
theorem frl_eq {ys : List Str} {k : Dd} (u : Up ys) (m : ∀ s, s ∈ ys ↔ fr k s) : frl k = ys := by
  have h : ∃ ys, Up ys ∧ ∀ s, s ∈ ys ↔ fr k s := ⟨ys, u, m⟩
  unfold frl
  rw [dif_pos h]
  obtain ⟨h1, h2⟩ := Classical.choose_spec h
  exact up_eq h1 u fun s => (h2 s).trans (m s).symm
def outF (ns ys : List Str) : Option Str := ys.find? fun s => decide (s ∉ ns)
noncomputable def firstBad (ns : List Str) : List (Str × Dd) → Option (Bool × Str)
  | [] => none
  | q :: r => if isTT q.2 = false then some (true, q.1) else match outF ns (frl q.2) with | some s => some (false, s) | none => firstBad ns r
def twiceIn : List Str → List Str → Option Str
  | _, [] => none
  | seen, x :: r => if x ∈ seen then some x else twiceIn (seen ++ [x]) r
noncomputable def vd (l : List (Str × Dd)) (m : Str) : Vd :=
  match firstBad (l.map (·.1)) l with
  | some (true, s) => .bad s
  | some (false, s) => .unb s
  | none => match twiceIn [] (l.map (·.1)) with
    | some s => .twice s
    | none => if m ∈ l.map (·.1) then .sound else .unb m
/-- an error of the program: its class, and its __init__ -/
structure ErrC (K : PySem.W.Frag) (mg : Str → Option Value) (C fI : Addr) (nm : Str) : Prop where
  o : OexC K C
  i : PySem.W.findIn K (.ref C) "__init__" = some (some (.ref fI))
  t : PySem.W.typeIn K (.ref fI) = some (.type "function")
  n : PySem.W.findIn K (.ref C) "name" = some none
  x : XfC K C
  e : ExcC K C
  g : mg nm = some (.ref C)
structure ErrB (K : PySem.W.Frag) (mg : Str → Option Value) (CC : Addr) : Prop where
  gC : mg "CoreError" = some (.ref CC)
  rC : ClX.CRead K CC (.type "type")
  vC : PySem.W.findCls K (.ref CC) (.type "type") "__init__" = some (.val (.builtin "ValueError.__init__"))
def nameF (z : Str) : List (Str × V) := [(("name" : Str), .str z)]
def spInitN (K : PySem.W.Frag) : Sp := fun vs H Q _ => ∃ (a C : Addr) (z : Str), vs = [.ref a, .str z] ∧ z.length ≤ 1000 ∧ OexC K C ∧ PySem.W.findIn K (.ref C) "name" = some none ∧ H a = some (exo a C none) ∧
  ∀ dx, H dx = none → dx ≠ a → Q .non (upd (upd H dx (exd dx (nameF z))) a (exo a C (some dx)))
section
variable {P : Program} {w : World} {K : PySem.W.Frag} {mg : Str → Option Value} {base : Heap}
abbrev sBadI : Stmt := inClass (topS 3) 0
theorem scBadI : FnScope ["self", "name"] ["self", "name"] (defScope sBadI) := ⟨rfl, rfl, rfl, by decide +kernel, rfl, by decide +kernel, by decide +kernel⟩
theorem ok_BadI {CC f : Addr} {fd : FuncData} (R : ErrB K mg CC) (F : Fun K "__init__" "BadCore.__init__" sBadI f fd) : FnOk P w K mg base CX0 1 f fd ["self", "name"] (spInitN K) := by
  refine F.ok scBadI (fun vs H Q E h => ?_) (fun cdv A outer s H vs Q E hr h => ?_)
  · obtain ⟨a, C, z, rfl, _⟩ := h
    rfl
  obtain ⟨a, C, z, rfl, hz, O, n1, e, q⟩ := h
  refine ⟨_, (pss_cons (ps_expr (pe_binit rfl R.gC R.rC R.vC (pa_cons (pv 0) (pa_cons (pe_joined1 (pe_fmt (pv 1))) pa_nil))))
    (pss_one (ps_ost (pv 0) (pv 1)))), ?_⟩
  have lz : 1000 ≤ sizeLine := by rw [sizeLine_eq]; decide
  refine ⟨_, rfl, _, rfl, .inl ⟨z, rfl, by omega, ?_⟩⟩
  refine ⟨a, C, _, rfl, (by show 1 ≤ 1000; decide), O, e, ?_⟩
  exact ⟨_, rfl, _, rfl, a, C, rfl, O, n1, .inl ⟨e, fun dx hdx nda => q dx hdx nda⟩⟩
abbrev sUnbI : Stmt := inClass (topS 4) 0
theorem scUnbI : FnScope ["self", "name"] ["self", "name"] (defScope sUnbI) := ⟨rfl, rfl, rfl, by decide +kernel, rfl, by decide +kernel, by decide +kernel⟩
theorem ok_UnbI {CC f : Addr} {fd : FuncData} (R : ErrB K mg CC) (F : Fun K "__init__" "UnboundName.__init__" sUnbI f fd) : FnOk P w K mg base CX0 1 f fd ["self", "name"] (spInitN K) := by
  refine F.ok scUnbI (fun vs H Q E h => ?_) (fun cdv A outer s H vs Q E hr h => ?_)
  · obtain ⟨a, C, z, rfl, _⟩ := h
    rfl
  obtain ⟨a, C, z, rfl, hz, O, n1, e, q⟩ := h
  refine ⟨_, (pss_cons (ps_expr (pe_binit rfl R.gC R.rC R.vC (pa_cons (pv 0) (pa_cons (pe_joined1 (pe_fmt (pv 1))) pa_nil))))
    (pss_one (ps_ost (pv 0) (pv 1)))), ?_⟩
  have lz : 1000 ≤ sizeLine := by rw [sizeLine_eq]; decide
  refine ⟨_, rfl, _, rfl, .inl ⟨z, rfl, by omega, ?_⟩⟩
  refine ⟨a, C, _, rfl, (by show 1 ≤ 1000; decide), O, e, ?_⟩
  exact ⟨_, rfl, _, rfl, a, C, rfl, O, n1, .inl ⟨e, fun dx hdx nda => q dx hdx nda⟩⟩
abbrev sTwiI : Stmt := inClass (topS 5) 0
theorem scTwiI : FnScope ["self", "name"] ["self", "name"] (defScope sTwiI) := ⟨rfl, rfl, rfl, by decide +kernel, rfl, by decide +kernel, by decide +kernel⟩
theorem ok_TwiI {CC f : Addr} {fd : FuncData} (R : ErrB K mg CC) (F : Fun K "__init__" "TwiceBound.__init__" sTwiI f fd) : FnOk P w K mg base CX0 1 f fd ["self", "name"] (spInitN K) := by
  refine F.ok scTwiI (fun vs H Q E h => ?_) (fun cdv A outer s H vs Q E hr h => ?_)
  · obtain ⟨a, C, z, rfl, _⟩ := h
    rfl
  obtain ⟨a, C, z, rfl, hz, O, n1, e, q⟩ := h
  refine ⟨_, (pss_cons (ps_expr (pe_binit rfl R.gC R.rC R.vC (pa_cons (pv 0) (pa_cons (pe_joined1 (pe_fmt (pv 1))) pa_nil))))
    (pss_one (ps_ost (pv 0) (pv 1)))), ?_⟩
  have lz : 1000 ≤ sizeLine := by rw [sizeLine_eq]; decide
  refine ⟨_, rfl, _, rfl, .inl ⟨z, rfl, by omega, ?_⟩⟩
  refine ⟨a, C, _, rfl, (by show 1 ≤ 1000; decide), O, e, ?_⟩
  exact ⟨_, rfl, _, rfl, a, C, rfl, O, n1, .inl ⟨e, fun dx hdx nda => q dx hdx nda⟩⟩
theorem raise_read {C fI : Addr} {nm z : Str} (R : ErrC K mg C fI nm) {H : Hp} {Q : XK} (hz : z.length ≤ 1000) (q : ∀ d, H d = none → Q (.ref C) (some d) (upd H d (.xd (nameF z)))) :
    ∀ a, H a = none → spInitN K (.ref a :: ([.str z] ++ [])) (upd H a (exo a C none))
      (fun v H2 => v = .non ∧ ∃ (d : Addr) (fs : List (Str × V)), H2 a = some (exo a C (some d)) ∧ H2 d = some (exd d fs) ∧ H d = none ∧ Q (.ref C) (some d) (upd (del H2 a) d (.xd fs))) (fun _ _ _ => False) := by
  intro a ha
  refine ⟨a, _, z, rfl, hz, R.o, R.n, upd_same, fun dx hdx nda => ⟨rfl, dx, nameF z, upd_same, (by rw [upd_ne nda, upd_same]), ?_, ?_⟩⟩
  · rw [upd_ne nda] at hdx
    exact hdx
  · have hd0 : H dx = none := by
      rw [upd_ne nda] at hdx
      exact hdx
    have e : upd (del (upd (upd (upd H a (exo a C none)) dx (exd dx (nameF z))) a (exo a C (some dx))) a) dx (.xd (nameF z)) = upd H dx (.xd (nameF z)) := by
      funext b
      by_cases h1 : b = dx
      · rw [h1, upd_same, upd_same]
      · rw [upd_ne h1, upd_ne h1]
        by_cases h2 : b = a
        · rw [h2, del_same, ha]
        · rw [del_ne h2, upd_ne h2, upd_ne h1, upd_ne h2]
    rw [e]
    exact q dx hd0
structure Errs (P : Program) (w : World) (K : PySem.W.Frag) (mg : Str → Option Value) (base : Heap) (CB CU CT fB fU fT : Addr) (fdB fdU fdT : FuncData) : Prop where
  B : ErrC K mg CB fB "BadCore"
  U : ErrC K mg CU fU "UnboundName"
  T : ErrC K mg CT fT "TwiceBound"
  cB : FnOk P w K mg base CX0 1 fB fdB ["self", "name"] (spInitN K)
  cU : FnOk P w K mg base CX0 1 fU fdU ["self", "name"] (spInitN K)
  cT : FnOk P w K mg base CX0 1 fT fdT ["self", "name"] (spInitN K)
  bB : Binds K fdB ["self", "name"] []
  bU : Binds K fdU ["self", "name"] []
  bT : Binds K fdT ["self", "name"] []
def errOf (CB CU CT : Addr) : Vd → Option (Addr × Str)
  | .bad s => some (CB, s)
  | .unb s => some (CU, s)
  | .twice s => some (CT, s)
  | .sound => none
/-- a program, its terms any things -/
def PrC (l : List (Str × Dd)) : Prop := l.length ≤ 20 ∧ ∀ q ∈ l, q.2.sz ≤ 40000
theorem prog_at {B : Addr → Prop} {H : Hp} {l : List (Str × Dd)} {m : Str} {v : V} (h : (progD l m).At B H v) : ∃ (a t : Addr) (xs : List V), v = .ref a ∧ H a = some (.tup [.ref t, .str m]) ∧ H t = some (.tup xs) ∧ Dd.Ats B H (l.map defD) xs ∧ m.length ≤ 1000 := by
  obtain ⟨a, ys, rfl, ha, x0, ys0, rfl, h0, x1, ys1, rfl, h1, hn⟩ := h
  cases (show ys1 = [] from hn)
  obtain ⟨rfl, hm⟩ := (show x1 = .str m ∧ m.length ≤ 1000 from h1)
  obtain ⟨t, xs, rfl, ht, hs⟩ := h0
  exact ⟨a, t, xs, rfl, ha, ht, hs, hm⟩
theorem def_at {B : Addr → Prop} {H : Hp} {l : List (Str × Dd)} {xs : List V} (h : Dd.Ats B H (l.map defD) xs) {i : Nat} {x : V} (hx : xs[i]? = some x) : ∃ (q : Str × Dd) (t : Addr) (y : V), l[i]? = some q ∧ x = .ref t ∧ H t = some (.tup [.str q.1, y]) ∧ q.2.At B H y ∧ q.1.length ≤ 1000 := by
  obtain ⟨kk, hk, hkx⟩ := ats_get h hx
  rw [List.getElem?_map] at hk
  obtain ⟨q, hq, rfl⟩ := Option.map_eq_some_iff.mp hk
  obtain ⟨t, x1, y1, rfl, ht, hx1, hy1⟩ := pair_at (m := [.str q.1, q.2]) hkx rfl
  obtain ⟨rfl, hl⟩ := (show x1 = .str q.1 ∧ q.1.length ≤ 1000 from hx1)
  exact ⟨q, t, y1, hq, rfl, ht, hy1, hl⟩
theorem drop_at {α : Type} {l : List α} {i : Nat} {x : α} (h : l[i]? = some x) : l.drop i = x :: l.drop (i + 1) := by
  obtain ⟨h1, rfl⟩ := List.getElem?_eq_some_iff.mp h
  exact List.drop_eq_getElem_cons h1
theorem vd_bad {l : List (Str × Dd)} {m s : Str} (h : firstBad (l.map (·.1)) l = some (true, s)) : vd l m = .bad s := by unfold vd; rw [h]
theorem vd_unb {l : List (Str × Dd)} {m s : Str} (h : firstBad (l.map (·.1)) l = some (false, s)) : vd l m = .unb s := by unfold vd; rw [h]
theorem vd_twice {l : List (Str × Dd)} {m s : Str} (h : firstBad (l.map (·.1)) l = none) (h2 : twiceIn [] (l.map (·.1)) = some s) : vd l m = .twice s := by unfold vd; simp only [h, h2]
theorem vd_end {l : List (Str × Dd)} {m : Str} (h : firstBad (l.map (·.1)) l = none) (h2 : twiceIn [] (l.map (·.1)) = none) : vd l m = if m ∈ l.map (·.1) then .sound else .unb m := by unfold vd; simp only [h, h2]
theorem outF_cons {ns ys : List Str} {z : Str} : outF ns (z :: ys) = if z ∈ ns then outF ns ys else some z := by
  unfold outF
  rw [List.find?_cons]
  by_cases c : z ∈ ns
  · rw [if_pos c, decide_eq_false (not_not_intro c)]
  · rw [if_neg c, decide_eq_true c]
theorem map_take {l : List (Str × Dd)} {i : Nat} {q : Str × Dd} (h : l[i]? = some q) : (l.take (i + 1)).map (·.1) = (l.take i).map (·.1) ++ [q.1] := by
  rw [List.take_add_one, h, List.map_append]
  rfl
abbrev sCheck : Stmt := topS 57
theorem scCheck : FnScope ["program", "definitions", "main", "name", "names", "known", "term", "free", "seen", "_"] ["program"] (defScope sCheck) := ⟨rfl, rfl, rfl, by decide +kernel, rfl, by decide +kernel, by decide +kernel⟩
def spCheck (CB CU CT : Addr) : Sp := fun vs H Q E => ∃ (B : Addr → Prop) (v : V) (l : List (Str × Dd)) (m : Str), vs = [v] ∧ (progD l m).At B H v ∧ PrC l ∧ (errOf CB CU CT (vd l m) = none → ∀ H', Same H H' → Q .non H') ∧
  ∀ C s, errOf CB CU CT (vd l m) = some (C, s) → ∀ d H', H d = none → Same H H' → H' d = some (.xd (nameF s)) → E (.ref C) (some d) H'
theorem c_check {f CB CU CT fB fU fT : Addr} {fd fdB fdU fdT : FuncData} (R : Errs P w K mg base CB CU CT fB fU fT fdB fdU fdT) (cis_term : C8.Cal P w K mg base 6 "is_term" (spB isTT fun k => k.sz ≤ 1000000) []) (cfree_names : C8.Cal P w K mg base 5 "free_names" spFree []) (F : Fun K "check_program" "check_program" sCheck f fd) (b : Binds K fd ["program"] []) (hm : mg "check_program" = some (.ref f)) : CalX P w K mg base 7 "check_program" (spCheck CB CU CT) := by
  refine calX_of F hm b scCheck (fun vs H Q E h => ?_) (fun cdv A outer s H vs Q E hr h => ?_)
  · obtain ⟨B, v, l, m, rfl, _⟩ := h
    rfl
  obtain ⟨B0, v, l, m, rfl, hat0, ⟨hl20, hT⟩, qS, qE⟩ := h
  have hu := hu_of hr
  have hbig := big
  refine ⟨_, (pss_cons (ps_asg (pv 0) (pg_tup rfl (pgs_cons (pg_name (i := 1) scCheck.nd rfl (Or.inl rfl)) (pgs_cons (pg_name (i := 2) scCheck.nd rfl (Or.inl rfl)) pgs_nil))))
    (pss_cons (ps_setLc (i := 4) (own := [("name", 3), ("_", 9)]) (g := gTup K 2 (gCons (gName 3) (gCons (gName 9) (gNil)))) (tt := tYes) rfl scCheck.nd rfl rfl (sw_true rfl rfl rfl (by decide +kernel)) (pi_tup (pv 1)) (blkOk_by (own := [("name", 3), ("_", 9)]) (N := ["program", "definitions", "main", "name", "names", "known", "term", "free", "seen", "_"]) (sc := defScope sCheck) (by decide +kernel)) (fun _ _ _ _ _ => (pg_tup rfl (pgs_cons (pg_name (i := 3) scCheck.nd rfl (Or.inl rfl)) (pgs_cons (pg_name (i := 9) scCheck.nd rfl (Or.inl rfl)) pgs_nil)))) (fun _ _ _ _ _ => pts_nil) (fun _ _ _ _ _ => (pv 3)))
    (pss_cons (ps_setDc (i := 5) (own := [("name", 3)]) (g := gName 3) (tt := tYes) rfl scCheck.nd rfl rfl (sw_trueD rfl rfl rfl (by decide +kernel)) (pi_list (pv 4)) (blkOk_by (own := [("name", 3)]) (N := ["program", "definitions", "main", "name", "names", "known", "term", "free", "seen", "_"]) (sc := defScope sCheck) (by decide +kernel)) (fun _ _ _ _ _ => (pg_name (i := 3) scCheck.nd rfl (Or.inl rfl))) (fun _ _ _ _ _ => pts_nil) (fun _ _ _ _ _ => (pv 3)) (fun _ _ _ _ _ => pe_bl))
    (pss_cons (ps_for (passes_of rfl) rfl (pi_tup (pv 1)) (pg_tup rfl (pgs_cons (pg_name (i := 3) scCheck.nd rfl (Or.inl rfl)) (pgs_cons (pg_name (i := 6) scCheck.nd rfl (Or.inl rfl)) pgs_nil)))
      (pss_cons (ps_if (pt_not (pt_val (C8.pe_c cis_term hr (by decide) rfl (pa_cons (pv 6) pa_nil))))
      (pss_one (ps_raise rfl (takes_of rfl rfl rfl rfl) (pmk_oex R.B.o R.B.i R.B.t R.cB (hr.mono (by decide)) R.bB .nil C8.pass0 rfl R.B.g (pa_cons (pv 3) pa_nil))))
      pss_nil)
    (pss_one (ps_for (passes_of rfl) rfl (pi_list (C8.pe_c cfree_names hr (by decide) rfl (pa_cons (pv 6) pa_nil))) (pg_name (i := 7) scCheck.nd rfl (Or.inl rfl))
      (pss_one (ps_if (pt_cmp (pc_dnotin hu (pv 7) (pv 5)))
      (pss_one (ps_raise rfl (takes_of rfl rfl rfl rfl) (pmk_oex R.U.o R.U.i R.U.t R.cU (hr.mono (by decide)) R.bU .nil C8.pass0 rfl R.U.g (pa_cons (pv 7) pa_nil))))
      pss_nil))))))
    (pss_cons (ps_set (i := 8) scCheck.nd rfl (Or.inl rfl) pe_dnewK)
    (pss_cons (ps_for (passes_of rfl) rfl (pi_list (pv 4)) (pg_name (i := 3) scCheck.nd rfl (Or.inl rfl))
      (pss_cons (ps_if (pt_cmp (pc_din hu (pv 3) (pv 8)))
      (pss_one (ps_raise rfl (takes_of rfl rfl rfl rfl) (pmk_oex R.T.o R.T.i R.T.t R.cT (hr.mono (by decide)) R.bT .nil C8.pass0 rfl R.T.g (pa_cons (pv 3) pa_nil))))
      pss_nil)
    (pss_one (ps_dput hu (pv 8) (pv 3) pe_bl rfl))))
    (pss_one (ps_if (pt_cmp (pc_dnotin hu (pv 2) (pv 5)))
      (pss_one (ps_raise rfl (takes_of rfl rfl rfl rfl) (pmk_oex R.U.o R.U.i R.U.t R.cU (hr.mono (by decide)) R.bU .nil C8.pass0 rfl R.U.g (pa_cons (pv 2) pa_nil))))
      pss_nil)))))))), ?_⟩
  have hat := hat0.here
  obtain ⟨a, t, xs, rfl, ha, ht, hats, hml⟩ := prog_at hat
  have hxl := ats_len hats
  rw [List.length_map] at hxl
  refine ⟨_, rfl, a, _, rfl, SqT.of ha, rfl, _, _, rfl, _, _, rfl, rfl, ?_⟩
  have hns : (l.map (·.1)).length = l.length := List.length_map ..
  have hmem : ∀ {i : Nat} {qq : Str × Dd}, l[i]? = some qq → (l.map (·.1))[i]? = some qq.1 := fun h => by rw [List.getElem?_map, h]; rfl
  refine ⟨_, rfl, t, rfl, ⟨_, SqT.of ht⟩, fun D hD => ?_⟩
  refine lc_tup (a := t) (xs := xs) (fun i G => Same H G ∧ G D = some (.lst (((l.take i).map (·.1)).map V.str))) ⟨same_new hD _, upd_same⟩ (fun i G hi ⟨h, _⟩ => SqT.of (h _ _ ht)) ?_ ?_
  · rintro i x G hx ⟨sG, hG⟩
    obtain ⟨qq, tt, y, hq, rfl, htt, hy, hyl⟩ := def_at hats hx
    have hil : i < l.length := (List.getElem?_eq_some_iff.mp hq).1
    refine ⟨tt, _, rfl, SqT.of (sG _ _ htt), rfl, _, _, rfl, _, _, rfl, rfl, rfl, ?_⟩
    refine tYes_if ?_
    refine ⟨_, rfl, _, hG, ?_, same_upd hD sG _, ?_⟩
    · rw [List.length_map, List.length_map, List.length_take]; have := Nat.min_le_right i l.length; omega
    · rw [upd_same, map_take hq, List.map_append]
      rfl
  rintro G1 ⟨s1, e1⟩
  rw [hxl, List.take_length] at e1
  generalize hnsd : l.map (·.1) = ns at *
  refine ⟨_, rfl, D, rfl, ⟨_, SqL.of e1⟩, fun Kd hKd => ?_⟩
  have nDK : D ≠ Kd := fun z => by rw [← z, e1] at hKd; cases hKd
  have hKH := free_of s1 hKd
  refine dc_list (a := D) (xs := ns.map V.str) (fun i G => Same H G ∧ G D = some (.lst (ns.map V.str)) ∧ ∃ kS : List Str, G Kd = some (.dK (setS kS)) ∧ (∀ s, s ∈ kS ↔ s ∈ ns.take i) ∧ kS.length ≤ i)
    ⟨sameT s1 (same_new hKd _), by rw [upd_ne nDK]; exact e1, [], upd_same, fun s => by rw [List.take_zero], Nat.le_refl _⟩ (fun i G _ ⟨_, h, _⟩ => SqL.of h) ?_ ?_
  · rintro i x G hx ⟨sG, eD, kS, eK, mK, lK⟩
    rw [List.getElem?_map] at hx
    obtain ⟨z, hz, rfl⟩ := Option.map_eq_some_iff.mp hx
    have hil := (List.getElem?_eq_some_iff.mp hz).1
    refine ⟨rfl, ?_⟩
    refine tYes_if ?_
    refine ⟨_, rfl, _, Sum.inr z, rfl, eK, by unfold setS; rw [List.length_map]; omega, same_upd hKH sG _, by rw [upd_ne nDK]; exact eD, addS kS z, by rw [upd_same, put_setS], fun s => ?_, Nat.le_trans (len_addS kS z) (by omega)⟩
    rw [mem_addS, mK s, List.take_add_one, hz, List.mem_append]
    show _ ↔ _ ∨ s ∈ [z]
    rw [List.mem_singleton]
  rintro G2 ⟨s2, eD2, kS, eK2, mK, lK⟩
  rw [List.length_map] at mK lK
  rw [List.take_length] at mK
  refine ⟨_, rfl, t, rfl, ⟨_, SqT.of (s2 _ _ ht)⟩, for_tup (a := t) (xs := xs)
    (fun i σ G => ∃ (v3 v6 v7 : Option V), σ = [some (.ref a), some (.ref t), some (.str m), v3, some (.ref D), some (.ref Kd), v6, v7, none, none] ∧ Same H G ∧ G D = some (.lst (ns.map V.str)) ∧ G Kd = some (.dK (setS kS)) ∧ firstBad ns (l.drop i) = firstBad ns l)
    ⟨_, _, _, rfl, s2, eD2, eK2, rfl⟩ (fun i σ G _ ⟨_, _, _, _, h, _⟩ => SqT.of (h _ _ ht)) ?_ ?_⟩
  · rintro i x σ G hx ⟨v3, v6, v7, rfl, sG, eD, eK, hfb⟩
    obtain ⟨qq, tt, y, hq, rfl, htt, hy, hyl⟩ := def_at hats hx
    have hqz := hT qq (List.mem_of_getElem? hq)
    rw [drop_at hq, firstBad] at hfb
    refine ⟨tt, _, rfl, SqT.of (sG _ _ htt), rfl, _, _, rfl, _, _, rfl, rfl, ?_⟩
    refine ⟨_, rfl, _, y, qq.2, rfl, hy.keep (fr_same sG), by omega, fun G3 s3 => ⟨_, rfl, ?_⟩⟩
    have sG3 := sameT sG s3
    have eD3 := s3 _ _ eD
    have eK3 := s3 _ _ eK
    rcases Bool.eq_false_or_eq_true (isTT qq.2) with c | c
    · rw [c] at hfb ⊢
      rw [if_neg (by decide)] at hfb
      refine iteF ?_
      refine ⟨_, rfl, _, y, qq.2, rfl, hy.keep (fr_same sG3), c, by omega, fun L ys G4 s4 hL eL up mem len => ?_⟩
      rw [frl_eq up mem] at hfb
      have sG4 := sameT sG3 s4
      refine ⟨L, rfl, ⟨_, SqL.of eL⟩, for_list (a := L) (xs := ys.map V.str)
        (fun j σ G' => ∃ (v7 : Option V), σ = [some (.ref a), some (.ref t), some (.str m), some (.str qq.1), some (.ref D), some (.ref Kd), some y, v7, none, none] ∧ G' = G4 ∧ outF ns (ys.drop j) = outF ns ys)
        ⟨_, rfl, rfl, rfl⟩ (fun j σ G' _ ⟨_, _, h, _⟩ => by rw [h]; exact SqL.of eL) ?_ ?_⟩
      · rintro j x σ G' hxj ⟨v7, rfl, hG', hof⟩
        subst hG'
        rw [List.getElem?_map] at hxj
        obtain ⟨z, hz, rfl⟩ := Option.map_eq_some_iff.mp hxj
        rw [drop_at hz, outF_cons] at hof
        refine ⟨_, rfl, _, rfl, Kd, _, rfl, DGet.k (k := Sum.inr z) (s4 _ _ eK3), _, rfl, ?_⟩
        rw [get_setS]
        by_cases cz : z ∈ ns
        · rw [if_pos cz] at hof
          rw [if_pos ((mK z).mpr cz)]
          refine iteF ?_
          exact ⟨_, rfl, rfl, hof⟩
        · rw [if_neg cz] at hof
          rw [if_neg fun h => cz ((mK z).mp h)]
          refine iteT ?_
          rw [← hof] at hfb
          have hz80 : z.length ≤ 1000 := str_le (d := .str z) (fr_str _ _ _ c ((mem z).mp (List.mem_of_getElem? hz)))
          refine ⟨_, rfl, (by show 1 ≤ 1000; decide), raise_read R.U hz80 fun d hd => ?_⟩
          exact qE CU z (by rw [vd_unb (s := z) (by rw [hnsd, ← hfb])]; rfl) d _ (free_of sG4 hd) (sameT sG4 (same_new hd _)) upd_same
      rintro σ G' ⟨v7, rfl, hG', hof⟩
      subst hG'
      rw [List.length_map, List.drop_length] at hof
      rw [← hof] at hfb
      exact ⟨_, _, _, rfl, sG4, s4 _ _ eD3, s4 _ _ eK3, hfb⟩
    · rw [c] at hfb ⊢
      rw [if_pos rfl] at hfb
      refine iteT ?_
      refine ⟨_, rfl, (by show 1 ≤ 1000; decide), raise_read R.B hyl fun d hd => ?_⟩
      exact qE CB qq.1 (by rw [vd_bad (s := qq.1) (by rw [hnsd, ← hfb])]; rfl) d _ (free_of sG3 hd) (sameT sG3 (same_new hd _)) upd_same
  rintro σ G3 ⟨v3, v6, v7, rfl, s3, eD3, eK3, hfb⟩
  rw [hxl, List.drop_length] at hfb
  have hfb : firstBad ns l = none := hfb.symm
  intro S hS
  have s4 := same_new hS (.dK [])
  have e4 : upd G3 S (.dK []) S = some (.dK (setS [])) := upd_same
  have eD4 := s4 _ _ eD3
  have eK4 := s4 _ _ eK3
  have hSH := free_of s3 hS
  have nSD : D ≠ S := fun z => by rw [← z, eD3] at hS; cases hS
  have nSK : Kd ≠ S := fun z => by rw [← z, eK3] at hS; cases hS
  have s34 := sameT s3 s4
  generalize upd G3 S (.dK []) = G4 at s4 e4 eD4 eK4 s34 ⊢
  refine ⟨_, rfl, D, rfl, ⟨_, SqL.of eD4⟩, for_list (a := D) (xs := ns.map V.str)
    (fun i σ G => ∃ (v3 : Option V) (sn : List Str), σ = [some (.ref a), some (.ref t), some (.str m), v3, some (.ref D), some (.ref Kd), v6, v7, some (.ref S), none] ∧ Same H G ∧ G D = some (.lst (ns.map V.str)) ∧ G Kd = some (.dK (setS kS)) ∧ G S = some (.dK (setS sn)) ∧ sn.length ≤ i ∧ twiceIn sn (ns.drop i) = twiceIn [] ns)
    ⟨_, [], rfl, s34, eD4, eK4, e4, Nat.le_refl _, rfl⟩ (fun i σ G _ ⟨_, _, _, _, h, _⟩ => SqL.of h) ?_ ?_⟩
  · rintro i x σ G hx ⟨v3, sn, rfl, sG, eD, eK, eS, ln, htw⟩
    rw [List.getElem?_map] at hx
    obtain ⟨z, hz, rfl⟩ := Option.map_eq_some_iff.mp hx
    have hil := (List.getElem?_eq_some_iff.mp hz).1
    rw [drop_at hz, twiceIn] at htw
    refine ⟨_, rfl, _, rfl, S, _, rfl, DGet.k (k := Sum.inr z) eS, _, rfl, ?_⟩
    rw [get_setS]
    by_cases cz : z ∈ sn
    · rw [if_pos cz] at htw ⊢
      refine iteT ?_
      have hz1000 : z.length ≤ 1000 := by
        have hzm : z ∈ l.map (·.1) := by rw [hnsd]; exact List.mem_of_getElem? hz
        obtain ⟨qq, hqq, rfl⟩ := List.mem_map.mp hzm
        obtain ⟨j, hj⟩ := List.getElem?_of_mem hqq
        have hjl := (List.getElem?_eq_some_iff.mp hj).1
        obtain ⟨x, hx⟩ : ∃ x, xs[j]? = some x := ⟨xs[j]'(by omega), List.getElem?_eq_getElem _⟩
        obtain ⟨q2, _, _, hq2, _, _, _, hl2⟩ := def_at hats hx
        rw [hj] at hq2
        cases hq2
        exact hl2
      refine ⟨_, rfl, (by show 1 ≤ 1000; decide), raise_read R.T hz1000 fun d hd => ?_⟩
      exact qE CT z (by rw [vd_twice (s := z) (by rw [hnsd]; exact hfb) (by rw [hnsd, ← htw])]; rfl) d _ (free_of sG hd) (sameT sG (same_new hd _)) upd_same
    · rw [if_neg cz] at htw ⊢
      refine iteF ?_
      refine ⟨_, rfl, _, rfl, S, _, rfl, DPut.k (k := Sum.inr z) eS (by unfold setS; rw [List.length_map]; omega), ?_⟩
      exact ⟨_, sn ++ [z], rfl, same_upd hSH sG _, by rw [upd_ne nSD]; exact eD, by rw [upd_ne nSK]; exact eK, by rw [upd_same, put_setS]; unfold addS; rw [if_neg cz], by rw [List.length_append]; show _ + 1 ≤ _; omega, htw⟩
  rintro σ G5 ⟨v3, sn, rfl, s5, eD5, eK5, eS5, ln, htw⟩
  rw [List.length_map, List.drop_length] at htw
  have htw : twiceIn [] ns = none := htw.symm
  have hve := vd_end (l := l) (m := m) (by rw [hnsd]; exact hfb) (by rw [hnsd]; exact htw)
  rw [hnsd] at hve
  refine ⟨_, rfl, _, rfl, Kd, _, rfl, DGet.k (k := Sum.inr m) eK5, _, rfl, ?_⟩
  rw [get_setS]
  by_cases cm : m ∈ ns
  · rw [if_pos cm] at hve
    rw [if_pos ((mK m).mpr cm)]
    refine iteF ?_
    exact qS (by rw [hve]; rfl) G5 s5
  · rw [if_neg cm] at hve
    rw [if_neg fun h => cm ((mK m).mp h)]
    refine iteT ?_
    refine ⟨_, rfl, (by show 1 ≤ 1000; decide), raise_read R.U hml fun d hd => ?_⟩
    exact qE CU m (by rw [hve]; rfl) d _ (free_of s5 hd) (sameT s5 (same_new hd _)) upd_same
end
end Toy

set_option Elab.async false
set_option linter.all false
set_option maxRecDepth 100000
set_option maxHeartbeats 4000000
/-! Part L3: what the law's look at a program tells. -/
namespace Toy
open PySem L2
open PyProof.Rows (envOfC)
def toldV : Vd → List V
  | .bad s => [.str "bad", .str s]
  | .unb s => [.str "unbound", .str s]
  | .twice s => [.str "twice", .str s]
  | .sound => [.str "sound", .non]
def toldP : Vd → List PyData
  | .bad s => [.str "bad", .str s]
  | .unb s => [.str "unbound", .str s]
  | .twice s => [.str "twice", .str s]
  | .sound => [.str "sound", .none]
def Vd.nameOk : Vd → Prop
  | .bad s => isName (.str s) = true
  | .unb s => isName (.str s) = true
  | .twice s => isName (.str s) = true
  | .sound => True
theorem told_dp {K : PySem.W.Frag} {H : Hp} : ∀ v : Vd, DpAll K H (toldV v) (toldP v)
  | .bad s => .cons (.str _) (.cons (.str _) .nil)
  | .unb s => .cons (.str _) (.cons (.str _) .nil)
  | .twice s => .cons (.str _) (.cons (.str _) .nil)
  | .sound => .cons (.str _) (.cons .non .nil)
theorem two_lay {a s : Str} (h1 : PyData.strOk a = true) (h2 : PyData.strOk s = true) : PyData.canLay0 (.tuple [.str a, .str s]) = true := by
  simp [PyData.canLay0, PyData.canLayAll0, h1, h2]
theorem two_depth {a s : Str} : PyData.depth (.tuple [.str a, .str s]) ≤ 64 := by
  simp [PyData.depth, PyData.depthAll]
theorem told_lay : ∀ v : Vd, v.nameOk → PyData.canLay0 (.tuple (toldP v)) = true
  | .bad s, h => two_lay (by decide +kernel) (name_okS h)
  | .unb s, h => two_lay (by decide +kernel) (name_okS h)
  | .twice s, h => two_lay (by decide +kernel) (name_okS h)
  | .sound, _ => by
    have e : PyData.strOk "sound" = true := by decide +kernel
    simp [toldP, PyData.canLay0, PyData.canLayAll0, e]
theorem told_deep : ∀ v : Vd, PyData.depth (.tuple (toldP v)) ≤ 64
  | .bad s => two_depth
  | .unb s => two_depth
  | .twice s => two_depth
  | .sound => by simp [toldP, PyData.depth, PyData.depthAll]
theorem told_shaped {v : Vd} (h : v.nameOk) : SeqAt.shaped (.tuple (toldP v)) = true := by
  unfold SeqAt.shaped
  rw [told_lay v h, decide_eq_true (told_deep v)]
  rfl
theorem told_eq {v : Vd} (h : v.nameOk) : PyData.eqv (.tuple (toldP v)) (.tuple (toldP v)) = true := SeqAt.eqv_refl _ (told_lay v h)
theorem frl_mem {k : Dd} {s : Str} (h : s ∈ frl k) : fr k s := by
  unfold frl at h
  split at h
  · rename_i h0
    exact ((Classical.choose_spec h0).2 s).mp h
  · cases h
theorem outF_mem {ns : List Str} : ∀ {ys : List Str} {z : Str}, outF ns ys = some z → z ∈ ys
  | [], z, h => by cases h
  | y :: ys, z, h => by
    rw [outF_cons] at h
    split at h
    · exact List.mem_cons_of_mem _ (outF_mem h)
    · cases h
      exact List.mem_cons_self ..
theorem firstBad_name {ns : List Str} : ∀ {l : List (Str × Dd)} {b : Bool} {s : Str}, (∀ q ∈ l, isName (.str q.1) = true) → firstBad ns l = some (b, s) → isName (.str s) = true
  | [], _, _, _, h => by cases h
  | q :: l, b, s, hn, h => by
    rw [firstBad] at h
    by_cases c : isTT q.2 = false
    · rw [if_pos c] at h
      cases h
      exact hn q (List.mem_cons_self ..)
    · rw [if_neg c] at h
      have c : isTT q.2 = true := by simpa using c
      cases e : outF ns (frl q.2) with
      | none =>
        rw [e] at h
        exact firstBad_name (fun q' hq => hn q' (List.mem_cons_of_mem _ hq)) h
      | some z =>
        rw [e] at h
        cases h
        exact fr_str _ _ _ c (frl_mem (outF_mem e))
theorem twiceIn_mem : ∀ {r seen : List Str} {s : Str}, twiceIn seen r = some s → s ∈ r
  | [], _, _, h => by cases h
  | x :: r, seen, s, h => by
    rw [twiceIn] at h
    split at h
    · cases h
      exact List.mem_cons_self ..
    · exact List.mem_cons_of_mem _ (twiceIn_mem h)
theorem vd_ok {l : List (Str × Dd)} {m : Str} (hn : ∀ q ∈ l, isName (.str q.1) = true) (hm : isName (.str m) = true) : (vd l m).nameOk := by
  cases e : firstBad (l.map (·.1)) l with
  | some q =>
    obtain ⟨b, s⟩ := q
    have := firstBad_name hn e
    cases b with
    | true => rw [vd_bad e]; exact this
    | false => rw [vd_unb e]; exact this
  | none =>
    cases e2 : twiceIn [] (l.map (·.1)) with
    | some s =>
      rw [vd_twice e e2]
      obtain ⟨q, hq, rfl⟩ := List.mem_map.mp (twiceIn_mem e2)
      exact hn q hq
    | none =>
      rw [vd_end e e2]
      split
      · trivial
      · exact hm
/-- the classes of errors, as the law's clauses ask for them -/
structure Hands (K : PySem.W.Frag) (mg : Str → Option Value) (CC CB CU CT CM : Addr) : Prop where
  gC : mg "CoreError" = some (.ref CC)
  gM : mg "MainIsFunction" = some (.ref CM)
  zisinstance : mg "isinstance" = none
  BB : PySem.W.exmOne K (.ref CB) (.ref CB) = some true
  UB : PySem.W.exmOne K (.ref CU) (.ref CB) = some false
  UU : PySem.W.exmOne K (.ref CU) (.ref CU) = some true
  TB : PySem.W.exmOne K (.ref CT) (.ref CB) = some false
  TU : PySem.W.exmOne K (.ref CT) (.ref CU) = some false
  TC : PySem.W.exmOne K (.ref CT) (.ref CC) = some true
  kUT : PySem.W.kitOne K (.ref CU) (.ref CT) = some false
  kUB : PySem.W.kitOne K (.ref CU) (.ref CB) = some false
  kUC : PySem.W.kitOne K (.ref CU) (.ref CC) = some true
  kTM : PySem.W.kitOne K (.ref CT) (.ref CM) = some false
  kTT : PySem.W.kitOne K (.ref CT) (.ref CT) = some true
section
variable {P : Program} {w : World} {K : PySem.W.Frag} {mg : Str → Option Value} {base : Heap}
abbrev sTold : Stmt := topS 84
theorem scTold : FnScope ["program", "answer", "e"] ["program"] (defScope sTold) := ⟨rfl, rfl, rfl, by decide +kernel, rfl, by decide +kernel, by decide +kernel⟩
def spTold : Sp := fun vs H Q _ => ∃ (B : Addr → Prop) (v : V) (l : List (Str × Dd)) (m : Str), vs = [v] ∧ (progD l m).At B H v ∧ PrC l ∧ ∀ (t : Addr) (H' : Hp), H t = none → Same H H' → H' t = some (.tup (toldV (vd l m))) → Q (.ref t) H'
theorem c_told {f CC CB CU CT CM fB fU fT : Addr} {fd fdB fdU fdT : FuncData} (N : Hands K mg CC CB CU CT CM) (R : Errs P w K mg base CB CU CT fB fU fT fdB fdU fdT) (c_check : CalX P w K mg base 7 "check_program" (spCheck CB CU CT)) (F : Fun K "_law_told" "_law_told" sTold f fd) (b : Binds K fd ["program"] []) (hm : mg "_law_told" = some (.ref f)) : C8.Cal P w K mg base 8 "_law_told" spTold [] := by
  refine cal_of F hm b scTold (fun vs H Q E h => ?_) (fun cdv A outer s H vs Q E hr h => ?_)
  · obtain ⟨B, v, l, m, rfl, _⟩ := h
    rfl
  obtain ⟨B0, v, l, m, rfl, hat, hP, q⟩ := h
  have gT : ∃ u, mg "TwiceBound" = some u ∧ RelV (.ref CT) u := ⟨_, R.T.g, rfl⟩
  have gB : ∃ u, mg "BadCore" = some u ∧ RelV (.ref CB) u := ⟨_, R.B.g, rfl⟩
  have gC : ∃ u, mg "CoreError" = some u ∧ RelV (.ref CC) u := ⟨_, N.gC, rfl⟩
  have gM : ∃ u, mg "MainIsFunction" = some u ∧ RelV (.ref CM) u := ⟨_, N.gM, rfl⟩
  refine ⟨_, pss_cons (ps_try_as3 (i := 2) (Wout := fun _ _ _ _ => False) rfl rfl scTold.nd rfl rfl ⟨rfl, by decide, Or.inl R.B.g⟩ ⟨rfl, by decide, Or.inl R.U.g⟩ ⟨rfl, by decide, Or.inl N.gC⟩ takes0
    (fun W pn xe tk _ => (pss_one (ps_set (i := 1) scTold.nd rfl (Or.inl rfl) (by exact (pe_cx c_check hr (by decide) rfl tk (pa_cons (pv 0) pa_nil))))))
    (fun a oe cls d pn hz hf => pss_one (ps_ret (pe_tup (pa_cons pe_str (pa_cons (pe_xf R.B.x R.B.n hz hf (pv 2)) pa_nil)))))
    (fun a oe cls d pn hz hf => pss_cons (ps_if (PW.pt (pw_or (pt_val (pe_callB (r := rIsX K a cls d) (by exact (call_isX hz hf)) rfl N.zisinstance boot_isinstance (pa_cons (pv 2) (pa_cons (C8.pe_gc rfl gT) pa_nil)))) (pw_or (pt_val (pe_callB (r := rIsX K a cls d) (by exact (call_isX hz hf)) rfl N.zisinstance boot_isinstance (pa_cons (pv 2) (pa_cons (C8.pe_gc rfl gB) pa_nil)))) (pw_or1 (pt_not (pt_val (pe_callB (r := rIsX K a cls d) (by exact (call_isX hz hf)) rfl N.zisinstance boot_isinstance (pa_cons (pv 2) (pa_cons (C8.pe_gc rfl gC) pa_nil)))))))))
      (pss_one (ps_ret (pe_tup (pa_cons pe_str (pa_cons pe_str pa_nil))))) pss_nil) (pss_one (ps_ret (pe_tup (pa_cons pe_str (pa_cons (pe_xf R.U.x R.U.n hz hf (pv 2)) pa_nil))))))
    (fun a oe cls d pn hz hf => pss_cons (ps_if (PW.pt (pw_or (pt_val (pe_callB (r := rIsX K a cls d) (by exact (call_isX hz hf)) rfl N.zisinstance boot_isinstance (pa_cons (pv 2) (pa_cons (C8.pe_gc rfl gM) pa_nil)))) (pw_or1 (pt_not (pt_val (pe_callB (r := rIsX K a cls d) (by exact (call_isX hz hf)) rfl N.zisinstance boot_isinstance (pa_cons (pv 2) (pa_cons (C8.pe_gc rfl gT) pa_nil))))))))
      (pss_one (ps_ret (pe_tup (pa_cons pe_str (pa_cons pe_str pa_nil))))) pss_nil) (pss_one (ps_ret (pe_tup (pa_cons pe_str (pa_cons (pe_xf R.T.x R.T.n hz hf (pv 2)) pa_nil)))))))
    (pss_one (ps_ret (pe_tup (pa_cons pe_str (pa_cons (pv 1) pa_nil))))), ?_⟩
  refine ⟨_, rfl, B0, v, l, m, rfl, hat, hP, fun hno H' s1 => ?_, fun C s hs d H' hd s1 he => ?_⟩
  · have e : vd l m = .sound := by
      cases e : vd l m with
      | sound => rfl
      | bad s => rw [e] at hno; cases hno
      | unb s => rw [e] at hno; cases hno
      | twice s => rw [e] at hno; cases hno
    rw [e] at q
    refine ⟨_, rfl, (by show 2 ≤ sizeLine; decide), fun t ht => ?_⟩
    exact q t _ (free_of s1 ht) (sameT s1 (same_new ht _)) upd_same
  · cases e : vd l m with
    | sound => rw [e] at hs; cases hs
    | bad z =>
      rw [e] at hs q
      cases hs
      refine ⟨true, N.BB, fun _ a0 _ => ?_, fun z => Bool.noConfusion z⟩
      refine ⟨_, rfl, rfl, rfl, d, _, _, rfl, he, rfl, ?_⟩
      exact ⟨(by show 2 ≤ sizeLine; decide), fun t ht => q t _ (free_of s1 ht) (sameT s1 (same_new ht _)) upd_same⟩
    | unb z =>
      rw [e] at hs q
      cases hs
      refine ⟨false, N.UB, fun z => Bool.noConfusion z, fun _ => ⟨true, N.UU, fun _ a0 _ => ?_, fun z => Bool.noConfusion z⟩⟩
      refine ⟨_, rfl, CU, d, _, _, .ref CT, false, rfl, rfl, R.U.e, rfl, he, fun u h => h, N.kUT, ?_⟩
      refine ⟨_, rfl, ?_⟩
      refine iteF ?_
      refine ⟨_, rfl, CU, d, _, _, .ref CB, false, rfl, rfl, R.U.e, rfl, he, fun u h => h, N.kUB, ?_⟩
      refine ⟨_, rfl, ?_⟩
      refine iteF ?_
      refine ⟨_, rfl, CU, d, _, _, .ref CC, true, rfl, rfl, R.U.e, rfl, he, fun u h => h, N.kUC, ?_⟩
      refine ⟨_, rfl, ?_⟩
      refine iteF ?_
      refine ⟨_, rfl, rfl, rfl, d, _, _, rfl, he, rfl, ?_⟩
      exact ⟨(by show 2 ≤ sizeLine; decide), fun t ht => q t _ (free_of s1 ht) (sameT s1 (same_new ht _)) upd_same⟩
    | twice z =>
      rw [e] at hs q
      cases hs
      refine ⟨false, N.TB, fun z => Bool.noConfusion z, fun _ => ⟨false, N.TU, fun z => Bool.noConfusion z, fun _ => ⟨true, N.TC, fun _ a0 _ => ?_, fun z => Bool.noConfusion z⟩⟩⟩
      refine ⟨_, rfl, CT, d, _, _, .ref CM, false, rfl, rfl, R.T.e, rfl, he, fun u h => h, N.kTM, ?_⟩
      refine ⟨_, rfl, ?_⟩
      refine iteF ?_
      refine ⟨_, rfl, CT, d, _, _, .ref CT, true, rfl, rfl, R.T.e, rfl, he, fun u h => h, N.kTT, ?_⟩
      refine ⟨_, rfl, ?_⟩
      refine iteF ?_
      refine ⟨_, rfl, rfl, rfl, d, _, _, rfl, he, rfl, ?_⟩
      exact ⟨(by show 2 ≤ sizeLine; decide), fun t ht => q t _ (free_of s1 ht) (sameT s1 (same_new ht _)) upd_same⟩
end
end Toy

set_option Elab.async false
set_option linter.all false
set_option maxRecDepth 100000
set_option maxHeartbeats 4000000
/-! Part M3: what the law holds due of a program. -/
namespace Toy
open PySem L2
open PyProof.Rows (envOfC)
/-- a program drawn: its good terms are not deep -/
def PrD (l : List (Str × Dd)) : Prop := l.length ≤ 20 ∧ (∀ q ∈ l, q.2.sz ≤ 40000) ∧ ∀ q ∈ l, isTT q.2 = true → isN 20 q.2 = true
theorem PrD.C {l : List (Str × Dd)} (h : PrD l) : PrC l := ⟨h.1, h.2.1⟩
theorem flat_ints : ∀ l : List Int, (l.map V.int).all flatV = true
  | [] => rfl
  | n :: l => by
    rw [List.map_cons, List.all_cons, flat_ints l]
    rfl
theorem inV_ints (n : Int) : ∀ l : List Int, inV (.int n) (l.map V.int) = decide (n ∈ l)
  | [] => rfl
  | a :: l => by
    show ((a == n) || inV (.int n) (l.map V.int)) = _
    rw [inV_ints n l]
    by_cases e : a = n
    · subst e
      simp
    · rw [beq_eq_false_iff_ne.mpr e, Bool.false_or]
      exact decide_eq_decide.mpr ⟨fun h => List.mem_cons_of_mem _ h, fun h => (List.mem_cons.mp h).resolve_left fun z => e z.symm⟩
theorem in_ints (k : Int) (ks : List Int) : (if false = true then !inV (.int k) (ks.map V.int) else inV (.int k) (ks.map V.int)) = decide (k ∈ ks) := by rw [if_neg (by decide), inV_ints]
theorem notin_strs (z : Str) (zs : List Str) : (if true = true then !inV (.str z) (zs.map V.str) else inV (.str z) (zs.map V.str)) = !decide (z ∈ zs) := by rw [if_pos rfl, inV_strs]
structure TxtZ (mg : Str → Option Value) : Prop where
  zlen : mg "len" = none
  zrange : mg "range" = none
  zsorted : mg "sorted" = none
  ztuple : mg "tuple" = none
section
variable {P : Program} {w : World} {K : PySem.W.Frag} {mg : Str → Option Value} {base : Heap}
abbrev sDue : Stmt := topS 85
theorem scDue : FnScope ["program", "spoilt", "names", "k", "free", "name", "term"] ["program", "spoilt"] (defScope sDue) := ⟨rfl, rfl, rfl, by decide +kernel, rfl, by decide +kernel, by decide +kernel⟩
def spDue : Sp := fun vs H Q _ => ∃ (B : Addr → Prop) (v : V) (l : List (Str × Dd)) (m : Str) (sp : Addr) (ks : List Int), vs = [v, .ref sp] ∧ (progD l m).At B H v ∧ PrD l ∧ H sp = some (.lst (ks.map V.int)) ∧ (∀ (i : Nat) (q : Str × Dd), l[i]? = some q → ((i : Int) ∈ ks ↔ isTT q.2 = false)) ∧
  ∀ (t : Addr) (H' : Hp), H t = none → Same H H' → H' t = some (.tup (toldV (vd l m))) → Q (.ref t) H'
theorem c_due {f : Addr} {fd : FuncData} (T : TxtZ mg) (c_law_free : C8.Cal P w K mg base (20 + 1) "_law_free" (spLFree 20) []) (F : Fun K "_law_due" "_law_due" sDue f fd) (b : Binds K fd ["program", "spoilt"] []) (hm : mg "_law_due" = some (.ref f)) : C8.Cal P w K mg base 22 "_law_due" spDue [] := by
  refine cal_of F hm b scDue (fun vs H Q E h => ?_) (fun cdv A outer s H vs Q E hr h => ?_)
  · obtain ⟨B, v, l, m, sp, ks, rfl, _⟩ := h
    rfl
  obtain ⟨B0, v, l, m, sp, ks, rfl, hat0, hP, hsp, hks, q⟩ := h
  obtain ⟨hl20, hT, hN⟩ := hP
  have hbig := big
  refine ⟨_, (pss_cons (ps_setLc (i := 2) (own := [("name", 5), ("term", 6)]) (g := gTup K 2 (gCons (gName 5) (gCons (gName 6) (gNil)))) (tt := tYes) rfl scDue.nd rfl rfl (sw_true rfl rfl rfl (by decide +kernel)) (pi_tup (pe_ix ix_tup (pv 0) pe_int (fun _ _ => rfl))) (blkOk_by (own := [("name", 5), ("term", 6)]) (N := ["program", "spoilt", "names", "k", "free", "name", "term"]) (sc := defScope sDue) (by decide +kernel)) (fun _ _ _ _ _ => (pg_tup rfl (pgs_cons (pg_name (i := 5) scDue.nd rfl (Or.inl rfl)) (pgs_cons (pg_name (i := 6) scDue.nd rfl (Or.inl rfl)) pgs_nil)))) (fun _ _ _ _ _ => pts_nil) (fun _ _ _ _ _ => (pv 5)))
    (pss_cons (ps_for PassesOwn.never rfl (pi_range1 rfl T.zrange (pa_cons (pe_callB call_len_seq rfl T.zlen PySem.boot_len (pa_cons (pv 2) pa_nil)) pa_nil)) (pg_name (i := 3) scDue.nd rfl (Or.inl rfl))
      (pss_cons (ps_if (pt_cmpR op_in_seq (pv 3) (pv 1) rfl)
      (pss_one (ps_ret (pe_tup (pa_cons pe_str (pa_cons (pe_ix ix_list (pv 2) (pv 3) (fun _ _ => rfl)) pa_nil)))))
      pss_nil)
    (pss_one (ps_for PassesOwn.never rfl (pi_list (pe_callB cr_sortedSA rfl T.zsorted PyProof.Rows.boot_sorted (pa_cons (C8.pe_c c_law_free hr (by decide) rfl (pa_cons (pe_ix ix_tup (pe_ix ix_tup (pe_ix ix_tup (pv 0) pe_int (fun _ _ => rfl)) (pv 3) (fun _ _ => rfl)) pe_int (fun _ _ => rfl)) pa_nil)) pa_nil))) (pg_name (i := 4) scDue.nd rfl (Or.inl rfl))
      (pss_one (ps_if (pt_cmpR op_notIn_seq (pv 4) (pv 2) rfl)
      (pss_one (ps_ret (pe_tup (pa_cons pe_str (pa_cons (pv 4) pa_nil)))))
      pss_nil))))))
    (pss_cons (ps_for PassesOwn.never rfl (pi_range1 rfl T.zrange (pa_cons (pe_callB call_len_seq rfl T.zlen PySem.boot_len (pa_cons (pv 2) pa_nil)) pa_nil)) (pg_name (i := 3) scDue.nd rfl (Or.inl rfl))
      (pss_one (ps_if (pt_cmpR op_in_seq (pe_ix ix_list (pv 2) (pv 3) (fun _ _ => rfl)) (pe_slice sl_list (pv 2) po_none (po_some (pv 3))) rfl)
      (pss_one (ps_ret (pe_tup (pa_cons pe_str (pa_cons (pe_ix ix_list (pv 2) (pv 3) (fun _ _ => rfl)) pa_nil)))))
      pss_nil)))
    (pss_cons (ps_if (pt_cmpR op_notIn_seq (pe_ix ix_tup (pv 0) pe_int (fun _ _ => rfl)) (pv 2) rfl)
      (pss_one (ps_ret (pe_tup (pa_cons pe_str (pa_cons (pe_ix ix_tup (pv 0) pe_int (fun _ _ => rfl)) pa_nil)))))
      pss_nil)
    (pss_one (ps_ret (pe_tup (pa_cons pe_str (pa_cons pe_non pa_nil))))))))), ?_⟩
  have hat := hat0.here
  obtain ⟨a, t, xs, rfl, ha, ht, hats, hml⟩ := prog_at hat
  have hxl := ats_len hats
  rw [List.length_map] at hxl
  have fin : ∀ {G : Hp} {tt : Addr} {r : List V}, Same H G → G tt = none → r = toldV (vd l m) → Q (.ref tt) (upd G tt (.tup r)) := fun {G tt r} sG h e => q tt _ (free_of sG h) (sameT sG (same_new h _)) (by rw [upd_same, e])
  have hns : (l.map (·.1)).length = l.length := List.length_map ..
  have hmem : ∀ {i : Nat} {qq : Str × Dd}, l[i]? = some qq → (l.map (·.1))[i]? = some qq.1 := fun h => by rw [List.getElem?_map, h]; rfl
  refine ⟨_, rfl, a, _, 0, _, rfl, rfl, SqT.of ha, at0 _ _, t, rfl, ⟨_, SqT.of ht⟩, fun D hD => ?_⟩
  refine lc_tup (a := t) (xs := xs) (fun i G => Same H G ∧ G D = some (.lst (((l.take i).map (·.1)).map V.str))) ⟨same_new hD _, upd_same⟩ (fun i G hi ⟨h, _⟩ => SqT.of (h _ _ ht)) ?_ ?_
  · rintro i x G hx ⟨sG, hG⟩
    obtain ⟨qq, tt, y, hq, rfl, htt, hy, hyl⟩ := def_at hats hx
    have hil : i < l.length := (List.getElem?_eq_some_iff.mp hq).1
    refine ⟨tt, _, rfl, SqT.of (sG _ _ htt), rfl, _, _, rfl, _, _, rfl, rfl, rfl, ?_⟩
    refine tYes_if ?_
    refine ⟨_, rfl, _, hG, ?_, same_upd hD sG _, ?_⟩
    · rw [List.length_map, List.length_map, List.length_take]; have := Nat.min_le_right i l.length; omega
    · rw [upd_same, map_take hq, List.map_append]
      rfl
  rintro G1 ⟨s1, e1⟩
  rw [hxl, List.take_length] at e1
  generalize hnsd : l.map (·.1) = ns at *
  refine ⟨_, rfl, D, _, rfl, .inl (SqL.of e1), ?_⟩
  rw [List.length_map]
  refine ⟨_, rfl, by omega, by omega, for_range
    (fun (i : Nat) σ G => ∃ (v3 v4 : Option V), σ = [some (.ref a), some (.ref sp), some (.ref D), v3, v4, none, none] ∧ Same H G ∧ G D = some (.lst (ns.map V.str)) ∧ firstBad ns (l.drop i) = firstBad ns l)
    ⟨_, _, rfl, s1, e1, rfl⟩ ?_ ?_⟩
  · rintro i σ G hi ⟨v3, v4, rfl, sG, eD, hfb⟩
    rw [show (0 : Int) + (i : Int) = (i : Int) from Int.zero_add _]
    obtain ⟨qq, hq⟩ : ∃ qq, l[i]? = some qq := ⟨l[i]'(by omega), List.getElem?_eq_getElem _⟩
    obtain ⟨x, hx⟩ : ∃ x, xs[i]? = some x := ⟨xs[i]'(by omega), List.getElem?_eq_getElem _⟩
    obtain ⟨q2, tt, y, hq2, rfl, htt, hy, hyl⟩ := def_at hats hx
    rw [hq] at hq2
    cases hq2
    have hqz := hT qq (List.mem_of_getElem? hq)
    have hnm : atI (ns.map V.str) (i : Int) = some (.str qq.1) := atI_nat (by rw [List.getElem?_map, hmem hq]; rfl)
    have hk := hks i qq hq
    rw [drop_at hq, firstBad] at hfb
    refine ⟨_, rfl, _, rfl, sp, _, rfl, .inl (SqL.of (sG _ _ hsp)), rfl, flat_ints _, _, rfl, ?_⟩
    rw [in_ints]
    rcases Bool.eq_false_or_eq_true (isTT qq.2) with c | c
    · rw [decide_eq_false fun h => by rw [hk.mp h] at c; cases c]
      rw [c, if_neg (by decide)] at hfb
      refine iteF ?_
      refine ⟨_, rfl, a, _, 0, _, rfl, rfl, SqT.of (sG _ _ ha), at0 _ _, _, rfl, t, _, (i : Int), _, rfl, rfl, SqT.of (sG _ _ ht), atI_nat hx, tt, _, 1, _, rfl, rfl, SqT.of (sG _ _ htt), at1 _ _ _, ?_⟩
      refine ⟨Ex H, y, qq.2, rfl, hy.keep (fr_same sG), hN qq (List.mem_of_getElem? hq) c, by omega, fun b hb hz => hz (free_of sG hb), fun L2 zs H2 s2 hL2 e2 nd2 m2 l2 => ⟨L2, zs, rfl, SqL.of e2, fun ys p hperm hsort hp => ?_⟩⟩
      have up : Up ys := up_of (rise_of hsort) (hperm.nodup_iff.mpr nd2)
      have mem : ∀ s, s ∈ ys ↔ fr qq.2 s := fun s => hperm.mem_iff.trans (m2 s)
      rw [frl_eq up mem] at hfb
      have s3 := sameT sG (sameT s2 (same_new hp (.lst (ys.map V.str))))
      have e3 : upd H2 p (.lst (ys.map V.str)) p = some (.lst (ys.map V.str)) := upd_same
      have eD3 := (sameT s2 (same_new hp (.lst (ys.map V.str)))) _ _ eD
      generalize upd H2 p (.lst (ys.map V.str)) = H3 at s3 e3 eD3 ⊢
      refine ⟨p, rfl, ⟨_, SqL.of e3⟩, for_list (a := p) (xs := ys.map V.str)
        (fun j σ G' => ∃ (v4 : Option V), σ = [some (.ref a), some (.ref sp), some (.ref D), some (.int (i : Int)), v4, none, none] ∧ G' = H3 ∧ outF ns (ys.drop j) = outF ns ys)
        ⟨_, rfl, rfl, rfl⟩ (fun j σ G' _ ⟨_, _, h, _⟩ => by rw [h]; exact SqL.of e3) ?_ ?_⟩
      · rintro j x σ G' hxj ⟨v4, rfl, hG', hof⟩
        subst hG'
        rw [List.getElem?_map] at hxj
        obtain ⟨z, hz, rfl⟩ := Option.map_eq_some_iff.mp hxj
        rw [drop_at hz, outF_cons] at hof
        refine ⟨_, rfl, _, rfl, D, _, rfl, .inl (SqL.of eD3), rfl, flat_strs _, _, rfl, ?_⟩
        rw [notin_strs]
        by_cases cz : z ∈ ns
        · rw [if_pos cz] at hof
          rw [decide_eq_true cz]
          refine iteF ?_
          exact ⟨_, rfl, rfl, hof⟩
        · rw [if_neg cz] at hof
          rw [decide_eq_false cz]
          refine iteT ?_
          rw [← hof] at hfb
          refine ⟨_, rfl, by show 2 ≤ sizeLine; decide, fun t9 ht9 => ?_⟩
          exact fin s3 ht9 (by rw [vd_unb (s := z) (by rw [hnsd, ← hfb])]; rfl)
      rintro σ G' ⟨v4, rfl, hG', hof⟩
      subst hG'
      rw [List.length_map, List.drop_length] at hof
      rw [← hof] at hfb
      exact ⟨_, _, rfl, s3, eD3, hfb⟩
    · rw [decide_eq_true (hk.mpr c)]
      rw [c, if_pos rfl] at hfb
      refine iteT ?_
      refine ⟨_, rfl, _, rfl, D, _, (i : Int), _, rfl, rfl, SqL.of eD, hnm, by show 2 ≤ sizeLine; decide, fun t9 ht9 => ?_⟩
      exact fin sG ht9 (by rw [vd_bad (s := qq.1) (by rw [hnsd, ← hfb])]; rfl)
  rintro σ G2 ⟨v3, v4, rfl, s2, eD2, hfb⟩
  rw [Int.toNat_natCast, hns, List.drop_length] at hfb
  have hfb : firstBad ns l = none := hfb.symm
  refine ⟨_, rfl, D, _, rfl, .inl (SqL.of eD2), ?_⟩
  rw [List.length_map]
  refine ⟨_, rfl, by omega, by omega, for_range
    (fun (i : Nat) σ G => ∃ (v3 : Option V), σ = [some (.ref a), some (.ref sp), some (.ref D), v3, v4, none, none] ∧ Same H G ∧ G D = some (.lst (ns.map V.str)) ∧ twiceIn (ns.take i) (ns.drop i) = twiceIn [] ns)
    ⟨_, rfl, s2, eD2, rfl⟩ ?_ ?_⟩
  · rintro i σ G hi ⟨v3, rfl, sG, eD, htw⟩
    rw [show (0 : Int) + (i : Int) = (i : Int) from Int.zero_add _]
    have hin : i < ns.length := by omega
    obtain ⟨z, hz⟩ : ∃ z, ns[i]? = some z := ⟨ns[i], List.getElem?_eq_getElem hin⟩
    have hnm : atI (ns.map V.str) (i : Int) = some (.str z) := atI_nat (by rw [List.getElem?_map, hz]; rfl)
    rw [drop_at hz, twiceIn, show ns.take i ++ [z] = ns.take (i + 1) by rw [List.take_add_one, hz]; rfl] at htw
    refine ⟨_, rfl, _, rfl, D, _, (i : Int), _, rfl, rfl, SqL.of eD, hnm, ?_⟩
    refine ⟨_, rfl, _, rfl, _, rfl, D, _, rfl, SqL.of eD, fun l1 hl1 => ?_⟩
    rw [cut_to _ _ (by rw [List.length_map]; omega), ← List.map_take]
    have s3 := sameT sG (same_new hl1 (.lst ((ns.take i).map V.str)))
    have e3 : upd G l1 (.lst ((ns.take i).map V.str)) l1 = some (.lst ((ns.take i).map V.str)) := upd_same
    have eD3 := (same_new hl1 (.lst ((ns.take i).map V.str))) _ _ eD
    generalize upd G l1 (.lst ((ns.take i).map V.str)) = G3 at s3 e3 eD3 ⊢
    refine ⟨l1, _, rfl, .inl (SqL.of e3), rfl, flat_strs _, _, rfl, ?_⟩
    rw [in_ifs]
    by_cases cz : z ∈ ns.take i
    · rw [if_pos cz] at htw
      rw [decide_eq_true cz]
      refine iteT ?_
      refine ⟨_, rfl, _, rfl, D, _, (i : Int), _, rfl, rfl, SqL.of eD3, hnm, by show 2 ≤ sizeLine; decide, fun t9 ht9 => ?_⟩
      exact fin s3 ht9 (by rw [vd_twice (s := z) (by rw [hnsd]; exact hfb) (by rw [hnsd, ← htw])]; rfl)
    · rw [if_neg cz] at htw
      rw [decide_eq_false cz]
      refine iteF ?_
      exact ⟨_, rfl, s3, eD3, htw⟩
  rintro σ G4 ⟨v3, rfl, s4, eD4, htw⟩
  rw [Int.toNat_natCast, List.drop_length] at htw
  have htw : twiceIn [] ns = none := htw.symm
  have hve := vd_end (l := l) (m := m) (by rw [hnsd]; exact hfb) (by rw [hnsd]; exact htw)
  rw [hnsd] at hve
  refine ⟨_, rfl, a, _, 1, _, rfl, rfl, SqT.of (s4 _ _ ha), at1 _ _ _, _, rfl, D, _, rfl, .inl (SqL.of eD4), rfl, flat_strs _, _, rfl, ?_⟩
  rw [notin_strs]
  by_cases cm : m ∈ ns
  · rw [if_pos cm] at hve
    rw [decide_eq_true cm]
    refine iteF ?_
    refine ⟨by show 2 ≤ sizeLine; decide, fun t9 ht9 => ?_⟩
    exact fin s4 ht9 (by rw [hve]; rfl)
  · rw [if_neg cm] at hve
    rw [decide_eq_false cm]
    refine iteT ?_
    refine ⟨_, rfl, a, _, 1, _, rfl, rfl, SqT.of (s4 _ _ ha), at1 _ _ _, by show 2 ≤ sizeLine; decide, fun t9 ht9 => ?_⟩
    exact fin s4 ht9 (by rw [hve]; rfl)
end
end Toy

set_option Elab.async false
set_option linter.all false
set_option maxRecDepth 100000
set_option maxHeartbeats 4000000
/-! Part N3: a program drawn, some of its terms spoilt. -/
namespace Toy
open PySem L2
open PyProof.Rows (envOfC)
theorem isN_lam {n : Nat} {z : Str} {b : Dd} (hz : isName (.str z) = true) (hb : isN n b = true) : isN (n + 1) (.tup [.str "lam", .str z, b]) = true := by
  refine isN_mk ?_ (nice_other nw.2.2.2.2.2.2.1 nw.2.2.2.2.2.2.2.1) (fun p hp => ?_)
  · rw [fw_lam]
    show (decide (2 = 2) && isName (.str z)) = true
    rw [hz]
    rfl
  · rw [pw_lam] at hp
    rw [List.mem_singleton.mp hp]
    exact hb
theorem tt_no {w : Str} {r : List Dd} (h : formW w r = false) : isTT (.tup (.str w :: r)) = false := by
  rw [isTT_eq]
  show (formW w r && _) = false
  rw [h]
  rfl
theorem bad1 (k : Dd) : isTT (.tup [.str "app", k]) = false := tt_no (by rw [fw_app]; rfl)
theorem bad2 : isTT (.tup [.str "num", .non]) = false := tt_no (by rw [fw_num]; rfl)
theorem bad3 (k : Dd) : isTT (.tup [.str "lam", .str "a b", k]) = false := tt_no (by rw [fw_lam]; show (decide (2 = 2) && isName (.str "a b")) = false; rw [show isName (.str "a b") = false by decide +kernel]; rfl)
theorem bad4 : isTT (.tup [.str "note", .int 1]) = false := tt_no (by rw [fw_note]; rfl)
def dnames : List Str := ["f", "g", "main", "f", "a", "h"]
def mnames : List Str := ["main", "main", "f", "zz"]
theorem dnames_ok : ∀ z ∈ dnames, isName (.str z) = true ∧ z.length ≤ 1000 := by decide +kernel
theorem mnames_ok : ∀ z ∈ mnames, isName (.str z) = true ∧ z.length ≤ 1000 := by decide +kernel
theorem at_strZ {ns : List Str} {i : Int} (h0 : 0 ≤ i) (h1 : i < (ns.length : Int)) : ∃ v ∈ ns, atI (ns.map V.str) i = some (.str v) := by
  obtain ⟨j, rfl⟩ : ∃ j : Nat, i = (j : Int) := ⟨i.toNat, (Int.toNat_of_nonneg h0).symm⟩
  have hj : j < ns.length := by omega
  exact ⟨ns[j], List.getElem_mem hj, atI_nat (by rw [List.getElem?_map, List.getElem?_eq_getElem hj]; rfl)⟩
section
variable {P : Program} {w : World} {K : PySem.W.Frag} {mg : Str → Option Value} {base : Heap}
abbrev sCaseOf : Stmt := topS 86
theorem scCaseOf : FnScope ["d", "script", "definitions", "spoilt", "many", "k", "term"] ["d", "script"] (defScope sCaseOf) := ⟨rfl, rfl, rfl, by decide +kernel, rfl, by decide +kernel, by decide +kernel⟩
def spCaseOf : Sp := fun vs H Q _ => ∃ (p r : Addr) (B : Nat) (x : V), vs = [.ref p, x] ∧ DAt H p r B ∧ B ≤ 900000000 ∧ ∀ (t sp : Addr) (pv : V) (l : List (Str × Dd)) (m : Str) (ks : List Int) (H' : Hp), Keep p H H' → DAt H' p r (B + 10000) → H' t = some (.tup [pv, .ref sp]) → (progD l m).At F0 H' pv → PrD l → (∀ q ∈ l, isName (.str q.1) = true) → isName (.str m) = true →
  H' sp = some (.lst (ks.map V.int)) → (∀ (i : Nat) (q : Str × Dd), l[i]? = some q → ((i : Int) ∈ ks ↔ isTT q.2 = false)) → Q (.ref t) H'
theorem c_caseof {f : Addr} {fd : FuncData} (T : TxtZ mg) (c_law_take : C8.Cal P w K mg base 1 "_law_take" spTake []) (c_law_any : C8.Cal P w K mg base (2 * 6 + 4) "_law_any" (spAny 6) []) (F : Fun K "_law_case_of" "_law_case_of" sCaseOf f fd) (b : Binds K fd ["d", "script"] []) (hm : mg "_law_case_of" = some (.ref f)) : C8.Cal P w K mg base 17 "_law_case_of" spCaseOf [] := by
  refine cal_of F hm b scCaseOf (fun vs H Q E h => ?_) (fun cdv A outer s H vs Q E hr h => ?_)
  · obtain ⟨p, r, B, x, rfl, _⟩ := h
    rfl
  obtain ⟨p, r, B, xx, rfl, d0, hB, q⟩ := h
  have hu := hu_of hr
  have hbig := big
  refine ⟨_, (pss_cons (ps_set (i := 2) scCaseOf.nd rfl (Or.inl rfl) (pe_lst pa_nil))
    (pss_cons (ps_set (i := 3) scCaseOf.nd rfl (Or.inl rfl) (pe_lst pa_nil))
    (pss_cons (ps_set (i := 4) scCaseOf.nd rfl (Or.inl rfl) (pe_op op_mod (C8.pe_c c_law_take hr (by decide) rfl (pa_cons (pv 0) pa_nil)) pe_int))
    (pss_cons (ps_for PassesOwn.never rfl (pi_range1 rfl T.zrange (pa_cons (pv 4) pa_nil)) (pg_name (i := 5) scCaseOf.nd rfl (Or.inl rfl))
      (pss_cons (ps_dput hu (pv 0) pe_str pe_int rfl)
    (pss_cons (ps_set (i := 6) scCaseOf.nd rfl (Or.inl rfl) (C8.pe_c c_law_any hr (by decide) rfl (pa_cons (pv 0) (pa_cons pe_int pa_nil))))
    (C8.pss_cut (ps_if (pt_cmpR op_gt (pe_op op_mod (C8.pe_c c_law_take hr (by decide) rfl (pa_cons (pv 0) pa_nil)) pe_int) pe_int (nomark _))
      (pss_one (ps_set (i := 6) scCaseOf.nd rfl (Or.inl rfl) (pe_tup (pa_cons pe_str (pa_cons pe_str (pa_cons (pe_tup (pa_cons pe_str (pa_cons pe_str (pa_cons (pe_tup (pa_cons pe_str (pa_cons pe_str (pa_cons (pe_tup (pa_cons pe_str (pa_cons pe_str (pa_cons (pe_tup (pa_cons pe_str (pa_cons pe_str (pa_cons (pv 6) pa_nil)))) pa_nil)))) pa_nil)))) pa_nil)))) pa_nil))))))
      pss_nil)
    (C8.pss_cut (ps_if (pt_cmpR op_eq (pe_op op_mod (C8.pe_c c_law_take hr (by decide) rfl (pa_cons (pv 0) pa_nil)) pe_int) pe_int (nomark _))
      (pss_cons (ps_set (i := 6) scCaseOf.nd rfl (Or.inl rfl) (pe_ix ix_list (pe_lst (pa_cons (pe_tup (pa_cons pe_str (pa_cons (pv 6) pa_nil))) (pa_cons (pe_tup (pa_cons pe_str (pa_cons pe_non pa_nil))) (pa_cons (pe_tup (pa_cons pe_str (pa_cons pe_str (pa_cons (pv 6) pa_nil)))) (pa_cons (pe_tup (pa_cons pe_str (pa_cons pe_int pa_nil))) pa_nil))))) (pe_op op_mod (C8.pe_c c_law_take hr (by decide) rfl (pa_cons (pv 0) pa_nil)) pe_int) (fun _ _ => rfl)))
    (pss_one (ps_expr (pe_bm PySem.F.plainAttrs_list PySem.F.slot_list_append PySem.F.type_list_append mt_append (pv 3) (pa_cons (pv 5) pa_nil)))))
      pss_nil)
    (pss_one (ps_expr (pe_bm PySem.F.plainAttrs_list PySem.F.slot_list_append PySem.F.type_list_append mt_append (pv 2) (pa_cons (pe_tup (pa_cons (pe_ix ix_list (pe_lst (pa_strs (zs := ["f", "g", "main", "f", "a", "h"]) rfl)) (pe_op op_mod (pe_op op_add (pv 5) (pe_op op_mod (C8.pe_c c_law_take hr (by decide) rfl (pa_cons (pv 0) pa_nil)) pe_int)) pe_int) (fun _ _ => rfl)) (pa_cons (pv 6) pa_nil))) pa_nil)))))))))
    (pss_one (ps_ret (pe_tup (pa_cons (pe_tup (pa_cons (pe_callTy call_tuple_of rfl T.ztuple boot_tuple (pa_cons (pv 2) pa_nil)) (pa_cons (pe_ix ix_list (pe_lst (pa_strs (zs := ["main", "main", "f", "zz"]) rfl)) (pe_op op_mod (C8.pe_c c_law_take hr (by decide) rfl (pa_cons (pv 0) pa_nil)) pe_int) (fun _ _ => rfl)) pa_nil))) (pa_cons (pv 3) pa_nil))))))))), ?_⟩
  refine ⟨by show 0 ≤ sizeLine; decide, fun D hD => ?_⟩
  obtain ⟨nDp, nDr⟩ := d0.fresh hD
  have s0 := same_new hD (.lst [])
  have e0 : upd H D (.lst []) D = some (.lst []) := upd_same
  generalize upd H D (.lst []) = H0 at s0 e0 ⊢
  have d1 := d0.same s0
  refine ⟨by show 0 ≤ sizeLine; decide, fun S hS => ?_⟩
  obtain ⟨nSp, nSr⟩ := d1.fresh hS
  have nDS : D ≠ S := fun z => by rw [← z, e0] at hS; cases hS
  have hSH := free_of s0 hS
  have s1 := same_new hS (.lst [])
  have e1 : upd H0 S (.lst []) S = some (.lst (([] : List Int).map V.int)) := upd_same
  have eD1 := s1 _ _ e0
  have k1 := Keep.same (p := p) (sameT s0 s1)
  have d2 := d1.same s1
  generalize upd H0 S (.lst []) = H1 at s1 e1 eD1 k1 d2 ⊢
  clear s0 s1 e0 d1
  refine ⟨_, rfl, p, r, _, rfl, d2, fun n1 G1 n10 n11 k2 d3 => ?_⟩
  have m10 := Int.emod_nonneg n1 (show (6 : Int) ≠ 0 by decide)
  have m11 := Int.emod_lt_of_pos n1 (show (0 : Int) < 6 by decide)
  refine ⟨_, _, rfl, rfl, (show (0 : Int) < 6 by decide), ?_⟩
  show gName 4 (V.int (n1 % 6)) _ _ _
  generalize n1 % 6 = many at m10 m11 ⊢
  refine ⟨_, rfl, _, rfl, by omega, by omega, for_range
    (fun (i : Nat) σ G => ∃ (l : List (Str × Dd)) (dxs : List V) (ks : List Int) (v5 v6 : Option V), σ = [some (.ref p), some xx, some (.ref D), some (.ref S), some (.int many), v5, v6] ∧ Keep p H G ∧ DAt G p r (B + 1 + i * 1000) ∧ G D = some (.lst dxs) ∧ Dd.Ats F0 G (l.map defD) dxs ∧ l.length = i ∧ G S = some (.lst (ks.map V.int)) ∧ ks.length ≤ i ∧ (∀ k ∈ ks, k < (i : Int)) ∧
      (∀ q ∈ l, q.2.sz ≤ 40000 ∧ (isTT q.2 = true → isN 20 q.2 = true) ∧ isName (.str q.1) = true) ∧ ∀ (j : Nat) (q : Str × Dd), l[j]? = some q → ((j : Int) ∈ ks ↔ isTT q.2 = false))
    ⟨[], [], [], _, _, rfl, k1.trans k2, d3, k2 _ _ nDp eD1, rfl, rfl, k2 _ _ nSp e1, Nat.le_refl _, fun k h => absurd h List.not_mem_nil, fun q h => absurd h List.not_mem_nil, fun j q h => by cases h⟩ ?_ ?_⟩
  · rintro i σ G hi ⟨l, dxs, ks, v5, v6, rfl, kG, dG, eD, aD, hl, eS, hkl, hki, hlg, hks⟩
    rw [show (0 : Int) + (i : Int) = (i : Int) from Int.zero_add _]
    have hi6 : i < 6 := by omega
    obtain ⟨row, i1, nn, left, hp1, hrow1, ok1, hi1⟩ := dG
    have npr : r ≠ p := ne_of hrow1 hp1 (by intro z; cases z)
    refine ⟨_, rfl, p, _, rfl, DPut.k (k := Sum.inr "left") hp1 (by show 4 < sizeLine; decide), ?_⟩
    rw [dk_putl]
    have d3 : DAt (upd G p (.dK (dk4 r i1 nn 8))) p r (B + 1 + i * 1000) := ⟨row, i1, nn, 8, upd_same, by rw [upd_ne npr]; exact hrow1, ok1, hi1⟩
    have k3 : Keep p H (upd G p (.dK (dk4 r i1 nn 8))) := kG.trans fun b o hb e => by rw [upd_ne hb]; exact e
    have eD3 : upd G p (.dK (dk4 r i1 nn 8)) D = some (.lst dxs) := by rw [upd_ne nDp]; exact eD
    have eS3 : upd G p (.dK (dk4 r i1 nn 8)) S = some (.lst (ks.map V.int)) := by rw [upd_ne nSp]; exact eS
    have aD3 := aD.keep (fr_dict (B := F0) (o := .dK (dk4 r i1 nn 8)) hp1)
    generalize upd G p (.dK (dk4 r i1 nn 8)) = G3 at d3 k3 eD3 eS3 aD3 ⊢
    refine ⟨_, rfl, p, r, _, 3, rfl, by decide, d3, by omega, fun v k G4 k4 d4 a4 g4 => ?_⟩
    have d4 : DAt G4 p r (B + 1 + i * 1000 + 600) := d4.more (by omega)
    have eD4 := k4 _ _ nDp eD3
    have eS4 := k4 _ _ nSp eS3
    have aD4 := aD3.keep (fr_keep k4 d3)
    have k34 := k3.trans k4
    -- lams before it
    refine ⟨fun σ G' => ∃ (v' : V) (k' : Dd), σ = [some (.ref p), some xx, some (.ref D), some (.ref S), some (.int many), some (.int (i : Int)), some v'] ∧ Keep p H G' ∧ DAt G' p r (B + 1 + i * 1000 + 610) ∧ G' D = some (.lst dxs) ∧ G' S = some (.lst (ks.map V.int)) ∧ Dd.Ats F0 G' (l.map defD) dxs ∧ k'.At F0 G' v' ∧ isN 20 k' = true ∧ k'.sz ≤ 2000, ?_, ?_⟩
    · refine ⟨_, rfl, p, r, _, rfl, d4, fun n5 G5 n50 n51 k5 d5 => ?_⟩
      have eD5 := k5 _ _ nDp eD4
      have eS5 := k5 _ _ nSp eS4
      have aD5 := aD4.keep (fr_keep k5 d4)
      have a5 := a4.keep (fr_keep k5 d4)
      have k45 := k34.trans k5
      have d5 : DAt G5 p r (B + 1 + i * 1000 + 610) := d5.more (by omega)
      have hz := g4.sz
      have hz : k.sz + 5 ≤ 512 := hz
      refine ⟨_, _, rfl, rfl, (show (0 : Int) < 3 by decide), _, _, rfl, rfl, _, rfl, ?_⟩
      show if decide (0 < n5 % 3) = true then _ else _
      rcases Bool.eq_false_or_eq_true (decide (0 < n5 % 3)) with c | c
      · rw [c]
        refine iteT ?_
        refine ⟨_, rfl, by show 3 ≤ sizeLine; decide, fun t1 h1 => ⟨by show 3 ≤ sizeLine; decide, fun t2 h2 => ⟨by show 3 ≤ sizeLine; decide, fun t3 h3 => ⟨by show 3 ≤ sizeLine; decide, fun t4 h4 => ⟨by show 3 ≤ sizeLine; decide, fun t5 h5 => ?_⟩⟩⟩⟩⟩
        have u1 := same_new h1 (.tup [.str "lam", .str "e_1", v])
        have u2 := same_new h2 (.tup [.str "lam", .str "d'", .ref t1])
        have u3 := same_new h3 (.tup [.str "lam", .str "cc", .ref t2])
        have u4 := same_new h4 (.tup [.str "lam", .str "b", .ref t3])
        have u5 := same_new h5 (.tup [.str "lam", .str "a", .ref t4])
        have u := sameT u1 (sameT u2 (sameT u3 (sameT u4 u5)))
        have fu := fr_same (B := F0) u
        refine ⟨_, .tup [.str "lam", .str "a", .tup [.str "lam", .str "b", .tup [.str "lam", .str "cc", .tup [.str "lam", .str "d'", .tup [.str "lam", .str "e_1", k]]]]], rfl, k45.trans (Keep.same u), d5.same u, u _ _ eD5, u _ _ eS5, aD5.keep fu, ?_, ?_, ?_⟩
        · exact at_tup upd_same (ats_cons (at_str' (by decide +kernel)) (ats_cons (at_str' (by decide +kernel)) (ats_cons (at_tup (u5 _ _ upd_same) (ats_cons (at_str' (by decide +kernel)) (ats_cons (at_str' (by decide +kernel)) (ats_cons (at_tup (sameT u4 u5 _ _ upd_same) (ats_cons (at_str' (by decide +kernel)) (ats_cons (at_str' (by decide +kernel)) (ats_cons (at_tup (sameT u3 (sameT u4 u5) _ _ upd_same) (ats_cons (at_str' (by decide +kernel)) (ats_cons (at_str' (by decide +kernel)) (ats_cons (at_tup (sameT u2 (sameT u3 (sameT u4 u5)) _ _ upd_same) (ats_cons (at_str' (by decide +kernel)) (ats_cons (at_str' (by decide +kernel)) (ats_cons (a5.keep fu) ats_nil)))) ats_nil)))) ats_nil)))) ats_nil)))) ats_nil)))
        · exact isN_mono 9 20 _ (by omega) (isN_lam (by decide +kernel) (isN_lam (by decide +kernel) (isN_lam (by decide +kernel) (isN_lam (by decide +kernel) (isN_lam (by decide +kernel) g4.ok)))))
        · show 1 + (1 + (1 + ((1 + (1 + (1 + ((1 + (1 + (1 + ((1 + (1 + (1 + ((1 + (1 + (1 + (k.sz + 0)))) + 0)))) + 0)))) + 0)))) + 0))) ≤ 2000
          omega
      · rw [c]
        refine iteF ?_
        exact ⟨v, k, rfl, k45, d5, eD5, eS5, aD5, a5, isN_mono 4 20 _ (by omega) g4.ok, by omega⟩
    rintro σ G5 ⟨v', k', rfl, k5, d5, eD5, eS5, aD5, a5, hN5, hz5⟩
    -- a term spoilt
    refine ⟨fun σ G' => ∃ (v' : V) (k' : Dd) (ks' : List Int), σ = [some (.ref p), some xx, some (.ref D), some (.ref S), some (.int many), some (.int (i : Int)), some v'] ∧ Keep p H G' ∧ DAt G' p r (B + 1 + i * 1000 + 620) ∧ G' D = some (.lst dxs) ∧ G' S = some (.lst (ks'.map V.int)) ∧ Dd.Ats F0 G' (l.map defD) dxs ∧ k'.At F0 G' v' ∧ k'.sz ≤ 3000 ∧ (isTT k' = true → isN 20 k' = true) ∧
      ks'.length ≤ i + 1 ∧ (∀ k ∈ ks', k < ((i + 1 : Nat) : Int)) ∧ (∀ (j : Nat) (q : Str × Dd), l[j]? = some q → ((j : Int) ∈ ks' ↔ isTT q.2 = false)) ∧ ((i : Int) ∈ ks' ↔ isTT k' = false), ?_, ?_⟩
    · refine ⟨_, rfl, p, r, _, rfl, d5, fun n6 G6 n60 n61 k6 d6 => ?_⟩
      have eD6 := k6 _ _ nDp eD5
      have eS6 := k6 _ _ nSp eS5
      have aD6 := aD5.keep (fr_keep k6 d5)
      have a6 := a5.keep (fr_keep k6 d5)
      have k56 := k5.trans k6
      have hT5 := isN_T _ _ hN5
      have hni : ¬ (i : Int) ∈ ks := fun h => by have := hki _ h; omega
      refine ⟨_, _, rfl, rfl, (show (0 : Int) < 9 by decide), rfl, _, rfl, ?_⟩
      show if decide (V.int (n6 % 9) = V.int 0) = true then _ else _
      rcases Bool.eq_false_or_eq_true (decide (V.int (n6 % 9) = V.int 0)) with c | c
      · rw [c]
        refine iteT ?_
        refine ⟨_, rfl, by show 2 ≤ sizeLine; decide, fun t1 h1 => ⟨by show 2 ≤ sizeLine; decide, fun t2 h2 => ⟨_, rfl, by show 3 ≤ sizeLine; decide, fun t3 h3 => ⟨by show 2 ≤ sizeLine; decide, fun t4 h4 => ⟨by show 4 ≤ sizeLine; decide, fun L hL => ?_⟩⟩⟩⟩⟩
        have u1 := same_new h1 (.tup [.str "app", v'])
        have u2 := same_new h2 (.tup [.str "num", .non])
        have u3 := same_new h3 (.tup [.str "lam", .str "a b", v'])
        have u4 := same_new h4 (.tup [.str "note", .int 1])
        have u5 := same_new hL (.lst [.ref t1, .ref t2, .ref t3, .ref t4])
        have eL : upd (upd (upd (upd (upd G6 t1 (.tup [.str "app", v'])) t2 (.tup [.str "num", .non])) t3 (.tup [.str "lam", .str "a b", v'])) t4 (.tup [.str "note", .int 1])) L (.lst [.ref t1, .ref t2, .ref t3, .ref t4]) L = some (.lst [.ref t1, .ref t2, .ref t3, .ref t4]) := upd_same
        have f1 := sameT u2 (sameT u3 (sameT u4 u5)) _ _ (upd_same (H := G6) (a := t1) (o := .tup [.str "app", v']))
        have f2 := sameT u3 (sameT u4 u5) _ _ (upd_same (H := upd G6 t1 (.tup [.str "app", v'])) (a := t2) (o := .tup [.str "num", .non]))
        have f3 := sameT u4 u5 _ _ (upd_same (H := upd (upd G6 t1 (.tup [.str "app", v'])) t2 (.tup [.str "num", .non])) (a := t3) (o := .tup [.str "lam", .str "a b", v']))
        have f4 := u5 _ _ (upd_same (H := upd (upd (upd G6 t1 (.tup [.str "app", v'])) t2 (.tup [.str "num", .non])) t3 (.tup [.str "lam", .str "a b", v'])) (a := t4) (o := .tup [.str "note", .int 1]))
        have u := sameT u1 (sameT u2 (sameT u3 (sameT u4 u5)))
        have fu := fr_same (B := F0) u
        have d7 := d6.same u
        have eD7 := u _ _ eD6
        have eS7 := u _ _ eS6
        have aD7 := aD6.keep fu
        have a7 := a6.keep fu
        have k67 := k56.trans (Keep.same u)
        generalize upd (upd (upd (upd (upd G6 t1 (.tup [.str "app", v'])) t2 (.tup [.str "num", .non])) t3 (.tup [.str "lam", .str "a b", v'])) t4 (.tup [.str "note", .int 1])) L (.lst [.ref t1, .ref t2, .ref t3, .ref t4]) = G7 at eL f1 f2 f3 f4 d7 eD7 eS7 aD7 a7 k67 ⊢
        clear u u1 u2 u3 u4 u5 fu h1 h2 h3 h4 hL
        refine ⟨_, rfl, p, r, _, rfl, d7, fun n8 G8 n80 n81 k8 d8 => ?_⟩
        have eL8 := k8 _ _ (d7.ne_list eL) eL
        have f18 := k8 _ _ (d7.ne_tup f1) f1
        have f28 := k8 _ _ (d7.ne_tup f2) f2
        have f38 := k8 _ _ (d7.ne_tup f3) f3
        have f48 := k8 _ _ (d7.ne_tup f4) f4
        have a8 := a7.keep (fr_keep k8 d7)
        have aD8 := aD7.keep (fr_keep k8 d7)
        have eD8 := k8 _ _ nDp eD7
        have eS8 := k8 _ _ nSp eS7
        have k78 := k67.trans k8
        obtain ⟨x, bd, ex, ax, tx, zx⟩ : ∃ (x : V) (bd : Dd), atI [V.ref t1, .ref t2, .ref t3, .ref t4] (n8 % 4) = some x ∧ bd.At F0 G8 x ∧ isTT bd = false ∧ bd.sz ≤ 3000 := by
          have m0 := Int.emod_nonneg n8 (show (4 : Int) ≠ 0 by decide)
          have m1 := Int.emod_lt_of_pos n8 (show (0 : Int) < 4 by decide)
          rcases (show n8 % 4 = 0 ∨ n8 % 4 = 1 ∨ n8 % 4 = 2 ∨ n8 % 4 = 3 by omega) with e | e | e | e <;> rw [e]
          · exact ⟨_, .tup [.str "app", k'], at0 _ _, at_tup f18 (ats_cons (at_str' (by decide +kernel)) (ats_cons a8 ats_nil)), bad1 _, by show 1 + (1 + (k'.sz + 0)) ≤ 3000; omega⟩
          · exact ⟨_, .tup [.str "num", .non], at1 _ _ _, at_tup f28 (ats_cons (at_str' (by decide +kernel)) (ats_cons rfl ats_nil)), bad2, by show 1 + (1 + (1 + 0)) ≤ 3000; omega⟩
          · exact ⟨_, .tup [.str "lam", .str "a b", k'], at2 _ _ _ _, at_tup f38 (ats_cons (at_str' (by decide +kernel)) (ats_cons (at_str' (by decide +kernel)) (ats_cons a8 ats_nil))), bad3 _, by show 1 + (1 + (1 + (k'.sz + 0))) ≤ 3000; omega⟩
          · exact ⟨_, .tup [.str "note", .int 1], at3 _ _ _ _ _, at_tup f48 (ats_cons (at_str' (by decide +kernel)) (ats_cons at_int' ats_nil)), bad4, by show 1 + (1 + (1 + 0)) ≤ 3000; omega⟩
        refine ⟨_, _, rfl, rfl, (show (0 : Int) < 4 by decide), L, _, _, _, rfl, rfl, SqL.of eL8, ex, ?_⟩
        show gName 6 x _ _ _
        refine ⟨_, rfl, .inl ⟨rfl, _, SqL.of eS8⟩, _, rfl, S, _, _, rfl, rfl, eS8, szl (by rw [List.length_map]; omega), ?_⟩
        have f9 : Fr F0 G8 (upd G8 S (.lst (ks.map V.int ++ [.int (i : Int)]))) := fr_list eS8 fun z => z
        refine ⟨x, bd, ks ++ [(i : Int)], rfl, keep_upd hSH k78 _, (d8.off nSp nSr _).more (by omega), by rw [upd_ne nDS]; exact eD8, by rw [upd_same, List.map_append]; rfl, aD8.keep f9, ax.keep f9, zx, fun h => (by rw [tx] at h; cases h), by rw [List.length_append]; show _ + 1 ≤ _; omega, fun y hy => ?_, fun j qq hj => ?_, ?_⟩
        · rcases List.mem_append.mp hy with e | e
          · have := hki y e; omega
          · rw [List.mem_singleton.mp e]; omega
        · rw [List.mem_append, List.mem_singleton, hks j qq hj]
          have hjl := (List.getElem?_eq_some_iff.mp hj).1
          constructor
          · rintro (h | h)
            · exact h
            · omega
          · exact .inl
        · exact ⟨fun _ => tx, fun _ => List.mem_append_right _ (List.mem_singleton.mpr rfl)⟩
      · rw [c]
        refine iteF ?_
        exact ⟨v', k', ks, rfl, k56, d6.more (by omega), eD6, eS6, aD6, a6, by omega, fun _ => hN5, by omega, fun y hy => by have := hki y hy; omega, hks, ⟨fun h => (hni h).elim, fun h => (by rw [hT5] at h; cases h)⟩⟩
    rintro σ G6 ⟨v', k', ks', rfl, k6, d6, eD6, eS6, aD6, a6, hz6, hN6, hkl6, hki6, hks6, hki7⟩
    have hdl := ats_len aD6
    rw [List.length_map] at hdl
    refine ⟨_, rfl, .inl ⟨rfl, _, SqL.of eD6⟩, by show 6 ≤ sizeLine; decide, fun l6 hl6 => ?_⟩
    have u1 := same_new hl6 (.lst (dnames.map V.str))
    have e1 : upd G6 l6 (.lst (dnames.map V.str)) l6 = some (.lst (dnames.map V.str)) := upd_same
    have d7 := d6.same u1
    refine ⟨_, rfl, _, rfl, p, r, _, rfl, d7, fun n8 G8 n80 n81 k8 d8 => ?_⟩
    have e18 := k8 _ _ (d7.ne_list e1) e1
    have k68 := (k6.trans (Keep.same u1)).trans k8
    have eD8 := k8 _ _ nDp (u1 _ _ eD6)
    have eS8 := k8 _ _ nSp (u1 _ _ eS6)
    have aD8 := (aD6.keep (fr_same u1)).keep (fr_keep k8 d7)
    have a8 := (a6.keep (fr_same u1)).keep (fr_keep k8 d7)
    have mm0 := Int.emod_nonneg ((i : Int) + n8 % 2) (show (6 : Int) ≠ 0 by decide)
    have mm1 := Int.emod_lt_of_pos ((i : Int) + n8 % 2) (show (0 : Int) < 6 by decide)
    obtain ⟨z, hz, ez⟩ := at_strZ (ns := dnames) (i := ((i : Int) + n8 % 2) % 6) mm0 (by show _ < (6 : Int); exact mm1)
    obtain ⟨hzn, hzl⟩ := dnames_ok z hz
    refine ⟨_, _, rfl, rfl, (show (0 : Int) < 2 by decide), _, _, rfl, rfl, _, _, rfl, rfl, (show (0 : Int) < 6 by decide), l6, _, _, _, rfl, rfl, SqL.of e18, ez, _, rfl, by show 2 ≤ sizeLine; decide, fun t9 ht9 => ?_⟩
    have s9 := same_new ht9 (.tup [.str z, v'])
    have e9 : (defD (z, k')).At F0 (upd G8 t9 (.tup [.str z, v'])) (.ref t9) := at_tup upd_same (ats_cons (at_str' hzl) (ats_cons (a8.keep (fr_same s9)) ats_nil))
    have eD9 := s9 _ _ eD8
    have eS9 := s9 _ _ eS8
    have aD9 := aD8.keep (fr_same s9)
    have d9 := d8.same s9
    have k9 := k68.trans (Keep.same s9)
    generalize upd G8 t9 (.tup [.str z, v']) = G9 at e9 eD9 eS9 aD9 d9 k9 ⊢
    refine ⟨D, _, _, rfl, rfl, eD9, szl (by omega), ?_⟩
    have f9 : Fr F0 G9 (upd G9 D (.lst (dxs ++ [.ref t9]))) := fr_list eD9 fun z => z
    refine ⟨l ++ [(z, k')], dxs ++ [.ref t9], ks', _, _, rfl, keep_upd hD k9 _, (d9.off nDp nDr _).more (by omega), upd_same, ?_, by rw [List.length_append, hl]; rfl, by rw [upd_ne nDS.symm]; exact eS9, hkl6, hki6, fun qq hqq => ?_, fun j qq hj => ?_⟩
    · rw [List.map_append]
      exact ats_app (aD9.keep f9) (ats_one (e9.keep f9))
    · rcases List.mem_append.mp hqq with e | e
      · exact hlg qq e
      · rw [List.mem_singleton.mp e]
        exact ⟨by show k'.sz ≤ 40000; omega, hN6, hzn⟩
    · by_cases hjl : j < l.length
      · rw [List.getElem?_append_left hjl] at hj
        exact hks6 j qq hj
      · have hj2 := (List.getElem?_eq_some_iff.mp hj).1
        rw [List.length_append] at hj2
        have hj2 : j < l.length + 1 := hj2
        have ej : j = l.length := by omega
        rw [ej, List.getElem?_append_right (Nat.le_refl _), Nat.sub_self] at hj
        cases hj
        rw [ej, hl]
        exact hki7
  rintro σ G ⟨l, dxs, ks, v5, v6, rfl, kG, dG, eD, aD, hl, eS, hkl, hki, hlg, hks⟩
  have hl5 : l.length ≤ 5 := by omega
  refine ⟨_, rfl, D, _, rfl, .inl ⟨SqL.of eD, fun t1 ht1 => ?_⟩⟩
  have u1 := same_new ht1 (.tup dxs)
  refine ⟨by show 4 ≤ sizeLine; decide, fun l2 hl2 => ?_⟩
  have u2 := same_new hl2 (.lst (mnames.map V.str))
  have u12 := sameT u1 u2
  have e2 : upd (upd G t1 (.tup dxs)) l2 (.lst (mnames.map V.str)) l2 = some (.lst (mnames.map V.str)) := upd_same
  have e1 : upd (upd G t1 (.tup dxs)) l2 (.lst (mnames.map V.str)) t1 = some (.tup dxs) := u2 _ _ upd_same
  have d2 := dG.same u12
  refine ⟨_, rfl, p, r, _, rfl, d2, fun n3 G3 n30 n31 k3 d3 => ?_⟩
  have mm0 := Int.emod_nonneg n3 (show (4 : Int) ≠ 0 by decide)
  have mm1 := Int.emod_lt_of_pos n3 (show (0 : Int) < 4 by decide)
  obtain ⟨z, hz, ez⟩ := at_strZ (ns := mnames) (i := n3 % 4) mm0 (by show _ < (4 : Int); exact mm1)
  obtain ⟨hzn, hzl⟩ := mnames_ok z hz
  refine ⟨_, _, rfl, rfl, (show (0 : Int) < 4 by decide), l2, _, _, _, rfl, rfl, SqL.of (k3 _ _ (d2.ne_list e2) e2), ez, by show 2 ≤ sizeLine; decide, fun t4 ht4 => ⟨_, rfl, by show 2 ≤ sizeLine; decide, fun t5 ht5 => ?_⟩⟩
  have u4 := same_new ht4 (.tup [.ref t1, .str z])
  have u5 := same_new ht5 (.tup [.ref t4, .ref S])
  have u45 := sameT u4 u5
  have aD5 := ((aD.keep (fr_same (B := F0) u12)).keep (fr_keep k3 d2)).keep (fr_same u45)
  refine q t5 S (.ref t4) l z ks _ (((kG.trans (Keep.same u12)).trans k3).trans (Keep.same u45)) ((d3.same u45).more (by omega)) upd_same (at_tup (u5 _ _ upd_same) (ats_cons (at_tup (u45 _ _ (k3 _ _ (d2.ne_tup e1) e1)) aD5) (ats_cons (at_str' hzl) ats_nil))) ⟨by omega, fun qq hq => (hlg qq hq).1, fun qq hq => (hlg qq hq).2.1⟩ (fun qq hq => (hlg qq hq).2.2) hzn (u45 _ _ (k3 _ _ nSp (u12 _ _ eS))) hks
end
end Toy

set_option Elab.async false
set_option linter.all false
set_option maxRecDepth 100000
set_option maxHeartbeats 8000000
/-! Part O3: the law. -/
namespace Toy
open PySem L2
open PyProof.Rows (envOfC)
theorem outF_none {ns : List Str} : ∀ {ys : List Str}, (∀ y ∈ ys, y ∈ ns) → outF ns ys = none
  | [], _ => rfl
  | y :: ys, h => by
    rw [outF_cons, if_pos (h y (List.mem_cons_self ..))]
    exact outF_none fun z hz => h z (List.mem_cons_of_mem _ hz)
theorem firstBad_none {ns : List Str} : ∀ {l : List (Str × Dd)}, (∀ q ∈ l, isTT q.2 = true ∧ ∀ s, fr q.2 s → s ∈ ns) → firstBad ns l = none
  | [], _ => rfl
  | q :: l, h => by
    obtain ⟨h1, h2⟩ := h q (List.mem_cons_self ..)
    rw [firstBad, if_neg (by rw [h1]; decide), outF_none fun y hy => h2 y (frl_mem hy)]
    exact firstBad_none fun q' hq => h q' (List.mem_cons_of_mem _ hq)
def pnames (a : Nat) : List Str := globs.take a ++ [("main" : Str)] ++ globs.drop a
theorem pn_small (a : Nat) : ∃ b : Fin 8, pnames a = pnames b := by
  by_cases h : a < 8
  · exact ⟨⟨a, h⟩, rfl⟩
  · refine ⟨⟨7, by omega⟩, ?_⟩
    have e7 : globs.length = 7 := rfl
    show pnames a = pnames 7
    unfold pnames
    rw [List.take_of_length_le (by omega), List.drop_of_length_le (by omega), List.take_of_length_le (by omega), List.drop_of_length_le (by omega)]
theorem pn_dec : ∀ b : Fin 8, twiceIn [] (pnames b) = none ∧ twiceIn [] (pnames b ++ [("h" : Str)]) = some ("h" : Str) ∧ ("main" : Str) ∈ pnames b ∧ ("nowhere" : Str) ∉ pnames b ∧ (∀ z ∈ pnames b, isName (.str z) = true) := by decide +kernel
theorem pn_globs {a : Nat} {s : Str} (h : s ∈ globs) : s ∈ pnames a := by
  unfold pnames
  rw [← List.take_append_drop a globs] at h
  rcases List.mem_append.mp h with e | e
  · exact List.mem_append_left _ (List.mem_append_left _ e)
  · exact List.mem_append_right _ e
structure ProgF (l : List (Str × Dd)) : Prop where
  s1 : vd l "main" = .sound
  s2 : vd l "nowhere" = .unb "nowhere"
  s3 : vd (l ++ [(("h" : Str), Dd.tup [.str "num", .int 1])]) "main" = .twice "h"
theorem progF {l : List (Str × Dd)} (h : ProgOk l) : ProgF l := by
  obtain ⟨a, ha⟩ := h.nm
  have ha : l.map (·.1) = pnames a := ha
  obtain ⟨b, hb⟩ := pn_small a
  obtain ⟨p1, p2, p3, p4, p5⟩ := pn_dec b
  rw [← hb] at p1 p2 p3 p4
  have hg : ∀ (ns : List Str), (∀ s ∈ globs, s ∈ ns) → ∀ q ∈ l, isTT q.2 = true ∧ ∀ s, fr q.2 s → s ∈ ns := fun ns hns q hq => ⟨isN_T _ _ (h.gz q hq).ok, fun s hs => by
    rcases (h.gz q hq).fri s hs with e | e
    · cases e
    · exact hns s e⟩
  have f1 : firstBad (l.map (·.1)) l = none := firstBad_none (by rw [ha]; exact hg _ fun s hs => pn_globs hs)
  have em : (l ++ [(("h" : Str), Dd.tup [.str "num", .int 1])]).map (·.1) = pnames a ++ [("h" : Str)] := by rw [List.map_append, ha]; rfl
  have f2 : firstBad ((l ++ [(("h" : Str), Dd.tup [.str "num", .int 1])]).map (·.1)) (l ++ [(("h" : Str), Dd.tup [.str "num", .int 1])]) = none := firstBad_none (by
    rw [em]
    intro q hq
    rcases List.mem_append.mp hq with e | e
    · exact hg _ (fun s hs => List.mem_append_left _ (pn_globs hs)) q e
    · rw [List.mem_singleton.mp e]
      have g : Gz 1 3 [] (Dd.tup [.str "num", .int 1]) := gz_num (by omega) (by omega)
      exact ⟨isN_T _ _ g.ok, fun s hs => by
        rcases g.fri s hs with e | e
        · cases e
        · exact List.mem_append_left _ (pn_globs e)⟩)
  refine ⟨?_, ?_, ?_⟩
  · rw [vd_end f1 (by rw [ha]; exact p1), ha, if_pos p3]
  · rw [vd_end f1 (by rw [ha]; exact p1), ha, if_neg p4]
  · exact vd_twice f2 (by rw [em]; exact p2)
theorem vd_nil : vd [] "main" = .unb "main" := by
  rw [vd_end rfl rfl]
  exact if_neg List.not_mem_nil
section
variable {P : Program} {w : World} {K : PySem.W.Frag} {mg : Str → Option Value} {base : Heap}
abbrev sStart : Stmt := topS 62
theorem scStart : FnScope ["script", "left"] ["script", "left"] (defScope sStart) := ⟨rfl, rfl, rfl, by decide +kernel, rfl, by decide +kernel, by decide +kernel⟩
def spStart (K : PySem.W.Frag) : Sp := fun vs H Q _ => ∃ (a : Addr) (ns : List Int) (l : Int), vs = [.ref a, .int l] ∧ SqL K H a (ns.map V.int) ∧ ns.length ≤ 63 ∧ ∀ (p r : Addr) (H' : Hp), H p = none → Same H H' → DAt H' p r 0 → Q (.ref p) H'
theorem c_start {f : Addr} {fd : FuncData} (c_law_draws : C8.Cal P w K mg base 1 "_law_draws" (spDraws K) []) (F : Fun K "_law_start" "_law_start" sStart f fd) (b : Binds K fd ["script", "left"] []) (hm : mg "_law_start" = some (.ref f)) : C8.Cal P w K mg base 2 "_law_start" (spStart K) [] := by
  refine cal_of F hm b scStart (fun vs H Q E h => ?_) (fun cdv A outer s H vs Q E hr h => ?_)
  · obtain ⟨a, ns, l, rfl, _⟩ := h
    rfl
  obtain ⟨a, ns, l, rfl, hS, h63, q⟩ := h
  refine ⟨_, (pss_one (ps_ret (pe_disp (pps_cons pe_str (C8.pe_c c_law_draws hr (by decide) rfl (pa_cons (pv 0) (pa_cons pe_int pa_nil))) (pps_cons pe_str pe_int (pps_cons pe_str pe_int (pps_cons pe_str (pv 1) pps_nil)))) rfl rfl (by decide) (by decide)))), ?_⟩
  intro p hp
  have s1 := same_new hp (.dK [])
  have e1 : upd H p (.dK []) p = some (.dK []) := upd_same
  generalize upd H p (.dK []) = H1 at s1 e1 ⊢
  refine ⟨_, rfl, a, ns, 400, rfl, s1.seq hS, h63, by decide, by decide, fun r row H2 hr0 s2 hl hrow => ?_⟩
  have e2 := s2 _ _ e1
  refine ⟨_, rfl, e2, [(Sum.inr "row", V.ref r), (Sum.inr "at", V.int 0), (Sum.inr "names", V.int 0), (Sum.inr "left", V.int l)], rfl, (by show 4 ≤ 15; decide), ?_⟩
  have npr : r ≠ p := ne_of hl e2 (by intro z; cases z)
  rw [dk_merge]
  refine q p r _ hp (fun b u e => ?_) ⟨row, 0, 0, l, upd_same, by rw [upd_ne npr]; exact hl, hrow, Nat.le_refl _, Int.le_refl _, Int.le_refl _⟩
  rw [upd_ne (fun z => by rw [z, hp] at e; cases e)]
  exact s2 _ _ (s1 _ _ e)
abbrev sLaw : Stmt := topS 87
theorem scLaw : FnScope ["script", "d", "k", "program", "spoilt", "again"] ["script"] (defScope sLaw) := ⟨rfl, rfl, rfl, by decide +kernel, rfl, by decide +kernel, by decide +kernel⟩
def spLaw (K : PySem.W.Frag) : Sp := fun vs H Q _ => ∃ (a : Addr) (ns : List Int), vs = [.ref a] ∧ SqL K H a (ns.map V.int) ∧ ns.length ≤ 63 ∧ ∀ H', Q (.bl true) H'
theorem c_law {f : Addr} {fd : FuncData} (T : TxtZ mg) (c_law_start : C8.Cal P w K mg base 2 "_law_start" (spStart K) []) (c_law_case_of : C8.Cal P w K mg base 17 "_law_case_of" spCaseOf [])
    (c_law_told : C8.Cal P w K mg base 8 "_law_told" spTold []) (c_law_due : C8.Cal P w K mg base 22 "_law_due" spDue []) (c_law_program : C8.Cal P w K mg base (3 * 5 + 6) "_law_program" spProg [])
    (F : Fun K "law" "law" sLaw f fd) : FnOk P w K mg base CX0 23 f fd ["script"] (spLaw K) := by
  refine F.ok scLaw (fun vs H Q E h => ?_) (fun cdv A outer s H vs Q E hr h => ?_)
  · obtain ⟨a, ns, rfl, _⟩ := h
    rfl
  obtain ⟨a, ns, rfl, hS, h63, q⟩ := h
  have hu := hu_of hr
  have hu64 := hr.units
  have hbig := big
  refine ⟨_, (pss_cons (ps_set (i := 1) scLaw.nd rfl (Or.inl rfl) (C8.pe_c c_law_start hr (by decide) rfl (pa_cons (pv 0) (pa_cons pe_int pa_nil))))
    (pss_cons (ps_for PassesOwn.never rfl (pi_range1 rfl T.zrange (pa_cons pe_int pa_nil)) (pg_name (i := 2) scLaw.nd rfl (Or.inl rfl))
      (pss_cons (ps_asg (C8.pe_c c_law_case_of hr (by decide) rfl (pa_cons (pv 1) (pa_cons (pv 0) pa_nil))) (pg_tup rfl (pgs_cons (pg_name (i := 3) scLaw.nd rfl (Or.inl rfl)) (pgs_cons (pg_name (i := 4) scLaw.nd rfl (Or.inl rfl)) pgs_nil))))
    (pss_one (ps_if (pt_cmpR (op_neD hu64) (C8.pe_c c_law_told hr (by decide) rfl (pa_cons (pv 3) pa_nil)) (C8.pe_c c_law_due hr (by decide) rfl (pa_cons (pv 3) (pa_cons (pv 4) pa_nil))) (nomark _))
      (pss_one (ps_ret pe_bl))
      pss_nil))))
    (pss_cons (ps_dput hu (pv 1) pe_str pe_int rfl)
    (pss_cons (ps_set (i := 3) scLaw.nd rfl (Or.inl rfl) (C8.pe_c c_law_program hr (by decide) rfl (pa_cons (pv 1) pa_nil)))
    (pss_cons (ps_if (PW.pt (pw_or (pt_cmpR (op_neD hu64) (C8.pe_c c_law_told hr (by decide) rfl (pa_cons (pv 3) pa_nil)) (pe_tup (pa_cons pe_str (pa_cons pe_non pa_nil))) (nomark _)) (pw_or1 (pt_cmpR (op_neD hu64) (C8.pe_c c_law_told hr (by decide) rfl (pa_cons (pe_tup (pa_cons (pe_ix ix_tup (pv 3) pe_int (fun _ _ => rfl)) (pa_cons pe_str pa_nil))) pa_nil)) (pe_tup (pa_cons pe_str (pa_cons pe_str pa_nil))) (nomark _)))))
      (pss_one (ps_ret pe_bl))
      pss_nil)
    (pss_cons (ps_set (i := 5) scLaw.nd rfl (Or.inl rfl) (pe_tup (pa_cons (pe_op op_catA (pe_ix ix_tup (pv 3) pe_int (fun _ _ => rfl)) (pe_tup (pa_cons (pe_tup (pa_cons pe_str (pa_cons (pe_tup (pa_cons pe_str (pa_cons pe_int pa_nil))) pa_nil))) pa_nil))) (pa_cons pe_str pa_nil))))
    (pss_one (ps_ret (pe_and (pe_cmpR (op_eqD hu64) (C8.pe_c c_law_told hr (by decide) rfl (pa_cons (pv 5) pa_nil)) (pe_tup (pa_cons pe_str (pa_cons pe_str pa_nil))) (nomark _)) (pe_one (pe_cmpR (op_eqD hu64) (C8.pe_c c_law_told hr (by decide) rfl (pa_cons (pe_tup (pa_cons (pe_tup pa_nil) (pa_cons pe_str pa_nil))) pa_nil)) (pe_tup (pa_cons pe_str (pa_cons pe_str pa_nil))) (nomark _)))))))))))), ?_⟩
  refine ⟨_, rfl, a, ns, 30, rfl, hS, h63, fun p r H1 hp s1 d1 => ?_⟩
  refine ⟨_, rfl, by omega, by omega, for_range
    (fun (i : Nat) σ G => ∃ (v2 v3 v4 : Option V), σ = [some (.ref a), some (.ref p), v2, v3, v4, none] ∧ DAt G p r (i * 20000))
    ⟨_, _, _, rfl, d1.more (by omega)⟩ ?_ ?_⟩
  · rintro i σ G hi ⟨v2, v3, v4, rfl, dG⟩
    refine ⟨_, rfl, _, rfl, p, r, _, _, rfl, dG, by omega, fun t sp pv l m ks G2 k2 d2 et at2 hP hn hm hsp hks => ?_⟩
    refine ⟨t, _, rfl, SqT.of et, rfl, _, _, rfl, _, _, rfl, rfl, ?_⟩
    refine ⟨_, rfl, _, pv, l, m, rfl, at2, hP.C, fun t3 H3 n3 s3 e3 => ?_⟩
    refine ⟨_, rfl, _, rfl, _, pv, l, m, sp, ks, rfl, at2.keep (fr_same s3), hP, s3 _ _ hsp, hks, fun t4 H4 n4 s4 e4 => ?_⟩
    have ok := vd_ok hn hm
    refine ⟨_, _, .tup (SqT.of (s4 _ _ e3)) (told_dp _), .tup (SqT.of e4) (told_dp _), told_shaped ok, told_shaped ok, _, rfl, ?_⟩
    rw [told_eq ok]
    refine iteF ?_
    exact ⟨_, _, _, rfl, ((d2.same s3).same s4).more (by omega)⟩
  rintro σ G ⟨v2, v3, v4, rfl, dG⟩
  have dG : DAt G p r 200000 := dG.more (by decide)
  obtain ⟨row, i1, nn, left, hp1, hrow1, ok1, hi1⟩ := dG
  have npr : r ≠ p := ne_of hrow1 hp1 (by intro z; cases z)
  refine ⟨_, rfl, p, _, rfl, DPut.k (k := Sum.inr "left") hp1 (by show 4 < sizeLine; decide), ?_⟩
  rw [dk_putl]
  have d3 : DAt (upd G p (.dK (dk4 r i1 nn 40))) p r 200000 := ⟨row, i1, nn, 40, upd_same, by rw [upd_ne npr]; exact hrow1, ok1, hi1⟩
  generalize upd G p (.dK (dk4 r i1 nn 40)) = G3 at d3 ⊢
  refine ⟨_, rfl, p, r, _, rfl, d3, by omega, fun pv l G4 k4 d4 aP hP => ?_⟩
  have hF := progF hP
  have hl8 : l.length = 8 := by
    obtain ⟨c, hc⟩ := hP.nm
    have e := congrArg List.length hc
    rw [List.length_map, List.length_append, List.length_append, List.length_take, List.length_drop] at e
    have e7 : globs.length = 7 := rfl
    have e1 : [("main" : Str)].length = 1 := rfl
    omega
  have hPC : PrC l := ⟨by omega, fun qq hq => by have := (hP.gz qq hq).sz; omega⟩
  have aP0 := aP
  obtain ⟨a6, t6, xs6, rfl, ha6, ht6, hats6, _⟩ := prog_at aP
  have hxl6 := ats_len hats6
  rw [List.length_map] at hxl6
  show gName 3 (V.ref a6) _ _ _
  -- the program itself
  refine ⟨_, rfl, _, _, l, "main", rfl, aP, hPC, fun t5 H5 n5 s5 e5 => ⟨by show 2 ≤ sizeLine; decide, fun t7 ht7 => ?_⟩⟩
  rw [hF.s1] at e5
  have u7 := same_new ht7 (.tup [.str "sound", .non])
  have s7 := sameT s5 u7
  refine ⟨_, _, .tup (SqT.of (u7 _ _ e5)) (told_dp .sound), .tup (SqT.of upd_same) (told_dp .sound), told_shaped (v := .sound) trivial, told_shaped (v := .sound) trivial, _, rfl, ?_⟩
  rw [told_eq (v := .sound) trivial]
  refine iteF ?_
  generalize upd H5 t7 (.tup [.str "sound", .non]) = G7 at s7 ⊢
  clear u7 e5
  -- no such main
  have okU : ∀ {z : Str}, isName (.str z) = true → (Vd.unb z).nameOk := fun h => h
  have okN : (Vd.unb "nowhere").nameOk := by show isName (.str "nowhere") = true; decide +kernel
  have okM : (Vd.unb "main").nameOk := by show isName (.str "main") = true; decide +kernel
  have okT : (Vd.twice "h").nameOk := by show isName (.str "h") = true; decide +kernel
  refine ⟨_, rfl, a6, _, 0, _, rfl, rfl, SqT.of (s7 _ _ ha6), at0 _ _, by show 2 ≤ sizeLine; decide, fun t8 ht8 => ?_⟩
  have u8 := same_new ht8 (.tup [.ref t6, .str "nowhere"])
  have s8 := sameT s7 u8
  have a8 : (progD l "nowhere").At F0 (upd G7 t8 (.tup [.ref t6, .str "nowhere"])) (.ref t8) := at_tup upd_same (ats_cons (at_tup (s8 _ _ ht6) (hats6.keep (fr_same s8))) (ats_cons (at_str' (by decide +kernel)) ats_nil))
  generalize upd G7 t8 (.tup [.ref t6, .str "nowhere"]) = G8 at s8 a8 ⊢
  clear u8
  refine ⟨F0, _, l, "nowhere", rfl, a8, hPC, fun t9 H9 n9 s9 e9 => ⟨by show 2 ≤ sizeLine; decide, fun t10 ht10 => ?_⟩⟩
  rw [hF.s2] at e9
  have u10 := same_new ht10 (.tup [.str "unbound", .str "nowhere"])
  have s10 := sameT s8 (sameT s9 u10)
  refine ⟨_, _, .tup (SqT.of (u10 _ _ e9)) (told_dp (.unb "nowhere")), .tup (SqT.of upd_same) (told_dp (.unb "nowhere")), told_shaped okN, told_shaped okN, _, rfl, ?_⟩
  rw [told_eq okN]
  refine iteF ?_
  generalize upd H9 t10 (.tup [.str "unbound", .str "nowhere"]) = G10 at s10 ⊢
  clear u10 e9
  -- a name twice
  refine ⟨_, rfl, a6, _, 0, _, rfl, rfl, SqT.of (s10 _ _ ha6), at0 _ _, by show 2 ≤ sizeLine; decide, fun w1 hw1 => ⟨by show 2 ≤ sizeLine; decide, fun w2 hw2 => ⟨by show 1 ≤ sizeLine; decide, fun w3 hw3 => ?_⟩⟩⟩
  have u1 := same_new hw1 (.tup [.str "num", .int 1])
  have u2 := same_new hw2 (.tup [.str "h", .ref w1])
  have u3 := same_new hw3 (.tup [.ref w2])
  have g13 := sameT s10 (sameT u1 (sameT u2 u3))
  refine ⟨t6, w3, _, _, rfl, rfl, SqT.of (g13 _ _ ht6), SqT.of upd_same, by show _ + 1 ≤ sizeLine; omega, fun h0 => (by rw [h0, hl8] at hxl6; cases hxl6), fun _ h0 => (by cases h0), fun _ _ w4 hw4 => ⟨by show 2 ≤ sizeLine; decide, fun w5 hw5 => ?_⟩⟩
  have u4 := same_new hw4 (.tup (xs6 ++ [.ref w2]))
  have u5 := same_new hw5 (.tup [.ref w4, .str "main"])
  have g15 := sameT g13 (sameT u4 u5)
  have o2 : (progD (l ++ [(("h" : Str), Dd.tup [.str "num", .int 1])]) "main").At F0 (upd (upd (upd (upd (upd G10 w1 (.tup [.str "num", .int 1])) w2 (.tup [.str "h", .ref w1])) w3 (.tup [.ref w2])) w4 (.tup (xs6 ++ [.ref w2]))) w5 (.tup [.ref w4, .str "main"])) (.ref w5) := by
    refine at_tup upd_same (ats_cons (at_tup (u5 _ _ upd_same) ?_) (ats_cons (at_str' (by decide +kernel)) ats_nil))
    rw [List.map_append]
    exact ats_app (hats6.keep (fr_same g15)) (ats_one (at_tup (sameT u3 (sameT u4 u5) _ _ upd_same) (ats_cons (at_str' (by decide +kernel)) (ats_cons (at_tup (sameT u2 (sameT u3 (sameT u4 u5)) _ _ upd_same) (ats_cons (at_str' (by decide +kernel)) (ats_cons at_int' ats_nil))) ats_nil))))
  generalize upd (upd (upd (upd (upd G10 w1 (.tup [.str "num", .int 1])) w2 (.tup [.str "h", .ref w1])) w3 (.tup [.ref w2])) w4 (.tup (xs6 ++ [.ref w2]))) w5 (.tup [.ref w4, .str "main"]) = G11 at o2 ⊢
  show gName 5 (V.ref w5) _ _ _
  refine ⟨_, rfl, F0, _, l ++ [(("h" : Str), Dd.tup [.str "num", .int 1])], "main", rfl, o2, ⟨by rw [List.length_append, hl8]; decide, fun qq hq => ?_⟩, fun t12 H12 n12 s12 e12 => ⟨by show 2 ≤ sizeLine; decide, fun t13 ht13 => ?_⟩⟩
  · rcases List.mem_append.mp hq with e | e
    · exact hPC.2 qq e
    · rw [List.mem_singleton.mp e]
      show 1 + (1 + (1 + 0)) ≤ 40000
      omega
  rw [hF.s3] at e12
  have u13 := same_new ht13 (.tup [.str "twice", .str "h"])
  refine ⟨_, _, .tup (SqT.of (u13 _ _ e12)) (told_dp (.twice "h")), .tup (SqT.of upd_same) (told_dp (.twice "h")), told_shaped okT, told_shaped okT, ?_⟩
  rw [told_eq okT]
  refine ⟨_, rfl, ?_⟩
  refine iteT ?_
  generalize upd H12 t13 (.tup [.str "twice", .str "h"]) = G13
  -- no definition at all
  refine ⟨by show 0 ≤ sizeLine; decide, fun z1 hz1 => ⟨by show 2 ≤ sizeLine; decide, fun z2 hz2 => ?_⟩⟩
  have y1 := same_new hz1 (.tup [])
  have y2 := same_new hz2 (.tup [.ref z1, .str "main"])
  refine ⟨F0, _, [], "main", rfl, at_tup upd_same (ats_cons (at_tup (y2 _ _ upd_same) ats_nil) (ats_cons (at_str' (by decide +kernel)) ats_nil)), ⟨by show 0 ≤ 20; omega, fun qq hq => by cases hq⟩, fun t14 H14 n14 s14 e14 => ⟨by show 2 ≤ sizeLine; decide, fun t15 ht15 => ?_⟩⟩
  rw [vd_nil] at e14
  have u15 := same_new ht15 (.tup [.str "unbound", .str "main"])
  refine ⟨_, _, .tup (SqT.of (u15 _ _ e14)) (told_dp (.unb "main")), .tup (SqT.of upd_same) (told_dp (.unb "main")), told_shaped okM, told_shaped okM, ?_⟩
  rw [told_eq okM]
  exact q _
end
end Toy

set_option Elab.async false
set_option linter.all false
set_option maxRecDepth 100000
set_option maxHeartbeats 4000000
/-! Part Q3: written dicts whose values are defs; written tuples. -/
namespace Toy
open PySem L2
open PyProof.Rows (envOfC)
def strsAre : List Str → List Value → Bool
  | [], [] => true
  | z :: zs, .str x _ :: us => decide (x = z) && strsAre zs us
  | _, _ => false
theorem strsAre_ok : ∀ {zs : List Str} {us : List Value}, strsAre zs us = true → Vals (zs.map V.str) us
  | [], [], _ => .nil
  | [], _ :: _, h => by simp [strsAre] at h
  | _ :: _, [], h => by simp [strsAre] at h
  | z :: zs, u :: us, h => by
    cases u with
    | str x t =>
      simp only [strsAre, Bool.and_eq_true, decide_eq_true_eq] at h
      exact .cons ⟨t, by rw [h.1]⟩ (strsAre_ok h.2)
    | _ => simp [strsAre] at h
theorem written_tup {K : PySem.W.Frag} {a : Addr} {zs : List Str} {oc : Value} {od : Option Addr} {its : Array Value} {n : Nat} {sl : Array (Option Value)} (hz : zs.length ≤ 1000) (l : K.lookup a = some ⟨oc, od, .seq its n, sl⟩) (c : oc = .type "tuple") (v : strsAre zs its.toList = true) : ∀ H : Hp, SqT K H a (zs.map V.str) := fun H => by
  subst c
  have hv := strsAre_ok v
  have hl := hv.length
  rw [List.length_map] at hl
  have hl' : zs.length = its.size := by rw [hl]; exact Array.length_toList
  exact .inr ⟨_, its, n, l, rfl, rfl, Nat.le_of_lt (szl (by omega)), hv⟩
/-- the keys of a written dict -/
def keysAre : List DictEntry → List Str → Bool
  | [], [] => true
  | e :: es, z :: zs => (match e.key with | .str x _ => decide (x = z) | _ => false) && keysAre es zs
  | _, _ => false
theorem keys_out : ∀ {es : List DictEntry} {zs : List Str}, keysAre es zs = true → ∀ {z : Str}, z ∉ zs → es.find? (·.key.isStr z) = none ∧ es.any (·.refKey) = false
  | [], [], _, _, _ => ⟨rfl, rfl⟩
  | [], _ :: _, h, _, _ => by simp [keysAre] at h
  | _ :: _, [], h, _, _ => by simp [keysAre] at h
  | e :: es, y :: ys, h, z, n => by
    obtain ⟨h1, h2⟩ := fand h
    obtain ⟨g1, g2⟩ := keys_out h2 (fun m => n (List.mem_cons_of_mem _ m))
    obtain ⟨hs, k, v⟩ := e
    cases k with
    | str x t =>
      have hx : x = y := of_decide_eq_true h1
      subst hx
      have hzx : ¬ x = z := fun e => n (by rw [e]; exact List.mem_cons_self ..)
      have hk : (Value.str x t).isStr z = false := by
        rw [PySem.W.isStr_of]
        simp [Value.isStrOf, hzx]
      refine ⟨?_, ?_⟩
      · rw [List.find?_cons]
        show (match (Value.str x t).isStr z with | true => _ | false => _) = none
        rw [hk]
        exact g1
      · rw [List.any_cons, g2]
        rfl
    | _ => cases h1
theorem nsIn_out {K : PySem.W.Frag} {d : Addr} {es : Array DictEntry} {n : Nat} {zs : List Str} (l : K.lookup d = some ⟨.type "dict", none, .dict es n, #[]⟩) (h : keysAre es.toList zs = true) {z : Str} (nz : z ∉ zs) : PySem.W.nsIn K d z = some none := by
  obtain ⟨h1, h2⟩ := keys_out h nz
  unfold PySem.W.nsIn
  rw [l]
  show (match es.toList.find? (·.key.isStr z) with | some e => some (some e.val) | none => if es.toList.any (·.refKey) then none else some none) = _
  rw [h1]
  show (if es.toList.any (·.refKey) = true then none else some none) = _
  rw [h2]
  rfl
theorem held_of {P : Program} {w : World} {K : PySem.W.Frag} {mg : Str → Option Value} {base : Heap} {k : Nat} {x : Str} {f : Addr} {sp : Sp} (c : C8.Cal P w K mg base k x sp []) (hm : mg x = some (.ref f)) : Held P w K mg base k f sp := by
  obtain ⟨f', fd, ps, ds, F, hm', kp, b, d⟩ := c.ex
  rw [hm] at hm'
  cases hm'
  cases d
  exact ⟨fd, ps, F, kp, b⟩
def tab (l : List (Addr × Sp)) (f : Addr) : Option Sp := (l.find? fun q => decide (q.1 = f)).map (·.2)
theorem tab_mem : ∀ {l : List (Addr × Sp)}, (l.map (·.1)).Nodup → ∀ {f : Addr} {sp : Sp}, (f, sp) ∈ l → tab l f = some sp
  | q :: l, h, f, sp, m => by
    rw [List.map_cons, List.nodup_cons] at h
    unfold tab
    rw [List.find?_cons]
    rcases List.mem_cons.mp m with e | e
    · rw [← e, show decide ((f, sp).1 = f) = true from decide_eq_true rfl]
      rfl
    · rw [show decide (q.1 = f) = false from decide_eq_false fun z => h.1 (by rw [z]; exact List.mem_map.mpr ⟨_, e, rfl⟩)]
      exact tab_mem h.2 e
theorem tab_of {l : List (Addr × Sp)} {f : Addr} {sp : Sp} (h : tab l f = some sp) : (f, sp) ∈ l := by
  unfold tab at h
  obtain ⟨q, hq, rfl⟩ := Option.map_eq_some_iff.mp h
  have h1 := List.mem_of_find?_eq_some hq
  have h2 := List.find?_some (p := fun q : Addr × Sp => decide (q.1 = f)) hq
  have h2 : q.1 = f := of_decide_eq_true h2
  rw [← h2]
  exact h1
theorem rows_some {n : Nat} {k : Dd} (h : areRows (n + 1) k = true) : RowsD k := by
  obtain ⟨l, e, hl⟩ := rows_are h
  exact ⟨l, e, fun q hq => by obtain ⟨m, e, hm⟩ := hl q hq; exact ⟨m, e, by omega⟩⟩
end Toy

set_option Elab.async false
set_option linter.all false
set_option maxRecDepth 100000
set_option maxHeartbeats 4000000
/-! The last part: what the program's top has left, and the end. -/
namespace Toy
open PySem L2
open PyProof.Rows (envOfC)
theorem all_mk {l : PySem.W.OpenLaw} {w : World} {K : PySem.W.Frag} {h : Heap} {mg : Str → Option Value} {fa : Addr} {f0 f1 f2 f3 f4 f5 f6 f7 f8 f9 f10 f11 f12 f13 f14 f15 f16 f17 f18 f19 f20 f21 f22 f23 f24 f25 f26 f27 f28 f29 f30 f31 f32 f33 f34 f35 f36 f37 f38 f39 f40 f41 f42 f43 f44 f45 f46 f47 f48 f49 f50 f51 f52 f53 f54 f55 f56 f57 f58 f59 f60 f61 f62 f63 : Addr} (X : K.In h) (G : h.Ns mainGlobals mg) (hfa : mg "law" = some (.ref fa))
    {od0 an0 od1 an1 od2 an2 od3 an3 od4 an4 od5 an5 od6 an6 od7 an7 od8 an8 od9 an9 od10 an10 od11 an11 od12 an12 od13 an13 od14 an14 od15 an15 od16 an16 od17 an17 od18 an18 od19 an19 od20 an20 od21 an21 od22 an22 od23 an23 od24 an24 od25 an25 od26 an26 od27 an27 od28 an28 od29 an29 od30 an30 od31 an31 od32 an32 od33 an33 od34 an34 od35 an35 od36 an36 od37 an37 od38 an38 od39 an39 od40 an40 od41 an41 od42 an42 od43 an43 od44 an44 od45 an45 od46 an46 od47 an47 od48 an48 od49 an49 od50 an50 od51 an51 od52 an52 od53 an53 od54 an54 od55 an55 od56 an56 od57 an57 od58 an58 od59 an59 od60 an60 od61 an61 od62 an62 od63 an63 : Option Addr} {sl0 sl1 sl2 sl3 sl4 sl5 sl6 sl7 sl8 sl9 sl10 sl11 sl12 sl13 sl14 sl15 sl16 sl17 sl18 sl19 sl20 sl21 sl22 sl23 sl24 sl25 sl26 sl27 sl28 sl29 sl30 sl31 sl32 sl33 sl34 sl35 sl36 sl37 sl38 sl39 sl40 sl41 sl42 sl43 sl44 sl45 sl46 sl47 sl48 sl49 sl50 sl51 sl52 sl53 sl54 sl55 sl56 sl57 sl58 sl59 sl60 sl61 sl62 sl63 : Array (Option Value)} {oc0 kV0 dc0 pm0 cd0 ct0 oc1 kV1 dc1 pm1 cd1 ct1 oc2 kV2 dc2 pm2 cd2 ct2 oc3 kV3 dc3 pm3 cd3 ct3 oc4 kV4 dc4 pm4 cd4 ct4 oc5 kV5 dc5 pm5 cd5 ct5 oc6 kV6 dc6 pm6 cd6 ct6 oc7 kV7 dc7 pm7 cd7 ct7 oc8 kV8 dc8 pm8 cd8 ct8 oc9 kV9 dc9 pm9 cd9 ct9 oc10 kV10 dc10 pm10 cd10 ct10 oc11 kV11 dc11 pm11 cd11 ct11 oc12 kV12 dc12 pm12 cd12 ct12 oc13 kV13 dc13 pm13 cd13 ct13 oc14 kV14 dc14 pm14 cd14 ct14 oc15 kV15 dc15 pm15 cd15 ct15 oc16 kV16 dc16 pm16 cd16 ct16 oc17 kV17 dc17 pm17 cd17 ct17 oc18 kV18 dc18 pm18 cd18 ct18 oc19 kV19 dc19 pm19 cd19 ct19 oc20 kV20 dc20 pm20 cd20 ct20 oc21 kV21 dc21 pm21 cd21 ct21 oc22 kV22 dc22 pm22 cd22 ct22 oc23 kV23 dc23 pm23 cd23 ct23 oc24 kV24 dc24 pm24 cd24 ct24 oc25 kV25 dc25 pm25 cd25 ct25 oc26 kV26 dc26 pm26 cd26 ct26 oc27 kV27 dc27 pm27 cd27 ct27 oc28 kV28 dc28 pm28 cd28 ct28 oc29 kV29 dc29 pm29 cd29 ct29 oc30 kV30 dc30 pm30 cd30 ct30 oc31 kV31 dc31 pm31 cd31 ct31 oc32 kV32 dc32 pm32 cd32 ct32 oc33 kV33 dc33 pm33 cd33 ct33 oc34 kV34 dc34 pm34 cd34 ct34 oc35 kV35 dc35 pm35 cd35 ct35 oc36 kV36 dc36 pm36 cd36 ct36 oc37 kV37 dc37 pm37 cd37 ct37 oc38 kV38 dc38 pm38 cd38 ct38 oc39 kV39 dc39 pm39 cd39 ct39 oc40 kV40 dc40 pm40 cd40 ct40 oc41 kV41 dc41 pm41 cd41 ct41 oc42 kV42 dc42 pm42 cd42 ct42 oc43 kV43 dc43 pm43 cd43 ct43 oc44 kV44 dc44 pm44 cd44 ct44 oc45 kV45 dc45 pm45 cd45 ct45 oc46 kV46 dc46 pm46 cd46 ct46 oc47 kV47 dc47 pm47 cd47 ct47 oc48 kV48 dc48 pm48 cd48 ct48 oc49 kV49 dc49 pm49 cd49 ct49 oc50 kV50 dc50 pm50 cd50 ct50 oc51 kV51 dc51 pm51 cd51 ct51 oc52 kV52 dc52 pm52 cd52 ct52 oc53 kV53 dc53 pm53 cd53 ct53 oc54 kV54 dc54 pm54 cd54 ct54 oc55 kV55 dc55 pm55 cd55 ct55 oc56 kV56 dc56 pm56 cd56 ct56 oc57 kV57 dc57 pm57 cd57 ct57 oc58 kV58 dc58 pm58 cd58 ct58 oc59 kV59 dc59 pm59 cd59 ct59 oc60 kV60 dc60 pm60 cd60 ct60 oc61 kV61 dc61 pm61 cd61 ct61 oc62 kV62 dc62 pm62 cd62 ct62 oc63 kV63 dc63 pm63 cd63 ct63 : Value}
    {aF aP aS : Addr} {esF esP : Array DictEntry} {nF nP nS : Nat} {ocS : Value} {odS : Option Addr} {itS : Array Value} {slS : Array (Option Value)} {tk1 tk2 tk3 tk4 tk5 tk6 tk7 : Tok} {CC CM : Addr} {CB NB fIB : Addr} {nmB qB : Str} {bsB bmB subB : List Value} {snB : List Str} {abB : Bool} {colB : Option Bool} {ddB odIB anIB : Option Addr} {m0B m1B m2B m3B m5B : Option Value} {slIB : Array (Option Value)} {ocIB kVIB dcIB pmIB cdIB ctIB : Value} {CU NU fIU : Addr} {nmU qU : Str} {bsU bmU subU : List Value} {snU : List Str} {abU : Bool} {colU : Option Bool} {ddU odIU anIU : Option Addr} {m0U m1U m2U m3U m5U : Option Value} {slIU : Array (Option Value)} {ocIU kVIU dcIU pmIU cdIU ctIU : Value} {CT NT fIT : Addr} {nmT qT : Str} {bsT bmT subT : List Value} {snT : List Str} {abT : Bool} {colT : Option Bool} {ddT odIT anIT : Option Addr} {m0T m1T m2T m3T m5T : Option Value} {slIT : Array (Option Value)} {ocIT kVIT dcIT pmIT cdIT ctIT : Value}
    (a0 : PySem.W.nsIn K mainGlobals "has_form" = some (some (.ref f0)))
    (l0 : K.lookup f0 = some ⟨oc0, od0, .func (PySem.W.fnOf "has_form" "has_form" (defArgs sHas) (defBody sHas) (defScope sHas) .none kV0 dc0 pm0 an0 cd0 ct0), sl0⟩)
    (c0 : PySem.W.codeIn K cd0 "has_form" = true)
    (k0 : PySem.W.keepIn K (.ref f0) = true)
    (a1 : PySem.W.nsIn K mainGlobals "is_name" = some (some (.ref f1)))
    (l1 : K.lookup f1 = some ⟨oc1, od1, .func (PySem.W.fnOf "is_name" "is_name" (defArgs sName) (defBody sName) (defScope sName) .none kV1 dc1 pm1 an1 cd1 ct1), sl1⟩)
    (c1 : PySem.W.codeIn K cd1 "is_name" = true)
    (k1 : PySem.W.keepIn K (.ref f1) = true)
    (a2 : PySem.W.nsIn K mainGlobals "are_names" = some (some (.ref f2)))
    (l2 : K.lookup f2 = some ⟨oc2, od2, .func (PySem.W.fnOf "are_names" "are_names" (defArgs sNames) (defBody sNames) (defScope sNames) .none kV2 dc2 pm2 an2 cd2 ct2), sl2⟩)
    (c2 : PySem.W.codeIn K cd2 "are_names" = true)
    (k2 : PySem.W.keepIn K (.ref f2) = true)
    (a3 : PySem.W.nsIn K mainGlobals "_are_different" = some (some (.ref f3)))
    (l3 : K.lookup f3 = some ⟨oc3, od3, .func (PySem.W.fnOf "_are_different" "_are_different" (defArgs sDiff) (defBody sDiff) (defScope sDiff) .none kV3 dc3 pm3 an3 cd3 ct3), sl3⟩)
    (c3 : PySem.W.codeIn K cd3 "_are_different" = true)
    (k3 : PySem.W.keepIn K (.ref f3) = true)
    (a4 : PySem.W.nsIn K mainGlobals "is_integer" = some (some (.ref f4)))
    (l4 : K.lookup f4 = some ⟨oc4, od4, .func (PySem.W.fnOf "is_integer" "is_integer" (defArgs sInteger) (defBody sInteger) (defScope sInteger) .none kV4 dc4 pm4 an4 cd4 ct4), sl4⟩)
    (c4 : PySem.W.codeIn K cd4 "is_integer" = true)
    (k4 : PySem.W.keepIn K (.ref f4) = true)
    (a5 : PySem.W.nsIn K mainGlobals "_is_number" = some (some (.ref f5)))
    (l5 : K.lookup f5 = some ⟨oc5, od5, .func (PySem.W.fnOf "_is_number" "_is_number" (defArgs sNumber) (defBody sNumber) (defScope sNumber) .none kV5 dc5 pm5 an5 cd5 ct5), sl5⟩)
    (c5 : PySem.W.codeIn K cd5 "_is_number" = true)
    (k5 : PySem.W.keepIn K (.ref f5) = true)
    (a6 : PySem.W.nsIn K mainGlobals "is_core_number" = some (some (.ref f6)))
    (l6 : K.lookup f6 = some ⟨oc6, od6, .func (PySem.W.fnOf "is_core_number" "is_core_number" (defArgs sCore) (defBody sCore) (defScope sCore) .none kV6 dc6 pm6 an6 cd6 ct6), sl6⟩)
    (c6 : PySem.W.codeIn K cd6 "is_core_number" = true)
    (k6 : PySem.W.keepIn K (.ref f6) = true)
    (a7 : PySem.W.nsIn K mainGlobals "is_row" = some (some (.ref f7)))
    (l7 : K.lookup f7 = some ⟨oc7, od7, .func (PySem.W.fnOf "is_row" "is_row" (defArgs sRow) (defBody sRow) (defScope sRow) .none kV7 dc7 pm7 an7 cd7 ct7), sl7⟩)
    (c7 : PySem.W.codeIn K cd7 "is_row" = true)
    (k7 : PySem.W.keepIn K (.ref f7) = true)
    (a8 : PySem.W.nsIn K mainGlobals "are_rows" = some (some (.ref f8)))
    (l8 : K.lookup f8 = some ⟨oc8, od8, .func (PySem.W.fnOf "are_rows" "are_rows" (defArgs sRows) (defBody sRows) (defScope sRows) .none kV8 dc8 pm8 an8 cd8 ct8), sl8⟩)
    (c8 : PySem.W.codeIn K cd8 "are_rows" = true)
    (k8 : PySem.W.keepIn K (.ref f8) = true)
    (a9 : PySem.W.nsIn K mainGlobals "is_sign" = some (some (.ref f9)))
    (l9 : K.lookup f9 = some ⟨oc9, od9, .func (PySem.W.fnOf "is_sign" "is_sign" (defArgs sSign) (defBody sSign) (defScope sSign) .none kV9 dc9 pm9 an9 cd9 ct9), sl9⟩)
    (c9 : PySem.W.codeIn K cd9 "is_sign" = true)
    (k9 : PySem.W.keepIn K (.ref f9) = true)
    (a10 : PySem.W.nsIn K mainGlobals "_is_default" = some (some (.ref f10)))
    (l10 : K.lookup f10 = some ⟨oc10, od10, .func (PySem.W.fnOf "_is_default" "_is_default" (defArgs sDflt) (defBody sDflt) (defScope sDflt) .none kV10 dc10 pm10 an10 cd10 ct10), sl10⟩)
    (c10 : PySem.W.codeIn K cd10 "_is_default" = true)
    (k10 : PySem.W.keepIn K (.ref f10) = true)
    (a11 : PySem.W.nsIn K mainGlobals "_is_num" = some (some (.ref f11)))
    (l11 : K.lookup f11 = some ⟨oc11, od11, .func (PySem.W.fnOf "_is_num" "_is_num" (defArgs sFNum) (defBody sFNum) (defScope sFNum) .none kV11 dc11 pm11 an11 cd11 ct11), sl11⟩)
    (c11 : PySem.W.codeIn K cd11 "_is_num" = true)
    (k11 : PySem.W.keepIn K (.ref f11) = true)
    (a12 : PySem.W.nsIn K mainGlobals "_is_var" = some (some (.ref f12)))
    (l12 : K.lookup f12 = some ⟨oc12, od12, .func (PySem.W.fnOf "_is_var" "_is_var" (defArgs sFVar) (defBody sFVar) (defScope sFVar) .none kV12 dc12 pm12 an12 cd12 ct12), sl12⟩)
    (c12 : PySem.W.codeIn K cd12 "_is_var" = true)
    (k12 : PySem.W.keepIn K (.ref f12) = true)
    (a13 : PySem.W.nsIn K mainGlobals "_is_app" = some (some (.ref f13)))
    (l13 : K.lookup f13 = some ⟨oc13, od13, .func (PySem.W.fnOf "_is_app" "_is_app" (defArgs sFApp) (defBody sFApp) (defScope sFApp) .none kV13 dc13 pm13 an13 cd13 ct13), sl13⟩)
    (c13 : PySem.W.codeIn K cd13 "_is_app" = true)
    (k13 : PySem.W.keepIn K (.ref f13) = true)
    (a14 : PySem.W.nsIn K mainGlobals "_is_lam" = some (some (.ref f14)))
    (l14 : K.lookup f14 = some ⟨oc14, od14, .func (PySem.W.fnOf "_is_lam" "_is_lam" (defArgs sFLam) (defBody sFLam) (defScope sFLam) .none kV14 dc14 pm14 an14 cd14 ct14), sl14⟩)
    (c14 : PySem.W.codeIn K cd14 "_is_lam" = true)
    (k14 : PySem.W.keepIn K (.ref f14) = true)
    (a15 : PySem.W.nsIn K mainGlobals "_is_let" = some (some (.ref f15)))
    (l15 : K.lookup f15 = some ⟨oc15, od15, .func (PySem.W.fnOf "_is_let" "_is_let" (defArgs sFLet) (defBody sFLet) (defScope sFLet) .none kV15 dc15 pm15 an15 cd15 ct15), sl15⟩)
    (c15 : PySem.W.codeIn K cd15 "_is_let" = true)
    (k15 : PySem.W.keepIn K (.ref f15) = true)
    (a16 : PySem.W.nsIn K mainGlobals "_is_seq" = some (some (.ref f16)))
    (l16 : K.lookup f16 = some ⟨oc16, od16, .func (PySem.W.fnOf "_is_seq" "_is_seq" (defArgs sFSeq) (defBody sFSeq) (defScope sFSeq) .none kV16 dc16 pm16 an16 cd16 ct16), sl16⟩)
    (c16 : PySem.W.codeIn K cd16 "_is_seq" = true)
    (k16 : PySem.W.keepIn K (.ref f16) = true)
    (a17 : PySem.W.nsIn K mainGlobals "_is_con" = some (some (.ref f17)))
    (l17 : K.lookup f17 = some ⟨oc17, od17, .func (PySem.W.fnOf "_is_con" "_is_con" (defArgs sFCon) (defBody sFCon) (defScope sFCon) .none kV17 dc17 pm17 an17 cd17 ct17), sl17⟩)
    (c17 : PySem.W.codeIn K cd17 "_is_con" = true)
    (k17 : PySem.W.keepIn K (.ref f17) = true)
    (a18 : PySem.W.nsIn K mainGlobals "_is_case" = some (some (.ref f18)))
    (l18 : K.lookup f18 = some ⟨oc18, od18, .func (PySem.W.fnOf "_is_case" "_is_case" (defArgs sFCase) (defBody sFCase) (defScope sFCase) .none kV18 dc18 pm18 an18 cd18 ct18), sl18⟩)
    (c18 : PySem.W.codeIn K cd18 "_is_case" = true)
    (k18 : PySem.W.keepIn K (.ref f18) = true)
    (a19 : PySem.W.nsIn K mainGlobals "_is_pick" = some (some (.ref f19)))
    (l19 : K.lookup f19 = some ⟨oc19, od19, .func (PySem.W.fnOf "_is_pick" "_is_pick" (defArgs sFPick) (defBody sFPick) (defScope sFPick) .none kV19 dc19 pm19 an19 cd19 ct19), sl19⟩)
    (c19 : PySem.W.codeIn K cd19 "_is_pick" = true)
    (k19 : PySem.W.keepIn K (.ref f19) = true)
    (a20 : PySem.W.nsIn K mainGlobals "_is_prim" = some (some (.ref f20)))
    (l20 : K.lookup f20 = some ⟨oc20, od20, .func (PySem.W.fnOf "_is_prim" "_is_prim" (defArgs sFPrim) (defBody sFPrim) (defScope sFPrim) .none kV20 dc20 pm20 an20 cd20 ct20), sl20⟩)
    (c20 : PySem.W.codeIn K cd20 "_is_prim" = true)
    (k20 : PySem.W.keepIn K (.ref f20) = true)
    (a21 : PySem.W.nsIn K mainGlobals "_is_note" = some (some (.ref f21)))
    (l21 : K.lookup f21 = some ⟨oc21, od21, .func (PySem.W.fnOf "_is_note" "_is_note" (defArgs sFNote) (defBody sFNote) (defScope sFNote) .none kV21 dc21 pm21 an21 cd21 ct21), sl21⟩)
    (c21 : PySem.W.codeIn K cd21 "_is_note" = true)
    (k21 : PySem.W.keepIn K (.ref f21) = true)
    (a22 : PySem.W.nsIn K mainGlobals "parts_of" = some (some (.ref f22)))
    (l22 : K.lookup f22 = some ⟨oc22, od22, .func (PySem.W.fnOf "parts_of" "parts_of" (defArgs sParts) (defBody sParts) (defScope sParts) .none kV22 dc22 pm22 an22 cd22 ct22), sl22⟩)
    (c22 : PySem.W.codeIn K cd22 "parts_of" = true)
    (k22 : PySem.W.keepIn K (.ref f22) = true)
    (a23 : PySem.W.nsIn K mainGlobals "_default_parts" = some (some (.ref f23)))
    (l23 : K.lookup f23 = some ⟨oc23, od23, .func (PySem.W.fnOf "_default_parts" "_default_parts" (defArgs sPDflt) (defBody sPDflt) (defScope sPDflt) .none kV23 dc23 pm23 an23 cd23 ct23), sl23⟩)
    (c23 : PySem.W.codeIn K cd23 "_default_parts" = true)
    (k23 : PySem.W.keepIn K (.ref f23) = true)
    (a24 : PySem.W.nsIn K mainGlobals "_lam_body" = some (some (.ref f24)))
    (l24 : K.lookup f24 = some ⟨oc24, od24, .func (PySem.W.fnOf "_lam_body" "_lam_body" (defArgs sPLam) (defBody sPLam) (defScope sPLam) .none kV24 dc24 pm24 an24 cd24 ct24), sl24⟩)
    (c24 : PySem.W.codeIn K cd24 "_lam_body" = true)
    (k24 : PySem.W.keepIn K (.ref f24) = true)
    (a25 : PySem.W.nsIn K mainGlobals "_note_parts" = some (some (.ref f25)))
    (l25 : K.lookup f25 = some ⟨oc25, od25, .func (PySem.W.fnOf "_note_parts" "_note_parts" (defArgs sPNote) (defBody sPNote) (defScope sPNote) .none kV25 dc25 pm25 an25 cd25 ct25), sl25⟩)
    (c25 : PySem.W.codeIn K cd25 "_note_parts" = true)
    (k25 : PySem.W.keepIn K (.ref f25) = true)
    (a26 : PySem.W.nsIn K mainGlobals "_app_parts" = some (some (.ref f26)))
    (l26 : K.lookup f26 = some ⟨oc26, od26, .func (PySem.W.fnOf "_app_parts" "_app_parts" (defArgs sPApp) (defBody sPApp) (defScope sPApp) .none kV26 dc26 pm26 an26 cd26 ct26), sl26⟩)
    (c26 : PySem.W.codeIn K cd26 "_app_parts" = true)
    (k26 : PySem.W.keepIn K (.ref f26) = true)
    (a27 : PySem.W.nsIn K mainGlobals "_later_parts" = some (some (.ref f27)))
    (l27 : K.lookup f27 = some ⟨oc27, od27, .func (PySem.W.fnOf "_later_parts" "_later_parts" (defArgs sPLater) (defBody sPLater) (defScope sPLater) .none kV27 dc27 pm27 an27 cd27 ct27), sl27⟩)
    (c27 : PySem.W.codeIn K cd27 "_later_parts" = true)
    (k27 : PySem.W.keepIn K (.ref f27) = true)
    (a28 : PySem.W.nsIn K mainGlobals "_con_parts" = some (some (.ref f28)))
    (l28 : K.lookup f28 = some ⟨oc28, od28, .func (PySem.W.fnOf "_con_parts" "_con_parts" (defArgs sPCon) (defBody sPCon) (defScope sPCon) .none kV28 dc28 pm28 an28 cd28 ct28), sl28⟩)
    (c28 : PySem.W.codeIn K cd28 "_con_parts" = true)
    (k28 : PySem.W.keepIn K (.ref f28) = true)
    (a29 : PySem.W.nsIn K mainGlobals "_let_parts" = some (some (.ref f29)))
    (l29 : K.lookup f29 = some ⟨oc29, od29, .func (PySem.W.fnOf "_let_parts" "_let_parts" (defArgs sPLet) (defBody sPLet) (defScope sPLet) .none kV29 dc29 pm29 an29 cd29 ct29), sl29⟩)
    (c29 : PySem.W.codeIn K cd29 "_let_parts" = true)
    (k29 : PySem.W.keepIn K (.ref f29) = true)
    (a30 : PySem.W.nsIn K mainGlobals "_choice_parts" = some (some (.ref f30)))
    (l30 : K.lookup f30 = some ⟨oc30, od30, .func (PySem.W.fnOf "_choice_parts" "_choice_parts" (defArgs sPChoice) (defBody sPChoice) (defScope sPChoice) .none kV30 dc30 pm30 an30 cd30 ct30), sl30⟩)
    (c30 : PySem.W.codeIn K cd30 "_choice_parts" = true)
    (k30 : PySem.W.keepIn K (.ref f30) = true)
    (a31 : PySem.W.nsIn K mainGlobals "is_term" = some (some (.ref f31)))
    (l31 : K.lookup f31 = some ⟨oc31, od31, .func (PySem.W.fnOf "is_term" "is_term" (defArgs sIsTerm) (defBody sIsTerm) (defScope sIsTerm) .none kV31 dc31 pm31 an31 cd31 ct31), sl31⟩)
    (c31 : PySem.W.codeIn K cd31 "is_term" = true)
    (k31 : PySem.W.keepIn K (.ref f31) = true)
    (a32 : PySem.W.nsIn K mainGlobals "names_of" = some (some (.ref f32)))
    (l32 : K.lookup f32 = some ⟨oc32, od32, .func (PySem.W.fnOf "names_of" "names_of" (defArgs sNamesOf) (defBody sNamesOf) (defScope sNamesOf) .none kV32 dc32 pm32 an32 cd32 ct32), sl32⟩)
    (c32 : PySem.W.codeIn K cd32 "names_of" = true)
    (k32 : PySem.W.keepIn K (.ref f32) = true)
    (a33 : PySem.W.nsIn K mainGlobals "scopes_of" = some (some (.ref f33)))
    (l33 : K.lookup f33 = some ⟨oc33, od33, .func (PySem.W.fnOf "scopes_of" "scopes_of" (defArgs sScopes) (defBody sScopes) (defScope sScopes) .none kV33 dc33 pm33 an33 cd33 ct33), sl33⟩)
    (c33 : PySem.W.codeIn K cd33 "scopes_of" = true)
    (k33 : PySem.W.keepIn K (.ref f33) = true)
    (a34 : PySem.W.nsIn K mainGlobals "_own_names" = some (some (.ref f34)))
    (l34 : K.lookup f34 = some ⟨oc34, od34, .func (PySem.W.fnOf "_own_names" "_own_names" (defArgs sOwn) (defBody sOwn) (defScope sOwn) .none kV34 dc34 pm34 an34 cd34 ct34), sl34⟩)
    (c34 : PySem.W.codeIn K cd34 "_own_names" = true)
    (k34 : PySem.W.keepIn K (.ref f34) = true)
    (a35 : PySem.W.nsIn K mainGlobals "_default_names" = some (some (.ref f35)))
    (l35 : K.lookup f35 = some ⟨oc35, od35, .func (PySem.W.fnOf "_default_names" "_default_names" (defArgs sNDflt) (defBody sNDflt) (defScope sNDflt) .none kV35 dc35 pm35 an35 cd35 ct35), sl35⟩)
    (c35 : PySem.W.codeIn K cd35 "_default_names" = true)
    (k35 : PySem.W.keepIn K (.ref f35) = true)
    (a36 : PySem.W.nsIn K mainGlobals "free_names" = some (some (.ref f36)))
    (l36 : K.lookup f36 = some ⟨oc36, od36, .func (PySem.W.fnOf "free_names" "free_names" (defArgs sFree) (defBody sFree) (defScope sFree) .none kV36 dc36 pm36 an36 cd36 ct36), sl36⟩)
    (c36 : PySem.W.codeIn K cd36 "free_names" = true)
    (k36 : PySem.W.keepIn K (.ref f36) = true)
    (a37 : PySem.W.nsIn K mainGlobals "_law_draws" = some (some (.ref f37)))
    (l37 : K.lookup f37 = some ⟨oc37, od37, .func (PySem.W.fnOf "_law_draws" "_law_draws" (defArgs sDraws) (defBody sDraws) (defScope sDraws) .none kV37 dc37 pm37 an37 cd37 ct37), sl37⟩)
    (c37 : PySem.W.codeIn K cd37 "_law_draws" = true)
    (k37 : PySem.W.keepIn K (.ref f37) = true)
    (a38 : PySem.W.nsIn K mainGlobals "_law_take" = some (some (.ref f38)))
    (l38 : K.lookup f38 = some ⟨oc38, od38, .func (PySem.W.fnOf "_law_take" "_law_take" (defArgs sTake) (defBody sTake) (defScope sTake) .none kV38 dc38 pm38 an38 cd38 ct38), sl38⟩)
    (c38 : PySem.W.codeIn K cd38 "_law_take" = true)
    (k38 : PySem.W.keepIn K (.ref f38) = true)
    (a39 : PySem.W.nsIn K mainGlobals "_law_fresh" = some (some (.ref f39)))
    (l39 : K.lookup f39 = some ⟨oc39, od39, .func (PySem.W.fnOf "_law_fresh" "_law_fresh" (defArgs sFresh) (defBody sFresh) (defScope sFresh) .none kV39 dc39 pm39 an39 cd39 ct39), sl39⟩)
    (c39 : PySem.W.codeIn K cd39 "_law_fresh" = true)
    (k39 : PySem.W.keepIn K (.ref f39) = true)
    (a40 : PySem.W.nsIn K mainGlobals "_law_start" = some (some (.ref f40)))
    (l40 : K.lookup f40 = some ⟨oc40, od40, .func (PySem.W.fnOf "_law_start" "_law_start" (defArgs sStart) (defBody sStart) (defScope sStart) .none kV40 dc40 pm40 an40 cd40 ct40), sl40⟩)
    (c40 : PySem.W.codeIn K cd40 "_law_start" = true)
    (k40 : PySem.W.keepIn K (.ref f40) = true)
    (a41 : PySem.W.nsIn K mainGlobals "_law_name" = some (some (.ref f41)))
    (l41 : K.lookup f41 = some ⟨oc41, od41, .func (PySem.W.fnOf "_law_name" "_law_name" (defArgs sLName) (defBody sLName) (defScope sLName) .none kV41 dc41 pm41 an41 cd41 ct41), sl41⟩)
    (c41 : PySem.W.codeIn K cd41 "_law_name" = true)
    (k41 : PySem.W.keepIn K (.ref f41) = true)
    (a42 : PySem.W.nsIn K mainGlobals "_law_names" = some (some (.ref f42)))
    (l42 : K.lookup f42 = some ⟨oc42, od42, .func (PySem.W.fnOf "_law_names" "_law_names" (defArgs sLNames) (defBody sLNames) (defScope sLNames) .none kV42 dc42 pm42 an42 cd42 ct42), sl42⟩)
    (c42 : PySem.W.codeIn K cd42 "_law_names" = true)
    (k42 : PySem.W.keepIn K (.ref f42) = true)
    (a43 : PySem.W.nsIn K mainGlobals "_law_any_branch" = some (some (.ref f43)))
    (l43 : K.lookup f43 = some ⟨oc43, od43, .func (PySem.W.fnOf "_law_any_branch" "_law_any_branch" (defArgs sBranch) (defBody sBranch) (defScope sBranch) .none kV43 dc43 pm43 an43 cd43 ct43), sl43⟩)
    (c43 : PySem.W.codeIn K cd43 "_law_any_branch" = true)
    (k43 : PySem.W.keepIn K (.ref f43) = true)
    (a44 : PySem.W.nsIn K mainGlobals "_law_any" = some (some (.ref f44)))
    (l44 : K.lookup f44 = some ⟨oc44, od44, .func (PySem.W.fnOf "_law_any" "_law_any" (defArgs sAny) (defBody sAny) (defScope sAny) .none kV44 dc44 pm44 an44 cd44 ct44), sl44⟩)
    (c44 : PySem.W.codeIn K cd44 "_law_any" = true)
    (k44 : PySem.W.keepIn K (.ref f44) = true)
    (a45 : PySem.W.nsIn K mainGlobals "_law_var" = some (some (.ref f45)))
    (l45 : K.lookup f45 = some ⟨oc45, od45, .func (PySem.W.fnOf "_law_var" "_law_var" (defArgs sVar) (defBody sVar) (defScope sVar) .none kV45 dc45 pm45 an45 cd45 ct45), sl45⟩)
    (c45 : PySem.W.codeIn K cd45 "_law_var" = true)
    (k45 : PySem.W.keepIn K (.ref f45) = true)
    (a46 : PySem.W.nsIn K mainGlobals "_law_number" = some (some (.ref f46)))
    (l46 : K.lookup f46 = some ⟨oc46, od46, .func (PySem.W.fnOf "_law_number" "_law_number" (defArgs sNum) (defBody sNum) (defScope sNum) .none kV46 dc46 pm46 an46 cd46 ct46), sl46⟩)
    (c46 : PySem.W.codeIn K cd46 "_law_number" = true)
    (k46 : PySem.W.keepIn K (.ref f46) = true)
    (a47 : PySem.W.nsIn K mainGlobals "_law_leaf" = some (some (.ref f47)))
    (l47 : K.lookup f47 = some ⟨oc47, od47, .func (PySem.W.fnOf "_law_leaf" "_law_leaf" (defArgs sLeaf) (defBody sLeaf) (defScope sLeaf) .none kV47 dc47 pm47 an47 cd47 ct47), sl47⟩)
    (c47 : PySem.W.codeIn K cd47 "_law_leaf" = true)
    (k47 : PySem.W.keepIn K (.ref f47) = true)
    (a48 : PySem.W.nsIn K mainGlobals "_law_let" = some (some (.ref f48)))
    (l48 : K.lookup f48 = some ⟨oc48, od48, .func (PySem.W.fnOf "_law_let" "_law_let" (defArgs sLet) (defBody sLet) (defScope sLet) .none kV48 dc48 pm48 an48 cd48 ct48), sl48⟩)
    (c48 : PySem.W.codeIn K cd48 "_law_let" = true)
    (k48 : PySem.W.keepIn K (.ref f48) = true)
    (a49 : PySem.W.nsIn K mainGlobals "_law_default" = some (some (.ref f49)))
    (l49 : K.lookup f49 = some ⟨oc49, od49, .func (PySem.W.fnOf "_law_default" "_law_default" (defArgs sDflt2) (defBody sDflt2) (defScope sDflt2) .none kV49 dc49 pm49 an49 cd49 ct49), sl49⟩)
    (c49 : PySem.W.codeIn K cd49 "_law_default" = true)
    (k49 : PySem.W.keepIn K (.ref f49) = true)
    (a50 : PySem.W.nsIn K mainGlobals "_law_case" = some (some (.ref f50)))
    (l50 : K.lookup f50 = some ⟨oc50, od50, .func (PySem.W.fnOf "_law_case" "_law_case" (defArgs sCase) (defBody sCase) (defScope sCase) .none kV50 dc50 pm50 an50 cd50 ct50), sl50⟩)
    (c50 : PySem.W.codeIn K cd50 "_law_case" = true)
    (k50 : PySem.W.keepIn K (.ref f50) = true)
    (a51 : PySem.W.nsIn K mainGlobals "_law_choice" = some (some (.ref f51)))
    (l51 : K.lookup f51 = some ⟨oc51, od51, .func (PySem.W.fnOf "_law_choice" "_law_choice" (defArgs sChoice) (defBody sChoice) (defScope sChoice) .none kV51 dc51 pm51 an51 cd51 ct51), sl51⟩)
    (c51 : PySem.W.codeIn K cd51 "_law_choice" = true)
    (k51 : PySem.W.keepIn K (.ref f51) = true)
    (a52 : PySem.W.nsIn K mainGlobals "_law_globals" = some (some (.ref f52)))
    (l52 : K.lookup f52 = some ⟨oc52, od52, .func (PySem.W.fnOf "_law_globals" "_law_globals" (defArgs sGlobals) (defBody sGlobals) (defScope sGlobals) .none kV52 dc52 pm52 an52 cd52 ct52), sl52⟩)
    (c52 : PySem.W.codeIn K cd52 "_law_globals" = true)
    (k52 : PySem.W.keepIn K (.ref f52) = true)
    (a53 : PySem.W.nsIn K mainGlobals "_law_call" = some (some (.ref f53)))
    (l53 : K.lookup f53 = some ⟨oc53, od53, .func (PySem.W.fnOf "_law_call" "_law_call" (defArgs sLCall) (defBody sLCall) (defScope sLCall) .none kV53 dc53 pm53 an53 cd53 ct53), sl53⟩)
    (c53 : PySem.W.codeIn K cd53 "_law_call" = true)
    (k53 : PySem.W.keepIn K (.ref f53) = true)
    (a54 : PySem.W.nsIn K mainGlobals "_law_own" = some (some (.ref f54)))
    (l54 : K.lookup f54 = some ⟨oc54, od54, .func (PySem.W.fnOf "_law_own" "_law_own" (defArgs sLOwn2) (defBody sLOwn2) (defScope sLOwn2) .none kV54 dc54 pm54 an54 cd54 ct54), sl54⟩)
    (c54 : PySem.W.codeIn K cd54 "_law_own" = true)
    (k54 : PySem.W.keepIn K (.ref f54) = true)
    (a55 : PySem.W.nsIn K mainGlobals "_law_term" = some (some (.ref f55)))
    (l55 : K.lookup f55 = some ⟨oc55, od55, .func (PySem.W.fnOf "_law_term" "_law_term" (defArgs sTerm) (defBody sTerm) (defScope sTerm) .none kV55 dc55 pm55 an55 cd55 ct55), sl55⟩)
    (c55 : PySem.W.codeIn K cd55 "_law_term" = true)
    (k55 : PySem.W.keepIn K (.ref f55) = true)
    (a56 : PySem.W.nsIn K mainGlobals "_law_program" = some (some (.ref f56)))
    (l56 : K.lookup f56 = some ⟨oc56, od56, .func (PySem.W.fnOf "_law_program" "_law_program" (defArgs sProg) (defBody sProg) (defScope sProg) .none kV56 dc56 pm56 an56 cd56 ct56), sl56⟩)
    (c56 : PySem.W.codeIn K cd56 "_law_program" = true)
    (k56 : PySem.W.keepIn K (.ref f56) = true)
    (a57 : PySem.W.nsIn K mainGlobals "_law_inner" = some (some (.ref f57)))
    (l57 : K.lookup f57 = some ⟨oc57, od57, .func (PySem.W.fnOf "_law_inner" "_law_inner" (defArgs sLInner) (defBody sLInner) (defScope sLInner) .none kV57 dc57 pm57 an57 cd57 ct57), sl57⟩)
    (c57 : PySem.W.codeIn K cd57 "_law_inner" = true)
    (k57 : PySem.W.keepIn K (.ref f57) = true)
    (a58 : PySem.W.nsIn K mainGlobals "_law_free" = some (some (.ref f58)))
    (l58 : K.lookup f58 = some ⟨oc58, od58, .func (PySem.W.fnOf "_law_free" "_law_free" (defArgs sLFree) (defBody sLFree) (defScope sLFree) .none kV58 dc58 pm58 an58 cd58 ct58), sl58⟩)
    (c58 : PySem.W.codeIn K cd58 "_law_free" = true)
    (k58 : PySem.W.keepIn K (.ref f58) = true)
    (a59 : PySem.W.nsIn K mainGlobals "check_program" = some (some (.ref f59)))
    (l59 : K.lookup f59 = some ⟨oc59, od59, .func (PySem.W.fnOf "check_program" "check_program" (defArgs sCheck) (defBody sCheck) (defScope sCheck) .none kV59 dc59 pm59 an59 cd59 ct59), sl59⟩)
    (c59 : PySem.W.codeIn K cd59 "check_program" = true)
    (k59 : PySem.W.keepIn K (.ref f59) = true)
    (a60 : PySem.W.nsIn K mainGlobals "_law_told" = some (some (.ref f60)))
    (l60 : K.lookup f60 = some ⟨oc60, od60, .func (PySem.W.fnOf "_law_told" "_law_told" (defArgs sTold) (defBody sTold) (defScope sTold) .none kV60 dc60 pm60 an60 cd60 ct60), sl60⟩)
    (c60 : PySem.W.codeIn K cd60 "_law_told" = true)
    (k60 : PySem.W.keepIn K (.ref f60) = true)
    (a61 : PySem.W.nsIn K mainGlobals "_law_due" = some (some (.ref f61)))
    (l61 : K.lookup f61 = some ⟨oc61, od61, .func (PySem.W.fnOf "_law_due" "_law_due" (defArgs sDue) (defBody sDue) (defScope sDue) .none kV61 dc61 pm61 an61 cd61 ct61), sl61⟩)
    (c61 : PySem.W.codeIn K cd61 "_law_due" = true)
    (k61 : PySem.W.keepIn K (.ref f61) = true)
    (a62 : PySem.W.nsIn K mainGlobals "_law_case_of" = some (some (.ref f62)))
    (l62 : K.lookup f62 = some ⟨oc62, od62, .func (PySem.W.fnOf "_law_case_of" "_law_case_of" (defArgs sCaseOf) (defBody sCaseOf) (defScope sCaseOf) .none kV62 dc62 pm62 an62 cd62 ct62), sl62⟩)
    (c62 : PySem.W.codeIn K cd62 "_law_case_of" = true)
    (k62 : PySem.W.keepIn K (.ref f62) = true)
    (a63 : PySem.W.nsIn K mainGlobals "law" = some (some (.ref f63)))
    (l63 : K.lookup f63 = some ⟨oc63, od63, .func (PySem.W.fnOf "law" "law" (defArgs sLaw) (defBody sLaw) (defScope sLaw) .none kV63 dc63 pm63 an63 cd63 ct63), sl63⟩)
    (c63 : PySem.W.codeIn K cd63 "law" = true)
    (k63 : PySem.W.keepIn K (.ref f63) = true)
    (cst1 : PySem.W.nsIn K mainGlobals "LONGEST_NAME" = some (some (.int 80 tk1)))
    (cst2 : PySem.W.nsIn K mainGlobals "LARGEST_NUMBER" = some (some (.int 1000000000000000 tk2)))
    (cst3 : PySem.W.nsIn K mainGlobals "LARGEST_TAG" = some (some (.int 1000 tk3)))
    (cst4 : PySem.W.nsIn K mainGlobals "LARGEST_NOTE" = some (some (.int 1000000000000 tk4)))
    (cst5 : PySem.W.nsIn K mainGlobals "FIRST_CODE" = some (some (.int 33 tk5)))
    (cst6 : PySem.W.nsIn K mainGlobals "LAST_CODE" = some (some (.int 126 tk6)))
    (cst7 : PySem.W.nsIn K mainGlobals "PERCENT_CODE" = some (some (.int 37 tk7)))
    (gtS : PySem.W.nsIn K mainGlobals "SIGNS" = some (some (.ref aS)))
    (ltS : K.lookup aS = some ⟨ocS, odS, .seq itS nS, slS⟩)
    (ctS : ocS = .type "tuple")
    (vtS : strsAre signs itS.toList = true)
    (gdF : PySem.W.nsIn K mainGlobals "FORMS" = some (some (.ref aF)))
    (ldF : K.lookup aF = some ⟨.type "dict", none, .dict esF nF, #[]⟩)
    (kdF : PySem.W.KeysLit w.params esF.toList)
    (sdF : (aF == sysModules) = false)
    (vdF : keysAre esF.toList words = true)
    (wFnum : PySem.W.nsIn K aF "num" = some (some (.ref f11)))
    (wFvar : PySem.W.nsIn K aF "var" = some (some (.ref f12)))
    (wFapp : PySem.W.nsIn K aF "app" = some (some (.ref f13)))
    (wFlam : PySem.W.nsIn K aF "lam" = some (some (.ref f14)))
    (wFlet : PySem.W.nsIn K aF "let" = some (some (.ref f15)))
    (wFseq : PySem.W.nsIn K aF "seq" = some (some (.ref f16)))
    (wFcon : PySem.W.nsIn K aF "con" = some (some (.ref f17)))
    (wFcase : PySem.W.nsIn K aF "case" = some (some (.ref f18)))
    (wFpick : PySem.W.nsIn K aF "pick" = some (some (.ref f19)))
    (wFprim : PySem.W.nsIn K aF "prim" = some (some (.ref f20)))
    (wFnote : PySem.W.nsIn K aF "note" = some (some (.ref f21)))
    (gdP : PySem.W.nsIn K mainGlobals "PARTS" = some (some (.ref aP)))
    (ldP : K.lookup aP = some ⟨.type "dict", none, .dict esP nP, #[]⟩)
    (kdP : PySem.W.KeysLit w.params esP.toList)
    (sdP : (aP == sysModules) = false)
    (vdP : keysAre esP.toList pwords = true)
    (wPapp : PySem.W.nsIn K aP "app" = some (some (.ref f26)))
    (wPlam : PySem.W.nsIn K aP "lam" = some (some (.ref f24)))
    (wPlet : PySem.W.nsIn K aP "let" = some (some (.ref f29)))
    (wPseq : PySem.W.nsIn K aP "seq" = some (some (.ref f27)))
    (wPcon : PySem.W.nsIn K aP "con" = some (some (.ref f28)))
    (wPcase : PySem.W.nsIn K aP "case" = some (some (.ref f30)))
    (wPpick : PySem.W.nsIn K aP "pick" = some (some (.ref f30)))
    (wPprim : PySem.W.nsIn K aP "prim" = some (some (.ref f27)))
    (wPnote : PySem.W.nsIn K aP "note" = some (some (.ref f25)))
    (ndF : ([f11, f12, f13, f14, f15, f16, f17, f18, f19, f20, f21] : List Addr).Nodup)
    (ndP : ([f26, f24, f29, f27, f28, f30, f25] : List Addr).Nodup)
    (aC : PySem.W.nsIn K mainGlobals "CoreError" = some (some (.ref CC)))
    (aM : PySem.W.nsIn K mainGlobals "MainIsFunction" = some (some (.ref CM)))
    (rdC : PySem.W.readsIn K CC (.type "type") = true)
    (gaC : PySem.W.specialIn K (.ref CC) "__getattribute__" = some (some (.builtin "type.__getattribute__")))
    (vC : PySem.W.findCls K (.ref CC) (.type "type") "__init__" = some (.val (.builtin "ValueError.__init__")))
    (exC : PySem.W.subIn K (.ref CC) (.type "BaseException") = some true)
    (hdC : PySem.W.hasDictIn K CC = true)
    (tyC : PySem.W.typeIn K (.ref CC) = some (.type "type"))
    (aB : PySem.W.nsIn K mainGlobals "BadCore" = some (some (.ref CB)))
    (xB : K.lookup CB = some (PySem.excClassObj nmB qB CB NB bsB bmB true snB subB abB colB ddB m0B m1B m2B m3B m5B "ValueError.__new__"))
    (rB : PySem.HandSPX.refsVE bmB = true)
    (saB : PySem.W.findIn K (.ref CB) "__setattr__" = some (some (.builtin "object.__setattr__")))
    (exB : PySem.W.subIn K (.ref CB) (.type "BaseException") = some true)
    (tyB : PySem.W.typeIn K (.ref CB) = some (.type "type"))
    (kB : PySem.W.keepIn K (.ref CB) = true)
    (iB : PySem.W.findIn K (.ref CB) "__init__" = some (some (.ref fIB)))
    (noB : PySem.W.findIn K (.ref CB) "name" = some none)
    (gaB : PySem.W.findIn K (.ref CB) "__getattribute__" = some (some (.builtin "BaseException.__getattribute__")))
    (ggB : PySem.W.findIn K (.ref CB) "__getattr__" = some none)
    (hdB : PySem.W.hasDictIn K CB = true)
    (clB : PySem.W.findIn K (.ref CB) "__class__" = some (some (.builtin "object.__class__")))
    (moB : PySem.W.mroIn K CB (.type "object") = some true)
    (tIB : PySem.W.typeIn K (.ref fIB) = some (.type "function"))
    (lIB : K.lookup fIB = some ⟨ocIB, odIB, .func (PySem.W.fnOf "__init__" "BadCore.__init__" (defArgs sBadI) (defBody sBadI) (defScope sBadI) .none kVIB dcIB pmIB anIB cdIB ctIB), slIB⟩)
    (cIB : PySem.W.codeIn K cdIB "BadCore.__init__" = true)
    (kIB : PySem.W.keepIn K (.ref fIB) = true)
    (aU : PySem.W.nsIn K mainGlobals "UnboundName" = some (some (.ref CU)))
    (xU : K.lookup CU = some (PySem.excClassObj nmU qU CU NU bsU bmU true snU subU abU colU ddU m0U m1U m2U m3U m5U "ValueError.__new__"))
    (rU : PySem.HandSPX.refsVE bmU = true)
    (saU : PySem.W.findIn K (.ref CU) "__setattr__" = some (some (.builtin "object.__setattr__")))
    (exU : PySem.W.subIn K (.ref CU) (.type "BaseException") = some true)
    (tyU : PySem.W.typeIn K (.ref CU) = some (.type "type"))
    (kU : PySem.W.keepIn K (.ref CU) = true)
    (iU : PySem.W.findIn K (.ref CU) "__init__" = some (some (.ref fIU)))
    (noU : PySem.W.findIn K (.ref CU) "name" = some none)
    (gaU : PySem.W.findIn K (.ref CU) "__getattribute__" = some (some (.builtin "BaseException.__getattribute__")))
    (ggU : PySem.W.findIn K (.ref CU) "__getattr__" = some none)
    (hdU : PySem.W.hasDictIn K CU = true)
    (clU : PySem.W.findIn K (.ref CU) "__class__" = some (some (.builtin "object.__class__")))
    (moU : PySem.W.mroIn K CU (.type "object") = some true)
    (tIU : PySem.W.typeIn K (.ref fIU) = some (.type "function"))
    (lIU : K.lookup fIU = some ⟨ocIU, odIU, .func (PySem.W.fnOf "__init__" "UnboundName.__init__" (defArgs sUnbI) (defBody sUnbI) (defScope sUnbI) .none kVIU dcIU pmIU anIU cdIU ctIU), slIU⟩)
    (cIU : PySem.W.codeIn K cdIU "UnboundName.__init__" = true)
    (kIU : PySem.W.keepIn K (.ref fIU) = true)
    (aT : PySem.W.nsIn K mainGlobals "TwiceBound" = some (some (.ref CT)))
    (xT : K.lookup CT = some (PySem.excClassObj nmT qT CT NT bsT bmT true snT subT abT colT ddT m0T m1T m2T m3T m5T "ValueError.__new__"))
    (rT : PySem.HandSPX.refsVE bmT = true)
    (saT : PySem.W.findIn K (.ref CT) "__setattr__" = some (some (.builtin "object.__setattr__")))
    (exT : PySem.W.subIn K (.ref CT) (.type "BaseException") = some true)
    (tyT : PySem.W.typeIn K (.ref CT) = some (.type "type"))
    (kT : PySem.W.keepIn K (.ref CT) = true)
    (iT : PySem.W.findIn K (.ref CT) "__init__" = some (some (.ref fIT)))
    (noT : PySem.W.findIn K (.ref CT) "name" = some none)
    (gaT : PySem.W.findIn K (.ref CT) "__getattribute__" = some (some (.builtin "BaseException.__getattribute__")))
    (ggT : PySem.W.findIn K (.ref CT) "__getattr__" = some none)
    (hdT : PySem.W.hasDictIn K CT = true)
    (clT : PySem.W.findIn K (.ref CT) "__class__" = some (some (.builtin "object.__class__")))
    (moT : PySem.W.mroIn K CT (.type "object") = some true)
    (tIT : PySem.W.typeIn K (.ref fIT) = some (.type "function"))
    (lIT : K.lookup fIT = some ⟨ocIT, odIT, .func (PySem.W.fnOf "__init__" "TwiceBound.__init__" (defArgs sTwiI) (defBody sTwiI) (defScope sTwiI) .none kVIT dcIT pmIT anIT cdIT ctIT), slIT⟩)
    (cIT : PySem.W.codeIn K cdIT "TwiceBound.__init__" = true)
    (kIT : PySem.W.keepIn K (.ref fIT) = true)
    (sn : PySem.W.specialIn K (.builtin "object.__class__") "__get__" = some (some (.builtin "getset_descriptor.__get__")))
    (tk : PySem.W.takesIn K (.builtin "object.__class__") = some true)
    (sBB : PySem.W.subIn K (.ref CB) (.ref CB) = some true)
    (sUB : PySem.W.subIn K (.ref CU) (.ref CB) = some false)
    (sUU : PySem.W.subIn K (.ref CU) (.ref CU) = some true)
    (sTB : PySem.W.subIn K (.ref CT) (.ref CB) = some false)
    (sTU : PySem.W.subIn K (.ref CT) (.ref CU) = some false)
    (sTC : PySem.W.subIn K (.ref CT) (.ref CC) = some true)
    (qUT : PySem.W.kitOne K (.ref CU) (.ref CT) = some false)
    (qUB : PySem.W.kitOne K (.ref CU) (.ref CB) = some false)
    (qUC : PySem.W.kitOne K (.ref CU) (.ref CC) = some true)
    (qTM : PySem.W.kitOne K (.ref CT) (.ref CM) = some false)
    (qTT : PySem.W.kitOne K (.ref CT) (.ref CT) = some true)
    (zlen : PySem.W.nsIn K mainGlobals "len" = some none)
    (zint : PySem.W.nsIn K mainGlobals "int" = some none)
    (zrange : PySem.W.nsIn K mainGlobals "range" = some none)
    (zabs : PySem.W.nsIn K mainGlobals "abs" = some none)
    (zisinstance : PySem.W.nsIn K mainGlobals "isinstance" = some none)
    (zstr : PySem.W.nsIn K mainGlobals "str" = some none)
    (zbool : PySem.W.nsIn K mainGlobals "bool" = some none)
    (ztuple : PySem.W.nsIn K mainGlobals "tuple" = some none)
    (zord : PySem.W.nsIn K mainGlobals "ord" = some none)
    (zall : PySem.W.nsIn K mainGlobals "all" = some none)
    (zlist : PySem.W.nsIn K mainGlobals "list" = some none)
    (zzip : PySem.W.nsIn K mainGlobals "zip" = some none)
    (zsorted : PySem.W.nsIn K mainGlobals "sorted" = some none)
    (zsum : PySem.W.nsIn K mainGlobals "sum" = some none)
    (zmin : PySem.W.nsIn K mainGlobals "min" = some none)
    (zreversed : PySem.W.nsIn K mainGlobals "reversed" = some none) :
    ∃ fd : FuncData, (∀ (s : Shared) (v : Value), BindsTo s fd ⟨[v], []⟩ [("script", v)]) ∧ ∀ base : Heap, K.In base → base.Ns mainGlobals mg → FnOk l.prog w K mg base CX0 23 fa fd ["script"] (spLaw K) := by
  have e := hfa.symm.trans (PySem.W.mg_of X G a63)
  cases e
  have nlen := PySem.W.mg_none_of X G zlen
  have nint := PySem.W.mg_none_of X G zint
  have nrange := PySem.W.mg_none_of X G zrange
  have nabs := PySem.W.mg_none_of X G zabs
  have nisinstance := PySem.W.mg_none_of X G zisinstance
  have nstr := PySem.W.mg_none_of X G zstr
  have nbool := PySem.W.mg_none_of X G zbool
  have ntuple := PySem.W.mg_none_of X G ztuple
  have nord := PySem.W.mg_none_of X G zord
  have nall := PySem.W.mg_none_of X G zall
  have nlist := PySem.W.mg_none_of X G zlist
  have nzip := PySem.W.mg_none_of X G zzip
  have nsorted := PySem.W.mg_none_of X G zsorted
  have nsum := PySem.W.mg_none_of X G zsum
  have nmin := PySem.W.mg_none_of X G zmin
  have nreversed := PySem.W.mg_none_of X G zreversed
  have FHas := fun_mk (st := sHas) l0 c0 k0
  have bHas := FHas.binds (ps := ["thing"]) fun _ _ _ _ _ _ us hl => match us, hl with | [_], _ => rfl
  have mHas := PySem.W.mg_of X G a0
  have FName := fun_mk (st := sName) l1 c1 k1
  have bName := FName.binds (ps := ["thing"]) fun _ _ _ _ _ _ us hl => match us, hl with | [_], _ => rfl
  have mName := PySem.W.mg_of X G a1
  have FNames := fun_mk (st := sNames) l2 c2 k2
  have bNames := FNames.binds (ps := ["things"]) fun _ _ _ _ _ _ us hl => match us, hl with | [_], _ => rfl
  have mNames := PySem.W.mg_of X G a2
  have FDiff := fun_mk (st := sDiff) l3 c3 k3
  have bDiff := FDiff.binds (ps := ["things"]) fun _ _ _ _ _ _ us hl => match us, hl with | [_], _ => rfl
  have mDiff := PySem.W.mg_of X G a3
  have FInteger := fun_mk (st := sInteger) l4 c4 k4
  have bInteger := FInteger.binds (ps := ["thing"]) fun _ _ _ _ _ _ us hl => match us, hl with | [_], _ => rfl
  have mInteger := PySem.W.mg_of X G a4
  have FNumber := fun_mk (st := sNumber) l5 c5 k5
  have bNumber := FNumber.binds (ps := ["thing", "least", "greatest"]) fun _ _ _ _ _ _ us hl => match us, hl with | [_, _, _], _ => rfl
  have mNumber := PySem.W.mg_of X G a5
  have FCore := fun_mk (st := sCore) l6 c6 k6
  have bCore := FCore.binds (ps := ["thing"]) fun _ _ _ _ _ _ us hl => match us, hl with | [_], _ => rfl
  have mCore := PySem.W.mg_of X G a6
  have FRow := fun_mk (st := sRow) l7 c7 k7
  have bRow := FRow.binds (ps := ["thing", "many"]) fun _ _ _ _ _ _ us hl => match us, hl with | [_, _], _ => rfl
  have mRow := PySem.W.mg_of X G a7
  have FRows := fun_mk (st := sRows) l8 c8 k8
  have bRows := FRows.binds (ps := ["thing", "many"]) fun _ _ _ _ _ _ us hl => match us, hl with | [_, _], _ => rfl
  have mRows := PySem.W.mg_of X G a8
  have FSign := fun_mk (st := sSign) l9 c9 k9
  have bSign := FSign.binds (ps := ["thing"]) fun _ _ _ _ _ _ us hl => match us, hl with | [_], _ => rfl
  have mSign := PySem.W.mg_of X G a9
  have FDflt := fun_mk (st := sDflt) l10 c10 k10
  have bDflt := FDflt.binds (ps := ["thing"]) fun _ _ _ _ _ _ us hl => match us, hl with | [_], _ => rfl
  have mDflt := PySem.W.mg_of X G a10
  have FFNum := fun_mk (st := sFNum) l11 c11 k11
  have bFNum := FFNum.binds (ps := ["term"]) fun _ _ _ _ _ _ us hl => match us, hl with | [_], _ => rfl
  have mFNum := PySem.W.mg_of X G a11
  have FFVar := fun_mk (st := sFVar) l12 c12 k12
  have bFVar := FFVar.binds (ps := ["term"]) fun _ _ _ _ _ _ us hl => match us, hl with | [_], _ => rfl
  have mFVar := PySem.W.mg_of X G a12
  have FFApp := fun_mk (st := sFApp) l13 c13 k13
  have bFApp := FFApp.binds (ps := ["term"]) fun _ _ _ _ _ _ us hl => match us, hl with | [_], _ => rfl
  have mFApp := PySem.W.mg_of X G a13
  have FFLam := fun_mk (st := sFLam) l14 c14 k14
  have bFLam := FFLam.binds (ps := ["term"]) fun _ _ _ _ _ _ us hl => match us, hl with | [_], _ => rfl
  have mFLam := PySem.W.mg_of X G a14
  have FFLet := fun_mk (st := sFLet) l15 c15 k15
  have bFLet := FFLet.binds (ps := ["term"]) fun _ _ _ _ _ _ us hl => match us, hl with | [_], _ => rfl
  have mFLet := PySem.W.mg_of X G a15
  have FFSeq := fun_mk (st := sFSeq) l16 c16 k16
  have bFSeq := FFSeq.binds (ps := ["term"]) fun _ _ _ _ _ _ us hl => match us, hl with | [_], _ => rfl
  have mFSeq := PySem.W.mg_of X G a16
  have FFCon := fun_mk (st := sFCon) l17 c17 k17
  have bFCon := FFCon.binds (ps := ["term"]) fun _ _ _ _ _ _ us hl => match us, hl with | [_], _ => rfl
  have mFCon := PySem.W.mg_of X G a17
  have FFCase := fun_mk (st := sFCase) l18 c18 k18
  have bFCase := FFCase.binds (ps := ["term"]) fun _ _ _ _ _ _ us hl => match us, hl with | [_], _ => rfl
  have mFCase := PySem.W.mg_of X G a18
  have FFPick := fun_mk (st := sFPick) l19 c19 k19
  have bFPick := FFPick.binds (ps := ["term"]) fun _ _ _ _ _ _ us hl => match us, hl with | [_], _ => rfl
  have mFPick := PySem.W.mg_of X G a19
  have FFPrim := fun_mk (st := sFPrim) l20 c20 k20
  have bFPrim := FFPrim.binds (ps := ["term"]) fun _ _ _ _ _ _ us hl => match us, hl with | [_], _ => rfl
  have mFPrim := PySem.W.mg_of X G a20
  have FFNote := fun_mk (st := sFNote) l21 c21 k21
  have bFNote := FFNote.binds (ps := ["term"]) fun _ _ _ _ _ _ us hl => match us, hl with | [_], _ => rfl
  have mFNote := PySem.W.mg_of X G a21
  have FParts := fun_mk (st := sParts) l22 c22 k22
  have bParts := FParts.binds (ps := ["term"]) fun _ _ _ _ _ _ us hl => match us, hl with | [_], _ => rfl
  have mParts := PySem.W.mg_of X G a22
  have FPDflt := fun_mk (st := sPDflt) l23 c23 k23
  have bPDflt := FPDflt.binds (ps := ["term"]) fun _ _ _ _ _ _ us hl => match us, hl with | [_], _ => rfl
  have mPDflt := PySem.W.mg_of X G a23
  have FPLam := fun_mk (st := sPLam) l24 c24 k24
  have bPLam := FPLam.binds (ps := ["term"]) fun _ _ _ _ _ _ us hl => match us, hl with | [_], _ => rfl
  have mPLam := PySem.W.mg_of X G a24
  have FPNote := fun_mk (st := sPNote) l25 c25 k25
  have bPNote := FPNote.binds (ps := ["term"]) fun _ _ _ _ _ _ us hl => match us, hl with | [_], _ => rfl
  have mPNote := PySem.W.mg_of X G a25
  have FPApp := fun_mk (st := sPApp) l26 c26 k26
  have bPApp := FPApp.binds (ps := ["term"]) fun _ _ _ _ _ _ us hl => match us, hl with | [_], _ => rfl
  have mPApp := PySem.W.mg_of X G a26
  have FPLater := fun_mk (st := sPLater) l27 c27 k27
  have bPLater := FPLater.binds (ps := ["term"]) fun _ _ _ _ _ _ us hl => match us, hl with | [_], _ => rfl
  have mPLater := PySem.W.mg_of X G a27
  have FPCon := fun_mk (st := sPCon) l28 c28 k28
  have bPCon := FPCon.binds (ps := ["term"]) fun _ _ _ _ _ _ us hl => match us, hl with | [_], _ => rfl
  have mPCon := PySem.W.mg_of X G a28
  have FPLet := fun_mk (st := sPLet) l29 c29 k29
  have bPLet := FPLet.binds (ps := ["term"]) fun _ _ _ _ _ _ us hl => match us, hl with | [_], _ => rfl
  have mPLet := PySem.W.mg_of X G a29
  have FPChoice := fun_mk (st := sPChoice) l30 c30 k30
  have bPChoice := FPChoice.binds (ps := ["term"]) fun _ _ _ _ _ _ us hl => match us, hl with | [_], _ => rfl
  have mPChoice := PySem.W.mg_of X G a30
  have FIsTerm := fun_mk (st := sIsTerm) l31 c31 k31
  have bIsTerm := FIsTerm.binds (ps := ["thing"]) fun _ _ _ _ _ _ us hl => match us, hl with | [_], _ => rfl
  have mIsTerm := PySem.W.mg_of X G a31
  have FNamesOf := fun_mk (st := sNamesOf) l32 c32 k32
  have bNamesOf := FNamesOf.binds (ps := ["term"]) fun _ _ _ _ _ _ us hl => match us, hl with | [_], _ => rfl
  have mNamesOf := PySem.W.mg_of X G a32
  have FScopes := fun_mk (st := sScopes) l33 c33 k33
  have bScopes := FScopes.binds (ps := ["term"]) fun _ _ _ _ _ _ us hl => match us, hl with | [_], _ => rfl
  have mScopes := PySem.W.mg_of X G a33
  have FOwn := fun_mk (st := sOwn) l34 c34 k34
  have bOwn := FOwn.binds (ps := ["term"]) fun _ _ _ _ _ _ us hl => match us, hl with | [_], _ => rfl
  have mOwn := PySem.W.mg_of X G a34
  have FNDflt := fun_mk (st := sNDflt) l35 c35 k35
  have bNDflt := FNDflt.binds (ps := ["term"]) fun _ _ _ _ _ _ us hl => match us, hl with | [_], _ => rfl
  have mNDflt := PySem.W.mg_of X G a35
  have FFree := fun_mk (st := sFree) l36 c36 k36
  have bFree := FFree.binds (ps := ["term"]) fun _ _ _ _ _ _ us hl => match us, hl with | [_], _ => rfl
  have mFree := PySem.W.mg_of X G a36
  have FDraws := fun_mk (st := sDraws) l37 c37 k37
  have bDraws := FDraws.binds (ps := ["script", "many"]) fun _ _ _ _ _ _ us hl => match us, hl with | [_, _], _ => rfl
  have mDraws := PySem.W.mg_of X G a37
  have FTake := fun_mk (st := sTake) l38 c38 k38
  have bTake := FTake.binds (ps := ["d"]) fun _ _ _ _ _ _ us hl => match us, hl with | [_], _ => rfl
  have mTake := PySem.W.mg_of X G a38
  have FFresh := fun_mk (st := sFresh) l39 c39 k39
  have bFresh := FFresh.binds (ps := ["d"]) fun _ _ _ _ _ _ us hl => match us, hl with | [_], _ => rfl
  have mFresh := PySem.W.mg_of X G a39
  have FStart := fun_mk (st := sStart) l40 c40 k40
  have bStart := FStart.binds (ps := ["script", "left"]) fun _ _ _ _ _ _ us hl => match us, hl with | [_, _], _ => rfl
  have mStart := PySem.W.mg_of X G a40
  have FLName := fun_mk (st := sLName) l41 c41 k41
  have bLName := FLName.binds (ps := ["d"]) fun _ _ _ _ _ _ us hl => match us, hl with | [_], _ => rfl
  have mLName := PySem.W.mg_of X G a41
  have FLNames := fun_mk (st := sLNames) l42 c42 k42
  have bLNames := FLNames.binds (ps := ["d", "many"]) fun _ _ _ _ _ _ us hl => match us, hl with | [_, _], _ => rfl
  have mLNames := PySem.W.mg_of X G a42
  have FBranch := fun_mk (st := sBranch) l43 c43 k43
  have bBranch := FBranch.binds (ps := ["d", "depth"]) fun _ _ _ _ _ _ us hl => match us, hl with | [_, _], _ => rfl
  have mBranch := PySem.W.mg_of X G a43
  have FAny := fun_mk (st := sAny) l44 c44 k44
  have bAny := FAny.binds (ps := ["d", "depth"]) fun _ _ _ _ _ _ us hl => match us, hl with | [_, _], _ => rfl
  have mAny := PySem.W.mg_of X G a44
  have FVar := fun_mk (st := sVar) l45 c45 k45
  have bVar := FVar.binds (ps := ["d", "scope", "kind"]) fun _ _ _ _ _ _ us hl => match us, hl with | [_, _, _], _ => rfl
  have mVar := PySem.W.mg_of X G a45
  have FNum := fun_mk (st := sNum) l46 c46 k46
  have bNum := FNum.binds (ps := ["d"]) fun _ _ _ _ _ _ us hl => match us, hl with | [_], _ => rfl
  have mNum := PySem.W.mg_of X G a46
  have FLeaf := fun_mk (st := sLeaf) l47 c47 k47
  have bLeaf := FLeaf.binds (ps := ["d", "scope", "kind"]) fun _ _ _ _ _ _ us hl => match us, hl with | [_, _, _], _ => rfl
  have mLeaf := PySem.W.mg_of X G a47
  have FLet := fun_mk (st := sLet) l48 c48 k48
  have bLet := FLet.binds (ps := ["d", "scope", "kind", "depth", "many"]) fun _ _ _ _ _ _ us hl => match us, hl with | [_, _, _, _, _], _ => rfl
  have mLet := PySem.W.mg_of X G a48
  have FDflt2 := fun_mk (st := sDflt2) l49 c49 k49
  have bDflt2 := FDflt2.binds (ps := ["d", "scope", "kind", "other", "depth", "odds"]) fun _ _ _ _ _ _ us hl => match us, hl with | [_, _, _, _, _, _], _ => rfl
  have mDflt2 := PySem.W.mg_of X G a49
  have FCase := fun_mk (st := sCase) l50 c50 k50
  have bCase := FCase.binds (ps := ["d", "scope", "kind", "depth"]) fun _ _ _ _ _ _ us hl => match us, hl with | [_, _, _, _], _ => rfl
  have mCase := PySem.W.mg_of X G a50
  have FChoice := fun_mk (st := sChoice) l51 c51 k51
  have bChoice := FChoice.binds (ps := ["d", "scope", "kind", "depth"]) fun _ _ _ _ _ _ us hl => match us, hl with | [_, _, _, _], _ => rfl
  have mChoice := PySem.W.mg_of X G a51
  have FGlobals := fun_mk (st := sGlobals) l52 c52 k52
  have bGlobals := FGlobals.binds (ps := []) fun _ _ _ _ _ _ us hl => match us, hl with | [], _ => rfl
  have mGlobals := PySem.W.mg_of X G a52
  have FLCall := fun_mk (st := sLCall) l53 c53 k53
  have bLCall := FLCall.binds (ps := ["d", "scope", "kind", "depth"]) fun _ _ _ _ _ _ us hl => match us, hl with | [_, _, _, _], _ => rfl
  have mLCall := PySem.W.mg_of X G a53
  have FLOwn2 := fun_mk (st := sLOwn2) l54 c54 k54
  have bLOwn2 := FLOwn2.binds (ps := ["d", "scope", "kind", "depth"]) fun _ _ _ _ _ _ us hl => match us, hl with | [_, _, _, _], _ => rfl
  have mLOwn2 := PySem.W.mg_of X G a54
  have FTerm := fun_mk (st := sTerm) l55 c55 k55
  have bTerm := FTerm.binds (ps := ["d", "scope", "kind", "depth"]) fun _ _ _ _ _ _ us hl => match us, hl with | [_, _, _, _], _ => rfl
  have mTerm := PySem.W.mg_of X G a55
  have FProg := fun_mk (st := sProg) l56 c56 k56
  have bProg := FProg.binds (ps := ["d"]) fun _ _ _ _ _ _ us hl => match us, hl with | [_], _ => rfl
  have mProg := PySem.W.mg_of X G a56
  have FLInner := fun_mk (st := sLInner) l57 c57 k57
  have bLInner := FLInner.binds (ps := ["term"]) fun _ _ _ _ _ _ us hl => match us, hl with | [_], _ => rfl
  have mLInner := PySem.W.mg_of X G a57
  have FLFree := fun_mk (st := sLFree) l58 c58 k58
  have bLFree := FLFree.binds (ps := ["term"]) fun _ _ _ _ _ _ us hl => match us, hl with | [_], _ => rfl
  have mLFree := PySem.W.mg_of X G a58
  have FCheck := fun_mk (st := sCheck) l59 c59 k59
  have bCheck := FCheck.binds (ps := ["program"]) fun _ _ _ _ _ _ us hl => match us, hl with | [_], _ => rfl
  have mCheck := PySem.W.mg_of X G a59
  have FTold := fun_mk (st := sTold) l60 c60 k60
  have bTold := FTold.binds (ps := ["program"]) fun _ _ _ _ _ _ us hl => match us, hl with | [_], _ => rfl
  have mTold := PySem.W.mg_of X G a60
  have FDue := fun_mk (st := sDue) l61 c61 k61
  have bDue := FDue.binds (ps := ["program", "spoilt"]) fun _ _ _ _ _ _ us hl => match us, hl with | [_, _], _ => rfl
  have mDue := PySem.W.mg_of X G a61
  have FCaseOf := fun_mk (st := sCaseOf) l62 c62 k62
  have bCaseOf := FCaseOf.binds (ps := ["d", "script"]) fun _ _ _ _ _ _ us hl => match us, hl with | [_, _], _ => rfl
  have mCaseOf := PySem.W.mg_of X G a62
  have FLaw := fun_mk (st := sLaw) l63 c63 k63
  have bLaw := FLaw.binds (ps := ["script"]) fun _ _ _ _ _ _ us hl => match us, hl with | [_], _ => rfl
  have mLaw := PySem.W.mg_of X G a63
  refine ⟨PySem.W.fnOf "law" "law" (defArgs sLaw) (defBody sLaw) (defScope sLaw) .none kV63 dc63 pm63 an63 cd63 ct63, fun s v => .of_eq rfl, fun base _ _ => ?_⟩
  have TD : TxtD mg := ⟨nlen, nint, nrange, nabs⟩
  have TF : TxtF K mg aS := ⟨nisinstance, nint, nstr, nbool, ntuple, nlen, nord, nall, ⟨_, PySem.W.mg_of X G cst1, _, rfl⟩, ⟨_, PySem.W.mg_of X G cst2, _, rfl⟩, ⟨_, PySem.W.mg_of X G cst3, _, rfl⟩, ⟨_, PySem.W.mg_of X G cst4, _, rfl⟩, ⟨_, PySem.W.mg_of X G cst5, _, rfl⟩, ⟨_, PySem.W.mg_of X G cst6, _, rfl⟩, ⟨_, PySem.W.mg_of X G cst7, _, rfl⟩, ⟨_, PySem.W.mg_of X G gtS, rfl⟩, written_tup (by decide) ltS ctS vtS⟩
  have CInteger := c_integer (P := l.prog) (w := w) (base := base) TF FInteger bInteger mInteger
  have CName := c_name (P := l.prog) (w := w) (base := base) TF FName bName mName
  have CNumber := c_number (P := l.prog) (w := w) (base := base) CInteger FNumber bNumber mNumber
  have CCore := c_core (P := l.prog) (w := w) (base := base) TF CNumber FCore bCore mCore
  have CRow := c_row (P := l.prog) (w := w) (base := base) TF FRow bRow mRow
  have CRows := c_rows (P := l.prog) (w := w) (base := base) TF CRow FRows bRows mRows
  have CSign := c_sign (P := l.prog) (w := w) (base := base) TF FSign bSign mSign
  have CDiffT := c_diffT (P := l.prog) (w := w) (base := base) TF FDiff bDiff mDiff
  have CDiffL := c_diffL (P := l.prog) (w := w) (base := base) TF FDiff bDiff mDiff
  have CNames := c_names (P := l.prog) (w := w) (base := base) TF CName CDiffT FNames bNames mNames
  have CDflt := c_dflt (P := l.prog) (w := w) (base := base) TF CName CRow FDflt bDflt mDflt
  have CFNum := c_FNum (P := l.prog) (w := w) (base := base) TF CCore FFNum bFNum mFNum
  have CFVar := c_FVar (P := l.prog) (w := w) (base := base) TF CName FFVar bFVar mFVar
  have CFApp := c_FApp (P := l.prog) (w := w) (base := base) TF FFApp bFApp mFApp
  have CFLam := c_FLam (P := l.prog) (w := w) (base := base) TF CName FFLam bFLam mFLam
  have CFLet := c_FLet (P := l.prog) (w := w) (base := base) TF CRows CNames FFLet bFLet mFLet
  have CFSeq := c_FSeq (P := l.prog) (w := w) (base := base) TF CName FFSeq bFSeq mFSeq
  have CFCon := c_FCon (P := l.prog) (w := w) (base := base) TF CNumber FFCon bFCon mFCon
  have CFCase := c_FCase (P := l.prog) (w := w) (base := base) TF CRows CNames CNumber CDflt FFCase bFCase mFCase
  have CFPick := c_FPick (P := l.prog) (w := w) (base := base) TF CRows CCore CDiffL CDflt FFPick bFPick mFPick
  have CFPrim := c_FPrim (P := l.prog) (w := w) (base := base) TF CSign FFPrim bFPrim mFPrim
  have CFNote := c_FNote (P := l.prog) (w := w) (base := base) TF CNumber FFNote bFNote mFNote
  have ndF2 : (([(f11, spForm fNum), (f12, spForm fVar), (f13, spForm fApp), (f14, spForm fLam), (f15, spForm fLet), (f16, spForm fSeq), (f17, spForm fCon), (f18, spForm fCase), (f19, spForm fPick), (f20, spForm fPrim), (f21, spForm fNote)] : List (Addr × Sp)).map (·.1)).Nodup := ndF
  have mF : ∀ z ∈ words, ∃ f, PySem.W.nsIn K aF z = some (some (.ref f)) ∧ tab [(f11, spForm fNum), (f12, spForm fVar), (f13, spForm fApp), (f14, spForm fLam), (f15, spForm fLet), (f16, spForm fSeq), (f17, spForm fCon), (f18, spForm fCase), (f19, spForm fPick), (f20, spForm fPrim), (f21, spForm fNote)] f = some (spForm (formW z)) := fun z hz => by
    simp only [words, List.mem_cons, List.not_mem_nil, or_false] at hz
    rcases hz with rfl | rfl | rfl | rfl | rfl | rfl | rfl | rfl | rfl | rfl | rfl
    · exact ⟨_, wFnum, (tab_mem ndF2 (.head _)).trans (congrArg some (congrArg spForm (funext fw_num)).symm)⟩
    · exact ⟨_, wFvar, (tab_mem ndF2 (.tail _ (.head _))).trans (congrArg some (congrArg spForm (funext fw_var)).symm)⟩
    · exact ⟨_, wFapp, (tab_mem ndF2 (.tail _ (.tail _ (.head _)))).trans (congrArg some (congrArg spForm (funext fw_app)).symm)⟩
    · exact ⟨_, wFlam, (tab_mem ndF2 (.tail _ (.tail _ (.tail _ (.head _))))).trans (congrArg some (congrArg spForm (funext fw_lam)).symm)⟩
    · exact ⟨_, wFlet, (tab_mem ndF2 (.tail _ (.tail _ (.tail _ (.tail _ (.head _)))))).trans (congrArg some (congrArg spForm (funext fw_let)).symm)⟩
    · exact ⟨_, wFseq, (tab_mem ndF2 (.tail _ (.tail _ (.tail _ (.tail _ (.tail _ (.head _))))))).trans (congrArg some (congrArg spForm (funext fw_seq)).symm)⟩
    · exact ⟨_, wFcon, (tab_mem ndF2 (.tail _ (.tail _ (.tail _ (.tail _ (.tail _ (.tail _ (.head _)))))))).trans (congrArg some (congrArg spForm (funext fw_con)).symm)⟩
    · exact ⟨_, wFcase, (tab_mem ndF2 (.tail _ (.tail _ (.tail _ (.tail _ (.tail _ (.tail _ (.tail _ (.head _))))))))).trans (congrArg some (congrArg spForm (funext fw_case)).symm)⟩
    · exact ⟨_, wFpick, (tab_mem ndF2 (.tail _ (.tail _ (.tail _ (.tail _ (.tail _ (.tail _ (.tail _ (.tail _ (.head _)))))))))).trans (congrArg some (congrArg spForm (funext fw_pick)).symm)⟩
    · exact ⟨_, wFprim, (tab_mem ndF2 (.tail _ (.tail _ (.tail _ (.tail _ (.tail _ (.tail _ (.tail _ (.tail _ (.tail _ (.head _))))))))))).trans (congrArg some (congrArg spForm (funext fw_prim)).symm)⟩
    · exact ⟨_, wFnote, (tab_mem ndF2 (.tail _ (.tail _ (.tail _ (.tail _ (.tail _ (.tail _ (.tail _ (.tail _ (.tail _ (.tail _ (.head _)))))))))))).trans (congrArg some (congrArg spForm (funext fw_note)).symm)⟩
  have hF : ∀ f sp, tab [(f11, spForm fNum), (f12, spForm fVar), (f13, spForm fApp), (f14, spForm fLam), (f15, spForm fLet), (f16, spForm fSeq), (f17, spForm fCon), (f18, spForm fCase), (f19, spForm fPick), (f20, spForm fPrim), (f21, spForm fNote)] f = some sp → Held l.prog w K mg base 4 f sp := fun f sp h => by
    have h := tab_of h
    rcases List.mem_cons.mp h with e | h
    · cases e
      exact held_of CFNum mFNum
    rcases List.mem_cons.mp h with e | h
    · cases e
      exact held_of CFVar mFVar
    rcases List.mem_cons.mp h with e | h
    · cases e
      exact held_of CFApp mFApp
    rcases List.mem_cons.mp h with e | h
    · cases e
      exact held_of CFLam mFLam
    rcases List.mem_cons.mp h with e | h
    · cases e
      exact held_of CFLet mFLet
    rcases List.mem_cons.mp h with e | h
    · cases e
      exact held_of CFSeq mFSeq
    rcases List.mem_cons.mp h with e | h
    · cases e
      exact held_of CFCon mFCon
    rcases List.mem_cons.mp h with e | h
    · cases e
      exact held_of CFCase mFCase
    rcases List.mem_cons.mp h with e | h
    · cases e
      exact held_of CFPick mFPick
    rcases List.mem_cons.mp h with e | h
    · cases e
      exact held_of CFPrim mFPrim
    rcases List.mem_cons.mp h with e | h
    · cases e
      exact held_of CFNote mFNote
    cases h
  have TM : TxtM l.prog w K mg base aF esF nF _ := ⟨nisinstance, ntuple, nstr, nlen, ⟨ldF, kdF, sdF⟩, ⟨_, PySem.W.mg_of X G gdF, rfl⟩, mF, fun z nz => nsIn_out ldF vdF nz, hF⟩
  have CPDflt := c_PDflt (P := l.prog) (w := w) (base := base)  FPDflt bPDflt mPDflt
  have CPLam := c_PLam (P := l.prog) (w := w) (base := base)  FPLam bPLam mPLam
  have CPNote := c_PNote (P := l.prog) (w := w) (base := base)  FPNote bPNote mPNote
  have CPApp := c_PApp (P := l.prog) (w := w) (base := base)  FPApp bPApp mPApp
  have CPLater := c_PLater (P := l.prog) (w := w) (base := base)  FPLater bPLater mPLater
  have CPCon := c_PCon (P := l.prog) (w := w) (base := base)  FPCon bPCon mPCon
  have CPLet := c_PLet (P := l.prog) (w := w) (base := base)  FPLet bPLet mPLet
  have CPChoice := c_PChoice (P := l.prog) (w := w) (base := base) CPDflt FPChoice bPChoice mPChoice
  have ndP2 : (([(f26, spPart (fun r => r.length = 2) fun r => r), (f24, spPart (fun r => r.length = 2) fun r => [arg 1 r]), (f29, spPart (fun r => r.length = 2 ∧ PairsD (arg 0 r)) gLet), (f27, spPart (fun r => r.length = 3) fun r => r.drop 1), (f28, spPart (fun r => r.length = 2 ∧ isTup (arg 1 r) = true) fun r => tl (arg 1 r)), (f30, spPart (fun r => r.length = 3 ∧ RowsD (arg 1 r) ∧ isDflt (arg 2 r) = true) gChoice), (f25, spPart (fun r => r.length = 2) fun r => [arg 1 r])] : List (Addr × Sp)).map (·.1)).Nodup := ndP
  have mP : ∀ z ∈ pwords, ∃ f C g, PySem.W.nsIn K aP z = some (some (.ref f)) ∧ tab [(f26, spPart (fun r => r.length = 2) fun r => r), (f24, spPart (fun r => r.length = 2) fun r => [arg 1 r]), (f29, spPart (fun r => r.length = 2 ∧ PairsD (arg 0 r)) gLet), (f27, spPart (fun r => r.length = 3) fun r => r.drop 1), (f28, spPart (fun r => r.length = 2 ∧ isTup (arg 1 r) = true) fun r => tl (arg 1 r)), (f30, spPart (fun r => r.length = 3 ∧ RowsD (arg 1 r) ∧ isDflt (arg 2 r) = true) gChoice), (f25, spPart (fun r => r.length = 2) fun r => [arg 1 r])] f = some (spPart C g) ∧ (∀ r, formW z r = true → C r) ∧ ∀ r, partsW z r = g r := fun z hz => by
    simp only [pwords, List.mem_cons, List.not_mem_nil, or_false] at hz
    rcases hz with rfl | rfl | rfl | rfl | rfl | rfl | rfl | rfl | rfl
    · exact ⟨_, _, _, wPapp, tab_mem ndP2 (.head _), fun r h => by rw [fw_app] at h; exact of_decide_eq_true h, pw_app⟩
    · exact ⟨_, _, _, wPlam, tab_mem ndP2 (.tail _ (.head _)), fun r h => by rw [fw_lam] at h; exact of_decide_eq_true (fand h).1, pw_lam⟩
    · exact ⟨_, _, _, wPlet, tab_mem ndP2 (.tail _ (.tail _ (.head _))), fun r h => by rw [fw_let] at h; exact ⟨of_decide_eq_true (fand (fand h).1).1, rows_are (fand (fand h).1).2⟩, pw_let⟩
    · exact ⟨_, _, _, wPseq, tab_mem ndP2 (.tail _ (.tail _ (.tail _ (.head _)))), fun r h => by rw [fw_seq] at h; exact of_decide_eq_true (fand h).1, pw_seq⟩
    · exact ⟨_, _, _, wPcon, tab_mem ndP2 (.tail _ (.tail _ (.tail _ (.tail _ (.head _))))), fun r h => by rw [fw_con] at h; exact ⟨of_decide_eq_true (fand h).1, (fand (fand h).2).2⟩, pw_con⟩
    · exact ⟨_, _, _, wPcase, tab_mem ndP2 (.tail _ (.tail _ (.tail _ (.tail _ (.tail _ (.head _)))))), fun r h => by rw [fw_case] at h; exact ⟨of_decide_eq_true (fand (fand (fand h).1).1).1, rows_some (fand (fand (fand h).1).1).2, (fand (fand h).1).2⟩, pw_case⟩
    · exact ⟨_, _, _, wPpick, tab_mem ndP2 (.tail _ (.tail _ (.tail _ (.tail _ (.tail _ (.head _)))))), fun r h => by rw [fw_pick] at h; exact ⟨of_decide_eq_true (fand (fand (fand h).1).1).1, rows_some (fand (fand (fand h).1).1).2, (fand (fand h).1).2⟩, pw_pick⟩
    · exact ⟨_, _, _, wPprim, tab_mem ndP2 (.tail _ (.tail _ (.tail _ (.head _)))), fun r h => by rw [fw_prim] at h; exact of_decide_eq_true (fand h).1, pw_prim⟩
    · exact ⟨_, _, _, wPnote, tab_mem ndP2 (.tail _ (.tail _ (.tail _ (.tail _ (.tail _ (.tail _ (.head _))))))), fun r h => by rw [fw_note] at h; exact of_decide_eq_true (fand h).1, pw_note⟩
  have hP : ∀ f sp, tab [(f26, spPart (fun r => r.length = 2) fun r => r), (f24, spPart (fun r => r.length = 2) fun r => [arg 1 r]), (f29, spPart (fun r => r.length = 2 ∧ PairsD (arg 0 r)) gLet), (f27, spPart (fun r => r.length = 3) fun r => r.drop 1), (f28, spPart (fun r => r.length = 2 ∧ isTup (arg 1 r) = true) fun r => tl (arg 1 r)), (f30, spPart (fun r => r.length = 3 ∧ RowsD (arg 1 r) ∧ isDflt (arg 2 r) = true) gChoice), (f25, spPart (fun r => r.length = 2) fun r => [arg 1 r])] f = some sp → Held l.prog w K mg base 2 f sp := fun f sp h => by
    have h := tab_of h
    rcases List.mem_cons.mp h with e | h
    · cases e
      exact held_of CPApp mPApp
    rcases List.mem_cons.mp h with e | h
    · cases e
      exact held_of CPLam mPLam
    rcases List.mem_cons.mp h with e | h
    · cases e
      exact held_of CPLet mPLet
    rcases List.mem_cons.mp h with e | h
    · cases e
      exact held_of CPLater mPLater
    rcases List.mem_cons.mp h with e | h
    · cases e
      exact held_of CPCon mPCon
    rcases List.mem_cons.mp h with e | h
    · cases e
      exact held_of CPChoice mPChoice
    rcases List.mem_cons.mp h with e | h
    · cases e
      exact held_of CPNote mPNote
    cases h
  have TN : TxtN l.prog w K mg base aP esP nP _ := ⟨⟨ldP, kdP, sdP⟩, ⟨_, PySem.W.mg_of X G gdP, rfl⟩, mP, fun z nz => nsIn_out ldP vdP nz, hP⟩
  have CHas := c_has (P := l.prog) (w := w) (base := base) TM FHas bHas mHas
  have CParts := c_parts (P := l.prog) (w := w) (base := base) TN FParts bParts mParts
  have CIsTerm := c_isTerm (P := l.prog) (w := w) (base := base) CHas CParts FIsTerm bIsTerm mIsTerm
  have TG : TxtG mg := ⟨nrange, ntuple⟩
  have TI : TxtI mg := ⟨nisinstance, nint, nbool, nrange, ntuple, nlist⟩
  have TS : TxtS mg := ⟨nlen, nzip, nsorted, nsum⟩
  have TY : TxtY mg := ⟨nlen, nmin, nstr, nint, nlist, ntuple, nrange, nreversed⟩
  have TZ : TxtZ mg := ⟨nlen, nrange, nsorted, ntuple⟩
  have CNDflt := c_ndflt (P := l.prog) (w := w) (base := base)  FNDflt bNDflt mNDflt
  have COwn := c_own (P := l.prog) (w := w) (base := base) TI CNDflt FOwn bOwn mOwn
  have CNamesOf := c_namesof (P := l.prog) (w := w) (base := base) COwn FNamesOf bNamesOf mNamesOf
  have CScopes := c_scopes (P := l.prog) (w := w) (base := base) TS CNamesOf COwn CParts FScopes bScopes mScopes
  have CFree := c_free (P := l.prog) (w := w) (base := base) TS CParts CScopes FFree bFree mFree
  have CTake := c_take (P := l.prog) (w := w) (base := base) TD FTake bTake mTake
  have CTakeN := c_takeN (P := l.prog) (w := w) (base := base) TD FTake bTake mTake
  have CDraws := c_draws (P := l.prog) (w := w) (base := base) TD FDraws bDraws mDraws
  have CLName := c_lname (P := l.prog) (w := w) (base := base) CTake FLName bLName mLName
  have CLNames := c_lnames (P := l.prog) (w := w) (base := base) TG CLName FLNames bLNames mLNames
  have CStart := c_start (P := l.prog) (w := w) (base := base) CDraws FStart bStart mStart
  have CAny := c_any (P := l.prog) (w := w) (base := base) TG CTake CLName CLNames FAny bAny mAny FBranch bBranch mBranch 6
  have CFresh := c_fresh (P := l.prog) (w := w) (base := base) TY FFresh bFresh mFresh
  have CFreshN := c_freshN (P := l.prog) (w := w) (base := base) TY FFresh bFresh mFresh
  have CVar := c_var (P := l.prog) (w := w) (base := base) TY CTake FVar bVar mVar
  have CNum := c_num (P := l.prog) (w := w) (base := base) CTake FNum bNum mNum
  have CLeaf := c_leaf (P := l.prog) (w := w) (base := base) TY CTake CFresh CVar CNum FLeaf bLeaf mLeaf
  have CGlobals := c_globals (P := l.prog) (w := w) (base := base)  FGlobals bGlobals mGlobals
  have CTerm := c_term (P := l.prog) (w := w) (base := base) TY CTake CTakeN CFresh CFreshN CLeaf CGlobals FLet bLet mLet FDflt2 bDflt2 mDflt2 FCase bCase mCase FChoice bChoice mChoice FLCall bLCall mLCall FLOwn2 bLOwn2 mLOwn2 FTerm bTerm mTerm 5
  have CProg := c_prog (P := l.prog) (w := w) (base := base) TY CTake CFresh CGlobals rfl CTerm FProg bProg mProg
  have CLInner := c_inner (P := l.prog) (w := w) (base := base) TI FLInner bLInner mLInner
  have CLFree := c_lfree (P := l.prog) (w := w) (base := base) CLInner FLFree bLFree mLFree 20
  have OB : OexC K CB := ⟨⟨_, _, _, _, _, _, _, _, _, _, _, _, _, _, _, xB, rB⟩, saB, exB, tyB, kB⟩
  have EB : ErrC K mg CB fIB "BadCore" := ⟨OB, iB, tIB, noB, ⟨gaB, ggB, exB, hdB⟩, ⟨gaB, ggB, exB, hdB, clB, sn, tk, moB⟩, PySem.W.mg_of X G aB⟩
  have FIB := fun_mk (st := sBadI) lIB cIB kIB
  have bIB := FIB.binds (ps := ["self", "name"]) fun _ _ _ _ _ _ us hl => match us, hl with | [_, _], _ => rfl
  have OU : OexC K CU := ⟨⟨_, _, _, _, _, _, _, _, _, _, _, _, _, _, _, xU, rU⟩, saU, exU, tyU, kU⟩
  have EU : ErrC K mg CU fIU "UnboundName" := ⟨OU, iU, tIU, noU, ⟨gaU, ggU, exU, hdU⟩, ⟨gaU, ggU, exU, hdU, clU, sn, tk, moU⟩, PySem.W.mg_of X G aU⟩
  have FIU := fun_mk (st := sUnbI) lIU cIU kIU
  have bIU := FIU.binds (ps := ["self", "name"]) fun _ _ _ _ _ _ us hl => match us, hl with | [_, _], _ => rfl
  have OT : OexC K CT := ⟨⟨_, _, _, _, _, _, _, _, _, _, _, _, _, _, _, xT, rT⟩, saT, exT, tyT, kT⟩
  have ET : ErrC K mg CT fIT "TwiceBound" := ⟨OT, iT, tIT, noT, ⟨gaT, ggT, exT, hdT⟩, ⟨gaT, ggT, exT, hdT, clT, sn, tk, moT⟩, PySem.W.mg_of X G aT⟩
  have FIT := fun_mk (st := sTwiI) lIT cIT kIT
  have bIT := FIT.binds (ps := ["self", "name"]) fun _ _ _ _ _ _ us hl => match us, hl with | [_, _], _ => rfl
  have RB : ErrB K mg CC := ⟨PySem.W.mg_of X G aC, ⟨rdC, gaC⟩, vC⟩
  have R : Errs l.prog w K mg base CB CU CT fIB fIU fIT _ _ _ := ⟨EB, EU, ET, ok_BadI RB FIB, ok_UnbI RB FIU, ok_TwiI RB FIT, bIB, bIU, bIT⟩
  have HN : Hands K mg CC CB CU CT CM := ⟨PySem.W.mg_of X G aC, PySem.W.mg_of X G aM, nisinstance, PySem.W.exm_ref exB hdB tyB sBB, PySem.W.exm_ref exB hdB tyB sUB, PySem.W.exm_ref exU hdU tyU sUU, PySem.W.exm_ref exB hdB tyB sTB, PySem.W.exm_ref exU hdU tyU sTU, PySem.W.exm_ref exC hdC tyC sTC, qUT, qUB, qUC, qTM, qTT⟩
  have CCheck := c_check (P := l.prog) (w := w) (base := base) R CIsTerm CFree FCheck bCheck mCheck
  have CTold := c_told (P := l.prog) (w := w) (base := base) HN R CCheck FTold bTold mTold
  have CDue := c_due (P := l.prog) (w := w) (base := base) TZ CLFree FDue bDue mDue
  have CCaseOf := c_caseof (P := l.prog) (w := w) (base := base) TZ CTake CAny FCaseOf bCaseOf mCaseOf
  exact c_law TZ CStart CCaseOf CTold CDue CProg FLaw
theorem walk {l : PySem.W.OpenLaw} {q : Program} {loose : List Str} {XP : (Str → Option Value) → Heap → Prop} {YP : World → Heap → Prop} {d : DefRec} {K : Params → PySem.W.Frag} (hn : l.most = some 63) (hdf : d.params.defaults = [])
    (hY : ∀ (w : World) (h : Heap), YP w h → (K w.params).In h)
    (F : ∀ (w : World) (mg : Str → Option Value) (fa : Addr) (h : Heap), (K w.params).In h → h.Ns mainGlobals mg → mg d.name = some (.ref fa) →
      ∃ fd : FuncData, (∀ (s : Shared) (u : Value), BindsTo s fd ⟨[u], []⟩ [("script", u)]) ∧ ∀ base : Heap, (K w.params).In base → base.Ns mainGlobals mg → FnOk l.prog w (K w.params) mg base CX0 23 fa fd ["script"] (spLaw (K w.params))) :
    PySem.W.WalkO q loose XP YP l.row.toRowW d [] (fun f vs => PySem.call f vs) :=
  L2.walk_of (n := 63) (k := 23) (x := "script") (CX := fun _ => CX0) (sp := fun w => spLaw (K w.params)) hn (by decide) hdf ⟨rfl, by decide, by decide⟩ hY F (fun _ _ a ns hl _ hS => ⟨a, ns, rfl, hS, hl, fun _ => rfl⟩) fun _ _ _ _ _ z => z
end Toy
open PySem PySem.W PyProof.Rows
set_option maxRecDepth 100000 in
set_option maxHeartbeats 0 in
theorem PySem.Challenge.cw_needonce_k42_programs_that_are_not_sound_holds : PySem.Challenge.rw_needonce_k42_programs_that_are_not_sound.Holds := by
  w_on; o_law; k_head; (case hw => w_witness2)
  k_fill
  refine Toy.walk (l := PySem.Challenge.rw_needonce_k42_programs_that_are_not_sound) rfl rfl (fun w h Y => PySem.W.kIn_of Y) ?F
  case F =>
    intro w mg fa h KX G hmg
    refine' Toy.all_mk KX G hmg ?a0 ?l0 ?c0 ?k0 ?a1 ?l1 ?c1 ?k1 ?a2 ?l2 ?c2 ?k2 ?a3 ?l3 ?c3 ?k3 ?a4 ?l4 ?c4 ?k4 ?a5 ?l5 ?c5 ?k5 ?a6 ?l6 ?c6 ?k6 ?a7 ?l7 ?c7 ?k7 ?a8 ?l8 ?c8 ?k8 ?a9 ?l9 ?c9 ?k9 ?a10 ?l10 ?c10 ?k10 ?a11 ?l11 ?c11 ?k11 ?a12 ?l12 ?c12 ?k12 ?a13 ?l13 ?c13 ?k13 ?a14 ?l14 ?c14 ?k14 ?a15 ?l15 ?c15 ?k15 ?a16 ?l16 ?c16 ?k16 ?a17 ?l17 ?c17 ?k17 ?a18 ?l18 ?c18 ?k18 ?a19 ?l19 ?c19 ?k19 ?a20 ?l20 ?c20 ?k20 ?a21 ?l21 ?c21 ?k21 ?a22 ?l22 ?c22 ?k22 ?a23 ?l23 ?c23 ?k23 ?a24 ?l24 ?c24 ?k24 ?a25 ?l25 ?c25 ?k25 ?a26 ?l26 ?c26 ?k26 ?a27 ?l27 ?c27 ?k27 ?a28 ?l28 ?c28 ?k28 ?a29 ?l29 ?c29 ?k29 ?a30 ?l30 ?c30 ?k30 ?a31 ?l31 ?c31 ?k31 ?a32 ?l32 ?c32 ?k32 ?a33 ?l33 ?c33 ?k33 ?a34 ?l34 ?c34 ?k34 ?a35 ?l35 ?c35 ?k35 ?a36 ?l36 ?c36 ?k36 ?a37 ?l37 ?c37 ?k37 ?a38 ?l38 ?c38 ?k38 ?a39 ?l39 ?c39 ?k39 ?a40 ?l40 ?c40 ?k40 ?a41 ?l41 ?c41 ?k41 ?a42 ?l42 ?c42 ?k42 ?a43 ?l43 ?c43 ?k43 ?a44 ?l44 ?c44 ?k44 ?a45 ?l45 ?c45 ?k45 ?a46 ?l46 ?c46 ?k46 ?a47 ?l47 ?c47 ?k47 ?a48 ?l48 ?c48 ?k48 ?a49 ?l49 ?c49 ?k49 ?a50 ?l50 ?c50 ?k50 ?a51 ?l51 ?c51 ?k51 ?a52 ?l52 ?c52 ?k52 ?a53 ?l53 ?c53 ?k53 ?a54 ?l54 ?c54 ?k54 ?a55 ?l55 ?c55 ?k55 ?a56 ?l56 ?c56 ?k56 ?a57 ?l57 ?c57 ?k57 ?a58 ?l58 ?c58 ?k58 ?a59 ?l59 ?c59 ?k59 ?a60 ?l60 ?c60 ?k60 ?a61 ?l61 ?c61 ?k61 ?a62 ?l62 ?c62 ?k62 ?a63 ?l63 ?c63 ?k63 ?cst1 ?cst2 ?cst3 ?cst4 ?cst5 ?cst6 ?cst7 ?gtS ?ltS ?ctS ?vtS ?gdF ?ldF ?kdF ?sdF ?vdF ?wFnum ?wFvar ?wFapp ?wFlam ?wFlet ?wFseq ?wFcon ?wFcase ?wFpick ?wFprim ?wFnote ?gdP ?ldP ?kdP ?sdP ?vdP ?wPapp ?wPlam ?wPlet ?wPseq ?wPcon ?wPcase ?wPpick ?wPprim ?wPnote ?ndF ?ndP ?aC ?aM ?rdC ?gaC ?vC ?exC ?hdC ?tyC ?aB ?xB ?rB ?saB ?exB ?tyB ?kB ?iB ?noB ?gaB ?ggB ?hdB ?clB ?moB ?tIB ?lIB ?cIB ?kIB ?aU ?xU ?rU ?saU ?exU ?tyU ?kU ?iU ?noU ?gaU ?ggU ?hdU ?clU ?moU ?tIU ?lIU ?cIU ?kIU ?aT ?xT ?rT ?saT ?exT ?tyT ?kT ?iT ?noT ?gaT ?ggT ?hdT ?clT ?moT ?tIT ?lIT ?cIT ?kIT ?sn ?tk ?sBB ?sUB ?sUU ?sTB ?sTU ?sTC ?qUT ?qUB ?qUC ?qTM ?qTT ?zlen ?zint ?zrange ?zabs ?zisinstance ?zstr ?zbool ?ztuple ?zord ?zall ?zlist ?zzip ?zsorted ?zsum ?zmin ?zreversed
    (case a0 => k_is)
    (case l0 => k_is)
    (case c0 => k_is)
    (case k0 => k_is)
    (case a1 => k_is)
    (case l1 => k_is)
    (case c1 => k_is)
    (case k1 => k_is)
    (case a2 => k_is)
    (case l2 => k_is)
    (case c2 => k_is)
    (case k2 => k_is)
    (case a3 => k_is)
    (case l3 => k_is)
    (case c3 => k_is)
    (case k3 => k_is)
    (case a4 => k_is)
    (case l4 => k_is)
    (case c4 => k_is)
    (case k4 => k_is)
    (case a5 => k_is)
    (case l5 => k_is)
    (case c5 => k_is)
    (case k5 => k_is)
    (case a6 => k_is)
    (case l6 => k_is)
    (case c6 => k_is)
    (case k6 => k_is)
    (case a7 => k_is)
    (case l7 => k_is)
    (case c7 => k_is)
    (case k7 => k_is)
    (case a8 => k_is)
    (case l8 => k_is)
    (case c8 => k_is)
    (case k8 => k_is)
    (case a9 => k_is)
    (case l9 => k_is)
    (case c9 => k_is)
    (case k9 => k_is)
    (case a10 => k_is)
    (case l10 => k_is)
    (case c10 => k_is)
    (case k10 => k_is)
    (case a11 => k_is)
    (case l11 => k_is)
    (case c11 => k_is)
    (case k11 => k_is)
    (case a12 => k_is)
    (case l12 => k_is)
    (case c12 => k_is)
    (case k12 => k_is)
    (case a13 => k_is)
    (case l13 => k_is)
    (case c13 => k_is)
    (case k13 => k_is)
    (case a14 => k_is)
    (case l14 => k_is)
    (case c14 => k_is)
    (case k14 => k_is)
    (case a15 => k_is)
    (case l15 => k_is)
    (case c15 => k_is)
    (case k15 => k_is)
    (case a16 => k_is)
    (case l16 => k_is)
    (case c16 => k_is)
    (case k16 => k_is)
    (case a17 => k_is)
    (case l17 => k_is)
    (case c17 => k_is)
    (case k17 => k_is)
    (case a18 => k_is)
    (case l18 => k_is)
    (case c18 => k_is)
    (case k18 => k_is)
    (case a19 => k_is)
    (case l19 => k_is)
    (case c19 => k_is)
    (case k19 => k_is)
    (case a20 => k_is)
    (case l20 => k_is)
    (case c20 => k_is)
    (case k20 => k_is)
    (case a21 => k_is)
    (case l21 => k_is)
    (case c21 => k_is)
    (case k21 => k_is)
    (case a22 => k_is)
    (case l22 => k_is)
    (case c22 => k_is)
    (case k22 => k_is)
    (case a23 => k_is)
    (case l23 => k_is)
    (case c23 => k_is)
    (case k23 => k_is)
    (case a24 => k_is)
    (case l24 => k_is)
    (case c24 => k_is)
    (case k24 => k_is)
    (case a25 => k_is)
    (case l25 => k_is)
    (case c25 => k_is)
    (case k25 => k_is)
    (case a26 => k_is)
    (case l26 => k_is)
    (case c26 => k_is)
    (case k26 => k_is)
    (case a27 => k_is)
    (case l27 => k_is)
    (case c27 => k_is)
    (case k27 => k_is)
    (case a28 => k_is)
    (case l28 => k_is)
    (case c28 => k_is)
    (case k28 => k_is)
    (case a29 => k_is)
    (case l29 => k_is)
    (case c29 => k_is)
    (case k29 => k_is)
    (case a30 => k_is)
    (case l30 => k_is)
    (case c30 => k_is)
    (case k30 => k_is)
    (case a31 => k_is)
    (case l31 => k_is)
    (case c31 => k_is)
    (case k31 => k_is)
    (case a32 => k_is)
    (case l32 => k_is)
    (case c32 => k_is)
    (case k32 => k_is)
    (case a33 => k_is)
    (case l33 => k_is)
    (case c33 => k_is)
    (case k33 => k_is)
    (case a34 => k_is)
    (case l34 => k_is)
    (case c34 => k_is)
    (case k34 => k_is)
    (case a35 => k_is)
    (case l35 => k_is)
    (case c35 => k_is)
    (case k35 => k_is)
    (case a36 => k_is)
    (case l36 => k_is)
    (case c36 => k_is)
    (case k36 => k_is)
    (case a37 => k_is)
    (case l37 => k_is)
    (case c37 => k_is)
    (case k37 => k_is)
    (case a38 => k_is)
    (case l38 => k_is)
    (case c38 => k_is)
    (case k38 => k_is)
    (case a39 => k_is)
    (case l39 => k_is)
    (case c39 => k_is)
    (case k39 => k_is)
    (case a40 => k_is)
    (case l40 => k_is)
    (case c40 => k_is)
    (case k40 => k_is)
    (case a41 => k_is)
    (case l41 => k_is)
    (case c41 => k_is)
    (case k41 => k_is)
    (case a42 => k_is)
    (case l42 => k_is)
    (case c42 => k_is)
    (case k42 => k_is)
    (case a43 => k_is)
    (case l43 => k_is)
    (case c43 => k_is)
    (case k43 => k_is)
    (case a44 => k_is)
    (case l44 => k_is)
    (case c44 => k_is)
    (case k44 => k_is)
    (case a45 => k_is)
    (case l45 => k_is)
    (case c45 => k_is)
    (case k45 => k_is)
    (case a46 => k_is)
    (case l46 => k_is)
    (case c46 => k_is)
    (case k46 => k_is)
    (case a47 => k_is)
    (case l47 => k_is)
    (case c47 => k_is)
    (case k47 => k_is)
    (case a48 => k_is)
    (case l48 => k_is)
    (case c48 => k_is)
    (case k48 => k_is)
    (case a49 => k_is)
    (case l49 => k_is)
    (case c49 => k_is)
    (case k49 => k_is)
    (case a50 => k_is)
    (case l50 => k_is)
    (case c50 => k_is)
    (case k50 => k_is)
    (case a51 => k_is)
    (case l51 => k_is)
    (case c51 => k_is)
    (case k51 => k_is)
    (case a52 => k_is)
    (case l52 => k_is)
    (case c52 => k_is)
    (case k52 => k_is)
    (case a53 => k_is)
    (case l53 => k_is)
    (case c53 => k_is)
    (case k53 => k_is)
    (case a54 => k_is)
    (case l54 => k_is)
    (case c54 => k_is)
    (case k54 => k_is)
    (case a55 => k_is)
    (case l55 => k_is)
    (case c55 => k_is)
    (case k55 => k_is)
    (case a56 => k_is)
    (case l56 => k_is)
    (case c56 => k_is)
    (case k56 => k_is)
    (case a57 => k_is)
    (case l57 => k_is)
    (case c57 => k_is)
    (case k57 => k_is)
    (case a58 => k_is)
    (case l58 => k_is)
    (case c58 => k_is)
    (case k58 => k_is)
    (case a59 => k_is)
    (case l59 => k_is)
    (case c59 => k_is)
    (case k59 => k_is)
    (case a60 => k_is)
    (case l60 => k_is)
    (case c60 => k_is)
    (case k60 => k_is)
    (case a61 => k_is)
    (case l61 => k_is)
    (case c61 => k_is)
    (case k61 => k_is)
    (case a62 => k_is)
    (case l62 => k_is)
    (case c62 => k_is)
    (case k62 => k_is)
    (case a63 => k_is)
    (case l63 => k_is)
    (case c63 => k_is)
    (case k63 => k_is)
    (case cst1 => k_is)
    (case cst2 => k_is)
    (case cst3 => k_is)
    (case cst4 => k_is)
    (case cst5 => k_is)
    (case cst6 => k_is)
    (case cst7 => k_is)
    (case gtS => k_is)
    (case ltS => k_is)
    (case ctS => rfl)
    (case vtS => decide +kernel)
    (case gdF => k_is)
    (case ldF => k_is)
    (case kdF => exact ⟨⟨_, _, rfl, rfl⟩, ⟨_, _, rfl, rfl⟩, ⟨_, _, rfl, rfl⟩, ⟨_, _, rfl, rfl⟩, ⟨_, _, rfl, rfl⟩, ⟨_, _, rfl, rfl⟩, ⟨_, _, rfl, rfl⟩, ⟨_, _, rfl, rfl⟩, ⟨_, _, rfl, rfl⟩, ⟨_, _, rfl, rfl⟩, ⟨_, _, rfl, rfl⟩, trivial⟩)
    (case sdF => rfl)
    (case vdF => rfl)
    (case wFnum => k_is)
    (case wFvar => k_is)
    (case wFapp => k_is)
    (case wFlam => k_is)
    (case wFlet => k_is)
    (case wFseq => k_is)
    (case wFcon => k_is)
    (case wFcase => k_is)
    (case wFpick => k_is)
    (case wFprim => k_is)
    (case wFnote => k_is)
    (case gdP => k_is)
    (case ldP => k_is)
    (case kdP => exact ⟨⟨_, _, rfl, rfl⟩, ⟨_, _, rfl, rfl⟩, ⟨_, _, rfl, rfl⟩, ⟨_, _, rfl, rfl⟩, ⟨_, _, rfl, rfl⟩, ⟨_, _, rfl, rfl⟩, ⟨_, _, rfl, rfl⟩, ⟨_, _, rfl, rfl⟩, ⟨_, _, rfl, rfl⟩, trivial⟩)
    (case sdP => rfl)
    (case vdP => rfl)
    (case wPapp => k_is)
    (case wPlam => k_is)
    (case wPlet => k_is)
    (case wPseq => k_is)
    (case wPcon => k_is)
    (case wPcase => k_is)
    (case wPpick => k_is)
    (case wPprim => k_is)
    (case wPnote => k_is)
    (case ndF => decide)
    (case ndP => decide)
    (case aC => k_is)
    (case aM => k_is)
    (case rdC => k_is)
    (case gaC => k_is)
    (case vC => k_is)
    (case exC => k_is)
    (case hdC => k_is)
    (case tyC => k_is)
    (case aB => k_is)
    (case xB => k_is)
    (case rB => decide +kernel)
    (case saB => k_is)
    (case exB => k_is)
    (case tyB => k_is)
    (case kB => k_is)
    (case iB => k_is)
    (case noB => k_is)
    (case gaB => k_is)
    (case ggB => k_is)
    (case hdB => k_is)
    (case clB => k_is)
    (case moB => k_is)
    (case tIB => k_is)
    (case lIB => k_is)
    (case cIB => k_is)
    (case kIB => k_is)
    (case aU => k_is)
    (case xU => k_is)
    (case rU => decide +kernel)
    (case saU => k_is)
    (case exU => k_is)
    (case tyU => k_is)
    (case kU => k_is)
    (case iU => k_is)
    (case noU => k_is)
    (case gaU => k_is)
    (case ggU => k_is)
    (case hdU => k_is)
    (case clU => k_is)
    (case moU => k_is)
    (case tIU => k_is)
    (case lIU => k_is)
    (case cIU => k_is)
    (case kIU => k_is)
    (case aT => k_is)
    (case xT => k_is)
    (case rT => decide +kernel)
    (case saT => k_is)
    (case exT => k_is)
    (case tyT => k_is)
    (case kT => k_is)
    (case iT => k_is)
    (case noT => k_is)
    (case gaT => k_is)
    (case ggT => k_is)
    (case hdT => k_is)
    (case clT => k_is)
    (case moT => k_is)
    (case tIT => k_is)
    (case lIT => k_is)
    (case cIT => k_is)
    (case kIT => k_is)
    (case sn => k_is)
    (case tk => k_is)
    (case sBB => first | k_is | rfl)
    (case sUB => first | k_is | rfl)
    (case sUU => first | k_is | rfl)
    (case sTB => first | k_is | rfl)
    (case sTU => first | k_is | rfl)
    (case sTC => first | k_is | rfl)
    (case qUT => first | k_is | kit_is)
    (case qUB => first | k_is | kit_is)
    (case qUC => first | k_is | kit_is)
    (case qTM => first | k_is | kit_is)
    (case qTT => first | k_is | kit_is)
    (case zlen => k_is)
    (case zint => k_is)
    (case zrange => k_is)
    (case zabs => k_is)
    (case zisinstance => k_is)
    (case zstr => k_is)
    (case zbool => k_is)
    (case ztuple => k_is)
    (case zord => k_is)
    (case zall => k_is)
    (case zlist => k_is)
    (case zzip => k_is)
    (case zsorted => k_is)
    (case zsum => k_is)
    (case zmin => k_is)
    (case zreversed => k_is)

