import PyProof.Rows.All
import Wide.All
import OpenK.AllK
import Wide.FinOn
import HandS.ForMost
import HandS.Codes
import HandS.IsInst
import HandS.Conv
import HandS.StrMore
import KE.OsScanText
import KE.KStrWords
import KE.KxText
import PySem.Challenge.RW_needonce_k01_texts_with_a_bad_place
import HandS.ExcInit
import HandS.ExcField
import HandS.ExcIs
import HandS.ClsMeth
import HandS.TryMany
import HandS.WordsExc
import HandS.FStr
import KE.KExcIs
set_option Elab.async false
set_option maxRecDepth 100000
set_option maxHeartbeats 4000000
/-! Part A: how defs are called, the drawing of numbers from the script. -/
namespace Toy
open PySem L2
open PyProof.Rows (envOfC)
def topS (i : Nat) : Stmt := PySem.Challenge.pw_needonce_k01_texts_with_a_bad_place.main.body.getD i (.Pass ⟨0, 0, 0, 0⟩)
theorem boot_min : bootBuiltins "min" = some (.builtin "min") := by decide +kernel
theorem boot_isinstance : bootBuiltins "isinstance" = some (.builtin "isinstance") := by decide +kernel
theorem boot_int : bootBuiltins "int" = some (.type "int") := by decide +kernel
theorem boot_list : bootBuiltins "list" = some (.type "list") := by decide +kernel
def KW : List Str := ["data", "class", "instance", "where", "let", "in", "case", "of", "if", "then", "else", "div", "mod", "note"]
def SG : List Str := ["->", "=>", "::", "==", "<=", "=", "|", "\\", "(", ")", "[", "]", ",", ";", "{", "}", "+", "-", "*", "<", ":"]
/-- a written row of texts: what it is -/
def tStrs (zs : List Str) : TA := fun _ H Q => Q (zs.map V.str) H
def strE : Expr → Option Str
  | .Constant (.str z) _ _ => some z
  | _ => none
theorem strE_is {e : Expr} {z : Str} (h : strE e = some z) : ∃ j pos, e = .Constant (.str z) j pos := by
  unfold strE at h
  split at h
  · cases h
    exact ⟨_, _, rfl⟩
  · cases h
/-- a written row of texts -/
theorem pa_strs {X : Cx} : ∀ {es : List Expr} {zs : List Str}, es.map strE = zs.map some → PA X es (tStrs zs)
  | [], [], _ => pa_nil
  | [], _ :: _, h => by cases h
  | _ :: _, [], h => by cases h
  | e :: es, z :: zs, h => by
    rw [List.map_cons, List.map_cons] at h
    obtain ⟨h1, h2⟩ := List.cons.inj h
    obtain ⟨j, pos, rfl⟩ := strE_is h1
    exact pa_cons pe_str (pa_strs h2)
theorem strs_read {zs : List Str} {σ : L2.St} {H : Hp} {Q : List V → Hp → Prop} (h : Q (zs.map V.str) H) : tStrs zs σ H Q := h
/-- what the proofs ask of the module's names -/
structure Txt (K : PySem.W.Frag) (mg : Str → Option Value) (aK aS : Addr) : Prop where
  zlen : mg "len" = none
  zmin : mg "min" = none
  zint : mg "int" = none
  zrange : mg "range" = none
  zisinstance : mg "isinstance" = none
  zlist : mg "list" = none
  gSMALL_LETTERS : ∃ u, mg "SMALL_LETTERS" = some u ∧ RelV (.str "abcdefghijklmnopqrstuvwxyz") u
  gCAPITAL_LETTERS : ∃ u, mg "CAPITAL_LETTERS" = some u ∧ RelV (.str "ABCDEFGHIJKLMNOPQRSTUVWXYZ") u
  gDIGITS : ∃ u, mg "DIGITS" = some u ∧ RelV (.str "0123456789") u
  gMARKS : ∃ u, mg "MARKS" = some u ∧ RelV (.str "_'") u
  gLARGEST_NUMBER : ∃ u, mg "LARGEST_NUMBER" = some u ∧ RelV (.int 1000000000000) u
  gMOST_DIGITS : ∃ u, mg "MOST_DIGITS" = some u ∧ RelV (.int 13) u
  gKEYWORDS : ∃ u, mg "KEYWORDS" = some u ∧ RelV (.ref aK) u
  gSIGNS : ∃ u, mg "SIGNS" = some u ∧ RelV (.ref aS) u
  kKEYWORDS : ∀ H : Hp, SqT K H aK (KW.map V.str)
  kSIGNS : ∀ H : Hp, SqT K H aS (SG.map V.str)
section
variable {P : Program} {w : World} {K : PySem.W.Frag} {mg : Str → Option Value} {base : Heap} {aK aS : Addr}
/-- a def as one that may be called by its name -/
theorem cal_of {x : Str} {st : Stmt} {f : Addr} {fd : FuncData} {N ps : List Str} {k : Nat} {sp : Sp} (F : Fun K x x st f fd) (hm : mg x = some (.ref f)) (b : Binds K fd ps []) (S : FnScope N ps (defScope st)) (len : ∀ vs H Q E, sp vs H Q E → vs.length = ps.length)
    (hbody : ∀ (cdv : Value) (A : Around) (outer : List Env) (s : Shared) (H : Hp) (vs : List V) (Q : VK) (E : XK), Room k (A.deeper (envOfC x (defScope st) s.heap.objs.size f cdv)) → sp vs H Q E →
      ∃ t, PSs (cxOf CX0 P w K mg base N x (defScope st) f cdv A outer s H E).nox (defBody st) t ∧ t { nx := fun _ H' => Q .non H', rt := Q } (start N vs) H) : C8.Cal P w K mg base (k + 1) x sp [] :=
  ⟨f, fd, ps, [], F.ok S len hbody, hm, F.kp, b, .nil⟩
theorem same_new {H : Hp} {p : Addr} (h : H p = none) (o : HO) : Same H (upd H p o) := fun b u q => by rw [upd_ne (ne_of_none q h)]; exact q
theorem same_upd {H H' : Hp} {p : Addr} (h : H p = none) (s : Same H H') (o : HO) : Same H (upd H' p o) := fun b u q => by rw [upd_ne (ne_of_none q h)]; exact s b u q
theorem szl {n : Nat} (h : n ≤ 100000) : n < sizeLine := Nat.lt_of_le_of_lt h (by decide)
theorem at_ok {α : Type} {xs : List α} {k : Nat} (h : k < xs.length) : atI xs (0 + (k : Int)) = some xs[k] := by
  rw [Int.zero_add]
  exact atI_nat (List.getElem?_eq_getElem h)
theorem at_int {ns : List Int} {i : Int} (h0 : 0 ≤ i) (h1 : i < (ns.length : Int)) : ∃ v : Int, atI (ns.map V.int) i = some (.int v) := by
  have hk : i.toNat < ns.length := by omega
  refine ⟨ns[i.toNat], ?_⟩
  have q : atI (ns.map V.int) ((i.toNat : Nat) : Int) = some (.int ns[i.toNat]) := atI_nat (by rw [List.getElem?_map, List.getElem?_eq_getElem hk] <;> rfl)
  rw [show ((i.toNat : Nat) : Int) = i by omega] at q
  exact q

/-! ### a number made of two -/
abbrev sMix : Stmt := topS 21
theorem scMix : FnScope ["cell", "k", "low"] ["cell", "k"] (defScope sMix) := ⟨rfl, rfl, rfl, by decide +kernel, rfl, by decide +kernel, by decide +kernel⟩
/-- some number below 1000 -/
def spMix : Sp := fun vs H Q _ => ∃ c k : Int, vs = [.int c, .int k] ∧ ∀ n : Int, 0 ≤ n → n < 1000 → Q (.int n) H
theorem c_mix {f : Addr} {fd : FuncData} (T : Txt K mg aK aS) (F : Fun K "_law_mix" "_law_mix" sMix f fd) (b : Binds K fd ["cell", "k"] []) (hm : mg "_law_mix" = some (.ref f)) : C8.Cal P w K mg base 1 "_law_mix" spMix [] := by
  refine cal_of F hm b scMix (fun vs H Q E h => ?_) (fun cdv A outer s H vs Q E hr h => ?_)
  · obtain ⟨c, k, rfl, _⟩ := h
    rfl
  obtain ⟨c, k, rfl, q⟩ := h
  refine ⟨_, (pss_cons (ps_set (i := 2) scMix.nd rfl (Or.inl rfl) (pe_op op_mod (pe_callTy call_int1 rfl T.zint boot_int (pa_cons (pe_op op_add (pe_op op_add (pe_op op_mul (pv 0) pe_int) (pe_op op_mul (pv 1) pe_int)) pe_int) pa_nil)) pe_int))
    (pss_one (ps_ret (pe_op op_mod (pe_op op_mod (pe_callTy call_int1 rfl T.zint boot_int (pa_cons (pe_op op_add (pe_op op_add (pe_op op_add (pe_op op_mul (pv 2) (pv 2)) (pe_op op_mul (pv 0) pe_int)) (pe_op op_mul (pv 1) pe_int)) pe_int) pa_nil)) pe_int) pe_int)))), ?_⟩
  refine ⟨_, rfl, _, _, rfl, rfl, .inr (by decide), _, rfl, _, _, rfl, rfl, .inr (by decide), _, _, rfl, rfl, _, _, rfl, rfl, .inl ⟨_, rfl, _, _, rfl, rfl, (show (0 : Int) < 2147483647 by decide), ?_⟩⟩
  refine ⟨_, rfl, _, rfl, _, _, rfl, rfl, .inl ?_, _, rfl, _, _, rfl, rfl, .inr (by decide), _, _, rfl, rfl, _, rfl, _, _, rfl, rfl, .inr (by decide), _, _, rfl, rfl, _, _, rfl, rfl, .inl ⟨_, rfl, _, _, rfl, rfl, (show (0 : Int) < 1000003 by decide), _, _, rfl, rfl, (show (0 : Int) < 1000 by decide), ?_⟩⟩
  · omega
  · exact q _ (by omega) (by omega)

/-! ### the draws of a script -/
def dk3 (r : Addr) (i z : Int) : List (Key × V) := [(Sum.inr "row", .ref r), (Sum.inr "at", .int i), (Sum.inr "seed", .int z)]
theorem nk_ra : ¬ (Sum.inr ("row" : Str) : Key) = Sum.inr ("at" : Str) := by decide +kernel
theorem nk_rs : ¬ (Sum.inr ("row" : Str) : Key) = Sum.inr ("seed" : Str) := by decide +kernel
theorem nk_as : ¬ (Sum.inr ("at" : Str) : Key) = Sum.inr ("seed" : Str) := by decide +kernel
theorem nk_sa : ¬ (Sum.inr ("seed" : Str) : Key) = Sum.inr ("at" : Str) := by decide +kernel
theorem dk_row (r : Addr) (i z : Int) : valV (dk3 r i z) (Sum.inr "row" : Key) = some (.ref r) := valV_pos rfl
theorem dk_at (r : Addr) (i z : Int) : valV (dk3 r i z) (Sum.inr "at" : Key) = some (.int i) := (valV_neg nk_ra).trans (valV_pos rfl)
theorem dk_seed (r : Addr) (i z : Int) : valV (dk3 r i z) (Sum.inr "seed" : Key) = some (.int z) := (valV_neg nk_rs).trans ((valV_neg nk_as).trans (valV_pos rfl))
theorem dk_put (r : Addr) (i z j : Int) : putK (dk3 r i z) (Sum.inr "at" : Key) (.int j) = dk3 r j z := by
  have h1 : ¬ ("row" : Str) = "at" := by decide +kernel
  have h2 : ¬ ("seed" : Str) = "at" := by decide +kernel
  simp [putK, dk3, h1, h2]
theorem dk_merge (r : Addr) (z : Int) : mergeK [] [(Sum.inr "row", .ref r), (Sum.inr "at", .int 0), (Sum.inr "seed", .int z)] = dk3 r 0 z := by
  have h1 : ¬ ("row" : Str) = "at" := by decide +kernel
  have h2 : ¬ ("row" : Str) = "seed" := by decide +kernel
  have h3 : ¬ ("at" : Str) = "seed" := by decide +kernel
  simp [mergeK, putK, dk3, h1, h2, h3]
/-- a reader of draws stands at p -/
def DrawsAt (H : Hp) (p r : Addr) : Prop := ∃ (row : List Int) (i : Nat) (z : Int), H p = some (.dK (dk3 r (i : Int) z)) ∧ H r = some (.lst (row.map V.int))
theorem DrawsAt.same {H H' : Hp} {p r : Addr} (d : DrawsAt H p r) (s : Same H H') : DrawsAt H' p r := by
  obtain ⟨row, i, z, h1, h2⟩ := d
  exact ⟨row, i, z, s _ _ h1, s _ _ h2⟩
/-- all but p stays -/
def Keep (p : Addr) (H H' : Hp) : Prop := ∀ b o, b ≠ p → H b = some o → H' b = some o
abbrev sPick : Stmt := topS 23
theorem scPick : FnScope ["draws", "many", "at", "number"] ["draws", "many"] (defScope sPick) := ⟨rfl, rfl, rfl, by decide +kernel, rfl, by decide +kernel, by decide +kernel⟩
/-- some number below m; the reader moves on -/
def spPick : Sp := fun vs H Q _ => ∃ (p r : Addr) (m : Int), vs = [.ref p, .int m] ∧ 0 < m ∧ DrawsAt H p r ∧ ∀ (n : Int) (H' : Hp), 0 ≤ n → n < m → Keep p H H' → DrawsAt H' p r → Q (.int n) H'
theorem c_pick {f : Addr} {fd : FuncData} (T : Txt K mg aK aS) (c_law_mix : C8.Cal P w K mg base 1 "_law_mix" spMix []) (F : Fun K "_law_pick" "_law_pick" sPick f fd) (b : Binds K fd ["draws", "many"] []) (hm : mg "_law_pick" = some (.ref f)) : C8.Cal P w K mg base 2 "_law_pick" spPick [] := by
  refine cal_of F hm b scPick (fun vs H Q E h => ?_) (fun cdv A outer s H vs Q E hr h => ?_)
  · obtain ⟨p, r, m, rfl, _⟩ := h
    rfl
  obtain ⟨p, r, m, rfl, hm0, ⟨row, i, z, hp, hrow⟩, q⟩ := h
  have hu := hu_of hr
  have npr : r ≠ p := ne_of hrow hp (by intro z; cases z)
  refine ⟨_, (pss_cons (ps_set (i := 2) scPick.nd rfl (Or.inl rfl) (pe_dget hu (pv 0) pe_str (fun _ _ => rfl)))
    (pss_cons (ps_dput hu (pv 0) pe_str (pe_op op_add (pv 2) pe_int) rfl)
    (pss_cons (ps_set (i := 3) scPick.nd rfl (Or.inl rfl) (C8.pe_c c_law_mix hr (by decide) rfl (pa_cons (pe_dget hu (pv 0) pe_str (fun _ _ => rfl)) (pa_cons (pv 2) pa_nil))))
    (pss_cons (ps_if (pt_cmpR op_lt (pv 2) (pe_callB call_len_seq rfl T.zlen PySem.boot_len (pa_cons (pe_dget hu (pv 0) pe_str (fun _ _ => rfl)) pa_nil)) (nomark _))
      (pss_one (ps_set (i := 3) scPick.nd rfl (Or.inl rfl) (pe_ix ix_list (pe_dget hu (pv 0) pe_str (fun _ _ => rfl)) (pv 2) (fun _ _ => rfl))))
      pss_nil)
    (pss_one (ps_ret (pe_op op_mod (pe_callTy call_int1 rfl T.zint boot_int (pa_cons (pv 3) pa_nil)) (pv 1)))))))), ?_⟩
  refine ⟨_, rfl, p, _, rfl, (dk_at r i z ▸ DGet.k (k := Sum.inr "at") hp), ?_⟩
  refine ⟨_, rfl, _, _, rfl, rfl, _, rfl, p, _, rfl, DPut.k (k := Sum.inr "at") hp (by show 3 < sizeLine; decide), ?_⟩
  rw [dk_put]
  have hp2 : upd H p (.dK (dk3 r ((i : Int) + 1) z)) p = some (.dK (dk3 r ((i : Int) + 1) z)) := upd_same
  have hr2 : upd H p (.dK (dk3 r ((i : Int) + 1) z)) r = some (.lst (row.map V.int)) := by rw [upd_ne npr]; exact hrow
  have fin : ∀ n : Int, 0 ≤ n → n < m → Q (.int n) (upd H p (.dK (dk3 r ((i : Int) + 1) z))) := fun n h0 h1 =>
    q n _ h0 h1 (fun b o hb e => by rw [upd_ne hb]; exact e) ⟨row, i + 1, z, by rw [upd_same]; rfl, hr2⟩
  refine ⟨_, rfl, p, _, rfl, (dk_seed r _ z ▸ DGet.k (k := Sum.inr "seed") hp2), _, rfl, _, _, rfl, fun n h0 h1 => ?_⟩
  refine ⟨_, rfl, _, rfl, p, _, rfl, (dk_row r _ z ▸ DGet.k (k := Sum.inr "row") hp2), r, _, rfl, .inl (SqL.of hr2), _, _, rfl, rfl, _, rfl, ?_⟩
  refine ite2 (fun c => ?_) (fun c => ?_)
  · have c' : (i : Int) < (((row.map V.int).length : Nat) : Int) := of_decide_eq_true c
    rw [List.length_map] at c'
    obtain ⟨v, hv⟩ := at_int (ns := row) (i := (i : Int)) (by omega) c'
    refine ⟨_, rfl, p, _, rfl, (dk_row r _ z ▸ DGet.k (k := Sum.inr "row") hp2), _, rfl, r, _, _, _, rfl, rfl, SqL.of hr2, hv, ?_⟩
    refine ⟨_, rfl, .inl ⟨_, rfl, _, rfl, _, _, rfl, rfl, hm0, ?_⟩⟩
    exact fin _ (Int.emod_nonneg _ (by omega)) (Int.emod_lt_of_pos _ hm0)
  · refine ⟨_, rfl, .inl ⟨_, rfl, _, rfl, _, _, rfl, rfl, hm0, ?_⟩⟩
    exact fin _ (Int.emod_nonneg _ (by omega)) (Int.emod_lt_of_pos _ hm0)
abbrev sStream : Stmt := topS 22
theorem scStream : FnScope ["script", "most", "row", "k", "rest", "j"] ["script", "most"] (defScope sStream) := ⟨rfl, rfl, rfl, by decide +kernel, rfl, by decide +kernel, by decide +kernel⟩
def spStream (K : PySem.W.Frag) : Sp := fun vs H Q _ => ∃ (a : Addr) (ns : List Int) (m : Int), vs = [.ref a, .int m] ∧ SqL K H a (ns.map V.int) ∧ ns.length ≤ 63 ∧ 0 ≤ m ∧ m ≤ 1000 ∧
  ∀ (p r : Addr) (H' : Hp), H p = none → Same H H' → DrawsAt H' p r → Q (.ref p) H'
theorem c_stream {f : Addr} {fd : FuncData} (T : Txt K mg aK aS) (c_law_mix : C8.Cal P w K mg base 1 "_law_mix" spMix []) (F : Fun K "_law_stream" "_law_stream" sStream f fd) (b : Binds K fd ["script", "most"] []) (hm : mg "_law_stream" = some (.ref f)) : C8.Cal P w K mg base 2 "_law_stream" (spStream K) [] := by
  refine cal_of F hm b scStream (fun vs H Q E h => ?_) (fun cdv A outer s H vs Q E hr h => ?_)
  · obtain ⟨a, ns, m, rfl, _⟩ := h
    rfl
  obtain ⟨a, ns, m, rfl, hS, h63, hm0, hm1, q⟩ := h
  refine ⟨_, (pss_cons (ps_set (i := 2) scStream.nd rfl (Or.inl rfl) (pe_lst pa_nil))
    (pss_cons (ps_for PassesOwn.never rfl (pi_range1 rfl T.zrange (pa_cons (pe_callB (call_min2 rfl) rfl T.zmin boot_min (pa_cons (pe_callB call_len_seq rfl T.zlen PySem.boot_len (pa_cons (pv 0) pa_nil)) (pa_cons pe_int pa_nil))) pa_nil)) (pg_name (i := 3) scStream.nd rfl (Or.inl rfl))
      (pss_cons (ps_set (i := 4) scStream.nd rfl (Or.inl rfl) (pe_ix ix_list (pv 0) (pv 3) (fun _ _ => rfl)))
    (pss_one (ps_if (pt_cmpR op_ge (pv 4) (pe_op op_pow pe_int pe_int) (nomark _))
      (pss_one (ps_for PassesOwn.never rfl (pi_range1 rfl T.zrange (pa_cons pe_int pa_nil)) (pg_name (i := 5) scStream.nd rfl (Or.inl rfl))
      (pss_one (ps_if (PW.pt (pw_and (pt_cmpR op_gt (pv 4) pe_int (nomark _)) (pw_and1 (pt_cmpR op_lt (pe_callB call_len_seq rfl T.zlen PySem.boot_len (pa_cons (pv 2) pa_nil)) (pv 1) (nomark _)))))
      (pss_cons (ps_expr (pe_bm PySem.F.plainAttrs_list PySem.F.slot_list_append PySem.F.type_list_append mt_append (pv 2) (pa_cons (pe_op op_mod (pe_callTy call_int1 rfl T.zint boot_int (pa_cons (pv 4) pa_nil)) pe_int) pa_nil)))
    (pss_one (ps_set (i := 4) scStream.nd rfl (Or.inl rfl) (pe_op op_fdiv (pv 4) pe_int))))
      pss_nil))))
      (pss_one (ps_for PassesOwn.never rfl (pi_range1 rfl T.zrange (pa_cons pe_int pa_nil)) (pg_name (i := 5) scStream.nd rfl (Or.inl rfl))
      (pss_one (ps_if (pt_cmpR op_lt (pe_callB call_len_seq rfl T.zlen PySem.boot_len (pa_cons (pv 2) pa_nil)) (pv 1) (nomark _))
      (pss_one (ps_expr (pe_bm PySem.F.plainAttrs_list PySem.F.slot_list_append PySem.F.type_list_append mt_append (pv 2) (pa_cons (C8.pe_c c_law_mix hr (by decide) rfl (pa_cons (pv 4) (pa_cons (pe_op op_add (pe_op op_mul pe_int (pv 5)) (pv 3)) pa_nil))) pa_nil))))
      pss_nil))))))))
    (pss_one (ps_ret (pe_disp (pps_cons pe_str (pv 2) (pps_cons pe_str pe_int (pps_cons pe_str (pe_callB call_len_seq rfl T.zlen PySem.boot_len (pa_cons (pv 2) pa_nil)) pps_nil))) rfl rfl (by decide) (by decide)))))), ?_⟩
  -- row = []
  refine ⟨(by show 0 ≤ sizeLine; decide), fun r hr0 => ?_⟩
  -- for k in range(min(len(script), 63))
  refine ⟨_, rfl, a, _, rfl, .inl ((same_new hr0 _).seq hS), _, _, rfl, _, rfl, ?_, ?_, for_range
    (fun (k : Nat) σ H2 => ∃ (kk rest jj : Option V) (row : List Int), σ = [some (.ref a), some (.int m), some (.ref r), kk, rest, jj] ∧ Same H H2 ∧ H2 r = some (.lst (row.map V.int)) ∧ (row.length : Int) ≤ m)
    ⟨none, none, none, [], rfl, same_new hr0 _, upd_same, by simpa using hm0⟩ ?_ ?_⟩
  · split <;> omega
  · rw [List.length_map]
    split <;> omega
  · rintro k σ H2 hk ⟨kk, rest, jj, row, rfl, s2, hrow, hl⟩
    have hk' : (k : Int) < (ns.length : Int) := by
      rw [List.length_map] at hk
      split at hk <;> omega
    obtain ⟨v, hv⟩ := at_int (ns := ns) (i := 0 + (k : Int)) (by omega) (by omega)
    refine ⟨_, rfl, _, rfl, a, _, _, _, rfl, rfl, s2.seq hS, hv, ?_⟩
    refine ⟨_, rfl, _, _, rfl, rfl, ⟨by decide, by decide, by decide⟩, _, _, rfl, rfl, _, rfl, ?_⟩
    refine ite2 (fun _ => ?_) (fun _ => ?_)
    -- a long cell: its digits
    · refine ⟨60, rfl, by decide, by decide, for_range (fun (j : Nat) σ H3 => ∃ (jj : Option V) (rest : Int) (row : List Int), σ = [some (.ref a), some (.int m), some (.ref r), some (.int (0 + (k : Int))), some (.int rest), jj] ∧ Same H H3 ∧ H3 r = some (.lst (row.map V.int)) ∧ (row.length : Int) ≤ m)
        ⟨_, _, row, rfl, s2, hrow, hl⟩ ?_ ?_⟩
      · rintro j σ H3 hj ⟨jj, rest, row, rfl, s3, hrow, hl⟩
        refine ⟨_, rfl, _, _, rfl, rfl, _, rfl, ?_⟩
        refine ite2 (fun _ => ?_) (fun _ => ?_)
        · refine ⟨_, rfl, r, _, rfl, .inl (SqL.of hrow), _, rfl, _, _, rfl, rfl, _, rfl, ?_⟩
          refine ite2 (fun c => ?_) (fun c => ?_)
          · have c' : (((row.map V.int).length : Nat) : Int) < m := of_decide_eq_true c
            rw [List.length_map] at c'
            refine ⟨_, rfl, .inl ⟨rfl, _, SqL.of hrow⟩, _, rfl, .inl ⟨_, rfl, _, _, rfl, rfl, (show (0 : Int) < 1000 by decide), r, _, _, rfl, rfl, hrow, szl (by rw [List.length_map]; omega), ?_⟩⟩
            refine ⟨_, rfl, _, _, rfl, rfl, ⟨by decide, by decide⟩, ?_⟩
            refine ⟨_, _, row ++ [rest % 1000], rfl, same_upd hr0 s3 _, ?_, ?_⟩
            · rw [upd_same, List.map_append]
              rfl
            · rw [List.length_append]
              show ((row.length + 1 : Nat) : Int) ≤ m
              omega
          · exact ⟨_, _, row, rfl, s3, hrow, hl⟩
        · exact ⟨_, _, row, rfl, s3, hrow, hl⟩
      · rintro σ H3 ⟨jj, rest, row, rfl, s3, hrow, hl⟩
        exact ⟨_, _, _, row, rfl, s3, hrow, hl⟩
    -- a short one: three numbers
    · refine ⟨3, rfl, by decide, by decide, for_range (fun (j : Nat) σ H3 => ∃ (jj : Option V) (row : List Int), σ = [some (.ref a), some (.int m), some (.ref r), some (.int (0 + (k : Int))), some (.int v), jj] ∧ Same H H3 ∧ H3 r = some (.lst (row.map V.int)) ∧ (row.length : Int) ≤ m)
        ⟨_, row, rfl, s2, hrow, hl⟩ ?_ ?_⟩
      · rintro j σ H3 hj ⟨jj, row, rfl, s3, hrow, hl⟩
        refine ⟨_, rfl, r, _, rfl, .inl (SqL.of hrow), _, rfl, _, _, rfl, rfl, _, rfl, ?_⟩
        refine ite2 (fun c => ?_) (fun c => ?_)
        · have c' : (((row.map V.int).length : Nat) : Int) < m := of_decide_eq_true c
          rw [List.length_map] at c'
          refine ⟨_, rfl, .inl ⟨rfl, _, SqL.of hrow⟩, _, rfl, _, rfl, _, _, rfl, rfl, .inl (by decide), _, rfl, _, _, rfl, rfl, _, _, rfl, fun n h0 h1 => ?_⟩
          refine ⟨r, _, _, rfl, rfl, hrow, szl (by rw [List.length_map]; omega), ?_⟩
          refine ⟨_, row ++ [n], rfl, same_upd hr0 s3 _, ?_, ?_⟩
          · rw [upd_same, List.map_append]
            rfl
          · rw [List.length_append]
            show ((row.length + 1 : Nat) : Int) ≤ m
            omega
        · exact ⟨_, row, rfl, s3, hrow, hl⟩
      · rintro σ H3 ⟨jj, row, rfl, s3, hrow, hl⟩
        exact ⟨_, _, _, row, rfl, s3, hrow, hl⟩
  · rintro σ H2 ⟨kk, rest, jj, row, rfl, s2, hrow, hl⟩
    intro p hp
    have np : r ≠ p := ne_of_none hrow hp
    refine ⟨_, rfl, _, rfl, r, _, rfl, .inl (SqL.of (by rw [upd_ne np]; exact hrow)), upd_same, [(Sum.inr "row", .ref r), (Sum.inr "at", .int 0), (Sum.inr "seed", .int (((row.map V.int).length : Nat) : Int))], rfl, (by show 3 ≤ 15; decide), ?_⟩
    refine q p r _ (s2.free hp) (same_upd (s2.free hp) (same_upd (s2.free hp) s2 _) _) ⟨row, 0, (((row.map V.int).length : Nat) : Int), ?_, by rw [upd_ne np, upd_ne np]; exact hrow⟩
    rw [upd_same, dk_merge]
    rfl
end
end Toy

set_option Elab.async false
set_option maxRecDepth 100000
set_option maxHeartbeats 4000000
/-! Part B: the mathematics of tokens, over lists of codes. -/
namespace Toy
open PySem L2
abbrev Cs := List Nat
def SM : Cs := ("abcdefghijklmnopqrstuvwxyz" : Str).cps.toList
def CA : Cs := ("ABCDEFGHIJKLMNOPQRSTUVWXYZ" : Str).cps.toList
def DI : Cs := ("0123456789" : Str).cps.toList
def MA : Cs := ("_'" : Str).cps.toList
def goesOn (c : Nat) : Bool := decide (c ∈ SM) || (decide (c ∈ CA) || (decide (c ∈ DI) || decide (c ∈ MA)))
def S (l : Cs) : Str := ⟨l.toArray⟩
abbrev cs (z : Str) : Cs := z.cps.toList
theorem cs_S (l : Cs) : cs (S l) = l := rfl
theorem S_cs (z : Str) : S (cs z) = z := by
  show (⟨z.cps.toList.toArray⟩ : Str) = z
  rw [Array.toArray_toList]
theorem len_S (l : Cs) : (S l).length = l.length := rfl
theorem len_cs (z : Str) : z.length = (cs z).length := rfl
theorem str_ext {x y : Str} (h : cs x = cs y) : x = y := by rw [← S_cs x, ← S_cs y, h]
theorem cs_app (x y : Str) : cs (x ++ y) = cs x ++ cs y := by
  show (x.cps ++ y.cps).toList = _
  exact Array.toList_append
def wordOf : Cs → Cs
  | [] => []
  | c :: r => c :: r.takeWhile goesOn
/-- is this word, of digits and what may follow them, a number? (none: int(word) is not known) -/
def numV (w : Str) : Option Bool :=
  if 13 < w.length ∨ ((cs w).head? = some 48 ∧ 1 < w.length) then some false
  else if (cs w).all (fun c => decide (c ∈ DI)) = true then (PySem.intText? w).map fun n => decide (n ≤ 1000000000000)
  else some false
def kindW (w : Str) : Str := if w ∈ KW then "keyword" else "name"
/-- the token at the head of a text -/
def tokOf : Cs → Option (Str × Str)
  | [] => none
  | c :: r =>
    if c ∈ SM then some (kindW (S (wordOf (c :: r))), S (wordOf (c :: r)))
    else if c ∈ CA then some ("con", S (wordOf (c :: r)))
    else if c ∈ DI then (if numV (S (wordOf (c :: r))) = some true then some ("number", S (wordOf (c :: r))) else none)
    else (SG.find? fun g => (cs g).isPrefixOf (c :: r)).map fun g => ("sign", g)
theorem tokOf_cons (c : Nat) (r : Cs) : tokOf (c :: r) = if c ∈ SM then some (kindW (S (wordOf (c :: r))), S (wordOf (c :: r)))
    else if c ∈ CA then some ("con", S (wordOf (c :: r)))
    else if c ∈ DI then (if numV (S (wordOf (c :: r))) = some true then some ("number", S (wordOf (c :: r))) else none)
    else (SG.find? fun g => (cs g).isPrefixOf (c :: r)).map fun g => ("sign", g) := rfl
abbrev Tk := Str × Str × Nat × Nat
/-- the fault at the head of a text: true a word that is no number, false a sign that begins no token -/
def badOf : Cs → Option Bool
  | [] => none
  | c :: r => if c ∈ SM then none else if c ∈ CA then none else if c ∈ DI then (if numV (S (wordOf (c :: r))) = some false then some true else none)
    else if (SG.find? fun g => (cs g).isPrefixOf (c :: r)) = none then some false else none
theorem badOf_cons (c : Nat) (r : Cs) : badOf (c :: r) = if c ∈ SM then none else if c ∈ CA then none else if c ∈ DI then (if numV (S (wordOf (c :: r))) = some false then some true else none)
    else if (SG.find? fun g => (cs g).isPrefixOf (c :: r)) = none then some false else none := rfl
/-- what ends a reading early: which fault, and its place -/
abbrev Er := Option (Bool × Nat × Nat)
/-- the tokens of a text that begins at this row and column, up to its end or its first fault -/
inductive Lex : Cs → Nat → Nat → List Tk → Er → Prop
  | done {r c : Nat} : Lex [] r c [("end", "", r, c)] none
  | nl {s : Cs} {r c : Nat} {ts : List Tk} {o : Er} : Lex s (r + 1) 1 ts o → Lex (10 :: s) r c ts o
  | sp {s : Cs} {r c : Nat} {ts : List Tk} {o : Er} : Lex s r (c + 1) ts o → Lex (32 :: s) r c ts o
  | com {s0 b s : Cs} {r c : Nat} {ts : List Tk} {o : Er} : s0 = 45 :: 45 :: (b ++ s) → (∀ x ∈ b, x ≠ 10) → (s = [] ∨ ∃ s', s = 10 :: s') → Lex s r (c + 2 + b.length) ts o → Lex s0 r c ts o
  | tok {s0 s : Cs} {k w : Str} {r c : Nat} {ts : List Tk} {o : Er} : s0 = cs w ++ s → (∀ s', s0 ≠ 10 :: s') → (∀ s', s0 ≠ 32 :: s') → (∀ s', s0 ≠ 45 :: 45 :: s') → tokOf s0 = some (k, w) → Lex s r (c + w.length) ts o → Lex s0 r c ((k, w, r, c) :: ts) o
  | bad {s0 : Cs} {k : Bool} {r c : Nat} : (∀ s', s0 ≠ 10 :: s') → (∀ s', s0 ≠ 32 :: s') → (∀ s', s0 ≠ 45 :: 45 :: s') → badOf s0 = some k → Lex s0 r c [] (some (k, r, c))
theorem Lex.inv_nil {r c : Nat} {ts : List Tk} {o : Er} (h : Lex [] r c ts o) : ts = [(("end" : Str), ("" : Str), r, c)] ∧ o = none := by
  cases h with
  | done => exact ⟨rfl, rfl⟩
  | com e => cases e
  | tok _ _ _ _ e => cases e
  | bad _ _ _ e => cases e
theorem Lex.inv_nl {s : Cs} {r c : Nat} {ts : List Tk} {o : Er} (h : Lex (10 :: s) r c ts o) : Lex s (r + 1) 1 ts o := by
  cases h with
  | nl h => exact h
  | com e => cases e
  | tok _ n => exact absurd rfl (n s)
  | bad n => exact absurd rfl (n s)
theorem Lex.inv_sp {s : Cs} {r c : Nat} {ts : List Tk} {o : Er} (h : Lex (32 :: s) r c ts o) : Lex s r (c + 1) ts o := by
  cases h with
  | sp h => exact h
  | com e => cases e
  | tok _ _ n => exact absurd rfl (n s)
  | bad _ n => exact absurd rfl (n s)
theorem Lex.inv_com {s : Cs} {r c : Nat} {ts : List Tk} {o : Er} (h : Lex (45 :: 45 :: s) r c ts o) : ∃ b s', s = b ++ s' ∧ (∀ x ∈ b, x ≠ 10) ∧ (s' = [] ∨ ∃ s2, s' = 10 :: s2) ∧ Lex s' r (c + 2 + b.length) ts o := by
  cases h with
  | com e h1 h2 h3 =>
    cases e
    exact ⟨_, _, rfl, h1, h2, h3⟩
  | tok _ _ _ n => exact absurd rfl (n s)
  | bad _ _ n => exact absurd rfl (n s)
theorem Lex.inv_tok {s0 : Cs} {r c : Nat} {ts : List Tk} {o : Er} (h : Lex s0 r c ts o) (h0 : s0 ≠ []) (h1 : ∀ s', s0 ≠ 10 :: s') (h2 : ∀ s', s0 ≠ 32 :: s') (h3 : ∀ s', s0 ≠ 45 :: 45 :: s') :
    (∃ k w s ts', s0 = cs w ++ s ∧ tokOf s0 = some (k, w) ∧ ts = (k, w, r, c) :: ts' ∧ Lex s r (c + w.length) ts' o) ∨ ∃ k, badOf s0 = some k ∧ o = some (k, r, c) := by
  cases h with
  | done => exact absurd rfl h0
  | nl => exact absurd rfl (h1 _)
  | sp => exact absurd rfl (h2 _)
  | com e => exact absurd e (h3 _)
  | tok e _ _ _ e2 h => exact .inl ⟨_, _, _, _, e, e2, rfl, h⟩
  | bad _ _ _ e => exact .inr ⟨_, e, rfl⟩

/-! ### places -/
def adv (p : Nat × Nat) (c : Nat) : Nat × Nat := if c = 10 then (p.1 + 1, 1) else (p.1, p.2 + 1)
def place (s : Cs) : Nat × Nat := s.foldl adv (1, 1)
theorem place_app (s t : Cs) : place (s ++ t) = t.foldl adv (place s) := List.foldl_append
theorem adv_word : ∀ (w : Cs) (p : Nat × Nat), (∀ x ∈ w, x ≠ 10) → w.foldl adv p = (p.1, p.2 + w.length)
  | [], p, _ => rfl
  | x :: w, p, h => by
    have hx : x ≠ 10 := h x (List.mem_cons_self ..)
    have e : adv p x = (p.1, p.2 + 1) := if_neg hx
    rw [List.foldl_cons, e, adv_word w _ fun y hy => h y (List.mem_cons_of_mem _ hy)]
    show (p.1, p.2 + 1 + w.length) = (p.1, p.2 + (w.length + 1))
    rw [Nat.add_assoc, Nat.add_comm 1]

/-! ### what stands between tokens -/
/-- blanks and whole comments (flag: within a comment) -/
def bl : Bool → Cs → Bool
  | false, [] => true
  | true, [] => false
  | true, 10 :: s => bl false s
  | true, _ :: s => bl true s
  | false, 32 :: s => bl false s
  | false, 10 :: s => bl false s
  | false, 45 :: 45 :: s => bl true s
  | false, _ => false
def Sep (s : Cs) : Prop := ∀ (rest : Cs) (p : Nat × Nat) (ts : List Tk) (o : Er), Lex rest (s.foldl adv p).1 (s.foldl adv p).2 ts o → Lex (s ++ rest) p.1 p.2 ts o
def SepC (s : Cs) : Prop := ∃ b s', s = b ++ 10 :: s' ∧ (∀ x ∈ b, x ≠ 10) ∧ Sep s'
theorem sep_of : ∀ (n : Nat) (s : Cs), s.length ≤ n → (bl false s = true → Sep s) ∧ (bl true s = true → SepC s)
  | n, [], _ => ⟨fun _ rest p ts o h => h, fun h => by simp [bl] at h⟩
  | 0, _ :: _, h => by simp at h
  | n + 1, x :: s, h => by
    have ih := sep_of n s (by simpa using h)
    refine ⟨fun e => ?_, fun e => ?_⟩
    · by_cases h1 : x = 32
      · subst h1
        have q := ih.1 (by simpa [bl] using e)
        intro rest p ts o hl
        exact Lex.sp (q rest (p.1, p.2 + 1) ts o hl)
      · by_cases h2 : x = 10
        · subst h2
          have q := ih.1 (by simpa [bl] using e)
          intro rest p ts o hl
          exact Lex.nl (q rest (p.1 + 1, 1) ts o hl)
        · by_cases h3 : x = 45
          · subst h3
            cases s with
            | nil => simp [bl] at e
            | cons y s2 =>
              by_cases h4 : y = 45
              · subst h4
                cases n with
                | zero => simp at h
                | succ m =>
                  obtain ⟨b, s', e1, hb, q⟩ := (sep_of m s2 (by simp at h; omega)).2 (by simpa [bl] using e)
                  subst e1
                  intro rest p ts o hl
                  have e2 : (45 :: 45 :: (b ++ 10 :: s')).foldl adv p = (10 :: s').foldl adv (p.1, p.2 + 2 + b.length) := by
                    show (b ++ 10 :: s').foldl adv (p.1, p.2 + 1 + 1) = _
                    rw [List.foldl_append, adv_word b _ hb]
                  rw [e2] at hl
                  refine Lex.com (b := b) (s := 10 :: (s' ++ rest)) (by simp) hb (.inr ⟨_, rfl⟩) ?_
                  exact Lex.nl (q rest (p.1 + 1, 1) ts o hl)
              · simp [bl, h4] at e
          · simp [bl, h1, h2, h3] at e
    · by_cases h2 : x = 10
      · subst h2
        exact ⟨[], s, rfl, (by intro _ hx; cases hx), ih.1 (by simpa [bl] using e)⟩
      · obtain ⟨b, s', e1, hb, q⟩ := ih.2 (by simpa [bl, h2] using e)
        refine ⟨x :: b, s', by rw [e1]; rfl, fun y hy => ?_, q⟩
        rcases List.mem_cons.mp hy with rfl | hy
        · exact h2
        · exact hb y hy
theorem sep_by {s : Cs} (h : bl false s = true) : Sep s := (sep_of s.length s (Nat.le_refl _)).1 h

/-! ### a text grows at its end -/
def stops : Cs := [32, 10, 40, 41, 91, 93, 44, 59, 123, 125]
/-- what may follow: anything (flag), or nothing, or a sign that ends every token -/
def OkR (f : Bool) (rest : Cs) : Prop := f = true ∨ rest = [] ∨ ∃ x r, rest = x :: r ∧ x ∈ stops
def Pre (text : Cs) (ts : List Tk) (f : Bool) : Prop := ∀ (rest : Cs) (ts' : List Tk) (o : Er), OkR f rest → Lex rest (place text).1 (place text).2 ts' o → Lex (text ++ rest) 1 1 (ts ++ ts') o
theorem pre_of {s : Cs} (h : bl false s = true) : Pre s [] true := fun rest ts' o _ hl => sep_by h rest (1, 1) ts' o hl
theorem Pre.sep {text s : Cs} {ts : List Tk} {f : Bool} (P : Pre text ts f) (h : bl false s = true) (h0 : ∃ x r, s = x :: r ∧ x ∈ stops) : Pre (text ++ s) ts true := by
  intro rest ts' o _ hl
  rw [place_app] at hl
  rw [List.append_assoc]
  refine P _ _ _ (.inr (.inr ?_)) (sep_by h rest (place text) ts' o hl)
  obtain ⟨x, r, rfl, hx⟩ := h0
  exact ⟨x, r ++ rest, rfl, hx⟩
def AL : List Str := ["(", ")", "[", "]", ",", ";", "{", "}"]
def alone (w : Str) : Bool := decide (w ∈ AL)
/-- a word that is read as one token, whatever may follow it -/
structure WordOk (k w : Str) : Prop where
  head : ∃ x r, cs w = x :: r ∧ x ≠ 10 ∧ x ≠ 32
  nonl : ∀ x ∈ cs w, x ≠ 10
  nocom : ∀ rest, OkR (alone w) rest → ∀ s', cs w ++ rest ≠ 45 :: 45 :: s'
  tok : ∀ rest, OkR (alone w) rest → tokOf (cs w ++ rest) = some (k, w)
theorem alone_head {w : Str} (h : alone w = true) : ∃ x r, cs w = x :: r ∧ x ∈ stops := by
  have q : ∀ z ∈ AL, ((cs z).head?.map fun x => decide (x ∈ stops)) = some true := by decide +kernel
  have := q w (of_decide_eq_true h)
  cases e : cs w with
  | nil => rw [e] at this; simp at this
  | cons x r =>
    rw [e] at this
    simp at this
    exact ⟨x, r, rfl, this⟩
theorem Pre.word {text : Cs} {ts : List Tk} {f : Bool} {k w : Str} (P : Pre text ts f) (W : WordOk k w) (h : f = true ∨ alone w = true) : Pre (text ++ cs w) (ts ++ [(k, w, (place text).1, (place text).2)]) (alone w) := by
  intro rest ts' o ok hl
  rw [place_app, adv_word _ _ W.nonl] at hl
  rw [List.append_assoc, List.append_assoc]
  obtain ⟨x, r, e, h1, h2⟩ := W.head
  refine P _ _ _ ?_ (Lex.tok rfl (fun s' q => ?_) (fun s' q => ?_) (W.nocom rest ok) (W.tok rest ok) hl)
  · rcases h with h | h
    · exact .inl h
    · obtain ⟨y, r', e', hy⟩ := alone_head h
      exact .inr (.inr ⟨y, r' ++ rest, by rw [e']; rfl, hy⟩)
  · rw [e] at q
    exact h1 (List.cons.inj q).1
  · rw [e] at q
    exact h2 (List.cons.inj q).1

/-! ### the words of the law -/
theorem take_go {w rest : Cs} (hw : w.all goesOn = true) (hr : OkR false rest) : (w ++ rest).takeWhile goesOn = w := by
  have hs : ∀ x ∈ stops, goesOn x = false := by decide +kernel
  induction w with
  | nil =>
    rcases hr with h | h | ⟨x, r, rfl, hx⟩
    · cases h
    · subst h; rfl
    · simp [hs x hx]
  | cons x w ih =>
    simp only [List.all_cons, Bool.and_eq_true] at hw
    rw [List.cons_append, List.takeWhile_cons, if_pos hw.1, ih hw.2]
/-- a word that begins with a letter or a digit -/
theorem word_ok {k w : Str} {x : Nat} {r : Cs} (e : cs w = x :: r) (hg : r.all goesOn = true) (ha : alone w = false) (hx : x ∈ SM ∧ kindW w = k ∨ x ∉ SM ∧ x ∈ CA ∧ k = "con" ∨ x ∉ SM ∧ x ∉ CA ∧ x ∈ DI ∧ numV w = some true ∧ k = "number") : WordOk k w := by
  have g1 : ∀ y ∈ SM, goesOn y = true := by decide +kernel
  have g2 : ∀ y ∈ CA, goesOn y = true := by decide +kernel
  have g3 : ∀ y ∈ DI, goesOn y = true := by decide +kernel
  have n1 : goesOn 10 = false := by decide +kernel
  have n2 : goesOn 32 = false := by decide +kernel
  have n3 : goesOn 45 = false := by decide +kernel
  have gx : goesOn x = true := by
    rcases hx with h | h | h
    · exact g1 x h.1
    · exact g2 x h.2.1
    · exact g3 x h.2.2.1
  have ne : ∀ {y : Nat}, goesOn y = false → x ≠ y := fun h z => by rw [z, h] at gx; cases gx
  refine ⟨⟨x, r, e, ne n1, ne n2⟩, fun y hy z => ?_, fun rest ok s' q => ?_, fun rest ok => ?_⟩
  · subst z
    rw [e] at hy
    rcases List.mem_cons.mp hy with z | hy
    · exact ne n1 z.symm
    · have := List.all_eq_true.mp hg _ hy
      rw [n1] at this
      cases this
  · rw [e] at q
    exact ne n3 (List.cons.inj q).1
  · rw [ha] at ok
    have ew : wordOf (x :: (r ++ rest)) = x :: r := by
      show x :: (r ++ rest).takeWhile goesOn = x :: r
      rw [take_go hg ok]
    rw [e, List.cons_append, tokOf_cons, ew, show S (x :: r) = w by rw [← e, S_cs]]
    rcases hx with h | h | h
    · rw [if_pos h.1, h.2]
    · rw [if_neg h.1, if_pos h.2.1, h.2.2]
    · rw [if_neg h.1, if_neg h.2.1, if_pos h.2.2.1, if_pos h.2.2.2.1, h.2.2.2.2]
def wordC (k w : Str) : Bool := match cs w with
  | [] => false
  | x :: r => r.all goesOn && !alone w && (decide (x ∈ SM) && decide (kindW w = k) || (decide (x ∉ SM) && decide (x ∈ CA) && decide (k = "con") || decide (x ∉ SM) && decide (x ∉ CA) && decide (x ∈ DI) && decide (numV w = some true) && decide (k = "number")))
theorem wordC_ok {k w : Str} (h : wordC k w = true) : WordOk k w := by
  unfold wordC at h
  cases e : cs w with
  | nil => rw [e] at h; cases h
  | cons x r =>
    rw [e] at h
    simp only [Bool.and_eq_true, Bool.or_eq_true, Bool.not_eq_true', decide_eq_true_eq] at h
    obtain ⟨⟨h1, h2⟩, h3⟩ := h
    refine word_ok e h1 h2 ?_
    rcases h3 with h | h | h
    · exact .inl h
    · exact .inr (.inl ⟨h.1.1, h.1.2, h.2⟩)
    · exact .inr (.inr ⟨h.1.1.1.1, h.1.1.1.2, h.1.1.2, h.1.2, h.2⟩)
def NAMES : List Str := ["a", "x1", "go'", "a_b", "ofx", "data1", "letter", "inn", "z9'", "modx", "thenn", "note_", "ifs"]
def CONS : List Str := ["A", "Tree", "X9", "B_c'", "Of", "Let"]
def NUMS : List Str := ["0", "7", "10", "1000000000000", "999999999999", "12345", "90"]
def SIGN1 : List Str := ["=", "|", "->", "=>", "::", "\\", "+", "-", "*", "==", "<", "<=", ":"]
theorem names_ok : ∀ w ∈ NAMES, wordC "name" w = true := by decide +kernel
theorem cons_ok : ∀ w ∈ CONS, wordC "con" w = true := by decide +kernel
theorem nums_ok : ∀ w ∈ NUMS, wordC "number" w = true := by decide +kernel
theorem kws_ok : ∀ w ∈ KW, wordC "keyword" w = true := by decide +kernel
theorem find_congr {α : Type} {p q : α → Bool} : ∀ {l : List α}, (∀ x ∈ l, p x = q x) → l.find? p = l.find? q
  | [], _ => rfl
  | x :: l, h => by
    rw [List.find?_cons, List.find?_cons, h x (List.mem_cons_self ..), find_congr fun y hy => h y (List.mem_cons_of_mem _ hy)]
theorem pre_take : ∀ {g : Cs} (s : Cs), g.length ≤ 2 → g.isPrefixOf s = g.isPrefixOf (s.take 2)
  | [], _, _ => by simp
  | [_], [], _ => rfl
  | [_], [_], _ => rfl
  | [_], _ :: _ :: _, _ => by simp [List.isPrefixOf]
  | [_, _], [], _ => rfl
  | [_, _], [_], _ => rfl
  | [_, _], _ :: _ :: _, _ => by simp [List.isPrefixOf]
  | _ :: _ :: _ :: _, _, h => by simp at h
def firstSign (s : Cs) : Option Str := SG.find? fun g => (cs g).isPrefixOf s
theorem sg_short : ∀ g ∈ SG, (cs g).length ≤ 2 := by decide +kernel
theorem first_take (s : Cs) : firstSign s = firstSign (s.take 2) := find_congr fun g hg => pre_take s (sg_short g hg)
theorem take2 {l : Cs} (h : l ≠ []) (x : Nat) (r : Cs) : (l ++ x :: r).take 2 = (l ++ [x]).take 2 := by
  cases l with
  | nil => exact absurd rfl h
  | cons a l =>
    cases l with
    | nil => rfl
    | cons b l => rfl
def headC (w : Str) : Bool := match cs w with
  | [] => false
  | c :: r => decide (c ∉ SM) && decide (c ∉ CA) && decide (c ∉ DI) && decide (c ≠ 10) && decide (c ≠ 32) && (c :: r).all fun x => decide (x ≠ 10)
def signC (w : Str) : Bool := headC w && !alone w && decide (firstSign ((cs w).take 2) = some w) && decide ((cs w).take 2 ≠ [45, 45]) &&
  stops.all fun x => decide (firstSign ((cs w ++ [x]).take 2) = some w) && decide ((cs w ++ [x]).take 2 ≠ [45, 45])
theorem signs_ok : ∀ w ∈ SIGN1, signC w = true := by decide +kernel
theorem sign_tok {s : Cs} {w : Str} (h : ∃ c r, s = c :: r ∧ c ∉ SM ∧ c ∉ CA ∧ c ∉ DI) (f : firstSign s = some w) : tokOf s = some (("sign" : Str), w) := by
  obtain ⟨c, r, rfl, h1, h2, h3⟩ := h
  rw [tokOf_cons, if_neg h1, if_neg h2, if_neg h3]
  have f' : (SG.find? fun g => (cs g).isPrefixOf (c :: r)) = some w := f
  rw [f']
  rfl
theorem signC_ok {w : Str} (h : signC w = true) : WordOk "sign" w := by
  unfold signC headC at h
  cases e : cs w with
  | nil => rw [e] at h; simp at h
  | cons c r =>
    rw [e] at h
    simp only [Bool.and_eq_true, Bool.not_eq_true', decide_eq_true_eq, List.all_eq_true] at h
    obtain ⟨⟨⟨⟨⟨⟨⟨⟨⟨h1, h2⟩, h3⟩, h4⟩, h5⟩, h6⟩, ha⟩, f0⟩, n0⟩, hs⟩ := h
    have key : ∀ rest, OkR (alone w) rest → firstSign (c :: r ++ rest) = some w ∧ (c :: r ++ rest).take 2 ≠ [45, 45] := by
      intro rest ok
      rw [first_take]
      rcases ok with k | rfl | ⟨x, r', rfl, hx⟩
      · rw [ha] at k; cases k
      · rw [List.append_nil]
        exact ⟨f0, n0⟩
      · rw [take2 (by simp)]
        exact hs x hx
    refine ⟨⟨c, r, e, h4, h5⟩, by rw [e]; exact h6, fun rest ok s' q => ?_, fun rest ok => ?_⟩
    · have k := (key rest ok).2
      rw [e] at q
      rw [q] at k
      exact k rfl
    · rw [e]
      exact sign_tok ⟨c, r ++ rest, rfl, h1, h2, h3⟩ (key rest ok).1
def aloneC (w : Str) : Bool := match cs w with
  | [c] => headC w && decide (c ≠ 45) && (SG.all fun g => decide ((cs g).head? = some c → cs g = [c])) && decide ((SG.find? fun g => decide (cs g = [c])) = some w) && (SG.all fun g => decide (cs g ≠ []))
  | _ => false
theorem alones_ok : ∀ w ∈ AL, aloneC w = true := by decide +kernel
theorem aloneC_ok {w : Str} (h : aloneC w = true) : WordOk "sign" w := by
  unfold aloneC headC at h
  split at h
  · rename_i c e
    rw [e] at h
    simp only [Bool.and_eq_true, decide_eq_true_eq, List.all_eq_true] at h
    obtain ⟨⟨⟨⟨⟨⟨⟨⟨⟨h1, h2⟩, h3⟩, h4⟩, h5⟩, h6⟩, h7⟩, h8⟩, h9⟩, h10⟩ := h
    refine ⟨⟨c, [], e, h4, h5⟩, by rw [e]; exact h6, fun rest ok s' q => ?_, fun rest ok => ?_⟩
    · rw [e] at q
      exact h7 (List.cons.inj q).1
    · rw [e]
      refine sign_tok ⟨c, rest, rfl, h1, h2, h3⟩ ?_
      rw [← h9]
      refine find_congr fun g hg => ?_
      cases eg : cs g with
      | nil => exact absurd eg (h10 g hg)
      | cons y t =>
        have k := h8 g hg
        rw [eg] at k
        by_cases hy : y = c
        · subst hy
          have := k rfl
          rw [this]
          simp [List.isPrefixOf]
        · have n : ¬ (y :: t = [c]) := fun z => hy (List.cons.inj z).1
          rw [decide_eq_false n]
          simp [List.isPrefixOf, hy]
  · cases h
/-- what the law's words are -/
def WordIn (k w : Str) : Prop := (k = "name" ∧ w ∈ NAMES) ∨ (k = "con" ∧ w ∈ CONS) ∨ (k = "number" ∧ w ∈ NUMS) ∨ (k = "keyword" ∧ w ∈ KW) ∨ (k = "sign" ∧ (w ∈ SIGN1 ∨ w ∈ AL))
theorem WordIn.ok {k w : Str} (h : WordIn k w) : WordOk k w := by
  rcases h with ⟨rfl, h⟩ | ⟨rfl, h⟩ | ⟨rfl, h⟩ | ⟨rfl, h⟩ | ⟨rfl, h | h⟩
  · exact wordC_ok (names_ok w h)
  · exact wordC_ok (cons_ok w h)
  · exact wordC_ok (nums_ok w h)
  · exact wordC_ok (kws_ok w h)
  · exact signC_ok (signs_ok w h)
  · exact aloneC_ok (alones_ok w h)
theorem WordIn.short {k w : Str} (h : WordIn k w) : w.length ≤ 13 := by
  have f : ∀ l : List Str, (l.all fun w => decide (w.length ≤ 13)) = true → w ∈ l → w.length ≤ 13 := fun l q hw => of_decide_eq_true (List.all_eq_true.mp q w hw)
  rcases h with ⟨_, h⟩ | ⟨_, h⟩ | ⟨_, h⟩ | ⟨_, h⟩ | ⟨_, h | h⟩
  · exact f _ (by decide +kernel) h
  · exact f _ (by decide +kernel) h
  · exact f _ (by decide +kernel) h
  · exact f _ (by decide +kernel) h
  · exact f _ (by decide +kernel) h
  · exact f _ (by decide +kernel) h
/-! ### what the law of bad places writes -/
def GOOD : List Str := ["a", "go'", "Tree", "10", "data", "where", "->", "<=", "\\", "(", "]", ",", "x_1", "1000000000000", "0", ":"]
def kindG (w : Str) : Str := if wordC "name" w = true then "name" else if wordC "con" w = true then "con" else if wordC "number" w = true then "number" else if wordC "keyword" w = true then "keyword" else "sign"
theorem good_all : ∀ w ∈ GOOD, (wordC (kindG w) w || (decide (kindG w = "sign") && (signC w || aloneC w))) = true := by decide +kernel
theorem good_ok {w : Str} (h : w ∈ GOOD) : ∃ k, WordOk k w := by
  have q := good_all w h
  rcases Bool.or_eq_true_iff.mp q with q | q
  · exact ⟨_, wordC_ok q⟩
  · rcases Bool.or_eq_true_iff.mp (Bool.and_eq_true_iff.mp q).2 with q | q
    · exact ⟨_, signC_ok q⟩
    · exact ⟨_, aloneC_ok q⟩
theorem good_short {w : Str} (h : w ∈ GOOD) : w.length ≤ 13 := by
  have q : ∀ w ∈ GOOD, w.length ≤ 13 := by decide +kernel
  exact q w h
def BETW : List Str := [" ", "\n", "  ", "\n -- _ 01 !\n", " --\n  "]
theorem betw_ok : ∀ z ∈ BETW, bl false (cs z) = true ∧ z.length ≤ 13 ∧ (match cs z with | [] => false | x :: _ => decide (x ∈ stops)) = true := by decide +kernel
def BADC : List Str := ["_", "'", "!", "@", "#", "$", "&", "^", "~", "?", ".", "/", ">", "\"", "_a", "'x"]
def BADN : List Str := ["01", "00", "1a", "2_", "3'", "1000000000001", "99999999999999999999", "0x", "7A", "10of", "1000000000000a"]
/-- what stands behind a bad thing -/
def RestOk (rest : Cs) : Prop := rest = [] ∨ ∃ x r, rest = x :: r ∧ (x = 32 ∨ x = 10)
def badC (w : Str) : Bool := match cs w with
  | [] => false
  | c :: r => decide (c ∉ SM) && decide (c ∉ CA) && decide (c ∉ DI) && decide (c ≠ 10) && decide (c ≠ 32) && decide (c ≠ 45) && decide (firstSign ((c :: r).take 2) = none) && decide (firstSign ((c :: (r ++ [32])).take 2) = none) && decide (firstSign ((c :: (r ++ [10])).take 2) = none)
theorem badc_all : ∀ w ∈ BADC, badC w = true := by decide +kernel
def badN (w : Str) : Bool := match cs w with
  | [] => false
  | c :: r => decide (c ∉ SM) && decide (c ∉ CA) && decide (c ∈ DI) && decide (c ≠ 10) && decide (c ≠ 32) && decide (c ≠ 45) && r.all goesOn && decide (numV w = some false)
theorem badn_all : ∀ w ∈ BADN, badN w = true := by decide +kernel
theorem badc_lex {w : Str} {rest : Cs} (h : w ∈ BADC) (hr : RestOk rest) (r c : Nat) : Lex (cs w ++ rest) r c [] (some (false, r, c)) := by
  have q := badc_all w h
  unfold badC at q
  cases e : cs w with
  | nil => rw [e] at q; cases q
  | cons x t =>
    rw [e] at q
    simp only [Bool.and_eq_true, decide_eq_true_eq] at q
    obtain ⟨⟨⟨⟨⟨⟨⟨⟨h1, h2⟩, h3⟩, h4⟩, h5⟩, h6⟩, f0⟩, f1⟩, f2⟩ := q
    have key : firstSign (x :: (t ++ rest)) = none := by
      rw [first_take]
      rcases hr with rfl | ⟨y, r', rfl, rfl | rfl⟩
      · rw [List.append_nil]
        exact f0
      · rw [← List.cons_append, take2 (by simp)]
        exact f1
      · rw [← List.cons_append, take2 (by simp)]
        exact f2
    refine Lex.bad (fun s' z => h4 (List.cons.inj z).1) (fun s' z => h5 (List.cons.inj z).1) (fun s' z => h6 (List.cons.inj z).1) ?_
    rw [List.cons_append, badOf_cons, if_neg h1, if_neg h2, if_neg h3]
    exact if_pos key
theorem badn_lex {w : Str} {rest : Cs} (h : w ∈ BADN) (hr : RestOk rest) (r c : Nat) : Lex (cs w ++ rest) r c [] (some (true, r, c)) := by
  have q := badn_all w h
  unfold badN at q
  cases e : cs w with
  | nil => rw [e] at q; cases q
  | cons x t =>
    rw [e] at q
    simp only [Bool.and_eq_true, decide_eq_true_eq] at q
    obtain ⟨⟨⟨⟨⟨⟨⟨h1, h2⟩, h3⟩, h4⟩, h5⟩, h6⟩, hg⟩, hn⟩ := q
    have ok : OkR false rest := by
      rcases hr with rfl | ⟨y, r', rfl, rfl | rfl⟩
      · exact .inr (.inl rfl)
      · exact .inr (.inr ⟨_, _, rfl, by decide⟩)
      · exact .inr (.inr ⟨_, _, rfl, by decide⟩)
    have ew : wordOf (x :: (t ++ rest)) = x :: t := by
      show x :: (t ++ rest).takeWhile goesOn = x :: t
      rw [take_go hg ok]
    refine Lex.bad (fun s' z => h4 (List.cons.inj z).1) (fun s' z => h5 (List.cons.inj z).1) (fun s' z => h6 (List.cons.inj z).1) ?_
    rw [List.cons_append, badOf_cons, if_neg h1, if_neg h2, if_pos h3, ew, show S (x :: t) = w by rw [← e, S_cs], if_pos hn]
/-- the text up to here, and what is read of it -/
structure Beg (text : Cs) (n : Nat) : Prop where
  ex : ∃ ts : List Tk, ts.length = n ∧ Pre text ts true
theorem Beg.start : Beg [] 0 := ⟨[], rfl, pre_of (s := []) rfl⟩
theorem Beg.more {text : Cs} {n : Nat} {w z : Str} (B : Beg text n) (hw : w ∈ GOOD) (hz : z ∈ BETW) : Beg (text ++ cs w ++ cs z) (n + 1) := by
  obtain ⟨ts, hl, P⟩ := B.ex
  obtain ⟨k, W⟩ := good_ok hw
  obtain ⟨b, _, h0⟩ := betw_ok z hz
  have P2 := P.word W (.inl rfl)
  refine ⟨_, ?_, P2.sep b ?_⟩
  · rw [List.length_append, hl]
    rfl
  · cases e : cs z with
    | nil => rw [e] at h0; cases h0
    | cons x r => rw [e] at h0; exact ⟨x, r, rfl, of_decide_eq_true h0⟩
theorem Beg.whole {text : Cs} {n : Nat} (B : Beg text n) : ∃ ts : List Tk, ts.length = n + 1 ∧ Lex text 1 1 ts none := by
  obtain ⟨ts, hl, P⟩ := B.ex
  have q := P [] _ none (.inl rfl) Lex.done
  rw [List.append_nil] at q
  exact ⟨_, by rw [List.length_append, hl]; rfl, q⟩
theorem Beg.bad {text rest : Cs} {n : Nat} {w : Str} (B : Beg text n) (hw : w ∈ BADC ∧ k = false ∨ w ∈ BADN ∧ k = true) (hr : RestOk rest) : ∃ ts : List Tk, Lex (text ++ (cs w ++ rest)) 1 1 ts (some (k, (place text).1, (place text).2)) := by
  obtain ⟨ts, hl, P⟩ := B.ex
  rcases hw with ⟨hw, rfl⟩ | ⟨hw, rfl⟩
  · exact ⟨_, P _ _ _ (.inl rfl) (badc_lex hw hr _ _)⟩
  · exact ⟨_, P _ _ _ (.inl rfl) (badn_lex hw hr _ _)⟩
end Toy

set_option Elab.async false
set_option linter.all false
set_option maxRecDepth 100000
set_option maxHeartbeats 4000000
/-! Part X: own rules for errors: a base class's __init__ called by its class, a def that lets an error out, two clauses that name the error. -/
namespace Toy
open PySem PySem.Spec PyProof.Rows L2
section
variable {X : Cx} {o e : Expr} {es : List Expr} {ta : TA} {x : Str} {CN : Addr} {mc : Value} {p1 p2 pos : Pos}
/-- B.__init__(self, ..), B a class of the program that has ValueError's -/
theorem pe_binit {pl : Sem Bool} (hg : Gl X x) (hm : X.mg x = some (.ref CN)) (r : ClX.CRead X.K CN mc) (vV : PySem.W.findCls X.K (.ref CN) mc "__init__" = some (.val (.builtin "ValueError.__init__"))) (ha : PA X (e :: es) ta)
    (hdb : (x == ("__debug__" : Str)) = false := by decide)
    (hc : eval (.Call (.Attribute (.Name x p1) "__init__" p2) (e :: es) [] pos) X.env = (do
      let ov ← eval (.Name x p1) X.env
      standAt p2.atName
      let (f, first) ← holding [ov] (getMethod ov "__init__" pl)
      callWith pos f first (backTo pos (starEach (e :: es) X.env)) (backToKw pos (keywordEach [] X.env))) := by rfl)
    (he : starEach (e :: es) X.env = (false, eval e X.env) :: starEach es X.env := by rfl) (hpl : (backTo pos (starEach es X.env)).any (·.1) = false := by rfl) :
    PE X (.Call (.Attribute (.Name x p1) "__init__" p2) (e :: es) [] pos) (tVeI X.K ta) := by
  refine ⟨fun pins s σ H Q I h => ?_⟩
  refine PySem.W.methodCall_KW (ld_glob I hg hm ?_ hdb) hc
  refine PySem.W.method_cls I.kIn r.ga (PySem.W.cls_value I.kIn r.rd vV (by decide +kernel) ?_)
  show wpAny _ _ (callWith pos (Value.builtin "ValueError.__init__") [] (backTo pos (starEach (e :: es) X.env)) []) _ _ _
  refine PyProof.Rows.callWith_method1 (thn (ha.run pos pins _ σ H _ (I.tok _) h) fun us s1 ⟨vs, H1, I1, r1, a, C, ws, ev, hl, T, ea, q⟩ => ?_) he hpl
  subst ev
  cases r1 with
  | @cons _ u0 _ ur ra rw' =>
    obtain rfl : u0 = Value.ref a := ra
    have hlen : ur.length ≤ sizeLine := by
      rw [← Paired.length rw', sizeLine_eq]
      omega
    exact oinit_ok T I1 ea hlen fun s' J => ⟨.non, H1, J, rfl, q⟩
end
/-- a def that may let an error out, called by its name -/
structure CalX (P : Program) (w : World) (K : PySem.W.Frag) (mg : Str → Option Value) (base : Heap) (k : Nat) (x : Str) (sp : Sp) : Prop where
  ex : ∃ (f : Addr) (fd : FuncData) (ps : List Str), FnOk P w K mg base (L2.CX P w) k f fd ps sp ∧ mg x = some (.ref f) ∧ PySem.W.keepIn K (.ref f) = true ∧ Binds K fd ps []
section
variable {P : Program} {w : World} {K : PySem.W.Frag} {mg : Str → Option Value} {base : Heap}
theorem calX_of {x : Str} {st : Stmt} {f : Addr} {fd : FuncData} {N ps : List Str} {k : Nat} {sp : Sp} (F : Fun K x x st f fd) (hm : mg x = some (.ref f)) (b : Binds K fd ps []) (S : FnScope N ps (defScope st)) (len : ∀ vs H Q E, sp vs H Q E → vs.length = ps.length)
    (hbody : ∀ (cdv : Value) (A : Around) (outer : List Env) (s : Shared) (H : Hp) (vs : List V) (Q : VK) (E : XK), Room k (A.deeper (envOfC x (defScope st) s.heap.objs.size f cdv)) → sp vs H Q E →
      ∃ t, PSs (cxOf (L2.CX P w) P w K mg base N x (defScope st) f cdv A outer s H E) (defBody st) t ∧ t { nx := fun _ H' => Q .non H', rt := Q } (start N vs) H) : CalX P w K mg base (k + 1) x sp :=
  ⟨f, fd, ps, F.okX S len hbody, hm, F.kp, b⟩
end
theorem pe_cx {X : Cx} {k j : Nat} {x : Str} {sp : Sp} {W : WX} {p pos : Pos} {e : Expr} {es : List Expr} {t : TA} (c : CalX X.prog X.w X.K X.mg X.base k x sp) (hr : Room j X.A) (hk : k ≤ j) (hg : Gl X x) (tk : Takes X W) (ha : PA X (e :: es) t)
    (hdb : (x == ("__debug__" : Str)) = false := by decide) (he : starEach (e :: es) X.env = (false, eval e X.env) :: starEach es X.env := by rfl) (hpl : (backTo pos (starEach es X.env)).any (·.1) = false := by rfl) :
    PE X (.Call (.Name x p) (e :: es) [] pos) (tCallS sp (WE W) t) := by
  obtain ⟨f, fd, ps, F, hm, kp, b⟩ := c.ex
  exact pe_callS F (hr.mono hk) hg hm kp b (fun σ => passAt tk σ) ha hdb he hpl
section
variable {X : Cx} {n x1 x2 : Str} {c1 c2 : Value} {i : Nat} {body u1 u2 : List Stmt} {b1 b2 : Stmt} {np1 np2 q1 q2 pos : Pos} {tb : WX → TS} {t1 t2 : Addr → Value → Option Addr → TS} {Wout : WX}
/-- try: .. / except c1 as n: .. / except c2 as n: .. -/
theorem ps_try_as2 (hs : X.stack = X.env :: X.outer) (hf : X.env.frame = some X.env.locals) (hN : X.N.Nodup) (hi : X.N[i]? = some n) (hln : X.env.kindOf n = some .local) (hc1 : Names X x1 c1) (hc2 : Names X x2 c2) (tk : Takes X Wout)
    (hb : ∀ (W : WX) (pn : List (Addr × Obj)) (xe : Value → Shared → Prop), Takes (X.tr pn xe) W → PassesOwn (model X.prog X.w) X.A X.env xe → PSs (X.tr pn xe) body (tb W))
    (hu1 : ∀ (a : Addr) (oe : Obj) (cls : Value) (d : Option Addr) (pn : List (Addr × Obj)), Zc cls d oe → (∃ vs, oe.data = .fields vs) → PSs (X.suite a ((a, oe) :: pn)) (b1 :: u1) (t1 a cls d))
    (hu2 : ∀ (a : Addr) (oe : Obj) (cls : Value) (d : Option Addr) (pn : List (Addr × Obj)), Zc cls d oe → (∃ vs, oe.data = .fields vs) → PSs (X.suite a ((a, oe) :: pn)) (b2 :: u2) (t2 a cls d)) :
    PS X (.Try body [.ExceptHandler (some (.Name x1 np1)) (some n) (b1 :: u1) q1, .ExceptHandler (some (.Name x2 np2)) (some n) (b2 :: u2) q2] [] [] pos) (fun D σ H => tb (wAs X.K c1 i t1 (wAs X.K c2 i t2 Wout D) D) D σ H) := by
  refine ⟨fun pins s σ H D I h => ?_⟩
  have ok := I.ok
  have hfr : X.A.frames = some (X.env :: X.outer) := by rw [ok.frames, hs]
  have hloc : Loc X.env.scope n := .inl hln
  refine wpAny_Try_except ?_
  refine wpAny_mono ((hb _ (X.pn ++ pins) (fun e s₁ => wpAny (model X.prog X.w) X.A (noteFrame e X.env) (fun _ s₂ => wpAny (model X.prog X.w) X.A (setFlight e none) (fun _ s₃ =>
    wpAny (model X.prog X.w) X.A (handleBy e X.env [.ExceptHandler (some (.Name x1 np1)) (some n) (b1 :: u1) q1, .ExceptHandler (some (.Name x2 np2)) (some n) (b2 :: u2) q2]) (SP X pins D) X.xe s₃) X.xe s₂) X.xe s₁) (fun u s' air => ?_) PassesOwn.looking).run [] s σ H D (I.toTry _) h)
    (fun f s1 hsp => ?_) (fun e s1 he => he)
  · obtain ⟨a, B, sI, pins', σ', H', cls, d, rfl, J', nb, up, sky, na, os, ag, wish⟩ := air
    have J : Inv X pins σ' H' sI := J'.ofTry ok
    have sky' : Sky B (X.env :: X.outer) a (Zc cls d) X.env.locals s'.heap := by rw [← hs]; exact sky
    show wpAny (model X.prog X.w) X.A (noteFrame (.ref a) X.env) _ _ _
    refine Sky.land Zc.steady hfr hf sky' fun h3 fl3 up3 => ?_
    have J3 : Inv X pins σ' H' { s' with heap := h3 } := J.landed nb fl3.1 (up.trans up3) os ag
    obtain ⟨oe3, vs3, he3, hz3, hd3⟩ := fl3.there
    have nfr : a ∉ frs (X.env :: X.outer) := fun hm => by
      obtain ⟨_, o', e', hnf⟩ := fl3.2.2.1.mem hm
      rw [he3] at e'
      cases e'
      exact hnf _ hd3
    have nL : a ≠ X.env.locals := fun z => nfr (List.mem_filterMap.mpr ⟨X.env, List.mem_cons_self, by rw [hf, z]⟩)
    have nF : a ∉ X.fs := fun hm => by
      obtain ⟨e, he, q⟩ := List.mem_filterMap.mp hm
      exact nfr (List.mem_filterMap.mpr ⟨e, List.mem_cons_of_mem _ he, q⟩)
    have S3 := J3.suite he3 hd3 na nL nF
    -- one clause, whatever stands behind it
    have one : ∀ {x : Str} {c : Value} {ts : Addr → Value → Option Addr → TS} {b₀ : Stmt} {suite : List Stmt} {np q : Pos} {hds : List ExceptHandler} {Wn : WX}, Names X x c →
        (∀ (a : Addr) (oe : Obj) (cls : Value) (d : Option Addr) (pn : List (Addr × Obj)), Zc cls d oe → (∃ vs, oe.data = .fields vs) → PSs (X.suite a ((a, oe) :: pn)) (b₀ :: suite) (ts a cls d)) →
        wAs X.K c i ts Wn D cls d σ' H' → (Wn cls d σ' H' → wpAny (model X.prog X.w) X.A (handleBy (.ref a) X.env hds) (SP X pins D) X.xe { s' with heap := h3 }) →
        wpAny (model X.prog X.w) X.A (handleBy (.ref a) X.env (.ExceptHandler (some (.Name x np)) (some n) (b₀ :: suite) q :: hds)) (SP X pins D) X.xe { s' with heap := h3 } := by
      intro x c ts b₀ suite np q hds Wn hc hsu ⟨b, hb1, hyes, hno⟩ next
      refine wpAny_handleBy_cons (codeAny_handlers_test ?_) (by intro q; cases q)
      have LT : PySem.W.Looks (model X.prog X.w) h3 (typeOf (.ref a)) cls := fun A Q E s k q => wpAny_typeOf_ref (k _ _ he3) (by rw [hz3.1]; exact q)
      have LM := PySem.W.exm_one (M := model X.prog X.w) J3.kIn LT hb1
      have test : ∀ {Q : Value → Shared → Prop} {E : Value → Shared → Prop}, Q c { s' with heap := h3 } → wpAny (model X.prog X.w) (X.A.mark (some (.ref a))) (eval (.Name x np) X.env) Q E { s' with heap := h3 } := fun {Q E} q => by
        obtain ⟨hg, hdbg, hm | ⟨hm, hv, hnn⟩⟩ := hc
        · exact ld_glob (X := X.suite a ((a, oe3) :: (X.pn ++ pins))) S3 hg hm q hdbg
        · exact ld_blt (X := X.suite a ((a, oe3) :: (X.pn ++ pins))) S3 hg hm hv q hnn hdbg
      refine test (LM.here ?_)
      cases b with
      | false => exact next (hno rfl)
      | true =>
        refine codeAny_handlers_suite_as (HandSPX.lands_againZ fl3 fun h4 fl4 up4 => ?_)
        have J4 : Inv X pins σ' H' { s' with heap := h4 } := J.landed nb fl4.1 ((up.trans up3).trans up4) os ag
        obtain ⟨oe4, vs4, he4, hz4, hd4⟩ := fl4.there
        refine store_ok (X := X.suite a ((a, oe4) :: (X.pn ++ pins))) (v := .ref a) (J4.suite he4 hd4 na nL nF) hN hi hloc rfl (fun s5 S5 => ?_) (.inr hln)
        refine wpAny_mono ((hsu a oe4 cls d (X.pn ++ pins) hz4 ⟨_, hd4⟩).run [] s5 _ H' _ S5 (hyes rfl a na)) (fun f s6 hsp => ?_) (fun _ _ z => False.elim z)
        have leave : ∀ {σ6 : L2.St} {H6 : Hp} {Q : Shared → Prop}, Inv (X.suite a ((a, oe4) :: (X.pn ++ pins))) [] σ6 H6 s6 → (∀ s7, Inv X pins (σ6.set i none) H6 s7 → Q s7) →
            wpAny (model X.prog X.w) X.A (do bindName X.env n .none; unbindBehindTheSuite X.env n q) (fun _ s7 => Q s7) X.xe s6 := fun {σ6 H6 Q} S6 hq => gone_ok (S6.unsuite ok) hN hi hln hq
        cases f with
        | ret u =>
          obtain ⟨v6, σ6, H6, S6, r6, q6⟩ := hsp
          exact leave S6 fun s7 J7 => ⟨_, _, _, J7, r6, q6⟩
        | next =>
          obtain ⟨σ6, H6, S6, q6⟩ := hsp
          exact leave S6 fun s7 J7 => ⟨_, _, J7, q6⟩
        | brk =>
          obtain ⟨σ6, H6, S6, q6⟩ := hsp
          exact leave S6 fun s7 J7 => ⟨_, _, J7, q6⟩
        | cont =>
          obtain ⟨σ6, H6, S6, q6⟩ := hsp
          exact leave S6 fun s7 J7 => ⟨_, _, J7, q6⟩
    refine one hc1 hu1 wish fun wish2 => one hc2 hu2 wish2 fun wish3 => ?_
    -- no clause takes it
    refine wpAny_handleBy_nil ?_
    obtain ⟨k1, k2, k3, oe, vs, T, oT, ts', he, hz, hd, h1, hr⟩ := id fl3
    unfold PySem.passOn
    refine wpAny_bind (wpAny_field he hd h1 ?_)
    rw [if_neg (show ¬ ((Value.ref T == Value.none) = true) from by simp)]
    have fin : wpAny (model X.prog X.w) X.A (setFlight (.ref a) X.env.frame) (fun _ s4 => wpAny (model X.prog X.w) X.A (throw (.ref a) : Sem Flow) (SP X pins D) X.xe s4) X.xe { s' with heap := h3 } := by
      rw [hf]
      refine HandSPX.setFlight_upZ fl3 fun h4 hh4 up4 => wpAny_throw (tk _ _ ?_)
      exact ⟨a, B, sI, pins, σ', H', cls, d, rfl, J, nb, (up.trans up3).trans up4, .inr (.inr (by rw [hs]; exact hh4)), na, os, ag, wish3⟩
    first
      | exact wpAny_bind (wpAny_pure (wpAny_bind fin))
      | exact wpAny_bind fin
  · cases f with
    | next =>
      obtain ⟨σ', H', J', q⟩ := hsp
      exact wpAny_execs_nil ⟨σ', H', J'.ofTry ok, q⟩
    | brk =>
      obtain ⟨σ', H', J', q⟩ := hsp
      exact ⟨σ', H', J'.ofTry ok, q⟩
    | cont =>
      obtain ⟨σ', H', J', q⟩ := hsp
      exact ⟨σ', H', J'.ofTry ok, q⟩
    | ret u =>
      obtain ⟨v, σ', H', J', r, q⟩ := hsp
      exact ⟨v, σ', H', J'.ofTry ok, r, q⟩
end

/-! ### isinstance(e, c), e the error that the suite holds, with its dict -/
def rIsX (K : PySem.W.Frag) (a : Addr) (cls : Value) (d : Option Addr) : List V → Hp → VK → Prop := fun xs H Q => ∃ (D dd : Addr) (fs : List (Str × V)) (c : V) (cv : Value) (b : Bool), xs = [.ref a, c] ∧ cls = .ref D ∧ ExcC K D ∧ d = some dd ∧ H dd = some (.xd fs) ∧
  (∀ u, RelV c u → u = cv) ∧ PySem.W.kitOne K (.ref D) cv = some b ∧ Q (.bl b) H
theorem call_isX {X : Cx} {a : Addr} {oe : Obj} {cls : Value} {d : Option Addr} {pn : List (Addr × Obj)} (hz : Zc cls d oe) (hf : ∃ vs, oe.data = .fields vs) : CallR (X.suite a ((a, oe) :: pn)) (.builtin "isinstance") (rIsX X.K a cls d) := by
  intro pins s σ H xs us Q I r h
  obtain ⟨D, dd, fs, c, cv, b, rfl, rfl, C, rfl, ea, hcv, e, q⟩ := h
  cases r with
  | cons rx rr =>
    cases rr with
    | cons rt rr =>
      cases rr
      cases rx
      have ec := hcv _ rt
      subst ec
      obtain ⟨hget, _⟩ := I.pin (a, oe) (List.mem_append.mpr (.inl List.mem_cons_self))
      obtain ⟨vs, hv⟩ := hf
      have hx : ObjOk X.prog X.w H s.heap dd (.xd fs) := I.hok dd _ ea
      obtain ⟨mA, hns, hr⟩ := hx
      obtain ⟨od, ho, hl⟩ := lookIn_ns hns
      have J : PySem.W.InstAt s.heap a oe D (some od) := ⟨hget, hz.1, by unfold PySem.W.notCls; rw [hv] <;> rfl, by rw [hz.2]; exact ho⟩
      have hcl : (PySem.W.clsIn X.K D).isSome = true := by
        obtain ⟨cd, hc, _⟩ := PySem.W.any_some C.hd
        rw [hc] <;> rfl
      exact PySem.W.kia_one (PySem.W.kitx_exc hcl C.hg C.hk C.hs C.ha C.hn C.ht C.hm) I.kIn J e (fun z => nomatch z) fun tk => ⟨.bl b, H, I.kept (t' := tk) fun _ _ z => z, rfl, q⟩
end Toy

set_option Elab.async false
set_option maxRecDepth 100000
set_option maxHeartbeats 4000000
/-! Part C: the program's own defs. -/
namespace Toy
open PySem L2
open PyProof.Rows (envOfC)
section
variable {P : Program} {w : World} {K : PySem.W.Frag} {mg : Str → Option Value} {base : Heap} {aK aS : Addr}
theorem sign_at {z : Str} {i : Nat} {c : Nat} (h : (cs z)[i]? = some c) : atI (cs z) (i : Int) = some c := atI_nat h
theorem sgn (c : Nat) : (⟨#[c]⟩ : Str) = S [c] := rfl
theorem sgn_eq {c d : Nat} : decide (V.str (S [c]) = V.str (S [d])) = decide (c = d) := by
  by_cases e : c = d
  · rw [e, decide_eq_true rfl, decide_eq_true rfl]
  · rw [decide_eq_false e, decide_eq_false]
    intro z
    have z2 : cs (S [c]) = cs (S [d]) := congrArg cs (V.str.inj z)
    exact e (List.cons.inj z2).1
theorem occ_stay (x y : Str) (hi limit : Nat) : ∀ (l : List Nat) (st : Array Nat × Nat), limit ≤ st.fst.size → (forIn l st (PySem.StrLaws.occBody x y hi limit)).run.fst = st.fst
  | [], st, h => rfl
  | a :: l, st, h => by
    rw [List.forIn_cons]
    unfold PySem.StrLaws.occBody
    rw [if_neg (fun k => by have := k.1.1.1; omega)]
    exact occ_stay x y hi limit l _ h
theorem occ_run (x : Str) (c lo : Nat) : ∀ (n a : Nat), lo ≤ a →
    (∃ k, (forIn (List.range' a n) ((#[] : Array Nat), lo) (PySem.StrLaws.occBody x ⟨#[c]⟩ x.length 1)).run.fst = #[k] ∧ a ≤ k ∧ (cs x)[k]? = some c ∧ ∀ j, a ≤ j → j < k → (cs x)[j]? ≠ some c) ∨
    ((forIn (List.range' a n) ((#[] : Array Nat), lo) (PySem.StrLaws.occBody x ⟨#[c]⟩ x.length 1)).run.fst = #[] ∧ ∀ j, a ≤ j → j < a + n → (cs x)[j]? ≠ some c)
  | 0, a, _ => .inr ⟨rfl, fun j h1 h2 => by omega⟩
  | n + 1, a, ha => by
    rw [List.range'_succ, List.forIn_cons]
    unfold PySem.StrLaws.occBody
    have q := PySem.StrLaws.subAt_one x c a
    by_cases h : (cs x)[a]? = some c
    · obtain ⟨q1, q2⟩ := q.mpr h
      rw [if_pos ⟨⟨⟨by simp, ha⟩, q1⟩, q2⟩]
      refine .inl ⟨a, ?_, Nat.le_refl _, h, fun j h1 h2 => by omega⟩
      exact occ_stay x ⟨#[c]⟩ x.length 1 _ _ (by simp)
    · rw [if_neg (fun k => h (q.mp ⟨k.1.2, k.2⟩))]
      rcases occ_run x c lo n (a + 1) (by omega) with ⟨k, e, h1, h2, h3⟩ | ⟨e, h1⟩
      · refine .inl ⟨k, e, by omega, h2, fun j h4 h5 => ?_⟩
        by_cases hj : j = a
        · subst hj; exact h
        · exact h3 j (by omega) h5
      · refine .inr ⟨e, fun j h4 h5 => ?_⟩
        by_cases hj : j = a
        · subst hj; exact h
        · exact h1 j (by omega) (by omega)
theorem find3_spec (x : Str) (c i : Nat) (hi : i ≤ x.length) :
    (∃ k : Nat, Txt.find3 x ⟨#[c]⟩ (i : Int) = (k : Int) ∧ i ≤ k ∧ (cs x)[k]? = some c ∧ ∀ j, i ≤ j → j < k → (cs x)[j]? ≠ some c) ∨
    (Txt.find3 x ⟨#[c]⟩ (i : Int) = -1 ∧ ∀ j, i ≤ j → (cs x)[j]? ≠ some c) := by
  have e : fromIndex x.length (i : Int) = i := by
    unfold fromIndex
    rw [if_neg (by omega)]
    omega
  unfold Txt.find3
  rw [e, PySem.StrLaws.occ_eq]
  rcases occ_run x c i (x.length + 1 - i) i (Nat.le_refl _) with ⟨k, q, h⟩ | ⟨q, h⟩
  · rw [q]
    exact .inl ⟨k, rfl, h⟩
  · rw [q]
    refine .inr ⟨rfl, fun j h1 h2 => ?_⟩
    by_cases hj : j < i + (x.length + 1 - i)
    · exact h j h1 hj h2
    · obtain ⟨hl, _⟩ := List.getElem?_eq_some_iff.mp h2
      have : x.length = (cs x).length := rfl
      omega
/-- a loop over the signs of a text -/
theorem for_str {x : Str} {g : TG} {tb : TS} {D : Ends} {σ : St} {H : Hp} (Pv : Nat → St → Hp → Prop) (h0 : Pv 0 σ H)
    (hs : ∀ i c σ H, (cs x)[i]? = some c → Pv i σ H → g (.str ⟨#[c]⟩) σ H fun σ2 H2 => tb { D with nx := Pv (i + 1), ct := Pv (i + 1), bk := D.nx } σ2 H2) (hd : ∀ σ H, Pv x.cps.size σ H → D.nx σ H) :
    ∃ W : Nat → Nat → St → Hp → Prop, (∃ m, W 0 m σ H) ∧ ∀ i m σ H, W i m σ H →
      ((Its x).stop i H ∧ D.nx σ H) ∨ ((Its x).go i H ∧ ∃ N : St → Hp → Prop, (∀ σ' H', N σ' H' → ∃ m', m' < m ∧ W (i + 1) m' σ' H') ∧ ∀ y H', (Its x).yld i H y H' → g y σ H' fun σ2 H2 => tb { D with nx := N, ct := N, bk := D.nx } σ2 H2) := by
  refine ⟨fun i m σ H => m = x.cps.size - i ∧ i ≤ x.cps.size ∧ Pv i σ H, ⟨x.cps.size, by simp, Nat.zero_le _, h0⟩, ?_⟩
  rintro i m σ H ⟨rfl, hi, p⟩
  by_cases hlt : i < x.cps.size
  · refine .inr ⟨hlt, Pv (i + 1), fun σ' H' p' => ⟨x.cps.size - (i + 1), by omega, rfl, hlt, p'⟩, fun y H' q => ?_⟩
    obtain ⟨e, c, hc, rfl⟩ := q
    subst e
    exact hs i c σ _ (by rw [show cs x = x.cps.toList from rfl, Array.getElem?_toList]; exact hc) p
  · have e : i = x.cps.size := by omega
    subst e
    exact .inl ⟨Nat.le_refl _, hd σ H p⟩
abbrev sGoesOn : Stmt := topS 18
theorem scGoesOn : FnScope ["letter"] ["letter"] (defScope sGoesOn) := ⟨rfl, rfl, rfl, by decide +kernel, rfl, by decide +kernel, by decide +kernel⟩
def spGoesOn : Sp := fun vs H Q _ => ∃ c : Nat, vs = [.str ⟨#[c]⟩] ∧ Q (.bl (goesOn c)) H
theorem c_goesOn {f : Addr} {fd : FuncData} (T : Txt K mg aK aS) (F : Fun K "_goes_on" "_goes_on" sGoesOn f fd) (b : Binds K fd ["letter"] []) (hm : mg "_goes_on" = some (.ref f)) : C8.Cal P w K mg base 1 "_goes_on" spGoesOn [] := by
  refine cal_of F hm b scGoesOn (fun vs H Q E h => ?_) (fun cdv A outer s H vs Q E hr h => ?_)
  · obtain ⟨c, rfl, _⟩ := h
    rfl
  obtain ⟨c, rfl, q⟩ := h
  refine ⟨_, (pss_one (ps_ret (pe_or (pe_cmpR op_in_sign (pv 0) (C8.pe_gc rfl T.gSMALL_LETTERS) rfl) (pe_or (pe_cmpR op_in_sign (pv 0) (C8.pe_gc rfl T.gCAPITAL_LETTERS) rfl) (pe_or (pe_cmpR op_in_sign (pv 0) (C8.pe_gc rfl T.gDIGITS) rfl) (pe_one (pe_cmpR op_in_sign (pv 0) (C8.pe_gc rfl T.gMARKS) rfl))))))), ?_⟩
  have q' : Q (.bl (decide (c ∈ SM) || (decide (c ∈ CA) || (decide (c ∈ DI) || decide (c ∈ MA))))) H := q
  refine ⟨_, rfl, c, _, rfl, rfl, _, rfl, ?_⟩
  refine ite2 (fun h1 => ?_) (fun h1 => ?_)
  · rw [show decide (c ∈ SM) = true from h1] at q'
    exact q'
  · rw [show decide (c ∈ SM) = false from Bool.eq_false_iff.mpr h1, Bool.false_or] at q'
    refine ⟨_, rfl, c, _, rfl, rfl, _, rfl, ?_⟩
    refine ite2 (fun h1 => ?_) (fun h1 => ?_)
    · rw [show decide (c ∈ CA) = true from h1] at q'
      exact q'
    · rw [show decide (c ∈ CA) = false from Bool.eq_false_iff.mpr h1, Bool.false_or] at q'
      refine ⟨_, rfl, c, _, rfl, rfl, _, rfl, ?_⟩
      refine ite2 (fun h1 => ?_) (fun h1 => ?_)
      · rw [show decide (c ∈ DI) = true from h1] at q'
        exact q'
      · rw [show decide (c ∈ DI) = false from Bool.eq_false_iff.mpr h1, Bool.false_or] at q'
        exact ⟨_, rfl, c, _, rfl, rfl, q'⟩
/-! ### a word -/
abbrev sWordAt : Stmt := topS 17
theorem scWordAt : FnScope ["text", "at", "end"] ["text", "at"] (defScope sWordAt) := ⟨rfl, rfl, rfl, by decide +kernel, rfl, by decide +kernel, by decide +kernel⟩
def spWordAt : Sp := fun vs H Q _ => ∃ (z : Str) (i : Nat), vs = [.str z, .int (i : Int)] ∧ i < z.length ∧ z.length ≤ 100000 ∧ Q (.str (S (wordOf ((cs z).drop i)))) H
theorem take_while_at {l : Cs} {j : Nat} (h1 : ∀ x ∈ l.take j, goesOn x = true) (h2 : l.length ≤ j ∨ ∃ x, l[j]? = some x ∧ goesOn x = false) : l.takeWhile goesOn = l.take j := by
  induction l generalizing j with
  | nil => simp
  | cons a l ih =>
    cases j with
    | zero =>
      rcases h2 with h2 | ⟨x, h2, h3⟩
      · simp at h2
      · simp at h2
        subst h2
        simp [h3]
    | succ j =>
      have ha : goesOn a = true := h1 a (by simp)
      rw [List.takeWhile_cons, if_pos ha, List.take_succ_cons, ih (j := j) (fun x hx => h1 x (by simp [hx])) (by simpa using h2)]
theorem c_wordAt {f : Addr} {fd : FuncData} (T : Txt K mg aK aS) (c_goes_on : C8.Cal P w K mg base 1 "_goes_on" spGoesOn []) (F : Fun K "_word_at" "_word_at" sWordAt f fd) (b : Binds K fd ["text", "at"] []) (hm : mg "_word_at" = some (.ref f)) : C8.Cal P w K mg base 2 "_word_at" spWordAt [] := by
  refine cal_of F hm b scWordAt (fun vs H Q E h => ?_) (fun cdv A outer s H vs Q E hr h => ?_)
  · obtain ⟨z, i, rfl, _⟩ := h
    rfl
  obtain ⟨z, i, rfl, hi, hz, q⟩ := h
  have hzl : z.length ≤ sizeLine := Nat.le_of_lt (szl hz)
  refine ⟨_, (pss_cons (ps_set (i := 2) scWordAt.nd rfl (Or.inl rfl) (pe_op op_add (pv 1) pe_int))
    (pss_cons (ps_while PassesOwn.never (PW.pt (pw_and (pt_cmpR op_lt (pv 2) (pe_callB call_len_str rfl T.zlen PySem.boot_len (pa_cons (pv 0) pa_nil)) (nomark _)) (pw_and1 (pt_val (C8.pe_c c_goes_on hr (by decide) rfl (pa_cons (pe_ix ix_str (pv 0) (pv 2) (fun _ _ => rfl)) pa_nil))))))
      (pss_one (ps_aug (i := 2) scWordAt.nd rfl (Or.inl rfl) pe_int ip_add)))
    (pss_one (ps_ret (pe_slice C8.sl_txt (pv 0) (po_some (pv 1)) (po_some (pv 2))))))), ?_⟩
  refine ⟨_, rfl, _, _, rfl, rfl, (fun m σ H2 => H2 = H ∧ ∃ j : Nat, m = z.length - (i + 1 + j) ∧ σ = [some (.str z), some (.int (i : Int)), some (.int (((i + 1 + j : Nat) : Int)))] ∧ i + 1 + j ≤ z.length ∧ ∀ x ∈ ((cs z).drop (i + 1)).take j, goesOn x = true),
    ⟨_, rfl, 0, rfl, rfl, by omega, by simp⟩, ?_⟩
  · rintro m σ H2 ⟨rfl, j, rfl, rfl, hj, hg⟩
    refine ⟨_, rfl, _, rfl, z, rfl, hzl, _, _, rfl, rfl, _, rfl, ?_⟩
    have fin : (((cs z).drop (i + 1)).length ≤ j ∨ ∃ x, ((cs z).drop (i + 1))[j]? = some x ∧ goesOn x = false) → Q (.str (Txt.slice z (some (i : Int)) (some ((i + 1 + j : Nat) : Int)))) H2 := fun h2 => by
      have e : S (wordOf ((cs z).drop i)) = Txt.slice z (some (i : Int)) (some ((i + 1 + j : Nat) : Int)) := by
        refine str_ext ?_
        show wordOf ((cs z).drop i) = _
        have e3 : (Txt.slice z (some (i : Int)) (some ((i + 1 + j : Nat) : Int))).cps.toList = ((cs z).drop i).take (i + 1 + j - i) := PySem.W.os_slice (by omega) hj
        rw [show cs (Txt.slice z (some (i : Int)) (some ((i + 1 + j : Nat) : Int))) = ((cs z).drop i).take (i + 1 + j - i) from e3]
        have hi' : i < (cs z).length := hi
        rw [List.drop_eq_getElem_cons hi', show i + 1 + j - i = j + 1 by omega, List.take_succ_cons]
        show _ :: ((cs z).drop (i + 1)).takeWhile goesOn = _
        rw [take_while_at hg h2]
      rw [← e]
      exact q
    refine ite2 (fun c => ?_) (fun c => ?_)
    · have c' : ((i + 1 + j : Nat) : Int) < (z.length : Int) := of_decide_eq_true c
      have hj' : i + 1 + j < (cs z).length := by
        have : z.length = (cs z).length := rfl
        omega
      refine ⟨_, rfl, _, rfl, z, _, (cs z)[i + 1 + j], rfl, rfl, hzl, sign_at (List.getElem?_eq_getElem hj'), _, rfl, _, rfl, ?_⟩
      have ej : ((cs z).drop (i + 1))[j]? = some (cs z)[i + 1 + j] := by rw [List.getElem?_drop, List.getElem?_eq_getElem hj']
      cases hgo : goesOn (cs z)[i + 1 + j] with
      | true =>
        refine iteT ⟨_, fun _ _ h => h, ?_⟩
        have hzc : z.length = (cs z).length := rfl
        refine ⟨_, rfl, _, _, rfl, rfl, z.length - (i + 1 + (j + 1)), by omega, rfl, j + 1, rfl, rfl, by omega, ?_⟩
        intro x hx
        rw [List.take_add_one, ej] at hx
        rcases List.mem_append.mp hx with hx | hx
        · exact hg x hx
        · simp at hx
          rw [hx]; exact hgo
      | false =>
        refine iteF ?_
        exact ⟨_, rfl, _, rfl, _, rfl, _, rfl, _, rfl, z, rfl, hzl, fin (.inr ⟨_, ej, hgo⟩)⟩
    · have c' : ¬ ((i + 1 + j : Nat) : Int) < (z.length : Int) := of_decide_eq_false (Bool.eq_false_iff.mpr c)
      refine iteF ?_
      refine ⟨_, rfl, _, rfl, _, rfl, _, rfl, _, rfl, z, rfl, hzl, fin (.inl ?_)⟩
      rw [List.length_drop]
      have : z.length = (cs z).length := rfl
      omega
/-! ### is a word a number -/
abbrev sIsNumber : Stmt := topS 19
theorem scIsNumber : FnScope ["word", "letter"] ["word"] (defScope sIsNumber) := ⟨rfl, rfl, rfl, by decide +kernel, rfl, by decide +kernel, by decide +kernel⟩
def spIsNumber : Sp := fun vs H Q _ => ∃ (z : Str) (v : Bool), vs = [.str z] ∧ 0 < z.length ∧ z.length ≤ 100000 ∧ numV z = some v ∧ Q (.bl v) H
theorem c_isNumber {f : Addr} {fd : FuncData} (T : Txt K mg aK aS) (F : Fun K "_is_number" "_is_number" sIsNumber f fd) (b : Binds K fd ["word"] []) (hm : mg "_is_number" = some (.ref f)) : C8.Cal P w K mg base 1 "_is_number" spIsNumber [] := by
  refine cal_of F hm b scIsNumber (fun vs H Q E h => ?_) (fun cdv A outer s H vs Q E hr h => ?_)
  · obtain ⟨z, v, rfl, _⟩ := h
    rfl
  obtain ⟨z, v, rfl, h0, hz, hv, q⟩ := h
  have hzl : z.length ≤ sizeLine := Nat.le_of_lt (szl hz)
  have hzc : z.length = (cs z).length := rfl
  unfold numV at hv
  refine ⟨_, (C8.pss_cut (ps_if (PW.pt (pw_or (pt_cmpR op_gt (pe_callB call_len_str rfl T.zlen PySem.boot_len (pa_cons (pv 0) pa_nil)) (C8.pe_gc rfl T.gMOST_DIGITS) (nomark _)) (pw_or1 (PW.pt (pw_and (pt_cmpR op_eq (pe_ix ix_str (pv 0) pe_int (fun _ _ => rfl)) pe_str (nomark _)) (pw_and1 (pt_cmpR op_gt (pe_callB call_len_str rfl T.zlen PySem.boot_len (pa_cons (pv 0) pa_nil)) pe_int (nomark _))))))))
      (pss_one (ps_ret pe_bl))
      pss_nil)
    (pss_cons (ps_for PassesOwn.never rfl (pi_str (pv 0)) (pg_name (i := 1) scIsNumber.nd rfl (Or.inl rfl))
      (pss_one (ps_if (pt_cmpR op_notIn_sign (pv 1) (C8.pe_gc rfl T.gDIGITS) rfl)
      (pss_one (ps_ret pe_bl))
      pss_nil)))
    (pss_one (ps_ret (pe_cmpR op_le (pe_callTy call_int_str rfl T.zint boot_int (pa_cons (pv 0) pa_nil)) (C8.pe_gc rfl T.gLARGEST_NUMBER) (nomark _)))))), ?_⟩
  -- the first test is passed just if numV's is not
  refine ⟨fun σ' H' => σ' = [some (.str z), none] ∧ H' = H ∧ ¬ (13 < z.length ∨ ((cs z).head? = some 48 ∧ 1 < z.length)), ?_, ?_⟩
  · refine ⟨_, rfl, z, rfl, hzl, _, _, rfl, rfl, _, rfl, ?_⟩
    refine ite2 (fun c => ?_) (fun c => ?_)
    · have c' : (13 : Int) < (z.length : Int) := of_decide_eq_true c
      rw [if_pos (.inl (by omega))] at hv
      cases hv
      exact iteT q
    · have c' : ¬ (13 : Int) < (z.length : Int) := of_decide_eq_false (Bool.eq_false_iff.mpr c)
      obtain ⟨d, hd⟩ : ∃ d, (cs z)[0]? = some d := ⟨(cs z)[0], List.getElem?_eq_getElem (by omega)⟩
      have hh : (cs z).head? = some d := by rw [List.head?_eq_getElem?]; exact hd
      refine ⟨_, rfl, z, _, d, rfl, rfl, hzl, sign_at (i := 0) hd, rfl, _, rfl, ?_⟩
      have e48 : decide (V.str (⟨#[d]⟩ : Str) = V.str ("0" : Str)) = decide (d = 48) := sgn_eq (c := d) (d := 48)
      rw [e48]
      refine ite2 (fun c2 => ?_) (fun c2 => ?_)
      · have c2' : d = 48 := of_decide_eq_true c2
        refine ⟨_, rfl, z, rfl, hzl, _, _, rfl, rfl, _, rfl, ?_⟩
        refine ite2 (fun c3 => ?_) (fun c3 => ?_)
        · have c3' : (1 : Int) < (z.length : Int) := of_decide_eq_true c3
          rw [if_pos (.inr ⟨by rw [hh, c2'], by omega⟩)] at hv
          cases hv
          exact q
        · have c3' : ¬ (1 : Int) < (z.length : Int) := of_decide_eq_false (Bool.eq_false_iff.mpr c3)
          exact ⟨rfl, rfl, fun k => by rcases k with k | ⟨_, k⟩ <;> omega⟩
      · have c2' : ¬ d = 48 := of_decide_eq_false (Bool.eq_false_iff.mpr c2)
        refine iteF ⟨rfl, rfl, fun k => ?_⟩
        rcases k with k | ⟨k, _⟩
        · omega
        · rw [hh] at k
          exact c2' (Option.some.inj k)
  · rintro σ' H' ⟨rfl, rfl, hn⟩
    rw [if_neg hn] at hv
    refine ⟨_, rfl, z, rfl, for_str (x := z) (fun i σ H2 => H2 = H' ∧ (∃ l, σ = [some (.str z), l]) ∧ ∀ x ∈ (cs z).take i, x ∈ DI) ⟨rfl, ⟨none, rfl⟩, by simp⟩ ?_ ?_⟩
    · rintro i c σ H2 hc ⟨rfl, ⟨l, rfl⟩, hg⟩
      refine ⟨_, rfl, c, _, rfl, rfl, _, rfl, ?_⟩
      by_cases hd : c ∈ DI
      · rw [show decide (c ∈ ("0123456789" : Str).cps.toList) = true from decide_eq_true hd]
        refine iteF ⟨rfl, ⟨_, rfl⟩, fun x hx => ?_⟩
        rw [List.take_add_one, hc] at hx
        rcases List.mem_append.mp hx with hx | hx
        · exact hg x hx
        · simp at hx
          rw [hx]; exact hd
      · rw [show decide (c ∈ ("0123456789" : Str).cps.toList) = false from decide_eq_false hd]
        refine iteT ?_
        have na : ¬ ((cs z).all fun c => decide (c ∈ DI)) = true := fun k => hd (of_decide_eq_true (List.all_eq_true.mp k c (List.mem_of_getElem? hc)))
        rw [if_neg na] at hv
        cases hv
        exact q
    · rintro σ H2 ⟨rfl, ⟨l, rfl⟩, hg⟩
      have hsz : z.cps.size = (cs z).length := rfl
      rw [hsz, List.take_length] at hg
      have ya : ((cs z).all fun c => decide (c ∈ DI)) = true := List.all_eq_true.mpr fun x hx => decide_eq_true (hg x hx)
      rw [if_pos ya] at hv
      cases hn2 : PySem.intText? z with
      | none => rw [hn2] at hv; cases hv
      | some n =>
        rw [hn2] at hv
        have e : v = decide (n ≤ 1000000000000) := (Option.some.inj hv).symm
        refine ⟨_, rfl, z, n, rfl, hn2, by omega, _, _, rfl, rfl, ?_⟩
        rw [e] at q
        exact q
/-! ### the end of a comment -/
abbrev sCommentEnd : Stmt := topS 15
theorem scCommentEnd : FnScope ["text", "at", "end"] ["text", "at"] (defScope sCommentEnd) := ⟨rfl, rfl, rfl, by decide +kernel, rfl, by decide +kernel, by decide +kernel⟩
def spCommentEnd : Sp := fun vs H Q _ => ∃ (z : Str) (i : Nat), vs = [.str z, .int (i : Int)] ∧ i ≤ z.length ∧ z.length ≤ 100000 ∧
  ∀ e : Nat, i ≤ e → (e = z.length ∨ (cs z)[e]? = some 10) → (∀ j, i ≤ j → j < e → (cs z)[j]? ≠ some 10) → Q (.int (e : Int)) H
theorem c_commentEnd {f : Addr} {fd : FuncData} (T : Txt K mg aK aS) (F : Fun K "_comment_end" "_comment_end" sCommentEnd f fd) (b : Binds K fd ["text", "at"] []) (hm : mg "_comment_end" = some (.ref f)) : C8.Cal P w K mg base 1 "_comment_end" spCommentEnd [] := by
  refine cal_of F hm b scCommentEnd (fun vs H Q E h => ?_) (fun cdv A outer s H vs Q E hr h => ?_)
  · obtain ⟨z, i, rfl, _⟩ := h
    rfl
  obtain ⟨z, i, rfl, hi, hz, q⟩ := h
  have hzl : z.length ≤ sizeLine := Nat.le_of_lt (szl hz)
  refine ⟨_, (pss_cons (ps_set (i := 2) scCommentEnd.nd rfl (Or.inl rfl) (pe_bm PySem.F.plainAttrs_str PySem.F.slot_str_find PySem.F.type_str_find mt_find3 (pv 0) (pa_cons pe_str (pa_cons (pv 1) pa_nil))))
    (pss_one (ps_ret (pe_ifExp (pt_cmpR op_lt (pv 2) pe_int (nomark _)) (pe_callB call_len_str rfl T.zlen PySem.boot_len (pa_cons (pv 0) pa_nil)) (pv 2))))), ?_⟩
  refine ⟨_, rfl, rfl, _, rfl, z, _, _, rfl, rfl, ?_⟩
  rcases find3_spec z 10 i hi with ⟨k, e, h1, h2, h3⟩ | ⟨e, h1⟩
  · have e' : Txt.find3 z ("\n" : Str) (i : Int) = (k : Int) := e
    refine ⟨_, rfl, _, _, rfl, rfl, _, rfl, ?_⟩
    rw [e']
    rw [decide_eq_false (show ¬ (k : Int) < 0 by omega)]
    exact iteF ⟨_, rfl, q k h1 (.inr h2) h3⟩
  · have e' : Txt.find3 z ("\n" : Str) (i : Int) = -1 := e
    refine ⟨_, rfl, _, _, rfl, rfl, _, rfl, ?_⟩
    rw [e']
    exact iteT ⟨_, rfl, z, rfl, hzl, q z.length hi (.inl rfl) fun j h2 _ => h1 j h2⟩
/-! ### a token -/
theorem inV_strs (x : Str) : ∀ l : List Str, inV (.str x) (l.map V.str) = decide (x ∈ l)
  | [] => by simp [inV]
  | y :: l => by
    have ih := inV_strs x l
    have e : inV (.str x) ((y :: l).map V.str) = (eqV (.str y) (.str x) || inV (.str x) (l.map V.str)) := by simp [inV]
    rw [e, ih]
    by_cases h : x = y
    · subst h
      simp [eqV]
    · have h' : ¬ y = x := fun z => h z.symm
      simp [eqV, h, h']
theorem strs_flat : ∀ l : List Str, (l.map V.str).all flatV = true
  | [] => rfl
  | y :: l => by
    rw [List.map_cons, List.all_cons, strs_flat l]
    rfl
theorem starts_eq (z g : Str) (i : Nat) (hi : i ≤ z.length) : Txt.startswith3 z g (i : Int) = (cs g).isPrefixOf ((cs z).drop i) := by
  have e : fromIndex z.length (i : Int) = i := by
    unfold fromIndex
    rw [if_neg (by omega)]
    omega
  unfold Txt.startswith3
  rw [e, PySem.StrLaws.subAt_eq]
  have lz : z.length = (cs z).length := rfl
  have lg : g.length = (cs g).length := rfl
  rw [lz, lg]
  show (decide (i + (cs g).length ≤ (cs z).length) && (((cs z).drop i).take (cs g).length == cs g)) = _
  cases hp : (cs g).isPrefixOf ((cs z).drop i) with
  | true =>
    have hp' := List.isPrefixOf_iff_prefix.mp hp
    have h1 := hp'.length_le
    have h2 := List.prefix_iff_eq_take.mp hp'
    rw [List.length_drop] at h1
    rw [← h2, beq_self_eq_true, Bool.and_true]
    exact decide_eq_true (by omega)
  | false =>
    have hn : ¬ (cs g) <+: ((cs z).drop i) := fun k => by rw [List.isPrefixOf_iff_prefix.mpr k] at hp; cases hp
    rw [Bool.and_eq_false_iff]
    right
    refine beq_eq_false_iff_ne.mpr fun k => hn ?_
    rw [← k]
    exact List.take_prefix _ _
theorem find_at {α : Type} {p : α → Bool} : ∀ {l : List α} {i : Nat} {g : α}, l[i]? = some g → p g = true → (∀ x ∈ l.take i, p x = false) → l.find? p = some g
  | [], _, _, h, _, _ => by simp at h
  | a :: l, 0, g, h, hp, _ => by
    simp at h
    subst h
    rw [List.find?_cons, hp]
  | a :: l, i + 1, g, h, hp, hn => by
    rw [List.find?_cons, hn a (by simp)]
    exact find_at (by simpa using h) hp fun x hx => hn x (by simp [hx])
abbrev sTokenAt : Stmt := topS 16
theorem scTokenAt : FnScope ["text", "at", "row", "column", "letter", "word", "sign"] ["text", "at", "row", "column"] (defScope sTokenAt) := ⟨rfl, rfl, rfl, by decide +kernel, rfl, by decide +kernel, by decide +kernel⟩
def tkV (t : Tk) : List V := [.str t.1, .str t.2.1, .int (t.2.2.1 : Int), .int (t.2.2.2 : Int)]
/-! ### the errors -/
/-- what the top has written of the errors -/
structure Err (K : PySem.W.Frag) (mg : Str → Option Value) (CE CT CB CN fI : Addr) : Prop where
  gE : mg "NeedError" = some (.ref CE)
  rE : ClX.CRead K CE (.type "type")
  vE : PySem.W.findCls K (.ref CE) (.type "type") "__init__" = some (.val (.builtin "ValueError.__init__"))
  gT : mg "TextError" = some (.ref CT)
  gB : mg "BadCharacter" = some (.ref CB)
  gN : mg "BadNumber" = some (.ref CN)
  oB : OexC K CB
  oN : OexC K CN
  iB : PySem.W.findIn K (.ref CB) "__init__" = some (some (.ref fI))
  iN : PySem.W.findIn K (.ref CN) "__init__" = some (some (.ref fI))
  tI : PySem.W.typeIn K (.ref fI) = some (.type "function")
  rowB : PySem.W.findIn K (.ref CB) "row" = some none
  colB : PySem.W.findIn K (.ref CB) "column" = some none
  rowN : PySem.W.findIn K (.ref CN) "row" = some none
  colN : PySem.W.findIn K (.ref CN) "column" = some none
  xB : XfC K CB
  xN : XfC K CN
  eB : ExcC K CB
  eN : ExcC K CN
  BB : PySem.W.exmOne K (.ref CB) (.ref CB) = some true
  NB : PySem.W.exmOne K (.ref CN) (.ref CB) = some false
  NN : PySem.W.exmOne K (.ref CN) (.ref CN) = some true
  kBN : PySem.W.kitOne K (.ref CB) (.ref CN) = some false
  kBT : PySem.W.kitOne K (.ref CB) (.ref CT) = some true
  kNT : PySem.W.kitOne K (.ref CN) (.ref CT) = some true
  kNE : PySem.W.kitOne K (.ref CN) (.ref CE) = some true
/-- the class of a fault -/
def clsK (CB CN : Addr) : Bool → Addr
  | true => CN
  | false => CB
theorem Err.oe {CE CT CB CN fI : Addr} (R : Err K mg CE CT CB CN fI) (k : Bool) : OexC K (clsK CB CN k) ∧ PySem.W.findIn K (.ref (clsK CB CN k)) "row" = some none ∧ PySem.W.findIn K (.ref (clsK CB CN k)) "column" = some none := by
  cases k with
  | true => exact ⟨R.oN, R.rowN, R.colN⟩
  | false => exact ⟨R.oB, R.rowB, R.colB⟩
def placeF (r c : Int) : List (Str × V) := [(("column" : Str), .int c), (("row" : Str), .int r)]
theorem place_row_f (r c : Int) : (placeF r c).lookup ("row" : Str) = some (V.int r) := rfl
theorem place_col_f (r c : Int) : (placeF r c).lookup ("column" : Str) = some (V.int c) := rfl
abbrev sErrInit : Stmt := inClass (topS 2) 0
theorem scErrInit : FnScope ["self", "row", "column"] ["self", "row", "column"] (defScope sErrInit) := ⟨rfl, rfl, rfl, by decide +kernel, rfl, by decide +kernel, by decide +kernel⟩
def spInit (K : PySem.W.Frag) : Sp := fun vs H Q _ => ∃ (a C : Addr) (r c : Int), vs = [.ref a, .int r, .int c] ∧ (0 ≤ r ∧ r ≤ 100001 ∧ 0 ≤ c ∧ c ≤ 100001) ∧ OexC K C ∧ PySem.W.findIn K (.ref C) "row" = some none ∧ PySem.W.findIn K (.ref C) "column" = some none ∧ H a = some (exo a C none) ∧
  ∀ dx, H dx = none → dx ≠ a → Q .non (upd (upd (upd H dx (exd dx [(("row" : Str), .int r)])) a (exo a C (some dx))) dx (exd dx (placeF r c)))
theorem small_int {r : Int} (h0 : 0 ≤ r) (h1 : r ≤ 100001) : r.natAbs.log2 < 1920 ∧ (PySem.Str.ofString (toString r)).length ≤ 10 := by
  refine ⟨?_, PySem.W.KT.len_num h0 (by omega)⟩
  by_cases z : r.natAbs = 0
  · rw [z]
    decide
  · rw [Nat.log2_lt z]
    exact Nat.lt_of_le_of_lt (show r.natAbs ≤ 100001 by omega) (by decide +kernel)
theorem app_len (x y : Str) : (x ++ y).length = x.length + y.length := by
  have e : cs (x ++ y) = cs x ++ cs y := cs_app x y
  have := congrArg List.length e
  rw [List.length_append] at this
  exact this
theorem ok_errInit {CE CT CB CN f : Addr} {fd : FuncData} (R : Err K mg CE CT CB CN f) (F : Fun K "__init__" "TextError.__init__" sErrInit f fd) : FnOk P w K mg base CX0 1 f fd ["self", "row", "column"] (spInit K) := by
  refine F.ok scErrInit (fun vs H Q E h => ?_) (fun cdv A outer s H vs Q E hr h => ?_)
  · obtain ⟨a, C, r, c, rfl, _⟩ := h
    rfl
  obtain ⟨a, C, r, c, rfl, ⟨h1, h2, h3, h4⟩, O, n1, n2, e, q⟩ := h
  refine ⟨_, (pss_cons (ps_expr (pe_binit rfl R.gE R.rE R.vE (pa_cons (pv 0) (pa_cons (pe_joined (.cons pe_str (.cons (pe_fmt (pv 1)) (.cons pe_str (.cons (pe_fmt (pv 2)) .nil))))) pa_nil))))
    (pss_cons (ps_ost (pv 0) (pv 1))
    (pss_one (ps_ost (pv 0) (pv 2))))), ?_⟩
  obtain ⟨lr, sr⟩ := small_int h1 h2
  obtain ⟨lc, sc⟩ := small_int h3 h4
  have l1 : ("row " : Str).length = 4 := by decide +kernel
  have l2 : (", column " : Str).length = 9 := by decide +kernel
  have l0 : Str.empty.length = 0 := by decide +kernel
  have lz : 1000 ≤ sizeLine := by rw [sizeLine_eq]; decide
  refine ⟨_, rfl, _, rfl, ?_, _, rfl, .inr ⟨r, rfl, lr, _, rfl, ?_, _, rfl, ?_, _, rfl, .inr ⟨c, rfl, lc, _, rfl, ?_, ?_⟩⟩⟩
  · rw [app_len, l0, l1]; omega
  · rw [app_len, app_len, l0, l1]; omega
  · rw [app_len, app_len, app_len, l0, l1, l2]; omega
  · rw [app_len, app_len, app_len, app_len, l0, l1, l2]; omega
  refine ⟨a, C, _, rfl, (by show 1 ≤ 1000; decide), O, e, ?_⟩
  refine ⟨_, rfl, _, rfl, a, C, rfl, O, n1, .inl ⟨e, fun dx hdx nda => ?_⟩⟩
  have nad : a ≠ dx := nda.symm
  refine ⟨_, rfl, _, rfl, a, C, rfl, O, n2, .inr ⟨dx, _, upd_same, (by rw [upd_ne nda, upd_same]), (by show 1 ≤ 900; decide), ?_⟩⟩
  exact q dx hdx nda
end
section
variable {P : Program} {w : World} {K : PySem.W.Frag} {mg : Str → Option Value} {base : Heap} {aK aS : Addr}
/-- a raise of the fault's error: its dict, new, holds the place -/
theorem raise_read {CE CT CB CN fI : Addr} (R : Err K mg CE CT CB CN fI) {k : Bool} {r c : Int} {H : Hp} {Q : XK} (hb : 0 ≤ r ∧ r ≤ 100001 ∧ 0 ≤ c ∧ c ≤ 100001) (q : ∀ d, H d = none → Q (.ref (clsK CB CN k)) (some d) (upd H d (.xd (placeF r c)))) :
    ∀ a, H a = none → spInit K (.ref a :: ([.int r, .int c] ++ [])) (upd H a (exo a (clsK CB CN k) none))
      (fun v H2 => v = .non ∧ ∃ (d : Addr) (fs : List (Str × V)), H2 a = some (exo a (clsK CB CN k) (some d)) ∧ H2 d = some (exd d fs) ∧ H d = none ∧ Q (.ref (clsK CB CN k)) (some d) (upd (del H2 a) d (.xd fs))) (fun _ _ _ => False) := by
  intro a ha
  obtain ⟨O, n1, n2⟩ := R.oe k
  refine ⟨a, _, r, c, rfl, hb, O, n1, n2, upd_same, fun dx hdx nda => ⟨rfl, dx, placeF r c, (by rw [upd_ne nda.symm, upd_same]), upd_same, ?_, ?_⟩⟩
  · rw [upd_ne nda] at hdx
    exact hdx
  · have hd0 : H dx = none := by
      rw [upd_ne nda] at hdx
      exact hdx
    have e : upd (del (upd (upd (upd (upd H a (exo a (clsK CB CN k) none)) dx (exd dx [(("row" : Str), .int r)])) a (exo a (clsK CB CN k) (some dx))) dx (exd dx (placeF r c))) a) dx (.xd (placeF r c)) = upd H dx (.xd (placeF r c)) := by
      funext b
      by_cases h1 : b = dx
      · rw [h1, upd_same, upd_same]
      · rw [upd_ne h1, upd_ne h1]
        by_cases h2 : b = a
        · rw [h2, del_same, ha]
        · rw [del_ne h2, upd_ne h1, upd_ne h2, upd_ne h1, upd_ne h2]
    rw [e]
    exact q dx hd0
def spTokenAt (CB CN : Addr) : Sp := fun vs H Q E => ∃ (z : Str) (i r c : Nat), vs = [.str z, .int (i : Int), .int (r : Int), .int (c : Int)] ∧ i < z.length ∧ z.length ≤ 100000 ∧ r ≤ 100001 ∧ c ≤ 100001 ∧
  ((∃ k x : Str, tokOf ((cs z).drop i) = some (k, x) ∧ ∀ t, H t = none → Q (.ref t) (upd H t (.tup (tkV (k, x, r, c))))) ∨
    ∃ k : Bool, badOf ((cs z).drop i) = some k ∧ ∀ d, H d = none → E (.ref (clsK CB CN k)) (some d) (upd H d (.xd (placeF r c))))
theorem c_tokenAt {f fI CE CT CB CN : Addr} {fd fdI : FuncData} (T : Txt K mg aK aS) (R : Err K mg CE CT CB CN fI) (cI : FnOk P w K mg base CX0 1 fI fdI ["self", "row", "column"] (spInit K)) (bI : Binds K fdI ["self", "row", "column"] []) (c_word_at : C8.Cal P w K mg base 2 "_word_at" spWordAt []) (c_is_number : C8.Cal P w K mg base 1 "_is_number" spIsNumber []) (F : Fun K "_token_at" "_token_at" sTokenAt f fd) (b : Binds K fd ["text", "at", "row", "column"] []) (hm : mg "_token_at" = some (.ref f)) : CalX P w K mg base 3 "_token_at" (spTokenAt CB CN) := by
  refine calX_of F hm b scTokenAt (fun vs H Q E h => ?_) (fun cdv A outer s H vs Q E hr h => ?_)
  · obtain ⟨z, i, r, c, rfl, _⟩ := h
    rfl
  obtain ⟨z, i, r, c, rfl, hi, hz, hrb, hcb, hor⟩ := h
  have hzl : z.length ≤ sizeLine := Nat.le_of_lt (szl hz)
  have hzc : z.length = (cs z).length := rfl
  have hi' : i < (cs z).length := hi
  obtain ⟨d, hd⟩ : ∃ d, (cs z)[i]? = some d := ⟨(cs z)[i], List.getElem?_eq_getElem hi'⟩
  have ed : (cs z).drop i = d :: (cs z).drop (i + 1) := by
    rw [List.drop_eq_getElem_cons hi']
    rw [List.getElem?_eq_getElem hi'] at hd
    rw [Option.some.inj hd]
  have hwl : 0 < (S (wordOf ((cs z).drop i))).length ∧ (S (wordOf ((cs z).drop i))).length ≤ 100000 := by
    have h1 := (List.takeWhile_prefix goesOn (l := (cs z).drop (i + 1))).length_le
    rw [List.length_drop] at h1
    have e : (S (wordOf ((cs z).drop i))).length = (((cs z).drop (i + 1)).takeWhile goesOn).length + 1 := by rw [ed]; rfl
    omega
  refine ⟨_, (pss_cons (ps_set (i := 4) scTokenAt.nd rfl (Or.inl rfl) (pe_ix ix_str (pv 0) (pv 1) (fun _ _ => rfl)))
    (pss_cons (ps_if (pt_cmpR op_in_sign (pv 4) (C8.pe_gc rfl T.gSMALL_LETTERS) rfl)
      (pss_cons (ps_set (i := 5) scTokenAt.nd rfl (Or.inl rfl) (C8.pe_c c_word_at hr (by decide) rfl (pa_cons (pv 0) (pa_cons (pv 1) pa_nil))))
    (pss_one (ps_ret (pe_tup (pa_cons (pe_ifExp (pt_cmpR op_in_seq (pv 5) (C8.pe_gc rfl T.gKEYWORDS) rfl) pe_str pe_str) (pa_cons (pv 5) (pa_cons (pv 2) (pa_cons (pv 3) pa_nil))))))))
      pss_nil)
    (pss_cons (ps_if (pt_cmpR op_in_sign (pv 4) (C8.pe_gc rfl T.gCAPITAL_LETTERS) rfl)
      (pss_one (ps_ret (pe_tup (pa_cons pe_str (pa_cons (C8.pe_c c_word_at hr (by decide) rfl (pa_cons (pv 0) (pa_cons (pv 1) pa_nil))) (pa_cons (pv 2) (pa_cons (pv 3) pa_nil)))))))
      pss_nil)
    (pss_cons (ps_if (pt_cmpR op_in_sign (pv 4) (C8.pe_gc rfl T.gDIGITS) rfl)
      (pss_cons (ps_set (i := 5) scTokenAt.nd rfl (Or.inl rfl) (C8.pe_c c_word_at hr (by decide) rfl (pa_cons (pv 0) (pa_cons (pv 1) pa_nil))))
    (pss_cons (ps_if (pt_not (pt_val (C8.pe_c c_is_number hr (by decide) rfl (pa_cons (pv 5) pa_nil))))
      (pss_one (ps_raise rfl (takes_of rfl rfl rfl rfl) (pmk_oex R.oN R.iN R.tI cI hr bI .nil C8.pass0 rfl R.gN (pa_cons (pv 2) (pa_cons (pv 3) pa_nil)))))
      pss_nil)
    (pss_one (ps_ret (pe_tup (pa_cons pe_str (pa_cons (pv 5) (pa_cons (pv 2) (pa_cons (pv 3) pa_nil)))))))))
      pss_nil)
    (pss_cons (ps_for (passes_of rfl) rfl (pi_tup (C8.pe_gc rfl T.gSIGNS)) (pg_name (i := 6) scTokenAt.nd rfl (Or.inl rfl))
      (pss_one (ps_if (pt_val (pe_bm PySem.F.plainAttrs_str PySem.F.slot_str_startswith PySem.F.type_str_startswith mt_startswith3 (pv 0) (pa_cons (pv 6) (pa_cons (pv 1) pa_nil))))
      (pss_one (ps_ret (pe_tup (pa_cons pe_str (pa_cons (pv 6) (pa_cons (pv 2) (pa_cons (pv 3) pa_nil)))))))
      pss_nil)))
    (pss_one (ps_raise rfl (takes_of rfl rfl rfl rfl) (pmk_oex R.oB R.iB R.tI cI hr bI .nil C8.pass0 rfl R.gB (pa_cons (pv 2) (pa_cons (pv 3) pa_nil)))))))))), ?_⟩
  refine ⟨_, rfl, _, rfl, z, _, d, rfl, rfl, hzl, sign_at hd, ?_⟩
  rcases hor with ⟨k, x, ht, q⟩ | ⟨kb, ht, q⟩
  · skip
    rw [ed, tokOf_cons, ← ed] at ht
    refine ⟨_, rfl, d, _, rfl, rfl, _, rfl, ?_⟩
    refine ite2 (fun h1 => ?_) (fun h1 => ?_)
    · -- a word that begins with a small letter
      have h1' : d ∈ SM := of_decide_eq_true h1
      rw [if_pos h1'] at ht
      cases ht
      refine ⟨_, rfl, _, rfl, z, i, rfl, hi, hz, ?_⟩
      refine ⟨_, rfl, aK, _, rfl, .inr (T.kKEYWORDS _), rfl, strs_flat _, _, rfl, ?_⟩
      show if inV (.str (S (wordOf ((cs z).drop i)))) (KW.map V.str) = true then _ else _
      rw [inV_strs]
      unfold kindW at q
      by_cases hk : S (wordOf ((cs z).drop i)) ∈ KW
      · rw [if_pos hk] at q
        rw [decide_eq_true hk]
        refine iteT ⟨_, rfl, _, rfl, _, rfl, (by show 4 ≤ sizeLine; decide), fun t htn => q t htn⟩
      · rw [if_neg hk] at q
        rw [decide_eq_false hk]
        refine iteF ⟨_, rfl, _, rfl, _, rfl, (by show 4 ≤ sizeLine; decide), fun t htn => q t htn⟩
    · have h1' : ¬ d ∈ SM := of_decide_eq_false (Bool.eq_false_iff.mpr h1)
      rw [if_neg h1'] at ht
      refine ⟨_, rfl, d, _, rfl, rfl, _, rfl, ?_⟩
      refine ite2 (fun h2 => ?_) (fun h2 => ?_)
      · have h2' : d ∈ CA := of_decide_eq_true h2
        rw [if_pos h2'] at ht
        cases ht
        exact ⟨_, rfl, _, rfl, z, i, rfl, hi, hz, _, rfl, _, rfl, (by show 4 ≤ sizeLine; decide), fun t htn => q t htn⟩
      · have h2' : ¬ d ∈ CA := of_decide_eq_false (Bool.eq_false_iff.mpr h2)
        rw [if_neg h2'] at ht
        refine ⟨_, rfl, d, _, rfl, rfl, _, rfl, ?_⟩
        refine ite2 (fun h3 => ?_) (fun h3 => ?_)
        · have h3' : d ∈ DI := of_decide_eq_true h3
          rw [if_pos h3'] at ht
          by_cases hn : numV (S (wordOf ((cs z).drop i))) = some true
          · rw [if_pos hn] at ht
            cases ht
            refine ⟨_, rfl, _, rfl, z, i, rfl, hi, hz, ?_⟩
            refine ⟨_, rfl, _, true, rfl, hwl.1, hwl.2, hn, _, rfl, ?_⟩
            exact iteF ⟨_, rfl, _, rfl, _, rfl, (by show 4 ≤ sizeLine; decide), fun t htn => q t htn⟩
          · rw [if_neg hn] at ht
            cases ht
        · have h3' : ¬ d ∈ DI := of_decide_eq_false (Bool.eq_false_iff.mpr h3)
          rw [if_neg h3'] at ht
          -- the signs, in their order
          refine ⟨aS, rfl, ⟨_, T.kSIGNS _⟩, for_tup (K := K) (xs := SG.map V.str) (fun j σ H2 => H2 = H ∧ (∃ l1 l2, σ = [some (.str z), some (.int (i : Int)), some (.int (r : Int)), some (.int (c : Int)), some (.str ⟨#[d]⟩), l1, l2]) ∧ ∀ g ∈ SG.take j, (cs g).isPrefixOf ((cs z).drop i) = false)
            ⟨rfl, ⟨none, none, rfl⟩, by simp⟩ (fun j σ H2 _ h => T.kSIGNS _) ?_ ?_⟩
          · rintro j y σ H2 hy ⟨rfl, ⟨l1, l2, rfl⟩, hg⟩
            obtain ⟨g, hgj, rfl⟩ : ∃ g, SG[j]? = some g ∧ y = V.str g := by
              rw [List.getElem?_map] at hy
              cases e : SG[j]? with
              | none => rw [e] at hy; cases hy
              | some g => rw [e] at hy; exact ⟨g, rfl, (Option.some.inj hy).symm⟩
            refine ⟨_, rfl, rfl, _, rfl, _, rfl, z, g, _, rfl, rfl, _, rfl, ?_⟩
            rw [starts_eq z g i (Nat.le_of_lt hi)]
            cases hp : (cs g).isPrefixOf ((cs z).drop i) with
            | true =>
              have f : (SG.find? fun g => (cs g).isPrefixOf ((cs z).drop i)) = some g := find_at hgj hp hg
              rw [f] at ht
              cases ht
              exact iteT ⟨_, rfl, _, rfl, _, rfl, (by show 4 ≤ sizeLine; decide), fun t htn => q t htn⟩
            | false =>
              refine iteF ⟨rfl, ⟨_, _, rfl⟩, fun g' hg' => ?_⟩
              rw [List.take_add_one, hgj] at hg'
              rcases List.mem_append.mp hg' with hx | hx
              · exact hg g' hx
              · simp at hx
                rw [hx]; exact hp
          · rintro σ H2 ⟨rfl, ⟨l1, l2, rfl⟩, hg⟩
            have f : (SG.find? fun g => (cs g).isPrefixOf ((cs z).drop i)) = none := by
              rw [List.find?_eq_none]
              intro g hgm
              rw [List.length_map, List.take_length] at hg
              rw [hg g hgm]
              exact Bool.false_ne_true
            rw [f] at ht
            cases ht
  · rw [ed, badOf_cons, ← ed] at ht
    have hnn : (0 : Int) ≤ (r : Int) ∧ (r : Int) ≤ 100001 ∧ (0 : Int) ≤ (c : Int) ∧ (c : Int) ≤ 100001 := ⟨by omega, by omega, by omega, by omega⟩
    refine ⟨_, rfl, d, _, rfl, rfl, _, rfl, ?_⟩
    refine ite2 (fun h1 => ?_) (fun h1 => ?_)
    · have h1' : d ∈ SM := of_decide_eq_true h1
      rw [if_pos h1'] at ht
      cases ht
    · have h1' : ¬ d ∈ SM := of_decide_eq_false (Bool.eq_false_iff.mpr h1)
      rw [if_neg h1'] at ht
      refine ⟨_, rfl, d, _, rfl, rfl, _, rfl, ?_⟩
      refine ite2 (fun h2 => ?_) (fun h2 => ?_)
      · have h2' : d ∈ CA := of_decide_eq_true h2
        rw [if_pos h2'] at ht
        cases ht
      · have h2' : ¬ d ∈ CA := of_decide_eq_false (Bool.eq_false_iff.mpr h2)
        rw [if_neg h2'] at ht
        refine ⟨_, rfl, d, _, rfl, rfl, _, rfl, ?_⟩
        refine ite2 (fun h3 => ?_) (fun h3 => ?_)
        · have h3' : d ∈ DI := of_decide_eq_true h3
          rw [if_pos h3'] at ht
          by_cases hn : numV (S (wordOf ((cs z).drop i))) = some false
          · rw [if_pos hn] at ht
            cases ht
            refine ⟨_, rfl, _, rfl, z, i, rfl, hi, hz, ?_⟩
            refine ⟨_, rfl, _, false, rfl, hwl.1, hwl.2, hn, _, rfl, ?_⟩
            exact iteT ⟨_, rfl, _, rfl, (by show 2 ≤ 1000; decide), raise_read R (k := true) hnn q⟩
          · rw [if_neg hn] at ht
            cases ht
        · have h3' : ¬ d ∈ DI := of_decide_eq_false (Bool.eq_false_iff.mpr h3)
          rw [if_neg h3'] at ht
          have hno : ∀ g ∈ SG, (cs g).isPrefixOf ((cs z).drop i) = false := by
            by_cases hf : (SG.find? fun g => (cs g).isPrefixOf ((cs z).drop i)) = none
            · intro g hg
              exact Bool.eq_false_iff.mpr (List.find?_eq_none.mp hf g hg)
            · rw [if_neg hf] at ht
              cases ht
          have hkb : kb = false := by
            by_cases hf : (SG.find? fun g => (cs g).isPrefixOf ((cs z).drop i)) = none
            · rw [if_pos hf] at ht
              exact (Option.some.inj ht).symm
            · rw [if_neg hf] at ht
              cases ht
          subst hkb
          refine ⟨aS, rfl, ⟨_, T.kSIGNS _⟩, for_tup (K := K) (xs := SG.map V.str) (fun j σ H2 => H2 = H ∧ (∃ l1 l2, σ = [some (.str z), some (.int (i : Int)), some (.int (r : Int)), some (.int (c : Int)), some (.str ⟨#[d]⟩), l1, l2]))
            ⟨rfl, ⟨none, none, rfl⟩⟩ (fun j σ H2 _ h => T.kSIGNS _) ?_ ?_⟩
          · rintro j y σ H2 hy ⟨rfl, ⟨l1, l2, rfl⟩⟩
            obtain ⟨g, hgj, rfl⟩ : ∃ g, SG[j]? = some g ∧ y = V.str g := by
              rw [List.getElem?_map] at hy
              cases e : SG[j]? with
              | none => rw [e] at hy; cases hy
              | some g => rw [e] at hy; exact ⟨g, rfl, (Option.some.inj hy).symm⟩
            refine ⟨_, rfl, rfl, _, rfl, _, rfl, z, g, _, rfl, rfl, _, rfl, ?_⟩
            rw [starts_eq z g i (Nat.le_of_lt hi), hno g (List.mem_of_getElem? hgj)]
            exact iteF ⟨rfl, ⟨_, _, rfl⟩⟩
          · rintro σ H2 ⟨rfl, ⟨l1, l2, rfl⟩⟩
            exact ⟨_, rfl, _, rfl, (by show 2 ≤ 1000; decide), raise_read R (k := false) hnn q⟩
end
end Toy

set_option Elab.async false
set_option maxRecDepth 100000
set_option maxHeartbeats 4000000
/-! Part D: the whole row of tokens. -/
namespace Toy
open PySem L2
open PyProof.Rows (envOfC)
/-- these tuples of the heap are these tokens -/
inductive Toks (H : Hp) : List Addr → List Tk → Prop
  | nil : Toks H [] []
  | cons {a : Addr} {t : Tk} {l : List Addr} {ts : List Tk} : H a = some (.tup (tkV t)) → Toks H l ts → Toks H (a :: l) (t :: ts)
theorem Toks.keep {H H' : Hp} {l : List Addr} {ts : List Tk} (h : Toks H l ts) (k : ∀ a xs, H a = some (.tup xs) → H' a = some (.tup xs)) : Toks H' l ts := by
  induction h with
  | nil => exact .nil
  | cons h _ ih => exact .cons (k _ _ h) ih
theorem Toks.snoc {H : Hp} {l : List Addr} {ts : List Tk} {a : Addr} {t : Tk} (h : Toks H l ts) (ha : H a = some (.tup (tkV t))) : Toks H (l ++ [a]) (ts ++ [t]) := by
  induction h with
  | nil => exact .cons ha .nil
  | cons h _ ih => exact .cons h ih
theorem Toks.len {H : Hp} {l : List Addr} {ts : List Tk} (h : Toks H l ts) : l.length = ts.length := by
  induction h with
  | nil => rfl
  | cons _ _ ih => rw [List.length_cons, List.length_cons, ih]
def tkD (t : Tk) : PyData := .tuple [.str t.1, .str t.2.1, .int (t.2.2.1 : Int), .int (t.2.2.2 : Int)]
theorem Toks.dp {K : PySem.W.Frag} {H : Hp} {l : List Addr} {ts : List Tk} (h : Toks H l ts) : DpAll K H (l.map V.ref) (ts.map tkD) := by
  induction h with
  | nil => exact .nil
  | cons h _ ih => exact .cons (.tup (SqT.of h) (.cons (.str _) (.cons (.str _) (.cons (.int _) (.cons (.int _) .nil))))) ih
/-- the tuples stay, whatever else changes at p, a list -/
theorem tup_upd {H : Hp} {p : Addr} {xs : List V} {o : HO} (h : H p = some (.lst xs)) : ∀ a ys, H a = some (.tup ys) → upd H p o a = some (.tup ys) := fun a ys q => by
  rw [upd_ne (ne_of q h (by intro z; cases z))]
  exact q
theorem tokOf_pos {s : Cs} {k x : Str} (h : tokOf s = some (k, x)) : 0 < x.length := by
  cases s with
  | nil => cases h
  | cons c r =>
    have hw : 0 < (S (wordOf (c :: r))).length := by
      show 0 < (c :: r.takeWhile goesOn).length
      simp
    rw [tokOf_cons] at h
    split at h
    · cases h; exact hw
    · split at h
      · cases h; exact hw
      · split at h
        · split at h
          · cases h; exact hw
          · cases h
        · have q : ∀ g ∈ SG, 0 < g.length := by decide +kernel
          rcases hf : (SG.find? fun g => (cs g).isPrefixOf (c :: r)) with _ | y
          · rw [hf] at h; cases h
          · rw [hf] at h
            cases h
            exact q _ (List.mem_of_find?_eq_some hf)
section
variable {P : Program} {w : World} {K : PySem.W.Frag} {mg : Str → Option Value} {base : Heap} {aK aS : Addr}
abbrev sTokens : Stmt := topS 14
theorem scTokens : FnScope ["text", "found", "at", "row", "row_start", "token"] ["text"] (defScope sTokens) := ⟨rfl, rfl, rfl, by decide +kernel, rfl, by decide +kernel, by decide +kernel⟩
def spTokens (CB CN : Addr) : Sp := fun vs H Q E => ∃ (z : Str) (ts : List Tk) (o : Er), vs = [.str z] ∧ z.length ≤ 10000 ∧ Lex (cs z) 1 1 ts o ∧
  (o = none → ∀ (p : Addr) (l : List Addr) (H' : Hp), H p = none → Same H H' → H' p = some (.lst (l.map V.ref)) → Toks H' l ts → Q (.ref p) H') ∧
  ∀ k r c, o = some (k, r, c) → ∀ (d : Addr) (H' : Hp), H d = none → Same H H' → H' d = some (.xd (placeF r c)) → E (.ref (clsK CB CN k)) (some d) H'
theorem c_tokens {f fI CE CT CB CN : Addr} {fd : FuncData} (T : Txt K mg aK aS) (c_comment_end : C8.Cal P w K mg base 1 "_comment_end" spCommentEnd []) (c_token_at : CalX P w K mg base 3 "_token_at" (spTokenAt CB CN)) (F : Fun K "tokens" "tokens" sTokens f fd) (b : Binds K fd ["text"] []) (hm : mg "tokens" = some (.ref f)) : CalX P w K mg base 4 "tokens" (spTokens CB CN) := by
  refine calX_of F hm b scTokens (fun vs H Q E h => ?_) (fun cdv A outer s H vs Q E hr h => ?_)
  · obtain ⟨z, ts, o, rfl, _⟩ := h
    rfl
  obtain ⟨z, full, o, rfl, hz, hlex, q, qe⟩ := h
  have hzl : z.length ≤ sizeLine := Nat.le_of_lt (szl (by omega))
  have hzc : z.length = (cs z).length := rfl
  refine ⟨_, (pss_cons (ps_set (i := 1) scTokens.nd rfl (Or.inl rfl) (pe_lst pa_nil))
    (pss_cons (ps_set (i := 2) scTokens.nd rfl (Or.inl rfl) pe_int)
    (pss_cons (ps_set (i := 3) scTokens.nd rfl (Or.inl rfl) pe_int)
    (pss_cons (ps_set (i := 4) scTokens.nd rfl (Or.inl rfl) pe_int)
    (pss_cons (ps_while (passes_of rfl) (pt_cmpR op_lt (pv 2) (pe_callB call_len_str rfl T.zlen PySem.boot_len (pa_cons (pv 0) pa_nil)) (nomark _))
      (pss_one (ps_if (pt_cmpR op_eq (pe_ix ix_str (pv 0) (pv 2) (fun _ _ => rfl)) pe_str (nomark _))
      (pss_cons (ps_aug (i := 2) scTokens.nd rfl (Or.inl rfl) pe_int ip_add)
    (pss_cons (ps_aug (i := 3) scTokens.nd rfl (Or.inl rfl) pe_int ip_add)
    (pss_one (ps_set (i := 4) scTokens.nd rfl (Or.inl rfl) (pv 2)))))
      (pss_one (ps_if (pt_cmpR op_eq (pe_ix ix_str (pv 0) (pv 2) (fun _ _ => rfl)) pe_str (nomark _))
      (pss_one (ps_aug (i := 2) scTokens.nd rfl (Or.inl rfl) pe_int ip_add))
      (pss_one (ps_if (pt_val (pe_bm PySem.F.plainAttrs_str PySem.F.slot_str_startswith PySem.F.type_str_startswith mt_startswith3 (pv 0) (pa_cons pe_str (pa_cons (pv 2) pa_nil))))
      (pss_one (ps_set (i := 2) scTokens.nd rfl (Or.inl rfl) (C8.pe_c c_comment_end hr (by decide) rfl (pa_cons (pv 0) (pa_cons (pv 2) pa_nil)))))
      (pss_cons (ps_set (i := 5) scTokens.nd rfl (Or.inl rfl) (pe_cx c_token_at hr (by decide) rfl (takes_of rfl rfl rfl rfl) (pa_cons (pv 0) (pa_cons (pv 2) (pa_cons (pv 3) (pa_cons (pe_op op_add (pe_op op_sub (pv 2) (pv 4)) pe_int) pa_nil))))))
    (pss_cons (ps_expr (pe_bm PySem.F.plainAttrs_list PySem.F.slot_list_append PySem.F.type_list_append mt_append (pv 1) (pa_cons (pv 5) pa_nil)))
    (pss_one (ps_aug (i := 2) scTokens.nd rfl (Or.inl rfl) (pe_callB call_len_str rfl T.zlen PySem.boot_len (pa_cons (pe_ix ix_tup (pv 5) pe_int (fun _ _ => rfl)) pa_nil)) ip_add)))))))))))
    (pss_cons (ps_expr (pe_bm PySem.F.plainAttrs_list PySem.F.slot_list_append PySem.F.type_list_append mt_append (pv 1) (pa_cons (pe_tup (pa_cons pe_str (pa_cons pe_str (pa_cons (pv 3) (pa_cons (pe_op op_add (pe_op op_sub (pv 2) (pv 4)) pe_int) pa_nil))))) pa_nil)))
    (pss_one (ps_ret (pv 1))))))))), ?_⟩
  refine ⟨(by show 0 ≤ sizeLine; decide), fun p hp => ?_⟩
  refine ⟨fun m σ H2 => ∃ (i r rs : Nat) (done ts : List Tk) (l : List Addr) (tk : Option V), m = z.length - i ∧ σ = [some (.str z), some (.ref p), some (.int (i : Int)), some (.int (r : Int)), some (.int (rs : Int)), tk] ∧ i ≤ z.length ∧ rs ≤ i ∧ r ≤ i + 1 ∧
      Lex ((cs z).drop i) r (i - rs + 1) ts o ∧ full = done ++ ts ∧ Same H H2 ∧ H2 p = some (.lst (l.map V.ref)) ∧ Toks H2 l done ∧ l.length ≤ i,
    ⟨z.length, 0, 1, 0, [], full, [], none, rfl, rfl, Nat.zero_le _, Nat.le_refl _, Nat.le_refl _, hlex, rfl, same_new hp _, upd_same, .nil, Nat.le_refl _⟩, ?_⟩
  rintro m σ H2 ⟨i, r, rs, done, ts, l, tk, rfl, rfl, hi, hrs, hri, hl, hfull, s2, hp2, htk, hll⟩
  refine ⟨_, rfl, _, rfl, z, rfl, hzl, _, _, rfl, rfl, _, rfl, ?_⟩
  refine ite2 (fun c => ?_) (fun c => ?_)
  · have c' : (i : Int) < (z.length : Int) := of_decide_eq_true c
    have hi' : i < (cs z).length := by omega
    obtain ⟨d, hd⟩ : ∃ d, (cs z)[i]? = some d := ⟨(cs z)[i], List.getElem?_eq_getElem hi'⟩
    have ed : (cs z).drop i = d :: (cs z).drop (i + 1) := by
      rw [List.drop_eq_getElem_cons hi']
      rw [List.getElem?_eq_getElem hi'] at hd
      rw [Option.some.inj hd]
    refine ⟨_, fun _ _ h => h, ?_⟩
    refine ⟨_, rfl, _, rfl, z, _, d, rfl, rfl, hzl, sign_at hd, rfl, _, rfl, ?_⟩
    have e10 : decide (V.str (⟨#[d]⟩ : Str) = V.str ("\n" : Str)) = decide (d = 10) := sgn_eq (c := d) (d := 10)
    rw [e10]
    refine ite2 (fun h1 => ?_) (fun h1 => ?_)
    · -- a newline
      have h1' : d = 10 := of_decide_eq_true h1
      rw [ed, h1'] at hl
      refine ⟨_, rfl, _, _, rfl, rfl, _, rfl, _, _, rfl, rfl, _, rfl, ?_⟩
      refine ⟨z.length - (i + 1), by omega, i + 1, r + 1, i + 1, done, ts, l, tk, rfl, rfl, by omega, Nat.le_refl _, by omega, ?_, hfull, s2, hp2, htk, by omega⟩
      rw [Nat.sub_self]
      exact hl.inv_nl
    · have h1' : ¬ d = 10 := of_decide_eq_false (Bool.eq_false_iff.mpr h1)
      refine ⟨_, rfl, _, rfl, z, _, d, rfl, rfl, hzl, sign_at hd, rfl, _, rfl, ?_⟩
      have e32 : decide (V.str (⟨#[d]⟩ : Str) = V.str (" " : Str)) = decide (d = 32) := sgn_eq (c := d) (d := 32)
      rw [e32]
      refine ite2 (fun h2 => ?_) (fun h2 => ?_)
      · -- a space
        have h2' : d = 32 := of_decide_eq_true h2
        rw [ed, h2'] at hl
        refine ⟨_, rfl, _, _, rfl, rfl, z.length - (i + 1), by omega, i + 1, r, rs, done, ts, l, tk, rfl, rfl, by omega, by omega, by omega, ?_, hfull, s2, hp2, htk, by omega⟩
        rw [show i + 1 - rs + 1 = i - rs + 1 + 1 by omega]
        exact hl.inv_sp
      · have h2' : ¬ d = 32 := of_decide_eq_false (Bool.eq_false_iff.mpr h2)
        refine ⟨_, rfl, rfl, _, rfl, z, _, _, rfl, rfl, _, rfl, ?_⟩
        rw [starts_eq z _ i hi]
        cases hc : (cs ("--" : Str)).isPrefixOf ((cs z).drop i) with
        | true =>
          -- a comment
          refine iteT ?_
          obtain ⟨u, hu⟩ := List.isPrefixOf_iff_prefix.mp hc
          have hu' : (cs z).drop i = 45 :: 45 :: u := hu.symm
          rw [hu'] at hl
          obtain ⟨bd, s', e1, hb, hs', hl'⟩ := hl.inv_com
          refine ⟨_, rfl, _, rfl, z, i, rfl, hi, by omega, fun e h4 h5 h6 => ?_⟩
          have lu : ((cs z).drop i).length = 2 + bd.length + s'.length := by
            rw [hu', e1]
            simp
            omega
          rw [List.length_drop] at lu
          -- the comment's end is where bd ends
          have at_ : ∀ j, (cs z)[i + j]? = (45 :: 45 :: (bd ++ s'))[j]? := fun j => by rw [← List.getElem?_drop, hu', e1]
          have ee : e = i + 2 + bd.length := by
            have n1 : ¬ e < i + 2 + bd.length := fun hlt => by
              rcases h5 with h5 | h5
              · omega
              · have q1 := at_ (e - i)
                rw [show i + (e - i) = e by omega, h5] at q1
                have hm : (10 : Nat) ∈ 45 :: 45 :: bd := by
                  have q2 : (45 :: 45 :: (bd ++ s'))[e - i]? = (45 :: 45 :: bd)[e - i]? := by
                    rw [show (45 :: 45 :: (bd ++ s')) = (45 :: 45 :: bd) ++ s' from rfl]
                    exact List.getElem?_append_left (by simp; omega)
                  rw [q2] at q1
                  exact List.mem_of_getElem? q1.symm
                rcases List.mem_cons.mp hm with hm | hm
                · cases hm
                · rcases List.mem_cons.mp hm with hm | hm
                  · cases hm
                  · exact hb _ hm rfl
            have n2 : ¬ i + 2 + bd.length < e := fun hlt => by
              rcases hs' with hs' | ⟨s2', hs'⟩
              · subst hs'
                rw [List.length_nil] at lu
                rcases h5 with h5 | h5
                · omega
                · obtain ⟨hle, _⟩ := List.getElem?_eq_some_iff.mp h5
                  omega
              · refine h6 (i + 2 + bd.length) (by omega) hlt ?_
                have q1 := at_ (2 + bd.length)
                rw [show i + (2 + bd.length) = i + 2 + bd.length by omega] at q1
                rw [q1, hs', show (45 :: 45 :: (bd ++ 10 :: s2')) = (45 :: 45 :: bd) ++ 10 :: s2' from rfl]
                rw [List.getElem?_append_right (by simp; omega)]
                simp
                rw [show 2 + bd.length - (bd.length + 1 + 1) = 0 by omega]
                rfl
            omega
          subst ee
          refine ⟨z.length - (i + 2 + bd.length), by omega, i + 2 + bd.length, r, rs, done, ts, l, tk, rfl, rfl, by omega, by omega, by omega, ?_, hfull, s2, hp2, htk, by omega⟩
          have ed2 : (cs z).drop (i + 2 + bd.length) = s' := by
            rw [show i + 2 + bd.length = i + (2 + bd.length) by omega, ← List.drop_drop, hu', e1]
            rw [show (45 :: 45 :: (bd ++ s')) = (45 :: 45 :: bd) ++ s' from rfl]
            rw [List.drop_append_of_le_length (by simp; omega), List.drop_of_length_le (by simp; omega)]
            rfl
          rw [ed2, show i + 2 + bd.length - rs + 1 = i - rs + 1 + 2 + bd.length by omega]
          exact hl'
        | false =>
          refine iteF ?_
          have n0 : (cs z).drop i ≠ [] := by rw [ed]; simp
          have n3 : ∀ s', (cs z).drop i ≠ 45 :: 45 :: s' := fun s' k => by
            rw [k] at hc
            have : (cs ("--" : Str)).isPrefixOf (45 :: 45 :: s') = true := List.isPrefixOf_iff_prefix.mpr ⟨s', rfl⟩
            rw [this] at hc
            cases hc
          have ecol : (i : Int) - (rs : Int) + 1 = ((i - rs + 1 : Nat) : Int) := by omega
          rcases hl.inv_tok n0 (fun s' k => by rw [ed] at k; exact h1' (List.cons.inj k).1) (fun s' k => by rw [ed] at k; exact h2' (List.cons.inj k).1) n3 with ⟨k, x, s', ts', e1, ht, rfl, hl'⟩ | ⟨kb, hbad, eo⟩
          rotate_left
          · refine ⟨_, rfl, _, rfl, _, rfl, _, rfl, _, rfl, _, _, rfl, rfl, _, _, rfl, rfl, z, i, r, i - rs + 1, ?_, by omega, by omega, by omega, by omega, .inr ⟨kb, hbad, fun d hd => ?_⟩⟩
            · show [V.str z, V.int (i : Int), V.int (r : Int), V.int ((i : Int) - (rs : Int) + 1)] = _
              rw [ecol]
            · have hd0 : H d = none := by
                cases e : H d with
                | none => rfl
                | some u =>
                  rw [s2 d u e] at hd
                  cases hd
              exact qe kb r (i - rs + 1) eo d _ hd0 (s2.trans (same_new hd _)) upd_same
          have hxl : x.length + s'.length = z.length - i := by
            have := congrArg List.length e1
            rw [List.length_drop, List.length_append] at this
            have lx : x.length = (cs x).length := rfl
            omega
          have hx0 : 0 < x.length := tokOf_pos ht
          refine ⟨_, rfl, _, rfl, _, rfl, _, rfl, _, rfl, _, _, rfl, rfl, _, _, rfl, rfl, z, i, r, i - rs + 1, ?_, by omega, by omega, by omega, by omega, .inl ⟨k, x, ht, fun t htn => ?_⟩⟩
          · show [V.str z, V.int (i : Int), V.int (r : Int), V.int ((i : Int) - (rs : Int) + 1)] = _
            rw [ecol]
          have npt : p ≠ t := ne_of_none hp2 htn
          have s3 : Same H2 (upd H2 t (.tup (tkV (k, x, r, i - rs + 1)))) := same_new htn _
          have hp3 := s3 _ _ hp2
          refine ⟨_, rfl, .inl ⟨rfl, _, SqL.of hp3⟩, _, rfl, p, _, _, rfl, rfl, hp3, szl (by rw [List.length_map]; omega), ?_⟩
          have ht3 : upd (upd H2 t (.tup (tkV (k, x, r, i - rs + 1)))) p (.lst (l.map V.ref ++ [.ref t])) t = some (.tup (tkV (k, x, r, i - rs + 1))) := by
            rw [upd_ne npt.symm, upd_same]
          refine ⟨_, rfl, _, rfl, t, _, 1, .str x, rfl, rfl, SqT.of ht3, rfl, x, rfl, Nat.le_of_lt (szl (by omega)), _, _, rfl, rfl, ?_⟩
          refine ⟨z.length - (i + x.length), by omega, i + x.length, r, rs, done ++ [(k, x, r, i - rs + 1)], ts', l ++ [t], _, rfl, rfl, by omega, by omega, by omega, ?_, by rw [hfull, List.append_assoc]; rfl, same_upd hp (s2.trans s3) _, ?_, ?_, ?_⟩
          · have ed2 : (cs z).drop (i + x.length) = s' := by
              rw [← List.drop_drop, e1]
              exact List.drop_left
            rw [ed2, show i + x.length - rs + 1 = i - rs + 1 + x.length by omega]
            exact hl'
          · rw [upd_same, List.map_append]
            rfl
          · exact ((htk.keep fun a xs h => s3 _ _ h).keep (tup_upd hp3)).snoc ht3
          · rw [List.length_append]
            show l.length + 1 ≤ i + x.length
            omega
  · -- the end
    have c' : ¬ (i : Int) < (z.length : Int) := of_decide_eq_false (Bool.eq_false_iff.mpr c)
    have ei : i = z.length := by omega
    subst ei
    rw [hzc, List.drop_length] at hl
    obtain ⟨e, eo0⟩ := hl.inv_nil
    subst e
    have ecol : (z.length : Int) - (rs : Int) + 1 = ((z.length - rs + 1 : Nat) : Int) := by omega
    refine ⟨_, rfl, .inl ⟨rfl, _, SqL.of hp2⟩, _, rfl, _, rfl, _, rfl, _, _, rfl, rfl, _, _, rfl, rfl, (by show 4 ≤ sizeLine; decide), fun t htn => ?_⟩
    have eo : HO.tup [V.str "end", V.str "", V.int (r : Int), V.int ((z.length : Int) - (rs : Int) + 1)] = HO.tup (tkV ("end", "", r, z.length - rs + 1)) := by
      rw [ecol]
      rfl
    have s3 : Same H2 (upd H2 t (HO.tup [V.str "end", V.str "", V.int (r : Int), V.int ((z.length : Int) - (rs : Int) + 1)])) := same_new htn _
    have npt : p ≠ t := ne_of_none hp2 htn
    have hp3 := s3 _ _ hp2
    have ht3 : upd (upd H2 t (HO.tup [V.str "end", V.str "", V.int (r : Int), V.int ((z.length : Int) - (rs : Int) + 1)])) p (.lst (l.map V.ref ++ [.ref t])) t = some (.tup (tkV ("end", "", r, z.length - rs + 1))) := by
      rw [upd_ne npt.symm, upd_same, eo]
    refine ⟨p, _, _, rfl, rfl, hp3, szl (by rw [List.length_map]; omega), _, rfl, ?_⟩
    refine q eo0 p (l ++ [t]) _ hp (same_upd hp (s2.trans s3) _) (by rw [upd_same, List.map_append]; rfl) ?_
    rw [hfull, ← hzc]
    exact ((htk.keep fun a xs h => s3 _ _ h).keep (tup_upd hp3)).snoc ht3
end
end Toy

set_option Elab.async false
set_option maxRecDepth 100000
set_option maxHeartbeats 4000000
/-! Part E: the law's own words, its look at a text. -/
namespace Toy
open PySem L2
open PyProof.Rows (envOfC cnt_cons cnt_nil count_cnt cnt)
theorem at_str {zs : List Str} {i : Int} (h0 : 0 ≤ i) (h1 : i < (zs.length : Int)) : ∃ z ∈ zs, atI (zs.map V.str) i = some (.str z) := by
  have hk : i.toNat < zs.length := by omega
  refine ⟨zs[i.toNat], List.getElem_mem _, ?_⟩
  have q : atI (zs.map V.str) ((i.toNat : Nat) : Int) = some (.str zs[i.toNat]) := atI_nat (by rw [List.getElem?_map, List.getElem?_eq_getElem hk] <;> rfl)
  rw [show ((i.toNat : Nat) : Int) = i by omega] at q
  exact q
theorem keep_new {p l : Addr} {H H' : Hp} {o : HO} (hl : H l = none) (k : Keep p (upd H l o) H') : Keep p H H' := fun b u hb e => k b u hb (by rw [upd_ne (ne_of_none e hl)]; exact e)
theorem keep_upd {p t : Addr} {H H' : Hp} (k : Keep p H H') (ht : H' t = none) (o : HO) : Keep p H (upd H' t o) := fun b u hb e => by
  have h := k b u hb e
  rw [upd_ne (ne_of_none h ht)]
  exact h
theorem Keep.trans {p : Addr} {H H1 H2 : Hp} (a : Keep p H H1) (b : Keep p H1 H2) : Keep p H H2 := fun c o hc e => b c o hc (a c o hc e)
theorem Keep.refl (p : Addr) (H : Hp) : Keep p H H := fun _ _ _ e => e
theorem DrawsAt.there {H : Hp} {p r : Addr} (d : DrawsAt H p r) : ∃ o, H p = some o := let ⟨_, _, _, h, _⟩ := d; ⟨_, h⟩
theorem DrawsAt.new {H : Hp} {p r l : Addr} (d : DrawsAt H p r) (h : H l = none) (o : HO) : DrawsAt (upd H l o) p r := d.same (same_new h o)
/-- [a, b, ..][_law_pick(draws, m)]: one of them -/
theorem pick_list {K : PySem.W.Frag} {E : XK} {zs : List Str} {m : Int} {i : Nat} {p r : Addr} {σ : L2.St} {H : Hp} {Q : VK} (hσ : σ[i]? = some (some (.ref p))) (hm : m = (zs.length : Int)) (h0 : 0 < zs.length) (h1 : zs.length ≤ 1000) (D : DrawsAt H p r)
    (k : ∀ z ∈ zs, ∀ H', Keep p H H' → DrawsAt H' p r → Q (.str z) H') : tOp (rIxL K) (tLst (tStrs zs)) (tCall spPick [] E (tCons (tVar i) (tCons (tC (.int m)) tNil))) σ H Q := by
  subst hm
  refine ⟨by rw [List.length_map]; exact Nat.le_of_lt (szl (by omega)), fun l hl => ?_⟩
  refine ⟨_, hσ, p, r, _, rfl, by omega, D.new hl _, fun n H2 hn0 hn1 kp d2 => ?_⟩
  have npl : l ≠ p := by
    obtain ⟨o, ho⟩ := D.there
    exact (ne_of_none ho hl).symm
  obtain ⟨z, hz, e⟩ := at_str (zs := zs) hn0 hn1
  exact ⟨l, _, n, _, rfl, rfl, SqL.of (kp _ _ npl upd_same), e, k z hz H2 (keep_new hl kp) d2⟩
section
variable {P : Program} {w : World} {K : PySem.W.Frag} {mg : Str → Option Value} {base : Heap} {aK aS : Addr}
abbrev sGood : Stmt := topS 24
theorem scGood : FnScope ["draws", "words"] ["draws"] (defScope sGood) := ⟨rfl, rfl, rfl, by decide +kernel, rfl, by decide +kernel, by decide +kernel⟩
def spGood : Sp := fun vs H Q _ => ∃ p r : Addr, vs = [.ref p] ∧ DrawsAt H p r ∧ ∀ (z : Str) (H' : Hp), z ∈ GOOD → Keep p H H' → DrawsAt H' p r → Q (.str z) H'
theorem c_good {f : Addr} {fd : FuncData} (c_law_pick : C8.Cal P w K mg base 2 "_law_pick" spPick []) (F : Fun K "_law_good" "_law_good" sGood f fd) (b : Binds K fd ["draws"] []) (hm : mg "_law_good" = some (.ref f)) : C8.Cal P w K mg base 3 "_law_good" spGood [] := by
  refine cal_of F hm b scGood (fun vs H Q E h => ?_) (fun cdv A outer s H vs Q E hr h => ?_)
  · obtain ⟨p, r, rfl, _⟩ := h
    rfl
  obtain ⟨p, r, rfl, D, q⟩ := h
  refine ⟨_, (pss_cons (ps_set (i := 1) scGood.nd rfl (Or.inl rfl) (pe_lst (pa_strs (zs := ["a", "go'", "Tree", "10", "data", "where", "->", "<=", "\\", "(", "]", ",", "x_1", "1000000000000", "0", ":"]) rfl)))
    (pss_one (ps_ret (pe_ix ix_list (pv 1) (C8.pe_c c_law_pick hr (by decide) rfl (pa_cons (pv 0) (pa_cons pe_int pa_nil))) (fun _ _ => rfl))))), ?_⟩
  refine ⟨by show 16 ≤ sizeLine; decide, fun l hl => ?_⟩
  refine ⟨_, rfl, _, rfl, p, r, 16, rfl, by decide, D.new hl _, fun n H2 n0 n1 k2 d2 => ?_⟩
  have npl : l ≠ p := by
    obtain ⟨o, ho⟩ := D.there
    exact (ne_of_none ho hl).symm
  obtain ⟨z, hz, e⟩ := at_str (zs := GOOD) n0 n1
  exact ⟨l, _, n, _, rfl, rfl, SqL.of (k2 _ _ npl upd_same), e, q z _ hz (keep_new hl k2) d2⟩
abbrev sBad : Stmt := topS 25
theorem scBad : FnScope ["draws", "signs", "words"] ["draws"] (defScope sBad) := ⟨rfl, rfl, rfl, by decide +kernel, rfl, by decide +kernel, by decide +kernel⟩
def badW : Bool → List Str
  | true => BADN
  | false => BADC
def kindN : Bool → Str
  | true => "number"
  | false => "character"
def spBad : Sp := fun vs H Q _ => ∃ p r : Addr, vs = [.ref p] ∧ DrawsAt H p r ∧ ∀ (b : Bool) (x : Str) (t : Addr) (H' : Hp), x ∈ badW b → Keep p H H' → DrawsAt H' p r → H' t = some (.tup [.str (kindN b), .str x]) → Q (.ref t) H'
theorem c_bad {f : Addr} {fd : FuncData} (c_law_pick : C8.Cal P w K mg base 2 "_law_pick" spPick []) (F : Fun K "_law_bad" "_law_bad" sBad f fd) (b : Binds K fd ["draws"] []) (hm : mg "_law_bad" = some (.ref f)) : C8.Cal P w K mg base 3 "_law_bad" spBad [] := by
  refine cal_of F hm b scBad (fun vs H Q E h => ?_) (fun cdv A outer s H vs Q E hr h => ?_)
  · obtain ⟨p, r, rfl, _⟩ := h
    rfl
  obtain ⟨p, r, rfl, D, q⟩ := h
  refine ⟨_, (pss_cons (ps_if (pt_cmpR op_eq (C8.pe_c c_law_pick hr (by decide) rfl (pa_cons (pv 0) (pa_cons pe_int pa_nil))) pe_int (nomark _))
      (pss_cons (ps_set (i := 1) scBad.nd rfl (Or.inl rfl) (pe_lst (pa_strs (zs := ["_", "'", "!", "@", "#", "$", "&", "^", "~", "?", ".", "/", ">", "\"", "_a", "'x"]) rfl)))
    (pss_one (ps_ret (pe_tup (pa_cons pe_str (pa_cons (pe_ix ix_list (pv 1) (C8.pe_c c_law_pick hr (by decide) rfl (pa_cons (pv 0) (pa_cons pe_int pa_nil))) (fun _ _ => rfl)) pa_nil))))))
      pss_nil)
    (pss_cons (ps_set (i := 2) scBad.nd rfl (Or.inl rfl) (pe_lst (pa_strs (zs := ["01", "00", "1a", "2_", "3'", "1000000000001", "99999999999999999999", "0x", "7A", "10of", "1000000000000a"]) rfl)))
    (pss_one (ps_ret (pe_tup (pa_cons pe_str (pa_cons (pe_ix ix_list (pv 2) (C8.pe_c c_law_pick hr (by decide) rfl (pa_cons (pv 0) (pa_cons pe_int pa_nil))) (fun _ _ => rfl)) pa_nil))))))), ?_⟩
  refine ⟨_, rfl, p, r, 2, rfl, by decide, D, fun n H1 n0 n1 k1 d1 => ⟨rfl, _, rfl, ?_⟩⟩
  have fin : ∀ (b : Bool) (x : Str) (H2 : Hp), x ∈ badW b → Keep p H H2 → DrawsAt H2 p r → ([V.str (kindN b), V.str x] : List V).length ≤ sizeLine ∧ ∀ t, H2 t = none → Q (.ref t) (upd H2 t (.tup [.str (kindN b), .str x])) := fun b x H2 hw k2 d2 =>
    ⟨by show 2 ≤ sizeLine; decide, fun t ht => q b x t _ hw (keep_upd k2 ht _) (d2.new ht _) upd_same⟩
  refine ite2 (fun _ => ?_) (fun _ => ?_)
  · refine ⟨by show 16 ≤ sizeLine; decide, fun l hl => ?_⟩
    refine ⟨_, rfl, _, rfl, p, r, 16, rfl, by decide, d1.new hl _, fun n H2 n0 n1 k2 d2 => ?_⟩
    have npl : l ≠ p := by
      obtain ⟨o, ho⟩ := d1.there
      exact (ne_of_none ho hl).symm
    obtain ⟨z, hz, e⟩ := at_str (zs := BADC) n0 n1
    exact ⟨l, _, n, _, rfl, rfl, SqL.of (k2 _ _ npl upd_same), e, fin false z _ hz (k1.trans (keep_new hl k2)) d2⟩
  · refine ⟨by show 11 ≤ sizeLine; decide, fun l hl => ?_⟩
    refine ⟨_, rfl, _, rfl, p, r, 11, rfl, by decide, d1.new hl _, fun n H2 n0 n1 k2 d2 => ?_⟩
    have npl : l ≠ p := by
      obtain ⟨o, ho⟩ := d1.there
      exact (ne_of_none ho hl).symm
    obtain ⟨z, hz, e⟩ := at_str (zs := BADN) n0 n1
    exact ⟨l, _, n, _, rfl, rfl, SqL.of (k2 _ _ npl upd_same), e, fin true z _ hz (k1.trans (keep_new hl k2)) d2⟩
abbrev sBetw : Stmt := topS 26
theorem scBetw : FnScope ["draws"] ["draws"] (defScope sBetw) := ⟨rfl, rfl, rfl, by decide +kernel, rfl, by decide +kernel, by decide +kernel⟩
def spBetw : Sp := fun vs H Q _ => ∃ p r : Addr, vs = [.ref p] ∧ DrawsAt H p r ∧ ∀ (z : Str) (H' : Hp), z ∈ BETW → Keep p H H' → DrawsAt H' p r → Q (.str z) H'
theorem c_betw {f : Addr} {fd : FuncData} (c_law_pick : C8.Cal P w K mg base 2 "_law_pick" spPick []) (F : Fun K "_law_between" "_law_between" sBetw f fd) (b : Binds K fd ["draws"] []) (hm : mg "_law_between" = some (.ref f)) : C8.Cal P w K mg base 3 "_law_between" spBetw [] := by
  refine cal_of F hm b scBetw (fun vs H Q E h => ?_) (fun cdv A outer s H vs Q E hr h => ?_)
  · obtain ⟨p, r, rfl, _⟩ := h
    rfl
  obtain ⟨p, r, rfl, D, q⟩ := h
  refine ⟨_, (pss_one (ps_ret (pe_ix ix_list (pe_lst (pa_strs (zs := [" ", "\n", "  ", "\n -- _ 01 !\n", " --\n  "]) rfl)) (C8.pe_c c_law_pick hr (by decide) rfl (pa_cons (pv 0) (pa_cons pe_int pa_nil))) (fun _ _ => rfl)))), ?_⟩
  exact pick_list rfl rfl (by decide) (by decide) D fun a ha H1 k1 d1 => q _ _ ha k1 d1
/-! ### the place of a text's end -/
theorem place_row : ∀ (s : Cs) (p : Nat × Nat), (((s.foldl adv p).1 : Nat) : Int) = (p.1 : Int) + cnt 10 s
  | [], p => by rw [cnt_nil, Int.add_zero]; rfl
  | x :: s, p => by
    rw [List.foldl_cons, place_row s, cnt_cons]
    unfold adv
    by_cases h : x = 10
    · rw [if_pos h, if_pos h]
      show ((p.1 + 1 : Nat) : Int) + cnt 10 s = _
      omega
    · rw [if_neg h, if_neg h]
      show (p.1 : Int) + cnt 10 s = _
      omega
/-- the column by the last newline -/
theorem place_col (s : Cs) : (∀ x ∈ s, x ≠ 10) → (place s).2 = s.length + 1 := fun h => by
  have e := adv_word s (1, 1) h
  show (s.foldl adv (1, 1)).2 = _
  rw [e]
  show 1 + s.length = _
  omega
theorem place_col2 (a b : Cs) (h : ∀ x ∈ b, x ≠ 10) : (place (a ++ 10 :: b)).2 = b.length + 1 := by
  rw [place_app, List.foldl_cons]
  have e : adv (place a) 10 = ((place a).1 + 1, 1) := if_pos rfl
  rw [e, adv_word b _ h]
  show 1 + b.length = _
  omega
theorem rfind_col (z : Str) : (z.length : Int) - Txt.rfind z ⟨#[10]⟩ = ((place (cs z)).2 : Int) := by
  have lz : z.length = (cs z).length := rfl
  unfold Txt.rfind
  rcases PySem.StrLaws.last_spec z ⟨#[10]⟩ with ⟨e, h⟩ | ⟨i, e, h1, h2⟩
  · rw [e]
    have hn : ∀ x ∈ cs z, x ≠ 10 := fun x hx q => by
      obtain ⟨j, hj, ej⟩ := List.getElem_of_mem hx
      exact h j ((PySem.StrLaws.subAt_one z 10 j).mpr (by rw [← q, ← ej]; exact List.getElem?_eq_getElem hj))
    rw [place_col _ hn]
    show (z.length : Int) - (-1) = _
    omega
  · rw [e]
    have q := (PySem.StrLaws.subAt_one z 10 i).mp h1
    obtain ⟨hi, ei⟩ := List.getElem?_eq_some_iff.mp q
    have es : cs z = (cs z).take i ++ 10 :: (cs z).drop (i + 1) := by
      have e1 := List.drop_eq_getElem_cons hi
      rw [ei] at e1
      rw [← e1, List.take_append_drop]
    have hn : ∀ x ∈ (cs z).drop (i + 1), x ≠ 10 := fun x hx q => by
      obtain ⟨j, hj, ej⟩ := List.getElem_of_mem hx
      refine h2 (i + 1 + j) (by omega) ((PySem.StrLaws.subAt_one z 10 (i + 1 + j)).mpr ?_)
      have e3 : ((cs z).drop (i + 1))[j]? = some x := by rw [List.getElem?_eq_getElem hj, ej]
      rw [List.getElem?_drop] at e3
      rw [show z.cps.toList = cs z from rfl, e3, q]
    have e2 : (place (cs z)).2 = ((cs z).drop (i + 1)).length + 1 := by
      have k := place_col2 ((cs z).take i) _ hn
      rw [← es] at k
      exact k
    rw [e2, List.length_drop]
    have hi' : i < (cs z).length := hi
    show (z.length : Int) - (i : Int) = _
    omega

/-! ### the look at a text -/
abbrev sTold : Stmt := topS 27
theorem scTold : FnScope ["text", "e"] ["text"] (defScope sTold) := ⟨rfl, rfl, rfl, by decide +kernel, rfl, by decide +kernel, by decide +kernel⟩
def rLenS (K : PySem.W.Frag) : List V → Hp → VK → Prop := fun xs H Q => ∃ p ys, xs = [V.ref p] ∧ (SqL K H p ys ∨ SqT K H p ys) ∧ Q (V.int ys.length) H
def toldV (n : Nat) : Er → List V
  | none => [.str "tokens", .int (n : Int)]
  | some (k, r, c) => [.str (kindN k), .int (r : Int), .int (c : Int), .bl false, .bl true]
def spTold : Sp := fun vs H Q _ => ∃ (z : Str) (ts : List Tk) (o : Er), vs = [.str z] ∧ z.length ≤ 10000 ∧ Lex (cs z) 1 1 ts o ∧ ∀ (t : Addr) (H' : Hp), H t = none → Same H H' → H' t = some (.tup (toldV ts.length o)) → Q (.ref t) H'
theorem c_told {f fI CE CT CB CN : Addr} {fd : FuncData} (T : Txt K mg aK aS) (R : Err K mg CE CT CB CN fI) (c_tokens : CalX P w K mg base 4 "tokens" (spTokens CB CN)) (F : Fun K "_law_told" "_law_told" sTold f fd) (b : Binds K fd ["text"] []) (hm : mg "_law_told" = some (.ref f)) : C8.Cal P w K mg base 5 "_law_told" spTold [] := by
  refine cal_of F hm b scTold (fun vs H Q E h => ?_) (fun cdv A outer s H vs Q E hr h => ?_)
  · obtain ⟨z, ts, o, rfl, _⟩ := h
    rfl
  obtain ⟨z, ts, o, rfl, hz, hlex, q⟩ := h
  have gN : ∃ u, mg "BadNumber" = some u ∧ RelV (.ref CN) u := ⟨_, R.gN, rfl⟩
  have gT : ∃ u, mg "TextError" = some u ∧ RelV (.ref CT) u := ⟨_, R.gT, rfl⟩
  have gE : ∃ u, mg "NeedError" = some u ∧ RelV (.ref CE) u := ⟨_, R.gE, rfl⟩
  refine ⟨_, pss_one (ps_try_as2 (i := 1) (Wout := fun _ _ _ _ => False) rfl rfl scTold.nd rfl rfl ⟨rfl, by decide, Or.inl R.gB⟩ ⟨rfl, by decide, Or.inl R.gN⟩ takes0
    (fun W pn xe tk _ => (pss_one (ps_ret (pe_tup (pa_cons pe_str (pa_cons (pe_callB (r := rLenS K) (by exact call_len_seq) rfl T.zlen PySem.boot_len (pa_cons (by exact (pe_cx c_tokens hr (by decide) rfl tk (pa_cons (pv 0) pa_nil))) pa_nil)) pa_nil))))))
    (fun a oe cls d pn hz hf => pss_one (ps_ret (pe_tup (pa_cons pe_str (pa_cons (pe_xf R.xB R.rowB hz hf (pv 1)) (pa_cons (pe_xf R.xB R.colB hz hf (pv 1)) (pa_cons (pe_callB (r := rIsX K a cls d) (by exact (call_isX hz hf)) rfl T.zisinstance boot_isinstance (pa_cons (pv 1) (pa_cons (C8.pe_gc rfl gN) pa_nil))) (pa_cons (pe_callB (r := rIsX K a cls d) (by exact (call_isX hz hf)) rfl T.zisinstance boot_isinstance (pa_cons (pv 1) (pa_cons (C8.pe_gc rfl gT) pa_nil))) pa_nil))))))))
    (fun a oe cls d pn hz hf => pss_one (ps_ret (pe_tup (pa_cons pe_str (pa_cons (pe_xf R.xN R.rowN hz hf (pv 1)) (pa_cons (pe_xf R.xN R.colN hz hf (pv 1)) (pa_cons pe_bl (pa_cons (pe_and (pe_callB (r := rIsX K a cls d) (by exact (call_isX hz hf)) rfl T.zisinstance boot_isinstance (pa_cons (pv 1) (pa_cons (C8.pe_gc rfl gT) pa_nil))) (pe_one (pe_callB (r := rIsX K a cls d) (by exact (call_isX hz hf)) rfl T.zisinstance boot_isinstance (pa_cons (pv 1) (pa_cons (C8.pe_gc rfl gE) pa_nil))))) pa_nil))))))))), ?_⟩
  have back : ∀ {H' : Hp} {t : Addr}, Same H H' → H' t = none → H t = none := fun {H' t} s1 ht => by
    cases e : H t with
    | none => rfl
    | some u =>
      rw [s1 t u e] at ht
      cases ht
  refine ⟨_, rfl, z, ts, o, rfl, hz, hlex, fun ho p l H' hp s1 hl tk => ?_, fun k r c ho d H' hd s1 he => ?_⟩
  · refine ⟨p, _, rfl, .inl (SqL.of hl), (by show 2 ≤ sizeLine; decide), fun t ht => ?_⟩
    subst ho
    refine q t _ (back s1 ht) (s1.trans (same_new ht _)) ?_
    rw [upd_same, List.length_map, tk.len]
    rfl
  · subst ho
    cases k with
    | false =>
      refine ⟨true, R.BB, fun _ a0 _ => ?_, fun z => Bool.noConfusion z⟩
      refine ⟨_, rfl, rfl, rfl, d, _, _, rfl, he, place_row_f r c, ?_⟩
      refine ⟨_, rfl, rfl, rfl, d, _, _, rfl, he, place_col_f r c, ?_⟩
      refine ⟨_, rfl, CB, d, _, _, .ref CN, false, rfl, rfl, R.eB, rfl, he, fun u h => h, R.kBN, ?_⟩
      refine ⟨_, rfl, CB, d, _, _, .ref CT, true, rfl, rfl, R.eB, rfl, he, fun u h => h, R.kBT, ?_⟩
      exact ⟨(by show 5 ≤ sizeLine; decide), fun t ht => q t _ (back s1 ht) (s1.trans (same_new ht _)) upd_same⟩
    | true =>
      refine ⟨false, R.NB, fun z => Bool.noConfusion z, fun _ => ⟨true, R.NN, fun _ a0 _ => ?_, fun z => Bool.noConfusion z⟩⟩
      refine ⟨_, rfl, rfl, rfl, d, _, _, rfl, he, place_row_f r c, ?_⟩
      refine ⟨_, rfl, rfl, rfl, d, _, _, rfl, he, place_col_f r c, ?_⟩
      refine ⟨_, rfl, CN, d, _, _, .ref CT, true, rfl, rfl, R.eN, rfl, he, fun u h => h, R.kNT, ?_⟩
      refine ⟨_, rfl, iteT ?_⟩
      refine ⟨_, rfl, CN, d, _, _, .ref CE, true, rfl, rfl, R.eN, rfl, he, fun u h => h, R.kNE, ?_⟩
      exact ⟨(by show 5 ≤ sizeLine; decide), fun t ht => q t _ (back s1 ht) (s1.trans (same_new ht _)) upd_same⟩
end
end Toy

set_option Elab.async false
set_option maxRecDepth 100000
set_option maxHeartbeats 4000000
/-! Part F: the law. -/
namespace Toy
open PySem L2
open PyProof.Rows (envOfC cnt_cons cnt_nil count_cnt cnt)
def toldD (n : Nat) : Er → List PyData
  | none => [.str "tokens", .int (n : Int)]
  | some (k, r, c) => [.str (kindN k), .int (r : Int), .int (c : Int), .bool false, .bool true]
theorem told_dp {K : PySem.W.Frag} {H : Hp} (n : Nat) : ∀ o : Er, DpAll K H (toldV n o) (toldD n o)
  | none => .cons (.str _) (.cons (.int _) .nil)
  | some (k, r, c) => .cons (.str _) (.cons (.int _) (.cons (.int _) (.cons (.bl _) (.cons (.bl _) .nil))))
theorem told_shaped (n : Nat) (o : Er) : SeqAt.shaped (.tuple (toldD n o)) = true := by
  have s1 : PyData.strOk ("tokens" : Str) = true := by decide +kernel
  have s2 : PyData.strOk ("number" : Str) = true := by decide +kernel
  have s3 : PyData.strOk ("character" : Str) = true := by decide +kernel
  show (PyData.canLay0 (.tuple (toldD n o)) && decide (PyData.depth (.tuple (toldD n o)) ≤ 64)) = true
  rcases o with _ | ⟨k, r, c⟩
  · simp [toldD, PyData.canLay0, PyData.canLayAll0, PyData.depth, PyData.depthAll, s1]
  · cases k <;> simp [toldD, kindN, PyData.canLay0, PyData.canLayAll0, PyData.depth, PyData.depthAll, s2, s3]
theorem eqv_self {d : PyData} (h : SeqAt.shaped d = true) : PyData.eqv d d = true := SeqAt.eqv_refl d (SeqAt.canLay_of_shaped h)
theorem RestOk.more {x s y : Str} (h : RestOk (cs x)) (hs : s ∈ ([" ", "\n"] : List Str)) : RestOk (cs (x ++ s ++ y)) := by
  rw [cs_app, cs_app]
  have hs' : ∀ s ∈ ([" ", "\n"] : List Str), cs s = [32] ∨ cs s = [10] := by decide +kernel
  rcases h with h | ⟨u, r, h, hu⟩
  · rw [h]
    rcases hs' s hs with e | e
    · rw [e]
      exact .inr ⟨32, cs y, rfl, .inl rfl⟩
    · rw [e]
      exact .inr ⟨10, cs y, rfl, .inr rfl⟩
  · rw [h]
    exact .inr ⟨u, r ++ cs s ++ cs y, rfl, hu⟩
theorem bad_short {b : Bool} {x : Str} (h : x ∈ badW b) : x.length ≤ 20 := by
  have q1 : ∀ x ∈ BADN, x.length ≤ 20 := by decide +kernel
  have q2 : ∀ x ∈ BADC, x.length ≤ 20 := by decide +kernel
  cases b with
  | true => exact q1 x h
  | false => exact q2 x h
section
variable {P : Program} {w : World} {K : PySem.W.Frag} {mg : Str → Option Value} {base : Heap} {aK aS : Addr}
abbrev sLaw : Stmt := topS 28
theorem scLaw : FnScope ["script", "draws", "text", "many", "k", "turn", "kind", "word", "row", "column", "rest"] ["script"] (defScope sLaw) := ⟨rfl, rfl, rfl, by decide +kernel, rfl, by decide +kernel, by decide +kernel⟩
def spLaw (K : PySem.W.Frag) : Sp := fun vs H Q _ => ∃ (a : Addr) (ns : List Int), vs = [.ref a] ∧ SqL K H a (ns.map V.int) ∧ ns.length ≤ 63 ∧ ∀ H', Q (.bl true) H'
theorem c_law {f : Addr} {fd : FuncData} (T : Txt K mg aK aS) (c_law_stream : C8.Cal P w K mg base 2 "_law_stream" (spStream K) []) (c_law_pick : C8.Cal P w K mg base 2 "_law_pick" spPick []) (c_law_good : C8.Cal P w K mg base 3 "_law_good" spGood []) (c_law_bad : C8.Cal P w K mg base 3 "_law_bad" spBad [])
    (c_law_between : C8.Cal P w K mg base 3 "_law_between" spBetw []) (c_law_told : C8.Cal P w K mg base 5 "_law_told" spTold []) (F : Fun K "law" "law" sLaw f fd) : FnOk P w K mg base CX0 6 f fd ["script"] (spLaw K) := by
  refine F.ok scLaw (fun vs H Q E h => ?_) (fun cdv A outer s H vs Q E hr h => ?_)
  · obtain ⟨a, ns, rfl, _⟩ := h
    rfl
  obtain ⟨a, ns, rfl, hS, h63, q⟩ := h
  have hu := hu_of hr
  have hu64 := hr.units
  refine ⟨_, (pss_cons (ps_set (i := 1) scLaw.nd rfl (Or.inl rfl) (C8.pe_c c_law_stream hr (by decide) rfl (pa_cons (pv 0) (pa_cons pe_int pa_nil))))
    (pss_cons (ps_set (i := 2) scLaw.nd rfl (Or.inl rfl) pe_str)
    (pss_cons (ps_set (i := 3) scLaw.nd rfl (Or.inl rfl) (C8.pe_c c_law_pick hr (by decide) rfl (pa_cons (pv 1) (pa_cons pe_int pa_nil))))
    (pss_cons (ps_for PassesOwn.never rfl (pi_range1 rfl T.zrange (pa_cons (pv 3) pa_nil)) (pg_name (i := 4) scLaw.nd rfl (Or.inl rfl))
      (pss_one (ps_set (i := 2) scLaw.nd rfl (Or.inl rfl) (pe_op op_add_str (pe_op op_add_str (pv 2) (C8.pe_c c_law_good hr (by decide) rfl (pa_cons (pv 1) pa_nil))) (C8.pe_c c_law_between hr (by decide) rfl (pa_cons (pv 1) pa_nil))))))
    (pss_cons (ps_if (pt_cmpR (op_neD hu64) (C8.pe_c c_law_told hr (by decide) rfl (pa_cons (pv 2) pa_nil)) (pe_tup (pa_cons pe_str (pa_cons (pe_op op_add (pv 3) pe_int) pa_nil))) (nomark _))
      (pss_one (ps_ret pe_bl))
      pss_nil)
    (pss_cons (ps_for PassesOwn.never rfl (pi_range1 rfl T.zrange (pa_cons pe_int pa_nil)) (pg_name (i := 5) scLaw.nd rfl (Or.inl rfl))
      (pss_cons (ps_asg (C8.pe_c c_law_bad hr (by decide) rfl (pa_cons (pv 1) pa_nil)) (pg_tup rfl (pgs_cons (pg_name (i := 6) scLaw.nd rfl (Or.inl rfl)) (pgs_cons (pg_name (i := 7) scLaw.nd rfl (Or.inl rfl)) pgs_nil))))
    (pss_cons (ps_set (i := 8) scLaw.nd rfl (Or.inl rfl) (pe_op op_add (pe_bm PySem.F.plainAttrs_str PySem.F.slot_str_count PySem.F.type_str_count mt_count (pv 2) (pa_cons pe_str pa_nil)) pe_int))
    (pss_cons (ps_set (i := 9) scLaw.nd rfl (Or.inl rfl) (pe_op op_sub (pe_callB call_len_str rfl T.zlen PySem.boot_len (pa_cons (pv 2) pa_nil)) (pe_bm PySem.F.plainAttrs_str PySem.F.slot_str_rfind PySem.F.type_str_rfind mt_rfind (pv 2) (pa_cons pe_str pa_nil))))
    (pss_cons (ps_set (i := 10) scLaw.nd rfl (Or.inl rfl) pe_str)
    (pss_cons (ps_for PassesOwn.never rfl (pi_range1 rfl T.zrange (pa_cons (C8.pe_c c_law_pick hr (by decide) rfl (pa_cons (pv 1) (pa_cons pe_int pa_nil))) pa_nil)) (pg_name (i := 4) scLaw.nd rfl (Or.inl rfl))
      (pss_one (ps_set (i := 10) scLaw.nd rfl (Or.inl rfl) (pe_op op_add_str (pe_op op_add_str (pv 10) (pe_ix ix_list (pe_lst (pa_cons pe_str (pa_cons pe_str pa_nil))) (C8.pe_c c_law_pick hr (by decide) rfl (pa_cons (pv 1) (pa_cons pe_int pa_nil))) (fun _ _ => rfl))) (pe_ix ix_list (pe_lst (pa_cons (C8.pe_c c_law_good hr (by decide) rfl (pa_cons (pv 1) pa_nil)) (pa_cons pe_str (pa_cons pe_str (pa_cons pe_str pa_nil))))) (C8.pe_c c_law_pick hr (by decide) rfl (pa_cons (pv 1) (pa_cons pe_int pa_nil))) (fun _ _ => rfl))))))
    (pss_one (ps_if (pt_cmpR (op_neD hu64) (C8.pe_c c_law_told hr (by decide) rfl (pa_cons (pe_op op_add_str (pe_op op_add_str (pv 2) (pv 7)) (pv 10)) pa_nil)) (pe_tup (pa_cons (pv 6) (pa_cons (pv 8) (pa_cons (pv 9) (pa_cons pe_bl (pa_cons pe_bl pa_nil)))))) (nomark _))
      (pss_one (ps_ret pe_bl))
      pss_nil))))))))
    (pss_one (ps_ret pe_bl)))))))), ?_⟩
  refine ⟨_, rfl, a, ns, 200, rfl, hS, h63, by decide, by decide, fun p r H1 hp s1 d1 => ?_⟩
  refine ⟨_, rfl, p, r, 31, rfl, by decide, d1, fun n H2 n0 n1 k2 d2 => ?_⟩
  refine ⟨_, rfl, n, rfl, by omega, by omega, for_range
    (fun (k : Nat) σ H3 => ∃ (text : Str) (v4 : Option V), σ = [some (.ref a), some (.ref p), some (.str text), some (.int n), v4, none, none, none, none, none, none] ∧ DrawsAt H3 p r ∧ Beg (cs text) k ∧ text.length ≤ 26 * k)
    ⟨"", none, rfl, d2, Beg.start, by decide⟩ ?_ ?_⟩
  · rintro k σ H3 hk ⟨text, v4, rfl, d3, B, hl⟩
    have hk' : k < 31 := by omega
    refine ⟨_, rfl, _, rfl, p, r, rfl, d3, fun x H4 hx k4 d4 => ?_⟩
    have hxs := good_short hx
    refine ⟨text, x, rfl, rfl, Nat.le_of_lt (szl (by omega)), _, rfl, p, r, rfl, d4, fun y H5 hy k5 d5 => ?_⟩
    obtain ⟨_, hys, _⟩ := betw_ok y hy
    have l1 := app_len text x
    have l2 := app_len (text ++ x) y
    refine ⟨text ++ x, y, rfl, rfl, Nat.le_of_lt (szl (by omega)), ?_⟩
    refine ⟨text ++ x ++ y, _, rfl, d5, ?_, by omega⟩
    rw [cs_app, cs_app]
    exact B.more hx hy
  · rintro σ H3 ⟨text, v4, rfl, d3, B, hl⟩
    have hlen : text.length ≤ 900 := by omega
    have hzl : text.length ≤ sizeLine := Nat.le_of_lt (szl (by omega))
    obtain ⟨ts, hts, hlx⟩ := B.whole
    -- the beginning by itself
    refine ⟨_, rfl, text, ts, none, rfl, by omega, hlx, fun t H4 ht s4 htup => ?_⟩
    refine ⟨_, rfl, _, _, rfl, rfl, (by show 2 ≤ sizeLine; decide), fun t2 ht2 => ?_⟩
    have e0 : ([.str "tokens", .int (n + 1)] : List V) = toldV ts.length none := by
      show _ = [V.str "tokens", V.int ((ts.length : Nat) : Int)]
      rw [hts, show ((n.toNat + 1 : Nat) : Int) = n + 1 by omega]
    refine ⟨_, _, .tup (SqT.of (same_new ht2 _ _ _ htup)) (told_dp _ _), .tup (SqT.of (upd_same.trans (congrArg (fun l => some (HO.tup l)) e0))) (told_dp _ _), told_shaped _ _, told_shaped _ _, _, rfl, ?_⟩
    rw [eqv_self (told_shaped _ _)]
    refine iteF ?_
    have d4 : DrawsAt (upd H4 t2 (.tup [.str "tokens", .int (n + 1)])) p r := (d3.same s4).same (same_new ht2 _)
    have e1 : Txt.count text ("\n" : Str) + 1 = ((place (cs text)).1 : Int) := by
      have k : Txt.count text ("\n" : Str) = cnt 10 (cs text) := count_cnt text 10
      have k2 := place_row (cs text) (1, 1)
      show _ = (((cs text).foldl adv (1, 1)).1 : Int)
      rw [k, k2]
      show _ = (1 : Int) + _
      omega
    have e2 : (text.length : Int) - Txt.rfind text ("\n" : Str) = ((place (cs text)).2 : Int) := rfind_col text
    refine ⟨12, rfl, by decide, by decide, for_range
      (fun (k : Nat) σ H5 => ∃ (v4 v5 v6 v7 v8 v9 v10 : Option V), σ = [some (.ref a), some (.ref p), some (.str text), some (.int n), v4, v5, v6, v7, v8, v9, v10] ∧ DrawsAt H5 p r)
      ⟨_, none, none, none, none, none, none, rfl, d4⟩ ?_ ?_⟩
    · rintro k σ H5 hk ⟨v4, v5, v6, v7, v8, v9, v10, rfl, d5⟩
      refine ⟨_, rfl, p, r, rfl, d5, fun b x t H6 hw k6 d6 htu => ?_⟩
      have hxs := bad_short hw
      refine ⟨t, _, rfl, SqT.of htu, rfl, _, _, rfl, _, _, rfl, rfl, ?_⟩
      refine ⟨_, rfl, rfl, text, _, rfl, rfl, _, _, rfl, rfl, ?_⟩
      refine ⟨_, rfl, text, rfl, hzl, _, rfl, rfl, text, _, rfl, rfl, _, _, rfl, rfl, ?_⟩
      refine ⟨_, rfl, p, r, 4, rfl, by decide, d6, fun m H7 m0 m1 k7 d7 => ?_⟩
      refine ⟨m, rfl, by omega, by omega, for_range
        (fun (j : Nat) σ H8 => ∃ (rest : Str) (v4 : Option V), σ = [some (.ref a), some (.ref p), some (.str text), some (.int n), v4, some (.int (0 + (k : Int))), some (.str (kindN b)), some (.str x), some (.int ((place (cs text)).1 : Int)), some (.int ((place (cs text)).2 : Int)), some (.str rest)] ∧ DrawsAt H8 p r ∧ RestOk (cs rest) ∧ rest.length ≤ 14 * j)
        ⟨"", _, (by rw [← e1, ← e2]; rfl), d7, .inl rfl, by decide⟩ ?_ ?_⟩
      · rintro j σ H8 hj ⟨rest, v4', rfl, d8, hrest, hrl⟩
        refine ⟨_, rfl, pick_list (zs := [" ", "\n"]) rfl rfl (by decide) (by decide) d8 fun s5 hs5 H9 k9 d9 => ?_⟩
        have hs5l : s5.length ≤ 1 := by
          have q : ∀ s ∈ ([" ", "\n"] : List Str), s.length ≤ 1 := by decide +kernel
          exact q s5 hs5
        have l1 := app_len rest s5
        refine ⟨rest, s5, rfl, rfl, Nat.le_of_lt (szl (by omega)), ?_⟩
        refine ⟨_, rfl, p, r, rfl, d9, fun g H10 hg k10 d10 => ?_⟩
        have hgs := good_short hg
        refine ⟨(by show 4 ≤ sizeLine; decide), fun l hl => ?_⟩
        refine ⟨_, rfl, p, r, 4, rfl, by decide, d10.new hl _, fun i H11 i0 i1 k11 d11 => ?_⟩
        have npl : l ≠ p := by
          obtain ⟨o, ho⟩ := d10.there
          exact (ne_of_none ho hl).symm
        obtain ⟨y, hy, e⟩ := at_str (zs := [g, "!", "02", "_"]) i0 i1
        have hyl : y.length ≤ 13 := by
          rcases List.mem_cons.mp hy with rfl | hy
          · exact hgs
          · have q : ∀ s ∈ (["!", "02", "_"] : List Str), s.length ≤ 13 := by decide +kernel
            exact q y hy
        refine ⟨l, _, i, _, rfl, rfl, SqL.of (k11 _ _ npl upd_same), e, ?_⟩
        have l2 := app_len (rest ++ s5) y
        refine ⟨rest ++ s5, y, rfl, rfl, Nat.le_of_lt (szl (by omega)), ?_⟩
        exact ⟨rest ++ s5 ++ y, _, rfl, d11, hrest.more hs5, by omega⟩
      · rintro σ H8 ⟨rest, v4', rfl, d8, hrest, hrl⟩
        have hrl' : rest.length ≤ 60 := by omega
        have l1 := app_len text x
        have l2 := app_len (text ++ x) rest
        obtain ⟨ts2, hlx2⟩ := B.bad (k := b) (w := x) (rest := cs rest) (by cases b with | true => exact .inr ⟨hw, rfl⟩ | false => exact .inl ⟨hw, rfl⟩) hrest
        rw [← List.append_assoc, ← cs_app, ← cs_app] at hlx2
        refine ⟨_, rfl, _, rfl, text, x, rfl, rfl, Nat.le_of_lt (szl (by omega)), _, rfl, text ++ x, rest, rfl, rfl, Nat.le_of_lt (szl (by omega)), ?_⟩
        refine ⟨text ++ x ++ rest, ts2, _, rfl, by omega, hlx2, fun t3 H9 ht3 s9 htup3 => ?_⟩
        refine ⟨_, rfl, _, rfl, _, rfl, (by show 5 ≤ sizeLine; decide), fun t4 ht4 => ?_⟩
        refine ⟨_, _, .tup (SqT.of (same_new ht4 _ _ _ htup3)) (told_dp _ _), .tup (SqT.of upd_same) (told_dp ts2.length (some (b, (place (cs text)).1, (place (cs text)).2))), told_shaped _ _, told_shaped _ _, _, rfl, ?_⟩
        rw [eqv_self (told_shaped _ _)]
        refine iteF ?_
        exact ⟨_, _, _, _, _, _, _, rfl, (d8.same s9).same (same_new ht4 _)⟩
    · rintro σ H5 ⟨v4, v5, v6, v7, v8, v9, v10, rfl, d5⟩
      exact q _
end
end Toy

set_option Elab.async false
set_option maxRecDepth 100000
set_option maxHeartbeats 4000000
/-! Part G: what the program's top has left, and the end. -/
namespace Toy
open PySem L2
open PyProof.Rows (envOfC)
def strsAre : List Str → List Value → Bool
  | [], [] => true
  | z :: zs, .str x _ :: us => decide (x = z) && strsAre zs us
  | _, _ => false
theorem strsAre_ok : ∀ {zs : List Str} {us : List Value}, strsAre zs us = true → Vals (zs.map V.str) us
  | [], [], _ => .nil
  | [], _ :: _, h => by simp [strsAre] at h
  | _ :: _, [], h => by simp [strsAre] at h
  | z :: zs, u :: us, h => by
    cases u with
    | str x t =>
      simp only [strsAre, Bool.and_eq_true, decide_eq_true_eq] at h
      exact .cons ⟨t, by rw [h.1]⟩ (strsAre_ok h.2)
    | _ => simp [strsAre] at h
theorem written_tup {K : PySem.W.Frag} {a : Addr} {zs : List Str} {oc : Value} {od : Option Addr} {its : Array Value} {n : Nat} {sl : Array (Option Value)} (hz : zs.length ≤ 1000) (l : K.lookup a = some ⟨oc, od, .seq its n, sl⟩) (c : oc = .type "tuple") (v : strsAre zs its.toList = true) : ∀ H : Hp, SqT K H a (zs.map V.str) := fun H => by
  subst c
  have hv := strsAre_ok v
  have hl := hv.length
  rw [List.length_map] at hl
  have hl' : zs.length = its.size := by rw [hl]; exact Array.length_toList
  exact .inr ⟨_, its, n, l, rfl, rfl, Nat.le_of_lt (szl (by omega)), hv⟩
theorem all_mk {l : PySem.W.OpenLaw} {w : World} {K : PySem.W.Frag} {h : Heap} {mg : Str → Option Value} {fa : Addr} {f0 f1 f2 f3 f4 f5 f6 f7 f8 f9 f10 f11 f12 f13 fI aK aS CE CT CB CN : Addr} (X : K.In h) (G : h.Ns mainGlobals mg) (hfa : mg "law" = some (.ref fa))
    {od0 an0 od1 an1 od2 an2 od3 an3 od4 an4 od5 an5 od6 an6 od7 an7 od8 an8 od9 an9 od10 an10 od11 an11 od12 an12 od13 an13 odI anI odK odS ddB ddN : Option Addr} {sl0 sl1 sl2 sl3 sl4 sl5 sl6 sl7 sl8 sl9 sl10 sl11 sl12 sl13 slI slK slS : Array (Option Value)} {oc0 kV0 dc0 pm0 cd0 ct0 oc1 kV1 dc1 pm1 cd1 ct1 oc2 kV2 dc2 pm2 cd2 ct2 oc3 kV3 dc3 pm3 cd3 ct3 oc4 kV4 dc4 pm4 cd4 ct4 oc5 kV5 dc5 pm5 cd5 ct5 oc6 kV6 dc6 pm6 cd6 ct6 oc7 kV7 dc7 pm7 cd7 ct7 oc8 kV8 dc8 pm8 cd8 ct8 oc9 kV9 dc9 pm9 cd9 ct9 oc10 kV10 dc10 pm10 cd10 ct10 oc11 kV11 dc11 pm11 cd11 ct11 oc12 kV12 dc12 pm12 cd12 ct12 oc13 kV13 dc13 pm13 cd13 ct13 ocI kVI dcI pmI cdI ctI ocK ocS : Value} {itK itS : Array Value} {nK nS : Nat} {tk0 tk1 tk2 tk3 tk4 tk5 : Tok}
    {nmB qB nmN qN : Str} {NB NN : Addr} {bsB bmB subB bsN bmN subN : List Value} {snB snN : List Str} {abB abN : Bool} {colB' colN' : Option Bool} {m0 m1 m2 m3 m5 u0 u1 u2 u3 u5 : Option Value}
    (aE : PySem.W.nsIn K mainGlobals "NeedError" = some (some (.ref CE)))
    (aT : PySem.W.nsIn K mainGlobals "TextError" = some (some (.ref CT)))
    (aB : PySem.W.nsIn K mainGlobals "BadCharacter" = some (some (.ref CB)))
    (aN : PySem.W.nsIn K mainGlobals "BadNumber" = some (some (.ref CN)))
    (rdE : PySem.W.readsIn K CE (.type "type") = true)
    (gaE : PySem.W.specialIn K (.ref CE) "__getattribute__" = some (some (.builtin "type.__getattribute__")))
    (vE : PySem.W.findCls K (.ref CE) (.type "type") "__init__" = some (.val (.builtin "ValueError.__init__")))
    (xB : K.lookup CB = some (PySem.excClassObj nmB qB CB NB bsB bmB true snB subB abB colB' ddB m0 m1 m2 m3 m5 "ValueError.__new__"))
    (rB : PySem.HandSPX.refsVE bmB = true)
    (saB : PySem.W.findIn K (.ref CB) "__setattr__" = some (some (.builtin "object.__setattr__")))
    (exB : PySem.W.subIn K (.ref CB) (.type "BaseException") = some true)
    (tyB : PySem.W.typeIn K (.ref CB) = some (.type "type"))
    (kB : PySem.W.keepIn K (.ref CB) = true)
    (iB : PySem.W.findIn K (.ref CB) "__init__" = some (some (.ref fI)))
    (rowB : PySem.W.findIn K (.ref CB) "row" = some none)
    (colB : PySem.W.findIn K (.ref CB) "column" = some none)
    (gaB : PySem.W.findIn K (.ref CB) "__getattribute__" = some (some (.builtin "BaseException.__getattribute__")))
    (ggB : PySem.W.findIn K (.ref CB) "__getattr__" = some none)
    (hdB : PySem.W.hasDictIn K CB = true)
    (clB : PySem.W.findIn K (.ref CB) "__class__" = some (some (.builtin "object.__class__")))
    (moB : PySem.W.mroIn K CB (.type "object") = some true)
    (xN : K.lookup CN = some (PySem.excClassObj nmN qN CN NN bsN bmN true snN subN abN colN' ddN u0 u1 u2 u3 u5 "ValueError.__new__"))
    (rN : PySem.HandSPX.refsVE bmN = true)
    (saN : PySem.W.findIn K (.ref CN) "__setattr__" = some (some (.builtin "object.__setattr__")))
    (exN : PySem.W.subIn K (.ref CN) (.type "BaseException") = some true)
    (tyN : PySem.W.typeIn K (.ref CN) = some (.type "type"))
    (kN : PySem.W.keepIn K (.ref CN) = true)
    (iN : PySem.W.findIn K (.ref CN) "__init__" = some (some (.ref fI)))
    (rowN : PySem.W.findIn K (.ref CN) "row" = some none)
    (colN : PySem.W.findIn K (.ref CN) "column" = some none)
    (gaN : PySem.W.findIn K (.ref CN) "__getattribute__" = some (some (.builtin "BaseException.__getattribute__")))
    (ggN : PySem.W.findIn K (.ref CN) "__getattr__" = some none)
    (hdN : PySem.W.hasDictIn K CN = true)
    (clN : PySem.W.findIn K (.ref CN) "__class__" = some (some (.builtin "object.__class__")))
    (moN : PySem.W.mroIn K CN (.type "object") = some true)
    (sn : PySem.W.specialIn K (.builtin "object.__class__") "__get__" = some (some (.builtin "getset_descriptor.__get__")))
    (tk : PySem.W.takesIn K (.builtin "object.__class__") = some true)
    (sBB : PySem.W.subIn K (.ref CB) (.ref CB) = some true)
    (sNB : PySem.W.subIn K (.ref CN) (.ref CB) = some false)
    (sNN : PySem.W.subIn K (.ref CN) (.ref CN) = some true)
    (qBN : PySem.W.kitOne K (.ref CB) (.ref CN) = some false)
    (qBT : PySem.W.kitOne K (.ref CB) (.ref CT) = some true)
    (qNT : PySem.W.kitOne K (.ref CN) (.ref CT) = some true)
    (qNE : PySem.W.kitOne K (.ref CN) (.ref CE) = some true)
    (tI : PySem.W.typeIn K (.ref fI) = some (.type "function"))
    (lI : K.lookup fI = some ⟨ocI, odI, .func (PySem.W.fnOf "__init__" "TextError.__init__" (defArgs sErrInit) (defBody sErrInit) (defScope sErrInit) .none kVI dcI pmI anI cdI ctI), slI⟩)
    (cI : PySem.W.codeIn K cdI "TextError.__init__" = true)
    (kI : PySem.W.keepIn K (.ref fI) = true)
    (a0 : PySem.W.nsIn K mainGlobals "_law_mix" = some (some (.ref f0)))
    (l0 : K.lookup f0 = some ⟨oc0, od0, .func (PySem.W.fnOf "_law_mix" "_law_mix" (defArgs sMix) (defBody sMix) (defScope sMix) .none kV0 dc0 pm0 an0 cd0 ct0), sl0⟩)
    (c0 : PySem.W.codeIn K cd0 "_law_mix" = true)
    (k0 : PySem.W.keepIn K (.ref f0) = true)
    (a1 : PySem.W.nsIn K mainGlobals "_law_stream" = some (some (.ref f1)))
    (l1 : K.lookup f1 = some ⟨oc1, od1, .func (PySem.W.fnOf "_law_stream" "_law_stream" (defArgs sStream) (defBody sStream) (defScope sStream) .none kV1 dc1 pm1 an1 cd1 ct1), sl1⟩)
    (c1 : PySem.W.codeIn K cd1 "_law_stream" = true)
    (k1 : PySem.W.keepIn K (.ref f1) = true)
    (a2 : PySem.W.nsIn K mainGlobals "_law_pick" = some (some (.ref f2)))
    (l2 : K.lookup f2 = some ⟨oc2, od2, .func (PySem.W.fnOf "_law_pick" "_law_pick" (defArgs sPick) (defBody sPick) (defScope sPick) .none kV2 dc2 pm2 an2 cd2 ct2), sl2⟩)
    (c2 : PySem.W.codeIn K cd2 "_law_pick" = true)
    (k2 : PySem.W.keepIn K (.ref f2) = true)
    (a3 : PySem.W.nsIn K mainGlobals "_law_good" = some (some (.ref f3)))
    (l3 : K.lookup f3 = some ⟨oc3, od3, .func (PySem.W.fnOf "_law_good" "_law_good" (defArgs sGood) (defBody sGood) (defScope sGood) .none kV3 dc3 pm3 an3 cd3 ct3), sl3⟩)
    (c3 : PySem.W.codeIn K cd3 "_law_good" = true)
    (k3 : PySem.W.keepIn K (.ref f3) = true)
    (a4 : PySem.W.nsIn K mainGlobals "_law_bad" = some (some (.ref f4)))
    (l4 : K.lookup f4 = some ⟨oc4, od4, .func (PySem.W.fnOf "_law_bad" "_law_bad" (defArgs sBad) (defBody sBad) (defScope sBad) .none kV4 dc4 pm4 an4 cd4 ct4), sl4⟩)
    (c4 : PySem.W.codeIn K cd4 "_law_bad" = true)
    (k4 : PySem.W.keepIn K (.ref f4) = true)
    (a5 : PySem.W.nsIn K mainGlobals "_law_between" = some (some (.ref f5)))
    (l5 : K.lookup f5 = some ⟨oc5, od5, .func (PySem.W.fnOf "_law_between" "_law_between" (defArgs sBetw) (defBody sBetw) (defScope sBetw) .none kV5 dc5 pm5 an5 cd5 ct5), sl5⟩)
    (c5 : PySem.W.codeIn K cd5 "_law_between" = true)
    (k5 : PySem.W.keepIn K (.ref f5) = true)
    (a6 : PySem.W.nsIn K mainGlobals "_goes_on" = some (some (.ref f6)))
    (l6 : K.lookup f6 = some ⟨oc6, od6, .func (PySem.W.fnOf "_goes_on" "_goes_on" (defArgs sGoesOn) (defBody sGoesOn) (defScope sGoesOn) .none kV6 dc6 pm6 an6 cd6 ct6), sl6⟩)
    (c6 : PySem.W.codeIn K cd6 "_goes_on" = true)
    (k6 : PySem.W.keepIn K (.ref f6) = true)
    (a7 : PySem.W.nsIn K mainGlobals "_word_at" = some (some (.ref f7)))
    (l7 : K.lookup f7 = some ⟨oc7, od7, .func (PySem.W.fnOf "_word_at" "_word_at" (defArgs sWordAt) (defBody sWordAt) (defScope sWordAt) .none kV7 dc7 pm7 an7 cd7 ct7), sl7⟩)
    (c7 : PySem.W.codeIn K cd7 "_word_at" = true)
    (k7 : PySem.W.keepIn K (.ref f7) = true)
    (a8 : PySem.W.nsIn K mainGlobals "_is_number" = some (some (.ref f8)))
    (l8 : K.lookup f8 = some ⟨oc8, od8, .func (PySem.W.fnOf "_is_number" "_is_number" (defArgs sIsNumber) (defBody sIsNumber) (defScope sIsNumber) .none kV8 dc8 pm8 an8 cd8 ct8), sl8⟩)
    (c8 : PySem.W.codeIn K cd8 "_is_number" = true)
    (k8 : PySem.W.keepIn K (.ref f8) = true)
    (a9 : PySem.W.nsIn K mainGlobals "_comment_end" = some (some (.ref f9)))
    (l9 : K.lookup f9 = some ⟨oc9, od9, .func (PySem.W.fnOf "_comment_end" "_comment_end" (defArgs sCommentEnd) (defBody sCommentEnd) (defScope sCommentEnd) .none kV9 dc9 pm9 an9 cd9 ct9), sl9⟩)
    (c9 : PySem.W.codeIn K cd9 "_comment_end" = true)
    (k9 : PySem.W.keepIn K (.ref f9) = true)
    (a10 : PySem.W.nsIn K mainGlobals "_token_at" = some (some (.ref f10)))
    (l10 : K.lookup f10 = some ⟨oc10, od10, .func (PySem.W.fnOf "_token_at" "_token_at" (defArgs sTokenAt) (defBody sTokenAt) (defScope sTokenAt) .none kV10 dc10 pm10 an10 cd10 ct10), sl10⟩)
    (c10 : PySem.W.codeIn K cd10 "_token_at" = true)
    (k10 : PySem.W.keepIn K (.ref f10) = true)
    (a11 : PySem.W.nsIn K mainGlobals "tokens" = some (some (.ref f11)))
    (l11 : K.lookup f11 = some ⟨oc11, od11, .func (PySem.W.fnOf "tokens" "tokens" (defArgs sTokens) (defBody sTokens) (defScope sTokens) .none kV11 dc11 pm11 an11 cd11 ct11), sl11⟩)
    (c11 : PySem.W.codeIn K cd11 "tokens" = true)
    (k11 : PySem.W.keepIn K (.ref f11) = true)
    (a12 : PySem.W.nsIn K mainGlobals "_law_told" = some (some (.ref f12)))
    (l12 : K.lookup f12 = some ⟨oc12, od12, .func (PySem.W.fnOf "_law_told" "_law_told" (defArgs sTold) (defBody sTold) (defScope sTold) .none kV12 dc12 pm12 an12 cd12 ct12), sl12⟩)
    (c12 : PySem.W.codeIn K cd12 "_law_told" = true)
    (k12 : PySem.W.keepIn K (.ref f12) = true)
    (a13 : PySem.W.nsIn K mainGlobals "law" = some (some (.ref f13)))
    (l13 : K.lookup f13 = some ⟨oc13, od13, .func (PySem.W.fnOf "law" "law" (defArgs sLaw) (defBody sLaw) (defScope sLaw) .none kV13 dc13 pm13 an13 cd13 ct13), sl13⟩)
    (c13 : PySem.W.codeIn K cd13 "law" = true)
    (k13 : PySem.W.keepIn K (.ref f13) = true)
    (cst0 : PySem.W.nsIn K mainGlobals "SMALL_LETTERS" = some (some (.str "abcdefghijklmnopqrstuvwxyz" tk0)))
    (cst1 : PySem.W.nsIn K mainGlobals "CAPITAL_LETTERS" = some (some (.str "ABCDEFGHIJKLMNOPQRSTUVWXYZ" tk1)))
    (cst2 : PySem.W.nsIn K mainGlobals "DIGITS" = some (some (.str "0123456789" tk2)))
    (cst3 : PySem.W.nsIn K mainGlobals "MARKS" = some (some (.str "_'" tk3)))
    (cst4 : PySem.W.nsIn K mainGlobals "LARGEST_NUMBER" = some (some (.int 1000000000000 tk4)))
    (cst5 : PySem.W.nsIn K mainGlobals "MOST_DIGITS" = some (some (.int 13 tk5)))
    (gtK : PySem.W.nsIn K mainGlobals "KEYWORDS" = some (some (.ref aK)))
    (ltK : K.lookup aK = some ⟨ocK, odK, .seq itK nK, slK⟩)
    (ctK : ocK = .type "tuple")
    (vtK : strsAre KW itK.toList = true)
    (gtS : PySem.W.nsIn K mainGlobals "SIGNS" = some (some (.ref aS)))
    (ltS : K.lookup aS = some ⟨ocS, odS, .seq itS nS, slS⟩)
    (ctS : ocS = .type "tuple")
    (vtS : strsAre SG itS.toList = true)
    (zlen : PySem.W.nsIn K mainGlobals "len" = some none)
    (zmin : PySem.W.nsIn K mainGlobals "min" = some none)
    (zint : PySem.W.nsIn K mainGlobals "int" = some none)
    (zrange : PySem.W.nsIn K mainGlobals "range" = some none)
    (zisinstance : PySem.W.nsIn K mainGlobals "isinstance" = some none)
    (zlist : PySem.W.nsIn K mainGlobals "list" = some none) :
    ∃ fd : FuncData, (∀ (s : Shared) (v : Value), BindsTo s fd ⟨[v], []⟩ [("script", v)]) ∧ ∀ base : Heap, K.In base → base.Ns mainGlobals mg → FnOk l.prog w K mg base CX0 6 fa fd ["script"] (spLaw K) := by
  have e := hfa.symm.trans (PySem.W.mg_of X G a13)
  cases e
  have T : Txt K mg aK aS := ⟨PySem.W.mg_none_of X G zlen, PySem.W.mg_none_of X G zmin, PySem.W.mg_none_of X G zint, PySem.W.mg_none_of X G zrange, PySem.W.mg_none_of X G zisinstance, PySem.W.mg_none_of X G zlist, ⟨_, PySem.W.mg_of X G cst0, _, rfl⟩, ⟨_, PySem.W.mg_of X G cst1, _, rfl⟩, ⟨_, PySem.W.mg_of X G cst2, _, rfl⟩, ⟨_, PySem.W.mg_of X G cst3, _, rfl⟩, ⟨_, PySem.W.mg_of X G cst4, _, rfl⟩, ⟨_, PySem.W.mg_of X G cst5, _, rfl⟩, ⟨_, PySem.W.mg_of X G gtK, rfl⟩, ⟨_, PySem.W.mg_of X G gtS, rfl⟩, written_tup (by decide) ltK ctK vtK, written_tup (by decide) ltS ctS vtS⟩
  have OB : OexC K CB := ⟨⟨_, _, _, _, _, _, _, _, _, _, _, _, _, _, _, xB, rB⟩, saB, exB, tyB, kB⟩
  have ON : OexC K CN := ⟨⟨_, _, _, _, _, _, _, _, _, _, _, _, _, _, _, xN, rN⟩, saN, exN, tyN, kN⟩
  have R : Err K mg CE CT CB CN fI := { gE := PySem.W.mg_of X G aE, rE := ⟨rdE, gaE⟩, vE := vE, gT := PySem.W.mg_of X G aT, gB := PySem.W.mg_of X G aB, gN := PySem.W.mg_of X G aN, oB := OB, oN := ON, iB := iB, iN := iN, tI := tI, rowB := rowB, colB := colB, rowN := rowN, colN := colN, xB := ⟨gaB, ggB, exB, hdB⟩, xN := ⟨gaN, ggN, exN, hdN⟩, eB := ⟨gaB, ggB, exB, hdB, clB, sn, tk, moB⟩, eN := ⟨gaN, ggN, exN, hdN, clN, sn, tk, moN⟩, BB := PySem.W.exm_ref exB hdB tyB sBB, NB := PySem.W.exm_ref exB hdB tyB sNB, NN := PySem.W.exm_ref exN hdN tyN sNN, kBN := qBN, kBT := qBT, kNT := qNT, kNE := qNE }
  have FI := fun_mk (st := sErrInit) lI cI kI
  have bI := FI.binds (ps := ["self", "row", "column"]) fun _ _ _ _ _ _ us hl => match us, hl with | [_, _, _], _ => rfl
  have F0 := fun_mk (st := sMix) l0 c0 k0
  have b0 := F0.binds (ps := ["cell", "k"]) fun _ _ _ _ _ _ us hl => match us, hl with | [_, _], _ => rfl
  have F1 := fun_mk (st := sStream) l1 c1 k1
  have b1 := F1.binds (ps := ["script", "most"]) fun _ _ _ _ _ _ us hl => match us, hl with | [_, _], _ => rfl
  have F2 := fun_mk (st := sPick) l2 c2 k2
  have b2 := F2.binds (ps := ["draws", "many"]) fun _ _ _ _ _ _ us hl => match us, hl with | [_, _], _ => rfl
  have F3 := fun_mk (st := sGood) l3 c3 k3
  have b3 := F3.binds (ps := ["draws"]) fun _ _ _ _ _ _ us hl => match us, hl with | [_], _ => rfl
  have F4 := fun_mk (st := sBad) l4 c4 k4
  have b4 := F4.binds (ps := ["draws"]) fun _ _ _ _ _ _ us hl => match us, hl with | [_], _ => rfl
  have F5 := fun_mk (st := sBetw) l5 c5 k5
  have b5 := F5.binds (ps := ["draws"]) fun _ _ _ _ _ _ us hl => match us, hl with | [_], _ => rfl
  have F6 := fun_mk (st := sGoesOn) l6 c6 k6
  have b6 := F6.binds (ps := ["letter"]) fun _ _ _ _ _ _ us hl => match us, hl with | [_], _ => rfl
  have F7 := fun_mk (st := sWordAt) l7 c7 k7
  have b7 := F7.binds (ps := ["text", "at"]) fun _ _ _ _ _ _ us hl => match us, hl with | [_, _], _ => rfl
  have F8 := fun_mk (st := sIsNumber) l8 c8 k8
  have b8 := F8.binds (ps := ["word"]) fun _ _ _ _ _ _ us hl => match us, hl with | [_], _ => rfl
  have F9 := fun_mk (st := sCommentEnd) l9 c9 k9
  have b9 := F9.binds (ps := ["text", "at"]) fun _ _ _ _ _ _ us hl => match us, hl with | [_, _], _ => rfl
  have F10 := fun_mk (st := sTokenAt) l10 c10 k10
  have b10 := F10.binds (ps := ["text", "at", "row", "column"]) fun _ _ _ _ _ _ us hl => match us, hl with | [_, _, _, _], _ => rfl
  have F11 := fun_mk (st := sTokens) l11 c11 k11
  have b11 := F11.binds (ps := ["text"]) fun _ _ _ _ _ _ us hl => match us, hl with | [_], _ => rfl
  have F12 := fun_mk (st := sTold) l12 c12 k12
  have b12 := F12.binds (ps := ["text"]) fun _ _ _ _ _ _ us hl => match us, hl with | [_], _ => rfl
  have F13 := fun_mk (st := sLaw) l13 c13 k13
  have b13 := F13.binds (ps := ["script"]) fun _ _ _ _ _ _ us hl => match us, hl with | [_], _ => rfl
  refine ⟨PySem.W.fnOf "law" "law" (defArgs sLaw) (defBody sLaw) (defScope sLaw) .none kV13 dc13 pm13 an13 cd13 ct13, fun s v => .of_eq rfl, fun base _ _ => ?_⟩
  have CI := ok_errInit (P := l.prog) (w := w) (base := base) R FI
  have C0 := c_mix (P := l.prog) (w := w) (base := base) T F0 b0 (PySem.W.mg_of X G a0)
  have C1 := c_stream (P := l.prog) (w := w) (base := base) T C0 F1 b1 (PySem.W.mg_of X G a1)
  have C2 := c_pick (P := l.prog) (w := w) (base := base) T C0 F2 b2 (PySem.W.mg_of X G a2)
  have C3 := c_good (P := l.prog) (w := w) (base := base) C2 F3 b3 (PySem.W.mg_of X G a3)
  have C4 := c_bad (P := l.prog) (w := w) (base := base) C2 F4 b4 (PySem.W.mg_of X G a4)
  have C5 := c_betw (P := l.prog) (w := w) (base := base) C2 F5 b5 (PySem.W.mg_of X G a5)
  have C6 := c_goesOn (P := l.prog) (w := w) (base := base) T F6 b6 (PySem.W.mg_of X G a6)
  have C7 := c_wordAt (P := l.prog) (w := w) (base := base) T C6 F7 b7 (PySem.W.mg_of X G a7)
  have C8 := c_isNumber (P := l.prog) (w := w) (base := base) T F8 b8 (PySem.W.mg_of X G a8)
  have C9 := c_commentEnd (P := l.prog) (w := w) (base := base) T F9 b9 (PySem.W.mg_of X G a9)
  have C10 := c_tokenAt (P := l.prog) (w := w) (base := base) T R CI bI C7 C8 F10 b10 (PySem.W.mg_of X G a10)
  have C11 := c_tokens (fI := fI) (CE := CE) (CT := CT) (P := l.prog) (w := w) (base := base) T C9 C10 F11 b11 (PySem.W.mg_of X G a11)
  have C12 := c_told (P := l.prog) (w := w) (base := base) T R C11 F12 b12 (PySem.W.mg_of X G a12)
  exact c_law T C1 C2 C3 C4 C5 C12 F13
theorem walk {l : PySem.W.OpenLaw} {q : Program} {loose : List Str} {XP : (Str → Option Value) → Heap → Prop} {YP : World → Heap → Prop} {d : DefRec} {K : Params → PySem.W.Frag} (hn : l.most = some 63) (hdf : d.params.defaults = [])
    (hY : ∀ (w : World) (h : Heap), YP w h → (K w.params).In h)
    (F : ∀ (w : World) (mg : Str → Option Value) (fa : Addr) (h : Heap), (K w.params).In h → h.Ns mainGlobals mg → mg d.name = some (.ref fa) →
      ∃ fd : FuncData, (∀ (s : Shared) (u : Value), BindsTo s fd ⟨[u], []⟩ [("script", u)]) ∧ ∀ base : Heap, (K w.params).In base → base.Ns mainGlobals mg → FnOk l.prog w (K w.params) mg base CX0 6 fa fd ["script"] (spLaw (K w.params))) :
    PySem.W.WalkO q loose XP YP l.row.toRowW d [] (fun f vs => PySem.call f vs) :=
  L2.walk_of (n := 63) (k := 6) (x := "script") (CX := fun _ => CX0) (sp := fun w => spLaw (K w.params)) hn (by decide) hdf ⟨rfl, by decide, by decide⟩ hY F (fun _ _ a ns hl _ hS => ⟨a, ns, rfl, hS, hl, fun _ => rfl⟩) fun _ _ _ _ _ z => z
end Toy
open PySem PySem.W PyProof.Rows
set_option maxRecDepth 100000 in
set_option maxHeartbeats 0 in
theorem PySem.Challenge.cw_needonce_k01_texts_with_a_bad_place_holds : PySem.Challenge.rw_needonce_k01_texts_with_a_bad_place.Holds := by
  w_on; o_law; k_head; (case hw => w_witness2)
  k_fill
  refine Toy.walk (l := PySem.Challenge.rw_needonce_k01_texts_with_a_bad_place) rfl rfl (fun w h Y => PySem.W.kIn_of Y) ?F
  case F =>
    intro w mg fa h KX G hmg
    refine' Toy.all_mk KX G hmg ?aE ?aT ?aB ?aN ?rdE ?gaE ?vE ?xB ?rB ?saB ?exB ?tyB ?kB ?iB ?rowB ?colB ?gaB ?ggB ?hdB ?clB ?moB ?xN ?rN ?saN ?exN ?tyN ?kN ?iN ?rowN ?colN ?gaN ?ggN ?hdN ?clN ?moN ?sn ?tk ?sBB ?sNB ?sNN ?qBN ?qBT ?qNT ?qNE ?tI ?lI ?cI ?kI ?a0 ?l0 ?c0 ?k0 ?a1 ?l1 ?c1 ?k1 ?a2 ?l2 ?c2 ?k2 ?a3 ?l3 ?c3 ?k3 ?a4 ?l4 ?c4 ?k4 ?a5 ?l5 ?c5 ?k5 ?a6 ?l6 ?c6 ?k6 ?a7 ?l7 ?c7 ?k7 ?a8 ?l8 ?c8 ?k8 ?a9 ?l9 ?c9 ?k9 ?a10 ?l10 ?c10 ?k10 ?a11 ?l11 ?c11 ?k11 ?a12 ?l12 ?c12 ?k12 ?a13 ?l13 ?c13 ?k13 ?cst0 ?cst1 ?cst2 ?cst3 ?cst4 ?cst5 ?gtK ?ltK ?ctK ?vtK ?gtS ?ltS ?ctS ?vtS ?zlen ?zmin ?zint ?zrange ?zisinstance ?zlist
    (case aE => k_is)
    (case aT => k_is)
    (case aB => k_is)
    (case aN => k_is)
    (case rdE => k_is)
    (case gaE => k_is)
    (case vE => k_is)
    (case xB => k_is)
    (case rB => decide +kernel)
    (case saB => k_is)
    (case exB => k_is)
    (case tyB => k_is)
    (case kB => k_is)
    (case iB => k_is)
    (case rowB => k_is)
    (case colB => k_is)
    (case gaB => k_is)
    (case ggB => k_is)
    (case hdB => k_is)
    (case clB => k_is)
    (case moB => k_is)
    (case xN => k_is)
    (case rN => decide +kernel)
    (case saN => k_is)
    (case exN => k_is)
    (case tyN => k_is)
    (case kN => k_is)
    (case iN => k_is)
    (case rowN => k_is)
    (case colN => k_is)
    (case gaN => k_is)
    (case ggN => k_is)
    (case hdN => k_is)
    (case clN => k_is)
    (case moN => k_is)
    (case sn => k_is)
    (case tk => k_is)
    (case sBB => first | k_is | rfl)
    (case sNB => first | k_is | rfl)
    (case sNN => first | k_is | rfl)
    (case qBN => first | k_is | kit_is)
    (case qBT => first | k_is | kit_is)
    (case qNT => first | k_is | kit_is)
    (case qNE => first | k_is | kit_is)
    (case tI => k_is)
    (case lI => k_is)
    (case cI => k_is)
    (case kI => k_is)
    (case a0 => k_is)
    (case l0 => k_is)
    (case c0 => k_is)
    (case k0 => k_is)
    (case a1 => k_is)
    (case l1 => k_is)
    (case c1 => k_is)
    (case k1 => k_is)
    (case a2 => k_is)
    (case l2 => k_is)
    (case c2 => k_is)
    (case k2 => k_is)
    (case a3 => k_is)
    (case l3 => k_is)
    (case c3 => k_is)
    (case k3 => k_is)
    (case a4 => k_is)
    (case l4 => k_is)
    (case c4 => k_is)
    (case k4 => k_is)
    (case a5 => k_is)
    (case l5 => k_is)
    (case c5 => k_is)
    (case k5 => k_is)
    (case a6 => k_is)
    (case l6 => k_is)
    (case c6 => k_is)
    (case k6 => k_is)
    (case a7 => k_is)
    (case l7 => k_is)
    (case c7 => k_is)
    (case k7 => k_is)
    (case a8 => k_is)
    (case l8 => k_is)
    (case c8 => k_is)
    (case k8 => k_is)
    (case a9 => k_is)
    (case l9 => k_is)
    (case c9 => k_is)
    (case k9 => k_is)
    (case a10 => k_is)
    (case l10 => k_is)
    (case c10 => k_is)
    (case k10 => k_is)
    (case a11 => k_is)
    (case l11 => k_is)
    (case c11 => k_is)
    (case k11 => k_is)
    (case a12 => k_is)
    (case l12 => k_is)
    (case c12 => k_is)
    (case k12 => k_is)
    (case a13 => k_is)
    (case l13 => k_is)
    (case c13 => k_is)
    (case k13 => k_is)
    (case cst0 => k_is)
    (case cst1 => k_is)
    (case cst2 => k_is)
    (case cst3 => k_is)
    (case cst4 => k_is)
    (case cst5 => k_is)
    (case gtK => k_is)
    (case ltK => k_is)
    (case ctK => rfl)
    (case vtK => decide +kernel)
    (case gtS => k_is)
    (case ltS => k_is)
    (case ctS => rfl)
    (case vtS => decide +kernel)
    (case zlen => k_is)
    (case zmin => k_is)
    (case zint => k_is)
    (case zrange => k_is)
    (case zisinstance => k_is)
    (case zlist => k_is)

