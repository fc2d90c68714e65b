import PyProof.Rows.All
import Wide.All
import OpenK.AllK
import Wide.FinOn
import HandS.ForMost
import HandS.Codes
import HandS.IsInst
import HandS.Conv
import HandS.StrMore
import KE.OsScanText
import KE.KStrWords
import KE.KxText
import HandS.More
import HandS.Rev
import HandS.NoneIn
import HandS.TupAny
import HandS.Star
import HandS.Iter
import HandS.CallLocal
import HandS.FStr
import PySem.Challenge.RW_needonce_k03_types_written_and_read
import HandS.Style
set_option Elab.async false
set_option maxRecDepth 100000
set_option maxHeartbeats 4000000
/-! Part A: how defs are called, the drawing of numbers from the script. -/
namespace Toy
open PySem L2
open PyProof.Rows (envOfC)
def topS (i : Nat) : Stmt := PySem.Challenge.pw_needonce_k03_types_written_and_read.main.body.getD i (.Pass ⟨0, 0, 0, 0⟩)
theorem boot_min : bootBuiltins "min" = some (.builtin "min") := by decide +kernel
theorem boot_isinstance : bootBuiltins "isinstance" = some (.builtin "isinstance") := by decide +kernel
theorem boot_int : bootBuiltins "int" = some (.type "int") := by decide +kernel
theorem boot_list : bootBuiltins "list" = some (.type "list") := by decide +kernel
def KW : List Str := ["data", "class", "instance", "where", "let", "in", "case", "of", "if", "then", "else", "div", "mod", "note"]
def SG : List Str := ["->", "=>", "::", "==", "<=", "=", "|", "\\", "(", ")", "[", "]", ",", ";", "{", "}", "+", "-", "*", "<", ":"]
/-- a written row of texts: what it is -/
def tStrs (zs : List Str) : TA := fun _ H Q => Q (zs.map V.str) H
def strE : Expr → Option Str
  | .Constant (.str z) _ _ => some z
  | _ => none
theorem strE_is {e : Expr} {z : Str} (h : strE e = some z) : ∃ j pos, e = .Constant (.str z) j pos := by
  unfold strE at h
  split at h
  · cases h
    exact ⟨_, _, rfl⟩
  · cases h
/-- a written row of texts -/
theorem pa_strs {X : Cx} : ∀ {es : List Expr} {zs : List Str}, es.map strE = zs.map some → PA X es (tStrs zs)
  | [], [], _ => pa_nil
  | [], _ :: _, h => by cases h
  | _ :: _, [], h => by cases h
  | e :: es, z :: zs, h => by
    rw [List.map_cons, List.map_cons] at h
    obtain ⟨h1, h2⟩ := List.cons.inj h
    obtain ⟨j, pos, rfl⟩ := strE_is h1
    exact pa_cons pe_str (pa_strs h2)
theorem strs_read {zs : List Str} {σ : L2.St} {H : Hp} {Q : List V → Hp → Prop} (h : Q (zs.map V.str) H) : tStrs zs σ H Q := h
/-- what the proofs ask of the module's names -/
structure Txt (K : PySem.W.Frag) (mg : Str → Option Value) (aK aS : Addr) : Prop where
  zlen : mg "len" = none
  zmin : mg "min" = none
  zint : mg "int" = none
  zrange : mg "range" = none
  zisinstance : mg "isinstance" = none
  zlist : mg "list" = none
  gSMALL_LETTERS : ∃ u, mg "SMALL_LETTERS" = some u ∧ RelV (.str "abcdefghijklmnopqrstuvwxyz") u
  gCAPITAL_LETTERS : ∃ u, mg "CAPITAL_LETTERS" = some u ∧ RelV (.str "ABCDEFGHIJKLMNOPQRSTUVWXYZ") u
  gDIGITS : ∃ u, mg "DIGITS" = some u ∧ RelV (.str "0123456789") u
  gMARKS : ∃ u, mg "MARKS" = some u ∧ RelV (.str "_'") u
  gLARGEST_NUMBER : ∃ u, mg "LARGEST_NUMBER" = some u ∧ RelV (.int 1000000000000) u
  gMOST_DIGITS : ∃ u, mg "MOST_DIGITS" = some u ∧ RelV (.int 13) u
  gKEYWORDS : ∃ u, mg "KEYWORDS" = some u ∧ RelV (.ref aK) u
  gSIGNS : ∃ u, mg "SIGNS" = some u ∧ RelV (.ref aS) u
  kKEYWORDS : ∀ H : Hp, SqT K H aK (KW.map V.str)
  kSIGNS : ∀ H : Hp, SqT K H aS (SG.map V.str)
section
variable {P : Program} {w : World} {K : PySem.W.Frag} {mg : Str → Option Value} {base : Heap} {aK aS : Addr}
/-- a def as one that may be called by its name -/
theorem cal_of {x : Str} {st : Stmt} {f : Addr} {fd : FuncData} {N ps : List Str} {k : Nat} {sp : Sp} (F : Fun K x x st f fd) (hm : mg x = some (.ref f)) (b : Binds K fd ps []) (S : FnScope N ps (defScope st)) (len : ∀ vs H Q E, sp vs H Q E → vs.length = ps.length)
    (hbody : ∀ (cdv : Value) (A : Around) (outer : List Env) (s : Shared) (H : Hp) (vs : List V) (Q : VK) (E : XK), Room k (A.deeper (envOfC x (defScope st) s.heap.objs.size f cdv)) → sp vs H Q E →
      ∃ t, PSs (cxOf CX0 P w K mg base N x (defScope st) f cdv A outer s H E).nox (defBody st) t ∧ t { nx := fun _ H' => Q .non H', rt := Q } (start N vs) H) : C8.Cal P w K mg base (k + 1) x sp [] :=
  ⟨f, fd, ps, [], F.ok S len hbody, hm, F.kp, b, .nil⟩
theorem same_new {H : Hp} {p : Addr} (h : H p = none) (o : HO) : Same H (upd H p o) := fun b u q => by rw [upd_ne (ne_of_none q h)]; exact q
theorem same_upd {H H' : Hp} {p : Addr} (h : H p = none) (s : Same H H') (o : HO) : Same H (upd H' p o) := fun b u q => by rw [upd_ne (ne_of_none q h)]; exact s b u q
theorem szl {n : Nat} (h : n ≤ 100000) : n < sizeLine := Nat.lt_of_le_of_lt h (by decide)
theorem at_ok {α : Type} {xs : List α} {k : Nat} (h : k < xs.length) : atI xs (0 + (k : Int)) = some xs[k] := by
  rw [Int.zero_add]
  exact atI_nat (List.getElem?_eq_getElem h)
theorem at_int {ns : List Int} {i : Int} (h0 : 0 ≤ i) (h1 : i < (ns.length : Int)) : ∃ v : Int, atI (ns.map V.int) i = some (.int v) := by
  have hk : i.toNat < ns.length := by omega
  refine ⟨ns[i.toNat], ?_⟩
  have q : atI (ns.map V.int) ((i.toNat : Nat) : Int) = some (.int ns[i.toNat]) := atI_nat (by rw [List.getElem?_map, List.getElem?_eq_getElem hk] <;> rfl)
  rw [show ((i.toNat : Nat) : Int) = i by omega] at q
  exact q

/-! ### a number made of two -/
abbrev sMix : Stmt := topS 51
theorem scMix : FnScope ["cell", "k", "low"] ["cell", "k"] (defScope sMix) := ⟨rfl, rfl, rfl, by decide +kernel, rfl, by decide +kernel, by decide +kernel⟩
/-- some number below 1000 -/
def spMix : Sp := fun vs H Q _ => ∃ c k : Int, vs = [.int c, .int k] ∧ ∀ n : Int, 0 ≤ n → n < 1000 → Q (.int n) H
theorem c_mix {f : Addr} {fd : FuncData} (T : Txt K mg aK aS) (F : Fun K "_law_mix" "_law_mix" sMix f fd) (b : Binds K fd ["cell", "k"] []) (hm : mg "_law_mix" = some (.ref f)) : C8.Cal P w K mg base 1 "_law_mix" spMix [] := by
  refine cal_of F hm b scMix (fun vs H Q E h => ?_) (fun cdv A outer s H vs Q E hr h => ?_)
  · obtain ⟨c, k, rfl, _⟩ := h
    rfl
  obtain ⟨c, k, rfl, q⟩ := h
  refine ⟨_, (pss_cons (ps_set (i := 2) scMix.nd rfl (Or.inl rfl) (pe_op op_mod (pe_callTy call_int1 rfl T.zint boot_int (pa_cons (pe_op op_add (pe_op op_add (pe_op op_mul (pv 0) pe_int) (pe_op op_mul (pv 1) pe_int)) pe_int) pa_nil)) pe_int))
    (pss_one (ps_ret (pe_op op_mod (pe_op op_mod (pe_callTy call_int1 rfl T.zint boot_int (pa_cons (pe_op op_add (pe_op op_add (pe_op op_add (pe_op op_mul (pv 2) (pv 2)) (pe_op op_mul (pv 0) pe_int)) (pe_op op_mul (pv 1) pe_int)) pe_int) pa_nil)) pe_int) pe_int)))), ?_⟩
  refine ⟨_, rfl, _, _, rfl, rfl, .inr (by decide), _, rfl, _, _, rfl, rfl, .inr (by decide), _, _, rfl, rfl, _, _, rfl, rfl, .inl ⟨_, rfl, _, _, rfl, rfl, (show (0 : Int) < 2147483647 by decide), ?_⟩⟩
  refine ⟨_, rfl, _, rfl, _, _, rfl, rfl, .inl ?_, _, rfl, _, _, rfl, rfl, .inr (by decide), _, _, rfl, rfl, _, rfl, _, _, rfl, rfl, .inr (by decide), _, _, rfl, rfl, _, _, rfl, rfl, .inl ⟨_, rfl, _, _, rfl, rfl, (show (0 : Int) < 1000003 by decide), _, _, rfl, rfl, (show (0 : Int) < 1000 by decide), ?_⟩⟩
  · omega
  · exact q _ (by omega) (by omega)

/-! ### the draws of a script -/
def dk3 (r : Addr) (i z : Int) : List (Key × V) := [(Sum.inr "row", .ref r), (Sum.inr "at", .int i), (Sum.inr "seed", .int z)]
theorem nk_ra : ¬ (Sum.inr ("row" : Str) : Key) = Sum.inr ("at" : Str) := by decide +kernel
theorem nk_rs : ¬ (Sum.inr ("row" : Str) : Key) = Sum.inr ("seed" : Str) := by decide +kernel
theorem nk_as : ¬ (Sum.inr ("at" : Str) : Key) = Sum.inr ("seed" : Str) := by decide +kernel
theorem nk_sa : ¬ (Sum.inr ("seed" : Str) : Key) = Sum.inr ("at" : Str) := by decide +kernel
theorem dk_row (r : Addr) (i z : Int) : valV (dk3 r i z) (Sum.inr "row" : Key) = some (.ref r) := valV_pos rfl
theorem dk_at (r : Addr) (i z : Int) : valV (dk3 r i z) (Sum.inr "at" : Key) = some (.int i) := (valV_neg nk_ra).trans (valV_pos rfl)
theorem dk_seed (r : Addr) (i z : Int) : valV (dk3 r i z) (Sum.inr "seed" : Key) = some (.int z) := (valV_neg nk_rs).trans ((valV_neg nk_as).trans (valV_pos rfl))
theorem dk_put (r : Addr) (i z j : Int) : putK (dk3 r i z) (Sum.inr "at" : Key) (.int j) = dk3 r j z := by
  have h1 : ¬ ("row" : Str) = "at" := by decide +kernel
  have h2 : ¬ ("seed" : Str) = "at" := by decide +kernel
  simp [putK, dk3, h1, h2]
theorem dk_merge (r : Addr) (z : Int) : mergeK [] [(Sum.inr "row", .ref r), (Sum.inr "at", .int 0), (Sum.inr "seed", .int z)] = dk3 r 0 z := by
  have h1 : ¬ ("row" : Str) = "at" := by decide +kernel
  have h2 : ¬ ("row" : Str) = "seed" := by decide +kernel
  have h3 : ¬ ("at" : Str) = "seed" := by decide +kernel
  simp [mergeK, putK, dk3, h1, h2, h3]
/-- a reader of draws stands at p -/
def DrawsAt (H : Hp) (p r : Addr) : Prop := ∃ (row : List Int) (i : Nat) (z : Int), H p = some (.dK (dk3 r (i : Int) z)) ∧ H r = some (.lst (row.map V.int))
theorem DrawsAt.same {H H' : Hp} {p r : Addr} (d : DrawsAt H p r) (s : Same H H') : DrawsAt H' p r := by
  obtain ⟨row, i, z, h1, h2⟩ := d
  exact ⟨row, i, z, s _ _ h1, s _ _ h2⟩
/-- all but p stays -/
def Keep (p : Addr) (H H' : Hp) : Prop := ∀ b o, b ≠ p → H b = some o → H' b = some o
abbrev sPick : Stmt := topS 53
theorem scPick : FnScope ["draws", "many", "at", "number"] ["draws", "many"] (defScope sPick) := ⟨rfl, rfl, rfl, by decide +kernel, rfl, by decide +kernel, by decide +kernel⟩
/-- some number below m; the reader moves on -/
def spPick : Sp := fun vs H Q _ => ∃ (p r : Addr) (m : Int), vs = [.ref p, .int m] ∧ 0 < m ∧ DrawsAt H p r ∧ ∀ (n : Int) (H' : Hp), 0 ≤ n → n < m → Keep p H H' → DrawsAt H' p r → Q (.int n) H'
theorem c_pick {f : Addr} {fd : FuncData} (T : Txt K mg aK aS) (c_law_mix : C8.Cal P w K mg base 1 "_law_mix" spMix []) (F : Fun K "_law_pick" "_law_pick" sPick f fd) (b : Binds K fd ["draws", "many"] []) (hm : mg "_law_pick" = some (.ref f)) : C8.Cal P w K mg base 2 "_law_pick" spPick [] := by
  refine cal_of F hm b scPick (fun vs H Q E h => ?_) (fun cdv A outer s H vs Q E hr h => ?_)
  · obtain ⟨p, r, m, rfl, _⟩ := h
    rfl
  obtain ⟨p, r, m, rfl, hm0, ⟨row, i, z, hp, hrow⟩, q⟩ := h
  have hu := hu_of hr
  have npr : r ≠ p := ne_of hrow hp (by intro z; cases z)
  refine ⟨_, (pss_cons (ps_set (i := 2) scPick.nd rfl (Or.inl rfl) (pe_dget hu (pv 0) pe_str (fun _ _ => rfl)))
    (pss_cons (ps_dput hu (pv 0) pe_str (pe_op op_add (pv 2) pe_int) rfl)
    (pss_cons (ps_set (i := 3) scPick.nd rfl (Or.inl rfl) (C8.pe_c c_law_mix hr (by decide) rfl (pa_cons (pe_dget hu (pv 0) pe_str (fun _ _ => rfl)) (pa_cons (pv 2) pa_nil))))
    (pss_cons (ps_if (pt_cmpR op_lt (pv 2) (pe_callB call_len_seq rfl T.zlen PySem.boot_len (pa_cons (pe_dget hu (pv 0) pe_str (fun _ _ => rfl)) pa_nil)) (nomark _))
      (pss_one (ps_set (i := 3) scPick.nd rfl (Or.inl rfl) (pe_ix ix_list (pe_dget hu (pv 0) pe_str (fun _ _ => rfl)) (pv 2) (fun _ _ => rfl))))
      pss_nil)
    (pss_one (ps_ret (pe_op op_mod (pe_callTy call_int1 rfl T.zint boot_int (pa_cons (pv 3) pa_nil)) (pv 1)))))))), ?_⟩
  refine ⟨_, rfl, p, _, rfl, (dk_at r i z ▸ DGet.k (k := Sum.inr "at") hp), ?_⟩
  refine ⟨_, rfl, _, _, rfl, rfl, _, rfl, p, _, rfl, DPut.k (k := Sum.inr "at") hp (by show 3 < sizeLine; decide), ?_⟩
  rw [dk_put]
  have hp2 : upd H p (.dK (dk3 r ((i : Int) + 1) z)) p = some (.dK (dk3 r ((i : Int) + 1) z)) := upd_same
  have hr2 : upd H p (.dK (dk3 r ((i : Int) + 1) z)) r = some (.lst (row.map V.int)) := by rw [upd_ne npr]; exact hrow
  have fin : ∀ n : Int, 0 ≤ n → n < m → Q (.int n) (upd H p (.dK (dk3 r ((i : Int) + 1) z))) := fun n h0 h1 =>
    q n _ h0 h1 (fun b o hb e => by rw [upd_ne hb]; exact e) ⟨row, i + 1, z, by rw [upd_same]; rfl, hr2⟩
  refine ⟨_, rfl, p, _, rfl, (dk_seed r _ z ▸ DGet.k (k := Sum.inr "seed") hp2), _, rfl, _, _, rfl, fun n h0 h1 => ?_⟩
  refine ⟨_, rfl, _, rfl, p, _, rfl, (dk_row r _ z ▸ DGet.k (k := Sum.inr "row") hp2), r, _, rfl, .inl (SqL.of hr2), _, _, rfl, rfl, _, rfl, ?_⟩
  refine ite2 (fun c => ?_) (fun c => ?_)
  · have c' : (i : Int) < (((row.map V.int).length : Nat) : Int) := of_decide_eq_true c
    rw [List.length_map] at c'
    obtain ⟨v, hv⟩ := at_int (ns := row) (i := (i : Int)) (by omega) c'
    refine ⟨_, rfl, p, _, rfl, (dk_row r _ z ▸ DGet.k (k := Sum.inr "row") hp2), _, rfl, r, _, _, _, rfl, rfl, SqL.of hr2, hv, ?_⟩
    refine ⟨_, rfl, .inl ⟨_, rfl, _, rfl, _, _, rfl, rfl, hm0, ?_⟩⟩
    exact fin _ (Int.emod_nonneg _ (by omega)) (Int.emod_lt_of_pos _ hm0)
  · refine ⟨_, rfl, .inl ⟨_, rfl, _, rfl, _, _, rfl, rfl, hm0, ?_⟩⟩
    exact fin _ (Int.emod_nonneg _ (by omega)) (Int.emod_lt_of_pos _ hm0)
abbrev sStream : Stmt := topS 52
theorem scStream : FnScope ["script", "most", "row", "k", "rest", "j"] ["script", "most"] (defScope sStream) := ⟨rfl, rfl, rfl, by decide +kernel, rfl, by decide +kernel, by decide +kernel⟩
def spStream (K : PySem.W.Frag) : Sp := fun vs H Q _ => ∃ (a : Addr) (ns : List Int) (m : Int), vs = [.ref a, .int m] ∧ SqL K H a (ns.map V.int) ∧ ns.length ≤ 63 ∧ 0 ≤ m ∧ m ≤ 1000 ∧
  ∀ (p r : Addr) (H' : Hp), H p = none → Same H H' → DrawsAt H' p r → Q (.ref p) H'
theorem c_stream {f : Addr} {fd : FuncData} (T : Txt K mg aK aS) (c_law_mix : C8.Cal P w K mg base 1 "_law_mix" spMix []) (F : Fun K "_law_stream" "_law_stream" sStream f fd) (b : Binds K fd ["script", "most"] []) (hm : mg "_law_stream" = some (.ref f)) : C8.Cal P w K mg base 2 "_law_stream" (spStream K) [] := by
  refine cal_of F hm b scStream (fun vs H Q E h => ?_) (fun cdv A outer s H vs Q E hr h => ?_)
  · obtain ⟨a, ns, m, rfl, _⟩ := h
    rfl
  obtain ⟨a, ns, m, rfl, hS, h63, hm0, hm1, q⟩ := h
  refine ⟨_, (pss_cons (ps_set (i := 2) scStream.nd rfl (Or.inl rfl) (pe_lst pa_nil))
    (pss_cons (ps_for PassesOwn.never rfl (pi_range1 rfl T.zrange (pa_cons (pe_callB (call_min2 rfl) rfl T.zmin boot_min (pa_cons (pe_callB call_len_seq rfl T.zlen PySem.boot_len (pa_cons (pv 0) pa_nil)) (pa_cons pe_int pa_nil))) pa_nil)) (pg_name (i := 3) scStream.nd rfl (Or.inl rfl))
      (pss_cons (ps_set (i := 4) scStream.nd rfl (Or.inl rfl) (pe_ix ix_list (pv 0) (pv 3) (fun _ _ => rfl)))
    (pss_one (ps_if (pt_cmpR op_ge (pv 4) (pe_op op_pow pe_int pe_int) (nomark _))
      (pss_one (ps_for PassesOwn.never rfl (pi_range1 rfl T.zrange (pa_cons pe_int pa_nil)) (pg_name (i := 5) scStream.nd rfl (Or.inl rfl))
      (pss_one (ps_if (PW.pt (pw_and (pt_cmpR op_gt (pv 4) pe_int (nomark _)) (pw_and1 (pt_cmpR op_lt (pe_callB call_len_seq rfl T.zlen PySem.boot_len (pa_cons (pv 2) pa_nil)) (pv 1) (nomark _)))))
      (pss_cons (ps_expr (pe_bm PySem.F.plainAttrs_list PySem.F.slot_list_append PySem.F.type_list_append mt_append (pv 2) (pa_cons (pe_op op_mod (pe_callTy call_int1 rfl T.zint boot_int (pa_cons (pv 4) pa_nil)) pe_int) pa_nil)))
    (pss_one (ps_set (i := 4) scStream.nd rfl (Or.inl rfl) (pe_op op_fdiv (pv 4) pe_int))))
      pss_nil))))
      (pss_one (ps_for PassesOwn.never rfl (pi_range1 rfl T.zrange (pa_cons pe_int pa_nil)) (pg_name (i := 5) scStream.nd rfl (Or.inl rfl))
      (pss_one (ps_if (pt_cmpR op_lt (pe_callB call_len_seq rfl T.zlen PySem.boot_len (pa_cons (pv 2) pa_nil)) (pv 1) (nomark _))
      (pss_one (ps_expr (pe_bm PySem.F.plainAttrs_list PySem.F.slot_list_append PySem.F.type_list_append mt_append (pv 2) (pa_cons (C8.pe_c c_law_mix hr (by decide) rfl (pa_cons (pv 4) (pa_cons (pe_op op_add (pe_op op_mul pe_int (pv 5)) (pv 3)) pa_nil))) pa_nil))))
      pss_nil))))))))
    (pss_one (ps_ret (pe_disp (pps_cons pe_str (pv 2) (pps_cons pe_str pe_int (pps_cons pe_str (pe_callB call_len_seq rfl T.zlen PySem.boot_len (pa_cons (pv 2) pa_nil)) pps_nil))) rfl rfl (by decide) (by decide)))))), ?_⟩
  -- row = []
  refine ⟨(by show 0 ≤ sizeLine; decide), fun r hr0 => ?_⟩
  -- for k in range(min(len(script), 63))
  refine ⟨_, rfl, a, _, rfl, .inl ((same_new hr0 _).seq hS), _, _, rfl, _, rfl, ?_, ?_, for_range
    (fun (k : Nat) σ H2 => ∃ (kk rest jj : Option V) (row : List Int), σ = [some (.ref a), some (.int m), some (.ref r), kk, rest, jj] ∧ Same H H2 ∧ H2 r = some (.lst (row.map V.int)) ∧ (row.length : Int) ≤ m)
    ⟨none, none, none, [], rfl, same_new hr0 _, upd_same, by simpa using hm0⟩ ?_ ?_⟩
  · split <;> omega
  · rw [List.length_map]
    split <;> omega
  · rintro k σ H2 hk ⟨kk, rest, jj, row, rfl, s2, hrow, hl⟩
    have hk' : (k : Int) < (ns.length : Int) := by
      rw [List.length_map] at hk
      split at hk <;> omega
    obtain ⟨v, hv⟩ := at_int (ns := ns) (i := 0 + (k : Int)) (by omega) (by omega)
    refine ⟨_, rfl, _, rfl, a, _, _, _, rfl, rfl, s2.seq hS, hv, ?_⟩
    refine ⟨_, rfl, _, _, rfl, rfl, ⟨by decide, by decide, by decide⟩, _, _, rfl, rfl, _, rfl, ?_⟩
    refine ite2 (fun _ => ?_) (fun _ => ?_)
    -- a long cell: its digits
    · refine ⟨60, rfl, by decide, by decide, for_range (fun (j : Nat) σ H3 => ∃ (jj : Option V) (rest : Int) (row : List Int), σ = [some (.ref a), some (.int m), some (.ref r), some (.int (0 + (k : Int))), some (.int rest), jj] ∧ Same H H3 ∧ H3 r = some (.lst (row.map V.int)) ∧ (row.length : Int) ≤ m)
        ⟨_, _, row, rfl, s2, hrow, hl⟩ ?_ ?_⟩
      · rintro j σ H3 hj ⟨jj, rest, row, rfl, s3, hrow, hl⟩
        refine ⟨_, rfl, _, _, rfl, rfl, _, rfl, ?_⟩
        refine ite2 (fun _ => ?_) (fun _ => ?_)
        · refine ⟨_, rfl, r, _, rfl, .inl (SqL.of hrow), _, rfl, _, _, rfl, rfl, _, rfl, ?_⟩
          refine ite2 (fun c => ?_) (fun c => ?_)
          · have c' : (((row.map V.int).length : Nat) : Int) < m := of_decide_eq_true c
            rw [List.length_map] at c'
            refine ⟨_, rfl, .inl ⟨rfl, _, SqL.of hrow⟩, _, rfl, .inl ⟨_, rfl, _, _, rfl, rfl, (show (0 : Int) < 1000 by decide), r, _, _, rfl, rfl, hrow, szl (by rw [List.length_map]; omega), ?_⟩⟩
            refine ⟨_, rfl, _, _, rfl, rfl, ⟨by decide, by decide⟩, ?_⟩
            refine ⟨_, _, row ++ [rest % 1000], rfl, same_upd hr0 s3 _, ?_, ?_⟩
            · rw [upd_same, List.map_append]
              rfl
            · rw [List.length_append]
              show ((row.length + 1 : Nat) : Int) ≤ m
              omega
          · exact ⟨_, _, row, rfl, s3, hrow, hl⟩
        · exact ⟨_, _, row, rfl, s3, hrow, hl⟩
      · rintro σ H3 ⟨jj, rest, row, rfl, s3, hrow, hl⟩
        exact ⟨_, _, _, row, rfl, s3, hrow, hl⟩
    -- a short one: three numbers
    · refine ⟨3, rfl, by decide, by decide, for_range (fun (j : Nat) σ H3 => ∃ (jj : Option V) (row : List Int), σ = [some (.ref a), some (.int m), some (.ref r), some (.int (0 + (k : Int))), some (.int v), jj] ∧ Same H H3 ∧ H3 r = some (.lst (row.map V.int)) ∧ (row.length : Int) ≤ m)
        ⟨_, row, rfl, s2, hrow, hl⟩ ?_ ?_⟩
      · rintro j σ H3 hj ⟨jj, row, rfl, s3, hrow, hl⟩
        refine ⟨_, rfl, r, _, rfl, .inl (SqL.of hrow), _, rfl, _, _, rfl, rfl, _, rfl, ?_⟩
        refine ite2 (fun c => ?_) (fun c => ?_)
        · have c' : (((row.map V.int).length : Nat) : Int) < m := of_decide_eq_true c
          rw [List.length_map] at c'
          refine ⟨_, rfl, .inl ⟨rfl, _, SqL.of hrow⟩, _, rfl, _, rfl, _, _, rfl, rfl, .inl (by decide), _, rfl, _, _, rfl, rfl, _, _, rfl, fun n h0 h1 => ?_⟩
          refine ⟨r, _, _, rfl, rfl, hrow, szl (by rw [List.length_map]; omega), ?_⟩
          refine ⟨_, row ++ [n], rfl, same_upd hr0 s3 _, ?_, ?_⟩
          · rw [upd_same, List.map_append]
            rfl
          · rw [List.length_append]
            show ((row.length + 1 : Nat) : Int) ≤ m
            omega
        · exact ⟨_, row, rfl, s3, hrow, hl⟩
      · rintro σ H3 ⟨jj, row, rfl, s3, hrow, hl⟩
        exact ⟨_, _, _, row, rfl, s3, hrow, hl⟩
  · rintro σ H2 ⟨kk, rest, jj, row, rfl, s2, hrow, hl⟩
    intro p hp
    have np : r ≠ p := ne_of_none hrow hp
    refine ⟨_, rfl, _, rfl, r, _, rfl, .inl (SqL.of (by rw [upd_ne np]; exact hrow)), upd_same, [(Sum.inr "row", .ref r), (Sum.inr "at", .int 0), (Sum.inr "seed", .int (((row.map V.int).length : Nat) : Int))], rfl, (by show 3 ≤ 15; decide), ?_⟩
    refine q p r _ (s2.free hp) (same_upd (s2.free hp) (same_upd (s2.free hp) s2 _) _) ⟨row, 0, (((row.map V.int).length : Nat) : Int), ?_, by rw [upd_ne np, upd_ne np]; exact hrow⟩
    rw [upd_same, dk_merge]
    rfl
end
end Toy

set_option Elab.async false
set_option maxRecDepth 100000
set_option maxHeartbeats 4000000
/-! Part B: the mathematics of tokens, over lists of codes. -/
namespace Toy
open PySem L2
abbrev Cs := List Nat
def SM : Cs := ("abcdefghijklmnopqrstuvwxyz" : Str).cps.toList
def CA : Cs := ("ABCDEFGHIJKLMNOPQRSTUVWXYZ" : Str).cps.toList
def DI : Cs := ("0123456789" : Str).cps.toList
def MA : Cs := ("_'" : Str).cps.toList
def goesOn (c : Nat) : Bool := decide (c ∈ SM) || (decide (c ∈ CA) || (decide (c ∈ DI) || decide (c ∈ MA)))
def S (l : Cs) : Str := ⟨l.toArray⟩
abbrev cs (z : Str) : Cs := z.cps.toList
theorem cs_S (l : Cs) : cs (S l) = l := rfl
theorem S_cs (z : Str) : S (cs z) = z := by
  show (⟨z.cps.toList.toArray⟩ : Str) = z
  rw [Array.toArray_toList]
theorem len_S (l : Cs) : (S l).length = l.length := rfl
theorem len_cs (z : Str) : z.length = (cs z).length := rfl
theorem str_ext {x y : Str} (h : cs x = cs y) : x = y := by rw [← S_cs x, ← S_cs y, h]
theorem cs_app (x y : Str) : cs (x ++ y) = cs x ++ cs y := by
  show (x.cps ++ y.cps).toList = _
  exact Array.toList_append
def wordOf : Cs → Cs
  | [] => []
  | c :: r => c :: r.takeWhile goesOn
/-- is this word, of digits and what may follow them, a number? (none: int(word) is not known) -/
def numV (w : Str) : Option Bool :=
  if 13 < w.length ∨ ((cs w).head? = some 48 ∧ 1 < w.length) then some false
  else if (cs w).all (fun c => decide (c ∈ DI)) = true then (PySem.intText? w).map fun n => decide (n ≤ 1000000000000)
  else some false
def kindW (w : Str) : Str := if w ∈ KW then "keyword" else "name"
/-- the token at the head of a text -/
def tokOf : Cs → Option (Str × Str)
  | [] => none
  | c :: r =>
    if c ∈ SM then some (kindW (S (wordOf (c :: r))), S (wordOf (c :: r)))
    else if c ∈ CA then some ("con", S (wordOf (c :: r)))
    else if c ∈ DI then (if numV (S (wordOf (c :: r))) = some true then some ("number", S (wordOf (c :: r))) else none)
    else (SG.find? fun g => (cs g).isPrefixOf (c :: r)).map fun g => ("sign", g)
theorem tokOf_cons (c : Nat) (r : Cs) : tokOf (c :: r) = if c ∈ SM then some (kindW (S (wordOf (c :: r))), S (wordOf (c :: r)))
    else if c ∈ CA then some ("con", S (wordOf (c :: r)))
    else if c ∈ DI then (if numV (S (wordOf (c :: r))) = some true then some ("number", S (wordOf (c :: r))) else none)
    else (SG.find? fun g => (cs g).isPrefixOf (c :: r)).map fun g => ("sign", g) := rfl
abbrev Tk := Str × Str × Nat × Nat
/-- the tokens of a text that begins at this row and column -/
inductive Lex : Cs → Nat → Nat → List Tk → Prop
  | done {r c : Nat} : Lex [] r c [("end", "", r, c)]
  | nl {s : Cs} {r c : Nat} {ts : List Tk} : Lex s (r + 1) 1 ts → Lex (10 :: s) r c ts
  | sp {s : Cs} {r c : Nat} {ts : List Tk} : Lex s r (c + 1) ts → Lex (32 :: s) r c ts
  | com {s0 b s : Cs} {r c : Nat} {ts : List Tk} : s0 = 45 :: 45 :: (b ++ s) → (∀ x ∈ b, x ≠ 10) → (s = [] ∨ ∃ s', s = 10 :: s') → Lex s r (c + 2 + b.length) ts → Lex s0 r c ts
  | tok {s0 s : Cs} {k w : Str} {r c : Nat} {ts : List Tk} : s0 = cs w ++ s → (∀ s', s0 ≠ 10 :: s') → (∀ s', s0 ≠ 32 :: s') → (∀ s', s0 ≠ 45 :: 45 :: s') → tokOf s0 = some (k, w) → Lex s r (c + w.length) ts → Lex s0 r c ((k, w, r, c) :: ts)
theorem Lex.inv_nil {r c : Nat} {ts : List Tk} (h : Lex [] r c ts) : ts = [(("end" : Str), ("" : Str), r, c)] := by
  cases h with
  | done => rfl
  | com e => cases e
  | tok _ _ _ _ e => cases e
theorem Lex.inv_nl {s : Cs} {r c : Nat} {ts : List Tk} (h : Lex (10 :: s) r c ts) : Lex s (r + 1) 1 ts := by
  cases h with
  | nl h => exact h
  | com e => cases e
  | tok _ n => exact absurd rfl (n s)
theorem Lex.inv_sp {s : Cs} {r c : Nat} {ts : List Tk} (h : Lex (32 :: s) r c ts) : Lex s r (c + 1) ts := by
  cases h with
  | sp h => exact h
  | com e => cases e
  | tok _ _ n => exact absurd rfl (n s)
theorem Lex.inv_com {s : Cs} {r c : Nat} {ts : List Tk} (h : Lex (45 :: 45 :: s) r c ts) : ∃ b s', s = b ++ s' ∧ (∀ x ∈ b, x ≠ 10) ∧ (s' = [] ∨ ∃ s2, s' = 10 :: s2) ∧ Lex s' r (c + 2 + b.length) ts := by
  cases h with
  | com e h1 h2 h3 =>
    cases e
    exact ⟨_, _, rfl, h1, h2, h3⟩
  | tok _ _ _ n => exact absurd rfl (n s)
theorem Lex.inv_tok {s0 : Cs} {r c : Nat} {ts : List Tk} (h : Lex s0 r c ts) (h0 : s0 ≠ []) (h1 : ∀ s', s0 ≠ 10 :: s') (h2 : ∀ s', s0 ≠ 32 :: s') (h3 : ∀ s', s0 ≠ 45 :: 45 :: s') :
    ∃ k w s ts', s0 = cs w ++ s ∧ tokOf s0 = some (k, w) ∧ ts = (k, w, r, c) :: ts' ∧ Lex s r (c + w.length) ts' := by
  cases h with
  | done => exact absurd rfl h0
  | nl => exact absurd rfl (h1 _)
  | sp => exact absurd rfl (h2 _)
  | com e => exact absurd e (h3 _)
  | tok e _ _ _ e2 h => exact ⟨_, _, _, _, e, e2, rfl, h⟩

/-! ### places -/
def adv (p : Nat × Nat) (c : Nat) : Nat × Nat := if c = 10 then (p.1 + 1, 1) else (p.1, p.2 + 1)
def place (s : Cs) : Nat × Nat := s.foldl adv (1, 1)
theorem place_app (s t : Cs) : place (s ++ t) = t.foldl adv (place s) := List.foldl_append
theorem adv_word : ∀ (w : Cs) (p : Nat × Nat), (∀ x ∈ w, x ≠ 10) → w.foldl adv p = (p.1, p.2 + w.length)
  | [], p, _ => rfl
  | x :: w, p, h => by
    have hx : x ≠ 10 := h x (List.mem_cons_self ..)
    have e : adv p x = (p.1, p.2 + 1) := if_neg hx
    rw [List.foldl_cons, e, adv_word w _ fun y hy => h y (List.mem_cons_of_mem _ hy)]
    show (p.1, p.2 + 1 + w.length) = (p.1, p.2 + (w.length + 1))
    rw [Nat.add_assoc, Nat.add_comm 1]

/-! ### what stands between tokens -/
/-- blanks and whole comments (flag: within a comment) -/
def bl : Bool → Cs → Bool
  | false, [] => true
  | true, [] => false
  | true, 10 :: s => bl false s
  | true, _ :: s => bl true s
  | false, 32 :: s => bl false s
  | false, 10 :: s => bl false s
  | false, 45 :: 45 :: s => bl true s
  | false, _ => false
def Sep (s : Cs) : Prop := ∀ (rest : Cs) (p : Nat × Nat) (ts : List Tk), Lex rest (s.foldl adv p).1 (s.foldl adv p).2 ts → Lex (s ++ rest) p.1 p.2 ts
def SepC (s : Cs) : Prop := ∃ b s', s = b ++ 10 :: s' ∧ (∀ x ∈ b, x ≠ 10) ∧ Sep s'
theorem sep_of : ∀ (n : Nat) (s : Cs), s.length ≤ n → (bl false s = true → Sep s) ∧ (bl true s = true → SepC s)
  | n, [], _ => ⟨fun _ rest p ts h => h, fun h => by simp [bl] at h⟩
  | 0, _ :: _, h => by simp at h
  | n + 1, x :: s, h => by
    have ih := sep_of n s (by simpa using h)
    refine ⟨fun e => ?_, fun e => ?_⟩
    · by_cases h1 : x = 32
      · subst h1
        have q := ih.1 (by simpa [bl] using e)
        intro rest p ts hl
        exact Lex.sp (q rest (p.1, p.2 + 1) ts hl)
      · by_cases h2 : x = 10
        · subst h2
          have q := ih.1 (by simpa [bl] using e)
          intro rest p ts hl
          exact Lex.nl (q rest (p.1 + 1, 1) ts hl)
        · by_cases h3 : x = 45
          · subst h3
            cases s with
            | nil => simp [bl] at e
            | cons y s2 =>
              by_cases h4 : y = 45
              · subst h4
                cases n with
                | zero => simp at h
                | succ m =>
                  obtain ⟨b, s', e1, hb, q⟩ := (sep_of m s2 (by simp at h; omega)).2 (by simpa [bl] using e)
                  subst e1
                  intro rest p ts hl
                  have e2 : (45 :: 45 :: (b ++ 10 :: s')).foldl adv p = (10 :: s').foldl adv (p.1, p.2 + 2 + b.length) := by
                    show (b ++ 10 :: s').foldl adv (p.1, p.2 + 1 + 1) = _
                    rw [List.foldl_append, adv_word b _ hb]
                  rw [e2] at hl
                  refine Lex.com (b := b) (s := 10 :: (s' ++ rest)) (by simp) hb (.inr ⟨_, rfl⟩) ?_
                  exact Lex.nl (q rest (p.1 + 1, 1) ts hl)
              · simp [bl, h4] at e
          · simp [bl, h1, h2, h3] at e
    · by_cases h2 : x = 10
      · subst h2
        exact ⟨[], s, rfl, (by intro _ hx; cases hx), ih.1 (by simpa [bl] using e)⟩
      · obtain ⟨b, s', e1, hb, q⟩ := ih.2 (by simpa [bl, h2] using e)
        refine ⟨x :: b, s', by rw [e1]; rfl, fun y hy => ?_, q⟩
        rcases List.mem_cons.mp hy with rfl | hy
        · exact h2
        · exact hb y hy
theorem sep_by {s : Cs} (h : bl false s = true) : Sep s := (sep_of s.length s (Nat.le_refl _)).1 h

/-! ### a text grows at its end -/
def stops : Cs := [32, 10, 40, 41, 91, 93, 44, 59, 123, 125]
/-- what may follow: anything (flag), or nothing, or a sign that ends every token -/
def OkR (f : Bool) (rest : Cs) : Prop := f = true ∨ rest = [] ∨ ∃ x r, rest = x :: r ∧ x ∈ stops
def Pre (text : Cs) (ts : List Tk) (f : Bool) : Prop := ∀ (rest : Cs) (ts' : List Tk), OkR f rest → Lex rest (place text).1 (place text).2 ts' → Lex (text ++ rest) 1 1 (ts ++ ts')
theorem pre_of {s : Cs} (h : bl false s = true) : Pre s [] true := fun rest ts' _ hl => sep_by h rest (1, 1) ts' hl
theorem Pre.sep {text s : Cs} {ts : List Tk} {f : Bool} (P : Pre text ts f) (h : bl false s = true) (h0 : ∃ x r, s = x :: r ∧ x ∈ stops) : Pre (text ++ s) ts true := by
  intro rest ts' _ hl
  rw [place_app] at hl
  rw [List.append_assoc]
  refine P _ _ (.inr (.inr ?_)) (sep_by h rest (place text) ts' hl)
  obtain ⟨x, r, rfl, hx⟩ := h0
  exact ⟨x, r ++ rest, rfl, hx⟩
def AL : List Str := ["(", ")", "[", "]", ",", ";", "{", "}"]
def alone (w : Str) : Bool := decide (w ∈ AL)
/-- a word that is read as one token, whatever may follow it -/
structure WordOk (k w : Str) : Prop where
  head : ∃ x r, cs w = x :: r ∧ x ≠ 10 ∧ x ≠ 32
  nonl : ∀ x ∈ cs w, x ≠ 10
  nocom : ∀ rest, OkR (alone w) rest → ∀ s', cs w ++ rest ≠ 45 :: 45 :: s'
  tok : ∀ rest, OkR (alone w) rest → tokOf (cs w ++ rest) = some (k, w)
theorem alone_head {w : Str} (h : alone w = true) : ∃ x r, cs w = x :: r ∧ x ∈ stops := by
  have q : ∀ z ∈ AL, ((cs z).head?.map fun x => decide (x ∈ stops)) = some true := by decide +kernel
  have := q w (of_decide_eq_true h)
  cases e : cs w with
  | nil => rw [e] at this; simp at this
  | cons x r =>
    rw [e] at this
    simp at this
    exact ⟨x, r, rfl, this⟩
theorem Pre.word {text : Cs} {ts : List Tk} {f : Bool} {k w : Str} (P : Pre text ts f) (W : WordOk k w) (h : f = true ∨ alone w = true) : Pre (text ++ cs w) (ts ++ [(k, w, (place text).1, (place text).2)]) (alone w) := by
  intro rest ts' ok hl
  rw [place_app, adv_word _ _ W.nonl] at hl
  rw [List.append_assoc, List.append_assoc]
  obtain ⟨x, r, e, h1, h2⟩ := W.head
  refine P _ _ ?_ (Lex.tok rfl (fun s' q => ?_) (fun s' q => ?_) (W.nocom rest ok) (W.tok rest ok) hl)
  · rcases h with h | h
    · exact .inl h
    · obtain ⟨y, r', e', hy⟩ := alone_head h
      exact .inr (.inr ⟨y, r' ++ rest, by rw [e']; rfl, hy⟩)
  · rw [e] at q
    exact h1 (List.cons.inj q).1
  · rw [e] at q
    exact h2 (List.cons.inj q).1

/-! ### the words of the law -/
theorem take_go {w rest : Cs} (hw : w.all goesOn = true) (hr : OkR false rest) : (w ++ rest).takeWhile goesOn = w := by
  have hs : ∀ x ∈ stops, goesOn x = false := by decide +kernel
  induction w with
  | nil =>
    rcases hr with h | h | ⟨x, r, rfl, hx⟩
    · cases h
    · subst h; rfl
    · simp [hs x hx]
  | cons x w ih =>
    simp only [List.all_cons, Bool.and_eq_true] at hw
    rw [List.cons_append, List.takeWhile_cons, if_pos hw.1, ih hw.2]
/-- a word that begins with a letter or a digit -/
theorem word_ok {k w : Str} {x : Nat} {r : Cs} (e : cs w = x :: r) (hg : r.all goesOn = true) (ha : alone w = false) (hx : x ∈ SM ∧ kindW w = k ∨ x ∉ SM ∧ x ∈ CA ∧ k = "con" ∨ x ∉ SM ∧ x ∉ CA ∧ x ∈ DI ∧ numV w = some true ∧ k = "number") : WordOk k w := by
  have g1 : ∀ y ∈ SM, goesOn y = true := by decide +kernel
  have g2 : ∀ y ∈ CA, goesOn y = true := by decide +kernel
  have g3 : ∀ y ∈ DI, goesOn y = true := by decide +kernel
  have n1 : goesOn 10 = false := by decide +kernel
  have n2 : goesOn 32 = false := by decide +kernel
  have n3 : goesOn 45 = false := by decide +kernel
  have gx : goesOn x = true := by
    rcases hx with h | h | h
    · exact g1 x h.1
    · exact g2 x h.2.1
    · exact g3 x h.2.2.1
  have ne : ∀ {y : Nat}, goesOn y = false → x ≠ y := fun h z => by rw [z, h] at gx; cases gx
  refine ⟨⟨x, r, e, ne n1, ne n2⟩, fun y hy z => ?_, fun rest ok s' q => ?_, fun rest ok => ?_⟩
  · subst z
    rw [e] at hy
    rcases List.mem_cons.mp hy with z | hy
    · exact ne n1 z.symm
    · have := List.all_eq_true.mp hg _ hy
      rw [n1] at this
      cases this
  · rw [e] at q
    exact ne n3 (List.cons.inj q).1
  · rw [ha] at ok
    have ew : wordOf (x :: (r ++ rest)) = x :: r := by
      show x :: (r ++ rest).takeWhile goesOn = x :: r
      rw [take_go hg ok]
    rw [e, List.cons_append, tokOf_cons, ew, show S (x :: r) = w by rw [← e, S_cs]]
    rcases hx with h | h | h
    · rw [if_pos h.1, h.2]
    · rw [if_neg h.1, if_pos h.2.1, h.2.2]
    · rw [if_neg h.1, if_neg h.2.1, if_pos h.2.2.1, if_pos h.2.2.2.1, h.2.2.2.2]
def wordC (k w : Str) : Bool := match cs w with
  | [] => false
  | x :: r => r.all goesOn && !alone w && (decide (x ∈ SM) && decide (kindW w = k) || (decide (x ∉ SM) && decide (x ∈ CA) && decide (k = "con") || decide (x ∉ SM) && decide (x ∉ CA) && decide (x ∈ DI) && decide (numV w = some true) && decide (k = "number")))
theorem wordC_ok {k w : Str} (h : wordC k w = true) : WordOk k w := by
  unfold wordC at h
  cases e : cs w with
  | nil => rw [e] at h; cases h
  | cons x r =>
    rw [e] at h
    simp only [Bool.and_eq_true, Bool.or_eq_true, Bool.not_eq_true', decide_eq_true_eq] at h
    obtain ⟨⟨h1, h2⟩, h3⟩ := h
    refine word_ok e h1 h2 ?_
    rcases h3 with h | h | h
    · exact .inl h
    · exact .inr (.inl ⟨h.1.1, h.1.2, h.2⟩)
    · exact .inr (.inr ⟨h.1.1.1.1, h.1.1.1.2, h.1.1.2, h.1.2, h.2⟩)
def NAMES : List Str := ["a", "x1", "go'", "a_b", "ofx", "data1", "letter", "inn", "z9'", "modx", "thenn", "note_", "ifs"]
def CONS : List Str := ["A", "Tree", "X9", "B_c'", "Of", "Let"]
def NUMS : List Str := ["0", "7", "10", "1000000000000", "999999999999", "12345", "90"]
def SIGN1 : List Str := ["=", "|", "->", "=>", "::", "\\", "+", "-", "*", "==", "<", "<=", ":"]
theorem names_ok : ∀ w ∈ NAMES, wordC "name" w = true := by decide +kernel
theorem cons_ok : ∀ w ∈ CONS, wordC "con" w = true := by decide +kernel
theorem nums_ok : ∀ w ∈ NUMS, wordC "number" w = true := by decide +kernel
theorem kws_ok : ∀ w ∈ KW, wordC "keyword" w = true := by decide +kernel
theorem find_congr {α : Type} {p q : α → Bool} : ∀ {l : List α}, (∀ x ∈ l, p x = q x) → l.find? p = l.find? q
  | [], _ => rfl
  | x :: l, h => by
    rw [List.find?_cons, List.find?_cons, h x (List.mem_cons_self ..), find_congr fun y hy => h y (List.mem_cons_of_mem _ hy)]
theorem pre_take : ∀ {g : Cs} (s : Cs), g.length ≤ 2 → g.isPrefixOf s = g.isPrefixOf (s.take 2)
  | [], _, _ => by simp
  | [_], [], _ => rfl
  | [_], [_], _ => rfl
  | [_], _ :: _ :: _, _ => by simp [List.isPrefixOf]
  | [_, _], [], _ => rfl
  | [_, _], [_], _ => rfl
  | [_, _], _ :: _ :: _, _ => by simp [List.isPrefixOf]
  | _ :: _ :: _ :: _, _, h => by simp at h
def firstSign (s : Cs) : Option Str := SG.find? fun g => (cs g).isPrefixOf s
theorem sg_short : ∀ g ∈ SG, (cs g).length ≤ 2 := by decide +kernel
theorem first_take (s : Cs) : firstSign s = firstSign (s.take 2) := find_congr fun g hg => pre_take s (sg_short g hg)
theorem take2 {l : Cs} (h : l ≠ []) (x : Nat) (r : Cs) : (l ++ x :: r).take 2 = (l ++ [x]).take 2 := by
  cases l with
  | nil => exact absurd rfl h
  | cons a l =>
    cases l with
    | nil => rfl
    | cons b l => rfl
def headC (w : Str) : Bool := match cs w with
  | [] => false
  | c :: r => decide (c ∉ SM) && decide (c ∉ CA) && decide (c ∉ DI) && decide (c ≠ 10) && decide (c ≠ 32) && (c :: r).all fun x => decide (x ≠ 10)
def signC (w : Str) : Bool := headC w && !alone w && decide (firstSign ((cs w).take 2) = some w) && decide ((cs w).take 2 ≠ [45, 45]) &&
  stops.all fun x => decide (firstSign ((cs w ++ [x]).take 2) = some w) && decide ((cs w ++ [x]).take 2 ≠ [45, 45])
theorem signs_ok : ∀ w ∈ SIGN1, signC w = true := by decide +kernel
theorem sign_tok {s : Cs} {w : Str} (h : ∃ c r, s = c :: r ∧ c ∉ SM ∧ c ∉ CA ∧ c ∉ DI) (f : firstSign s = some w) : tokOf s = some (("sign" : Str), w) := by
  obtain ⟨c, r, rfl, h1, h2, h3⟩ := h
  rw [tokOf_cons, if_neg h1, if_neg h2, if_neg h3]
  have f' : (SG.find? fun g => (cs g).isPrefixOf (c :: r)) = some w := f
  rw [f']
  rfl
theorem signC_ok {w : Str} (h : signC w = true) : WordOk "sign" w := by
  unfold signC headC at h
  cases e : cs w with
  | nil => rw [e] at h; simp at h
  | cons c r =>
    rw [e] at h
    simp only [Bool.and_eq_true, Bool.not_eq_true', decide_eq_true_eq, List.all_eq_true] at h
    obtain ⟨⟨⟨⟨⟨⟨⟨⟨⟨h1, h2⟩, h3⟩, h4⟩, h5⟩, h6⟩, ha⟩, f0⟩, n0⟩, hs⟩ := h
    have key : ∀ rest, OkR (alone w) rest → firstSign (c :: r ++ rest) = some w ∧ (c :: r ++ rest).take 2 ≠ [45, 45] := by
      intro rest ok
      rw [first_take]
      rcases ok with k | rfl | ⟨x, r', rfl, hx⟩
      · rw [ha] at k; cases k
      · rw [List.append_nil]
        exact ⟨f0, n0⟩
      · rw [take2 (by simp)]
        exact hs x hx
    refine ⟨⟨c, r, e, h4, h5⟩, by rw [e]; exact h6, fun rest ok s' q => ?_, fun rest ok => ?_⟩
    · have k := (key rest ok).2
      rw [e] at q
      rw [q] at k
      exact k rfl
    · rw [e]
      exact sign_tok ⟨c, r ++ rest, rfl, h1, h2, h3⟩ (key rest ok).1
def aloneC (w : Str) : Bool := match cs w with
  | [c] => headC w && decide (c ≠ 45) && (SG.all fun g => decide ((cs g).head? = some c → cs g = [c])) && decide ((SG.find? fun g => decide (cs g = [c])) = some w) && (SG.all fun g => decide (cs g ≠ []))
  | _ => false
theorem alones_ok : ∀ w ∈ AL, aloneC w = true := by decide +kernel
theorem aloneC_ok {w : Str} (h : aloneC w = true) : WordOk "sign" w := by
  unfold aloneC headC at h
  split at h
  · rename_i c e
    rw [e] at h
    simp only [Bool.and_eq_true, decide_eq_true_eq, List.all_eq_true] at h
    obtain ⟨⟨⟨⟨⟨⟨⟨⟨⟨h1, h2⟩, h3⟩, h4⟩, h5⟩, h6⟩, h7⟩, h8⟩, h9⟩, h10⟩ := h
    refine ⟨⟨c, [], e, h4, h5⟩, by rw [e]; exact h6, fun rest ok s' q => ?_, fun rest ok => ?_⟩
    · rw [e] at q
      exact h7 (List.cons.inj q).1
    · rw [e]
      refine sign_tok ⟨c, rest, rfl, h1, h2, h3⟩ ?_
      rw [← h9]
      refine find_congr fun g hg => ?_
      cases eg : cs g with
      | nil => exact absurd eg (h10 g hg)
      | cons y t =>
        have k := h8 g hg
        rw [eg] at k
        by_cases hy : y = c
        · subst hy
          have := k rfl
          rw [this]
          simp [List.isPrefixOf]
        · have n : ¬ (y :: t = [c]) := fun z => hy (List.cons.inj z).1
          rw [decide_eq_false n]
          simp [List.isPrefixOf, hy]
  · cases h
/-- what the law's words are -/
def WordIn (k w : Str) : Prop := (k = "name" ∧ w ∈ NAMES) ∨ (k = "con" ∧ w ∈ CONS) ∨ (k = "number" ∧ w ∈ NUMS) ∨ (k = "keyword" ∧ w ∈ KW) ∨ (k = "sign" ∧ (w ∈ SIGN1 ∨ w ∈ AL))
theorem WordIn.ok {k w : Str} (h : WordIn k w) : WordOk k w := by
  rcases h with ⟨rfl, h⟩ | ⟨rfl, h⟩ | ⟨rfl, h⟩ | ⟨rfl, h⟩ | ⟨rfl, h | h⟩
  · exact wordC_ok (names_ok w h)
  · exact wordC_ok (cons_ok w h)
  · exact wordC_ok (nums_ok w h)
  · exact wordC_ok (kws_ok w h)
  · exact signC_ok (signs_ok w h)
  · exact aloneC_ok (alones_ok w h)
theorem WordIn.short {k w : Str} (h : WordIn k w) : w.length ≤ 13 := by
  have f : ∀ l : List Str, (l.all fun w => decide (w.length ≤ 13)) = true → w ∈ l → w.length ≤ 13 := fun l q hw => of_decide_eq_true (List.all_eq_true.mp q w hw)
  rcases h with ⟨_, h⟩ | ⟨_, h⟩ | ⟨_, h⟩ | ⟨_, h⟩ | ⟨_, h | h⟩
  · exact f _ (by decide +kernel) h
  · exact f _ (by decide +kernel) h
  · exact f _ (by decide +kernel) h
  · exact f _ (by decide +kernel) h
  · exact f _ (by decide +kernel) h
  · exact f _ (by decide +kernel) h
/-! ### the ends of a text -/
def TAILS : List Str := ["", " ", "\n", "\n  ", " -- the end"]
theorem bl_lex : ∀ {s : Cs} (p : Nat × Nat), bl false s = true → Lex s p.1 p.2 [("end", "", (s.foldl adv p).1, (s.foldl adv p).2)] := fun {s} p h => by
  have q := sep_by h [] p _ Lex.done
  rw [List.append_nil] at q
  exact q
theorem Pre.tail {text : Cs} {ts : List Tk} {f : Bool} {z : Str} (P : Pre text ts f) (h : z ∈ TAILS) : Lex (text ++ cs z) 1 1 (ts ++ [(("end" : Str), ("" : Str), (place (text ++ cs z)).1, (place (text ++ cs z)).2)]) := by
  have ok : OkR f (cs z) := by
    have q : ∀ z ∈ TAILS, (match cs z with | [] => true | x :: _ => decide (x ∈ stops)) = true := by decide +kernel
    have q := q z h
    cases e : cs z with
    | nil => exact .inr (.inl rfl)
    | cons x r =>
      rw [e] at q
      exact .inr (.inr ⟨x, r, rfl, of_decide_eq_true q⟩)
  refine P _ _ ok ?_
  rw [place_app]
  by_cases b : bl false (cs z) = true
  · exact bl_lex _ b
  · have e : z = " -- the end" := by
      have q : ∀ z ∈ TAILS, bl false (cs z) = true ∨ z = " -- the end" := by decide +kernel
      rcases q z h with q | q
      · exact absurd q b
      · exact q
    subst e
    have e1 : cs (" -- the end" : Str) = 32 :: 45 :: 45 :: ([32, 116, 104, 101, 32, 101, 110, 100] ++ []) := by decide +kernel
    rw [e1]
    exact Lex.sp (Lex.com rfl (by decide) (.inl rfl) Lex.done)
theorem tail_short {z : Str} (h : z ∈ TAILS) : z.length ≤ 13 := by
  have q : ∀ z ∈ TAILS, z.length ≤ 13 := by decide +kernel
  exact q z h
end Toy

set_option Elab.async false
set_option maxRecDepth 100000
set_option maxHeartbeats 4000000
/-! Part C: the program's own defs. -/
namespace Toy
open PySem L2
open PyProof.Rows (envOfC)
section
variable {P : Program} {w : World} {K : PySem.W.Frag} {mg : Str → Option Value} {base : Heap} {aK aS : Addr}
theorem sign_at {z : Str} {i : Nat} {c : Nat} (h : (cs z)[i]? = some c) : atI (cs z) (i : Int) = some c := atI_nat h
theorem sgn (c : Nat) : (⟨#[c]⟩ : Str) = S [c] := rfl
theorem sgn_eq {c d : Nat} : decide (V.str (S [c]) = V.str (S [d])) = decide (c = d) := by
  by_cases e : c = d
  · rw [e, decide_eq_true rfl, decide_eq_true rfl]
  · rw [decide_eq_false e, decide_eq_false]
    intro z
    have z2 : cs (S [c]) = cs (S [d]) := congrArg cs (V.str.inj z)
    exact e (List.cons.inj z2).1
theorem occ_stay (x y : Str) (hi limit : Nat) : ∀ (l : List Nat) (st : Array Nat × Nat), limit ≤ st.fst.size → (forIn l st (PySem.StrLaws.occBody x y hi limit)).run.fst = st.fst
  | [], st, h => rfl
  | a :: l, st, h => by
    rw [List.forIn_cons]
    unfold PySem.StrLaws.occBody
    rw [if_neg (fun k => by have := k.1.1.1; omega)]
    exact occ_stay x y hi limit l _ h
theorem occ_run (x : Str) (c lo : Nat) : ∀ (n a : Nat), lo ≤ a →
    (∃ k, (forIn (List.range' a n) ((#[] : Array Nat), lo) (PySem.StrLaws.occBody x ⟨#[c]⟩ x.length 1)).run.fst = #[k] ∧ a ≤ k ∧ (cs x)[k]? = some c ∧ ∀ j, a ≤ j → j < k → (cs x)[j]? ≠ some c) ∨
    ((forIn (List.range' a n) ((#[] : Array Nat), lo) (PySem.StrLaws.occBody x ⟨#[c]⟩ x.length 1)).run.fst = #[] ∧ ∀ j, a ≤ j → j < a + n → (cs x)[j]? ≠ some c)
  | 0, a, _ => .inr ⟨rfl, fun j h1 h2 => by omega⟩
  | n + 1, a, ha => by
    rw [List.range'_succ, List.forIn_cons]
    unfold PySem.StrLaws.occBody
    have q := PySem.StrLaws.subAt_one x c a
    by_cases h : (cs x)[a]? = some c
    · obtain ⟨q1, q2⟩ := q.mpr h
      rw [if_pos ⟨⟨⟨by simp, ha⟩, q1⟩, q2⟩]
      refine .inl ⟨a, ?_, Nat.le_refl _, h, fun j h1 h2 => by omega⟩
      exact occ_stay x ⟨#[c]⟩ x.length 1 _ _ (by simp)
    · rw [if_neg (fun k => h (q.mp ⟨k.1.2, k.2⟩))]
      rcases occ_run x c lo n (a + 1) (by omega) with ⟨k, e, h1, h2, h3⟩ | ⟨e, h1⟩
      · refine .inl ⟨k, e, by omega, h2, fun j h4 h5 => ?_⟩
        by_cases hj : j = a
        · subst hj; exact h
        · exact h3 j (by omega) h5
      · refine .inr ⟨e, fun j h4 h5 => ?_⟩
        by_cases hj : j = a
        · subst hj; exact h
        · exact h1 j (by omega) (by omega)
theorem find3_spec (x : Str) (c i : Nat) (hi : i ≤ x.length) :
    (∃ k : Nat, Txt.find3 x ⟨#[c]⟩ (i : Int) = (k : Int) ∧ i ≤ k ∧ (cs x)[k]? = some c ∧ ∀ j, i ≤ j → j < k → (cs x)[j]? ≠ some c) ∨
    (Txt.find3 x ⟨#[c]⟩ (i : Int) = -1 ∧ ∀ j, i ≤ j → (cs x)[j]? ≠ some c) := by
  have e : fromIndex x.length (i : Int) = i := by
    unfold fromIndex
    rw [if_neg (by omega)]
    omega
  unfold Txt.find3
  rw [e, PySem.StrLaws.occ_eq]
  rcases occ_run x c i (x.length + 1 - i) i (Nat.le_refl _) with ⟨k, q, h⟩ | ⟨q, h⟩
  · rw [q]
    exact .inl ⟨k, rfl, h⟩
  · rw [q]
    refine .inr ⟨rfl, fun j h1 h2 => ?_⟩
    by_cases hj : j < i + (x.length + 1 - i)
    · exact h j h1 hj h2
    · obtain ⟨hl, _⟩ := List.getElem?_eq_some_iff.mp h2
      have : x.length = (cs x).length := rfl
      omega
/-- a loop over the signs of a text -/
theorem for_str {x : Str} {g : TG} {tb : TS} {D : Ends} {σ : St} {H : Hp} (Pv : Nat → St → Hp → Prop) (h0 : Pv 0 σ H)
    (hs : ∀ i c σ H, (cs x)[i]? = some c → Pv i σ H → g (.str ⟨#[c]⟩) σ H fun σ2 H2 => tb { D with nx := Pv (i + 1), ct := Pv (i + 1), bk := D.nx } σ2 H2) (hd : ∀ σ H, Pv x.cps.size σ H → D.nx σ H) :
    ∃ W : Nat → Nat → St → Hp → Prop, (∃ m, W 0 m σ H) ∧ ∀ i m σ H, W i m σ H →
      ((Its x).stop i H ∧ D.nx σ H) ∨ ((Its x).go i H ∧ ∃ N : St → Hp → Prop, (∀ σ' H', N σ' H' → ∃ m', m' < m ∧ W (i + 1) m' σ' H') ∧ ∀ y H', (Its x).yld i H y H' → g y σ H' fun σ2 H2 => tb { D with nx := N, ct := N, bk := D.nx } σ2 H2) := by
  refine ⟨fun i m σ H => m = x.cps.size - i ∧ i ≤ x.cps.size ∧ Pv i σ H, ⟨x.cps.size, by simp, Nat.zero_le _, h0⟩, ?_⟩
  rintro i m σ H ⟨rfl, hi, p⟩
  by_cases hlt : i < x.cps.size
  · refine .inr ⟨hlt, Pv (i + 1), fun σ' H' p' => ⟨x.cps.size - (i + 1), by omega, rfl, hlt, p'⟩, fun y H' q => ?_⟩
    obtain ⟨e, c, hc, rfl⟩ := q
    subst e
    exact hs i c σ _ (by rw [show cs x = x.cps.toList from rfl, Array.getElem?_toList]; exact hc) p
  · have e : i = x.cps.size := by omega
    subst e
    exact .inl ⟨Nat.le_refl _, hd σ H p⟩
abbrev sGoesOn : Stmt := topS 46
theorem scGoesOn : FnScope ["letter"] ["letter"] (defScope sGoesOn) := ⟨rfl, rfl, rfl, by decide +kernel, rfl, by decide +kernel, by decide +kernel⟩
def spGoesOn : Sp := fun vs H Q _ => ∃ c : Nat, vs = [.str ⟨#[c]⟩] ∧ Q (.bl (goesOn c)) H
theorem c_goesOn {f : Addr} {fd : FuncData} (T : Txt K mg aK aS) (F : Fun K "_goes_on" "_goes_on" sGoesOn f fd) (b : Binds K fd ["letter"] []) (hm : mg "_goes_on" = some (.ref f)) : C8.Cal P w K mg base 1 "_goes_on" spGoesOn [] := by
  refine cal_of F hm b scGoesOn (fun vs H Q E h => ?_) (fun cdv A outer s H vs Q E hr h => ?_)
  · obtain ⟨c, rfl, _⟩ := h
    rfl
  obtain ⟨c, rfl, q⟩ := h
  refine ⟨_, (pss_one (ps_ret (pe_or (pe_cmpR op_in_sign (pv 0) (C8.pe_gc rfl T.gSMALL_LETTERS) rfl) (pe_or (pe_cmpR op_in_sign (pv 0) (C8.pe_gc rfl T.gCAPITAL_LETTERS) rfl) (pe_or (pe_cmpR op_in_sign (pv 0) (C8.pe_gc rfl T.gDIGITS) rfl) (pe_one (pe_cmpR op_in_sign (pv 0) (C8.pe_gc rfl T.gMARKS) rfl))))))), ?_⟩
  have q' : Q (.bl (decide (c ∈ SM) || (decide (c ∈ CA) || (decide (c ∈ DI) || decide (c ∈ MA))))) H := q
  refine ⟨_, rfl, c, _, rfl, rfl, _, rfl, ?_⟩
  refine ite2 (fun h1 => ?_) (fun h1 => ?_)
  · rw [show decide (c ∈ SM) = true from h1] at q'
    exact q'
  · rw [show decide (c ∈ SM) = false from Bool.eq_false_iff.mpr h1, Bool.false_or] at q'
    refine ⟨_, rfl, c, _, rfl, rfl, _, rfl, ?_⟩
    refine ite2 (fun h1 => ?_) (fun h1 => ?_)
    · rw [show decide (c ∈ CA) = true from h1] at q'
      exact q'
    · rw [show decide (c ∈ CA) = false from Bool.eq_false_iff.mpr h1, Bool.false_or] at q'
      refine ⟨_, rfl, c, _, rfl, rfl, _, rfl, ?_⟩
      refine ite2 (fun h1 => ?_) (fun h1 => ?_)
      · rw [show decide (c ∈ DI) = true from h1] at q'
        exact q'
      · rw [show decide (c ∈ DI) = false from Bool.eq_false_iff.mpr h1, Bool.false_or] at q'
        exact ⟨_, rfl, c, _, rfl, rfl, q'⟩
/-! ### a word -/
abbrev sWordAt : Stmt := topS 45
theorem scWordAt : FnScope ["text", "at", "end"] ["text", "at"] (defScope sWordAt) := ⟨rfl, rfl, rfl, by decide +kernel, rfl, by decide +kernel, by decide +kernel⟩
def spWordAt : Sp := fun vs H Q _ => ∃ (z : Str) (i : Nat), vs = [.str z, .int (i : Int)] ∧ i < z.length ∧ z.length ≤ 100000 ∧ Q (.str (S (wordOf ((cs z).drop i)))) H
theorem take_while_at {l : Cs} {j : Nat} (h1 : ∀ x ∈ l.take j, goesOn x = true) (h2 : l.length ≤ j ∨ ∃ x, l[j]? = some x ∧ goesOn x = false) : l.takeWhile goesOn = l.take j := by
  induction l generalizing j with
  | nil => simp
  | cons a l ih =>
    cases j with
    | zero =>
      rcases h2 with h2 | ⟨x, h2, h3⟩
      · simp at h2
      · simp at h2
        subst h2
        simp [h3]
    | succ j =>
      have ha : goesOn a = true := h1 a (by simp)
      rw [List.takeWhile_cons, if_pos ha, List.take_succ_cons, ih (j := j) (fun x hx => h1 x (by simp [hx])) (by simpa using h2)]
theorem c_wordAt {f : Addr} {fd : FuncData} (T : Txt K mg aK aS) (c_goes_on : C8.Cal P w K mg base 1 "_goes_on" spGoesOn []) (F : Fun K "_word_at" "_word_at" sWordAt f fd) (b : Binds K fd ["text", "at"] []) (hm : mg "_word_at" = some (.ref f)) : C8.Cal P w K mg base 2 "_word_at" spWordAt [] := by
  refine cal_of F hm b scWordAt (fun vs H Q E h => ?_) (fun cdv A outer s H vs Q E hr h => ?_)
  · obtain ⟨z, i, rfl, _⟩ := h
    rfl
  obtain ⟨z, i, rfl, hi, hz, q⟩ := h
  have hzl : z.length ≤ sizeLine := Nat.le_of_lt (szl hz)
  refine ⟨_, (pss_cons (ps_set (i := 2) scWordAt.nd rfl (Or.inl rfl) (pe_op op_add (pv 1) pe_int))
    (pss_cons (ps_while PassesOwn.never (PW.pt (pw_and (pt_cmpR op_lt (pv 2) (pe_callB call_len_str rfl T.zlen PySem.boot_len (pa_cons (pv 0) pa_nil)) (nomark _)) (pw_and1 (pt_val (C8.pe_c c_goes_on hr (by decide) rfl (pa_cons (pe_ix ix_str (pv 0) (pv 2) (fun _ _ => rfl)) pa_nil))))))
      (pss_one (ps_aug (i := 2) scWordAt.nd rfl (Or.inl rfl) pe_int ip_add)))
    (pss_one (ps_ret (pe_slice C8.sl_txt (pv 0) (po_some (pv 1)) (po_some (pv 2))))))), ?_⟩
  refine ⟨_, rfl, _, _, rfl, rfl, (fun m σ H2 => H2 = H ∧ ∃ j : Nat, m = z.length - (i + 1 + j) ∧ σ = [some (.str z), some (.int (i : Int)), some (.int (((i + 1 + j : Nat) : Int)))] ∧ i + 1 + j ≤ z.length ∧ ∀ x ∈ ((cs z).drop (i + 1)).take j, goesOn x = true),
    ⟨_, rfl, 0, rfl, rfl, by omega, by simp⟩, ?_⟩
  · rintro m σ H2 ⟨rfl, j, rfl, rfl, hj, hg⟩
    refine ⟨_, rfl, _, rfl, z, rfl, hzl, _, _, rfl, rfl, _, rfl, ?_⟩
    have fin : (((cs z).drop (i + 1)).length ≤ j ∨ ∃ x, ((cs z).drop (i + 1))[j]? = some x ∧ goesOn x = false) → Q (.str (Txt.slice z (some (i : Int)) (some ((i + 1 + j : Nat) : Int)))) H2 := fun h2 => by
      have e : S (wordOf ((cs z).drop i)) = Txt.slice z (some (i : Int)) (some ((i + 1 + j : Nat) : Int)) := by
        refine str_ext ?_
        show wordOf ((cs z).drop i) = _
        have e3 : (Txt.slice z (some (i : Int)) (some ((i + 1 + j : Nat) : Int))).cps.toList = ((cs z).drop i).take (i + 1 + j - i) := PySem.W.os_slice (by omega) hj
        rw [show cs (Txt.slice z (some (i : Int)) (some ((i + 1 + j : Nat) : Int))) = ((cs z).drop i).take (i + 1 + j - i) from e3]
        have hi' : i < (cs z).length := hi
        rw [List.drop_eq_getElem_cons hi', show i + 1 + j - i = j + 1 by omega, List.take_succ_cons]
        show _ :: ((cs z).drop (i + 1)).takeWhile goesOn = _
        rw [take_while_at hg h2]
      rw [← e]
      exact q
    refine ite2 (fun c => ?_) (fun c => ?_)
    · have c' : ((i + 1 + j : Nat) : Int) < (z.length : Int) := of_decide_eq_true c
      have hj' : i + 1 + j < (cs z).length := by
        have : z.length = (cs z).length := rfl
        omega
      refine ⟨_, rfl, _, rfl, z, _, (cs z)[i + 1 + j], rfl, rfl, hzl, sign_at (List.getElem?_eq_getElem hj'), _, rfl, _, rfl, ?_⟩
      have ej : ((cs z).drop (i + 1))[j]? = some (cs z)[i + 1 + j] := by rw [List.getElem?_drop, List.getElem?_eq_getElem hj']
      cases hgo : goesOn (cs z)[i + 1 + j] with
      | true =>
        refine iteT ⟨_, fun _ _ h => h, ?_⟩
        have hzc : z.length = (cs z).length := rfl
        refine ⟨_, rfl, _, _, rfl, rfl, z.length - (i + 1 + (j + 1)), by omega, rfl, j + 1, rfl, rfl, by omega, ?_⟩
        intro x hx
        rw [List.take_add_one, ej] at hx
        rcases List.mem_append.mp hx with hx | hx
        · exact hg x hx
        · simp at hx
          rw [hx]; exact hgo
      | false =>
        refine iteF ?_
        exact ⟨_, rfl, _, rfl, _, rfl, _, rfl, _, rfl, z, rfl, hzl, fin (.inr ⟨_, ej, hgo⟩)⟩
    · have c' : ¬ ((i + 1 + j : Nat) : Int) < (z.length : Int) := of_decide_eq_false (Bool.eq_false_iff.mpr c)
      refine iteF ?_
      refine ⟨_, rfl, _, rfl, _, rfl, _, rfl, _, rfl, z, rfl, hzl, fin (.inl ?_)⟩
      rw [List.length_drop]
      have : z.length = (cs z).length := rfl
      omega
/-! ### is a word a number -/
abbrev sIsNumber : Stmt := topS 47
theorem scIsNumber : FnScope ["word", "letter"] ["word"] (defScope sIsNumber) := ⟨rfl, rfl, rfl, by decide +kernel, rfl, by decide +kernel, by decide +kernel⟩
def spIsNumber : Sp := fun vs H Q _ => ∃ (z : Str) (v : Bool), vs = [.str z] ∧ 0 < z.length ∧ z.length ≤ 100000 ∧ numV z = some v ∧ Q (.bl v) H
theorem c_isNumber {f : Addr} {fd : FuncData} (T : Txt K mg aK aS) (F : Fun K "_is_number" "_is_number" sIsNumber f fd) (b : Binds K fd ["word"] []) (hm : mg "_is_number" = some (.ref f)) : C8.Cal P w K mg base 1 "_is_number" spIsNumber [] := by
  refine cal_of F hm b scIsNumber (fun vs H Q E h => ?_) (fun cdv A outer s H vs Q E hr h => ?_)
  · obtain ⟨z, v, rfl, _⟩ := h
    rfl
  obtain ⟨z, v, rfl, h0, hz, hv, q⟩ := h
  have hzl : z.length ≤ sizeLine := Nat.le_of_lt (szl hz)
  have hzc : z.length = (cs z).length := rfl
  unfold numV at hv
  refine ⟨_, (C8.pss_cut (ps_if (PW.pt (pw_or (pt_cmpR op_gt (pe_callB call_len_str rfl T.zlen PySem.boot_len (pa_cons (pv 0) pa_nil)) (C8.pe_gc rfl T.gMOST_DIGITS) (nomark _)) (pw_or1 (PW.pt (pw_and (pt_cmpR op_eq (pe_ix ix_str (pv 0) pe_int (fun _ _ => rfl)) pe_str (nomark _)) (pw_and1 (pt_cmpR op_gt (pe_callB call_len_str rfl T.zlen PySem.boot_len (pa_cons (pv 0) pa_nil)) pe_int (nomark _))))))))
      (pss_one (ps_ret pe_bl))
      pss_nil)
    (pss_cons (ps_for PassesOwn.never rfl (pi_str (pv 0)) (pg_name (i := 1) scIsNumber.nd rfl (Or.inl rfl))
      (pss_one (ps_if (pt_cmpR op_notIn_sign (pv 1) (C8.pe_gc rfl T.gDIGITS) rfl)
      (pss_one (ps_ret pe_bl))
      pss_nil)))
    (pss_one (ps_ret (pe_cmpR op_le (pe_callTy call_int_str rfl T.zint boot_int (pa_cons (pv 0) pa_nil)) (C8.pe_gc rfl T.gLARGEST_NUMBER) (nomark _)))))), ?_⟩
  -- the first test is passed just if numV's is not
  refine ⟨fun σ' H' => σ' = [some (.str z), none] ∧ H' = H ∧ ¬ (13 < z.length ∨ ((cs z).head? = some 48 ∧ 1 < z.length)), ?_, ?_⟩
  · refine ⟨_, rfl, z, rfl, hzl, _, _, rfl, rfl, _, rfl, ?_⟩
    refine ite2 (fun c => ?_) (fun c => ?_)
    · have c' : (13 : Int) < (z.length : Int) := of_decide_eq_true c
      rw [if_pos (.inl (by omega))] at hv
      cases hv
      exact iteT q
    · have c' : ¬ (13 : Int) < (z.length : Int) := of_decide_eq_false (Bool.eq_false_iff.mpr c)
      obtain ⟨d, hd⟩ : ∃ d, (cs z)[0]? = some d := ⟨(cs z)[0], List.getElem?_eq_getElem (by omega)⟩
      have hh : (cs z).head? = some d := by rw [List.head?_eq_getElem?]; exact hd
      refine ⟨_, rfl, z, _, d, rfl, rfl, hzl, sign_at (i := 0) hd, rfl, _, rfl, ?_⟩
      have e48 : decide (V.str (⟨#[d]⟩ : Str) = V.str ("0" : Str)) = decide (d = 48) := sgn_eq (c := d) (d := 48)
      rw [e48]
      refine ite2 (fun c2 => ?_) (fun c2 => ?_)
      · have c2' : d = 48 := of_decide_eq_true c2
        refine ⟨_, rfl, z, rfl, hzl, _, _, rfl, rfl, _, rfl, ?_⟩
        refine ite2 (fun c3 => ?_) (fun c3 => ?_)
        · have c3' : (1 : Int) < (z.length : Int) := of_decide_eq_true c3
          rw [if_pos (.inr ⟨by rw [hh, c2'], by omega⟩)] at hv
          cases hv
          exact q
        · have c3' : ¬ (1 : Int) < (z.length : Int) := of_decide_eq_false (Bool.eq_false_iff.mpr c3)
          exact ⟨rfl, rfl, fun k => by rcases k with k | ⟨_, k⟩ <;> omega⟩
      · have c2' : ¬ d = 48 := of_decide_eq_false (Bool.eq_false_iff.mpr c2)
        refine iteF ⟨rfl, rfl, fun k => ?_⟩
        rcases k with k | ⟨k, _⟩
        · omega
        · rw [hh] at k
          exact c2' (Option.some.inj k)
  · rintro σ' H' ⟨rfl, rfl, hn⟩
    rw [if_neg hn] at hv
    refine ⟨_, rfl, z, rfl, for_str (x := z) (fun i σ H2 => H2 = H' ∧ (∃ l, σ = [some (.str z), l]) ∧ ∀ x ∈ (cs z).take i, x ∈ DI) ⟨rfl, ⟨none, rfl⟩, by simp⟩ ?_ ?_⟩
    · rintro i c σ H2 hc ⟨rfl, ⟨l, rfl⟩, hg⟩
      refine ⟨_, rfl, c, _, rfl, rfl, _, rfl, ?_⟩
      by_cases hd : c ∈ DI
      · rw [show decide (c ∈ ("0123456789" : Str).cps.toList) = true from decide_eq_true hd]
        refine iteF ⟨rfl, ⟨_, rfl⟩, fun x hx => ?_⟩
        rw [List.take_add_one, hc] at hx
        rcases List.mem_append.mp hx with hx | hx
        · exact hg x hx
        · simp at hx
          rw [hx]; exact hd
      · rw [show decide (c ∈ ("0123456789" : Str).cps.toList) = false from decide_eq_false hd]
        refine iteT ?_
        have na : ¬ ((cs z).all fun c => decide (c ∈ DI)) = true := fun k => hd (of_decide_eq_true (List.all_eq_true.mp k c (List.mem_of_getElem? hc)))
        rw [if_neg na] at hv
        cases hv
        exact q
    · rintro σ H2 ⟨rfl, ⟨l, rfl⟩, hg⟩
      have hsz : z.cps.size = (cs z).length := rfl
      rw [hsz, List.take_length] at hg
      have ya : ((cs z).all fun c => decide (c ∈ DI)) = true := List.all_eq_true.mpr fun x hx => decide_eq_true (hg x hx)
      rw [if_pos ya] at hv
      cases hn2 : PySem.intText? z with
      | none => rw [hn2] at hv; cases hv
      | some n =>
        rw [hn2] at hv
        have e : v = decide (n ≤ 1000000000000) := (Option.some.inj hv).symm
        refine ⟨_, rfl, z, n, rfl, hn2, by omega, _, _, rfl, rfl, ?_⟩
        rw [e] at q
        exact q
/-! ### the end of a comment -/
abbrev sCommentEnd : Stmt := topS 43
theorem scCommentEnd : FnScope ["text", "at", "end"] ["text", "at"] (defScope sCommentEnd) := ⟨rfl, rfl, rfl, by decide +kernel, rfl, by decide +kernel, by decide +kernel⟩
def spCommentEnd : Sp := fun vs H Q _ => ∃ (z : Str) (i : Nat), vs = [.str z, .int (i : Int)] ∧ i ≤ z.length ∧ z.length ≤ 100000 ∧
  ∀ e : Nat, i ≤ e → (e = z.length ∨ (cs z)[e]? = some 10) → (∀ j, i ≤ j → j < e → (cs z)[j]? ≠ some 10) → Q (.int (e : Int)) H
theorem c_commentEnd {f : Addr} {fd : FuncData} (T : Txt K mg aK aS) (F : Fun K "_comment_end" "_comment_end" sCommentEnd f fd) (b : Binds K fd ["text", "at"] []) (hm : mg "_comment_end" = some (.ref f)) : C8.Cal P w K mg base 1 "_comment_end" spCommentEnd [] := by
  refine cal_of F hm b scCommentEnd (fun vs H Q E h => ?_) (fun cdv A outer s H vs Q E hr h => ?_)
  · obtain ⟨z, i, rfl, _⟩ := h
    rfl
  obtain ⟨z, i, rfl, hi, hz, q⟩ := h
  have hzl : z.length ≤ sizeLine := Nat.le_of_lt (szl hz)
  refine ⟨_, (pss_cons (ps_set (i := 2) scCommentEnd.nd rfl (Or.inl rfl) (pe_bm PySem.F.plainAttrs_str PySem.F.slot_str_find PySem.F.type_str_find mt_find3 (pv 0) (pa_cons pe_str (pa_cons (pv 1) pa_nil))))
    (pss_one (ps_ret (pe_ifExp (pt_cmpR op_lt (pv 2) pe_int (nomark _)) (pe_callB call_len_str rfl T.zlen PySem.boot_len (pa_cons (pv 0) pa_nil)) (pv 2))))), ?_⟩
  refine ⟨_, rfl, rfl, _, rfl, z, _, _, rfl, rfl, ?_⟩
  rcases find3_spec z 10 i hi with ⟨k, e, h1, h2, h3⟩ | ⟨e, h1⟩
  · have e' : Txt.find3 z ("\n" : Str) (i : Int) = (k : Int) := e
    refine ⟨_, rfl, _, _, rfl, rfl, _, rfl, ?_⟩
    rw [e']
    rw [decide_eq_false (show ¬ (k : Int) < 0 by omega)]
    exact iteF ⟨_, rfl, q k h1 (.inr h2) h3⟩
  · have e' : Txt.find3 z ("\n" : Str) (i : Int) = -1 := e
    refine ⟨_, rfl, _, _, rfl, rfl, _, rfl, ?_⟩
    rw [e']
    exact iteT ⟨_, rfl, z, rfl, hzl, q z.length hi (.inl rfl) fun j h2 _ => h1 j h2⟩
/-! ### a token -/
theorem inV_strs (x : Str) : ∀ l : List Str, inV (.str x) (l.map V.str) = decide (x ∈ l)
  | [] => by simp [inV]
  | y :: l => by
    have ih := inV_strs x l
    have e : inV (.str x) ((y :: l).map V.str) = (eqV (.str y) (.str x) || inV (.str x) (l.map V.str)) := by simp [inV]
    rw [e, ih]
    by_cases h : x = y
    · subst h
      simp [eqV]
    · have h' : ¬ y = x := fun z => h z.symm
      simp [eqV, h, h']
theorem strs_flat : ∀ l : List Str, (l.map V.str).all flatV = true
  | [] => rfl
  | y :: l => by
    rw [List.map_cons, List.all_cons, strs_flat l]
    rfl
theorem starts_eq (z g : Str) (i : Nat) (hi : i ≤ z.length) : Txt.startswith3 z g (i : Int) = (cs g).isPrefixOf ((cs z).drop i) := by
  have e : fromIndex z.length (i : Int) = i := by
    unfold fromIndex
    rw [if_neg (by omega)]
    omega
  unfold Txt.startswith3
  rw [e, PySem.StrLaws.subAt_eq]
  have lz : z.length = (cs z).length := rfl
  have lg : g.length = (cs g).length := rfl
  rw [lz, lg]
  show (decide (i + (cs g).length ≤ (cs z).length) && (((cs z).drop i).take (cs g).length == cs g)) = _
  cases hp : (cs g).isPrefixOf ((cs z).drop i) with
  | true =>
    have hp' := List.isPrefixOf_iff_prefix.mp hp
    have h1 := hp'.length_le
    have h2 := List.prefix_iff_eq_take.mp hp'
    rw [List.length_drop] at h1
    rw [← h2, beq_self_eq_true, Bool.and_true]
    exact decide_eq_true (by omega)
  | false =>
    have hn : ¬ (cs g) <+: ((cs z).drop i) := fun k => by rw [List.isPrefixOf_iff_prefix.mpr k] at hp; cases hp
    rw [Bool.and_eq_false_iff]
    right
    refine beq_eq_false_iff_ne.mpr fun k => hn ?_
    rw [← k]
    exact List.take_prefix _ _
theorem find_at {α : Type} {p : α → Bool} : ∀ {l : List α} {i : Nat} {g : α}, l[i]? = some g → p g = true → (∀ x ∈ l.take i, p x = false) → l.find? p = some g
  | [], _, _, h, _, _ => by simp at h
  | a :: l, 0, g, h, hp, _ => by
    simp at h
    subst h
    rw [List.find?_cons, hp]
  | a :: l, i + 1, g, h, hp, hn => by
    rw [List.find?_cons, hn a (by simp)]
    exact find_at (by simpa using h) hp fun x hx => hn x (by simp [hx])
abbrev sTokenAt : Stmt := topS 44
theorem scTokenAt : FnScope ["text", "at", "row", "column", "letter", "word", "sign"] ["text", "at", "row", "column"] (defScope sTokenAt) := ⟨rfl, rfl, rfl, by decide +kernel, rfl, by decide +kernel, by decide +kernel⟩
def tkV (t : Tk) : List V := [.str t.1, .str t.2.1, .int (t.2.2.1 : Int), .int (t.2.2.2 : Int)]
def spTokenAt : Sp := fun vs H Q _ => ∃ (z : Str) (i r c : Nat) (k x : Str), vs = [.str z, .int (i : Int), .int (r : Int), .int (c : Int)] ∧ i < z.length ∧ z.length ≤ 100000 ∧ tokOf ((cs z).drop i) = some (k, x) ∧
  ∀ t, H t = none → Q (.ref t) (upd H t (.tup (tkV (k, x, r, c))))
theorem c_tokenAt {f : Addr} {fd : FuncData} (T : Txt K mg aK aS) (c_word_at : C8.Cal P w K mg base 2 "_word_at" spWordAt []) (c_is_number : C8.Cal P w K mg base 1 "_is_number" spIsNumber []) (F : Fun K "_token_at" "_token_at" sTokenAt f fd) (b : Binds K fd ["text", "at", "row", "column"] []) (hm : mg "_token_at" = some (.ref f)) : C8.Cal P w K mg base 3 "_token_at" spTokenAt [] := by
  refine cal_of F hm b scTokenAt (fun vs H Q E h => ?_) (fun cdv A outer s H vs Q E hr h => ?_)
  · obtain ⟨z, i, r, c, k, x, rfl, _⟩ := h
    rfl
  obtain ⟨z, i, r, c, k, x, rfl, hi, hz, ht, q⟩ := h
  have hzl : z.length ≤ sizeLine := Nat.le_of_lt (szl hz)
  have hzc : z.length = (cs z).length := rfl
  have hi' : i < (cs z).length := hi
  obtain ⟨d, hd⟩ : ∃ d, (cs z)[i]? = some d := ⟨(cs z)[i], List.getElem?_eq_getElem hi'⟩
  have ed : (cs z).drop i = d :: (cs z).drop (i + 1) := by
    rw [List.drop_eq_getElem_cons hi']
    rw [List.getElem?_eq_getElem hi'] at hd
    rw [Option.some.inj hd]
  have hwl : 0 < (S (wordOf ((cs z).drop i))).length ∧ (S (wordOf ((cs z).drop i))).length ≤ 100000 := by
    have h1 := (List.takeWhile_prefix goesOn (l := (cs z).drop (i + 1))).length_le
    rw [List.length_drop] at h1
    have e : (S (wordOf ((cs z).drop i))).length = (((cs z).drop (i + 1)).takeWhile goesOn).length + 1 := by rw [ed]; rfl
    omega
  refine ⟨_, (pss_cons (ps_set (i := 4) scTokenAt.nd rfl (Or.inl rfl) (pe_ix ix_str (pv 0) (pv 1) (fun _ _ => rfl)))
    (pss_cons (ps_if (pt_cmpR op_in_sign (pv 4) (C8.pe_gc rfl T.gSMALL_LETTERS) rfl)
      (pss_cons (ps_set (i := 5) scTokenAt.nd rfl (Or.inl rfl) (C8.pe_c c_word_at hr (by decide) rfl (pa_cons (pv 0) (pa_cons (pv 1) pa_nil))))
    (pss_one (ps_ret (pe_tup (pa_cons (pe_ifExp (pt_cmpR op_in_seq (pv 5) (C8.pe_gc rfl T.gKEYWORDS) rfl) pe_str pe_str) (pa_cons (pv 5) (pa_cons (pv 2) (pa_cons (pv 3) pa_nil))))))))
      pss_nil)
    (pss_cons (ps_if (pt_cmpR op_in_sign (pv 4) (C8.pe_gc rfl T.gCAPITAL_LETTERS) rfl)
      (pss_one (ps_ret (pe_tup (pa_cons pe_str (pa_cons (C8.pe_c c_word_at hr (by decide) rfl (pa_cons (pv 0) (pa_cons (pv 1) pa_nil))) (pa_cons (pv 2) (pa_cons (pv 3) pa_nil)))))))
      pss_nil)
    (pss_cons (ps_if (pt_cmpR op_in_sign (pv 4) (C8.pe_gc rfl T.gDIGITS) rfl)
      (pss_cons (ps_set (i := 5) scTokenAt.nd rfl (Or.inl rfl) (C8.pe_c c_word_at hr (by decide) rfl (pa_cons (pv 0) (pa_cons (pv 1) pa_nil))))
    (pss_cons (ps_if (pt_not (pt_val (C8.pe_c c_is_number hr (by decide) rfl (pa_cons (pv 5) pa_nil))))
      (pss_one ps_never)
      pss_nil)
    (pss_one (ps_ret (pe_tup (pa_cons pe_str (pa_cons (pv 5) (pa_cons (pv 2) (pa_cons (pv 3) pa_nil)))))))))
      pss_nil)
    (pss_cons (ps_for PassesOwn.never rfl (pi_tup (C8.pe_gc rfl T.gSIGNS)) (pg_name (i := 6) scTokenAt.nd rfl (Or.inl rfl))
      (pss_one (ps_if (pt_val (pe_bm PySem.F.plainAttrs_str PySem.F.slot_str_startswith PySem.F.type_str_startswith mt_startswith3 (pv 0) (pa_cons (pv 6) (pa_cons (pv 1) pa_nil))))
      (pss_one (ps_ret (pe_tup (pa_cons pe_str (pa_cons (pv 6) (pa_cons (pv 2) (pa_cons (pv 3) pa_nil)))))))
      pss_nil)))
    (pss_one ps_never)))))), ?_⟩
  refine ⟨_, rfl, _, rfl, z, _, d, rfl, rfl, hzl, sign_at hd, ?_⟩
  rw [ed, tokOf_cons, ← ed] at ht
  refine ⟨_, rfl, d, _, rfl, rfl, _, rfl, ?_⟩
  refine ite2 (fun h1 => ?_) (fun h1 => ?_)
  · -- a word that begins with a small letter
    have h1' : d ∈ SM := of_decide_eq_true h1
    rw [if_pos h1'] at ht
    cases ht
    refine ⟨_, rfl, _, rfl, z, i, rfl, hi, hz, ?_⟩
    refine ⟨_, rfl, aK, _, rfl, .inr (T.kKEYWORDS _), rfl, strs_flat _, _, rfl, ?_⟩
    show if inV (.str (S (wordOf ((cs z).drop i)))) (KW.map V.str) = true then _ else _
    rw [inV_strs]
    unfold kindW at q
    by_cases hk : S (wordOf ((cs z).drop i)) ∈ KW
    · rw [if_pos hk] at q
      rw [decide_eq_true hk]
      refine iteT ⟨_, rfl, _, rfl, _, rfl, (by show 4 ≤ sizeLine; decide), fun t htn => q t htn⟩
    · rw [if_neg hk] at q
      rw [decide_eq_false hk]
      refine iteF ⟨_, rfl, _, rfl, _, rfl, (by show 4 ≤ sizeLine; decide), fun t htn => q t htn⟩
  · have h1' : ¬ d ∈ SM := of_decide_eq_false (Bool.eq_false_iff.mpr h1)
    rw [if_neg h1'] at ht
    refine ⟨_, rfl, d, _, rfl, rfl, _, rfl, ?_⟩
    refine ite2 (fun h2 => ?_) (fun h2 => ?_)
    · have h2' : d ∈ CA := of_decide_eq_true h2
      rw [if_pos h2'] at ht
      cases ht
      exact ⟨_, rfl, _, rfl, z, i, rfl, hi, hz, _, rfl, _, rfl, (by show 4 ≤ sizeLine; decide), fun t htn => q t htn⟩
    · have h2' : ¬ d ∈ CA := of_decide_eq_false (Bool.eq_false_iff.mpr h2)
      rw [if_neg h2'] at ht
      refine ⟨_, rfl, d, _, rfl, rfl, _, rfl, ?_⟩
      refine ite2 (fun h3 => ?_) (fun h3 => ?_)
      · have h3' : d ∈ DI := of_decide_eq_true h3
        rw [if_pos h3'] at ht
        by_cases hn : numV (S (wordOf ((cs z).drop i))) = some true
        · rw [if_pos hn] at ht
          cases ht
          refine ⟨_, rfl, _, rfl, z, i, rfl, hi, hz, ?_⟩
          refine ⟨_, rfl, _, true, rfl, hwl.1, hwl.2, hn, _, rfl, ?_⟩
          exact iteF ⟨_, rfl, _, rfl, _, rfl, (by show 4 ≤ sizeLine; decide), fun t htn => q t htn⟩
        · rw [if_neg hn] at ht
          cases ht
      · have h3' : ¬ d ∈ DI := of_decide_eq_false (Bool.eq_false_iff.mpr h3)
        rw [if_neg h3'] at ht
        -- the signs, in their order
        refine ⟨aS, rfl, ⟨_, T.kSIGNS _⟩, for_tup (K := K) (xs := SG.map V.str) (fun j σ H2 => H2 = H ∧ (∃ l1 l2, σ = [some (.str z), some (.int (i : Int)), some (.int (r : Int)), some (.int (c : Int)), some (.str ⟨#[d]⟩), l1, l2]) ∧ ∀ g ∈ SG.take j, (cs g).isPrefixOf ((cs z).drop i) = false)
          ⟨rfl, ⟨none, none, rfl⟩, by simp⟩ (fun j σ H2 _ h => T.kSIGNS _) ?_ ?_⟩
        · rintro j y σ H2 hy ⟨rfl, ⟨l1, l2, rfl⟩, hg⟩
          obtain ⟨g, hgj, rfl⟩ : ∃ g, SG[j]? = some g ∧ y = V.str g := by
            rw [List.getElem?_map] at hy
            cases e : SG[j]? with
            | none => rw [e] at hy; cases hy
            | some g => rw [e] at hy; exact ⟨g, rfl, (Option.some.inj hy).symm⟩
          refine ⟨_, rfl, rfl, _, rfl, _, rfl, z, g, _, rfl, rfl, _, rfl, ?_⟩
          rw [starts_eq z g i (Nat.le_of_lt hi)]
          cases hp : (cs g).isPrefixOf ((cs z).drop i) with
          | true =>
            have f : (SG.find? fun g => (cs g).isPrefixOf ((cs z).drop i)) = some g := find_at hgj hp hg
            rw [f] at ht
            cases ht
            exact iteT ⟨_, rfl, _, rfl, _, rfl, (by show 4 ≤ sizeLine; decide), fun t htn => q t htn⟩
          | false =>
            refine iteF ⟨rfl, ⟨_, _, rfl⟩, fun g' hg' => ?_⟩
            rw [List.take_add_one, hgj] at hg'
            rcases List.mem_append.mp hg' with hx | hx
            · exact hg g' hx
            · simp at hx
              rw [hx]; exact hp
        · rintro σ H2 ⟨rfl, ⟨l1, l2, rfl⟩, hg⟩
          have f : (SG.find? fun g => (cs g).isPrefixOf ((cs z).drop i)) = none := by
            rw [List.find?_eq_none]
            intro g hgm
            rw [List.length_map, List.take_length] at hg
            rw [hg g hgm]
            exact Bool.false_ne_true
          rw [f] at ht
          cases ht
end
end Toy

set_option Elab.async false
set_option maxRecDepth 100000
set_option maxHeartbeats 4000000
/-! Part D: the whole row of tokens. -/
namespace Toy
open PySem L2
open PyProof.Rows (envOfC)
/-- these tuples of the heap are these tokens -/
inductive Toks (H : Hp) : List Addr → List Tk → Prop
  | nil : Toks H [] []
  | cons {a : Addr} {t : Tk} {l : List Addr} {ts : List Tk} : H a = some (.tup (tkV t)) → Toks H l ts → Toks H (a :: l) (t :: ts)
theorem Toks.keep {H H' : Hp} {l : List Addr} {ts : List Tk} (h : Toks H l ts) (k : ∀ a xs, H a = some (.tup xs) → H' a = some (.tup xs)) : Toks H' l ts := by
  induction h with
  | nil => exact .nil
  | cons h _ ih => exact .cons (k _ _ h) ih
theorem Toks.snoc {H : Hp} {l : List Addr} {ts : List Tk} {a : Addr} {t : Tk} (h : Toks H l ts) (ha : H a = some (.tup (tkV t))) : Toks H (l ++ [a]) (ts ++ [t]) := by
  induction h with
  | nil => exact .cons ha .nil
  | cons h _ ih => exact .cons h ih
theorem Toks.len {H : Hp} {l : List Addr} {ts : List Tk} (h : Toks H l ts) : l.length = ts.length := by
  induction h with
  | nil => rfl
  | cons _ _ ih => rw [List.length_cons, List.length_cons, ih]
def tkD (t : Tk) : PyData := .tuple [.str t.1, .str t.2.1, .int (t.2.2.1 : Int), .int (t.2.2.2 : Int)]
theorem Toks.dp {K : PySem.W.Frag} {H : Hp} {l : List Addr} {ts : List Tk} (h : Toks H l ts) : DpAll K H (l.map V.ref) (ts.map tkD) := by
  induction h with
  | nil => exact .nil
  | cons h _ ih => exact .cons (.tup (SqT.of h) (.cons (.str _) (.cons (.str _) (.cons (.int _) (.cons (.int _) .nil))))) ih
/-- the tuples stay, whatever else changes at p, a list -/
theorem tup_upd {H : Hp} {p : Addr} {xs : List V} {o : HO} (h : H p = some (.lst xs)) : ∀ a ys, H a = some (.tup ys) → upd H p o a = some (.tup ys) := fun a ys q => by
  rw [upd_ne (ne_of q h (by intro z; cases z))]
  exact q
theorem tokOf_pos {s : Cs} {k x : Str} (h : tokOf s = some (k, x)) : 0 < x.length := by
  cases s with
  | nil => cases h
  | cons c r =>
    have hw : 0 < (S (wordOf (c :: r))).length := by
      show 0 < (c :: r.takeWhile goesOn).length
      simp
    rw [tokOf_cons] at h
    split at h
    · cases h; exact hw
    · split at h
      · cases h; exact hw
      · split at h
        · split at h
          · cases h; exact hw
          · cases h
        · have q : ∀ g ∈ SG, 0 < g.length := by decide +kernel
          rcases hf : (SG.find? fun g => (cs g).isPrefixOf (c :: r)) with _ | y
          · rw [hf] at h; cases h
          · rw [hf] at h
            cases h
            exact q _ (List.mem_of_find?_eq_some hf)
section
variable {P : Program} {w : World} {K : PySem.W.Frag} {mg : Str → Option Value} {base : Heap} {aK aS : Addr}
abbrev sTokens : Stmt := topS 42
theorem scTokens : FnScope ["text", "found", "at", "row", "row_start", "token"] ["text"] (defScope sTokens) := ⟨rfl, rfl, rfl, by decide +kernel, rfl, by decide +kernel, by decide +kernel⟩
def spTokens : Sp := fun vs H Q _ => ∃ (z : Str) (ts : List Tk), vs = [.str z] ∧ z.length ≤ 10000 ∧ Lex (cs z) 1 1 ts ∧
  ∀ (p : Addr) (l : List Addr) (H' : Hp), H p = none → Same H H' → H' p = some (.lst (l.map V.ref)) → Toks H' l ts → Q (.ref p) H'
theorem c_tokens {f : Addr} {fd : FuncData} (T : Txt K mg aK aS) (c_comment_end : C8.Cal P w K mg base 1 "_comment_end" spCommentEnd []) (c_token_at : C8.Cal P w K mg base 3 "_token_at" spTokenAt []) (F : Fun K "tokens" "tokens" sTokens f fd) (b : Binds K fd ["text"] []) (hm : mg "tokens" = some (.ref f)) : C8.Cal P w K mg base 4 "tokens" spTokens [] := by
  refine cal_of F hm b scTokens (fun vs H Q E h => ?_) (fun cdv A outer s H vs Q E hr h => ?_)
  · obtain ⟨z, ts, rfl, _⟩ := h
    rfl
  obtain ⟨z, full, rfl, hz, hlex, q⟩ := h
  have hzl : z.length ≤ sizeLine := Nat.le_of_lt (szl (by omega))
  have hzc : z.length = (cs z).length := rfl
  refine ⟨_, (pss_cons (ps_set (i := 1) scTokens.nd rfl (Or.inl rfl) (pe_lst pa_nil))
    (pss_cons (ps_set (i := 2) scTokens.nd rfl (Or.inl rfl) pe_int)
    (pss_cons (ps_set (i := 3) scTokens.nd rfl (Or.inl rfl) pe_int)
    (pss_cons (ps_set (i := 4) scTokens.nd rfl (Or.inl rfl) pe_int)
    (pss_cons (ps_while PassesOwn.never (pt_cmpR op_lt (pv 2) (pe_callB call_len_str rfl T.zlen PySem.boot_len (pa_cons (pv 0) pa_nil)) (nomark _))
      (pss_one (ps_if (pt_cmpR op_eq (pe_ix ix_str (pv 0) (pv 2) (fun _ _ => rfl)) pe_str (nomark _))
      (pss_cons (ps_aug (i := 2) scTokens.nd rfl (Or.inl rfl) pe_int ip_add)
    (pss_cons (ps_aug (i := 3) scTokens.nd rfl (Or.inl rfl) pe_int ip_add)
    (pss_one (ps_set (i := 4) scTokens.nd rfl (Or.inl rfl) (pv 2)))))
      (pss_one (ps_if (pt_cmpR op_eq (pe_ix ix_str (pv 0) (pv 2) (fun _ _ => rfl)) pe_str (nomark _))
      (pss_one (ps_aug (i := 2) scTokens.nd rfl (Or.inl rfl) pe_int ip_add))
      (pss_one (ps_if (pt_val (pe_bm PySem.F.plainAttrs_str PySem.F.slot_str_startswith PySem.F.type_str_startswith mt_startswith3 (pv 0) (pa_cons pe_str (pa_cons (pv 2) pa_nil))))
      (pss_one (ps_set (i := 2) scTokens.nd rfl (Or.inl rfl) (C8.pe_c c_comment_end hr (by decide) rfl (pa_cons (pv 0) (pa_cons (pv 2) pa_nil)))))
      (pss_cons (ps_set (i := 5) scTokens.nd rfl (Or.inl rfl) (C8.pe_c c_token_at hr (by decide) rfl (pa_cons (pv 0) (pa_cons (pv 2) (pa_cons (pv 3) (pa_cons (pe_op op_add (pe_op op_sub (pv 2) (pv 4)) pe_int) pa_nil))))))
    (pss_cons (ps_expr (pe_bm PySem.F.plainAttrs_list PySem.F.slot_list_append PySem.F.type_list_append mt_append (pv 1) (pa_cons (pv 5) pa_nil)))
    (pss_one (ps_aug (i := 2) scTokens.nd rfl (Or.inl rfl) (pe_callB call_len_str rfl T.zlen PySem.boot_len (pa_cons (pe_ix ix_tup (pv 5) pe_int (fun _ _ => rfl)) pa_nil)) ip_add)))))))))))
    (pss_cons (ps_expr (pe_bm PySem.F.plainAttrs_list PySem.F.slot_list_append PySem.F.type_list_append mt_append (pv 1) (pa_cons (pe_tup (pa_cons pe_str (pa_cons pe_str (pa_cons (pv 3) (pa_cons (pe_op op_add (pe_op op_sub (pv 2) (pv 4)) pe_int) pa_nil))))) pa_nil)))
    (pss_one (ps_ret (pv 1))))))))), ?_⟩
  refine ⟨(by show 0 ≤ sizeLine; decide), fun p hp => ?_⟩
  refine ⟨fun m σ H2 => ∃ (i r rs : Nat) (done ts : List Tk) (l : List Addr) (tk : Option V), m = z.length - i ∧ σ = [some (.str z), some (.ref p), some (.int (i : Int)), some (.int (r : Int)), some (.int (rs : Int)), tk] ∧ i ≤ z.length ∧ rs ≤ i ∧
      Lex ((cs z).drop i) r (i - rs + 1) ts ∧ full = done ++ ts ∧ Same H H2 ∧ H2 p = some (.lst (l.map V.ref)) ∧ Toks H2 l done ∧ l.length ≤ i,
    ⟨z.length, 0, 1, 0, [], full, [], none, rfl, rfl, Nat.zero_le _, Nat.le_refl _, hlex, rfl, same_new hp _, upd_same, .nil, Nat.le_refl _⟩, ?_⟩
  rintro m σ H2 ⟨i, r, rs, done, ts, l, tk, rfl, rfl, hi, hrs, hl, hfull, s2, hp2, htk, hll⟩
  refine ⟨_, rfl, _, rfl, z, rfl, hzl, _, _, rfl, rfl, _, rfl, ?_⟩
  refine ite2 (fun c => ?_) (fun c => ?_)
  · have c' : (i : Int) < (z.length : Int) := of_decide_eq_true c
    have hi' : i < (cs z).length := by omega
    obtain ⟨d, hd⟩ : ∃ d, (cs z)[i]? = some d := ⟨(cs z)[i], List.getElem?_eq_getElem hi'⟩
    have ed : (cs z).drop i = d :: (cs z).drop (i + 1) := by
      rw [List.drop_eq_getElem_cons hi']
      rw [List.getElem?_eq_getElem hi'] at hd
      rw [Option.some.inj hd]
    refine ⟨_, fun _ _ h => h, ?_⟩
    refine ⟨_, rfl, _, rfl, z, _, d, rfl, rfl, hzl, sign_at hd, rfl, _, rfl, ?_⟩
    have e10 : decide (V.str (⟨#[d]⟩ : Str) = V.str ("\n" : Str)) = decide (d = 10) := sgn_eq (c := d) (d := 10)
    rw [e10]
    refine ite2 (fun h1 => ?_) (fun h1 => ?_)
    · -- a newline
      have h1' : d = 10 := of_decide_eq_true h1
      rw [ed, h1'] at hl
      refine ⟨_, rfl, _, _, rfl, rfl, _, rfl, _, _, rfl, rfl, _, rfl, ?_⟩
      refine ⟨z.length - (i + 1), by omega, i + 1, r + 1, i + 1, done, ts, l, tk, rfl, rfl, by omega, Nat.le_refl _, ?_, hfull, s2, hp2, htk, by omega⟩
      rw [Nat.sub_self]
      exact hl.inv_nl
    · have h1' : ¬ d = 10 := of_decide_eq_false (Bool.eq_false_iff.mpr h1)
      refine ⟨_, rfl, _, rfl, z, _, d, rfl, rfl, hzl, sign_at hd, rfl, _, rfl, ?_⟩
      have e32 : decide (V.str (⟨#[d]⟩ : Str) = V.str (" " : Str)) = decide (d = 32) := sgn_eq (c := d) (d := 32)
      rw [e32]
      refine ite2 (fun h2 => ?_) (fun h2 => ?_)
      · -- a space
        have h2' : d = 32 := of_decide_eq_true h2
        rw [ed, h2'] at hl
        refine ⟨_, rfl, _, _, rfl, rfl, z.length - (i + 1), by omega, i + 1, r, rs, done, ts, l, tk, rfl, rfl, by omega, by omega, ?_, hfull, s2, hp2, htk, by omega⟩
        rw [show i + 1 - rs + 1 = i - rs + 1 + 1 by omega]
        exact hl.inv_sp
      · have h2' : ¬ d = 32 := of_decide_eq_false (Bool.eq_false_iff.mpr h2)
        refine ⟨_, rfl, rfl, _, rfl, z, _, _, rfl, rfl, _, rfl, ?_⟩
        rw [starts_eq z _ i hi]
        cases hc : (cs ("--" : Str)).isPrefixOf ((cs z).drop i) with
        | true =>
          -- a comment
          refine iteT ?_
          obtain ⟨u, hu⟩ := List.isPrefixOf_iff_prefix.mp hc
          have hu' : (cs z).drop i = 45 :: 45 :: u := hu.symm
          rw [hu'] at hl
          obtain ⟨bd, s', e1, hb, hs', hl'⟩ := hl.inv_com
          refine ⟨_, rfl, _, rfl, z, i, rfl, hi, by omega, fun e h4 h5 h6 => ?_⟩
          have lu : ((cs z).drop i).length = 2 + bd.length + s'.length := by
            rw [hu', e1]
            simp
            omega
          rw [List.length_drop] at lu
          -- the comment's end is where bd ends
          have at_ : ∀ j, (cs z)[i + j]? = (45 :: 45 :: (bd ++ s'))[j]? := fun j => by rw [← List.getElem?_drop, hu', e1]
          have ee : e = i + 2 + bd.length := by
            have n1 : ¬ e < i + 2 + bd.length := fun hlt => by
              rcases h5 with h5 | h5
              · omega
              · have q1 := at_ (e - i)
                rw [show i + (e - i) = e by omega, h5] at q1
                have hm : (10 : Nat) ∈ 45 :: 45 :: bd := by
                  have q2 : (45 :: 45 :: (bd ++ s'))[e - i]? = (45 :: 45 :: bd)[e - i]? := by
                    rw [show (45 :: 45 :: (bd ++ s')) = (45 :: 45 :: bd) ++ s' from rfl]
                    exact List.getElem?_append_left (by simp; omega)
                  rw [q2] at q1
                  exact List.mem_of_getElem? q1.symm
                rcases List.mem_cons.mp hm with hm | hm
                · cases hm
                · rcases List.mem_cons.mp hm with hm | hm
                  · cases hm
                  · exact hb _ hm rfl
            have n2 : ¬ i + 2 + bd.length < e := fun hlt => by
              rcases hs' with hs' | ⟨s2', hs'⟩
              · subst hs'
                rw [List.length_nil] at lu
                rcases h5 with h5 | h5
                · omega
                · obtain ⟨hle, _⟩ := List.getElem?_eq_some_iff.mp h5
                  omega
              · refine h6 (i + 2 + bd.length) (by omega) hlt ?_
                have q1 := at_ (2 + bd.length)
                rw [show i + (2 + bd.length) = i + 2 + bd.length by omega] at q1
                rw [q1, hs', show (45 :: 45 :: (bd ++ 10 :: s2')) = (45 :: 45 :: bd) ++ 10 :: s2' from rfl]
                rw [List.getElem?_append_right (by simp; omega)]
                simp
                rw [show 2 + bd.length - (bd.length + 1 + 1) = 0 by omega]
                rfl
            omega
          subst ee
          refine ⟨z.length - (i + 2 + bd.length), by omega, i + 2 + bd.length, r, rs, done, ts, l, tk, rfl, rfl, by omega, by omega, ?_, hfull, s2, hp2, htk, by omega⟩
          have ed2 : (cs z).drop (i + 2 + bd.length) = s' := by
            rw [show i + 2 + bd.length = i + (2 + bd.length) by omega, ← List.drop_drop, hu', e1]
            rw [show (45 :: 45 :: (bd ++ s')) = (45 :: 45 :: bd) ++ s' from rfl]
            rw [List.drop_append_of_le_length (by simp; omega), List.drop_of_length_le (by simp; omega)]
            rfl
          rw [ed2, show i + 2 + bd.length - rs + 1 = i - rs + 1 + 2 + bd.length by omega]
          exact hl'
        | false =>
          refine iteF ?_
          have n0 : (cs z).drop i ≠ [] := by rw [ed]; simp
          have n3 : ∀ s', (cs z).drop i ≠ 45 :: 45 :: s' := fun s' k => by
            rw [k] at hc
            have : (cs ("--" : Str)).isPrefixOf (45 :: 45 :: s') = true := List.isPrefixOf_iff_prefix.mpr ⟨s', rfl⟩
            rw [this] at hc
            cases hc
          obtain ⟨k, x, s', ts', e1, ht, rfl, hl'⟩ := hl.inv_tok n0 (fun s' k => by rw [ed] at k; exact h1' (List.cons.inj k).1) (fun s' k => by rw [ed] at k; exact h2' (List.cons.inj k).1) n3
          have ecol : (i : Int) - (rs : Int) + 1 = ((i - rs + 1 : Nat) : Int) := by omega
          have hxl : x.length + s'.length = z.length - i := by
            have := congrArg List.length e1
            rw [List.length_drop, List.length_append] at this
            have lx : x.length = (cs x).length := rfl
            omega
          have hx0 : 0 < x.length := tokOf_pos ht
          refine ⟨_, rfl, _, rfl, _, rfl, _, rfl, _, rfl, _, _, rfl, rfl, _, _, rfl, rfl, z, i, r, i - rs + 1, k, x, ?_, by omega, by omega, ht, fun t htn => ?_⟩
          · show [V.str z, V.int (i : Int), V.int (r : Int), V.int ((i : Int) - (rs : Int) + 1)] = _
            rw [ecol]
          have npt : p ≠ t := ne_of_none hp2 htn
          have s3 : Same H2 (upd H2 t (.tup (tkV (k, x, r, i - rs + 1)))) := same_new htn _
          have hp3 := s3 _ _ hp2
          refine ⟨_, rfl, .inl ⟨rfl, _, SqL.of hp3⟩, _, rfl, p, _, _, rfl, rfl, hp3, szl (by rw [List.length_map]; omega), ?_⟩
          have ht3 : upd (upd H2 t (.tup (tkV (k, x, r, i - rs + 1)))) p (.lst (l.map V.ref ++ [.ref t])) t = some (.tup (tkV (k, x, r, i - rs + 1))) := by
            rw [upd_ne npt.symm, upd_same]
          refine ⟨_, rfl, _, rfl, t, _, 1, .str x, rfl, rfl, SqT.of ht3, rfl, x, rfl, Nat.le_of_lt (szl (by omega)), _, _, rfl, rfl, ?_⟩
          refine ⟨z.length - (i + x.length), by omega, i + x.length, r, rs, done ++ [(k, x, r, i - rs + 1)], ts', l ++ [t], _, rfl, rfl, by omega, by omega, ?_, by rw [hfull, List.append_assoc]; rfl, same_upd hp (s2.trans s3) _, ?_, ?_, ?_⟩
          · have ed2 : (cs z).drop (i + x.length) = s' := by
              rw [← List.drop_drop, e1]
              exact List.drop_left
            rw [ed2, show i + x.length - rs + 1 = i - rs + 1 + x.length by omega]
            exact hl'
          · rw [upd_same, List.map_append]
            rfl
          · exact ((htk.keep fun a xs h => s3 _ _ h).keep (tup_upd hp3)).snoc ht3
          · rw [List.length_append]
            show l.length + 1 ≤ i + x.length
            omega
  · -- the end
    have c' : ¬ (i : Int) < (z.length : Int) := of_decide_eq_false (Bool.eq_false_iff.mpr c)
    have ei : i = z.length := by omega
    subst ei
    rw [hzc, List.drop_length] at hl
    have e := hl.inv_nil
    subst e
    have ecol : (z.length : Int) - (rs : Int) + 1 = ((z.length - rs + 1 : Nat) : Int) := by omega
    refine ⟨_, rfl, .inl ⟨rfl, _, SqL.of hp2⟩, _, rfl, _, rfl, _, rfl, _, _, rfl, rfl, _, _, rfl, rfl, (by show 4 ≤ sizeLine; decide), fun t htn => ?_⟩
    have eo : HO.tup [V.str "end", V.str "", V.int (r : Int), V.int ((z.length : Int) - (rs : Int) + 1)] = HO.tup (tkV ("end", "", r, z.length - rs + 1)) := by
      rw [ecol]
      rfl
    have s3 : Same H2 (upd H2 t (HO.tup [V.str "end", V.str "", V.int (r : Int), V.int ((z.length : Int) - (rs : Int) + 1)])) := same_new htn _
    have npt : p ≠ t := ne_of_none hp2 htn
    have hp3 := s3 _ _ hp2
    have ht3 : upd (upd H2 t (HO.tup [V.str "end", V.str "", V.int (r : Int), V.int ((z.length : Int) - (rs : Int) + 1)])) p (.lst (l.map V.ref ++ [.ref t])) t = some (.tup (tkV ("end", "", r, z.length - rs + 1))) := by
      rw [upd_ne npt.symm, upd_same, eo]
    refine ⟨p, _, _, rfl, rfl, hp3, szl (by rw [List.length_map]; omega), _, rfl, ?_⟩
    refine q p (l ++ [t]) _ hp (same_upd hp (s2.trans s3) _) (by rw [upd_same, List.map_append]; rfl) ?_
    rw [hfull, ← hzc]
    exact ((htk.keep fun a xs h => s3 _ _ h).keep (tup_upd hp3)).snoc ht3
end
end Toy

set_option Elab.async false
set_option linter.all false
set_option maxRecDepth 100000
set_option maxHeartbeats 4000000
/-! Part F: what layout does, over plain data; how it stands in the heap (from k02). -/
namespace Toy
namespace Lay
open PySem L2
def BK : List Str := ["where", "let", "of"]
def OP : List Str := ["(", "[", "{", "let", "case", "if"]
/-- the dict of the closing words -/
def CLS : List (Str × Str) := [(")", "("), ("]", "["), ("}", "{"), ("in", "let"), ("of", "case"), ("then", "if"), ("else", "then")]
def closer (z : Str) : Option Str := CLS.lookup z
def WORDS : List Str := ["where", "let", "of", "case", "if", "then", "else", "in", "(", ")", "[", "]", "{", "}", ",", "f", "x", "="]
/-- what the dict of the module tells of a word -/
def Tells (K : PySem.W.Frag) (d : Addr) (z : Str) : Prop := (closer z = none ∧ PySem.W.nsIn K d z = some none) ∨ ∃ m u, closer z = some m ∧ PySem.W.nsIn K d z = some (some u) ∧ RelV (.str m) u
/-- what the proofs ask of the module's names -/
structure Txt (K : PySem.W.Frag) (w : World) (mg : Str → Option Value) (C aB aO aC : Addr) (es : Array DictEntry) (n : Nat) : Prop where
  zlen : mg "len" = none
  zmin : mg "min" = none
  zint : mg "int" = none
  zrange : mg "range" = none
  zisinstance : mg "isinstance" = none
  zlist : mg "list" = none
  zreversed : mg "reversed" = none
  zstr : mg "str" = none
  gBLOCK_KEYWORDS : ∃ u, mg "BLOCK_KEYWORDS" = some u ∧ RelV (.ref aB) u
  gOPENERS : ∃ u, mg "OPENERS" = some u ∧ RelV (.ref aO) u
  gCLOSERS : ∃ u, mg "CLOSERS" = some u ∧ RelV (.ref aC) u
  kBLOCK_KEYWORDS : ∀ H : Hp, SqT K H aB (BK.map V.str)
  kOPENERS : ∀ H : Hp, SqT K H aO (OP.map V.str)
  kC : KDict K w aC es n
  tell : ∀ z : Str, Tells K aC z
  cl : Cls K C
  nC : NoAttr K C "contexts"
  nA : NoAttr K C "arranged"
/-- d[key], d a dict of the module with text keys -/
theorem ix_kd {X : Cx} {d : Addr} {es : Array DictEntry} {n : Nat} (D : KDict X.K X.w d es n) :
    IxR X (fun x y H Q => ∃ (z : Str) (u0 : Value) (v0 : V), x = .ref d ∧ y = .str z ∧ PySem.W.nsIn X.K d z = some (some u0) ∧ RelV v0 u0 ∧ Q v0 H) := by
  intro value slice pins s σ H x y v u Q I rx ry h hs
  obtain ⟨z, u0, v0, rfl, rfl, e, r, q⟩ := h
  cases rx
  obtain ⟨t, rfl⟩ := ry
  exact PyProof.Rows.tail_any (kd_type D I) slot_dict_getitem.lookup (PySem.wpAny_getItem_of (PySem.strKind_is X.prog X.w z t) (PySem.W.mapOf_K (prog := X.prog) I.kIn D.at_ D.lit) (PySem.W.find_K D.at_ e) ⟨v0, H, I.tok _, r, q⟩) hs
abbrev Tk := Str × Str × Int × Int
def tkV (t : Tk) : List V := [.str t.1, .str t.2.1, .int t.2.2.1, .int t.2.2.2]
inductive Ctx where
  | block (c : Int)
  | marker (s : Str)
  deriving DecidableEq
def Ctx.v : Ctx → List V
  | .block c => [.str "block", .int c]
  | .marker s => [.str "marker", .str s]
/-! ### layout, over plain data: the stack has its top first -/
def sg (s : Str) (t : Tk) : Tk := ("sign", s, t.2.2.1, t.2.2.2)
def innerCol : List Ctx → Int
  | [] => 0
  | .block c :: _ => c
  | .marker _ :: st => innerCol st
def topCol : List Ctx → Int
  | .block c :: _ => c
  | _ => 0
def topMarker : List Ctx → Option Str
  | [] => none
  | .block _ :: st => topMarker st
  | .marker s :: _ => some s
abbrev LS := List Ctx × List Tk
/-- closes the blocks on top -/
def closeTop (t : Tk) : List Ctx → List Tk → LS
  | .block _ :: st, out => closeTop t st (out ++ [sg "}" t])
  | st, out => (st, out)
/-- what the first token of a row means -/
def firstOf (t : Tk) : List Ctx → List Tk → LS
  | .block c :: st, out => if t.2.2.2 < c then firstOf t st (out ++ [sg "}" t]) else if c = t.2.2.2 then (.block c :: st, out ++ [sg ";" t]) else (.block c :: st, out)
  | st, out => (st, out)
def opens (t : Tk) (s : LS) : LS × Bool :=
  if t.1 ≠ "end" ∧ innerCol s.1 < t.2.2.2 then ((.block t.2.2.2 :: s.1, s.2 ++ [sg "{" t]), true) else ((s.1, s.2 ++ [sg "{" t, sg "}" t]), false)
def endAll (t : Tk) : List Ctx → List Tk → List Tk
  | [], out => out
  | .block _ :: st, out => endAll t st (out ++ [sg "}" t])
  | .marker _ :: st, out => endAll t st out
def upTo (ms : List Str) (t : Tk) (s : LS) : LS × Bool := match topMarker s.1 with
  | some m => if m ∈ ms then (closeTop t s.1 s.2, true) else (s, false)
  | none => (s, false)
def effComma (t : Tk) (s : LS) : LS := if t.2.1 = "," then (upTo ["(", "["] t s).1 else s
def effClose (t : Tk) (s : LS) : LS := match closer t.2.1 with
  | some m => let r := upTo [m] t s
    if r.2 = true then (if t.2.1 = "then" then .marker "then" :: r.1.1.tail else r.1.1.tail, r.1.2) else r.1
  | none => s
def effOpen (t : Tk) (s : LS) : LS := if t.2.1 ∈ OP then (.marker t.2.1 :: s.1, s.2) else s
def meet (t : Tk) (s : LS) : LS := let r := effOpen t (effClose t (effComma t s)); (r.1, r.2 ++ [t])
/-- a block is opened, where one is expected -/
def opened (ex : Bool) (t : Tk) (s : LS) : LS × Bool := if ex = true ∧ t.2.1 ≠ "{" then opens t s else (s, false)
/-- what stands before the token itself is met: is a block expected, the row before -/
def pre (ex : Bool) (last : Int) (t : Tk) (s : LS) : LS :=
  if t.1 = "end" then ([], endAll t (opened ex t s).1.1 (opened ex t s).1.2)
  else if t.2.2.1 ≠ last ∧ (opened ex t s).2 = false then firstOf t (opened ex t s).1.1 (opened ex t s).1.2 else (opened ex t s).1
def step (ex : Bool) (last : Int) (t : Tk) (s : LS) : LS := meet t (pre ex last t s)
def expects (t : Tk) : Bool := decide (t.1 = "keyword") && decide (t.2.1 ∈ BK)
def run : Bool → Int → List Tk → LS → LS
  | _, _, [], s => s
  | ex, last, t :: ts, s => run (expects t) t.2.2.1 ts (step ex last t s)
def lay (ts : List Tk) : List Tk := (run true 0 ts ([], [])).2

/-! ### in the heap -/
inductive Toks (H : Hp) : List Addr → List Tk → Prop
  | nil : Toks H [] []
  | cons {a : Addr} {t : Tk} {l : List Addr} {ts : List Tk} : H a = some (.tup (tkV t)) → Toks H l ts → Toks H (a :: l) (t :: ts)
theorem Toks.keep {H H' : Hp} {l : List Addr} {ts : List Tk} (h : Toks H l ts) (k : ∀ a xs, H a = some (.tup xs) → H' a = some (.tup xs)) : Toks H' l ts := by
  induction h with
  | nil => exact .nil
  | cons h _ ih => exact .cons (k _ _ h) ih
theorem Toks.snoc {H : Hp} {l : List Addr} {ts : List Tk} {a : Addr} {t : Tk} (h : Toks H l ts) (ha : H a = some (.tup (tkV t))) : Toks H (l ++ [a]) (ts ++ [t]) := by
  induction h with
  | nil => exact .cons ha .nil
  | cons h _ ih => exact .cons h ih
theorem Toks.len {H : Hp} {l : List Addr} {ts : List Tk} (h : Toks H l ts) : l.length = ts.length := by
  induction h with
  | nil => rfl
  | cons _ _ ih => rw [List.length_cons, List.length_cons, ih]
theorem Toks.get {H : Hp} {l : List Addr} {ts : List Tk} (h : Toks H l ts) : ∀ {i : Nat} {t : Tk}, ts[i]? = some t → ∃ a, l[i]? = some a ∧ H a = some (.tup (tkV t)) := by
  induction h with
  | nil => intro i t e; simp at e
  | cons h _ ih =>
    intro i t e
    cases i with
    | zero => simp at e; subst e; exact ⟨_, rfl, h⟩
    | succ i => exact ih (by simpa using e)
/-- the contexts, the top first -/
inductive Ctxs (H : Hp) : List Addr → List Ctx → Prop
  | nil : Ctxs H [] []
  | cons {a : Addr} {c : Ctx} {l : List Addr} {st : List Ctx} : H a = some (.tup c.v) → Ctxs H l st → Ctxs H (a :: l) (c :: st)
theorem Ctxs.keep {H H' : Hp} {l : List Addr} {ts : List Ctx} (h : Ctxs H l ts) (k : ∀ a xs, H a = some (.tup xs) → H' a = some (.tup xs)) : Ctxs H' l ts := by
  induction h with
  | nil => exact .nil
  | cons h _ ih => exact .cons (k _ _ h) ih
theorem Ctxs.len {H : Hp} {l : List Addr} {ts : List Ctx} (h : Ctxs H l ts) : l.length = ts.length := by
  induction h with
  | nil => rfl
  | cons _ _ ih => rw [List.length_cons, List.length_cons, ih]
theorem Ctxs.get {H : Hp} {l : List Addr} {ts : List Ctx} (h : Ctxs H l ts) : ∀ {i : Nat} {t : Ctx}, ts[i]? = some t → ∃ a, l[i]? = some a ∧ H a = some (.tup t.v) := by
  induction h with
  | nil => intro i t e; simp at e
  | cons h _ ih =>
    intro i t e
    cases i with
    | zero => simp at e; subst e; exact ⟨_, rfl, h⟩
    | succ i => exact ih (by simpa using e)
theorem kca : ¬ (("contexts" : Str) = "arranged") := by decide +kernel
def flds (c a : Addr) : List (Str × V) := putF "arranged" (.ref a) (putF "contexts" (.ref c) [])
theorem flds_c (c a : Addr) : (flds c a).lookup ("contexts" : Str) = some (.ref c) := by
  unfold flds
  rw [lookup_putF, if_neg kca, lookup_putF, if_pos rfl]
theorem flds_a (c a : Addr) : (flds c a).lookup ("arranged" : Str) = some (.ref a) := by
  unfold flds
  rw [lookup_putF, if_pos rfl]
theorem flds_no (c a : Addr) {m : Str} (h1 : ¬ m = "arranged") (h2 : ¬ m = "contexts") : (flds c a).lookup m = none := by
  unfold flds
  rw [lookup_putF, if_neg h1, lookup_putF, if_neg h2]
  all_goals rfl
/-- an arranger stands at o, its lists at c and a -/
structure Arr (C : Addr) (H : Hp) (o c a : Addr) (s : LS) : Prop where
  ex : ∃ (dx : Addr) (as ls : List Addr), H o = some (.ins C dx (flds c a)) ∧ H c = some (.lst (as.reverse.map V.ref)) ∧ H a = some (.lst (ls.map V.ref)) ∧ Ctxs H as s.1 ∧ Toks H ls s.2 ∧ c ≠ a
/-- all but c and a stays -/
def Keep2 (c a : Addr) (H H' : Hp) : Prop := ∀ b o, b ≠ c → b ≠ a → H b = some o → H' b = some o
theorem Keep2.refl (c a : Addr) (H : Hp) : Keep2 c a H H := fun _ _ _ _ h => h
theorem Keep2.trans {c a : Addr} {H H1 H2 : Hp} (x : Keep2 c a H H1) (y : Keep2 c a H1 H2) : Keep2 c a H H2 := fun b o h1 h2 h => y b o h1 h2 (x b o h1 h2 h)
theorem keep2_of {c a : Addr} {H H' : Hp} (s : Same H H') : Keep2 c a H H' := fun b o _ _ h => s b o h
theorem Arr.ne_tup {C : Addr} {H : Hp} {o c a b : Addr} {s : LS} {xs : List V} (A : Arr C H o c a s) (h : H b = some (.tup xs)) : b ≠ c ∧ b ≠ a := by
  obtain ⟨dx, as, ls, h1, h2, h3, _⟩ := A.ex
  exact ⟨ne_of h h2 (by intro z; cases z), ne_of h h3 (by intro z; cases z)⟩
/-- a tuple that stands beside an arranger stays -/
theorem Arr.tup {C : Addr} {H H' : Hp} {o c a b : Addr} {s : LS} {xs : List V} (A : Arr C H o c a s) (k : Keep2 c a H H') (h : H b = some (.tup xs)) : H' b = some (.tup xs) :=
  k _ _ (A.ne_tup h).1 (A.ne_tup h).2 h
theorem Arr.new {C : Addr} {H : Hp} {o c a t : Addr} {s : LS} (A : Arr C H o c a s) (ht : H t = none) (u : HO) : Arr C (upd H t u) o c a s := by
  obtain ⟨dx, as, ls, h1, h2, h3, h4, h5, h6⟩ := A.ex
  have k := same_new ht u
  exact ⟨dx, as, ls, k _ _ h1, k _ _ h2, k _ _ h3, h4.keep fun _ _ h => k _ _ h, h5.keep fun _ _ h => k _ _ h, h6⟩
theorem tup_upd {H : Hp} {p : Addr} {xs : List V} {o : HO} (h : H p = some (.lst xs)) : ∀ a ys, H a = some (.tup ys) → upd H p o a = some (.tup ys) := fun a ys q => by
  rw [upd_ne (ne_of q h (by intro z; cases z))]
  exact q
/-- one token more -/
theorem Arr.add {C : Addr} {H : Hp} {o c a t : Addr} {s : LS} {k : Tk} {dx : Addr} {as ls : List Addr} (h1 : H o = some (.ins C dx (flds c a))) (h2 : H c = some (.lst (as.reverse.map V.ref))) (h3 : H a = some (.lst (ls.map V.ref))) (h4 : Ctxs H as s.1) (h5 : Toks H ls s.2) (h6 : c ≠ a)
    (ht : H t = some (.tup (tkV k))) : Arr C (upd H a (.lst (ls.map V.ref ++ [.ref t]))) o c a (s.1, s.2 ++ [k]) := by
  have nta : t ≠ a := ne_of ht h3 (by intro z; cases z)
  refine ⟨dx, as, ls ++ [t], ?_, ?_, ?_, h4.keep (tup_upd h3), (h5.keep (tup_upd h3)).snoc (by rw [upd_ne nta]; exact ht), h6⟩
  · rw [upd_ne (ne_of h1 h3 (by intro z; cases z))]
    exact h1
  · rw [upd_ne h6]
    exact h2
  · rw [upd_same, List.map_append]
    rfl
/-- one context more -/
theorem Arr.push {C : Addr} {H : Hp} {o c a t : Addr} {s : LS} {k : Ctx} {dx : Addr} {as ls : List Addr} (h1 : H o = some (.ins C dx (flds c a))) (h2 : H c = some (.lst (as.reverse.map V.ref))) (h3 : H a = some (.lst (ls.map V.ref))) (h4 : Ctxs H as s.1) (h5 : Toks H ls s.2) (h6 : c ≠ a)
    (ht : H t = some (.tup k.v)) : Arr C (upd H c (.lst (as.reverse.map V.ref ++ [.ref t]))) o c a (k :: s.1, s.2) := by
  have ntc : t ≠ c := ne_of ht h2 (by intro z; cases z)
  refine ⟨dx, t :: as, ls, ?_, ?_, ?_, .cons (by rw [upd_ne ntc]; exact ht) (h4.keep (tup_upd h2)), h5.keep (tup_upd h2), h6⟩
  · rw [upd_ne (ne_of h1 h2 (by intro z; cases z))]
    exact h1
  · rw [upd_same, List.reverse_cons, List.map_append]
    rfl
  · rw [upd_ne h6.symm]
    exact h3
/-- one context less -/
theorem Arr.pop {C : Addr} {H : Hp} {o c a t : Addr} {st : List Ctx} {out : List Tk} {k : Ctx} {dx : Addr} {as ls : List Addr} (h1 : H o = some (.ins C dx (flds c a))) (h2 : H c = some (.lst ((t :: as).reverse.map V.ref))) (h3 : H a = some (.lst (ls.map V.ref))) (h4 : Ctxs H as st) (h5 : Toks H ls out) (h6 : c ≠ a) :
    Arr C (upd H c (.lst ((t :: as).reverse.map V.ref).dropLast)) o c a (st, out) := by
  refine ⟨dx, as, ls, ?_, ?_, ?_, h4.keep (tup_upd h2), h5.keep (tup_upd h2), h6⟩
  · rw [upd_ne (ne_of h1 h2 (by intro z; cases z))]
    exact h1
  · rw [upd_same, List.reverse_cons, List.map_append]
    show some (HO.lst ((as.reverse.map V.ref) ++ [V.ref t]).dropLast) = _
    rw [List.dropLast_concat]
  · rw [upd_ne h6.symm]
    exact h3
theorem keep_c {c a : Addr} {H : Hp} (o : HO) : Keep2 c a H (upd H c o) := fun b u h1 _ h => by rw [upd_ne h1]; exact h
theorem keep_a {c a : Addr} {H : Hp} (o : HO) : Keep2 c a H (upd H a o) := fun b u _ h2 h => by rw [upd_ne h2]; exact h
theorem top_at {t : Addr} {as : List Addr} : ((t :: as).reverse.map V.ref)[((t :: as).reverse.map V.ref).length - 1]? = some (.ref t) := by
  simp
theorem top_atI {t : Addr} {as : List Addr} : atI ((t :: as).reverse.map V.ref) (-1) = some (.ref t) := by
  rw [List.reverse_cons, List.map_append]
  exact atI_last _ _
theorem inV_strs (x : Str) : ∀ l : List Str, inV (.str x) (l.map V.str) = decide (x ∈ l)
  | [] => by simp [inV]
  | y :: l => by
    have ih := inV_strs x l
    have e : inV (.str x) ((y :: l).map V.str) = (eqV (.str y) (.str x) || inV (.str x) (l.map V.str)) := by simp [inV]
    rw [e, ih]
    by_cases h : x = y
    · subst h
      simp [eqV]
    · have h' : ¬ y = x := fun z => h z.symm
      simp [eqV, h, h']
theorem strs_flat : ∀ l : List Str, (l.map V.str).all flatV = true
  | [] => rfl
  | y :: l => by
    rw [List.map_cons, List.all_cons, strs_flat l]
    rfl
end Lay
end Toy

set_option Elab.async false
set_option linter.all false
set_option maxRecDepth 100000
set_option maxHeartbeats 4000000
/-! Part G: the Arranger (from k02/c). -/
namespace Toy
namespace Lay
open PySem L2

open PyProof.Rows (envOfC)
section
variable {P : Program} {w : World} {K : PySem.W.Frag} {mg : Str → Option Value} {base : Heap} {C aB aO aC : Addr} {es : Array DictEntry} {n : Nat}
theorem met_of {m qual : Str} {st : Stmt} {f : Addr} {fd : FuncData} {N ps : List Str} {k : Nat} {sp : Sp} (c : Cls K C) (me : Meth K C m f) (F : Fun K m qual st f fd) (b : Binds K fd ps []) (S : FnScope N ps (defScope st)) (len : ∀ vs H Q E, sp vs H Q E → vs.length = ps.length)
    (hbody : ∀ (cdv : Value) (A : Around) (outer : List Env) (s : Shared) (H : Hp) (vs : List V) (Q : VK) (E : XK), Room k (A.deeper (envOfC qual (defScope st) s.heap.objs.size f cdv)) → sp vs H Q E →
      ∃ t, PSs (cxOf CX0 P w K mg base N qual (defScope st) f cdv A outer s H E).nox (defBody st) t ∧ t { nx := fun _ H' => Q .non H', rt := Q } (start N vs) H) : C8.Met P w K mg base (k + 1) C m sp [] :=
  ⟨f, fd, ps, [], c, me, F.ok S len hbody, b, .nil⟩
abbrev sInit : Stmt := inClass (topS 32) 0
theorem scInit : FnScope ["self", "contexts"] ["self", "contexts"] (defScope sInit) := ⟨rfl, rfl, rfl, by decide +kernel, rfl, by decide +kernel, by decide +kernel⟩
def spInit (C : Addr) : Sp := fun vs H Q _ => ∃ (o dx t : Addr) (as : List Addr) (st : List Ctx), vs = [.ref o, .ref t] ∧ H o = some (.ins C dx []) ∧ SqT K H t (as.reverse.map V.ref) ∧ Ctxs H as st ∧ ∀ (c a : Addr) (H' : Hp), H c = none → H a = none → Arr C H' o c a (st, []) → (∀ b u, H b = some u → b ≠ o → H' b = some u) → Q .non H'
theorem c_init {f : Addr} {fd : FuncData} (T : Txt K w mg C aB aO aC es n) (M : Mk K C f) (mC : mg "Arranger" = some (.ref C)) (F : Fun K "__init__" "Arranger.__init__" sInit f fd) (b : Binds K fd ["self", "contexts"] []) : C8.Mak P w K mg base 1 "Arranger" C (spInit (K := K) C) [] := by
  refine ⟨f, fd, ["self", "contexts"], [], M, F.ok scInit (fun vs H Q E h => ?_) (fun cdv A outer s H vs Q E hr h => ?_), mC, b, .nil⟩
  · obtain ⟨o, dx, t, as, st, rfl, _⟩ := h
    rfl
  obtain ⟨o, dx, t, as, st, rfl, ho, ht, hcs, q⟩ := h
  refine ⟨_, (pss_cons (ps_fld (pv 0) (pe_callTy call_list_of rfl T.zlist boot_list (pa_cons (pv 1) pa_nil)) rfl)
    (pss_one (ps_fld (pv 0) (pe_lst pa_nil) rfl))), ?_⟩
  refine ⟨_, rfl, t, _, rfl, .inr ht, fun c hc => ?_⟩
  have noc : o ≠ c := ne_of_none ho hc
  refine ⟨_, rfl, o, C, dx, [], rfl, (by rw [upd_ne noc]; exact ho), T.cl, T.nC, (by show 0 < 1000; decide), ?_⟩
  refine ⟨(by show 0 ≤ sizeLine; decide), fun a ha => ?_⟩
  have noa : o ≠ a := by
    intro z
    rw [z, upd_same] at ha
    cases ha
  have nca : c ≠ a := by
    intro z
    rw [← z, upd_ne noc.symm, upd_same] at ha
    cases ha
  have ha' : H a = none := by
    rw [upd_ne noa.symm, upd_ne nca.symm] at ha
    exact ha
  refine ⟨_, rfl, o, C, dx, _, rfl, (by rw [upd_ne noa, upd_same]), T.cl, T.nA, (by show 1 < 1000; decide), ?_⟩
  refine q c a _ hc ha' ⟨dx, as, [], upd_same, ?_, ?_, hcs.keep (fun x xs hx => ?_), .nil, nca⟩ fun x u hx hxo => ?_
  · rw [upd_ne noc.symm, upd_ne nca, upd_ne noc.symm, upd_same]
  · rw [upd_ne noa.symm, upd_same]
    rfl
  · have nxo : x ≠ o := ne_of hx ho (by intro z; cases z)
    rw [upd_ne nxo, upd_ne (ne_of_none hx ha'), upd_ne nxo, upd_ne (ne_of_none hx hc)]
    exact hx
  · rw [upd_ne hxo, upd_ne (ne_of_none hx ha'), upd_ne hxo, upd_ne (ne_of_none hx hc)]
    exact hx
abbrev sAddSign : Stmt := inClass (topS 32) 1
theorem scAddSign : FnScope ["self", "sign", "token"] ["self", "sign", "token"] (defScope sAddSign) := ⟨rfl, rfl, rfl, by decide +kernel, rfl, by decide +kernel, by decide +kernel⟩
def spAddSign (C : Addr) : Sp := fun vs H Q _ => ∃ (o c a t : Addr) (s : LS) (z : Str) (k : Tk), vs = [.ref o, .str z, .ref t] ∧ Arr C H o c a s ∧ H t = some (.tup (tkV k)) ∧ s.2.length ≤ 5000 ∧
  ∀ H', Arr C H' o c a (s.1, s.2 ++ [sg z k]) → Keep2 c a H H' → Q .non H'
theorem c_addSign {f : Addr} {fd : FuncData} (T : Txt K w mg C aB aO aC es n) (me : Meth K C "add_sign" f) (F : Fun K "add_sign" "Arranger.add_sign" sAddSign f fd) (b : Binds K fd ["self", "sign", "token"] []) : C8.Met P w K mg base 1 C "add_sign" (spAddSign C) [] := by
  refine met_of T.cl me F b scAddSign (fun vs H Q E h => ?_) (fun cdv A outer s H vs Q E hr h => ?_)
  · obtain ⟨o, c, a, t, s, z, k, rfl, _⟩ := h
    rfl
  obtain ⟨o, c, a, t, ⟨st, out⟩, z, k, rfl, AR, ht, hl, q⟩ := h
  obtain ⟨dx, as, ls, h1, h2, h3, h4, h5, h6⟩ := id AR.ex
  refine ⟨_, (pss_one (ps_expr (pe_bm PySem.F.plainAttrs_list PySem.F.slot_list_append PySem.F.type_list_append mt_append (pe_fld (pv 0) rfl) (pa_cons (pe_tup (pa_cons pe_str (pa_cons (pv 1) (pa_cons (pe_ix ix_tup (pv 2) pe_int (fun _ _ => rfl)) (pa_cons (pe_ix ix_tup (pv 2) pe_int (fun _ _ => rfl)) pa_nil))))) pa_nil)))), ?_⟩
  refine ⟨_, rfl, o, C, dx, _, _, rfl, h1, T.cl, T.nA, flds_a _ _, .inl ⟨rfl, _, SqL.of h3⟩, _, rfl, _, rfl, t, _, 2, _, rfl, rfl, SqT.of ht, rfl, _, rfl, t, _, 3, _, rfl, rfl, SqT.of ht, rfl, (by show 4 ≤ sizeLine; decide), fun p hp => ?_⟩
  have k1 := same_new hp (.tup (tkV (sg z k)))
  refine ⟨a, _, _, rfl, rfl, k1 _ _ h3, szl (by rw [List.length_map, h5.len]; have hl' : out.length ≤ 5000 := hl; omega), ?_⟩
  exact q _ (Arr.add (k1 _ _ h1) (k1 _ _ h2) (k1 _ _ h3) (h4.keep fun _ _ h => k1 _ _ h) (h5.keep fun _ _ h => k1 _ _ h) h6 upd_same) ((keep2_of k1).trans (keep_a _))
theorem nbm : decide (V.str "marker" = V.str "block") = false := by decide +kernel
abbrev sTopCol : Stmt := inClass (topS 32) 3
theorem scTopCol : FnScope ["self"] ["self"] (defScope sTopCol) := ⟨rfl, rfl, rfl, by decide +kernel, rfl, by decide +kernel, by decide +kernel⟩
def spTopCol (C : Addr) : Sp := fun vs H Q _ => ∃ (o c a : Addr) (s : LS), vs = [.ref o] ∧ Arr C H o c a s ∧ Q (.int (topCol s.1)) H
theorem c_topCol {f : Addr} {fd : FuncData} (T : Txt K w mg C aB aO aC es n) (me : Meth K C "top_column" f) (F : Fun K "top_column" "Arranger.top_column" sTopCol f fd) (b : Binds K fd ["self"] []) : C8.Met P w K mg base 1 C "top_column" (spTopCol C) [] := by
  refine met_of T.cl me F b scTopCol (fun vs H Q E h => ?_) (fun cdv A outer s H vs Q E hr h => ?_)
  · obtain ⟨o, c, a, s, rfl, _⟩ := h
    rfl
  obtain ⟨o, c, a, ⟨st, out⟩, rfl, AR, q⟩ := h
  obtain ⟨dx, as, ls, h1, h2, h3, h4, h5, h6⟩ := id AR.ex
  refine ⟨_, (pss_cons (ps_if (PW.pt (pw_and (pt_truth (pe_fld (pv 0) rfl) (fun _ => rfl)) (pw_and1 (pt_cmpR op_eq (pe_ix ix_tup (pe_ix ix_list (pe_fld (pv 0) rfl) (pe_un un_neg pe_int) (fun _ _ => rfl)) pe_int (fun _ _ => rfl)) pe_str (nomark _)))))
      (pss_one (ps_ret (pe_ix ix_tup (pe_ix ix_list (pe_fld (pv 0) rfl) (pe_un un_neg pe_int) (fun _ _ => rfl)) pe_int (fun _ _ => rfl))))
      pss_nil)
    (pss_one (ps_ret pe_int))), ?_⟩
  refine ⟨_, rfl, o, C, dx, _, _, rfl, h1, T.cl, T.nC, flds_c _ _, _, .inl ⟨_, SqL.of h2, rfl⟩, ?_⟩
  cases h4 with
  | nil => exact iteF (iteF q)
  | @cons t x l st ht h4 =>
    have ne : (!((t :: l).reverse.map V.ref).isEmpty) = true := by simp
    rw [ne]
    refine iteT ?_
    cases x with
    | block y =>
      refine ⟨_, rfl, o, C, dx, _, _, rfl, h1, T.cl, T.nC, flds_c _ _, _, rfl, c, _, _, _, rfl, rfl, SqL.of h2, top_atI, t, _, 0, _, rfl, rfl, SqT.of ht, rfl, rfl, _, rfl, ?_⟩
      refine iteT ⟨_, rfl, o, C, dx, _, _, rfl, h1, T.cl, T.nC, flds_c _ _, _, rfl, c, _, _, _, rfl, rfl, SqL.of h2, top_atI, t, _, 1, _, rfl, rfl, SqT.of ht, rfl, q⟩
    | marker y =>
      refine ⟨_, rfl, o, C, dx, _, _, rfl, h1, T.cl, T.nC, flds_c _ _, _, rfl, c, _, _, _, rfl, rfl, SqL.of h2, top_atI, t, _, 0, _, rfl, rfl, SqT.of ht, rfl, rfl, _, rfl, ?_⟩
      rw [nbm]
      exact iteF q
theorem rev_at {l : List Addr} {i : Nat} (h : i < l.length) : (l.reverse.map V.ref)[(l.reverse.map V.ref).length - 1 - i]? = some (V.ref l[i]) := by
  rw [List.length_map, List.length_reverse, List.getElem?_map, List.getElem?_reverse (by omega), show l.length - 1 - (l.length - 1 - i) = i by omega, List.getElem?_eq_getElem h]
  rfl
theorem inner_marker {l : List Ctx} {i : Nat} {y : Str} (h : l[i]? = some (.marker y)) : innerCol (l.drop i) = innerCol (l.drop (i + 1)) := by
  obtain ⟨hi, e⟩ := List.getElem?_eq_some_iff.mp h
  rw [List.drop_eq_getElem_cons hi, e]
  rfl
theorem inner_block {l : List Ctx} {i : Nat} {y : Int} (h : l[i]? = some (.block y)) : innerCol (l.drop i) = y := by
  obtain ⟨hi, e⟩ := List.getElem?_eq_some_iff.mp h
  rw [List.drop_eq_getElem_cons hi, e]
  rfl
abbrev sInner : Stmt := inClass (topS 32) 2
theorem scInner : FnScope ["self", "word", "told"] ["self"] (defScope sInner) := ⟨rfl, rfl, rfl, by decide +kernel, rfl, by decide +kernel, by decide +kernel⟩
def spInner (C : Addr) : Sp := fun vs H Q _ => ∃ (o c a : Addr) (s : LS), vs = [.ref o] ∧ Arr C H o c a s ∧ Q (.int (innerCol s.1)) H
theorem c_inner {f : Addr} {fd : FuncData} (T : Txt K w mg C aB aO aC es n) (me : Meth K C "innermost_column" f) (F : Fun K "innermost_column" "Arranger.innermost_column" sInner f fd) (b : Binds K fd ["self"] []) : C8.Met P w K mg base 1 C "innermost_column" (spInner C) [] := by
  refine met_of T.cl me F b scInner (fun vs H Q E h => ?_) (fun cdv A outer s H vs Q E hr h => ?_)
  · obtain ⟨o, c, a, s, rfl, _⟩ := h
    rfl
  obtain ⟨o, c, a, ⟨st, out⟩, rfl, AR, q⟩ := h
  obtain ⟨dx, as, ls, h1, h2, h3, h4, h5, h6⟩ := id AR.ex
  have hl : as.length = st.length := h4.len
  refine ⟨_, (pss_cons (ps_for PassesOwn.never rfl (RT.pi_revA rfl T.zreversed (pe_fld (pv 0) rfl)) (pg_tup rfl (pgs_cons (pg_name (i := 1) scInner.nd rfl (Or.inl rfl)) (pgs_cons (pg_name (i := 2) scInner.nd rfl (Or.inl rfl)) pgs_nil)))
      (pss_one (ps_if (pt_cmpR op_eq (pv 1) pe_str (nomark _))
      (pss_one (ps_ret (pv 2)))
      pss_nil)))
    (pss_one (ps_ret pe_int))), ?_⟩
  refine ⟨_, rfl, o, C, dx, _, _, rfl, h1, T.cl, T.nC, flds_c _ _, c, _, rfl, .inl ⟨SqL.of h2, RT.for_Itv (K := K) (fun i σ H2 => H2 = H ∧ (∃ l1 l2, σ = [some (.ref o), l1, l2]) ∧ innerCol st = innerCol (st.drop i)) ⟨rfl, ⟨none, none, rfl⟩, rfl⟩
    (by rintro i σ H2 ⟨rfl, _⟩; exact SqL.of h2) ?_ ?_⟩⟩
  · rintro i x σ H2 hi hx ⟨rfl, ⟨l1, l2, rfl⟩, e⟩
    have hi' : i < as.length := by rw [List.length_map, List.length_reverse] at hi; exact hi
    have hs : i < st.length := by omega
    rw [rev_at hi'] at hx
    cases hx
    obtain ⟨t, ht1, ht2⟩ := h4.get (List.getElem?_eq_getElem hs)
    rw [List.getElem?_eq_getElem hi'] at ht1
    cases ht1
    cases hc : st[i] with
    | block y =>
      rw [hc] at ht2
      refine ⟨_, _, rfl, SqT.of ht2, rfl, _, _, rfl, _, _, rfl, rfl, ?_⟩
      refine ⟨_, rfl, rfl, _, rfl, ?_⟩
      have k := inner_block (l := st) (i := i) (y := y) (by rw [List.getElem?_eq_getElem hs, hc])
      rw [← e] at k
      refine iteT ⟨_, rfl, ?_⟩
      have q' : Q (.int (innerCol st)) H2 := q
      rw [k] at q'
      exact q'
    | marker y =>
      rw [hc] at ht2
      refine ⟨_, _, rfl, SqT.of ht2, rfl, _, _, rfl, _, _, rfl, rfl, ?_⟩
      refine ⟨_, rfl, rfl, _, rfl, ?_⟩
      rw [nbm]
      exact iteF ⟨rfl, ⟨_, _, rfl⟩, by rw [e]; exact inner_marker (by rw [List.getElem?_eq_getElem hs, hc])⟩
  · rintro σ H2 ⟨rfl, ⟨l1, l2, rfl⟩, e⟩
    have ed : st.drop ((as.reverse.map V.ref).length) = [] := by
      rw [List.length_map, List.length_reverse]
      exact List.drop_eq_nil_of_le (by rw [hl]; exact Nat.le_refl _)
    rw [ed] at e
    have q' : Q (.int (innerCol st)) H2 := q
    rw [e] at q'
    exact q'
abbrev sCloseB : Stmt := inClass (topS 32) 5
theorem scCloseB : FnScope ["self", "token"] ["self", "token"] (defScope sCloseB) := ⟨rfl, rfl, rfl, by decide +kernel, rfl, by decide +kernel, by decide +kernel⟩
def spCloseB (C : Addr) : Sp := fun vs H Q _ => ∃ (o c a t : Addr) (x : Ctx) (st : List Ctx) (out : List Tk) (k : Tk), vs = [.ref o, .ref t] ∧ Arr C H o c a (x :: st, out) ∧ H t = some (.tup (tkV k)) ∧ out.length ≤ 5000 ∧
  ∀ H', Arr C H' o c a (st, out ++ [sg "}" k]) → Keep2 c a H H' → Q .non H'
theorem c_closeB {f : Addr} {fd : FuncData} (T : Txt K w mg C aB aO aC es n) (cadd_sign : C8.Met P w K mg base 1 C "add_sign" (spAddSign C) []) (me : Meth K C "close_block" f) (F : Fun K "close_block" "Arranger.close_block" sCloseB f fd) (b : Binds K fd ["self", "token"] []) : C8.Met P w K mg base 2 C "close_block" (spCloseB C) [] := by
  refine met_of T.cl me F b scCloseB (fun vs H Q E h => ?_) (fun cdv A outer s H vs Q E hr h => ?_)
  · obtain ⟨o, c, a, t, x, st, out, k, rfl, _⟩ := h
    rfl
  obtain ⟨o, c, a, t, x, st, out, k, rfl, AR, ht, hl, q⟩ := h
  obtain ⟨dx, as, ls, h1, h2, h3, h4, h5, h6⟩ := id AR.ex
  cases h4 with
  | @cons ta _ las _ hta h4 =>
  refine ⟨_, (pss_cons (ps_expr (pe_bm0 PySem.F.plainAttrs_list PySem.F.slot_list_pop PySem.F.type_list_pop mt_pop (pe_fld (pv 0) rfl)))
    (pss_one (ps_expr (C8.pe_mt cadd_sign hr (by decide) (pv 0) (pa_cons pe_str (pa_cons (pv 1) pa_nil)))))), ?_⟩
  refine ⟨_, rfl, o, C, dx, _, _, rfl, h1, T.cl, T.nC, flds_c _ _, .inl ⟨rfl, _, SqL.of h2⟩, c, _, _, rfl, rfl, h2, top_at, ?_⟩
  have A1 := Arr.pop (k := x) h1 h2 h3 h4 h5 h6
  have ht1 := AR.tup (keep_c (HO.lst ((ta :: las).reverse.map V.ref).dropLast)) ht
  obtain ⟨dx', as', ls', g1, _⟩ := id A1.ex
  refine ⟨_, rfl, o, dx', _, rfl, g1, flds_no _ _ (by decide +kernel) (by decide +kernel), _, rfl, o, c, a, t, _, "}", k, rfl, A1, ht1, hl, fun H' A2 k2 => ?_⟩
  exact q H' A2 ((keep_c _).trans k2)
/-- the place of the instance: what a method call asks -/
theorem Arr.ins {H : Hp} {o c a : Addr} {s : LS} (A : Arr C H o c a s) : ∃ dx, H o = some (.ins C dx (flds c a)) := let ⟨dx, _, _, h, _⟩ := A.ex; ⟨dx, h⟩
abbrev sOpenB : Stmt := inClass (topS 32) 4
theorem scOpenB : FnScope ["self", "token"] ["self", "token"] (defScope sOpenB) := ⟨rfl, rfl, rfl, by decide +kernel, rfl, by decide +kernel, by decide +kernel⟩
def spOpenB (C : Addr) : Sp := fun vs H Q _ => ∃ (o c a t : Addr) (s : LS) (k : Tk), vs = [.ref o, .ref t] ∧ Arr C H o c a s ∧ H t = some (.tup (tkV k)) ∧ s.1.length + s.2.length ≤ 4000 ∧
  ∀ H', Arr C H' o c a (opens k s).1 → Keep2 c a H H' → Q (.bl (opens k s).2) H'
theorem c_openB {f : Addr} {fd : FuncData} (T : Txt K w mg C aB aO aC es n) (cadd_sign : C8.Met P w K mg base 1 C "add_sign" (spAddSign C) []) (cinnermost_column : C8.Met P w K mg base 1 C "innermost_column" (spInner C) []) (me : Meth K C "open_block" f) (F : Fun K "open_block" "Arranger.open_block" sOpenB f fd) (b : Binds K fd ["self", "token"] []) : C8.Met P w K mg base 2 C "open_block" (spOpenB C) [] := by
  refine met_of T.cl me F b scOpenB (fun vs H Q E h => ?_) (fun cdv A outer s H vs Q E hr h => ?_)
  · obtain ⟨o, c, a, t, s, k, rfl, _⟩ := h
    rfl
  obtain ⟨o, c, a, t, ⟨st, out⟩, k, rfl, AR, ht, hl, q⟩ := h
  have hl' : st.length + out.length ≤ 4000 := hl
  have mno : ¬ ("add_sign" : Str) = "arranged" ∧ ¬ ("add_sign" : Str) = "contexts" ∧ ¬ ("innermost_column" : Str) = "arranged" ∧ ¬ ("innermost_column" : Str) = "contexts" := by decide +kernel
  refine ⟨_, (pss_cons (ps_expr (C8.pe_mt cadd_sign hr (by decide) (pv 0) (pa_cons pe_str (pa_cons (pv 1) pa_nil))))
    (C8.pss_cut (ps_if (PW.pt (pw_and (pt_cmpR op_ne (pe_ix ix_tup (pv 1) pe_int (fun _ _ => rfl)) pe_str (nomark _)) (pw_and1 (pt_cmpR op_gt (pe_ix ix_tup (pv 1) pe_int (fun _ _ => rfl)) (C8.pe_mt0 cinnermost_column hr (by decide) (pv 0)) (nomark _)))))
      (pss_cons (ps_expr (pe_bm PySem.F.plainAttrs_list PySem.F.slot_list_append PySem.F.type_list_append mt_append (pe_fld (pv 0) rfl) (pa_cons (pe_tup (pa_cons pe_str (pa_cons (pe_ix ix_tup (pv 1) pe_int (fun _ _ => rfl)) pa_nil))) pa_nil)))
    (pss_one (ps_ret pe_bl)))
      pss_nil)
    (pss_cons (ps_expr (C8.pe_mt cadd_sign hr (by decide) (pv 0) (pa_cons pe_str (pa_cons (pv 1) pa_nil))))
    (pss_one (ps_ret pe_bl))))), ?_⟩
  obtain ⟨dx, g1⟩ := AR.ins
  refine ⟨_, rfl, o, dx, _, rfl, g1, flds_no _ _ mno.1 mno.2.1, _, rfl, o, c, a, t, _, "{", k, rfl, AR, ht, (by show out.length ≤ 5000; omega), fun H1 A1 k1 => ?_⟩
  have ht1 := AR.tup k1 ht
  refine ⟨fun σ' H' => σ' = [some (.ref o), some (.ref t)] ∧ H' = H1 ∧ ¬ (k.1 ≠ "end" ∧ innerCol st < k.2.2.2), ?_, ?_⟩
  · refine ⟨_, rfl, t, _, 0, _, rfl, rfl, SqT.of ht1, rfl, rfl, _, rfl, ?_⟩
    by_cases he : k.1 = "end"
    · rw [decide_eq_true (show V.str k.1 = V.str "end" by rw [he])]
      exact iteF (iteF ⟨rfl, rfl, fun z => z.1 he⟩)
    · rw [decide_eq_false (fun z => he (V.str.inj z) : ¬ V.str k.1 = V.str "end")]
      obtain ⟨dx1, e1⟩ := A1.ins
      refine iteT ⟨_, rfl, t, _, 3, _, rfl, rfl, SqT.of ht1, rfl, _, rfl, o, dx1, _, rfl, e1, flds_no _ _ mno.2.2.1 mno.2.2.2, o, c, a, _, rfl, A1, _, _, rfl, rfl, _, rfl, ?_⟩
      by_cases hc : innerCol st < k.2.2.2
      · rw [decide_eq_true (show innerCol (st, out ++ [sg "{" k]).1 < k.2.2.2 from hc)]
        have eo : opens k (st, out) = ((.block k.2.2.2 :: st, out ++ [sg "{" k]), true) := if_pos ⟨he, hc⟩
        obtain ⟨dx2, as2, ls2, j1, j2, j3, j4, j5, j6⟩ := id A1.ex
        refine iteT ⟨_, rfl, o, C, dx2, _, _, rfl, j1, T.cl, T.nC, flds_c _ _, .inl ⟨rfl, _, SqL.of j2⟩, _, rfl, t, _, 3, _, rfl, rfl, SqT.of ht1, rfl, (by show 2 ≤ sizeLine; decide), fun p hp => ?_⟩
        have k3 := same_new hp (.tup (Ctx.v (.block k.2.2.2)))
        have jl := j4.len
        refine ⟨c, _, _, rfl, rfl, k3 _ _ j2, szl (by rw [List.length_map, List.length_reverse, jl]; show st.length ≤ 100000; omega), ?_⟩
        have A3 := Arr.push (k := .block k.2.2.2) (k3 _ _ j1) (k3 _ _ j2) (k3 _ _ j3) (j4.keep fun _ _ h => k3 _ _ h) (j5.keep fun _ _ h => k3 _ _ h) j6 upd_same
        rw [eo] at q
        exact q _ A3 ((k1.trans (keep2_of k3)).trans (keep_c _))
      · rw [decide_eq_false (show ¬ innerCol (st, out ++ [sg "{" k]).1 < k.2.2.2 from hc)]
        exact iteF ⟨rfl, rfl, fun z => hc z.2⟩
  · rintro σ' H' ⟨rfl, rfl, hn⟩
    have eo : opens k (st, out) = ((st, out ++ [sg "{" k, sg "}" k]), false) := if_neg hn
    obtain ⟨dx1, e1⟩ := A1.ins
    refine ⟨_, rfl, o, dx1, _, rfl, e1, flds_no _ _ mno.1 mno.2.1, _, rfl, o, c, a, t, _, "}", k, rfl, A1, ht1, (by show (out ++ [sg "{" k]).length ≤ 5000; rw [List.length_append]; show out.length + 1 ≤ 5000; omega), fun H2 A2 k2 => ?_⟩
    rw [eo] at q
    have e2 : (out ++ [sg "{" k]) ++ [sg "}" k] = out ++ [sg "{" k, sg "}" k] := by simp
    have A2' : Arr C H2 o c a (st, (out ++ [sg "{" k]) ++ [sg "}" k]) := A2
    rw [e2] at A2'
    exact q _ A2' (k1.trans k2)
abbrev sCloseAll : Stmt := inClass (topS 32) 6
theorem scCloseAll : FnScope ["self", "token"] ["self", "token"] (defScope sCloseAll) := ⟨rfl, rfl, rfl, by decide +kernel, rfl, by decide +kernel, by decide +kernel⟩
def spCloseAll (C : Addr) : Sp := fun vs H Q _ => ∃ (o c a t : Addr) (s : LS) (k : Tk), vs = [.ref o, .ref t] ∧ Arr C H o c a s ∧ H t = some (.tup (tkV k)) ∧ s.1.length + s.2.length ≤ 5000 ∧ (∀ y, Ctx.block y ∈ s.1 → 0 < y) ∧
  ∀ H', Arr C H' o c a ([], endAll k s.1 s.2) → Keep2 c a H H' → Q .non H'
theorem c_closeAll {f : Addr} {fd : FuncData} (T : Txt K w mg C aB aO aC es n) (cclose_block : C8.Met P w K mg base 2 C "close_block" (spCloseB C) []) (ctop_column : C8.Met P w K mg base 1 C "top_column" (spTopCol C) []) (me : Meth K C "close_all" f) (F : Fun K "close_all" "Arranger.close_all" sCloseAll f fd) (b : Binds K fd ["self", "token"] []) : C8.Met P w K mg base 3 C "close_all" (spCloseAll C) [] := by
  refine met_of T.cl me F b scCloseAll (fun vs H Q E h => ?_) (fun cdv A outer s H vs Q E hr h => ?_)
  · obtain ⟨o, c, a, t, s, k, rfl, _⟩ := h
    rfl
  obtain ⟨o, c, a, t, ⟨st0, out0⟩, k, rfl, AR, ht, hl, hb, q⟩ := h
  have mno : ¬ ("close_block" : Str) = "arranged" ∧ ¬ ("close_block" : Str) = "contexts" ∧ ¬ ("top_column" : Str) = "arranged" ∧ ¬ ("top_column" : Str) = "contexts" := by decide +kernel
  refine ⟨_, (pss_one (ps_while PassesOwn.never (pt_truth (pe_fld (pv 0) rfl) (fun _ => rfl))
      (pss_one (ps_if (pt_cmpR op_gt (C8.pe_mt0 ctop_column hr (by decide) (pv 0)) pe_int (nomark _))
      (pss_one (ps_expr (C8.pe_mt cclose_block hr (by decide) (pv 0) (pa_cons (pv 1) pa_nil))))
      (pss_one (ps_expr (pe_bm0 PySem.F.plainAttrs_list PySem.F.slot_list_pop PySem.F.type_list_pop mt_pop (pe_fld (pv 0) rfl)))))))), ?_⟩
  refine ⟨fun m σ H2 => ∃ st out, m = st.length ∧ σ = [some (.ref o), some (.ref t)] ∧ Arr C H2 o c a (st, out) ∧ Keep2 c a H H2 ∧ endAll k st out = endAll k st0 out0 ∧ st.length + out.length ≤ 5000 ∧ ∀ y, Ctx.block y ∈ st → 0 < y,
    ⟨_, st0, out0, rfl, rfl, AR, Keep2.refl _ _ _, rfl, hl, hb⟩, ?_⟩
  rintro m σ H2 ⟨st, out, rfl, rfl, A2, k2, e, hl2, hb2⟩
  obtain ⟨dx, as, ls, h1, h2, h3, h4, h5, h6⟩ := id A2.ex
  refine ⟨_, rfl, o, C, dx, _, _, rfl, h1, T.cl, T.nC, flds_c _ _, _, .inl ⟨_, SqL.of h2, rfl⟩, ?_⟩
  cases h4 with
  | nil =>
    have e' : out = endAll k st0 out0 := e
    rw [← e'] at q
    exact iteF (q _ A2 k2)
  | @cons tx x l st ht2 h4 =>
    have ne : (!((tx :: l).reverse.map V.ref).isEmpty) = true := by simp
    rw [ne]
    refine iteT ⟨_, fun _ _ h => h, ?_⟩
    refine ⟨_, rfl, o, dx, _, rfl, h1, flds_no _ _ mno.2.2.1 mno.2.2.2, o, c, a, _, rfl, A2, _, _, rfl, rfl, _, rfl, ?_⟩
    cases x with
    | block y =>
      have hy : 0 < y := hb2 y (List.mem_cons_self ..)
      rw [decide_eq_true (show (0 : Int) < topCol (Ctx.block y :: st, out).1 from hy)]
      have lc : (Ctx.block y :: st).length = st.length + 1 := rfl
      refine iteT ⟨_, rfl, o, dx, _, rfl, h1, flds_no _ _ mno.1 mno.2.1, _, rfl, o, c, a, t, _, st, out, k, rfl, A2, AR.tup k2 ht, (by omega), fun H3 A3 k3 => ?_⟩
      refine ⟨st.length, by omega, st, _, rfl, rfl, A3, k2.trans k3, e, ?_, fun z hz => hb2 z (List.mem_cons_of_mem _ hz)⟩
      rw [List.length_append]
      show st.length + (out.length + 1) ≤ 5000
      omega
    | marker y =>
      have lc : (Ctx.marker y :: st).length = st.length + 1 := rfl
      refine iteF ⟨_, rfl, o, C, dx, _, _, rfl, h1, T.cl, T.nC, flds_c _ _, .inl ⟨rfl, _, SqL.of h2⟩, c, _, _, rfl, rfl, h2, top_at, ?_⟩
      have A3 := Arr.pop (k := .marker y) h1 h2 h3 h4 h5 h6
      exact ⟨st.length, by omega, st, out, rfl, rfl, A3, k2.trans (keep_c _), e, by omega, fun z hz => hb2 z (List.mem_cons_of_mem _ hz)⟩
end
end Lay
end Toy

set_option Elab.async false
set_option linter.all false
set_option maxRecDepth 100000
set_option maxHeartbeats 4000000
/-! Part H: the Arranger (from k02/d). -/
namespace Toy
namespace Lay
open PySem L2

open PyProof.Rows (envOfC)
theorem firstOf_block (t : Tk) (c : Int) (st : List Ctx) (out : List Tk) : firstOf t (.block c :: st) out = if t.2.2.2 < c then firstOf t st (out ++ [sg "}" t]) else if c = t.2.2.2 then (.block c :: st, out ++ [sg ";" t]) else (.block c :: st, out) := rfl
section
variable {P : Program} {w : World} {K : PySem.W.Frag} {mg : Str → Option Value} {base : Heap} {C aB aO aC : Addr} {es : Array DictEntry} {n : Nat}
abbrev sBegin : Stmt := inClass (topS 32) 7
theorem scBegin : FnScope ["self", "token"] ["self", "token"] (defScope sBegin) := ⟨rfl, rfl, rfl, by decide +kernel, rfl, by decide +kernel, by decide +kernel⟩
def spBegin (C : Addr) : Sp := fun vs H Q _ => ∃ (o c a t : Addr) (s : LS) (k : Tk), vs = [.ref o, .ref t] ∧ Arr C H o c a s ∧ H t = some (.tup (tkV k)) ∧ s.1.length + s.2.length ≤ 4000 ∧ 0 < k.2.2.2 ∧
  ∀ H', Arr C H' o c a (firstOf k s.1 s.2) → Keep2 c a H H' → Q .non H'
theorem c_begin {f : Addr} {fd : FuncData} (T : Txt K w mg C aB aO aC es n) (cclose_block : C8.Met P w K mg base 2 C "close_block" (spCloseB C) []) (ctop_column : C8.Met P w K mg base 1 C "top_column" (spTopCol C) []) (cadd_sign : C8.Met P w K mg base 1 C "add_sign" (spAddSign C) [])
    (me : Meth K C "begin_row" f) (F : Fun K "begin_row" "Arranger.begin_row" sBegin f fd) (b : Binds K fd ["self", "token"] []) : C8.Met P w K mg base 3 C "begin_row" (spBegin C) [] := by
  refine met_of T.cl me F b scBegin (fun vs H Q E h => ?_) (fun cdv A outer s H vs Q E hr h => ?_)
  · obtain ⟨o, c, a, t, s, k, rfl, _⟩ := h
    rfl
  obtain ⟨o, c, a, t, ⟨st0, out0⟩, k, rfl, AR, ht, hl, hk, q⟩ := h
  have mno : ¬ ("close_block" : Str) = "arranged" ∧ ¬ ("close_block" : Str) = "contexts" ∧ ¬ ("top_column" : Str) = "arranged" ∧ ¬ ("top_column" : Str) = "contexts" ∧ ¬ ("add_sign" : Str) = "arranged" ∧ ¬ ("add_sign" : Str) = "contexts" := by decide +kernel
  refine ⟨_, (pss_cons (ps_while PassesOwn.never (pt_cmpR op_gt (C8.pe_mt0 ctop_column hr (by decide) (pv 0)) (pe_ix ix_tup (pv 1) pe_int (fun _ _ => rfl)) (nomark _))
      (pss_one (ps_expr (C8.pe_mt cclose_block hr (by decide) (pv 0) (pa_cons (pv 1) pa_nil)))))
    (pss_one (ps_if (pt_cmpR op_eq (C8.pe_mt0 ctop_column hr (by decide) (pv 0)) (pe_ix ix_tup (pv 1) pe_int (fun _ _ => rfl)) (nomark _))
      (pss_one (ps_expr (C8.pe_mt cadd_sign hr (by decide) (pv 0) (pa_cons pe_str (pa_cons (pv 1) pa_nil)))))
      pss_nil))), ?_⟩
  refine ⟨fun m σ H2 => ∃ st out, m = st.length ∧ σ = [some (.ref o), some (.ref t)] ∧ Arr C H2 o c a (st, out) ∧ Keep2 c a H H2 ∧ firstOf k st out = firstOf k st0 out0 ∧ st.length + out.length ≤ 4000,
    ⟨_, st0, out0, rfl, rfl, AR, Keep2.refl _ _ _, rfl, hl⟩, ?_⟩
  rintro m σ H2 ⟨st, out, rfl, rfl, A2, k2, e, hl2⟩
  obtain ⟨dx, h1⟩ := A2.ins
  have ht2 := AR.tup k2 ht
  refine ⟨_, rfl, o, dx, _, rfl, h1, flds_no _ _ mno.2.2.1 mno.2.2.2.1, o, c, a, _, rfl, A2, _, rfl, t, _, 3, _, rfl, rfl, SqT.of ht2, rfl, _, _, rfl, rfl, _, rfl, ?_⟩
  have tail : topCol st = k.2.2.2 → firstOf k st out = (st, out ++ [sg ";" k]) := fun ec => by
    cases st with
    | nil => have ec' : (0 : Int) = k.2.2.2 := ec; omega
    | cons x st =>
      cases x with
      | block y =>
        have ec' : y = k.2.2.2 := ec
        rw [firstOf_block, if_neg (by omega), if_pos ec']
      | marker y => have ec' : (0 : Int) = k.2.2.2 := ec; omega
  have tail2 : ¬ k.2.2.2 < topCol st → ¬ topCol st = k.2.2.2 → firstOf k st out = (st, out) := fun e1 e2 => by
    cases st with
    | nil => rfl
    | cons x st =>
      cases x with
      | block y =>
        have e1' : ¬ k.2.2.2 < y := e1
        have e2' : ¬ y = k.2.2.2 := e2
        rw [firstOf_block, if_neg e1', if_neg e2']
      | marker y => rfl
  by_cases hc : k.2.2.2 < topCol st
  · rw [decide_eq_true (show k.2.2.2 < topCol (st, out).1 from hc)]
    refine iteT ⟨_, fun _ _ h => h, ?_⟩
    cases st with
    | nil => have hc' : k.2.2.2 < 0 := hc; omega
    | cons x st =>
      cases x with
      | marker y => have hc' : k.2.2.2 < 0 := hc; omega
      | block y =>
        have hc' : k.2.2.2 < y := hc
        have lc : (Ctx.block y :: st).length = st.length + 1 := rfl
        refine ⟨_, rfl, o, dx, _, rfl, h1, flds_no _ _ mno.1 mno.2.1, _, rfl, o, c, a, t, _, st, out, k, rfl, A2, ht2, (by omega), fun H3 A3 k3 => ?_⟩
        refine ⟨st.length, by omega, st, _, rfl, rfl, A3, k2.trans k3, ?_, ?_⟩
        · rw [← e, firstOf_block, if_pos hc']
        · rw [List.length_append]
          show st.length + (out.length + 1) ≤ 4000
          omega
  · rw [decide_eq_false (show ¬ k.2.2.2 < topCol (st, out).1 from hc)]
    refine iteF ?_
    refine ⟨_, rfl, o, dx, _, rfl, h1, flds_no _ _ mno.2.2.1 mno.2.2.2.1, o, c, a, _, rfl, A2, _, rfl, t, _, 3, _, rfl, rfl, SqT.of ht2, rfl, rfl, _, rfl, ?_⟩
    have q' : ∀ H', Arr C H' o c a (firstOf k st0 out0) → Keep2 c a H H' → Q .non H' := q
    by_cases he : topCol st = k.2.2.2
    · rw [decide_eq_true (show V.int (topCol (st, out).1) = V.int k.2.2.2 from congrArg V.int he)]
      rw [← e, tail he] at q'
      exact iteT ⟨_, rfl, o, dx, _, rfl, h1, flds_no _ _ mno.2.2.2.2.1 mno.2.2.2.2.2, _, rfl, o, c, a, t, _, ";", k, rfl, A2, ht2, (by show out.length ≤ 5000; omega), fun H3 A3 k3 => q' _ A3 (k2.trans k3)⟩
    · rw [decide_eq_false (fun z => he (V.int.inj z) : ¬ V.int (topCol (st, out).1) = V.int k.2.2.2)]
      rw [← e, tail2 hc he] at q'
      exact iteF (q' _ A2 k2)
/-! ### up to a marker -/
def AllB (l : List Ctx) : Prop := ∀ x ∈ l, ∃ y, x = .block y
theorem topMarker_all : ∀ {bs st : List Ctx}, AllB bs → topMarker (bs ++ st) = topMarker st
  | [], _, _ => rfl
  | x :: bs, st, h => by
    obtain ⟨y, rfl⟩ := h x (List.mem_cons_self ..)
    exact topMarker_all (bs := bs) fun z hz => h z (List.mem_cons_of_mem _ hz)
theorem closeTop_all (t : Tk) : ∀ {bs st : List Ctx} (out : List Tk), AllB bs → closeTop t (bs ++ st) out = closeTop t st (out ++ List.replicate bs.length (sg "}" t))
  | [], st, out, _ => by simp
  | x :: bs, st, out, h => by
    obtain ⟨y, rfl⟩ := h x (List.mem_cons_self ..)
    show closeTop t (bs ++ st) (out ++ [sg "}" t]) = _
    rw [closeTop_all t _ fun z hz => h z (List.mem_cons_of_mem _ hz), List.append_assoc]
    rfl
theorem rev_atI {l : List Addr} {i : Nat} (h : i < l.length) : atI (l.reverse.map V.ref) ((l.length : Int) - 1 - (i : Int)) = some (V.ref l[i]) := by
  have e : (l.length : Int) - 1 - (i : Int) = ((l.length - 1 - i : Nat) : Int) := by omega
  rw [e]
  refine atI_nat ?_
  have k := rev_at h
  rw [List.length_map, List.length_reverse] at k
  exact k
abbrev sUpTo : Stmt := inClass (topS 32) 8
theorem scUpTo : FnScope ["self", "markers", "token", "at"] ["self", "markers", "token"] (defScope sUpTo) := ⟨rfl, rfl, rfl, by decide +kernel, rfl, by decide +kernel, by decide +kernel⟩
def spUpTo (K : PySem.W.Frag) (C : Addr) : Sp := fun vs H Q _ => ∃ (o c a t mt : Addr) (s : LS) (k : Tk) (ms : List Str), vs = [.ref o, .ref mt, .ref t] ∧ Arr C H o c a s ∧ H t = some (.tup (tkV k)) ∧ H mt = some (.tup (ms.map V.str)) ∧ s.1.length + s.2.length ≤ 4000 ∧
  ∀ H', Arr C H' o c a (upTo ms k s).1 → Keep2 c a H H' → Q (.bl (upTo ms k s).2) H'
theorem c_upTo {f : Addr} {fd : FuncData} (T : Txt K w mg C aB aO aC es n) (cclose_block : C8.Met P w K mg base 2 C "close_block" (spCloseB C) [])
    (me : Meth K C "close_up_to" f) (F : Fun K "close_up_to" "Arranger.close_up_to" sUpTo f fd) (b : Binds K fd ["self", "markers", "token"] []) : C8.Met P w K mg base 3 C "close_up_to" (spUpTo K C) [] := by
  refine met_of T.cl me F b scUpTo (fun vs H Q E h => ?_) (fun cdv A outer s H vs Q E hr h => ?_)
  · obtain ⟨o, c, a, t, mt, s, k, ms, rfl, _⟩ := h
    rfl
  obtain ⟨o, c, a, t, mt, ⟨st, out⟩, k, ms, rfl, AR, ht, hm, hl, q⟩ := h
  have mno : ¬ ("close_block" : Str) = "arranged" ∧ ¬ ("close_block" : Str) = "contexts" := by decide +kernel
  obtain ⟨dx, as, ls, h1, h2, h3, h4, h5, h6⟩ := id AR.ex
  have hal : as.length = st.length := h4.len
  have hxl : (as.reverse.map V.ref).length = as.length := by rw [List.length_map, List.length_reverse]
  refine ⟨_, (pss_cons (ps_set (i := 3) scUpTo.nd rfl (Or.inl rfl) (pe_op op_sub (pe_callB call_len_seq rfl T.zlen PySem.boot_len (pa_cons (pe_fld (pv 0) rfl) pa_nil)) pe_int))
    (pss_cons (ps_while PassesOwn.never (PW.pt (pw_and (pt_cmpR op_ge (pv 3) pe_int (nomark _)) (pw_and1 (pt_cmpR op_eq (pe_ix ix_tup (pe_ix ix_list (pe_fld (pv 0) rfl) (pv 3) (fun _ _ => rfl)) pe_int (fun _ _ => rfl)) pe_str (nomark _)))))
      (pss_one (ps_aug (i := 3) scUpTo.nd rfl (Or.inl rfl) pe_int ip_sub)))
    (pss_cons (ps_if (PW.pt (pw_or (pt_cmpR op_lt (pv 3) pe_int (nomark _)) (pw_or1 (pt_cmpR op_notIn_seq (pe_ix ix_tup (pe_ix ix_list (pe_fld (pv 0) rfl) (pv 3) (fun _ _ => rfl)) pe_int (fun _ _ => rfl)) (pv 1) rfl))))
      (pss_one (ps_ret pe_bl))
      pss_nil)
    (pss_cons (ps_while PassesOwn.never (pt_cmpR op_gt (pe_callB call_len_seq rfl T.zlen PySem.boot_len (pa_cons (pe_fld (pv 0) rfl) pa_nil)) (pe_op op_add (pv 3) pe_int) (nomark _))
      (pss_one (ps_expr (C8.pe_mt cclose_block hr (by decide) (pv 0) (pa_cons (pv 2) pa_nil)))))
    (pss_one (ps_ret pe_bl)))))), ?_⟩
  refine ⟨_, rfl, o, C, dx, _, _, rfl, h1, T.cl, T.nC, flds_c _ _, c, _, rfl, .inl (SqL.of h2), _, _, rfl, rfl, ?_⟩
  rw [hxl]
  -- the blocks on top are passed
  refine ⟨fun m σ H2 => H2 = H ∧ ∃ bs rest : List Ctx, m = rest.length ∧ st = bs ++ rest ∧ AllB bs ∧ σ = [some (.ref o), some (.ref mt), some (.ref t), some (.int ((as.length : Int) - 1 - (bs.length : Int)))],
    ⟨_, rfl, [], st, rfl, rfl, (fun x hx => by cases hx), by rw [show (as.length : Int) - 1 - ((([] : List Ctx).length : Nat) : Int) = (as.length : Int) - 1 from Int.sub_zero _]; rfl⟩, ?_⟩
  rintro m σ H2 ⟨rfl, bs, rest, rfl, est, hb, rfl⟩
  have hlen : st.length = bs.length + rest.length := by rw [est, List.length_append]
  refine ⟨_, rfl, _, _, rfl, rfl, _, rfl, ?_⟩
  cases rest with
  | nil =>
    have hlen' : st.length = bs.length := hlen
    rw [decide_eq_false (show ¬ (0 : Int) ≤ (as.length : Int) - 1 - (bs.length : Int) by omega)]
    refine iteF (iteF ?_)
    refine ⟨_, rfl, _, _, rfl, rfl, _, rfl, ?_⟩
    rw [decide_eq_true (show (as.length : Int) - 1 - (bs.length : Int) < 0 by omega)]
    have eu : upTo ms k (st, out) = ((st, out), false) := by
      have e1 : topMarker st = none := by rw [est, topMarker_all hb]; rfl
      unfold upTo
      rw [show topMarker (st, out).1 = none from e1]
    rw [eu] at q
    exact iteT (iteT (q _ AR (Keep2.refl _ _ _)))
  | cons x rest =>
    have hlen' : st.length = bs.length + (rest.length + 1) := hlen
    have hi : bs.length < as.length := by omega
    have hx : st[bs.length]? = some x := by rw [est]; simp
    obtain ⟨tx, ht1, ht2⟩ := h4.get hx
    rw [List.getElem?_eq_getElem hi] at ht1
    have etx : as[bs.length] = tx := Option.some.inj ht1
    have hat := rev_atI hi
    rw [etx] at hat
    rw [decide_eq_true (show (0 : Int) ≤ (as.length : Int) - 1 - (bs.length : Int) by omega)]
    refine iteT ?_
    cases x with
    | block y =>
      refine ⟨_, rfl, o, C, dx, _, _, rfl, h1, T.cl, T.nC, flds_c _ _, _, rfl, c, _, _, _, rfl, rfl, SqL.of h2, hat, tx, _, 0, _, rfl, rfl, SqT.of ht2, rfl, rfl, _, rfl, ?_⟩
      refine iteT ⟨_, fun _ _ h => h, ?_⟩
      refine ⟨_, rfl, _, _, rfl, rfl, rest.length, (by show rest.length < rest.length + 1; omega), rfl, bs ++ [.block y], rest, rfl, by rw [est]; simp, ?_, ?_⟩
      · intro z hz
        rcases List.mem_append.mp hz with hz | hz
        · exact hb z hz
        · exact ⟨y, List.mem_singleton.mp hz⟩
      · rw [List.length_append]
        show [some (V.ref o), some (V.ref mt), some (V.ref t), some (V.int ((as.length : Int) - 1 - (bs.length : Int) - 1))] = [_, _, _, some (V.int ((as.length : Int) - 1 - ((bs.length + 1 : Nat) : Int)))]
        rw [show (as.length : Int) - 1 - (bs.length : Int) - 1 = (as.length : Int) - 1 - ((bs.length + 1 : Nat) : Int) by omega]
    | marker y =>
      refine ⟨_, rfl, o, C, dx, _, _, rfl, h1, T.cl, T.nC, flds_c _ _, _, rfl, c, _, _, _, rfl, rfl, SqL.of h2, hat, tx, _, 0, _, rfl, rfl, SqT.of ht2, rfl, rfl, _, rfl, ?_⟩
      rw [nbm]
      refine iteF ?_
      refine ⟨_, rfl, _, _, rfl, rfl, _, rfl, ?_⟩
      rw [decide_eq_false (show ¬ (as.length : Int) - 1 - (bs.length : Int) < 0 by omega)]
      refine iteF ?_
      refine ⟨_, rfl, o, C, dx, _, _, rfl, h1, T.cl, T.nC, flds_c _ _, _, rfl, c, _, _, _, rfl, rfl, SqL.of h2, hat, tx, _, 1, _, rfl, rfl, SqT.of ht2, rfl, _, rfl, mt, _, rfl, .inr (SqT.of hm), rfl, strs_flat ms, _, rfl, ?_⟩
      show if (!inV (.str y) (ms.map V.str)) = true then _ else _
      rw [inV_strs]
      have e1 : topMarker st = some y := by rw [est, topMarker_all hb]; rfl
      by_cases hy : y ∈ ms
      · rw [decide_eq_true hy]
        refine iteF ?_
        have eu : upTo ms k (st, out) = (closeTop k st out, true) := by
          unfold upTo
          rw [show topMarker (st, out).1 = some y from e1]
          exact if_pos hy
        rw [eu] at q
        -- the blocks are closed
        refine ⟨fun m σ H2' => ∃ bs' out', m = bs'.length ∧ σ = [some (.ref o), some (.ref mt), some (.ref t), some (.int ((as.length : Int) - 1 - (bs.length : Int)))] ∧ AllB bs' ∧ Arr C H2' o c a (bs' ++ .marker y :: rest, out') ∧ Keep2 c a H2 H2' ∧ closeTop k (bs' ++ .marker y :: rest) out' = closeTop k st out ∧ bs'.length + out'.length ≤ 4000,
          ⟨_, bs, out, rfl, rfl, hb, est ▸ AR, Keep2.refl _ _ _, by rw [est], by show bs.length + out.length ≤ 4000; have hl' : st.length + out.length ≤ 4000 := hl; omega⟩, ?_⟩
        rintro m σ H3 ⟨bs', out', rfl, rfl, hb', A3, k3, e3, hl3⟩
        obtain ⟨dx3, as3, ls3, j1, j2, j3, j4, j5, j6⟩ := id A3.ex
        have j4l : as3.length = bs'.length + (rest.length + 1) := by
          have := j4.len
          rw [List.length_append] at this
          exact this
        refine ⟨_, rfl, o, C, dx3, _, _, rfl, j1, T.cl, T.nC, flds_c _ _, c, _, rfl, .inl (SqL.of j2), _, rfl, _, _, rfl, rfl, _, _, rfl, rfl, _, rfl, ?_⟩
        rw [List.length_map, List.length_reverse]
        cases bs' with
        | nil =>
          have j4l' : as3.length = 0 + (rest.length + 1) := j4l
          rw [decide_eq_false (show ¬ (as.length : Int) - 1 - (bs.length : Int) + 1 < (as3.length : Int) by omega)]
          rw [← e3] at q
          exact iteF (q _ A3 k3)
        | cons x bs' =>
          have j4l' : as3.length = (bs'.length + 1) + (rest.length + 1) := j4l
          rw [decide_eq_true (show (as.length : Int) - 1 - (bs.length : Int) + 1 < (as3.length : Int) by omega)]
          refine iteT ⟨_, fun _ _ h => h, ?_⟩
          obtain ⟨yx, rfl⟩ := hb' x (List.mem_cons_self ..)
          have hl3' : bs'.length + 1 + out'.length ≤ 4000 := hl3
          refine ⟨_, rfl, o, dx3, _, rfl, j1, flds_no _ _ mno.1 mno.2, _, rfl, o, c, a, t, _, bs' ++ .marker y :: rest, out', k, rfl, A3, AR.tup k3 ht, (by omega), fun H4 A4 k4 => ?_⟩
          refine ⟨bs'.length, (by show bs'.length < bs'.length + 1; omega), bs', _, rfl, rfl, fun z hz => hb' z (List.mem_cons_of_mem _ hz), A4, k3.trans k4, e3, ?_⟩
          rw [List.length_append]
          show bs'.length + (out'.length + 1) ≤ 4000
          omega
      · rw [decide_eq_false hy]
        have eu : upTo ms k (st, out) = ((st, out), false) := by
          unfold upTo
          rw [show topMarker (st, out).1 = some y from e1]
          exact if_neg hy
        rw [eu] at q
        exact iteT (q _ AR (Keep2.refl _ _ _))
/-! ### a token met -/
theorem Arr.of_eq {H : Hp} {o c a : Addr} {s s' : LS} (A : Arr C H o c a s) (e : s = s') : Arr C H o c a s' := e ▸ A
theorem upTo_len (ms : List Str) (t : Tk) (s : LS) : (upTo ms t s).1.1.length + (upTo ms t s).1.2.length = s.1.length + s.2.length := by
  have key : ∀ (st : List Ctx) (out : List Tk), (closeTop t st out).1.length + (closeTop t st out).2.length = st.length + out.length := by
    intro st
    induction st with
    | nil => intro out; rfl
    | cons x st ih =>
      intro out
      cases x with
      | block y =>
        show (closeTop t st (out ++ [sg "}" t])).1.length + (closeTop t st (out ++ [sg "}" t])).2.length = _
        rw [ih, List.length_append]
        show st.length + (out.length + 1) = (st.length + 1) + out.length
        omega
      | marker y => rfl
  unfold upTo
  split
  · split
    · exact key s.1 s.2
    · rfl
  · rfl
theorem upTo_top {m : Str} {t : Tk} {s : LS} (h : (upTo [m] t s).2 = true) : ∃ rest, (upTo [m] t s).1.1 = .marker m :: rest := by
  have key : ∀ (st : List Ctx) (out : List Tk), topMarker st = some m → ∃ rest, (closeTop t st out).1 = .marker m :: rest := by
    intro st
    induction st with
    | nil => intro out h; cases h
    | cons x st ih =>
      intro out h
      cases x with
      | block y => exact ih _ h
      | marker y =>
        have hy : y = m := Option.some.inj h
        subst hy
        exact ⟨st, rfl⟩
  unfold upTo at h ⊢
  split at h
  · rename_i m' e
    by_cases hm : m' ∈ [m]
    · rw [if_pos hm]
      have := List.mem_singleton.mp hm
      subst this
      exact key _ _ e
    · rw [if_neg hm] at h
      cases h
  · cases h
abbrev sMeet : Stmt := inClass (topS 32) 9
theorem scMeet : FnScope ["self", "token", "text"] ["self", "token"] (defScope sMeet) := ⟨rfl, rfl, rfl, by decide +kernel, rfl, by decide +kernel, by decide +kernel⟩
def spMeet (C : Addr) : Sp := fun vs H Q _ => ∃ (o c a t : Addr) (s : LS) (k : Tk), vs = [.ref o, .ref t] ∧ Arr C H o c a s ∧ H t = some (.tup (tkV k)) ∧ s.1.length + s.2.length ≤ 4000 ∧
  ∀ H', Arr C H' o c a (meet k s) → Keep2 c a H H' → Q .non H'
theorem c_meet {f : Addr} {fd : FuncData} (T : Txt K w mg C aB aO aC es n) (cclose_up_to : C8.Met P w K mg base 3 C "close_up_to" (spUpTo K C) [])
    (me : Meth K C "meet" f) (F : Fun K "meet" "Arranger.meet" sMeet f fd) (b : Binds K fd ["self", "token"] []) : C8.Met P w K mg base 4 C "meet" (spMeet C) [] := by
  refine met_of T.cl me F b scMeet (fun vs H Q E h => ?_) (fun cdv A outer s H vs Q E hr h => ?_)
  · obtain ⟨o, c, a, t, s, k, rfl, _⟩ := h
    rfl
  obtain ⟨o, c, a, t, s0, k, rfl, AR, ht, hl, q⟩ := h
  have mno : ¬ ("close_up_to" : Str) = "arranged" ∧ ¬ ("close_up_to" : Str) = "contexts" := by decide +kernel
  refine ⟨_, (pss_cons (ps_set (i := 2) scMeet.nd rfl (Or.inl rfl) (pe_ix ix_tup (pv 1) pe_int (fun _ _ => rfl)))
    (C8.pss_cut (ps_if (pt_cmpR op_eq (pv 2) pe_str (nomark _))
      (pss_one (ps_expr (C8.pe_mt cclose_up_to hr (by decide) (pv 0) (pa_cons (pe_tup (pa_cons pe_str (pa_cons pe_str pa_nil))) (pa_cons (pv 1) pa_nil)))))
      pss_nil)
    (C8.pss_cut (ps_if (PW.pt (pw_and (pt_cmpR (op_in_kd T.kC) (pv 2) (C8.pe_gc rfl T.gCLOSERS) rfl) (pw_and1 (pt_val (C8.pe_mt cclose_up_to hr (by decide) (pv 0) (pa_cons (pe_tup (pa_cons (pe_ix (ix_kd T.kC) (C8.pe_gc rfl T.gCLOSERS) (pv 2) (fun _ _ => rfl)) pa_nil)) (pa_cons (pv 1) pa_nil)))))))
      (pss_cons (ps_expr (pe_bm0 PySem.F.plainAttrs_list PySem.F.slot_list_pop PySem.F.type_list_pop mt_pop (pe_fld (pv 0) rfl)))
    (pss_one (ps_if (pt_cmpR op_eq (pv 2) pe_str (nomark _))
      (pss_one (ps_expr (pe_bm PySem.F.plainAttrs_list PySem.F.slot_list_append PySem.F.type_list_append mt_append (pe_fld (pv 0) rfl) (pa_cons (pe_tup (pa_cons pe_str (pa_cons pe_str pa_nil))) pa_nil))))
      pss_nil)))
      pss_nil)
    (C8.pss_cut (ps_if (pt_cmpR op_in_seq (pv 2) (C8.pe_gc rfl T.gOPENERS) rfl)
      (pss_one (ps_expr (pe_bm PySem.F.plainAttrs_list PySem.F.slot_list_append PySem.F.type_list_append mt_append (pe_fld (pv 0) rfl) (pa_cons (pe_tup (pa_cons pe_str (pa_cons (pv 2) pa_nil))) pa_nil))))
      pss_nil)
    (pss_one (ps_expr (pe_bm PySem.F.plainAttrs_list PySem.F.slot_list_append PySem.F.type_list_append mt_append (pe_fld (pv 0) rfl) (pa_cons (pv 1) pa_nil)))))))), ?_⟩
  refine ⟨_, rfl, t, _, 1, _, rfl, rfl, SqT.of ht, rfl, ?_⟩
  -- a comma
  refine ⟨fun σ' H' => σ' = [some (.ref o), some (.ref t), some (.str k.2.1)] ∧ Arr C H' o c a (effComma k s0) ∧ Keep2 c a H H', ?_, ?_⟩
  · refine ⟨_, rfl, rfl, _, rfl, ?_⟩
    by_cases hc : k.2.1 = ","
    · rw [decide_eq_true (show V.str k.2.1 = V.str "," by rw [hc])]
      have ee : effComma k s0 = (upTo ["(", "["] k s0).1 := if_pos hc
      obtain ⟨dx, h1⟩ := AR.ins
      refine iteT ⟨_, rfl, o, dx, _, rfl, h1, flds_no _ _ mno.1 mno.2, (by show 2 ≤ sizeLine; decide), fun mt hmt => ?_⟩
      have A1 := AR.new hmt (.tup [.str "(", .str "["])
      refine ⟨_, rfl, o, c, a, t, mt, s0, k, ["(", "["], rfl, A1, (same_new hmt _) _ _ ht, upd_same, hl, fun H2 A2 k2 => ⟨rfl, A2.of_eq ee.symm, (keep2_of (same_new hmt _)).trans k2⟩⟩
    · rw [decide_eq_false (fun z => hc (V.str.inj z) : ¬ V.str k.2.1 = V.str ",")]
      have ee : effComma k s0 = s0 := if_neg hc
      exact iteF ⟨rfl, AR.of_eq ee.symm, Keep2.refl _ _ _⟩
  rintro σ1 H1 ⟨rfl, A1, k1⟩
  have l1 : (effComma k s0).1.length + (effComma k s0).2.length ≤ 4000 := by
    unfold effComma
    split
    · rw [upTo_len]; exact hl
    · exact hl
  -- a closing word
  refine ⟨fun σ' H' => σ' = [some (.ref o), some (.ref t), some (.str k.2.1)] ∧ Arr C H' o c a (effClose k (effComma k s0)) ∧ Keep2 c a H H', ?_, ?_⟩
  · rcases T.tell k.2.1 with ⟨e1, e2⟩ | ⟨m, u, e1, e2, e3⟩
    · have ee : effClose k (effComma k s0) = effComma k s0 := by
        unfold effClose
        rw [e1]
      refine ⟨_, rfl, _, _, rfl, rfl, e2, _, rfl, ?_⟩
      exact iteF (iteF ⟨rfl, A1.of_eq ee.symm, k1⟩)
    · have ee : effClose k (effComma k s0) = (let r := upTo [m] k (effComma k s0); if r.2 = true then (if k.2.1 = "then" then .marker "then" :: r.1.1.tail else r.1.1.tail, r.1.2) else r.1) := by
        unfold effClose
        rw [e1]
      refine ⟨_, rfl, _, _, rfl, rfl, e2, _, rfl, ?_⟩
      obtain ⟨dx, h1⟩ := A1.ins
      refine iteT ⟨_, rfl, o, dx, _, rfl, h1, flds_no _ _ mno.1 mno.2, _, rfl, _, u, .str m, rfl, rfl, e2, e3, (by show 1 ≤ sizeLine; decide), fun mt hmt => ?_⟩
      have A2 := A1.new hmt (.tup [.str m])
      have ks := same_new hmt (.tup [V.str m])
      refine ⟨_, rfl, o, c, a, t, mt, _, k, [m], rfl, A2, ks _ _ (AR.tup k1 ht), upd_same, l1, fun H3 A3 k3 => ⟨_, rfl, ?_⟩⟩
      have k13 := (k1.trans (keep2_of ks)).trans k3
      cases hu : (upTo [m] k (effComma k s0)).2 with
      | false =>
        have ee' : effClose k (effComma k s0) = (upTo [m] k (effComma k s0)).1 := by rw [ee]; simp only [hu]; rfl
        exact iteF ⟨rfl, A3.of_eq ee'.symm, k13⟩
      | true =>
        refine iteT ?_
        obtain ⟨rest, er⟩ := upTo_top hu
        obtain ⟨out3, eo⟩ : ∃ out3, (upTo [m] k (effComma k s0)).1 = (.marker m :: rest, out3) := ⟨_, Prod.ext er rfl⟩
        have ee' : effClose k (effComma k s0) = (if k.2.1 = "then" then .marker "then" :: rest else rest, out3) := by
          rw [ee]
          simp only [hu, eo]
          rfl
        have lr : (Ctx.marker m :: rest).length + out3.length ≤ 4000 := by
          have k2 := upTo_len [m] k (effComma k s0)
          rw [eo] at k2
          show (Ctx.marker m :: rest, out3).1.length + (Ctx.marker m :: rest, out3).2.length ≤ 4000
          omega
        have lr' : rest.length + 1 + out3.length ≤ 4000 := lr
        rw [eo] at A3
        obtain ⟨dx3, as, ls, j1, j2, j3, j4, j5, j6⟩ := id A3.ex
        cases j4 with
        | @cons tx _ las _ htx j4 =>
        refine ⟨_, rfl, o, C, dx3, _, _, rfl, j1, T.cl, T.nC, flds_c _ _, .inl ⟨rfl, _, SqL.of j2⟩, c, _, _, rfl, rfl, j2, top_at, ?_⟩
        have A4 := Arr.pop (k := .marker m) j1 j2 j3 j4 j5 j6
        refine ⟨_, rfl, rfl, _, rfl, ?_⟩
        have k14 := k13.trans (keep_c (a := a) (HO.lst ((tx :: las).reverse.map V.ref).dropLast))
        by_cases ht' : k.2.1 = "then"
        · rw [decide_eq_true (show V.str k.2.1 = V.str "then" by rw [ht'])]
          rw [if_pos ht'] at ee'
          obtain ⟨dx4, as4, ls4, i1, i2, i3, i4, i5, i6⟩ := id A4.ex
          refine iteT ⟨_, rfl, o, C, dx4, _, _, rfl, i1, T.cl, T.nC, flds_c _ _, .inl ⟨rfl, _, SqL.of i2⟩, (by show 2 ≤ sizeLine; decide), fun p hp => ?_⟩
          have k5 := same_new hp (.tup (Ctx.v (.marker "then")))
          have il := i4.len
          refine ⟨c, _, _, rfl, rfl, k5 _ _ i2, szl (by rw [List.length_map, List.length_reverse, il]; show rest.length ≤ 100000; omega), ?_⟩
          have A5 := Arr.push (k := .marker "then") (k5 _ _ i1) (k5 _ _ i2) (k5 _ _ i3) (i4.keep fun _ _ h => k5 _ _ h) (i5.keep fun _ _ h => k5 _ _ h) i6 upd_same
          exact ⟨rfl, A5.of_eq ee'.symm, (k14.trans (keep2_of k5)).trans (keep_c _)⟩
        · rw [decide_eq_false (fun z => ht' (V.str.inj z) : ¬ V.str k.2.1 = V.str "then")]
          rw [if_neg ht'] at ee'
          exact iteF ⟨rfl, A4.of_eq ee'.symm, k14⟩
  rintro σ2 H2 ⟨rfl, A2, k2⟩
  have l2 : (effClose k (effComma k s0)).1.length + (effClose k (effComma k s0)).2.length ≤ 4001 := by
    unfold effClose
    split
    · rename_i m em
      have k2 := upTo_len [m] k (effComma k s0)
      show (if (upTo [m] k (effComma k s0)).2 = true then ((if k.2.1 = "then" then Ctx.marker "then" :: (upTo [m] k (effComma k s0)).1.1.tail else (upTo [m] k (effComma k s0)).1.1.tail, (upTo [m] k (effComma k s0)).1.2) : LS) else (upTo [m] k (effComma k s0)).1).1.length + (if (upTo [m] k (effComma k s0)).2 = true then ((if k.2.1 = "then" then Ctx.marker "then" :: (upTo [m] k (effComma k s0)).1.1.tail else (upTo [m] k (effComma k s0)).1.1.tail, (upTo [m] k (effComma k s0)).1.2) : LS) else (upTo [m] k (effComma k s0)).1).2.length ≤ 4001
      have tl : (upTo [m] k (effComma k s0)).1.1.tail.length ≤ (upTo [m] k (effComma k s0)).1.1.length := by rw [List.length_tail]; omega
      split
      · split
        · show ((upTo [m] k (effComma k s0)).1.1.tail.length + 1) + (upTo [m] k (effComma k s0)).1.2.length ≤ 4001
          omega
        · show (upTo [m] k (effComma k s0)).1.1.tail.length + (upTo [m] k (effComma k s0)).1.2.length ≤ 4001
          omega
      · omega
    · omega
  -- an opening word
  refine ⟨fun σ' H' => σ' = [some (.ref o), some (.ref t), some (.str k.2.1)] ∧ Arr C H' o c a (effOpen k (effClose k (effComma k s0))) ∧ Keep2 c a H H', ?_, ?_⟩
  · refine ⟨_, rfl, aO, _, rfl, .inr (T.kOPENERS _), rfl, strs_flat _, _, rfl, ?_⟩
    show if inV (.str k.2.1) (OP.map V.str) = true then _ else _
    rw [inV_strs]
    by_cases ho : k.2.1 ∈ OP
    · rw [decide_eq_true ho]
      have ee : effOpen k (effClose k (effComma k s0)) = (.marker k.2.1 :: (effClose k (effComma k s0)).1, (effClose k (effComma k s0)).2) := if_pos ho
      obtain ⟨dx4, as4, ls4, i1, i2, i3, i4, i5, i6⟩ := id A2.ex
      refine iteT ⟨_, rfl, o, C, dx4, _, _, rfl, i1, T.cl, T.nC, flds_c _ _, .inl ⟨rfl, _, SqL.of i2⟩, _, rfl, (by show 2 ≤ sizeLine; decide), fun p hp => ?_⟩
      have k5 := same_new hp (.tup (Ctx.v (.marker k.2.1)))
      have il := i4.len
      refine ⟨c, _, _, rfl, rfl, k5 _ _ i2, szl (by rw [List.length_map, List.length_reverse, il]; omega), ?_⟩
      have A5 := Arr.push (k := .marker k.2.1) (k5 _ _ i1) (k5 _ _ i2) (k5 _ _ i3) (i4.keep fun _ _ h => k5 _ _ h) (i5.keep fun _ _ h => k5 _ _ h) i6 upd_same
      exact ⟨rfl, A5.of_eq ee.symm, (k2.trans (keep2_of k5)).trans (keep_c _)⟩
    · rw [decide_eq_false ho]
      have ee : effOpen k (effClose k (effComma k s0)) = effClose k (effComma k s0) := if_neg ho
      exact iteF ⟨rfl, A2.of_eq ee.symm, k2⟩
  rintro σ3 H3 ⟨rfl, A3, k3⟩
  -- self.arranged.append(token)
  have l3 : (effOpen k (effClose k (effComma k s0))).2.length ≤ 4001 := by
    unfold effOpen
    split
    · show (effClose k (effComma k s0)).2.length ≤ 4001
      omega
    · omega
  obtain ⟨dx4, as4, ls4, i1, i2, i3, i4, i5, i6⟩ := id A3.ex
  refine ⟨_, rfl, o, C, dx4, _, _, rfl, i1, T.cl, T.nA, flds_a _ _, .inl ⟨rfl, _, SqL.of i3⟩, _, rfl, a, _, _, rfl, rfl, i3, szl (by rw [List.length_map, i5.len]; omega), ?_⟩
  exact q _ (Arr.add i1 i2 i3 i4 i5 i6 (AR.tup k3 ht)) (k3.trans (keep_a _))
end
end Lay
end Toy

set_option Elab.async false
set_option linter.all false
set_option maxRecDepth 100000
set_option maxHeartbeats 4000000
/-! Part I: the Arranger (from k02/e). -/
namespace Toy
namespace Lay
open PySem L2

open PyProof.Rows (envOfC)
abbrev sz (s : LS) : Nat := s.1.length + s.2.length
def Pos (s : LS) : Prop := ∀ y, Ctx.block y ∈ s.1 → 0 < y
theorem opened_sz (ex : Bool) (t : Tk) (s : LS) : sz (opened ex t s).1 ≤ sz s + 2 := by
  unfold opened opens
  split
  · split
    · show (s.1.length + 1) + (s.2 ++ [sg "{" t]).length ≤ _
      rw [List.length_append]
      show (s.1.length + 1) + (s.2.length + 1) ≤ s.1.length + s.2.length + 2
      omega
    · show s.1.length + (s.2 ++ [sg "{" t, sg "}" t]).length ≤ _
      rw [List.length_append]
      show s.1.length + (s.2.length + 2) ≤ s.1.length + s.2.length + 2
      omega
  · show sz s ≤ _
    omega
theorem firstOf_sz (t : Tk) : ∀ (st : List Ctx) (out : List Tk), sz (firstOf t st out) ≤ st.length + out.length + 1
  | [], out => by show 0 + out.length ≤ _; omega
  | .marker _ :: st, out => by show (st.length + 1) + out.length ≤ (st.length + 1) + out.length + 1; omega
  | .block c :: st, out => by
    rw [firstOf_block]
    have ih := firstOf_sz t st (out ++ [sg "}" t])
    rw [List.length_append] at ih
    have ih' : sz (firstOf t st (out ++ [sg "}" t])) ≤ st.length + (out.length + 1) + 1 := ih
    show _ ≤ (st.length + 1) + out.length + 1
    split
    · omega
    · split
      · show (st.length + 1) + (out ++ [sg ";" t]).length ≤ _
        rw [List.length_append]
        show (st.length + 1) + (out.length + 1) ≤ _
        omega
      · show (st.length + 1) + out.length ≤ _
        omega
theorem endAll_len (t : Tk) : ∀ (st : List Ctx) (out : List Tk), (endAll t st out).length ≤ st.length + out.length
  | [], out => by show out.length ≤ _; omega
  | .marker _ :: st, out => by
    have ih := endAll_len t st out
    show (endAll t st out).length ≤ (st.length + 1) + out.length
    omega
  | .block c :: st, out => by
    have ih := endAll_len t st (out ++ [sg "}" t])
    rw [List.length_append] at ih
    have ih' : (endAll t st (out ++ [sg "}" t])).length ≤ st.length + (out.length + 1) := ih
    show (endAll t st (out ++ [sg "}" t])).length ≤ (st.length + 1) + out.length
    omega
theorem pre_sz (ex : Bool) (last : Int) (t : Tk) (s : LS) : sz (pre ex last t s) ≤ sz s + 3 := by
  have h := opened_sz ex t s
  have h' : (opened ex t s).1.1.length + (opened ex t s).1.2.length ≤ sz s + 2 := h
  unfold pre
  split
  · have := endAll_len t (opened ex t s).1.1 (opened ex t s).1.2
    show 0 + (endAll t (opened ex t s).1.1 (opened ex t s).1.2).length ≤ _
    omega
  · split
    · have := firstOf_sz t (opened ex t s).1.1 (opened ex t s).1.2
      omega
    · omega
theorem effComma_sz (t : Tk) (s : LS) : sz (effComma t s) = sz s := by
  unfold effComma
  split
  · exact upTo_len _ _ _
  · rfl
theorem effClose_sz (t : Tk) (s : LS) : sz (effClose t s) ≤ sz s + 1 := by
  unfold effClose
  split
  · rename_i m em
    have k2 := upTo_len [m] t s
    have tl : (upTo [m] t s).1.1.tail.length ≤ (upTo [m] t s).1.1.length := by rw [List.length_tail]; omega
    show sz (if (upTo [m] t s).2 = true then ((if t.2.1 = "then" then Ctx.marker "then" :: (upTo [m] t s).1.1.tail else (upTo [m] t s).1.1.tail, (upTo [m] t s).1.2) : LS) else (upTo [m] t s).1) ≤ _
    split
    · split
      · show ((upTo [m] t s).1.1.tail.length + 1) + (upTo [m] t s).1.2.length ≤ s.1.length + s.2.length + 1
        omega
      · show (upTo [m] t s).1.1.tail.length + (upTo [m] t s).1.2.length ≤ s.1.length + s.2.length + 1
        omega
    · show (upTo [m] t s).1.1.length + (upTo [m] t s).1.2.length ≤ s.1.length + s.2.length + 1
      omega
  · show sz s ≤ _
    omega
theorem meet_sz (t : Tk) (s : LS) : sz (meet t s) ≤ sz s + 3 := by
  have h1 := effComma_sz t s
  have h2 := effClose_sz t (effComma t s)
  have h3 : sz (effOpen t (effClose t (effComma t s))) ≤ sz (effClose t (effComma t s)) + 1 := by
    unfold effOpen
    split
    · show (_ + 1) + _ ≤ _
      show ((effClose t (effComma t s)).1.length + 1) + (effClose t (effComma t s)).2.length ≤ (effClose t (effComma t s)).1.length + (effClose t (effComma t s)).2.length + 1
      omega
    · omega
  show (effOpen t (effClose t (effComma t s))).1.length + ((effOpen t (effClose t (effComma t s))).2 ++ [t]).length ≤ _
  rw [List.length_append]
  show (effOpen t (effClose t (effComma t s))).1.length + ((effOpen t (effClose t (effComma t s))).2.length + 1) ≤ _
  have h3' : (effOpen t (effClose t (effComma t s))).1.length + (effOpen t (effClose t (effComma t s))).2.length ≤ _ := h3
  omega
/-! ### the columns of blocks are positive -/
theorem opened_pos {ex : Bool} {t : Tk} {s : LS} (h : Pos s) (ht : 0 < t.2.2.2) : Pos (opened ex t s).1 := by
  unfold opened opens
  split
  · split
    · intro y hy
      rcases List.mem_cons.mp hy with hy | hy
      · cases hy; exact ht
      · exact h y hy
    · exact h
  · exact h
theorem firstOf_sub (t : Tk) : ∀ (st : List Ctx) (out : List Tk), ∀ x ∈ (firstOf t st out).1, x ∈ st
  | [], out => fun x hx => hx
  | .marker _ :: st, out => fun x hx => hx
  | .block c :: st, out => by
    rw [firstOf_block]
    have ih := firstOf_sub t st (out ++ [sg "}" t])
    split
    · exact fun x hx => List.mem_cons_of_mem _ (ih x hx)
    · split
      · exact fun x hx => hx
      · exact fun x hx => hx
theorem closeTop_sub (t : Tk) : ∀ (st : List Ctx) (out : List Tk), ∀ x ∈ (closeTop t st out).1, x ∈ st
  | [], out => fun x hx => hx
  | .marker _ :: st, out => fun x hx => hx
  | .block c :: st, out => fun x hx => List.mem_cons_of_mem _ (closeTop_sub t st (out ++ [sg "}" t]) x hx)
theorem upTo_sub (ms : List Str) (t : Tk) (s : LS) : ∀ x ∈ (upTo ms t s).1.1, x ∈ s.1 := by
  unfold upTo
  split
  · split
    · exact closeTop_sub t s.1 s.2
    · exact fun x hx => hx
  · exact fun x hx => hx
theorem pre_pos {ex : Bool} {last : Int} {t : Tk} {s : LS} (h : Pos s) (ht : 0 < t.2.2.2) : Pos (pre ex last t s) := by
  have h1 := opened_pos (ex := ex) h ht
  unfold pre
  split
  · exact fun y hy => by cases hy
  · split
    · exact fun y hy => h1 y (firstOf_sub t _ _ _ hy)
    · exact h1
theorem meet_pos {t : Tk} {s : LS} (h : Pos s) : Pos (meet t s) := by
  have h1 : Pos (effComma t s) := by
    unfold effComma
    split
    · exact fun y hy => h y (upTo_sub _ t s _ hy)
    · exact h
  have h2 : Pos (effClose t (effComma t s)) := by
    unfold effClose
    split
    · rename_i m em
      show Pos (if (upTo [m] t (effComma t s)).2 = true then ((if t.2.1 = "then" then Ctx.marker "then" :: (upTo [m] t (effComma t s)).1.1.tail else (upTo [m] t (effComma t s)).1.1.tail, (upTo [m] t (effComma t s)).1.2) : LS) else (upTo [m] t (effComma t s)).1)
      split
      · split
        · intro y hy
          rcases List.mem_cons.mp hy with hy | hy
          · cases hy
          · exact h1 y (upTo_sub _ t _ _ (List.mem_of_mem_tail hy))
        · exact fun y hy => h1 y (upTo_sub _ t _ _ (List.mem_of_mem_tail hy))
      · exact fun y hy => h1 y (upTo_sub _ t _ _ hy)
    · exact h1
  show ∀ y, Ctx.block y ∈ (effOpen t (effClose t (effComma t s))).1 → 0 < y
  unfold effOpen
  split
  · intro y hy
    rcases List.mem_cons.mp hy with hy | hy
    · cases hy
    · exact h2 y hy
  · exact h2
/-- what the tokens of a row are -/
def Wf (t : Tk) : Prop := 0 < t.2.2.2
theorem same_keep2 {c a : Addr} {H H1 H2 : Hp} (s : Same H H1) (hc : H c = none) (ha : H a = none) (k : Keep2 c a H1 H2) : Same H H2 := fun b o e => k b o (ne_of_none e hc) (ne_of_none e ha) (s b o e)
section
variable {P : Program} {w : World} {K : PySem.W.Frag} {mg : Str → Option Value} {base : Heap} {C aB aO aC : Addr} {es : Array DictEntry} {n : Nat}
abbrev sArranged : Stmt := topS 31
theorem scArranged : FnScope ["row", "contexts", "block_expected", "work", "last_row", "token", "kind", "text", "token_row", "_", "opened"] ["row", "contexts", "block_expected"] (defScope sArranged) := ⟨rfl, rfl, rfl, by decide +kernel, rfl, by decide +kernel, by decide +kernel⟩
def spArranged (K : PySem.W.Frag) : Sp := fun vs H Q _ => ∃ (rl ct : Addr) (tl as : List Addr) (ts : List Tk) (st0 : List Ctx), vs = [.ref rl, .ref ct, .bl false] ∧ SqL K H rl (tl.map V.ref) ∧ Toks H tl ts ∧ H ct = some (.tup (as.reverse.map V.ref)) ∧ Ctxs H as st0 ∧ (∀ y, Ctx.block y ∈ st0 → 0 < y) ∧ st0.length ≤ 10 ∧ (∀ t ∈ ts, Wf t) ∧ ts.length ≤ 600 ∧
  ∀ (p : Addr) (l : List Addr) (H' : Hp), H p = none → Same H H' → H' p = some (.lst (l.map V.ref)) → Toks H' l (run false 0 ts (st0, [])).2 → Q (.ref p) H'
theorem c_arranged {f : Addr} {fd : FuncData} (T : Txt K w mg C aB aO aC es n) (cArranger : C8.Mak P w K mg base 1 "Arranger" C (spInit (K := K) C) []) (copen_block : C8.Met P w K mg base 2 C "open_block" (spOpenB C) []) (cclose_all : C8.Met P w K mg base 3 C "close_all" (spCloseAll C) [])
    (cbegin_row : C8.Met P w K mg base 3 C "begin_row" (spBegin C) []) (cmeet : C8.Met P w K mg base 4 C "meet" (spMeet C) []) (F : Fun K "_arranged" "_arranged" sArranged f fd) (b : Binds K fd ["row", "contexts", "block_expected"] []) (hm : mg "_arranged" = some (.ref f)) : C8.Cal P w K mg base 5 "_arranged" (spArranged K) [] := by
  refine cal_of F hm b scArranged (fun vs H Q E h => ?_) (fun cdv A outer s H vs Q E hr h => ?_)
  · obtain ⟨rl, ct, tl, as, ts, st0, rfl, _⟩ := h
    rfl
  obtain ⟨rl, ct, tl, as0, ts, st0, rfl, hrl, htl, hct, hcs0, hpos0, hst0, hwf, hlen, q⟩ := h
  have mno : ¬ ("open_block" : Str) = "arranged" ∧ ¬ ("open_block" : Str) = "contexts" ∧ ¬ ("close_all" : Str) = "arranged" ∧ ¬ ("close_all" : Str) = "contexts" ∧ ¬ ("begin_row" : Str) = "arranged" ∧ ¬ ("begin_row" : Str) = "contexts" ∧ ¬ ("meet" : Str) = "arranged" ∧ ¬ ("meet" : Str) = "contexts" := by decide +kernel
  refine ⟨_, (pss_cons (ps_set (i := 3) scArranged.nd rfl (Or.inl rfl) (C8.pe_mk cArranger hr (by decide) rfl (pa_cons (pv 1) pa_nil)))
    (pss_cons (ps_set (i := 4) scArranged.nd rfl (Or.inl rfl) pe_int)
    (pss_cons (ps_for PassesOwn.never rfl (pi_list (pv 0)) (pg_name (i := 5) scArranged.nd rfl (Or.inl rfl))
      (pss_cons (ps_asg (pv 5) (pg_tup rfl (pgs_cons (pg_name (i := 6) scArranged.nd rfl (Or.inl rfl)) (pgs_cons (pg_name (i := 7) scArranged.nd rfl (Or.inl rfl)) (pgs_cons (pg_name (i := 8) scArranged.nd rfl (Or.inl rfl)) (pgs_cons (pg_name (i := 9) scArranged.nd rfl (Or.inl rfl)) pgs_nil))))))
    (C8.pss_cut (ps_set (i := 10) scArranged.nd rfl (Or.inl rfl) (pe_and (pv 2) (pe_and (pe_cmpR op_ne (pv 7) pe_str (nomark _)) (pe_one (C8.pe_mt copen_block hr (by decide) (pv 3) (pa_cons (pv 5) pa_nil))))))
    (C8.pss_cut (ps_if (pt_cmpR op_eq (pv 6) pe_str (nomark _))
      (pss_one (ps_expr (C8.pe_mt cclose_all hr (by decide) (pv 3) (pa_cons (pv 5) pa_nil))))
      (pss_one (ps_if (PW.pt (pw_and (pt_cmpR op_ne (pv 8) (pv 4) (nomark _)) (pw_and1 (pt_not (pt_val (pv 10))))))
      (pss_one (ps_expr (C8.pe_mt cbegin_row hr (by decide) (pv 3) (pa_cons (pv 5) pa_nil))))
      pss_nil)))
    (pss_cons (ps_expr (C8.pe_mt cmeet hr (by decide) (pv 3) (pa_cons (pv 5) pa_nil)))
    (pss_cons (ps_set (i := 2) scArranged.nd rfl (Or.inl rfl) (pe_and (pe_cmpR op_eq (pv 6) pe_str (nomark _)) (pe_one (pe_cmpR op_in_seq (pv 7) (C8.pe_gc rfl T.gBLOCK_KEYWORDS) rfl))))
    (pss_one (ps_set (i := 4) scArranged.nd rfl (Or.inl rfl) (pv 8)))))))))
    (pss_one (ps_ret (pe_fld (pv 3) rfl)))))), ?_⟩
  -- work = Arranger(contexts)
  refine ⟨_, rfl, fun o dx0 no ndx nex => ?_⟩
  have s0 : Same H (upd (upd H dx0 (.own o)) o (.ins C dx0 [])) := fun b u e => by
    rw [upd_ne (ne_of_none e no), upd_ne (ne_of_none e ndx)]
    exact e
  refine ⟨o, dx0, ct, as0, st0, rfl, upd_same, SqT.of (s0 _ _ hct), hcs0.keep (fun _ _ h => s0 _ _ h), fun c a H1 hc ha A1 k1 => ⟨rfl, ?_⟩⟩
  have s1 : Same H H1 := fun b u e => k1 b u (s0 b u e) (ne_of_none e no)
  have hc0 : H c = none := s0.free hc
  have ha0 : H a = none := s0.free ha
  have hll := htl.len
  -- for token in row
  refine ⟨_, rfl, rl, rfl, ⟨_, s1.seq hrl⟩, for_list (K := K) (xs := tl.map V.ref) (fun i σ H2 => ∃ (s : LS) (ex : Bool) (last : Int) (v5 v6 v7 v8 v9 v10 : Option V), σ = [some (.ref rl), some (.ref ct), some (.bl ex), some (.ref o), some (.int last), v5, v6, v7, v8, v9, v10] ∧
      Arr C H2 o c a s ∧ Same H H2 ∧ run ex last (ts.drop i) s = run false 0 ts (st0, []) ∧ sz s ≤ 6 * i + 10 ∧ Pos s)
    ⟨(st0, []), false, 0, none, none, none, none, none, none, rfl, A1, s1, rfl, (by show st0.length + 0 ≤ _; omega), hpos0⟩ (fun i σ H2 _ h => by obtain ⟨_, _, _, _, _, _, _, _, _, _, _, s2, _⟩ := h; exact s2.seq hrl) ?_ ?_⟩
  · rintro i x σ H2 hx ⟨s, ex, last, v5, v6, v7, v8, v9, v10, rfl, A2, s2, e, hsz, hpos⟩
    obtain ⟨hi, ex1⟩ := List.getElem?_eq_some_iff.mp hx
    rw [List.length_map] at hi
    have hi' : i < ts.length := by omega
    obtain ⟨t, ht1, ht2⟩ := htl.get (List.getElem?_eq_getElem hi')
    rw [List.getElem?_map, ht1] at hx
    cases hx
    have hed := List.drop_eq_getElem_cons hi'
    have hw := hwf _ (List.getElem_mem hi')
    generalize hk : ts[i] = k at *
    have htt := s2 _ _ ht2
    have hszn : sz s ≤ 3610 := by omega
    -- kind, text, token_row, _ = token
    refine ⟨_, rfl, t, _, rfl, SqT.of htt, rfl, _, _, rfl, _, _, rfl, _, _, rfl, _, _, rfl, rfl, ?_⟩
    -- opened = ..
    refine ⟨fun σ' H' => σ' = [some (.ref rl), some (.ref ct), some (.bl ex), some (.ref o), some (.int last), some (.ref t), some (.str k.1), some (.str k.2.1), some (.int k.2.2.1), some (.int k.2.2.2), some (.bl (opened ex k s).2)] ∧ Arr C H' o c a (opened ex k s).1 ∧ Same H H', ?_, ?_⟩
    · refine ⟨_, rfl, _, rfl, ?_⟩
      by_cases he : ex = true
      · rw [if_pos he]
        refine ⟨_, rfl, rfl, _, rfl, ?_⟩
        by_cases hb : k.2.1 = "{"
        · rw [decide_eq_true (show V.str k.2.1 = V.str "{" by rw [hb])]
          have eo : opened ex k s = (s, false) := if_neg (fun z => z.2 hb)
          refine iteF ?_
          rw [eo]
          exact ⟨by rw [he]; rfl, A2, s2⟩
        · rw [decide_eq_false (fun z => hb (V.str.inj z) : ¬ V.str k.2.1 = V.str "{")]
          have eo : opened ex k s = opens k s := if_pos ⟨he, hb⟩
          obtain ⟨dx, h⟩ := A2.ins
          rw [eo]
          exact iteT ⟨_, rfl, o, dx, _, rfl, h, flds_no _ _ mno.1 mno.2.1, _, rfl, o, c, a, t, s, k, rfl, A2, htt, by have h9 : s.1.length + s.2.length ≤ 3610 := hszn; omega, fun H3 A3 k3 => ⟨by rw [he]; rfl, A3, same_keep2 s2 hc0 ha0 k3⟩⟩
      · rw [if_neg he]
        have eo : opened ex k s = (s, false) := if_neg (fun z => he z.1)
        have he' : ex = false := Bool.eq_false_iff.mpr he
        rw [eo]
        exact ⟨by rw [he']; rfl, A2, s2⟩
    rintro σ3 H3 ⟨rfl, A3, s3⟩
    have hosz := opened_sz ex k s
    have hopos := opened_pos (ex := ex) hpos hw
    have htt3 := s3 _ _ ht2
    -- the end, or the first of a row
    refine ⟨fun σ' H' => σ' = [some (.ref rl), some (.ref ct), some (.bl ex), some (.ref o), some (.int last), some (.ref t), some (.str k.1), some (.str k.2.1), some (.int k.2.2.1), some (.int k.2.2.2), some (.bl (opened ex k s).2)] ∧ Arr C H' o c a (pre ex last k s) ∧ Same H H', ?_, ?_⟩
    · refine ⟨_, rfl, rfl, _, rfl, ?_⟩
      obtain ⟨dx, h⟩ := A3.ins
      have hosz' : (opened ex k s).1.1.length + (opened ex k s).1.2.length ≤ 3612 := by
        have h9 : (opened ex k s).1.1.length + (opened ex k s).1.2.length ≤ sz s + 2 := hosz
        omega
      by_cases hend : k.1 = "end"
      · rw [decide_eq_true (show V.str k.1 = V.str "end" by rw [hend])]
        have ep : pre ex last k s = ([], endAll k (opened ex k s).1.1 (opened ex k s).1.2) := if_pos hend
        rw [ep]
        exact iteT ⟨_, rfl, o, dx, _, rfl, h, flds_no _ _ mno.2.2.1 mno.2.2.2.1, _, rfl, o, c, a, t, _, k, rfl, A3, htt3, by omega, hopos, fun H4 A4 k4 => ⟨rfl, A4, same_keep2 s3 hc0 ha0 k4⟩⟩
      · rw [decide_eq_false (fun z => hend (V.str.inj z) : ¬ V.str k.1 = V.str "end")]
        refine iteF ⟨_, rfl, _, rfl, rfl, _, rfl, ?_⟩
        by_cases hrow : k.2.2.1 = last
        · rw [decide_eq_true (show V.int k.2.2.1 = V.int last by rw [hrow])]
          have ep : pre ex last k s = (opened ex k s).1 := by
            unfold pre
            rw [if_neg hend, if_neg (fun z => z.1 hrow)]
          rw [ep]
          exact iteF (iteF ⟨rfl, A3, s3⟩)
        · rw [decide_eq_false (fun z => hrow (V.int.inj z) : ¬ V.int k.2.2.1 = V.int last)]
          refine iteT ⟨_, rfl, _, rfl, ?_⟩
          cases ho2 : (opened ex k s).2 with
          | true =>
            have ep : pre ex last k s = (opened ex k s).1 := by
              unfold pre
              rw [if_neg hend, if_neg (fun z => by rw [ho2] at z; exact Bool.noConfusion z.2)]
            rw [ep]
            exact iteF ⟨rfl, A3, s3⟩
          | false =>
            have ep : pre ex last k s = firstOf k (opened ex k s).1.1 (opened ex k s).1.2 := by
              unfold pre
              rw [if_neg hend, if_pos ⟨hrow, ho2⟩]
            rw [ep]
            exact iteT ⟨_, rfl, o, dx, _, rfl, h, flds_no _ _ mno.2.2.2.2.1 mno.2.2.2.2.2.1, _, rfl, o, c, a, t, _, k, rfl, A3, htt3, by omega, hw, fun H4 A4 k4 => ⟨rfl, A4, same_keep2 s3 hc0 ha0 k4⟩⟩
    rintro σ4 H4 ⟨rfl, A4, s4⟩
    have hpsz := pre_sz ex last k s
    have hmsz := meet_sz k (pre ex last k s)
    obtain ⟨dx, h⟩ := A4.ins
    -- work.meet(token)
    refine ⟨_, rfl, o, dx, _, rfl, h, flds_no _ _ mno.2.2.2.2.2.2.1 mno.2.2.2.2.2.2.2, _, rfl, o, c, a, t, _, k, rfl, A4, s4 _ _ ht2, by have h9 : (pre ex last k s).1.length + (pre ex last k s).2.length ≤ sz s + 3 := hpsz; omega, fun H5 A5 k5 => ?_⟩
    have s5 := same_keep2 s4 hc0 ha0 k5
    -- block_expected = ..
    refine ⟨_, rfl, rfl, _, rfl, ?_⟩
    have fin : ∀ b : Bool, b = expects k → (fun σ2 H2 => ∃ (s : LS) (ex : Bool) (last : Int) (v5 v6 v7 v8 v9 v10 : Option V), σ2 = [some (.ref rl), some (.ref ct), some (.bl ex), some (.ref o), some (.int last), v5, v6, v7, v8, v9, v10] ∧
        Arr C H2 o c a s ∧ Same H H2 ∧ run ex last (ts.drop (i + 1)) s = run false 0 ts (st0, []) ∧ sz s ≤ 6 * (i + 1) + 10 ∧ Pos s) [some (.ref rl), some (.ref ct), some (.bl b), some (.ref o), some (.int k.2.2.1), some (.ref t), some (.str k.1), some (.str k.2.1), some (.int k.2.2.1), some (.int k.2.2.2), some (.bl (opened ex k s).2)] H5 := fun b hb => by
      refine ⟨meet k (pre ex last k s), b, k.2.2.1, _, _, _, _, _, _, rfl, A5, s5, ?_, by omega, meet_pos (pre_pos hpos hw)⟩
      rw [← e, hed, hb]
      rfl
    by_cases hkw : k.1 = "keyword"
    · rw [decide_eq_true (show V.str k.1 = V.str "keyword" by rw [hkw])]
      refine iteT ⟨_, rfl, aB, _, rfl, .inr (T.kBLOCK_KEYWORDS _), rfl, strs_flat _, ?_⟩
      refine ⟨_, rfl, fin _ ?_⟩
      show inV (.str k.2.1) (BK.map V.str) = _
      rw [inV_strs]
      unfold expects
      rw [decide_eq_true hkw]
      rfl
    · rw [decide_eq_false (fun z => hkw (V.str.inj z) : ¬ V.str k.1 = V.str "keyword")]
      refine iteF ⟨_, rfl, fin _ ?_⟩
      unfold expects
      rw [decide_eq_false hkw]
      rfl
  · rintro σ H2 ⟨s, ex, last, v5, v6, v7, v8, v9, v10, rfl, A2, s2, e, hsz, hpos⟩
    have ed : ts.drop (tl.map V.ref).length = [] := List.drop_eq_nil_of_le (by rw [List.length_map, hll]; exact Nat.le_refl _)
    rw [ed] at e
    obtain ⟨dx, as, ls, h1, h2, h3, h4, h5, h6⟩ := id A2.ex
    refine ⟨_, rfl, o, C, dx, _, _, rfl, h1, T.cl, T.nA, flds_a _ _, ?_⟩
    refine q a ls H2 ha0 s2 h3 ?_
    have el : (run false 0 ts (st0, [])).2 = s.2 := by
      rw [← e]
      rfl
    rw [el]
    exact h5
abbrev sLayout : Stmt := topS 30
theorem scLayout : FnScope ["row"] ["row"] (defScope sLayout) := ⟨rfl, rfl, rfl, by decide +kernel, rfl, by decide +kernel, by decide +kernel⟩
def spLayout (K : PySem.W.Frag) : Sp := fun vs H Q _ => ∃ (rl : Addr) (tl : List Addr) (ts : List Tk), vs = [.ref rl] ∧ SqL K H rl (tl.map V.ref) ∧ Toks H tl ts ∧ (∀ t ∈ ts, Wf t) ∧ ts.length ≤ 600 ∧
  ∀ (p : Addr) (l : List Addr) (H' : Hp), H p = none → Same H H' → H' p = some (.lst (l.map V.ref)) → Toks H' l (run false 0 ts ([.marker "{"], [])).2 → Q (.ref p) H'
theorem c_layout {f : Addr} {fd : FuncData} (c_arranged : C8.Cal P w K mg base 5 "_arranged" (spArranged K) []) (F : Fun K "layout_in_braces" "layout_in_braces" sLayout f fd) (b : Binds K fd ["row"] []) (hm : mg "layout_in_braces" = some (.ref f)) : C8.Cal P w K mg base 6 "layout_in_braces" (spLayout K) [] := by
  refine cal_of F hm b scLayout (fun vs H Q E h => ?_) (fun cdv A outer s H vs Q E hr h => ?_)
  · obtain ⟨rl, tl, ts, rfl, _⟩ := h
    rfl
  obtain ⟨rl, tl, ts, rfl, hrl, htl, hwf, hlen, q⟩ := h
  refine ⟨_, (pss_one (ps_ret (C8.pe_c c_arranged hr (by decide) rfl (pa_cons (pv 0) (pa_cons (pe_tup (pa_cons (pe_tup (pa_cons pe_str (pa_cons pe_str pa_nil))) pa_nil)) (pa_cons pe_bl pa_nil)))))), ?_⟩
  refine ⟨_, rfl, (by show 2 ≤ sizeLine; decide), fun t1 ht1 => ⟨(by show 1 ≤ sizeLine; decide), fun ct hct => ?_⟩⟩
  have s1 := same_new ht1 (.tup [.str "marker", .str "{"])
  have s2 := same_new hct (.tup [.ref t1])
  have s12 : Same H (upd (upd H t1 (.tup [.str "marker", .str "{"])) ct (.tup [.ref t1])) := Same.trans s1 s2
  refine ⟨rl, ct, tl, [t1], ts, [.marker "{"], rfl, s12.seq hrl, htl.keep fun _ _ h => s12 _ _ h, upd_same, .cons (s2 _ _ upd_same) .nil, fun y hy => ?_, by decide, hwf, hlen, fun p l H' hp s3 h1 h2 => ?_⟩
  · have := List.mem_singleton.mp hy
    cases this
  exact q p l H' (Same.free s12 hp) (Same.trans s12 s3) h1 h2
end
end Lay
end Toy

set_option Elab.async false
set_option linter.all false
set_option maxRecDepth 100000
set_option maxHeartbeats 4000000
/-! Part J: data of tuples, whole numbers, texts and None, in plain Lean, and how it stands in the heap. -/
namespace Toy
open PySem L2
inductive Td
  | non
  | int (i : Int)
  | str (s : Str)
  | tup (l : List Td)
mutual
def Td.D : Td → PyData
  | .non => .none
  | .int i => .int i
  | .str s => .str s
  | .tup l => .tuple (Td.Ds l)
def Td.Ds : List Td → List PyData
  | [] => []
  | k :: l => k.D :: Td.Ds l
end
mutual
/-- such data stands in the heap as v, in tuples that are tracked -/
def Td.At (H : Hp) : Td → V → Prop
  | .non, v => v = .non
  | .int i, v => v = .int i
  | .str s, v => v = .str s
  | .tup l, v => ∃ a xs, v = .ref a ∧ H a = some (.tup xs) ∧ Td.Ats H l xs
def Td.Ats (H : Hp) : List Td → List V → Prop
  | [], xs => xs = []
  | k :: l, xs => ∃ x ys, xs = x :: ys ∧ k.At H x ∧ Td.Ats H l ys
end
/-- a heap in which the tuples stand -/
def TK (H H' : Hp) : Prop := ∀ a xs, H a = some (.tup xs) → H' a = some (.tup xs)
theorem TK.refl (H : Hp) : TK H H := fun _ _ h => h
theorem TK.trans {H1 H2 H3 : Hp} (h : TK H1 H2) (k : TK H2 H3) : TK H1 H3 := fun a xs e => k a xs (h a xs e)
theorem tk_same {H H' : Hp} (s : Same H H') : TK H H' := fun _ _ e => s _ _ e
theorem tk_upd {H : Hp} {p : Addr} {o : HO} (n : ∀ xs, H p ≠ some (.tup xs)) : TK H (upd H p o) := fun a xs e => by
  rw [upd_ne (fun z => n xs (by rw [← z]; exact e))]
  exact e
theorem tk_list {H : Hp} {p : Addr} {ys : List V} {o : HO} (h : H p = some (.lst ys)) : TK H (upd H p o) := tk_upd fun xs e => by rw [h] at e; cases e
theorem tk_dict {H : Hp} {p : Addr} {kvs : List (Key × V)} {o : HO} (h : H p = some (.dK kvs)) : TK H (upd H p o) := tk_upd fun xs e => by rw [h] at e; cases e
theorem tk_new {H : Hp} {p : Addr} {o : HO} (h : H p = none) : TK H (upd H p o) := tk_same (same_new h o)
theorem tk_keep {p : Addr} {H H' : Hp} (k : Keep p H H') (n : ∀ xs, H p ≠ some (.tup xs)) : TK H H' := fun a xs e => k a _ (fun z => n xs (z ▸ e)) e
theorem DrawsAt.notup {H : Hp} {p r : Addr} (d : DrawsAt H p r) : ∀ xs, H p ≠ some (.tup xs) := fun xs e => by
  obtain ⟨_, _, _, h, _⟩ := d
  rw [h] at e
  cases e
theorem sameT {H1 H2 H3 : Hp} (h : Same H1 H2) (k : Same H2 H3) : Same H1 H3 := fun a u e => k a u (h a u e)
mutual
theorem Td.At.keep {H H' : Hp} : ∀ {k : Td} {v : V}, TK H H' → k.At H v → k.At H' v
  | .non, _, _, h => h
  | .int _, _, _, h => h
  | .str _, _, _, h => h
  | .tup l, _, t, ⟨a, xs, e, h, hs⟩ => ⟨a, xs, e, t _ _ h, Td.Ats.keep t hs⟩
theorem Td.Ats.keep {H H' : Hp} : ∀ {l : List Td} {xs : List V}, TK H H' → Td.Ats H l xs → Td.Ats H' l xs
  | [], _, _, h => h
  | k :: l, _, t, ⟨x, ys, e, h, hs⟩ => ⟨x, ys, e, Td.At.keep t h, Td.Ats.keep t hs⟩
end
mutual
theorem Td.At.dp {K : PySem.W.Frag} {H : Hp} : ∀ {k : Td} {v : V}, k.At H v → Dp K H v k.D
  | .non, _, h => by cases h; exact .non
  | .int i, _, h => by cases h; exact .int i
  | .str s, _, h => by cases h; exact .str s
  | .tup l, _, ⟨a, xs, e, h, hs⟩ => by cases e; exact .tup (SqT.of h) (Td.Ats.dp hs)
theorem Td.Ats.dp {K : PySem.W.Frag} {H : Hp} : ∀ {l : List Td} {xs : List V}, Td.Ats H l xs → DpAll K H xs (Td.Ds l)
  | [], _, h => by cases h; exact .nil
  | k :: l, _, ⟨x, ys, e, h, hs⟩ => by cases e; exact .cons (Td.At.dp h) (Td.Ats.dp hs)
end
mutual
/-- its texts can be laid -/
def Td.lay : Td → Bool
  | .non => true
  | .int _ => true
  | .str s => PyData.strOk s
  | .tup l => Td.lays l
def Td.lays : List Td → Bool
  | [] => true
  | k :: l => k.lay && Td.lays l
end
mutual
def Td.dep : Td → Nat
  | .non => 0
  | .int _ => 0
  | .str _ => 0
  | .tup l => 1 + Td.deps l
def Td.deps : List Td → Nat
  | [] => 0
  | k :: l => max k.dep (Td.deps l)
end
mutual
theorem Td.canLay : ∀ k : Td, k.lay = true → k.D.canLay0 = true
  | .non, _ => by simp [Td.D, PyData.canLay0]
  | .int i, _ => by simp [Td.D, PyData.canLay0]
  | .str s, h => by
    have h : PyData.strOk s = true := h
    simp [Td.D, PyData.canLay0, h]
  | .tup l, h => by
    have h : Td.lays l = true := h
    simp [Td.D, PyData.canLay0, Td.canLays l h]
theorem Td.canLays : ∀ l : List Td, Td.lays l = true → PyData.canLayAll0 (Td.Ds l) = true
  | [], _ => by simp [Td.Ds, PyData.canLayAll0]
  | k :: l, h => by
    have h : (k.lay && Td.lays l) = true := h
    rw [Bool.and_eq_true] at h
    simp [Td.Ds, PyData.canLayAll0, Td.canLay k h.1, Td.canLays l h.2]
end
mutual
theorem Td.depth_le : ∀ k : Td, k.D.depth ≤ k.dep
  | .non => by simp [Td.D, PyData.depth, Td.dep]
  | .int i => by simp [Td.D, PyData.depth, Td.dep]
  | .str s => by simp [Td.D, PyData.depth, Td.dep]
  | .tup l => by
    have h := Td.depths_le l
    simp [Td.D, PyData.depth, Td.dep]
    omega
theorem Td.depths_le : ∀ l : List Td, PyData.depthAll (Td.Ds l) ≤ Td.deps l
  | [] => by simp [Td.Ds, PyData.depthAll, Td.deps]
  | k :: l => by
    have h1 := Td.depth_le k
    have h2 := Td.depths_le l
    simp [Td.Ds, PyData.depthAll, Td.deps]
    omega
end
/-- a list or a tuple of such data can be compared -/
theorem Td.shapedT {l : List Td} (h : Td.lays l = true) (d : Td.deps l ≤ 60) : SeqAt.shaped (.tuple (Td.Ds l)) = true := by
  have h1 := Td.depths_le l
  have h2 : PyData.depth (.tuple (Td.Ds l)) ≤ 64 := by
    simp only [PyData.depth]
    omega
  show (PyData.canLay0 (.tuple (Td.Ds l)) && decide (PyData.depth (.tuple (Td.Ds l)) ≤ 64)) = true
  rw [Bool.and_eq_true]
  exact ⟨by simp only [PyData.canLay0]; exact Td.canLays l h, decide_eq_true h2⟩
theorem Td.shapedL {l : List Td} (h : Td.lays l = true) (d : Td.deps l ≤ 60) : SeqAt.shaped (.list (Td.Ds l)) = true := by
  have h1 := Td.depths_le l
  have h2 : PyData.depth (.list (Td.Ds l)) ≤ 64 := by
    simp only [PyData.depth]
    omega
  show (PyData.canLay0 (.list (Td.Ds l)) && decide (PyData.depth (.list (Td.Ds l)) ≤ 64)) = true
  rw [Bool.and_eq_true]
  exact ⟨by simp only [PyData.canLay0]; exact Td.canLays l h, decide_eq_true h2⟩
theorem Td.shaped {k : Td} (h : k.lay = true) (d : k.dep ≤ 60) : SeqAt.shaped k.D = true := by
  have h1 := Td.depth_le k
  show (PyData.canLay0 k.D && decide (PyData.depth k.D ≤ 64)) = true
  rw [Bool.and_eq_true]
  exact ⟨Td.canLay k h, decide_eq_true (by omega)⟩
theorem eqv_self {d : PyData} (h : SeqAt.shaped d = true) : PyData.eqv d d = true := SeqAt.eqv_refl d (SeqAt.canLay_of_shaped h)
theorem lays_app : ∀ l m : List Td, Td.lays (l ++ m) = (Td.lays l && Td.lays m)
  | [], m => by simp [Td.lays]
  | k :: l, m => by
    show (k.lay && Td.lays (l ++ m)) = ((k.lay && Td.lays l) && Td.lays m)
    rw [lays_app l m, Bool.and_assoc]
theorem deps_app : ∀ l m : List Td, Td.deps (l ++ m) = max (Td.deps l) (Td.deps m)
  | [], m => by simp [Td.deps]
  | k :: l, m => by
    show max k.dep (Td.deps (l ++ m)) = max (max k.dep (Td.deps l)) (Td.deps m)
    rw [deps_app l m]
    omega
theorem ats_app {H : Hp} : ∀ {l m : List Td} {xs ys : List V}, Td.Ats H l xs → Td.Ats H m ys → Td.Ats H (l ++ m) (xs ++ ys)
  | [], m, xs, ys, h, k => by
    cases h
    exact k
  | t :: l, m, _, ys, ⟨x, zs, e, h, hs⟩, k => by
    cases e
    exact ⟨x, zs ++ ys, rfl, h, ats_app hs k⟩
theorem ats_one {H : Hp} {k : Td} {v : V} (h : k.At H v) : Td.Ats H [k] [v] := ⟨v, [], rfl, h, rfl⟩
theorem ats_len {H : Hp} : ∀ {l : List Td} {xs : List V}, Td.Ats H l xs → xs.length = l.length
  | [], _, h => by cases h; rfl
  | k :: l, _, ⟨x, ys, e, h, hs⟩ => by
    cases e
    show ys.length + 1 = l.length + 1
    rw [ats_len hs]
theorem ats_ints {H : Hp} : ∀ ns : List Int, Td.Ats H (ns.map Td.int) (ns.map V.int)
  | [] => rfl
  | n :: ns => ⟨_, _, rfl, rfl, ats_ints ns⟩
theorem lays_ints : ∀ ns : List Int, Td.lays (ns.map Td.int) = true
  | [] => rfl
  | n :: ns => by
    show (true && Td.lays (ns.map Td.int)) = true
    rw [lays_ints ns]
    rfl
theorem deps_ints : ∀ ns : List Int, Td.deps (ns.map Td.int) = 0
  | [] => rfl
  | n :: ns => by
    show max 0 (Td.deps (ns.map Td.int)) = 0
    rw [deps_ints ns]
    rfl
theorem ats_get {H : Hp} : ∀ {l : List Td} {xs : List V} {i : Nat} {x : V}, Td.Ats H l xs → xs[i]? = some x → ∃ k, l[i]? = some k ∧ k.At H x
  | [], _, i, x, h, e => by cases h; simp at e
  | k :: l, _, 0, x, ⟨y, ys, e, h, hs⟩, ex => by
    cases e
    cases ex
    exact ⟨k, rfl, h⟩
  | k :: l, _, i + 1, x, ⟨y, ys, e, h, hs⟩, ex => by
    cases e
    exact ats_get (l := l) (i := i) hs ex
end Toy

set_option Elab.async false
set_option linter.all false
set_option maxRecDepth 100000
set_option maxHeartbeats 4000000
/-! Part K: types in plain Lean: their words, their texts; what a text of words reads as. -/
namespace Toy
open PySem L2
inductive Ty
  | nm (s : Str)
  | con (s : Str) (l : List Ty)
  | fn (a b : Ty)
mutual
def Ty.D : Ty → Td
  | .nm s => .tup [.str "name", .str s]
  | .con s l => .tup [.str "con", .str s, .tup (Ty.Ds l)]
  | .fn a b => .tup [.str "fun", a.D, b.D]
def Ty.Ds : List Ty → List Td
  | [] => []
  | t :: l => t.D :: Ty.Ds l
end
def KNAMES : List Str := ["a", "b", "x", "xs", "f", "go", "n1", "x'", "long_name9", "ofx", "inn", "lets", "iff", "divide", "note1"]
def KCONS : List Str := ["A", "Nil", "Cons", "Tree", "Leaf", "T9'", "Of", "Data_x"]
mutual
/-- its names are the law's; its depth -/
def Ty.ok : Nat → Ty → Prop
  | _, .nm s => s ∈ KNAMES
  | 0, .con s l => s ∈ KCONS ∧ l = []
  | e + 1, .con s l => s ∈ KCONS ∧ l.length ≤ 2 ∧ Ty.oks e l
  | 0, .fn _ _ => False
  | e + 1, .fn a b => Ty.ok e a ∧ Ty.ok e b
def Ty.oks : Nat → List Ty → Prop
  | _, [] => True
  | e, t :: l => Ty.ok e t ∧ Ty.oks e l
end
theorem oks_mem {e : Nat} : ∀ {l : List Ty} {t : Ty}, Ty.oks e l → t ∈ l → t.ok e
  | x :: l, t, ⟨h1, h2⟩, h => by
    rcases List.mem_cons.mp h with z | z
    · rw [z]; exact h1
    · exact oks_mem h2 z
theorem oks_app {e : Nat} : ∀ {l m : List Ty}, Ty.oks e l → Ty.oks e m → Ty.oks e (l ++ m)
  | [], _, _, h => h
  | _ :: _, _, ⟨h1, h2⟩, h => ⟨h1, oks_app h2 h⟩
theorem kn_words : ∀ w ∈ KNAMES, wordC "name" w = true ∧ w.length ≤ 13 ∧ PyData.strOk w = true := by decide +kernel
theorem kc_words : ∀ w ∈ KCONS, wordC "con" w = true ∧ w.length ≤ 13 ∧ PyData.strOk w = true := by decide +kernel
/-! ### words and texts -/
def NSB : List Str := ["(", "[", "\\"]
def NSF : List Str := [")", "]", ","]
def parW (c : Bool) (ws : List Str) : List Str := if c then ("(" : Str) :: (ws ++ [(")" : Str)]) else ws
def parC (c : Bool) (x : Cs) : Cs := if c then 40 :: (x ++ [41]) else x
mutual
def Ty.kw : Nat → Ty → List Str
  | _, .nm s => [s]
  | n, .con s l => parW (!l.isEmpty && decide (1 < n)) (s :: Ty.kws l)
  | n, .fn a b => parW (decide (0 < n)) (a.kw 1 ++ ("->" : Str) :: b.kw 0)
def Ty.kws : List Ty → List Str
  | [] => []
  | t :: l => t.kw 2 ++ Ty.kws l
end
mutual
def Ty.kc : Nat → Ty → Cs
  | _, .nm s => cs s
  | n, .con s l => parC (!l.isEmpty && decide (1 < n)) (cs s ++ Ty.kcs l)
  | n, .fn a b => parC (decide (0 < n)) (a.kc 1 ++ ([32, 45, 62, 32] ++ b.kc 0))
def Ty.kcs : List Ty → Cs
  | [] => []
  | t :: l => 32 :: (t.kc 2 ++ Ty.kcs l)
end
/-- the text of words, behind this one -/
def jC : Str → List Str → Cs
  | _, [] => []
  | b, w :: ws => (if b ∈ NSB ∨ w ∈ NSF then [] else [32]) ++ (cs w ++ jC w ws)
def gapC (b : Str) : Cs := if b ∈ NSB then [] else [32]
theorem jc_word {b w : Str} (h : w ∉ NSF) (ws : List Str) : jC b (w :: ws) = gapC b ++ (cs w ++ jC w ws) := by
  show (if b ∈ NSB ∨ w ∈ NSF then [] else [32]) ++ _ = _
  unfold gapC
  by_cases e : b ∈ NSB
  · rw [if_pos (.inl e), if_pos e]
  · rw [if_neg (fun z => z.elim e h), if_neg e]
theorem jc_close {b : Str} (ws : List Str) : jC b ((")" : Str) :: ws) = 41 :: jC ")" ws := by
  show (if b ∈ NSB ∨ (")" : Str) ∈ NSF then [] else [32]) ++ (cs ")" ++ jC ")" ws) = _
  rw [if_pos (.inr (by decide +kernel))]
  rfl
theorem kn_no : ∀ w ∈ KNAMES, w ∉ NSF ∧ w ∉ NSB := by decide +kernel
theorem kc_no : ∀ w ∈ KCONS, w ∉ NSF ∧ w ∉ NSB := by decide +kernel
theorem jc_par {c : Bool} {ws : List Str} {x : Cs} (h : ∀ b rest, ∃ l, l ∉ NSB ∧ jC b (ws ++ rest) = gapC b ++ (x ++ jC l rest)) : ∀ b rest, ∃ l, l ∉ NSB ∧ jC b (parW c ws ++ rest) = gapC b ++ (parC c x ++ jC l rest) := by
  intro b rest
  cases c with
  | false => exact h b rest
  | true =>
    obtain ⟨l, h1, h2⟩ := h "(" ((")" : Str) :: rest)
    refine ⟨")", by decide +kernel, ?_⟩
    show jC b (("(" : Str) :: ((ws ++ [(")" : Str)]) ++ rest)) = gapC b ++ (40 :: (x ++ [41]) ++ jC ")" rest)
    rw [jc_word (by decide +kernel), List.append_assoc]
    show gapC b ++ (cs "(" ++ jC "(" (ws ++ ([(")" : Str)] ++ rest))) = _
    have e : jC "(" (ws ++ ([(")" : Str)] ++ rest)) = x ++ 41 :: jC ")" rest := by
      rw [show ws ++ ([(")" : Str)] ++ rest) = ws ++ ((")" : Str) :: rest) from rfl, h2, jc_close]
      rfl
    rw [e]
    show gapC b ++ (40 :: (x ++ 41 :: jC ")" rest)) = gapC b ++ (40 :: (x ++ [41]) ++ jC ")" rest)
    simp
mutual
theorem jc_tree : ∀ (t : Ty) (e n : Nat), t.ok e → ∀ b rest, ∃ l, l ∉ NSB ∧ jC b (t.kw n ++ rest) = gapC b ++ (t.kc n ++ jC l rest)
  | .nm s, e, n, h => fun b rest => by
    have h : s ∈ KNAMES := by cases e <;> exact h
    exact ⟨s, (kn_no s h).2, jc_word (kn_no s h).1 _⟩
  | .con s l, e, n, h => by
    have h2 : s ∈ KCONS ∧ ∃ e', Ty.oks e' l := by
      cases e with
      | zero => exact ⟨h.1, 0, by rw [h.2]; trivial⟩
      | succ e => exact ⟨h.1, e, h.2.2⟩
    obtain ⟨hs, e', hl⟩ := h2
    refine jc_par fun b rest => ?_
    obtain ⟨l', h3, h4⟩ := jc_trees l e' hl s (kc_no s hs).2 rest
    refine ⟨l', h3, ?_⟩
    show jC b (s :: (Ty.kws l ++ rest)) = _
    rw [jc_word (kc_no s hs).1, h4, List.append_assoc]
  | .fn a b', e, n, h => by
    obtain ⟨e', rfl⟩ : ∃ e', e = e' + 1 := by
      cases e with
      | zero => exact h.elim
      | succ e => exact ⟨e, rfl⟩
    refine jc_par fun b rest => ?_
    obtain ⟨l2, h3, h4⟩ := jc_tree b' e' 0 h.2 "->" rest
    obtain ⟨l1, h5, h6⟩ := jc_tree a e' 1 h.1 b (("->" : Str) :: (b'.kw 0 ++ rest))
    refine ⟨l2, h3, ?_⟩
    rw [List.append_assoc]
    show jC b (a.kw 1 ++ (("->" : Str) :: (b'.kw 0 ++ rest))) = _
    rw [h6, jc_word (by decide +kernel), h4]
    have e1 : gapC l1 = [32] := if_neg h5
    have e2 : gapC "->" = [32] := if_neg (by decide +kernel)
    rw [e1, e2]
    show gapC b ++ (a.kc 1 ++ ([32] ++ (cs "->" ++ ([32] ++ (b'.kc 0 ++ jC l2 rest))))) = gapC b ++ (a.kc 1 ++ ([32, 45, 62, 32] ++ b'.kc 0) ++ jC l2 rest)
    rw [show cs "->" = [45, 62] by decide +kernel]
    simp
theorem jc_trees : ∀ (l : List Ty) (e : Nat), Ty.oks e l → ∀ (b : Str), b ∉ NSB → ∀ rest, ∃ l', l' ∉ NSB ∧ jC b (Ty.kws l ++ rest) = Ty.kcs l ++ jC l' rest
  | [], e, _, b, hb, rest => ⟨b, hb, rfl⟩
  | t :: l, e, ⟨h1, h2⟩, b, hb, rest => by
    obtain ⟨l1, h3, h4⟩ := jc_tree t e 2 h1 b (Ty.kws l ++ rest)
    obtain ⟨l2, h5, h6⟩ := jc_trees l e h2 l1 h3 rest
    refine ⟨l2, h5, ?_⟩
    show jC b ((t.kw 2 ++ Ty.kws l) ++ rest) = (32 :: (t.kc 2 ++ Ty.kcs l)) ++ jC l2 rest
    rw [List.append_assoc, h4, h6, show gapC b = [32] from if_neg hb]
    simp
end
/-! ### what a text reads as -/
abbrev W := Str × Str
def NG (rest : Cs) : Prop := ∀ x r, rest = x :: r → goesOn x = false
def Rd (T : Cs) (ws : List W) (g : Cs → Prop) : Prop := ∀ (rest : Cs) (r c : Nat) (ts' : List Tk), 1 ≤ c → g rest → Lex rest (T.foldl adv (r, c)).1 (T.foldl adv (r, c)).2 ts' → ∃ us : List Tk, us.map (fun t => (t.1, t.2.1)) = ws ∧ (∀ t ∈ us, 1 ≤ t.2.2.2) ∧ Lex (T ++ rest) r c (us ++ ts')
theorem adv_pos : ∀ (T : Cs) (r c : Nat), 1 ≤ c → 1 ≤ (T.foldl adv (r, c)).2
  | [], _, _, h => h
  | x :: T, r, c, h => by
    rw [List.foldl_cons]
    show 1 ≤ (T.foldl adv (if x = 10 then (r + 1, 1) else (r, c + 1))).2
    by_cases e : x = 10
    · rw [if_pos e]; exact adv_pos T _ _ (Nat.le_refl _)
    · rw [if_neg e]; exact adv_pos T _ _ (by omega)
theorem Rd.app {A B : Cs} {u v : List W} {g h : Cs → Prop} (a : Rd A u g) (b : Rd B v h) (k : ∀ rest, h rest → g (B ++ rest)) : Rd (A ++ B) (u ++ v) h := by
  intro rest r c ts' hc hr hl
  rw [List.foldl_append] at hl
  obtain ⟨us2, e2, p2, l2⟩ := b rest _ _ ts' (adv_pos A r c hc) hr hl
  obtain ⟨us1, e1, p1, l1⟩ := a (B ++ rest) r c _ hc (k rest hr) l2
  refine ⟨us1 ++ us2, by rw [List.map_append, e1, e2], fun t ht => (List.mem_append.mp ht).elim (p1 t) (p2 t), ?_⟩
  rw [List.append_assoc, List.append_assoc]
  exact l1
theorem Rd.weak {A : Cs} {u : List W} {g h : Cs → Prop} (a : Rd A u g) (k : ∀ rest, h rest → g rest) : Rd A u h := fun rest r c ts' hc hr hl => a rest r c ts' hc (k rest hr) hl
def Any (_ : Cs) : Prop := True
theorem rd_sep {s : Cs} (h : bl false s = true) : Rd s [] Any := fun rest r c ts' _ _ hl => ⟨[], rfl, fun t h => absurd h List.not_mem_nil, sep_by h rest (r, c) ts' hl⟩
theorem ng_take {w rest : Cs} (hw : w.all goesOn = true) (hr : NG rest) : (w ++ rest).takeWhile goesOn = w := by
  induction w with
  | nil =>
    cases rest with
    | nil => rfl
    | cons x r =>
      rw [List.nil_append, List.takeWhile_cons, if_neg (by rw [hr x r rfl]; exact Bool.noConfusion)]
  | cons x w ih =>
    simp only [List.all_cons, Bool.and_eq_true] at hw
    rw [List.cons_append, List.takeWhile_cons, if_pos hw.1, ih hw.2]
/-- a word of letters -/
theorem rd_word {k w : Str} (h : wordC k w = true) (hk : k = "name" ∨ k = "con") : Rd (cs w) [(k, w)] NG := by
  have W := wordC_ok h
  intro rest r c ts' hc hr hl
  rw [adv_word _ _ W.nonl] at hl
  refine ⟨[(k, w, r, c)], rfl, fun t ht => by rw [List.mem_singleton.mp ht]; exact hc, ?_⟩
  have h0 := h
  unfold wordC at h
  cases e : cs w with
  | nil => rw [e] at h; cases h
  | cons x s =>
    rw [e] at h
    simp only [Bool.and_eq_true, Bool.or_eq_true, Bool.not_eq_true', decide_eq_true_eq] at h
    obtain ⟨⟨h1, h2⟩, h3⟩ := h
    have h4 := W.tok [] (.inr (.inl rfl))
    rw [List.append_nil, e] at h4
    obtain ⟨y, s', e', hy1, hy2⟩ := W.head
    rw [e] at e'
    obtain ⟨rfl, rfl⟩ := List.cons.inj e'
    have ew : wordOf (x :: (s ++ rest)) = x :: s := by
      show x :: (s ++ rest).takeWhile goesOn = x :: s
      rw [ng_take h1 hr]
    have g1 : ∀ y ∈ SM, y ≠ 45 := by decide +kernel
    have g2 : ∀ y ∈ CA, y ≠ 45 := by decide +kernel
    have hx : (x ∈ SM ∧ kindW w = k) ∨ (x ∉ SM ∧ x ∈ CA ∧ k = "con") := by
      rcases h3 with h | h | h
      · exact .inl h
      · exact .inr ⟨h.1.1, h.1.2, h.2⟩
      · rcases hk with z | z
        · rw [z] at h; exact absurd h.2 (by decide +kernel)
        · rw [z] at h; exact absurd h.2 (by decide +kernel)
    have n45 : x ≠ 45 := hx.elim (fun z => g1 x z.1) (fun z => g2 x z.2.1)
    have ht : tokOf (x :: (s ++ rest)) = some (k, w) := by
      rw [tokOf_cons, ew, show S (x :: s) = w by rw [← e, S_cs]]
      rcases hx with h | h
      · rw [if_pos h.1, h.2]
      · rw [if_neg h.1, if_pos h.2.1, h.2.2]
    have hl' : Lex rest r (c + w.length) ts' := hl
    exact Lex.tok (s := rest) (by rw [e]) (fun s' q => hy1 (List.cons.inj q).1) (fun s' q => hy2 (List.cons.inj q).1) (fun s' q => n45 (List.cons.inj q).1) ht hl'
/-- a sign that is read whatever follows -/
theorem rd_sign {w : Str} (hn : ∀ x ∈ cs w, x ≠ 10) (h : ∀ rest, (∀ s', cs w ++ rest ≠ 10 :: s') ∧ (∀ s', cs w ++ rest ≠ 32 :: s') ∧ (∀ s', cs w ++ rest ≠ 45 :: 45 :: s') ∧ tokOf (cs w ++ rest) = some (("sign" : Str), w)) : Rd (cs w) [(("sign", w) : W)] Any := by
  intro rest r c ts' hc _ hl
  rw [adv_word _ _ hn] at hl
  obtain ⟨h1, h2, h3, h4⟩ := h rest
  exact ⟨[("sign", w, r, c)], rfl, fun t ht => by rw [List.mem_singleton.mp ht]; exact hc, Lex.tok rfl h1 h2 h3 h4 hl⟩
theorem al_two : ∀ w ∈ [("(" : Str), ")"], alone w = true ∧ aloneC w = true := by decide +kernel
theorem rd_alone {w : Str} (h : w = "(" ∨ w = ")") : Rd (cs w) [(("sign", w) : W)] Any := by
  obtain ⟨ha, hc⟩ := al_two w (by rcases h with e | e <;> rw [e] <;> simp)
  have W : WordOk "sign" w := aloneC_ok hc
  obtain ⟨x, s, e, h1, h2⟩ := W.head
  exact rd_sign W.nonl fun rest => ⟨fun s' q => h1 (by rw [e] at q; exact (List.cons.inj q).1), fun s' q => h2 (by rw [e] at q; exact (List.cons.inj q).1), W.nocom rest (.inl ha), W.tok rest (.inl ha)⟩
theorem rd_arrow : Rd [45, 62] [(("sign", "->") : W)] Any := by
  have e : cs "->" = [45, 62] := by decide +kernel
  rw [← e]
  refine rd_sign (by rw [e]; decide) fun rest => ?_
  rw [e]
  refine ⟨fun s' q => ?_, fun s' q => ?_, fun s' q => ?_, ?_⟩
  · exact absurd (List.cons.inj q).1 (by decide)
  · exact absurd (List.cons.inj q).1 (by decide)
  · exact absurd (List.cons.inj (List.cons.inj q).2).1 (by decide)
  · refine sign_tok ⟨45, 62 :: rest, rfl, by decide +kernel, by decide +kernel, by decide +kernel⟩ ?_
    show firstSign (45 :: 62 :: rest) = _
    rw [first_take]
    show firstSign [45, 62] = _
    decide +kernel
/-! ### words that are read as a type -/
inductive Rend : Nat → Nat → Ty → List W → Prop
  | nm {d n : Nat} {s : Str} : Rend d n (.nm s) [(("name", s) : W)]
  | con {d n : Nat} {s : Str} {l : List (Ty × List W)} : (l = [] ∨ n ≤ 1) → (∀ q ∈ l, Rend d 2 q.1 q.2) → Rend d n (.con s (l.map (·.1))) ((("con", s) : W) :: (l.map (·.2)).flatten)
  | fn {d : Nat} {a b : Ty} {u v : List W} : Rend d 1 a u → Rend d 0 b v → Rend d 0 (.fn a b) (u ++ (("sign", "->") : W) :: v)
  | par {d n : Nat} {t : Ty} {u : List W} : Rend d 0 t u → Rend (d + 1) n t ((("sign", "(") : W) :: (u ++ [(("sign", ")") : W)]))
theorem Rend.mono {d n : Nat} {t : Ty} {u : List W} (h : Rend d n t u) : ∀ {m : Nat}, d ≤ m → Rend m n t u := by
  induction h with
  | nm => exact fun _ => .nm
  | con h1 _ ih => exact fun hm => .con h1 fun q hq => ih q hq hm
  | fn _ _ i1 i2 => exact fun hm => .fn (i1 hm) (i2 hm)
  | par _ ih =>
    intro m hm
    obtain ⟨m, rfl⟩ : ∃ j, m = j + 1 := ⟨m - 1, by omega⟩
    exact .par (ih (by omega))
/-- the words that may stand in such a row -/
def wOk (q : W) : Prop := q = (("sign", "->") : W) ∨ q = (("sign", "(") : W) ∨ q = (("sign", ")") : W) ∨ (q.1 = "name" ∧ q.2 ∈ KNAMES) ∨ (q.1 = "con" ∧ q.2 ∈ KCONS)
/-- a text that is read as this type, where n is needed -/
def TX (d n : Nat) (t : Ty) (c : Cs) : Prop := ∃ ws, Rd c ws NG ∧ Rend d n t ws ∧ (∀ q ∈ ws, wOk q) ∧ ws.length ≤ c.length
theorem TX.mono {d m n : Nat} {t : Ty} {c : Cs} (h : TX d n t c) (l : d ≤ m) : TX m n t c := by
  obtain ⟨ws, h1, h2, h3⟩ := h
  exact ⟨ws, h1, h2.mono l, h3⟩
theorem tx_nm {d n : Nat} {s : Str} (h : s ∈ KNAMES) : TX d n (.nm s) (cs s) :=
  ⟨_, rd_word (kn_words s h).1 (.inl rfl), .nm, fun q hq => by rw [List.mem_singleton.mp hq]; exact .inr (.inr (.inr (.inl ⟨rfl, h⟩))), by
    obtain ⟨x, r, e, _⟩ := (wordC_ok (kn_words s h).1).head
    rw [e]; exact Nat.succ_le_succ (Nat.zero_le _)⟩
theorem ng_of {x : Nat} (h : goesOn x = false) (r : Cs) : NG (x :: r) := fun y s e => by rw [← (List.cons.inj e).1]; exact h
/-- a row of parts, each behind a blank -/
theorem tx_parts {d : Nat} : ∀ {l : List (Ty × Cs)}, (∀ q ∈ l, TX d 2 q.1 q.2) → ∃ m : List (Ty × List W), m.map (·.1) = l.map (·.1) ∧ (∀ q ∈ m, Rend d 2 q.1 q.2) ∧ (∀ q ∈ (m.map (·.2)).flatten, wOk q) ∧ (m.map (·.2)).flatten.length ≤ (l.map fun q => 32 :: q.2).flatten.length ∧
    ∀ {A : Cs} {u : List W}, Rd A u NG → Rd (A ++ (l.map fun q => 32 :: q.2).flatten) (u ++ (m.map (·.2)).flatten) NG
  | [], _ => ⟨[], rfl, fun q h => absurd h List.not_mem_nil, fun q h => absurd h List.not_mem_nil, Nat.le_refl _, fun {A u} h => by
      show Rd (A ++ []) (u ++ []) NG
      rw [List.append_nil, List.append_nil]; exact h⟩
  | q :: l, h => by
    obtain ⟨m, e1, e2, e3, e5, e4⟩ := tx_parts fun p hp => h p (List.mem_cons_of_mem _ hp)
    obtain ⟨ws, h1, h2, h3, h4⟩ := h q (List.mem_cons_self ..)
    refine ⟨(q.1, ws) :: m, by rw [List.map_cons, List.map_cons, e1], fun p hp => ?_, fun p hp => ?_, ?_, fun {A u} hA => ?_⟩
    · rcases List.mem_cons.mp hp with z | z
      · rw [z]; exact h2
      · exact e2 p z
    · rw [List.map_cons, List.flatten_cons] at hp
      exact (List.mem_append.mp hp).elim (h3 p) (e3 p)
    · rw [List.map_cons, List.map_cons, List.flatten_cons, List.flatten_cons, List.length_append, List.length_append]
      show ws.length + _ ≤ (q.2.length + 1) + _
      omega
    · have a1 : Rd (A ++ [32]) (u ++ []) Any := Rd.app hA (rd_sep (s := [32]) (by decide +kernel)) fun rest _ => ng_of (by decide +kernel) _
      have a2 : Rd ((A ++ [32]) ++ q.2) ((u ++ []) ++ ws) NG := Rd.app a1 h1 fun _ _ => trivial
      have a3 := e4 a2
      have x1 : A ++ ((q :: l).map fun q => 32 :: q.2).flatten = ((A ++ [32]) ++ q.2) ++ (l.map fun q => 32 :: q.2).flatten := by simp
      have x2 : u ++ ((((q.1, ws) :: m).map (·.2)).flatten) = ((u ++ []) ++ ws) ++ (m.map (·.2)).flatten := by simp
      rw [x1, x2]
      exact a3
theorem tx_con {d n : Nat} {s : Str} {l : List (Ty × Cs)} (h : s ∈ KCONS) (hn : l = [] ∨ n ≤ 1) (hl : ∀ q ∈ l, TX d 2 q.1 q.2) : TX d n (.con s (l.map (·.1))) (cs s ++ (l.map fun q => 32 :: q.2).flatten) := by
  obtain ⟨m, e1, e2, e3, e5, e4⟩ := tx_parts hl
  obtain ⟨x, r, e, _⟩ := (wordC_ok (kc_words s h).1).head
  have r := e4 (rd_word (kc_words s h).1 (.inr rfl))
  refine ⟨[(("con", s) : W)] ++ (m.map (·.2)).flatten, r, ?_, fun q hq => ?_, ?_⟩
  · rw [← e1]
    show Rend d n _ ((("con", s) : W) :: (m.map (·.2)).flatten)
    refine .con (hn.imp (fun z => ?_) id) e2
    rw [z] at e1
    exact List.map_eq_nil_iff.mp e1
  · rcases List.mem_cons.mp hq with z | z
    · rw [z]; exact .inr (.inr (.inr (.inr ⟨rfl, h⟩)))
    · exact e3 q z
  · show (m.map (·.2)).flatten.length + 1 ≤ _
    rw [List.length_append, e, List.length_cons]
    omega
def arrows : List Cs := [[45, 62], [32, 45, 62, 32], [10, 45, 62]]
theorem tx_fn {d : Nat} {a b : Ty} {x y ar : Cs} (har : ar ∈ arrows) (ha : TX d 1 a x) (hb : TX d 0 b y) : TX d 0 (.fn a b) (x ++ (ar ++ y)) := by
  obtain ⟨u, a1, a2, a3, a4⟩ := ha
  obtain ⟨v, b1, b2, b3, b4⟩ := hb
  refine ⟨u ++ (("sign", "->") : W) :: v, ?_, .fn a2 b2, fun q hq => ?_, ?_⟩
  · have key : ∀ (p s : Cs), bl false p = true → bl false s = true → (∀ rest, NG (p ++ (([45, 62] : Cs) ++ (s ++ rest)))) → Rd (x ++ ((p ++ ([45, 62] ++ s)) ++ y)) (u ++ (("sign", "->") : W) :: v) NG := fun p s hp hs hng => by
      have r1 : Rd (p ++ ([45, 62] ++ s)) ([] ++ ([(("sign", "->") : W)] ++ [])) Any := Rd.app (rd_sep hp) (Rd.app rd_arrow (rd_sep hs) fun _ _ => trivial) fun _ _ => trivial
      have r2 := Rd.app a1 (Rd.app r1 b1 fun _ _ => trivial) fun rest _ => by
        have := hng (y ++ rest)
        simpa using this
      simpa using r2
    unfold arrows at har
    simp only [List.mem_cons, List.not_mem_nil, or_false] at har
    rcases har with rfl | rfl | rfl
    · exact key [] [] (by decide +kernel) (by decide +kernel) fun rest => ng_of (by decide +kernel) _
    · exact key [32] [32] (by decide +kernel) (by decide +kernel) fun rest => ng_of (by decide +kernel) _
    · exact key [10] [] (by decide +kernel) (by decide +kernel) fun rest => ng_of (by decide +kernel) _
  · rcases List.mem_append.mp hq with z | z
    · exact a3 q z
    · rcases List.mem_cons.mp z with z | z
      · rw [z]; exact .inl rfl
      · exact b3 q z
  · have : 1 ≤ ar.length := by
      unfold arrows at har
      simp only [List.mem_cons, List.not_mem_nil, or_false] at har
      rcases har with rfl | rfl | rfl <;> decide
    rw [List.length_append, List.length_append, List.length_append, List.length_cons]
    omega
theorem tx_par {d n : Nat} {t : Ty} {x : Cs} (s : Cs) (hs : bl false s = true) (h : TX d 0 t x) : TX (d + 1) n t (40 :: ((s ++ x) ++ [41])) := by
  obtain ⟨u, h1, h2, h3, h4⟩ := h
  refine ⟨(("sign", "(") : W) :: (u ++ [(("sign", ")") : W)]), ?_, .par h2, fun q hq => ?_, ?_⟩
  · have e1 : cs "(" = [40] := by decide +kernel
    have e2 : cs ")" = [41] := by decide +kernel
    have o := rd_alone (w := "(") (.inl rfl)
    have c := rd_alone (w := ")") (.inr rfl)
    rw [e1] at o
    rw [e2] at c
    have r1 := Rd.app h1 c fun rest _ => ng_of (x := 41) (by decide +kernel) rest
    have r2 := Rd.app o (Rd.app (rd_sep hs) r1 fun _ _ => trivial) fun _ _ => trivial
    have r3 : Rd ([40] ++ (s ++ (x ++ [41]))) ([(("sign", "(") : W)] ++ ([] ++ (u ++ [(("sign", ")") : W)]))) NG := r2.weak fun _ _ => trivial
    rw [List.append_assoc]
    exact r3
  · rcases List.mem_cons.mp hq with z | z
    · rw [z]; exact .inr (.inl rfl)
    · rcases List.mem_append.mp z with z | z
      · exact h3 q z
      · rw [List.mem_singleton.mp z]; exact .inr (.inr (.inl rfl))
  · rw [List.length_cons, List.length_cons, List.length_append, List.length_append, List.length_append]
    show u.length + 1 + 1 ≤ _ + 1 + 1
    omega
end Toy

set_option Elab.async false
set_option linter.all false
set_option maxRecDepth 100000
set_option maxHeartbeats 4000000
/-! Part L: the class Reader. -/
namespace Toy
open PySem L2
open PyProof.Rows (envOfC)
open Lay (met_of)
def rfs (r : Addr) (i : Int) : List (Str × V) := putF "at" (.int i) (putF "row" (.ref r) [])
theorem rne : ¬ (("row" : Str) = "at") := by decide +kernel
theorem rfs_row (r : Addr) (i : Int) : (rfs r i).lookup ("row" : Str) = some (.ref r) := by
  unfold rfs
  rw [lookup_putF, if_neg rne, lookup_putF, if_pos rfl]
theorem rfs_at (r : Addr) (i : Int) : (rfs r i).lookup ("at" : Str) = some (.int i) := by
  unfold rfs
  rw [lookup_putF, if_pos rfl]
theorem rfs_no (r : Addr) (i : Int) {m : Str} (h1 : ¬ m = "at") (h2 : ¬ m = "row") : (rfs r i).lookup m = none := by
  unfold rfs
  rw [lookup_putF, if_neg h1, lookup_putF, if_neg h2]
  all_goals rfl
theorem rfs_put (r : Addr) (i j : Int) : putF "at" (.int j) (rfs r i) = rfs r j := by
  unfold rfs
  rfl
theorem rmeths : (¬ ("refuse" : Str) = "at" ∧ ¬ ("refuse" : Str) = "row") ∧ (¬ ("front" : Str) = "at" ∧ ¬ ("front" : Str) = "row") ∧ (¬ ("front_kind" : Str) = "at" ∧ ¬ ("front_kind" : Str) = "row") ∧ (¬ ("skip" : Str) = "at" ∧ ¬ ("skip" : Str) = "row") ∧ (¬ ("skip_if" : Str) = "at" ∧ ¬ ("skip_if" : Str) = "row") ∧ (¬ ("take" : Str) = "at" ∧ ¬ ("take" : Str) = "row") ∧ (¬ ("check_end" : Str) = "at" ∧ ¬ ("check_end" : Str) = "row") := by decide +kernel
/-- a reader stands at o, before the i-th token -/
structure RAt (C : Addr) (H : Hp) (o r : Addr) (ts : List Lay.Tk) (i : Nat) : Prop where
  ex : ∃ (dx : Addr) (l : List Addr), H o = some (.ins C dx (rfs r (i : Int))) ∧ H r = some (.lst (l.map V.ref)) ∧ Lay.Toks H l ts
/-- all but o stays -/
def KeepO (o : Addr) (H H' : Hp) : Prop := ∀ b u, b ≠ o → H b = some u → H' b = some u
theorem KeepO.refl (o : Addr) (H : Hp) : KeepO o H H := fun _ _ _ h => h
theorem KeepO.trans {o : Addr} {H H1 H2 : Hp} (x : KeepO o H H1) (y : KeepO o H1 H2) : KeepO o H H2 := fun b u n h => y b u n (x b u n h)
theorem KeepO.same {o : Addr} {H H' : Hp} (s : Same H H') : KeepO o H H' := fun b u _ h => s b u h
theorem RAt.same {C : Addr} {H H' : Hp} {o r : Addr} {ts : List Lay.Tk} {i : Nat} (a : RAt C H o r ts i) (s : Same H H') : RAt C H' o r ts i := by
  obtain ⟨dx, l, h1, h2, h3⟩ := a.ex
  exact ⟨dx, l, s _ _ h1, s _ _ h2, h3.keep fun _ _ h => s _ _ h⟩
theorem RAt.tk {C : Addr} {H H' : Hp} {o r : Addr} {ts : List Lay.Tk} {i : Nat} (a : RAt C H o r ts i) (k : KeepO o H H') : TK H H' := fun b xs e => by
  obtain ⟨dx, l, h1, h2, h3⟩ := a.ex
  exact k b _ (ne_of e h1 (by intro z; cases z)) e
theorem RAt.ne {C : Addr} {H : Hp} {o r b : Addr} {ts : List Lay.Tk} {i : Nat} {xs : List V} (a : RAt C H o r ts i) (e : H b = some (.lst xs)) : b ≠ o := by
  obtain ⟨dx, l, h1, h2, h3⟩ := a.ex
  exact ne_of e h1 (by intro z; cases z)
theorem RAt.new {C : Addr} {H : Hp} {o r b : Addr} {ts : List Lay.Tk} {i : Nat} (a : RAt C H o r ts i) (e : H b = none) : b ≠ o := fun z => by
  obtain ⟨dx, l, h1, h2, h3⟩ := a.ex
  rw [z, h1] at e
  cases e
/-- a list apart from the reader changes -/
theorem RAt.off {C : Addr} {H : Hp} {o r b : Addr} {ts : List Lay.Tk} {i : Nat} {xs : List V} (a : RAt C H o r ts i) (e : H b = some (.lst xs)) (n : b ≠ r) (u : HO) : RAt C (upd H b u) o r ts i := by
  obtain ⟨dx, l, h1, h2, h3⟩ := a.ex
  exact ⟨dx, l, by rw [upd_ne (ne_of h1 e (by intro z; cases z))]; exact h1, by rw [upd_ne n.symm]; exact h2, h3.keep (tup_upd e)⟩
theorem RAt.step {C : Addr} {H : Hp} {o r : Addr} {ts : List Lay.Tk} {i : Nat} {dx : Addr} {l : List Addr} (h1 : H o = some (.ins C dx (rfs r (i : Int)))) (h2 : H r = some (.lst (l.map V.ref))) (h3 : Lay.Toks H l ts) : RAt C (upd H o (.ins C dx (rfs r ((i : Int) + 1)))) o r ts (i + 1) :=
  ⟨dx, l, by rw [upd_same]; rfl, by rw [upd_ne (ne_of h2 h1 (by intro z; cases z))]; exact h2, h3.keep fun a xs e => by rw [upd_ne (ne_of e h1 (by intro z; cases z))]; exact e⟩
theorem keepO_upd {o : Addr} {H : Hp} (u : HO) : KeepO o H (upd H o u) := fun b v n h => by rw [upd_ne n]; exact h
structure TxtR (K : PySem.W.Frag) (C : Addr) : Prop where
  cl : Cls K C
  nR : NoAttr K C "row"
  nA : NoAttr K C "at"
theorem nself (v : V) : (!decide (v = v)) = false := by simp
theorem tok_at {H : Hp} {l : List Addr} {ts : List Lay.Tk} (h : Lay.Toks H l ts) {i : Nat} {t : Lay.Tk} (e : ts[i]? = some t) : ∃ a, atI (l.map V.ref) (i : Int) = some (.ref a) ∧ H a = some (.tup (Lay.tkV t)) := by
  obtain ⟨a, h1, h2⟩ := h.get e
  exact ⟨a, atI_nat (by rw [List.getElem?_map, h1]; rfl), h2⟩
section
variable {P : Program} {w : World} {K : PySem.W.Frag} {mg : Str → Option Value} {base : Heap} {C : Addr}
abbrev sRInit : Stmt := inClass (topS 25) 0
theorem scRInit : FnScope ["self", "row"] ["self", "row"] (defScope sRInit) := ⟨rfl, rfl, rfl, by decide +kernel, rfl, by decide +kernel, by decide +kernel⟩
def spRInit (C : Addr) : Sp := fun vs H Q _ => ∃ (o dx r : Addr) (l : List Addr) (ts : List Lay.Tk), vs = [.ref o, .ref r] ∧ H o = some (.ins C dx []) ∧ H r = some (.lst (l.map V.ref)) ∧ Lay.Toks H l ts ∧ ∀ H', RAt C H' o r ts 0 → KeepO o H H' → Q .non H'
theorem c_rinit {f : Addr} {fd : FuncData} (T : TxtR K C) (M : Mk K C f) (mC : mg "Reader" = some (.ref C)) (F : Fun K "__init__" "Reader.__init__" sRInit f fd) (b : Binds K fd ["self", "row"] []) : C8.Mak P w K mg base 1 "Reader" C (spRInit C) [] := by
  refine ⟨f, fd, ["self", "row"], [], M, F.ok scRInit (fun vs H Q E h => ?_) (fun cdv A outer s H vs Q E hr h => ?_), mC, b, .nil⟩
  · obtain ⟨o, dx, r, l, ts, rfl, _⟩ := h
    rfl
  obtain ⟨o, dx, r, l, ts, rfl, ho, hr, htk, q⟩ := h
  refine ⟨_, (pss_cons (ps_fld (pv 0) (pv 1) rfl)
    (pss_one (ps_fld (pv 0) pe_int rfl))), ?_⟩
  refine ⟨_, rfl, _, rfl, o, C, dx, [], rfl, ho, T.cl, T.nR, (by show 0 < 1000; decide), ?_⟩
  have nor : r ≠ o := ne_of hr ho (by intro z; cases z)
  refine ⟨_, rfl, o, C, dx, _, rfl, upd_same, T.cl, T.nA, (by show 1 < 1000; decide), ?_⟩
  refine q _ ⟨dx, l, upd_same, by rw [upd_ne nor, upd_ne nor]; exact hr, htk.keep fun a xs e => ?_⟩ ((keepO_upd _).trans (keepO_upd _))
  have na : a ≠ o := ne_of e ho (by intro z; cases z)
  rw [upd_ne na, upd_ne na]
  exact e
abbrev sFront : Stmt := inClass (topS 25) 2
theorem scFront : FnScope ["self"] ["self"] (defScope sFront) := ⟨rfl, rfl, rfl, by decide +kernel, rfl, by decide +kernel, by decide +kernel⟩
def spFront (C : Addr) (g : Lay.Tk → Str) : Sp := fun vs H Q _ => ∃ (o r : Addr) (ts : List Lay.Tk) (i : Nat) (t : Lay.Tk), vs = [.ref o] ∧ RAt C H o r ts i ∧ ts[i]? = some t ∧ Q (.str (g t)) H
theorem c_front {f : Addr} {fd : FuncData} (T : TxtR K C) (me : Meth K C "front" f) (F : Fun K "front" "Reader.front" sFront f fd) (b : Binds K fd ["self"] []) : C8.Met P w K mg base 1 C "front" (spFront C fun t => t.2.1) [] := by
  refine met_of T.cl me F b scFront (fun vs H Q E h => ?_) (fun cdv A outer s H vs Q E hr h => ?_)
  · obtain ⟨o, r, ts, i, t, rfl, _⟩ := h
    rfl
  obtain ⟨o, r, ts, i, t, rfl, RA, ht, q⟩ := h
  obtain ⟨dx, l, h1, h2, h3⟩ := id RA.ex
  obtain ⟨a, e1, e2⟩ := tok_at h3 ht
  refine ⟨_, (pss_one (ps_ret (pe_ix ix_tup (pe_ix ix_list (pe_fld (pv 0) rfl) (pe_fld (pv 0) rfl) (fun _ _ => rfl)) pe_int (fun _ _ => rfl)))), ?_⟩
  exact ⟨_, rfl, o, C, dx, _, _, rfl, h1, T.cl, T.nR, rfs_row _ _, _, rfl, o, C, dx, _, _, rfl, h1, T.cl, T.nA, rfs_at _ _, r, _, _, _, rfl, rfl, SqL.of h2, e1, a, _, 1, _, rfl, rfl, SqT.of e2, rfl, q⟩
abbrev sFrontKind : Stmt := inClass (topS 25) 3
theorem scFrontKind : FnScope ["self"] ["self"] (defScope sFrontKind) := ⟨rfl, rfl, rfl, by decide +kernel, rfl, by decide +kernel, by decide +kernel⟩
theorem c_frontKind {f : Addr} {fd : FuncData} (T : TxtR K C) (me : Meth K C "front_kind" f) (F : Fun K "front_kind" "Reader.front_kind" sFrontKind f fd) (b : Binds K fd ["self"] []) : C8.Met P w K mg base 1 C "front_kind" (spFront C fun t => t.1) [] := by
  refine met_of T.cl me F b scFrontKind (fun vs H Q E h => ?_) (fun cdv A outer s H vs Q E hr h => ?_)
  · obtain ⟨o, r, ts, i, t, rfl, _⟩ := h
    rfl
  obtain ⟨o, r, ts, i, t, rfl, RA, ht, q⟩ := h
  obtain ⟨dx, l, h1, h2, h3⟩ := id RA.ex
  obtain ⟨a, e1, e2⟩ := tok_at h3 ht
  refine ⟨_, (pss_one (ps_ret (pe_ix ix_tup (pe_ix ix_list (pe_fld (pv 0) rfl) (pe_fld (pv 0) rfl) (fun _ _ => rfl)) pe_int (fun _ _ => rfl)))), ?_⟩
  exact ⟨_, rfl, o, C, dx, _, _, rfl, h1, T.cl, T.nR, rfs_row _ _, _, rfl, o, C, dx, _, _, rfl, h1, T.cl, T.nA, rfs_at _ _, r, _, _, _, rfl, rfl, SqL.of h2, e1, a, _, 0, _, rfl, rfl, SqT.of e2, rfl, q⟩
def spNever : Sp := fun _ _ _ _ => False
abbrev sSkip : Stmt := inClass (topS 25) 4
theorem scSkip : FnScope ["self", "text"] ["self", "text"] (defScope sSkip) := ⟨rfl, rfl, rfl, by decide +kernel, rfl, by decide +kernel, by decide +kernel⟩
def spSkip (C : Addr) : Sp := fun vs H Q _ => ∃ (o r : Addr) (ts : List Lay.Tk) (i : Nat) (t : Lay.Tk), vs = [.ref o, .str t.2.1] ∧ RAt C H o r ts i ∧ ts[i]? = some t ∧ ∀ H', RAt C H' o r ts (i + 1) → KeepO o H H' → Q .non H'
theorem c_skip {f : Addr} {fd : FuncData} (T : TxtR K C) (crefuse : C8.Met P w K mg base 1 C "refuse" spNever []) (me : Meth K C "skip" f) (F : Fun K "skip" "Reader.skip" sSkip f fd) (b : Binds K fd ["self", "text"] []) : C8.Met P w K mg base 2 C "skip" (spSkip C) [] := by
  refine met_of T.cl me F b scSkip (fun vs H Q E h => ?_) (fun cdv A outer s H vs Q E hr h => ?_)
  · obtain ⟨o, r, ts, i, t, rfl, _⟩ := h
    rfl
  obtain ⟨o, r, ts, i, t, rfl, RA, ht, q⟩ := h
  obtain ⟨dx, l, h1, h2, h3⟩ := id RA.ex
  obtain ⟨a, e1, e2⟩ := tok_at h3 ht
  refine ⟨_, (pss_cons (ps_if (pt_cmpR op_ne (pe_ix ix_tup (pe_ix ix_list (pe_fld (pv 0) rfl) (pe_fld (pv 0) rfl) (fun _ _ => rfl)) pe_int (fun _ _ => rfl)) (pv 1) (nomark _))
      (pss_one (ps_expr (C8.pe_mt0 crefuse hr (by decide) (pv 0))))
      pss_nil)
    (pss_one (ps_fldaug (pv 0) pe_int ip_add))), ?_⟩
  refine ⟨_, rfl, o, C, dx, _, _, rfl, h1, T.cl, T.nR, rfs_row _ _, _, rfl, o, C, dx, _, _, rfl, h1, T.cl, T.nA, rfs_at _ _, r, _, _, _, rfl, rfl, SqL.of h2, e1, a, _, 1, _, rfl, rfl, SqT.of e2, rfl, ?_⟩
  refine ⟨_, rfl, rfl, _, rfl, ?_⟩
  rw [nself]
  refine iteF ?_
  refine ⟨_, rfl, o, C, dx, _, .int (i : Int), rfl, h1, T.cl, T.nA, rfs_at _ _, (i : Int), 1, rfl, rfl, dx, _, h1, (by show 2 < 1000; decide), ?_⟩
  rw [rfs_put]
  exact q _ (RAt.step h1 h2 h3) (keepO_upd _)
abbrev sSkipIf : Stmt := inClass (topS 25) 5
theorem scSkipIf : FnScope ["self", "text"] ["self", "text"] (defScope sSkipIf) := ⟨rfl, rfl, rfl, by decide +kernel, rfl, by decide +kernel, by decide +kernel⟩
def spSkipIf (C : Addr) : Sp := fun vs H Q _ => ∃ (o r : Addr) (ts : List Lay.Tk) (i : Nat) (t : Lay.Tk) (z : Str), vs = [.ref o, .str z] ∧ RAt C H o r ts i ∧ ts[i]? = some t ∧ (t.2.1 = z → ∀ H', RAt C H' o r ts (i + 1) → KeepO o H H' → Q (.bl true) H') ∧ (t.2.1 ≠ z → Q (.bl false) H)
theorem c_skipIf {f : Addr} {fd : FuncData} (T : TxtR K C) (me : Meth K C "skip_if" f) (F : Fun K "skip_if" "Reader.skip_if" sSkipIf f fd) (b : Binds K fd ["self", "text"] []) : C8.Met P w K mg base 1 C "skip_if" (spSkipIf C) [] := by
  refine met_of T.cl me F b scSkipIf (fun vs H Q E h => ?_) (fun cdv A outer s H vs Q E hr h => ?_)
  · obtain ⟨o, r, ts, i, t, z, rfl, _⟩ := h
    rfl
  obtain ⟨o, r, ts, i, t, z, rfl, RA, ht, q1, q2⟩ := h
  obtain ⟨dx, l, h1, h2, h3⟩ := id RA.ex
  obtain ⟨a, e1, e2⟩ := tok_at h3 ht
  refine ⟨_, (pss_cons (ps_if (pt_cmpR op_ne (pe_ix ix_tup (pe_ix ix_list (pe_fld (pv 0) rfl) (pe_fld (pv 0) rfl) (fun _ _ => rfl)) pe_int (fun _ _ => rfl)) (pv 1) (nomark _))
      (pss_one (ps_ret pe_bl))
      pss_nil)
    (pss_cons (ps_fldaug (pv 0) pe_int ip_add)
    (pss_one (ps_ret pe_bl)))), ?_⟩
  refine ⟨_, rfl, o, C, dx, _, _, rfl, h1, T.cl, T.nR, rfs_row _ _, _, rfl, o, C, dx, _, _, rfl, h1, T.cl, T.nA, rfs_at _ _, r, _, _, _, rfl, rfl, SqL.of h2, e1, a, _, 1, _, rfl, rfl, SqT.of e2, rfl, ?_⟩
  refine ⟨_, rfl, rfl, _, rfl, ?_⟩
  by_cases c : t.2.1 = z
  · rw [show (!decide (V.str t.2.1 = V.str z)) = false by rw [c]; exact nself _]
    refine iteF ?_
    refine ⟨_, rfl, o, C, dx, _, .int (i : Int), rfl, h1, T.cl, T.nA, rfs_at _ _, (i : Int), 1, rfl, rfl, dx, _, h1, (by show 2 < 1000; decide), ?_⟩
    rw [rfs_put]
    exact q1 c _ (RAt.step h1 h2 h3) (keepO_upd _)
  · rw [decide_eq_false fun e => c (V.str.inj e)]
    exact iteT (q2 c)
abbrev sTake : Stmt := inClass (topS 25) 6
theorem scTake : FnScope ["self", "kind", "found", "text", "_"] ["self", "kind"] (defScope sTake) := ⟨rfl, rfl, rfl, by decide +kernel, rfl, by decide +kernel, by decide +kernel⟩
def spTake (C : Addr) : Sp := fun vs H Q _ => ∃ (o r : Addr) (ts : List Lay.Tk) (i : Nat) (t : Lay.Tk), vs = [.ref o, .str t.1] ∧ RAt C H o r ts i ∧ ts[i]? = some t ∧ ∀ H', RAt C H' o r ts (i + 1) → KeepO o H H' → Q (.str t.2.1) H'
theorem c_take {f : Addr} {fd : FuncData} (T : TxtR K C) (crefuse : C8.Met P w K mg base 1 C "refuse" spNever []) (me : Meth K C "take" f) (F : Fun K "take" "Reader.take" sTake f fd) (b : Binds K fd ["self", "kind"] []) : C8.Met P w K mg base 2 C "take" (spTake C) [] := by
  refine met_of T.cl me F b scTake (fun vs H Q E h => ?_) (fun cdv A outer s H vs Q E hr h => ?_)
  · obtain ⟨o, r, ts, i, t, rfl, _⟩ := h
    rfl
  obtain ⟨o, r, ts, i, t, rfl, RA, ht, q⟩ := h
  obtain ⟨dx, l, h1, h2, h3⟩ := id RA.ex
  obtain ⟨a, e1, e2⟩ := tok_at h3 ht
  refine ⟨_, (pss_cons (ps_asg (pe_ix ix_list (pe_fld (pv 0) rfl) (pe_fld (pv 0) rfl) (fun _ _ => rfl)) (pg_tup rfl (pgs_cons (pg_name (i := 2) scTake.nd rfl (Or.inl rfl)) (pgs_cons (pg_name (i := 3) scTake.nd rfl (Or.inl rfl)) (pgs_cons (pg_name (i := 4) scTake.nd rfl (Or.inl rfl)) (pgs_cons (pg_name (i := 4) scTake.nd rfl (Or.inl rfl)) pgs_nil))))))
    (pss_cons (ps_if (pt_cmpR op_ne (pv 2) (pv 1) (nomark _))
      (pss_one (ps_expr (C8.pe_mt0 crefuse hr (by decide) (pv 0))))
      pss_nil)
    (pss_cons (ps_fldaug (pv 0) pe_int ip_add)
    (pss_one (ps_ret (pv 3)))))), ?_⟩
  refine ⟨_, rfl, o, C, dx, _, _, rfl, h1, T.cl, T.nR, rfs_row _ _, _, rfl, o, C, dx, _, _, rfl, h1, T.cl, T.nA, rfs_at _ _, r, _, _, _, rfl, rfl, SqL.of h2, e1, a, _, rfl, SqT.of e2, rfl, _, _, rfl, _, _, rfl, _, _, rfl, _, _, rfl, rfl, ?_⟩
  refine ⟨_, rfl, _, rfl, rfl, _, rfl, ?_⟩
  rw [nself]
  refine iteF ?_
  refine ⟨_, rfl, o, C, dx, _, .int (i : Int), rfl, h1, T.cl, T.nA, rfs_at _ _, (i : Int), 1, rfl, rfl, dx, _, h1, (by show 2 < 1000; decide), ?_⟩
  rw [rfs_put]
  exact ⟨_, rfl, q _ (RAt.step h1 h2 h3) (keepO_upd _)⟩
abbrev sCheckEnd : Stmt := inClass (topS 25) 8
theorem scCheckEnd : FnScope ["self"] ["self"] (defScope sCheckEnd) := ⟨rfl, rfl, rfl, by decide +kernel, rfl, by decide +kernel, by decide +kernel⟩
def spCheckEnd (C : Addr) : Sp := fun vs H Q _ => ∃ (o r : Addr) (ts : List Lay.Tk) (i : Nat) (t : Lay.Tk), vs = [.ref o] ∧ RAt C H o r ts i ∧ ts[i]? = some t ∧ t.1 = "end" ∧ Q .non H
theorem c_checkEnd {f : Addr} {fd : FuncData} (T : TxtR K C) (crefuse : C8.Met P w K mg base 1 C "refuse" spNever []) (cfront_kind : C8.Met P w K mg base 1 C "front_kind" (spFront C fun t => t.1) []) (me : Meth K C "check_end" f) (F : Fun K "check_end" "Reader.check_end" sCheckEnd f fd) (b : Binds K fd ["self"] []) : C8.Met P w K mg base 2 C "check_end" (spCheckEnd C) [] := by
  refine met_of T.cl me F b scCheckEnd (fun vs H Q E h => ?_) (fun cdv A outer s H vs Q E hr h => ?_)
  · obtain ⟨o, r, ts, i, t, rfl, _⟩ := h
    rfl
  obtain ⟨o, r, ts, i, t, rfl, RA, ht, hk, q⟩ := h
  obtain ⟨dx, l, h1, h2, h3⟩ := id RA.ex
  refine ⟨_, (pss_one (ps_if (pt_cmpR op_ne (C8.pe_mt0 cfront_kind hr (by decide) (pv 0)) pe_str (nomark _))
      (pss_one (ps_expr (C8.pe_mt0 crefuse hr (by decide) (pv 0))))
      pss_nil)), ?_⟩
  refine ⟨_, rfl, o, dx, _, rfl, h1, rfs_no _ _ rmeths.2.2.1.1 rmeths.2.2.1.2, o, r, ts, i, t, rfl, RA, ht, ?_⟩
  refine ⟨rfl, _, rfl, ?_⟩
  show if (!decide (V.str t.1 = V.str "end")) = true then _ else _
  rw [hk, nself]
  exact iteF q
end
end Toy

set_option Elab.async false
set_option linter.all false
set_option maxRecDepth 100000
set_option maxHeartbeats 4000000
/-! Part M: types read. -/
namespace Toy
open PySem L2
open PyProof.Rows (envOfC)
def wd (t : Lay.Tk) : W := (t.1, t.2.1)
/-- the words from the i-th token on -/
def Ahead (ts : List Lay.Tk) (i : Nat) (ws : List W) : Prop := (ts.drop i).map wd = ws
theorem Ahead.front {ts : List Lay.Tk} {i : Nat} {q : W} {ws : List W} (h : Ahead ts i (q :: ws)) : ∃ t, ts[i]? = some t ∧ t.1 = q.1 ∧ t.2.1 = q.2 ∧ Ahead ts (i + 1) ws := by
  unfold Ahead at h
  cases e : ts.drop i with
  | nil => rw [e] at h; cases h
  | cons t l =>
    rw [e] at h
    obtain ⟨h1, h2⟩ := List.cons.inj h
    have hi : ts[i]? = some t := by
      have := List.getElem?_drop (xs := ts) (i := i) (j := 0)
      rw [e] at this
      exact this.symm
    refine ⟨t, hi, congrArg Prod.fst h1, congrArg Prod.snd h1, ?_⟩
    show (ts.drop (i + 1)).map wd = ws
    rw [← List.drop_drop, e]
    exact h2
theorem Ahead.more {ts : List Lay.Tk} : ∀ {u : List W} {i : Nat} {ws : List W}, Ahead ts i (u ++ ws) → Ahead ts (i + u.length) ws
  | [], _, _, h => h
  | q :: u, i, ws, h => by
    obtain ⟨t, _, _, _, h2⟩ := Ahead.front h
    have := Ahead.more h2
    rw [List.length_cons, show i + (u.length + 1) = i + 1 + u.length by omega]
    exact this
def NotSmall (f : W) : Prop := f.1 ≠ "name" ∧ f.1 ≠ "con" ∧ f.2 ≠ "("
theorem wtt (z : V) : decide (z = z) = true := decide_eq_true rfl
theorem wne {a b : Str} (h : ¬ a = b) : decide (V.str a = V.str b) = false := decide_eq_false fun z => h (V.str.inj z)
theorem ds_map : ∀ l : List Ty, Ty.Ds l = l.map Ty.D
  | [] => rfl
  | t :: l => by show t.D :: Ty.Ds l = _; rw [ds_map l]; rfl
/-- what stands at the front -/
theorem Rend.small {d n : Nat} {t : Ty} {ws : List W} (h : Rend d n t ws) (hn : n = 2) : (∃ s, t = .nm s ∧ ws = [(("name", s) : W)]) ∨ (∃ s, t = .con s [] ∧ ws = [(("con", s) : W)]) ∨ ∃ d' u, d = d' + 1 ∧ Rend d' 0 t u ∧ ws = (("sign", "(") : W) :: (u ++ [(("sign", ")") : W)]) := by
  cases h with
  | nm => exact .inl ⟨_, rfl, rfl⟩
  | @con _ _ s l h1 h2 =>
    rcases h1 with rfl | h1
    · exact .inr (.inl ⟨s, rfl, rfl⟩)
    · omega
  | fn => cases hn
  | par h => exact .inr (.inr ⟨_, _, rfl, h, rfl⟩)
theorem Rend.head {d : Nat} {t : Ty} {ws : List W} (h : Rend d 2 t ws) : ∃ q r, ws = q :: r ∧ (q.1 = "name" ∨ q.1 = "con" ∨ q = (("sign", "(") : W)) := by
  rcases h.small rfl with ⟨s, _, e⟩ | ⟨s, _, e⟩ | ⟨_, u, _, _, e⟩
  · exact ⟨_, _, e, .inl rfl⟩
  · exact ⟨_, _, e, .inr (.inl rfl)⟩
  · exact ⟨_, _, e, .inr (.inr rfl)⟩
theorem Rend.plain {d n : Nat} {t : Ty} {ws : List W} (h : Rend d n t ws) (hn : n ≤ 1) (hf : ∀ a b, t = .fn a b → n = 1) : (∃ s, ∃ l : List (Ty × List W), t = .con s (l.map (·.1)) ∧ ws = (("con", s) : W) :: (l.map (·.2)).flatten ∧ ∀ q ∈ l, Rend d 2 q.1 q.2) ∨ (Rend d 2 t ws ∧ ∃ q r, ws = q :: r ∧ q.1 ≠ "con") := by
  cases h with
  | nm => exact .inr ⟨.nm, _, _, rfl, by show ("name" : Str) ≠ "con"; decide +kernel⟩
  | @con _ _ s l h1 h2 => exact .inl ⟨s, l, rfl, rfl, h2⟩
  | fn => exact absurd (hf _ _ rfl) (by decide)
  | par h => exact .inr ⟨.par h, _, _, rfl, by show ("sign" : Str) ≠ "con"; decide +kernel⟩
/-- a first part and the rest -/
theorem Rend.split {d n : Nat} {t : Ty} {ws : List W} (h : Rend d n t ws) (hn : n = 0) : Rend d 1 t ws ∨ ∃ a b u v, t = .fn a b ∧ ws = u ++ (("sign", "->") : W) :: v ∧ Rend d 1 a u ∧ Rend d 0 b v := by
  cases h with
  | nm => exact .inl .nm
  | con h1 h2 => exact .inl (.con (.inr (Nat.le_refl _)) h2)
  | fn h1 h2 => exact .inr ⟨_, _, _, _, rfl, rfl, h1, h2⟩
  | par h => exact .inl (.par h)
theorem boot_tuple : bootBuiltins "tuple" = some (.type "tuple") := by decide +kernel
structure TxtP (mg : Str → Option Value) : Prop where
  ztuple : mg "tuple" = none
  zreversed : mg "reversed" = none
section
variable {P : Program} {w : World} {K : PySem.W.Frag} {mg : Str → Option Value} {base : Heap} {C : Addr}
def spKind (C : Addr) (d : Nat) : Sp := fun vs H Q _ => ∃ (o r : Addr) (ts : List Lay.Tk) (i e : Nat) (t : Ty) (ws : List W) (f : W) (rest : List W), vs = [.ref o] ∧ RAt C H o r ts i ∧ Ahead ts i (ws ++ f :: rest) ∧ NotSmall f ∧ f.2 ≠ "->" ∧ Rend e 0 t ws ∧ e < d ∧ ws.length ≤ 1000 ∧
  ∀ (v : V) (H' : Hp), KeepO o H H' → RAt C H' o r ts (i + ws.length) → t.D.At H' v → Q v H'
def spPlain (C : Addr) (d : Nat) : Sp := fun vs H Q _ => ∃ (o r : Addr) (ts : List Lay.Tk) (i e : Nat) (t : Ty) (ws : List W) (f : W) (rest : List W), vs = [.ref o] ∧ RAt C H o r ts i ∧ Ahead ts i (ws ++ f :: rest) ∧ NotSmall f ∧ Rend e 1 t ws ∧ e < d ∧ ws.length ≤ 1000 ∧
  ∀ (v : V) (H' : Hp), KeepO o H H' → RAt C H' o r ts (i + ws.length) → t.D.At H' v → Q v H'
def spSmall (C : Addr) (d : Nat) : Sp := fun vs H Q _ => ∃ (o r : Addr) (ts : List Lay.Tk) (i e : Nat) (t : Ty) (ws rest : List W), vs = [.ref o] ∧ RAt C H o r ts i ∧ Ahead ts i (ws ++ rest) ∧ Rend e 2 t ws ∧ e < d ∧ ws.length ≤ 1000 ∧
  ∀ (v : V) (H' : Hp), KeepO o H H' → RAt C H' o r ts (i + ws.length) → t.D.At H' v → Q v H'
def spSmalls (C : Addr) (d : Nat) : Sp := fun vs H Q _ => ∃ (o r : Addr) (ts : List Lay.Tk) (i e : Nat) (l : List (Ty × List W)) (f : W) (rest : List W), vs = [.ref o] ∧ RAt C H o r ts i ∧ Ahead ts i ((l.map (·.2)).flatten ++ f :: rest) ∧ NotSmall f ∧ (∀ q ∈ l, Rend e 2 q.1 q.2) ∧ e < d ∧ (l.map (·.2)).flatten.length ≤ 1000 ∧
  ∀ (v : V) (H' : Hp), KeepO o H H' → RAt C H' o r ts (i + (l.map (·.2)).flatten.length) → (Td.tup (Ty.Ds (l.map (·.1)))).At H' v → Q v H'
abbrev sSmall : Stmt := topS 17
theorem scSmall : FnScope ["reader", "tree"] ["reader"] (defScope sSmall) := ⟨rfl, rfl, rfl, by decide +kernel, rfl, by decide +kernel, by decide +kernel⟩
theorem c_small {f : Addr} {fd : FuncData} {d : Nat} (T : TxtR K C) (cfront_kind : C8.Met P w K mg base 1 C "front_kind" (spFront C fun t => t.1) []) (ctake : C8.Met P w K mg base 2 C "take" (spTake C) []) (cskip : C8.Met P w K mg base 2 C "skip" (spSkip C) []) (cread_kind : C8.Cal P w K mg base (4 * d + 4) "read_kind" (spKind C d) []) (F : Fun K "_read_small" "_read_small" sSmall f fd) (b : Binds K fd ["reader"] []) (hm : mg "_read_small" = some (.ref f)) : C8.Cal P w K mg base (4 * d + 5) "_read_small" (spSmall C (d + 1)) [] := by
  refine cal_of F hm b scSmall (fun vs H Q E h => ?_) (fun cdv A outer s H vs Q E hr h => ?_)
  · obtain ⟨o, r, ts, i, e, t, ws, rest, rfl, _⟩ := h
    rfl
  obtain ⟨o, r, ts, i, e, t, ws, rest, rfl, RA, ha, hrd, hed, hwl, q⟩ := h
  obtain ⟨dx, l, h1, h2, h3⟩ := id RA.ex
  obtain ⟨m1, m2, m3, m4, m5, m6, m7⟩ := rmeths
  refine ⟨_, (pss_cons (ps_if (pt_cmpR op_eq (C8.pe_mt0 cfront_kind hr (by omega) (pv 0)) pe_str (nomark _))
      (pss_one (ps_ret (pe_tup (pa_cons pe_str (pa_cons (C8.pe_mt ctake hr (by omega) (pv 0) (pa_cons pe_str pa_nil)) pa_nil)))))
      pss_nil)
    (pss_cons (ps_if (pt_cmpR op_eq (C8.pe_mt0 cfront_kind hr (by omega) (pv 0)) pe_str (nomark _))
      (pss_one (ps_ret (pe_tup (pa_cons pe_str (pa_cons (C8.pe_mt ctake hr (by omega) (pv 0) (pa_cons pe_str pa_nil)) (pa_cons (pe_tup pa_nil) pa_nil))))))
      pss_nil)
    (pss_cons (ps_expr (C8.pe_mt cskip hr (by omega) (pv 0) (pa_cons pe_str pa_nil)))
    (pss_cons (ps_set (i := 1) scSmall.nd rfl (Or.inl rfl) (C8.pe_c cread_kind hr (by omega) rfl (pa_cons (pv 0) pa_nil)))
    (pss_cons (ps_expr (C8.pe_mt cskip hr (by omega) (pv 0) (pa_cons pe_str pa_nil)))
    (pss_one (ps_ret (pv 1)))))))), ?_⟩
  obtain ⟨q0, r0, e0, _⟩ := hrd.head
  rw [e0] at ha
  obtain ⟨t0, ht0, k1, k2, ha1⟩ := Ahead.front ha
  refine ⟨_, rfl, o, dx, _, rfl, h1, rfs_no _ _ m3.1 m3.2, o, r, ts, i, t0, rfl, RA, ht0, rfl, _, rfl, ?_⟩
  rcases hrd.small rfl with ⟨s0, rfl, e1⟩ | ⟨s0, rfl, e1⟩ | ⟨d', u, rfl, hin, e1⟩
  · rw [e1] at e0
    obtain ⟨rfl, rfl⟩ := List.cons.inj e0
    show if decide (V.str t0.1 = V.str "name") = true then _ else _
    rw [k1, wtt]
    refine iteT ?_
    refine ⟨_, rfl, o, dx, _, rfl, h1, rfs_no _ _ m6.1 m6.2, o, r, ts, i, t0, by rw [k1]; rfl, RA, ht0, fun H1 RA1 kp1 => ⟨by show 2 ≤ sizeLine; decide, fun p hp => ?_⟩⟩
    have s1 := same_new hp (.tup [.str "name", .str t0.2.1])
    rw [e1] at q
    refine q _ _ (kp1.trans (KeepO.same s1)) (RA1.same s1) ⟨p, _, rfl, upd_same, _, _, rfl, rfl, _, _, rfl, ?_, rfl⟩
    show V.str t0.2.1 = V.str s0
    rw [k2]
  · rw [e1] at e0
    obtain ⟨rfl, rfl⟩ := List.cons.inj e0
    show if decide (V.str t0.1 = V.str "name") = true then _ else _
    rw [k1, wne (show ¬ ("con" : Str) = "name" by decide +kernel)]
    refine iteF ?_
    refine ⟨_, rfl, o, dx, _, rfl, h1, rfs_no _ _ m3.1 m3.2, o, r, ts, i, t0, rfl, RA, ht0, rfl, _, rfl, ?_⟩
    show if decide (V.str t0.1 = V.str "con") = true then _ else _
    rw [k1, wtt]
    refine iteT ?_
    refine ⟨_, rfl, o, dx, _, rfl, h1, rfs_no _ _ m6.1 m6.2, o, r, ts, i, t0, by rw [k1]; rfl, RA, ht0, fun H1 RA1 kp1 => ⟨by show 0 ≤ sizeLine; decide, fun p0 hp0 => ⟨by show 3 ≤ sizeLine; decide, fun p hp => ?_⟩⟩⟩
    have s1 := same_new hp0 (.tup [])
    have s2 := same_new hp (.tup [.str "con", .str t0.2.1, .ref p0])
    rw [e1] at q
    refine q _ _ (kp1.trans (KeepO.same (sameT s1 s2))) (RA1.same (sameT s1 s2)) ⟨p, _, rfl, upd_same, _, _, rfl, rfl, _, _, rfl, ?_, _, _, rfl, ⟨p0, [], rfl, s2 _ _ upd_same, rfl⟩, rfl⟩
    show V.str t0.2.1 = V.str s0
    rw [k2]
  · rw [e1] at e0
    obtain ⟨rfl, rfl⟩ := List.cons.inj e0
    show if decide (V.str t0.1 = V.str "name") = true then _ else _
    rw [k1, wne (show ¬ ("sign" : Str) = "name" by decide +kernel)]
    refine iteF ?_
    refine ⟨_, rfl, o, dx, _, rfl, h1, rfs_no _ _ m3.1 m3.2, o, r, ts, i, t0, rfl, RA, ht0, rfl, _, rfl, ?_⟩
    show if decide (V.str t0.1 = V.str "con") = true then _ else _
    rw [k1, wne (show ¬ ("sign" : Str) = "con" by decide +kernel)]
    refine iteF ?_
    refine ⟨_, rfl, o, dx, _, rfl, h1, rfs_no _ _ m4.1 m4.2, o, r, ts, i, t0, by rw [k2]; rfl, RA, ht0, fun H1 RA1 kp1 => ?_⟩
    replace ha1 : Ahead ts (i + 1) ((u ++ [(("sign", ")") : W)]) ++ rest) := ha1
    rw [List.append_assoc] at ha1
    have hul : u.length ≤ 1000 := by
      rw [e1, List.length_cons, List.length_append] at hwl
      omega
    refine ⟨_, rfl, o, r, ts, i + 1, d', t, u, _, rest, rfl, RA1, ha1, ⟨by show ("sign" : Str) ≠ "name"; decide +kernel, by show ("sign" : Str) ≠ "con"; decide +kernel, by show (")" : Str) ≠ "("; decide +kernel⟩, by show (")" : Str) ≠ "->"; decide +kernel, hin, by omega, hul, fun v H2 kp2 RA2 av => ?_⟩
    show gName 1 v _ _ _
    have ha2 := Ahead.more ha1
    obtain ⟨t2, ht2, k3, k4, ha3⟩ := Ahead.front ha2
    obtain ⟨dx2, l2, g1, g2, g3⟩ := id RA2.ex
    refine ⟨_, rfl, o, dx2, _, rfl, g1, rfs_no _ _ m4.1 m4.2, o, r, ts, _, t2, by rw [k4]; rfl, RA2, ht2, fun H3 RA3 kp3 => ⟨_, rfl, ?_⟩⟩
    rw [e1] at q
    refine q v H3 ((kp1.trans kp2).trans kp3) ?_ (av.keep (RA2.tk kp3))
    rw [List.length_cons, List.length_append]
    exact (show i + (u.length + 1 + 1) = i + 1 + u.length + 1 by omega) ▸ RA3
theorem szs_len2 {l : List (Ty × List W)} {e : Nat} (h : ∀ q ∈ l, Rend e 2 q.1 q.2) : l.length ≤ (l.map (·.2)).flatten.length := by
  induction l with
  | nil => exact Nat.le_refl _
  | cons q l ih =>
    have ih := ih fun p hp => h p (List.mem_cons_of_mem _ hp)
    obtain ⟨a, b, e, _⟩ := (h q (List.mem_cons_self ..)).head
    rw [List.map_cons, List.flatten_cons, List.length_append, e, List.length_cons, List.length_cons]
    omega
abbrev sSmalls : Stmt := topS 16
theorem scSmalls : FnScope ["reader", "found"] ["reader"] (defScope sSmalls) := ⟨rfl, rfl, rfl, by decide +kernel, rfl, by decide +kernel, by decide +kernel⟩
theorem c_smalls {f : Addr} {fd : FuncData} {d : Nat} (T : TxtP mg) (cfront_kind : C8.Met P w K mg base 1 C "front_kind" (spFront C fun t => t.1) []) (cfront : C8.Met P w K mg base 1 C "front" (spFront C fun t => t.2.1) []) (c_read_small : C8.Cal P w K mg base (4 * d + 5) "_read_small" (spSmall C (d + 1)) []) (F : Fun K "read_smalls" "read_smalls" sSmalls f fd) (b : Binds K fd ["reader"] []) (hm : mg "read_smalls" = some (.ref f)) : C8.Cal P w K mg base (4 * d + 6) "read_smalls" (spSmalls C (d + 1)) [] := by
  refine cal_of F hm b scSmalls (fun vs H Q E h => ?_) (fun cdv A outer s H vs Q E hr h => ?_)
  · obtain ⟨o, r, ts, i, e, l, f, rest, rfl, _⟩ := h
    rfl
  obtain ⟨o, r, ts, i, e, l, f, rest, rfl, RA, ha, hns, hrd, hed, hwl, q⟩ := h
  obtain ⟨m1, m2, m3, m4, m5, m6, m7⟩ := rmeths
  refine ⟨_, (pss_cons (ps_set (i := 1) scSmalls.nd rfl (Or.inl rfl) (pe_lst pa_nil))
    (pss_cons (ps_while PassesOwn.never (PW.pt (pw_or (pt_cmpR op_in_seq (C8.pe_mt0 cfront_kind hr (by omega) (pv 0)) (pe_tup (pa_cons pe_str (pa_cons pe_str pa_nil))) rfl) (pw_or1 (pt_cmpR op_eq (C8.pe_mt0 cfront hr (by omega) (pv 0)) pe_str (nomark _)))))
      (pss_one (ps_expr (pe_bm PySem.F.plainAttrs_list PySem.F.slot_list_append PySem.F.type_list_append mt_append (pv 1) (pa_cons (C8.pe_c c_read_small hr (by omega) rfl (pa_cons (pv 0) pa_nil)) pa_nil)))))
    (pss_one (ps_ret (pe_callTy call_tuple_of rfl T.ztuple boot_tuple (pa_cons (pv 1) pa_nil)))))), ?_⟩
  refine ⟨by show 0 ≤ sizeLine; decide, fun L hL => ?_⟩
  have s0 := same_new hL (.lst [])
  have nLo := RA.new hL
  have nLr : L ≠ r := fun z => by
    obtain ⟨dx, l, h1, h2, h3⟩ := RA.ex
    rw [z, h2] at hL
    cases hL
  refine ⟨fun m σ H2 => ∃ (j : Nat) (xs : List V), m = l.length - j ∧ j ≤ l.length ∧ σ = [some (.ref o), some (.ref L)] ∧ KeepO o H H2 ∧ RAt C H2 o r ts (i + ((l.take j).map (·.2)).flatten.length) ∧ H2 L = some (.lst xs) ∧ Td.Ats H2 (Ty.Ds ((l.take j).map (·.1))) xs ∧ xs.length = j,
    ⟨l.length, 0, [], rfl, Nat.zero_le _, rfl, KeepO.same s0, RA.same s0, upd_same, rfl, rfl⟩, ?_⟩
  rintro m σ H2 ⟨j, xs, rfl, hj, rfl, k2, RA2, eL, aL, hxl⟩
  obtain ⟨dx, l2, h1, h2, h3⟩ := id RA2.ex
  have hsplit : (l.map (·.2)).flatten = ((l.take j).map (·.2)).flatten ++ ((l.drop j).map (·.2)).flatten := by
    rw [← List.flatten_append, ← List.map_append, List.take_append_drop]
  have ha2 := ha
  rw [hsplit, List.append_assoc] at ha2
  have ha3 := Ahead.more ha2
  by_cases c : j < l.length
  · have ed : l.drop j = l[j] :: l.drop (j + 1) := List.drop_eq_getElem_cons c
    rw [ed, List.map_cons, List.flatten_cons, List.append_assoc] at ha3
    have hq := hrd l[j] (List.getElem_mem c)
    obtain ⟨q0, r0, e0, hk⟩ := hq.head
    have ha4 := ha3
    rw [e0] at ha4
    obtain ⟨t0, ht0, k1, k2', _⟩ := Ahead.front ha4
    have hwl2 : l[j].2.length ≤ 1000 := by
      have := congrArg List.length hsplit
      rw [ed, List.map_cons, List.flatten_cons, List.length_append, List.length_append] at this
      omega
    have go : ∀ (x : V) (H3 : Hp), KeepO o H2 H3 → RAt C H3 o r ts (i + ((l.take j).map (·.2)).flatten.length + l[j].2.length) → l[j].1.D.At H3 x → H3 L = some (.lst xs) ∧ ∃ m', m' < l.length - j ∧ (∃ (j' : Nat) (xs' : List V), m' = l.length - j' ∧ j' ≤ l.length ∧ ([some (.ref o), some (.ref L)] : L2.St) = [some (.ref o), some (.ref L)] ∧ KeepO o H (upd H3 L (.lst (xs ++ [x]))) ∧ RAt C (upd H3 L (.lst (xs ++ [x]))) o r ts (i + ((l.take j').map (·.2)).flatten.length) ∧ upd H3 L (.lst (xs ++ [x])) L = some (.lst xs') ∧ Td.Ats (upd H3 L (.lst (xs ++ [x]))) (Ty.Ds ((l.take j').map (·.1))) xs' ∧ xs'.length = j') := fun x H3 k3 RA3 ax => by
      have eL3 := k3 _ _ nLo eL
      refine ⟨eL3, l.length - (j + 1), by omega, j + 1, xs ++ [x], rfl, c, rfl, ?_, ?_, upd_same, ?_, by rw [List.length_append, hxl]; rfl⟩
      · intro b u nb hb
        rw [upd_ne (fun z => by rw [z, hL] at hb; cases hb)]
        exact k3 _ _ nb (k2 _ _ nb hb)
      · rw [List.take_add_one, List.getElem?_eq_getElem c, List.map_append, List.flatten_append, List.length_append]
        show RAt C _ o r ts (i + (((l.take j).map (·.2)).flatten.length + (l[j].2 ++ []).length))
        rw [List.append_nil, ← Nat.add_assoc]
        exact RA3.off eL3 nLr _
      · rw [List.take_add_one, List.getElem?_eq_getElem c, List.map_append, ds_map, List.map_append, ← ds_map]
        exact ats_app ((aL.keep (RA2.tk k3)).keep (tk_list eL3)) (ats_one (ax.keep (tk_list eL3)))
    refine ⟨_, rfl, o, dx, _, rfl, h1, rfs_no _ _ m3.1 m3.2, o, r, ts, _, t0, rfl, RA2, ht0, ?_⟩
    refine ⟨by show 2 ≤ sizeLine; decide, fun tt htt => ⟨tt, _, rfl, .inr (SqT.of upd_same), rfl, rfl, _, rfl, ?_⟩⟩
    have s3 := same_new htt (.tup [.str "name", .str "con"])
    have eL3 := s3 _ _ eL
    have RA3 := RA2.same s3
    obtain ⟨dx3, l3, g1, g2, g3⟩ := id RA3.ex
    show if inV (.str t0.1) (([("name" : Str), "con"]).map V.str) = true then _ else _
    rw [Lay.inV_strs]
    by_cases c2 : t0.1 ∈ [("name" : Str), "con"]
    · rw [decide_eq_true c2]
      refine iteT (iteT ?_)
      refine ⟨_, fun _ _ h => h, ?_⟩
      refine ⟨_, rfl, .inl ⟨rfl, _, SqL.of eL3⟩, ?_⟩
      refine ⟨_, rfl, o, r, ts, _, e, l[j].1, l[j].2, _, rfl, RA3, ha3, hq, hed, hwl2, fun x H4 k4 RA4 ax => ?_⟩
      obtain ⟨w1, w2⟩ := go x H4 ((KeepO.same s3).trans k4) RA4 ax
      exact ⟨L, _, _, rfl, rfl, w1, szl (by have := szs_len2 hrd; omega), w2⟩
    · rw [decide_eq_false c2]
      refine iteF ?_
      refine ⟨_, rfl, o, dx3, _, rfl, g1, rfs_no _ _ m2.1 m2.2, o, r, ts, _, t0, rfl, RA3, ht0, rfl, _, rfl, ?_⟩
      have e4 : t0.2.1 = "(" := by
        rcases hk with z | z | z
        · exact absurd (by rw [k1, z]; decide +kernel) c2
        · exact absurd (by rw [k1, z]; decide +kernel) c2
        · rw [k2', z]
      show if decide (V.str t0.2.1 = V.str "(") = true then _ else _
      rw [e4, wtt]
      refine iteT ?_
      refine ⟨_, fun _ _ h => h, ?_⟩
      refine ⟨_, rfl, .inl ⟨rfl, _, SqL.of eL3⟩, ?_⟩
      refine ⟨_, rfl, o, r, ts, _, e, l[j].1, l[j].2, _, rfl, RA3, ha3, hq, hed, hwl2, fun x H4 k4 RA4 ax => ?_⟩
      obtain ⟨w1, w2⟩ := go x H4 ((KeepO.same s3).trans k4) RA4 ax
      exact ⟨L, _, _, rfl, rfl, w1, szl (by have := szs_len2 hrd; omega), w2⟩
  · have hjl : j = l.length := by omega
    subst hjl
    rw [List.drop_length] at ha3
    obtain ⟨t0, ht0, k1, k2', _⟩ := Ahead.front (ws := rest) (q := f) ha3
    refine ⟨_, rfl, o, dx, _, rfl, h1, rfs_no _ _ m3.1 m3.2, o, r, ts, _, t0, rfl, RA2, ht0, ?_⟩
    refine ⟨by show 2 ≤ sizeLine; decide, fun tt htt => ⟨tt, _, rfl, .inr (SqT.of upd_same), rfl, rfl, _, rfl, ?_⟩⟩
    have s3 := same_new htt (.tup [.str "name", .str "con"])
    have eL3 := s3 _ _ eL
    have RA3 := RA2.same s3
    obtain ⟨dx3, l3, g1, g2, g3⟩ := id RA3.ex
    show if inV (.str t0.1) (([("name" : Str), "con"]).map V.str) = true then _ else _
    rw [Lay.inV_strs, decide_eq_false (show t0.1 ∉ [("name" : Str), "con"] from fun z => by
      rw [k1] at z
      simp only [List.mem_cons, List.not_mem_nil, or_false] at z
      exact z.elim hns.1 hns.2.1)]
    refine iteF ?_
    refine ⟨_, rfl, o, dx3, _, rfl, g1, rfs_no _ _ m2.1 m2.2, o, r, ts, _, t0, rfl, RA3, ht0, rfl, _, rfl, ?_⟩
    show if decide (V.str t0.2.1 = V.str "(") = true then _ else _
    rw [wne (show ¬ t0.2.1 = "(" by rw [k2']; exact hns.2.2)]
    refine iteF ?_
    rw [List.take_length] at aL RA3
    refine ⟨_, rfl, L, xs, rfl, .inl ⟨SqL.of eL3, fun t5 ht5 => ?_⟩⟩
    have s5 := same_new ht5 (.tup xs)
    exact q _ _ (k2.trans (KeepO.same (sameT s3 s5))) (RA3.same s5) ⟨t5, xs, rfl, upd_same, aL.keep (tk_same (sameT s3 s5))⟩
abbrev sPlain : Stmt := topS 15
theorem scPlain : FnScope ["reader", "name"] ["reader"] (defScope sPlain) := ⟨rfl, rfl, rfl, by decide +kernel, rfl, by decide +kernel, by decide +kernel⟩
theorem c_plain {f : Addr} {fd : FuncData} {d : Nat} (cfront_kind : C8.Met P w K mg base 1 C "front_kind" (spFront C fun t => t.1) []) (ctake : C8.Met P w K mg base 2 C "take" (spTake C) []) (c_read_small : C8.Cal P w K mg base (4 * d + 5) "_read_small" (spSmall C (d + 1)) []) (cread_smalls : C8.Cal P w K mg base (4 * d + 6) "read_smalls" (spSmalls C (d + 1)) []) (F : Fun K "_read_plain" "_read_plain" sPlain f fd) (b : Binds K fd ["reader"] []) (hm : mg "_read_plain" = some (.ref f)) : C8.Cal P w K mg base (4 * d + 7) "_read_plain" (spPlain C (d + 1)) [] := by
  refine cal_of F hm b scPlain (fun vs H Q E h => ?_) (fun cdv A outer s H vs Q E hr h => ?_)
  · obtain ⟨o, r, ts, i, e, t, ws, f, rest, rfl, _⟩ := h
    rfl
  obtain ⟨o, r, ts, i, e, t, ws, f, rest, rfl, RA, ha, hns, hrd, hed, hwl, q⟩ := h
  obtain ⟨m1, m2, m3, m4, m5, m6, m7⟩ := rmeths
  obtain ⟨dx, l1, h1, h2, h3⟩ := id RA.ex
  refine ⟨_, (pss_cons (ps_if (pt_cmpR op_eq (C8.pe_mt0 cfront_kind hr (by omega) (pv 0)) pe_str (nomark _))
      (pss_cons (ps_set (i := 1) scPlain.nd rfl (Or.inl rfl) (C8.pe_mt ctake hr (by omega) (pv 0) (pa_cons pe_str pa_nil)))
    (pss_one (ps_ret (pe_tup (pa_cons pe_str (pa_cons (pv 1) (pa_cons (C8.pe_c cread_smalls hr (by omega) rfl (pa_cons (pv 0) pa_nil)) pa_nil)))))))
      pss_nil)
    (pss_one (ps_ret (C8.pe_c c_read_small hr (by omega) rfl (pa_cons (pv 0) pa_nil))))), ?_⟩
  rcases hrd.plain (Nat.le_refl _) (fun _ _ _ => rfl) with ⟨z, l, rfl, e1, hl⟩ | ⟨h2', q0, r0, e1, hq0⟩
  · have ha0 := ha
    rw [e1] at ha0
    obtain ⟨t0, ht0, k1, k2, ha1⟩ := Ahead.front (ws := (l.map (·.2)).flatten ++ f :: rest) (q := (("con", z) : W)) ha0
    refine ⟨_, rfl, o, dx, _, rfl, h1, rfs_no _ _ m3.1 m3.2, o, r, ts, i, t0, rfl, RA, ht0, rfl, _, rfl, ?_⟩
    show if decide (V.str t0.1 = V.str "con") = true then _ else _
    rw [k1, wtt]
    refine iteT ?_
    refine ⟨_, rfl, o, dx, _, rfl, h1, rfs_no _ _ m6.1 m6.2, o, r, ts, i, t0, by rw [k1]; rfl, RA, ht0, fun H1 RA1 kp1 => ?_⟩
    show gName 1 (V.str t0.2.1) _ _ _
    have hwl2 : (l.map (·.2)).flatten.length ≤ 1000 := by rw [e1, List.length_cons] at hwl; omega
    refine ⟨_, rfl, _, rfl, o, r, ts, i + 1, e, l, f, rest, rfl, RA1, ha1, hns, hl, hed, hwl2, fun v H2 kp2 RA2 av => ⟨by show 3 ≤ sizeLine; decide, fun p hp => ?_⟩⟩
    have s3 := same_new hp (.tup [.str "con", .str t0.2.1, v])
    rw [e1] at q
    refine q _ _ ((kp1.trans kp2).trans (KeepO.same s3)) ?_ ⟨p, _, rfl, upd_same, _, _, rfl, rfl, _, _, rfl, ?_, _, _, rfl, av.keep (tk_same s3), rfl⟩
    · rw [List.length_cons]
      exact (show i + ((l.map (·.2)).flatten.length + 1) = i + 1 + (l.map (·.2)).flatten.length by omega) ▸ RA2.same s3
    · show V.str t0.2.1 = V.str z
      rw [k2]
  · have ha0 := ha
    rw [e1] at ha0
    obtain ⟨t0, ht0, k1, k2, ha1⟩ := Ahead.front ha0
    refine ⟨_, rfl, o, dx, _, rfl, h1, rfs_no _ _ m3.1 m3.2, o, r, ts, i, t0, rfl, RA, ht0, rfl, _, rfl, ?_⟩
    show if decide (V.str t0.1 = V.str "con") = true then _ else _
    rw [wne (show ¬ t0.1 = "con" by rw [k1]; exact hq0)]
    refine iteF ?_
    exact ⟨_, rfl, o, r, ts, i, e, t, ws, _, rfl, RA, ha, h2', hed, hwl, q⟩
theorem sIx_m1 (n : Nat) : HT.sIx n n (some (-1)) = n - 1 := by
  cases n with
  | zero => rfl
  | succ n =>
    unfold HT.sIx
    simp
    omega
theorem cut_last (xs : List V) : cutV xs none (some (-1)) = xs.dropLast := by
  unfold cutV
  rw [HT.sIx_none, List.drop_zero, Nat.sub_zero, sIx_m1, List.dropLast_eq_take]
theorem Rend.ne {d n : Nat} {t : Ty} {ws : List W} (h : Rend d n t ws) : 1 ≤ ws.length := by
  cases h with
  | nm => exact Nat.le_refl _
  | con => exact Nat.succ_le_succ (Nat.zero_le _)
  | fn => rw [List.length_append, List.length_cons]; omega
  | par => exact Nat.succ_le_succ (Nat.zero_le _)
theorem ats_getI {H : Hp} : ∀ {l : List Td} {xs : List V} {i : Nat} {k : Td}, Td.Ats H l xs → l[i]? = some k → ∃ x, xs[i]? = some x ∧ k.At H x
  | [], _, i, x, h, e => by simp at e
  | k :: l, _, 0, x, ⟨y, ys, e, h, hs⟩, ex => by
    cases e
    cases ex
    exact ⟨y, rfl, h⟩
  | k :: l, _, i + 1, x, ⟨y, ys, e, h, hs⟩, ex => by
    cases e
    exact ats_getI (l := l) (i := i) hs ex
theorem ats_snoc {H : Hp} : ∀ {l : List Td} {k : Td} {xs : List V}, Td.Ats H (l ++ [k]) xs → ∃ ys y, xs = ys ++ [y] ∧ Td.Ats H l ys ∧ k.At H y
  | [], k, xs, ⟨x, ys, e, h, hs⟩ => by
    cases e
    cases (show ys = [] from hs)
    exact ⟨[], x, rfl, rfl, h⟩
  | t :: l, k, xs, ⟨x, ys, e, h, hs⟩ => by
    cases e
    obtain ⟨zs, y, e2, h2, h3⟩ := ats_snoc hs
    exact ⟨x :: zs, y, by rw [e2]; rfl, ⟨x, zs, rfl, h, h2⟩, h3⟩
theorem ds_snoc (l : List Ty) (a : Ty) : Ty.Ds (l ++ [a]) = Ty.Ds l ++ [a.D] := by
  rw [ds_map, ds_map, List.map_append]
  rfl
theorem fold_snoc (P : List Ty) (a b : Ty) : (P ++ [a]).foldr Ty.fn b = P.foldr Ty.fn (.fn a b) := by
  rw [List.foldr_append]
  rfl
abbrev sKind : Stmt := topS 14
theorem scKind : FnScope ["reader", "parts", "tree", "part"] ["reader"] (defScope sKind) := ⟨rfl, rfl, rfl, by decide +kernel, rfl, by decide +kernel, by decide +kernel⟩
theorem c_kind {f : Addr} {fd : FuncData} {d : Nat} (T : TxtP mg) (cskip_if : C8.Met P w K mg base 1 C "skip_if" (spSkipIf C) []) (c_read_plain : C8.Cal P w K mg base (4 * d + 7) "_read_plain" (spPlain C (d + 1)) []) (F : Fun K "read_kind" "read_kind" sKind f fd) (b : Binds K fd ["reader"] []) (hm : mg "read_kind" = some (.ref f)) : C8.Cal P w K mg base (4 * (d + 1) + 4) "read_kind" (spKind C (d + 1)) [] := by
  refine cal_of F hm b scKind (fun vs H Q E h => ?_) (fun cdv A outer s H vs Q E hr h => ?_)
  · obtain ⟨o, r, ts, i, e, t, ws, f, rest, rfl, _⟩ := h
    rfl
  obtain ⟨o, r, ts, i, e, t, ws, f, rest, rfl, RA, ha, hns, hna, hrd, hed, hwl, q⟩ := h
  obtain ⟨m1, m2, m3, m4, m5, m6, m7⟩ := rmeths
  have harr : NotSmall (("sign", "->") : W) := ⟨by show ("sign" : Str) ≠ "name"; decide +kernel, by show ("sign" : Str) ≠ "con"; decide +kernel, by show ("->" : Str) ≠ "("; decide +kernel⟩
  refine ⟨_, (pss_cons (ps_set (i := 1) scKind.nd rfl (Or.inl rfl) (pe_lst (pa_cons (C8.pe_c c_read_plain hr (by omega) rfl (pa_cons (pv 0) pa_nil)) pa_nil)))
    (pss_cons (ps_while PassesOwn.never (pt_val (C8.pe_mt cskip_if hr (by omega) (pv 0) (pa_cons pe_str pa_nil)))
      (pss_one (ps_expr (pe_bm PySem.F.plainAttrs_list PySem.F.slot_list_append PySem.F.type_list_append mt_append (pv 1) (pa_cons (C8.pe_c c_read_plain hr (by omega) rfl (pa_cons (pv 0) pa_nil)) pa_nil)))))
    (pss_cons (ps_set (i := 2) scKind.nd rfl (Or.inl rfl) (pe_ix ix_list (pv 1) (pe_un un_neg pe_int) (fun _ _ => rfl)))
    (pss_cons (ps_for PassesOwn.never rfl (RT.pi_revA rfl T.zreversed (pe_slice sl_list (pv 1) po_none (po_some (pe_un un_neg pe_int)))) (pg_name (i := 3) scKind.nd rfl (Or.inl rfl))
      (pss_one (ps_set (i := 2) scKind.nd rfl (Or.inl rfl) (pe_tup (pa_cons pe_str (pa_cons (pv 3) (pa_cons (pv 2) pa_nil)))))))
    (pss_one (ps_ret (pv 2))))))), ?_⟩
  -- what is ahead: a plain part, then an arrow and more, or the end
  have first : ∀ (u : Ty) (k : Nat) (wu : List W), Rend e 0 u wu → Ahead ts k (wu ++ f :: rest) → ∃ (a : Ty) (wa : List W) (g : W) (rs : List W), Rend e 1 a wa ∧ Ahead ts k (wa ++ g :: rs) ∧ NotSmall g ∧ wa.length ≤ wu.length ∧ ((u = a ∧ g = f ∧ rs = rest ∧ wu = wa) ∨ ∃ (b : Ty) (wb : List W), u = .fn a b ∧ g = (("sign", "->") : W) ∧ rs = wb ++ f :: rest ∧ Rend e 0 b wb ∧ wu = wa ++ (("sign", "->") : W) :: wb) := by
    intro u k wu hu hk
    rcases hu.split rfl with h | ⟨a, b, wa, wb, rfl, rfl, h, h'⟩
    · exact ⟨u, wu, f, rest, h, hk, hns, Nat.le_refl _, .inl ⟨rfl, rfl, rfl, rfl⟩⟩
    · rw [List.append_assoc] at hk
      exact ⟨a, wa, _, _, h, hk, harr, by rw [List.length_append]; omega, .inr ⟨b, wb, rfl, rfl, rfl, h', rfl⟩⟩
  obtain ⟨a, wa, g, rs, ha1, ha2, ha3, ha4, ha5⟩ := first t i ws hrd ha
  refine ⟨_, rfl, o, r, ts, i, e, a, wa, g, rs, rfl, RA, ha2, ha3, ha1, hed, by omega, fun v1 H1 k1 RA1 av1 => ⟨by show 1 ≤ sizeLine; decide, fun L hL => ?_⟩⟩
  have s1 := same_new hL (.lst [v1])
  have nLo := RA1.new hL
  have nLr : L ≠ r := fun z => by
    obtain ⟨dx, l, h1, h2, h3⟩ := RA1.ex
    rw [z, h2] at hL
    cases hL
  show gName 1 (V.ref L) _ _ _
  refine ⟨fun m σ H2 => ∃ (P : List Ty) (xs : List V) (k : Nat), m = i + ws.length - k ∧ σ = [some (.ref o), some (.ref L), none, none] ∧ KeepO o H1 H2 ∧ RAt C H2 o r ts k ∧ H2 L = some (.lst xs) ∧ Td.Ats H2 (Ty.Ds P) xs ∧ P.length + i ≤ k ∧ k ≤ i + ws.length ∧ 0 < P.length ∧
    ((Ahead ts k (f :: rest) ∧ (∃ P' a, P = P' ++ [a] ∧ t = P'.foldr Ty.fn a) ∧ k = i + ws.length) ∨ ∃ b wb, Ahead ts k ((("sign", "->") : W) :: (wb ++ f :: rest)) ∧ Rend e 0 b wb ∧ t = P.foldr Ty.fn b ∧ k + 1 + wb.length = i + ws.length), ?_, ?_⟩
  · have hwa := ha1.ne
    refine ⟨_, [a], [v1], i + wa.length, rfl, rfl, KeepO.same s1, RA1.same s1, upd_same, ⟨v1, [], rfl, av1.keep (tk_same s1), rfl⟩, by show 1 + i ≤ _; omega, by omega, Nat.zero_lt_one, ?_⟩
    rcases ha5 with ⟨rfl, rfl, rfl, rfl⟩ | ⟨b, wb, rfl, rfl, rfl, hb, rfl⟩
    · exact .inl ⟨Ahead.more ha2, ⟨[], t, rfl, rfl⟩, rfl⟩
    · exact .inr ⟨b, wb, Ahead.more ha2, hb, rfl, by rw [List.length_append, List.length_cons]; omega⟩
  rintro m σ H2 ⟨P, xs, k, rfl, rfl, k2, RA2, eL, aL, hPk, hk, hP0, hst⟩
  obtain ⟨dx, l2, h1, h2, h3⟩ := id RA2.ex
  have hxl := ats_len aL
  rw [ds_map, List.length_map] at hxl
  rcases hst with ⟨hend, ⟨P', a', rfl, ht⟩, hkk⟩ | ⟨b, wb, hmid, hb, ht, hkk⟩
  · obtain ⟨t0, ht0, k1', k2', _⟩ := Ahead.front hend
    refine ⟨_, rfl, o, dx, _, rfl, h1, rfs_no _ _ m5.1 m5.2, o, r, ts, k, t0, "->", rfl, RA2, ht0, fun z => absurd (by rw [← k2']; exact z) hna, fun _ => ⟨_, rfl, ?_⟩⟩
    refine iteF ?_
    rw [ds_snoc] at aL
    obtain ⟨ys, y, rfl, aP, aa⟩ := ats_snoc aL
    have hyl := ats_len aP
    rw [ds_map, List.length_map] at hyl
    refine ⟨_, rfl, _, rfl, L, _, _, _, rfl, rfl, SqL.of eL, atI_last _ _, ?_⟩
    show gName 2 y _ _ _
    refine ⟨_, rfl, _, rfl, _, rfl, L, _, rfl, SqL.of eL, fun L2 hL2 => ?_⟩
    rw [cut_last, List.dropLast_concat]
    have s3 := same_new hL2 (.lst ys)
    have e3 : upd H2 L2 (.lst ys) L2 = some (.lst ys) := upd_same
    have n2o := RA2.new hL2
    have RA3 := RA2.same s3
    have aP3 := aP.keep (tk_same s3)
    have aa3 := aa.keep (tk_same s3)
    generalize upd H2 L2 (.lst ys) = H3 at s3 e3 RA3 aP3 aa3 ⊢
    refine ⟨L2, _, rfl, .inl ⟨SqL.of e3, RT.for_Itv (K := K) (xs := ys) (fun j σ G => Same H3 G ∧ ∃ (v2 : V) (v3 : Option V), σ = [some (.ref o), some (.ref L), some v2, v3] ∧ ((P'.drop (P'.length - j)).foldr Ty.fn a').D.At G v2) ⟨fun _ _ h => h, y, none, rfl, by rw [Nat.sub_zero, List.drop_length]; exact aa3⟩ (fun j σ G ⟨h, _⟩ => SqL.of (h _ _ e3)) ?_ ?_⟩⟩
    · rintro j x σ G hj hx ⟨sG, v2, v3, rfl, av⟩
      rw [hyl] at hj hx
      obtain ⟨kk, hk1, hk2⟩ := ats_get aP3 hx
      rw [ds_map, List.getElem?_map] at hk1
      obtain ⟨b, hb1, rfl⟩ := Option.map_eq_some_iff.mp hk1
      refine ⟨_, rfl, _, rfl, by show 3 ≤ sizeLine; decide, fun p hp => ?_⟩
      have s5 := same_new hp (.tup [.str "fun", x, v2])
      refine ⟨sameT sG s5, _, _, rfl, ?_⟩
      have hlt : P'.length - 1 - j < P'.length := by omega
      have ed : P'.drop (P'.length - (j + 1)) = b :: P'.drop (P'.length - j) := by
        rw [show P'.length - (j + 1) = P'.length - 1 - j by omega, List.drop_eq_getElem_cons hlt]
        rw [List.getElem?_eq_getElem hlt] at hb1
        rw [Option.some.inj hb1, show P'.length - 1 - j + 1 = P'.length - j by omega]
      rw [ed]
      exact ⟨p, _, rfl, upd_same, _, _, rfl, rfl, _, _, rfl, (hk2.keep (tk_same (sameT sG s5))), _, _, rfl, av.keep (tk_same s5), rfl⟩
    rintro σ G ⟨sG, v2, v3, rfl, av⟩
    rw [hyl, Nat.sub_self, List.drop_zero, ← ht] at av
    refine ⟨_, rfl, q v2 G ?_ ?_ av⟩
    · exact k1.trans (k2.trans (KeepO.same (sameT s3 sG)))
    · rw [hkk] at RA3
      exact RA3.same sG
  · obtain ⟨t0, ht0, k1', k2', hah⟩ := Ahead.front hmid
    refine ⟨_, rfl, o, dx, _, rfl, h1, rfs_no _ _ m5.1 m5.2, o, r, ts, k, t0, "->", rfl, RA2, ht0, fun _ H3 RA3 k3 => ⟨_, rfl, ?_⟩, fun z => absurd k2' z⟩
    refine iteT ?_
    refine ⟨_, fun _ _ h => h, ?_⟩
    have eL3 := k3 _ _ nLo eL
    refine ⟨_, rfl, .inl ⟨rfl, _, SqL.of eL3⟩, ?_⟩
    obtain ⟨a2, wa2, g2, rs2, hb1, hb2, hb3, hb4, hb5⟩ := first b (k + 1) wb hb hah
    have hwa := hb1.ne
    refine ⟨_, rfl, o, r, ts, k + 1, e, a2, wa2, g2, rs2, rfl, RA3, hb2, hb3, hb1, hed, by omega, fun v4 H4 k4 RA4 av4 => ?_⟩
    have eL4 := k4 _ _ nLo eL3
    refine ⟨L, _, _, rfl, rfl, eL4, szl (by omega), i + ws.length - (k + 1 + wa2.length), by omega, P ++ [a2], xs ++ [v4], k + 1 + wa2.length, rfl, rfl, ?_, RA4.off eL4 nLr _, upd_same, ?_, by rw [List.length_append]; show P.length + 1 + i ≤ _; omega, by omega, by rw [List.length_append]; exact Nat.succ_pos _, ?_⟩
    · intro c u nc hc
      rw [upd_ne (fun z => by rw [z, hL] at hc; cases hc)]
      exact k4 _ _ nc (k3 _ _ nc (k2 _ _ nc hc))
    · rw [ds_snoc]
      exact ats_app ((aL.keep ((RA2.tk k3).trans (RA3.tk k4))).keep (tk_list eL4)) (ats_one (av4.keep (tk_list eL4)))
    · rcases hb5 with ⟨rfl, rfl, rfl, rfl⟩ | ⟨b', wb', rfl, rfl, rfl, hb', rfl⟩
      · exact .inl ⟨Ahead.more hb2, ⟨P, b, rfl, ht⟩, hkk⟩
      · exact .inr ⟨b', wb', Ahead.more hb2, hb', by rw [fold_snoc]; exact ht, by rw [List.length_append, List.length_cons] at hkk; omega⟩
end
end Toy

set_option Elab.async false
set_option linter.all false
set_option maxRecDepth 100000
set_option maxHeartbeats 4000000
/-! Part N: a text is read. -/
namespace Toy
open PySem L2
open PyProof.Rows (envOfC)
theorem cal_none {P : Program} {w : World} {K : PySem.W.Frag} {mg : Str → Option Value} {base : Heap} {x : Str} {st : Stmt} {f : Addr} {fd : FuncData} {ps : List Str} {k : Nat} {sp : Sp} (F : Fun K x x st f fd) (hm : mg x = some (.ref f)) (b : Binds K fd ps []) (no : ∀ vs H Q E, ¬ sp vs H Q E) : C8.Cal P w K mg base k x sp [] :=
  ⟨f, fd, ps, [], ⟨fun vs H Q E h => (no _ _ _ _ h).elim, fun A outer s H args us vs Q E hr e0 hb r hsp => (no _ _ _ _ hsp).elim⟩, hm, F.kp, b, .nil⟩
theorem c_kinds {P : Program} {w : World} {K : PySem.W.Frag} {mg : Str → Option Value} {base : Heap} {C f1 f2 f3 f4 : Addr} {d1 d2 d3 d4 : FuncData} (T : TxtR K C) (TP : TxtP mg) (cfront_kind : C8.Met P w K mg base 1 C "front_kind" (spFront C fun t => t.1) []) (cfront : C8.Met P w K mg base 1 C "front" (spFront C fun t => t.2.1) []) (ctake : C8.Met P w K mg base 2 C "take" (spTake C) []) (cskip : C8.Met P w K mg base 2 C "skip" (spSkip C) []) (cskip_if : C8.Met P w K mg base 1 C "skip_if" (spSkipIf C) [])
    (F1 : Fun K "_read_small" "_read_small" sSmall f1 d1) (b1 : Binds K d1 ["reader"] []) (m1 : mg "_read_small" = some (.ref f1))
    (F2 : Fun K "read_smalls" "read_smalls" sSmalls f2 d2) (b2 : Binds K d2 ["reader"] []) (m2 : mg "read_smalls" = some (.ref f2))
    (F3 : Fun K "_read_plain" "_read_plain" sPlain f3 d3) (b3 : Binds K d3 ["reader"] []) (m3 : mg "_read_plain" = some (.ref f3))
    (F4 : Fun K "read_kind" "read_kind" sKind f4 d4) (b4 : Binds K d4 ["reader"] []) (m4 : mg "read_kind" = some (.ref f4)) : ∀ d : Nat, C8.Cal P w K mg base (4 * d + 4) "read_kind" (spKind C d) []
  | 0 => cal_none F4 m4 b4 fun vs H Q E h => by
    obtain ⟨o, r, ts, i, e, t, ws, f, rest, _, _, _, _, _, _, h, _⟩ := h
    exact Nat.not_lt_zero _ h
  | d + 1 => by
    have h := c_kinds T TP cfront_kind cfront ctake cskip cskip_if F1 b1 m1 F2 b2 m2 F3 b3 m3 F4 b4 m4 d
    have s := c_small T cfront_kind ctake cskip h F1 b1 m1
    exact c_kind TP cskip_if (c_plain cfront_kind ctake s (c_smalls TP cfront_kind cfront s F2 b2 m2) F3 b3 m3) F4 b4 m4
/-! ### the layout of such a row is the row -/
def toI (t : Tk) : Lay.Tk := (t.1, t.2.1, (t.2.2.1 : Int), (t.2.2.2 : Int))
theorem toks_i {H : Hp} {l : List Addr} {ts : List Tk} (h : Toks H l ts) : Lay.Toks H l (ts.map toI) := by
  induction h with
  | nil => exact .nil
  | cons h _ ih => exact .cons h ih
def Marks (st : List Lay.Ctx) : Prop := ∀ c ∈ st, ∃ s, c = .marker s
theorem close_marks (t : Lay.Tk) : ∀ {st : List Lay.Ctx} (out : List Lay.Tk), Marks st → Lay.closeTop t st out = (st, out)
  | [], _, _ => rfl
  | .marker _ :: _, _, _ => rfl
  | .block y :: _, _, h => by obtain ⟨s, e⟩ := h _ (List.mem_cons_self ..); cases e
theorem first_marks (t : Lay.Tk) : ∀ {st : List Lay.Ctx} (out : List Lay.Tk), Marks st → Lay.firstOf t st out = (st, out)
  | [], _, _ => rfl
  | .marker _ :: _, _, _ => rfl
  | .block y :: _, _, h => by obtain ⟨s, e⟩ := h _ (List.mem_cons_self ..); cases e
theorem end_marks (t : Lay.Tk) : ∀ {st : List Lay.Ctx} (out : List Lay.Tk), Marks st → Lay.endAll t st out = out
  | [], _, _ => rfl
  | .marker _ :: st, out, h => end_marks (st := st) t out fun c hc => h c (List.mem_cons_of_mem _ hc)
  | .block y :: _, _, h => by obtain ⟨s, e⟩ := h _ (List.mem_cons_self ..); cases e
def lw : List Str := [("->" : Str), "(", ")", ""] ++ (KNAMES ++ KCONS)
theorem lw_ok : ∀ z ∈ lw, z ≠ "," ∧ z ≠ "then" := by decide +kernel
theorem upto_marks {ms : List Str} {t : Lay.Tk} {s : Lay.LS} (h : Marks s.1) : (Lay.upTo ms t s).1 = s := by
  unfold Lay.upTo
  split
  · split
    · show Lay.closeTop t s.1 s.2 = s
      exact close_marks t s.2 h
    · rfl
  · rfl
theorem meet_marks {t : Lay.Tk} {s : Lay.LS} (h : Marks s.1) (hw : t.2.1 ∈ lw) : Marks (Lay.meet t s).1 ∧ (Lay.meet t s).2 = s.2 ++ [t] := by
  obtain ⟨w1, w2⟩ := lw_ok _ hw
  have e1 : Lay.effComma t s = s := if_neg w1
  have e2 : Marks (Lay.effClose t s).1 ∧ (Lay.effClose t s).2 = s.2 := by
    unfold Lay.effClose
    split
    · next m _ =>
      have u := upto_marks (ms := [m]) (t := t) h
      dsimp only
      rw [if_neg w2]
      split
      · rw [u]
        exact ⟨fun c hc => h c (List.mem_of_mem_tail hc), rfl⟩
      · rw [u]
        exact ⟨h, rfl⟩
    · exact ⟨h, rfl⟩
  have e3 : Marks (Lay.effOpen t (Lay.effClose t s)).1 ∧ (Lay.effOpen t (Lay.effClose t s)).2 = s.2 := by
    unfold Lay.effOpen
    split
    · refine ⟨fun c hc => ?_, e2.2⟩
      rcases List.mem_cons.mp hc with z | z
      · exact ⟨_, z⟩
      · exact e2.1 c z
    · exact e2
  unfold Lay.meet
  rw [e1]
  exact ⟨e3.1, congrArg (· ++ [t]) e3.2⟩
theorem step_marks {t : Lay.Tk} {last : Int} {s : Lay.LS} (h : Marks s.1) (hw : t.2.1 ∈ lw) : Marks (Lay.step false last t s).1 ∧ (Lay.step false last t s).2 = s.2 ++ [t] := by
  have eo : Lay.opened false t s = (s, false) := if_neg fun z => Bool.noConfusion z.1
  unfold Lay.step Lay.pre
  rw [eo]
  split
  · show Marks (Lay.meet t ([], Lay.endAll t s.1 s.2)).1 ∧ _
    rw [end_marks t s.2 h]
    exact meet_marks (s := ([], s.2)) (fun c hc => by cases hc) hw
  · split
    · show Marks (Lay.meet t (Lay.firstOf t s.1 s.2)).1 ∧ (Lay.meet t (Lay.firstOf t s.1 s.2)).2 = _
      rw [first_marks t s.2 h]
      exact meet_marks h hw
    · exact meet_marks h hw
theorem run_marks : ∀ {ts : List Lay.Tk} {last : Int} {s : Lay.LS}, Marks s.1 → (∀ t ∈ ts, t.2.1 ∈ lw ∧ t.1 ≠ "keyword") → (Lay.run false last ts s).2 = s.2 ++ ts
  | [], _, s, _, _ => (List.append_nil _).symm
  | t :: ts, last, s, h, hw => by
    obtain ⟨w1, w2⟩ := hw t (List.mem_cons_self ..)
    obtain ⟨h1, h2⟩ := step_marks (last := last) h w1
    have ee : Lay.expects t = false := by
      unfold Lay.expects
      rw [decide_eq_false w2, Bool.false_and]
    show (Lay.run (Lay.expects t) t.2.2.1 ts (Lay.step false last t s)).2 = _
    rw [ee, run_marks h1 fun x hx => hw x (List.mem_cons_of_mem _ hx), h2, List.append_assoc]
    rfl
theorem wok_lw {q : W} (h : wOk q) : q.2 ∈ lw ∧ q.1 ≠ "keyword" := by
  have k1 : ∀ z ∈ KNAMES, z ∈ lw := fun z hz => List.mem_append_right _ (List.mem_append_left _ hz)
  have k2 : ∀ z ∈ KCONS, z ∈ lw := fun z hz => List.mem_append_right _ (List.mem_append_right _ hz)
  rcases h with rfl | rfl | rfl | ⟨h1, h2⟩ | ⟨h1, h2⟩
  · exact ⟨by decide +kernel, by show ("sign" : Str) ≠ "keyword"; decide +kernel⟩
  · exact ⟨by decide +kernel, by show ("sign" : Str) ≠ "keyword"; decide +kernel⟩
  · exact ⟨by decide +kernel, by show ("sign" : Str) ≠ "keyword"; decide +kernel⟩
  · exact ⟨k1 _ h2, by rw [h1]; decide +kernel⟩
  · exact ⟨k2 _ h2, by rw [h1]; decide +kernel⟩
/-- the tokens of such a text -/
theorem tx_toks {d n : Nat} {t : Ty} {c : Cs} (h : TX d n t c) : ∃ (ws : List W) (ts : List Tk), Lex c 1 1 ts ∧ Rend d n t ws ∧ Ahead (ts.map toI) 0 (ws ++ [(("end", "") : W)]) ∧ (∀ x ∈ ts.map toI, x.2.1 ∈ lw ∧ x.1 ≠ "keyword" ∧ Lay.Wf x) ∧ ts.length ≤ c.length + 1 := by
  obtain ⟨ws, h1, h2, h3, h4⟩ := h
  obtain ⟨us, e1, e2, e3⟩ := h1 [] 1 1 [("end", "", (c.foldl adv (1, 1)).1, (c.foldl adv (1, 1)).2)] (Nat.le_refl _) (fun x r e => by cases e) Lex.done
  rw [List.append_nil] at e3
  refine ⟨ws, _, e3, h2, ?_, ?_, ?_⟩
  · show ((us ++ _).map toI).map wd = _
    rw [List.map_append, List.map_append, List.map_map]
    congr 1
  · intro x hx
    obtain ⟨y, hy, rfl⟩ := List.mem_map.mp hx
    rcases List.mem_append.mp hy with z | z
    · have hw := wok_lw (h3 (y.1, y.2.1) (by rw [← e1]; exact List.mem_map.mpr ⟨y, z, rfl⟩))
      refine ⟨hw.1, hw.2, ?_⟩
      have := e2 y z
      show (0 : Int) < (y.2.2.2 : Int)
      omega
    · rw [List.mem_singleton.mp z]
      refine ⟨by show ("" : Str) ∈ lw; decide +kernel, by show ("end" : Str) ≠ "keyword"; decide +kernel, ?_⟩
      have := adv_pos c 1 1 (Nat.le_refl _)
      show (0 : Int) < (((c.foldl adv (1, 1)).2 : Nat) : Int)
      omega
  · have e := congrArg List.length e1
    rw [List.length_map] at e
    rw [List.length_append]
    show us.length + 1 ≤ _
    omega
section
variable {P : Program} {w : World} {K : PySem.W.Frag} {mg : Str → Option Value} {base : Heap} {C : Addr}
abbrev sParse : Stmt := topS 49
theorem scParse : FnScope ["text", "reader", "tree"] ["text"] (defScope sParse) := ⟨rfl, rfl, rfl, by decide +kernel, rfl, by decide +kernel, by decide +kernel⟩
def spParse : Sp := fun vs H Q _ => ∃ (z : Str) (t : Ty), vs = [.str z] ∧ TX 5 0 t (cs z) ∧ z.length ≤ 500 ∧ ∀ (v : V) (H' : Hp), Same H H' → t.D.At H' v → Q v H'
theorem c_parse {f : Addr} {fd : FuncData} (ctokens : C8.Cal P w K mg base 4 "tokens" spTokens []) (clayout_in_braces : C8.Cal P w K mg base 6 "layout_in_braces" (Lay.spLayout K) []) (cReader : C8.Mak P w K mg base 1 "Reader" C (spRInit C) []) (cread_kind : C8.Cal P w K mg base (4 * 6 + 4) "read_kind" (spKind C 6) []) (ccheck_end : C8.Met P w K mg base 2 C "check_end" (spCheckEnd C) []) (F : Fun K "parse_kind" "parse_kind" sParse f fd) (b : Binds K fd ["text"] []) (hm : mg "parse_kind" = some (.ref f)) : C8.Cal P w K mg base 30 "parse_kind" spParse [] := by
  refine cal_of F hm b scParse (fun vs H Q E h => ?_) (fun cdv A outer s H vs Q E hr h => ?_)
  · obtain ⟨z, t, rfl, _⟩ := h
    rfl
  obtain ⟨z, t, rfl, htx, hz, q⟩ := h
  obtain ⟨ws, ts, hlex, hrd, hah, hts, hlen⟩ := tx_toks htx
  obtain ⟨m1, m2, m3, m4, m5, m6, m7⟩ := rmeths
  refine ⟨_, (pss_cons (ps_set (i := 1) scParse.nd rfl (Or.inl rfl) (C8.pe_mk cReader hr (by decide) rfl (pa_cons (C8.pe_c clayout_in_braces hr (by decide) rfl (pa_cons (C8.pe_c ctokens hr (by decide) rfl (pa_cons (pv 0) pa_nil)) pa_nil)) pa_nil)))
    (pss_cons (ps_set (i := 2) scParse.nd rfl (Or.inl rfl) (C8.pe_c cread_kind hr (by decide) rfl (pa_cons (pv 1) pa_nil)))
    (pss_cons (ps_expr (C8.pe_mt0 ccheck_end hr (by decide) (pv 1)))
    (pss_one (ps_ret (pv 2)))))), ?_⟩
  refine ⟨_, rfl, z, ts, rfl, by omega, hlex, fun p1 l1 H1 hp1 s1 e1 k1 => ?_⟩
  refine ⟨p1, l1, ts.map toI, rfl, SqL.of e1, toks_i k1, fun x hx => (hts x hx).2.2, by rw [List.length_map]; have : z.length = (cs z).length := rfl; omega, fun p2 l2 H2 hp2 s2 e2 k2 => ?_⟩
  have el : (Lay.run false 0 (ts.map toI) ([.marker "{"], [])).2 = ts.map toI := run_marks (s := ([.marker "{"], [])) (fun c hc => ⟨_, List.mem_singleton.mp hc⟩) fun x hx => ⟨(hts x hx).1, (hts x hx).2.1⟩
  rw [el] at k2
  refine fun o dx0 no ndx nex => ?_
  have s3 : Same H2 (upd (upd H2 dx0 (.own o)) o (.ins C dx0 [])) := fun b u e => by
    rw [upd_ne (ne_of_none e no), upd_ne (ne_of_none e ndx)]
    exact e
  refine ⟨o, dx0, p2, l2, ts.map toI, rfl, upd_same, s3 _ _ e2, k2.keep fun _ _ h => s3 _ _ h, fun H3 RA3 k3 => ⟨rfl, ?_⟩⟩
  show gName 1 (V.ref o) _ _ _
  have s123 : Same H H3 := fun b u e => k3 b u (ne_of_none (s2 _ _ (s1 _ _ e)) no) (s3 _ _ (s2 _ _ (s1 _ _ e)))
  have hwl : ws.length ≤ 1000 := by
    have e := congrArg List.length hah
    rw [List.length_map, List.length_append, List.length_drop, List.length_map] at e
    have e2 : z.length = (cs z).length := rfl
    have e3 : ([(("end", "") : W)]).length = 1 := rfl
    omega
  refine ⟨_, rfl, o, p2, ts.map toI, 0, 5, t, ws, _, [], rfl, RA3, hah, ⟨by show ("end" : Str) ≠ "name"; decide +kernel, by show ("end" : Str) ≠ "con"; decide +kernel, by show ("" : Str) ≠ "("; decide +kernel⟩, by show ("" : Str) ≠ "->"; decide +kernel, hrd, by decide, hwl, fun v H4 k4 RA4 av => ?_⟩
  show gName 2 v _ _ _
  obtain ⟨t9, ht9, k9, _, _⟩ := Ahead.front (Ahead.more hah)
  obtain ⟨dx, l, h1, h2, h3⟩ := id RA4.ex
  refine ⟨_, rfl, o, dx, _, rfl, h1, rfs_no _ _ m7.1 m7.2, o, p2, _, _, t9, rfl, RA4, ht9, k9, ⟨_, rfl, ?_⟩⟩
  refine q v H4 (fun b u e => k4 b u (ne_of_none (s2 _ _ (s1 _ _ e)) no) (s123 b u e)) av
end
end Toy

set_option Elab.async false
set_option linter.all false
set_option maxRecDepth 100000
set_option maxHeartbeats 4000000
/-! Part O: types printed. -/
namespace Toy
open PySem L2
open PyProof.Rows (envOfC)
theorem glue_cs : ∀ (ps : List Str) (acc : Array Nat), (ps.foldl (fun acc p => acc ++ (Str.empty).cps ++ p.cps) acc).toList = acc.toList ++ (ps.map cs).flatten
  | [], acc => by simp
  | p :: ps, acc => by
    rw [List.foldl_cons, glue_cs ps]
    have e : (acc ++ (Str.empty).cps ++ p.cps).toList = acc.toList ++ cs p := by
      show ((acc ++ #[]) ++ p.cps).toList = _
      simp
    rw [e, List.map_cons, List.flatten_cons, List.append_assoc]
theorem join_cs (ps : List Str) : cs (Txt.join "" ps) = (ps.map cs).flatten := by
  cases ps with
  | nil => rfl
  | cons p ps =>
    show (ps.foldl (fun acc p => acc ++ (Str.empty).cps ++ p.cps) p.cps).toList = _
    rw [glue_cs]
    rfl
theorem len_flat : ∀ ps : List Str, (ps.map (·.length)).sum = (ps.map cs).flatten.length
  | [] => rfl
  | p :: ps => by
    rw [List.map_cons, List.sum_cons, List.map_cons, List.flatten_cons, List.length_append, len_flat ps]
    rfl
theorem flat_le {n : Nat} : ∀ {ps : List Str}, (∀ p ∈ ps, p.length ≤ n) → (ps.map cs).flatten.length ≤ ps.length * n
  | [], _ => Nat.zero_le _
  | p :: ps, h => by
    have h1 := h p (List.mem_cons_self ..)
    have h2 := flat_le fun q hq => h q (List.mem_cons_of_mem _ hq)
    have e : p.length = (cs p).length := rfl
    rw [List.map_cons, List.flatten_cons, List.length_append, List.length_cons, Nat.succ_mul]
    omega
structure TxtJ (K : PySem.W.Frag) (mg : Str → Option Value) (aB aF : Addr) : Prop where
  gNO_SPACE_BEHIND : ∃ u, mg "NO_SPACE_BEHIND" = some u ∧ RelV (.ref aB) u
  gNO_SPACE_BEFORE : ∃ u, mg "NO_SPACE_BEFORE" = some u ∧ RelV (.ref aF) u
  kB : ∀ H : Hp, SqT K H aB (NSB.map V.str)
  kF : ∀ H : Hp, SqT K H aF (NSF.map V.str)
section
variable {P : Program} {w : World} {K : PySem.W.Frag} {mg : Str → Option Value} {base : Heap} {aB aF : Addr}
abbrev sJoined : Stmt := topS 8
theorem scJoined : FnScope ["words", "pieces", "before", "word"] ["words"] (defScope sJoined) := ⟨rfl, rfl, rfl, by decide +kernel, rfl, by decide +kernel, by decide +kernel⟩
def spJoined : Sp := fun vs H Q _ => ∃ (wa : Addr) (ws : List Str), vs = [.ref wa] ∧ H wa = some (.lst (ws.map V.str)) ∧ ws.length ≤ 1000 ∧ (∀ w ∈ ws, w.length ≤ 100) ∧ ∀ (z : Str) (H' : Hp), Same H H' → cs z = jC "(" ws → Q (.str z) H'
theorem c_joined {f : Addr} {fd : FuncData} (T : TxtJ K mg aB aF) (F : Fun K "_joined" "_joined" sJoined f fd) (b : Binds K fd ["words"] []) (hm : mg "_joined" = some (.ref f)) : C8.Cal P w K mg base 1 "_joined" spJoined [] := by
  refine cal_of F hm b scJoined (fun vs H Q E h => ?_) (fun cdv A outer s H vs Q E hr h => ?_)
  · obtain ⟨wa, ws, rfl, _⟩ := h
    rfl
  obtain ⟨wa, ws, rfl, hwa, hwl, hww, q⟩ := h
  refine ⟨_, (pss_cons (ps_set (i := 1) scJoined.nd rfl (Or.inl rfl) (pe_lst pa_nil))
    (pss_cons (ps_set (i := 2) scJoined.nd rfl (Or.inl rfl) pe_str)
    (pss_cons (ps_for PassesOwn.never rfl (pi_list (pv 0)) (pg_name (i := 3) scJoined.nd rfl (Or.inl rfl))
      (C8.pss_cut (ps_if (PW.pt (pw_and (pt_cmpR op_notIn_seq (pv 2) (C8.pe_gc rfl T.gNO_SPACE_BEHIND) rfl) (pw_and1 (pt_cmpR op_notIn_seq (pv 3) (C8.pe_gc rfl T.gNO_SPACE_BEFORE) rfl))))
      (pss_one (ps_expr (pe_bm PySem.F.plainAttrs_list PySem.F.slot_list_append PySem.F.type_list_append mt_append (pv 1) (pa_cons pe_str pa_nil))))
      pss_nil)
    (pss_cons (ps_expr (pe_bm PySem.F.plainAttrs_list PySem.F.slot_list_append PySem.F.type_list_append mt_append (pv 1) (pa_cons (pv 3) pa_nil)))
    (pss_one (ps_set (i := 2) scJoined.nd rfl (Or.inl rfl) (pv 3))))))
    (pss_one (ps_ret (pe_bm PySem.F.plainAttrs_str PySem.F.slot_str_join PySem.F.type_str_join mt_join pe_str (pa_cons (pv 1) pa_nil))))))), ?_⟩
  refine ⟨by show 0 ≤ sizeLine; decide, fun L hL => ?_⟩
  have s0 := same_new hL (.lst [])
  refine ⟨_, rfl, wa, rfl, ⟨_, SqL.of (s0 _ _ hwa)⟩, for_list (a := wa) (xs := ws.map V.str) (fun i σ G => ∃ (b : Str) (v3 : Option V) (ps : List Str), σ = [some (.ref wa), some (.ref L), some (.str b), v3] ∧ Same H G ∧ G L = some (.lst (ps.map V.str)) ∧ jC "(" ws = (ps.map cs).flatten ++ jC b (ws.drop i) ∧ ps.length ≤ 2 * i ∧ ∀ p ∈ ps, p.length ≤ 100)
    ⟨"(", none, [], rfl, s0, upd_same, rfl, Nat.le_refl _, fun p h => absurd h List.not_mem_nil⟩ (fun i σ G _ ⟨_, _, _, _, h, _⟩ => SqL.of (h _ _ hwa)) ?_ ?_⟩
  · rintro i x σ G hx ⟨b, v3, ps, rfl, sG, eL, hj, hpl, hpp⟩
    rw [List.getElem?_map] at hx
    obtain ⟨z, hz, rfl⟩ := Option.map_eq_some_iff.mp hx
    obtain ⟨hi, hz'⟩ := List.getElem?_eq_some_iff.mp hz
    have ed : ws.drop i = z :: ws.drop (i + 1) := by rw [List.drop_eq_getElem_cons hi, hz']
    have hzl := hww z (List.mem_of_getElem? hz)
    rw [ed] at hj
    have stepL : ∀ (p : Str) (xs : List Str), ((xs ++ [p]).map cs).flatten = (xs.map cs).flatten ++ cs p := fun p xs => by rw [List.map_append, List.flatten_append]; simp
    refine ⟨fun σ G1 => ∃ ps1 : List Str, σ = [some (.ref wa), some (.ref L), some (.str b), some (.str z)] ∧ Same H G1 ∧ G1 L = some (.lst (ps1.map V.str)) ∧ jC "(" ws = (ps1.map cs).flatten ++ (cs z ++ jC z (ws.drop (i + 1))) ∧ ps1.length ≤ 2 * i + 1 ∧ ∀ p ∈ ps1, p.length ≤ 100, ?_, ?_⟩
    · refine ⟨_, rfl, aB, _, rfl, .inr (T.kB _), rfl, Lay.strs_flat _, _, rfl, ?_⟩
      show if (!inV (.str b) (NSB.map V.str)) = true then _ else _
      rw [Lay.inV_strs]
      by_cases c1 : b ∈ NSB
      · rw [decide_eq_true c1]
        refine iteF (iteF ?_)
        refine ⟨ps, rfl, sG, eL, ?_, by omega, hpp⟩
        rw [hj]
        show _ ++ ((if b ∈ NSB ∨ z ∈ NSF then [] else [32]) ++ _) = _
        rw [if_pos (.inl c1)]
        rfl
      · rw [decide_eq_false c1]
        refine iteT ?_
        refine ⟨_, rfl, aF, _, rfl, .inr (T.kF _), rfl, Lay.strs_flat _, _, rfl, ?_⟩
        show if (!inV (.str z) (NSF.map V.str)) = true then _ else _
        rw [Lay.inV_strs]
        by_cases c2 : z ∈ NSF
        · rw [decide_eq_true c2]
          refine iteF ?_
          refine ⟨ps, rfl, sG, eL, ?_, by omega, hpp⟩
          rw [hj]
          show _ ++ ((if b ∈ NSB ∨ z ∈ NSF then [] else [32]) ++ _) = _
          rw [if_pos (.inr c2)]
          rfl
        · rw [decide_eq_false c2]
          refine iteT ?_
          refine ⟨_, rfl, .inl ⟨rfl, _, SqL.of eL⟩, L, _, _, rfl, rfl, eL, szl (by rw [List.length_map]; omega), ps ++ [(" " : Str)], rfl, same_upd hL sG _, by rw [upd_same, List.map_append]; rfl, ?_, by rw [List.length_append]; show ps.length + 1 ≤ _; omega, fun p hp => ?_⟩
          · rw [hj, stepL]
            show _ ++ ((if b ∈ NSB ∨ z ∈ NSF then [] else [32]) ++ _) = _
            rw [if_neg (fun z => z.elim c1 c2), show cs " " = [32] by decide +kernel, List.append_assoc]
          · rcases List.mem_append.mp hp with e | e
            · exact hpp p e
            · rw [List.mem_singleton.mp e]; decide +kernel
    rintro σ G1 ⟨ps1, rfl, s1, e1, j1, l1, p1⟩
    refine ⟨_, rfl, .inl ⟨rfl, _, SqL.of e1⟩, _, rfl, L, _, _, rfl, rfl, e1, szl (by rw [List.length_map]; omega), _, rfl, z, _, ps1 ++ [z], rfl, same_upd hL s1 _, by rw [upd_same, List.map_append]; rfl, ?_, by rw [List.length_append]; show ps1.length + 1 ≤ _; omega, fun p hp => ?_⟩
    · rw [j1, stepL, List.append_assoc]
    · rcases List.mem_append.mp hp with e | e
      · exact p1 p e
      · rw [List.mem_singleton.mp e]; exact hzl
  rintro σ G ⟨b, v3, ps, rfl, sG, eL, hj, hpl, hpp⟩
  have hf := flat_le hpp
  rw [List.length_map] at hj hpl
  rw [List.drop_length] at hj
  have hj : jC "(" ws = (ps.map cs).flatten ++ [] := hj
  rw [List.append_nil] at hj
  have hm2 : ps.length * 100 ≤ 2000 * 100 := Nat.mul_le_mul_right _ (by omega)
  refine ⟨rfl, _, rfl, "", L, ps, rfl, rfl, .inl (SqL.of eL), ?_, q _ G sG (by rw [join_cs, hj])⟩
  rw [len_flat]
  have e0 : ("" : Str).length = 0 := by decide +kernel
  rw [e0]
  omega
end
end Toy

set_option Elab.async false
set_option linter.all false
set_option maxRecDepth 100000
set_option maxHeartbeats 4000000
/-! Part P: the words of a type. -/
namespace Toy
open PySem L2
open PyProof.Rows (envOfC)
/-- what is still to be put in words -/
inductive Pt
  | w (s : Str)
  | t (k : Ty) (n : Nat)
mutual
def Ty.nds : Ty → Nat
  | .nm _ => 1
  | .con _ l => 1 + Ty.ndss l
  | .fn a b => 1 + (a.nds + b.nds)
def Ty.ndss : List Ty → Nat
  | [] => 0
  | t :: l => t.nds + Ty.ndss l
end
def Pt.kw : Pt → List Str
  | .w s => [s]
  | .t k n => k.kw n
def Pt.wt : Pt → Nat
  | .w _ => 1
  | .t k _ => 5 * k.nds
def wts : List Pt → Nat
  | [] => 0
  | p :: l => p.wt + wts l
theorem nds_pos : ∀ t : Ty, 1 ≤ t.nds
  | .nm _ => Nat.le_refl _
  | .con _ _ => Nat.le_add_right 1 _
  | .fn _ _ => Nat.le_add_right 1 _
theorem wts_app : ∀ a b : List Pt, wts (a ++ b) = wts a + wts b
  | [], b => (Nat.zero_add _).symm
  | t :: a, b => by
    show t.wt + wts (a ++ b) = t.wt + wts a + wts b
    rw [wts_app a b]
    omega
theorem wts_len : ∀ l : List Pt, l.length ≤ wts l
  | [] => Nat.le_refl _
  | p :: l => by
    have h1 := wts_len l
    have h2 : 1 ≤ p.wt := by
      cases p with
      | w s => exact Nat.le_refl _
      | t k n => have := nds_pos k; show 1 ≤ 5 * k.nds; omega
    show l.length + 1 ≤ p.wt + wts l
    omega
/-- how such a task stands -/
def Pt.At (H : Hp) : Pt → V → Prop
  | .w s, v => v = .str s
  | .t k n, v => ∃ a x, v = .ref a ∧ H a = some (.tup [x, .int (n : Int)]) ∧ k.D.At H x
def PtAts (H : Hp) : List Pt → List V → Prop
  | [], xs => xs = []
  | p :: l, xs => ∃ x ys, xs = x :: ys ∧ p.At H x ∧ PtAts H l ys
theorem Pt.At.keep {H H' : Hp} (k : TK H H') : ∀ {p : Pt} {v : V}, p.At H v → p.At H' v
  | .w _, _, h => h
  | .t _ _, _, ⟨a, x, e, h, hk⟩ => ⟨a, x, e, k _ _ h, hk.keep k⟩
theorem PtAts.keep {H H' : Hp} (k : TK H H') : ∀ {l : List Pt} {xs : List V}, PtAts H l xs → PtAts H' l xs
  | [], _, h => h
  | _ :: _, _, ⟨x, ys, e, h, hs⟩ => ⟨x, ys, e, h.keep k, PtAts.keep k hs⟩
theorem PtAts.app {H : Hp} : ∀ {l m : List Pt} {xs ys : List V}, PtAts H l xs → PtAts H m ys → PtAts H (l ++ m) (xs ++ ys)
  | [], _, _, _, h, k => by cases h; exact k
  | _ :: _, _, _, _, ⟨x, zs, e, h, hs⟩, k => by cases e; exact ⟨x, _, rfl, h, PtAts.app hs k⟩
theorem PtAts.one {H : Hp} {p : Pt} {v : V} (h : p.At H v) : PtAts H [p] [v] := ⟨v, [], rfl, h, rfl⟩
theorem PtAts.len {H : Hp} : ∀ {l : List Pt} {xs : List V}, PtAts H l xs → xs.length = l.length
  | [], _, h => by cases h; rfl
  | _ :: l, _, ⟨x, ys, e, h, hs⟩ => by cases e; show ys.length + 1 = l.length + 1; rw [PtAts.len hs]
theorem PtAts.rev {H : Hp} : ∀ {l : List Pt} {xs : List V}, PtAts H l xs → PtAts H l.reverse xs.reverse
  | [], _, h => by cases h; rfl
  | p :: l, _, ⟨x, ys, e, h, hs⟩ => by
    cases e
    rw [List.reverse_cons, List.reverse_cons]
    exact PtAts.app (PtAts.rev hs) (PtAts.one h)
theorem PtAts.snoc {H : Hp} : ∀ {l : List Pt} {p : Pt} {xs : List V}, PtAts H (l ++ [p]) xs → ∃ ys y, xs = ys ++ [y] ∧ PtAts H l ys ∧ p.At H y
  | [], _, _, ⟨x, ys, e, h, hs⟩ => by
    cases e
    cases (show ys = [] from hs)
    exact ⟨[], x, rfl, rfl, h⟩
  | _ :: l, p, _, ⟨x, ys, e, h, hs⟩ => by
    cases e
    obtain ⟨zs, y, e2, h2, h3⟩ := PtAts.snoc hs
    exact ⟨x :: zs, y, by rw [e2]; rfl, ⟨x, zs, rfl, h, h2⟩, h3⟩
/-- the parts of a type, where n is needed -/
def parP (c : Bool) (l : List Pt) : List Pt := if c then .w "(" :: (l ++ [.w ")"]) else l
def partsP (n : Nat) : Ty → List Pt
  | .nm s => [.w s]
  | .con s l => if l.isEmpty then [.w s] else parP (decide (1 < n)) (.w s :: l.map fun t => .t t 2)
  | .fn a b => parP (decide (0 < n)) [.t a 1, .w "->", .t b 0]
theorem parP_kw (c : Bool) (l : List Pt) : ((parP c l).map Pt.kw).flatten = parW c (l.map Pt.kw).flatten := by
  cases c with
  | false => rfl
  | true =>
    show ((.w "(" :: (l ++ [.w ")"]) : List Pt).map Pt.kw).flatten = ("(" : Str) :: ((l.map Pt.kw).flatten ++ [(")" : Str)])
    rw [List.map_cons, List.flatten_cons, List.map_append, List.flatten_append]
    rfl
theorem kws_flat : ∀ l : List Ty, ((l.map fun t => Pt.t t 2).map Pt.kw).flatten = Ty.kws l
  | [] => rfl
  | t :: l => by
    show t.kw 2 ++ ((l.map fun t => Pt.t t 2).map Pt.kw).flatten = t.kw 2 ++ Ty.kws l
    rw [kws_flat l]
theorem parts_kw (n : Nat) : ∀ t : Ty, ((partsP n t).map Pt.kw).flatten = t.kw n
  | .nm s => rfl
  | .con s l => by
    unfold partsP
    cases l with
    | nil => rfl
    | cons x l =>
      show ((parP (decide (1 < n)) _).map Pt.kw).flatten = parW (true && decide (1 < n)) _
      rw [parP_kw, Bool.true_and]
      congr 1
      show s :: (((x :: l).map fun t => Pt.t t 2).map Pt.kw).flatten = _
      rw [kws_flat]
  | .fn a b => by
    unfold partsP
    rw [parP_kw]
    show _ = parW (decide (0 < n)) (a.kw 1 ++ ("->" : Str) :: b.kw 0)
    congr 1
    show a.kw 1 ++ (([("->" : Str)] ++ (b.kw 0 ++ []))) = _
    rw [List.append_nil]
    rfl
theorem parP_wt (c : Bool) (l : List Pt) : wts (parP c l) ≤ wts l + 2 := by
  cases c with
  | false => exact Nat.le_add_right _ _
  | true =>
    show 1 + wts (l ++ [.w ")"]) ≤ _
    rw [wts_app]
    show 1 + (wts l + (1 + 0)) ≤ _
    omega
theorem wts_kids : ∀ l : List Ty, wts (l.map fun t => Pt.t t 2) = 5 * Ty.ndss l
  | [] => rfl
  | t :: l => by
    show 5 * t.nds + wts (l.map fun t => Pt.t t 2) = 5 * (t.nds + Ty.ndss l)
    rw [wts_kids l]
    omega
theorem parts_wt (n : Nat) : ∀ t : Ty, wts (partsP n t) < 5 * t.nds
  | .nm s => by show 1 + 0 < 5 * 1; decide
  | .con s l => by
    show wts (if l.isEmpty then [.w s] else parP (decide (1 < n)) (.w s :: l.map fun t => .t t 2)) < 5 * (1 + Ty.ndss l)
    split
    · show 1 + 0 < 5 * (1 + Ty.ndss l); omega
    · have := parP_wt (decide (1 < n)) (.w s :: l.map fun t => .t t 2)
      have e : wts (.w s :: l.map fun t => .t t 2) = 1 + wts (l.map fun t => Pt.t t 2) := rfl
      rw [e, wts_kids] at this
      omega
  | .fn a b => by
    show wts (parP (decide (0 < n)) [.t a 1, .w "->", .t b 0]) < 5 * (1 + (a.nds + b.nds))
    have := parP_wt (decide (0 < n)) [.t a 1, .w "->", .t b 0]
    have e : wts [.t a 1, .w "->", .t b 0] = 5 * a.nds + (1 + (5 * b.nds + 0)) := rfl
    rw [e] at this
    omega
theorem at0 (x : V) (l : List V) : atI (x :: l) 0 = some x := atI_nat (j := 0) rfl
theorem at1 (x y : V) (l : List V) : atI (x :: y :: l) 1 = some y := atI_nat (j := 1) rfl
theorem at2 (x y z : V) (l : List V) : atI (x :: y :: z :: l) 2 = some z := atI_nat (j := 2) rfl
namespace Lay2
theorem tYes_if {σ : L2.St} {H : Hp} {A B : Hp → Prop} (h : A H) : tYes σ H (fun b H3 => if b = true then A H3 else B H3) := by
  show if true = true then A H else B H
  rw [if_pos rfl]
  exact h
end Lay2
structure TxtK (mg : Str → Option Value) : Prop where
  gKIND_FUN_LEVEL : ∃ u, mg "KIND_FUN_LEVEL" = some u ∧ RelV (.int 0) u
  gKIND_CON_LEVEL : ∃ u, mg "KIND_CON_LEVEL" = some u ∧ RelV (.int 1) u
  gKIND_ATOM_LEVEL : ∃ u, mg "KIND_ATOM_LEVEL" = some u ∧ RelV (.int 2) u
section
variable {P : Program} {w : World} {K : PySem.W.Frag} {mg : Str → Option Value} {base : Heap}
abbrev sInPar : Stmt := topS 10
theorem scInPar : FnScope ["needed", "parts"] ["needed", "parts"] (defScope sInPar) := ⟨rfl, rfl, rfl, by decide +kernel, rfl, by decide +kernel, by decide +kernel⟩
def spInPar : Sp := fun vs H Q _ => ∃ (c : Bool) (L : Addr) (l : List Pt) (xs : List V), vs = [.bl c, .ref L] ∧ H L = some (.lst xs) ∧ PtAts H l xs ∧ l.length ≤ 1000 ∧ ∀ (L' : Addr) (ys : List V) (H' : Hp), Same H H' → H' L' = some (.lst ys) → PtAts H' (parP c l) ys → Q (.ref L') H'
theorem c_inpar {f : Addr} {fd : FuncData} (F : Fun K "_in_parentheses_if" "_in_parentheses_if" sInPar f fd) (b : Binds K fd ["needed", "parts"] []) (hm : mg "_in_parentheses_if" = some (.ref f)) : C8.Cal P w K mg base 1 "_in_parentheses_if" spInPar [] := by
  refine cal_of F hm b scInPar (fun vs H Q E h => ?_) (fun cdv A outer s H vs Q E hr h => ?_)
  · obtain ⟨c, L, l, xs, rfl, _⟩ := h
    rfl
  obtain ⟨c, L, l, xs, rfl, hL, hl, hz, q⟩ := h
  have hxl := hl.len
  refine ⟨_, (pss_cons (ps_if (pt_val (pv 0))
      (pss_one (ps_ret (pe_lst (pa_cons pe_str (StX.pa_star (pv 1) (pa_cons pe_str pa_nil))))))
      pss_nil)
    (pss_one (ps_ret (pv 1)))), ?_⟩
  refine ⟨_, rfl, _, rfl, ?_⟩
  cases c with
  | false =>
    refine iteF ?_
    exact ⟨_, rfl, q L xs H (fun _ _ h => h) hL hl⟩
  | true =>
    refine iteT ?_
    refine ⟨_, rfl, L, xs, rfl, .inr (SqL.of hL), ?_⟩
    have hz2 : ([V.str "("] ++ (xs ++ [V.str ")"])).length ≤ sizeLine := by
      rw [List.length_append, List.length_append, hxl]
      show 1 + (l.length + 1) ≤ sizeLine
      have := szl (n := l.length + 2) (by omega)
      omega
    refine ⟨hz2, fun L' hL' => ?_⟩
    have s1 := same_new hL' (.lst ([V.str "("] ++ (xs ++ [V.str ")"])))
    exact q L' _ _ s1 upd_same ⟨.str "(", _, rfl, rfl, PtAts.app (hl.keep (tk_same s1)) (PtAts.one rfl)⟩
abbrev sKP : Stmt := topS 12
theorem scKP : FnScope ["tree", "need", "_", "argument", "result", "parts"] ["tree", "need"] (defScope sKP) := ⟨rfl, rfl, rfl, by decide +kernel, rfl, by decide +kernel, by decide +kernel⟩
def spKP : Sp := fun vs H Q _ => ∃ (v : V) (t : Ty) (e n : Nat), vs = [v, .int (n : Int)] ∧ t.D.At H v ∧ t.ok e ∧ ∀ (L : Addr) (xs : List V) (H' : Hp), Same H H' → H' L = some (.lst xs) → PtAts H' (partsP n t) xs → Q (.ref L) H'
theorem c_kp {f : Addr} {fd : FuncData} (T : TxtK mg) (c_in_parentheses_if : C8.Cal P w K mg base 1 "_in_parentheses_if" spInPar []) (F : Fun K "_kind_parts" "_kind_parts" sKP f fd) (b : Binds K fd ["tree", "need"] []) (hm : mg "_kind_parts" = some (.ref f)) : C8.Cal P w K mg base 2 "_kind_parts" spKP [] := by
  refine cal_of F hm b scKP (fun vs H Q E h => ?_) (fun cdv A outer s H vs Q E hr h => ?_)
  · obtain ⟨v, t, e, n, rfl, _⟩ := h
    rfl
  obtain ⟨v, t, e, n, rfl, hat, hok, q⟩ := h
  refine ⟨_, (pss_cons (ps_if (pt_cmpR op_eq (pe_ix ix_tup (pv 0) pe_int (fun _ _ => rfl)) pe_str (nomark _))
      (pss_cons (ps_asg (pv 0) (pg_tup rfl (pgs_cons (pg_name (i := 2) scKP.nd rfl (Or.inl rfl)) (pgs_cons (pg_name (i := 3) scKP.nd rfl (Or.inl rfl)) (pgs_cons (pg_name (i := 4) scKP.nd rfl (Or.inl rfl)) pgs_nil)))))
    (pss_cons (ps_set (i := 5) scKP.nd rfl (Or.inl rfl) (pe_lst (pa_cons (pe_tup (pa_cons (pv 3) (pa_cons (C8.pe_gc rfl T.gKIND_CON_LEVEL) pa_nil))) (pa_cons pe_str (pa_cons (pe_tup (pa_cons (pv 4) (pa_cons (C8.pe_gc rfl T.gKIND_FUN_LEVEL) pa_nil))) pa_nil)))))
    (pss_one (ps_ret (C8.pe_c c_in_parentheses_if hr (by decide) rfl (pa_cons (pe_cmpR op_lt (C8.pe_gc rfl T.gKIND_FUN_LEVEL) (pv 1) (nomark _)) (pa_cons (pv 5) pa_nil)))))))
      pss_nil)
    (pss_cons (ps_if (PW.pt (pw_and (pt_cmpR op_eq (pe_ix ix_tup (pv 0) pe_int (fun _ _ => rfl)) pe_str (nomark _)) (pw_and1 (pt_truth (pe_ix ix_tup (pv 0) pe_int (fun _ _ => rfl)) (fun _ => rfl)))))
      (pss_cons (ps_set (i := 5) scKP.nd rfl (Or.inl rfl) (pe_lst (pa_cons (pe_ix ix_tup (pv 0) pe_int (fun _ _ => rfl)) (StX.pa_star (pe_lc (own := [("argument", 3)]) (g := gName 3) (tt := tYes) rfl scKP.nd (pi_tup (pe_ix ix_tup (pv 0) pe_int (fun _ _ => rfl))) (blkOk_by (own := [("argument", 3)]) (N := ["tree", "need", "_", "argument", "result", "parts"]) (sc := defScope sKP) (by decide +kernel)) (fun _ _ _ _ _ => (pg_name (i := 3) scKP.nd rfl (Or.inl rfl))) (fun _ _ _ _ _ => pts_nil) (fun _ _ _ _ _ => (pe_tup (pa_cons (pv 3) (pa_cons (C8.pe_gc rfl T.gKIND_ATOM_LEVEL) pa_nil))))) pa_nil))))
    (pss_one (ps_ret (C8.pe_c c_in_parentheses_if hr (by decide) rfl (pa_cons (pe_cmpR op_lt (C8.pe_gc rfl T.gKIND_CON_LEVEL) (pv 1) (nomark _)) (pa_cons (pv 5) pa_nil))))))
      pss_nil)
    (pss_one (ps_ret (pe_lst (pa_cons (pe_ix ix_tup (pv 0) pe_int (fun _ _ => rfl)) pa_nil)))))), ?_⟩
  cases t with
  | nm z =>
    obtain ⟨a, ys, rfl, ha, v0, ys1, rfl, h0, v1, ys2, rfl, h1, h2⟩ := hat
    cases (show ys2 = [] from h2)
    cases (show v0 = .str "name" from h0)
    cases (show v1 = .str z from h1)
    refine ⟨_, rfl, a, _, 0, _, rfl, rfl, SqT.of ha, at0 _ _, rfl, _, rfl, ?_⟩
    rw [wne (show ¬ ("name" : Str) = "fun" by decide +kernel)]
    refine iteF ?_
    refine ⟨_, rfl, a, _, 0, _, rfl, rfl, SqT.of ha, at0 _ _, rfl, _, rfl, ?_⟩
    rw [wne (show ¬ ("name" : Str) = "con" by decide +kernel)]
    refine iteF (iteF ?_)
    refine ⟨_, rfl, a, _, 1, _, rfl, rfl, SqT.of ha, at1 _ _ _, by show 1 ≤ sizeLine; decide, fun L hL => ?_⟩
    have s1 := same_new hL (.lst [.str z])
    exact q L _ _ s1 upd_same (PtAts.one rfl)
  | con z l =>
    obtain ⟨a, ys, rfl, ha, v0, ys1, rfl, h0, v1, ys2, rfl, h1, v2, ys3, rfl, h2, h3⟩ := hat
    cases (show ys3 = [] from h3)
    cases (show v0 = .str "con" from h0)
    cases (show v1 = .str z from h1)
    obtain ⟨al, xs, rfl, hal, hxs⟩ := h2
    have hxl := ats_len hxs
    rw [ds_map, List.length_map] at hxl
    have hll : l.length ≤ 2 := by
      cases e with
      | zero => rw [hok.2]; exact Nat.zero_le _
      | succ e => exact hok.2.1
    refine ⟨_, rfl, a, _, 0, _, rfl, rfl, SqT.of ha, at0 _ _, rfl, _, rfl, ?_⟩
    rw [wne (show ¬ ("con" : Str) = "fun" by decide +kernel)]
    refine iteF ?_
    refine ⟨_, rfl, a, _, 0, _, rfl, rfl, SqT.of ha, at0 _ _, rfl, _, rfl, ?_⟩
    rw [wtt]
    refine iteT ?_
    refine ⟨_, rfl, a, _, 2, _, rfl, rfl, SqT.of ha, at2 _ _ _ _, _, .inr (.inl ⟨xs, SqT.of hal, rfl⟩), ?_⟩
    cases l with
    | nil =>
      have hx0 : xs = [] := List.eq_nil_of_length_eq_zero hxl
      subst hx0
      refine iteF ?_
      refine ⟨_, rfl, a, _, 1, _, rfl, rfl, SqT.of ha, at1 _ _ _, by show 1 ≤ sizeLine; decide, fun L hL => ?_⟩
      have s1 := same_new hL (.lst [.str z])
      exact q L _ _ s1 upd_same (PtAts.one rfl)
    | cons t0 l0 =>
      generalize hl : t0 :: l0 = l at *
      have hne : l.isEmpty = false := by rw [← hl]; rfl
      have hx0 : (!xs.isEmpty) = true := by
        cases xs with
        | nil => rw [← hl] at hxl; exact absurd hxl (by simp)
        | cons x xs => rfl
      rw [hx0]
      refine iteT ?_
      refine ⟨_, rfl, a, _, 1, _, rfl, rfl, SqT.of ha, at1 _ _ _, ?_⟩
      refine ⟨_, rfl, a, _, 2, _, rfl, rfl, SqT.of ha, at2 _ _ _ _, al, rfl, ⟨_, SqT.of hal⟩, fun D hD => ?_⟩
      refine lc_tup (a := al) (xs := xs) (fun i G => Same H G ∧ ∃ ys : List V, G D = some (.lst ys) ∧ PtAts G ((l.take i).map fun t => Pt.t t 2) ys ∧ ys.length = i) ⟨same_new hD _, [], upd_same, rfl, rfl⟩ (fun i G _ ⟨h, _⟩ => SqT.of (h _ _ hal)) ?_ ?_
      · rintro i x G hx ⟨sG, ys, eD, hys, hyl⟩
        obtain ⟨kk, hk1, hk2⟩ := ats_get hxs hx
        rw [ds_map, List.getElem?_map] at hk1
        obtain ⟨b, hb1, rfl⟩ := Option.map_eq_some_iff.mp hk1
        have hil : i < l.length := (List.getElem?_eq_some_iff.mp hb1).1
        refine ⟨rfl, ?_⟩
        refine Lay2.tYes_if ?_
        refine ⟨_, rfl, by show 2 ≤ sizeLine; decide, fun p hp => ?_⟩
        have s5 := same_new hp (.tup [x, .int 2])
        have eD5 := s5 _ _ eD
        have fL : TK (upd G p (.tup [x, .int 2])) (upd (upd G p (.tup [x, .int 2])) D (.lst (ys ++ [.ref p]))) := tk_list eD5
        refine ⟨ys, eD5, szl (by omega), same_upd hD (sameT sG s5) _, ys ++ [.ref p], upd_same, ?_, by rw [List.length_append, hyl]; rfl⟩
        rw [List.take_add_one, hb1, List.map_append]
        exact PtAts.app ((hys.keep (tk_same s5)).keep fL) (PtAts.one ⟨p, x, rfl, fL _ _ upd_same, (hk2.keep (tk_same (sameT sG s5))).keep fL⟩)
      rintro G ⟨sG, ys, eD, hys, hyl⟩
      rw [hxl, List.take_length] at hys
      refine ⟨D, ys, rfl, .inr (SqL.of eD), ⟨?_, fun L hL => ?_⟩⟩
      · show (V.str z :: (ys ++ [])).length ≤ sizeLine
        rw [List.append_nil, List.length_cons, hyl, hxl]
        have := szl (n := l.length + 1) (by omega)
        omega
      have s6 := same_new hL (.lst (V.str z :: (ys ++ [])))
      have key : PtAts (upd G L (.lst (V.str z :: (ys ++ [])))) (.w z :: l.map fun t => Pt.t t 2) (V.str z :: (ys ++ [])) :=
        ⟨_, ys, congrArg (V.str z :: ·) (List.append_nil ys), rfl, hys.keep (tk_same s6)⟩
      have eL : upd G L (.lst (V.str z :: (ys ++ []))) L = some (.lst (V.str z :: (ys ++ []))) := upd_same
      have sall := sameT sG s6
      generalize upd G L (.lst (V.str z :: (ys ++ []))) = H3 at sall key eL ⊢
      refine ⟨_, rfl, _, _, rfl, rfl, _, rfl, decide (1 < n), L, _, _, ?_, eL, key, by rw [List.length_cons, List.length_map]; omega, fun L' zs H4 s4 e4 k4 => q L' zs H4 (sameT sall s4) e4 ?_⟩
      · show [V.bl (decide ((1 : Int) < (n : Int))), V.ref L] = _
        rw [show decide ((1 : Int) < (n : Int)) = decide (1 < n) from decide_eq_decide.mpr (by omega)]
      · show PtAts H4 (if l.isEmpty then _ else _) zs
        rw [hne]
        exact k4
  | fn x y =>
    obtain ⟨a, ys, rfl, ha, v0, ys1, rfl, h0, v1, ys2, rfl, h1, v2, ys3, rfl, h2, h3⟩ := hat
    cases (show ys3 = [] from h3)
    cases (show v0 = .str "fun" from h0)
    refine ⟨_, rfl, a, _, 0, _, rfl, rfl, SqT.of ha, at0 _ _, rfl, _, rfl, ?_⟩
    rw [wtt]
    refine iteT ?_
    refine ⟨_, rfl, a, _, rfl, SqT.of ha, rfl, _, _, rfl, _, _, rfl, _, _, rfl, rfl, ?_⟩
    refine ⟨_, rfl, by show 2 ≤ sizeLine; decide, fun t1 ht1 => ⟨_, rfl, by show 2 ≤ sizeLine; decide, fun t2 ht2 => ⟨by show 3 ≤ sizeLine; decide, fun L hL => ?_⟩⟩⟩
    have s1 := same_new ht1 (.tup [v1, .int 1])
    have s2 := same_new ht2 (.tup [v2, .int 0])
    have s3 := same_new hL (.lst [.ref t1, .str "->", .ref t2])
    have s23 := sameT s2 s3
    have s123 := sameT s1 s23
    have key : PtAts (upd (upd (upd H t1 (.tup [v1, .int 1])) t2 (.tup [v2, .int 0])) L (.lst [.ref t1, .str "->", .ref t2])) [.t x 1, .w "->", .t y 0] [.ref t1, .str "->", .ref t2] :=
      ⟨_, _, rfl, ⟨t1, v1, rfl, s23 _ _ upd_same, h1.keep (tk_same s123)⟩, _, _, rfl, rfl, _, _, rfl, ⟨t2, v2, rfl, s3 _ _ upd_same, h2.keep (tk_same s123)⟩, rfl⟩
    have eL : upd (upd (upd H t1 (.tup [v1, .int 1])) t2 (.tup [v2, .int 0])) L (.lst [.ref t1, .str "->", .ref t2]) L = some (.lst [.ref t1, .str "->", .ref t2]) := upd_same
    generalize upd (upd (upd H t1 (.tup [v1, .int 1])) t2 (.tup [v2, .int 0])) L (.lst [.ref t1, .str "->", .ref t2]) = H3 at s123 key eL ⊢
    refine ⟨_, rfl, _, _, rfl, rfl, _, rfl, decide (0 < n), L, _, _, ?_, eL, key, by show 3 ≤ 1000; decide, fun L' zs H4 s4 e4 k4 => q L' zs H4 (sameT s123 s4) e4 k4⟩
    show [V.bl (decide ((0 : Int) < (n : Int))), V.ref L] = _
    rw [show decide ((0 : Int) < (n : Int)) = decide (0 < n) from decide_eq_decide.mpr (by omega)]
end
end Toy

set_option Elab.async false
set_option linter.all false
set_option maxRecDepth 100000
set_option maxHeartbeats 4000000
/-! Part Q: all words of a type; its text. -/
namespace Toy
open PySem L2
open PyProof.Rows (envOfC)
def Pt.ok : Pt → Prop
  | .w s => s.length ≤ 100
  | .t k _ => ∃ e, k.ok e
theorem parP_ok {c : Bool} {l : List Pt} (h : ∀ p ∈ l, p.ok) : ∀ p ∈ parP c l, p.ok := by
  cases c with
  | false => exact h
  | true =>
    intro p hp
    rcases List.mem_cons.mp hp with e | e
    · rw [e]; show ("(" : Str).length ≤ 100; decide +kernel
    · rcases List.mem_append.mp e with e | e
      · exact h p e
      · rw [List.mem_singleton.mp e]; show (")" : Str).length ≤ 100; decide +kernel
theorem parts_ok {n e : Nat} : ∀ {t : Ty}, t.ok e → ∀ p ∈ partsP n t, p.ok
  | .nm s, h => fun p hp => by
    have h : s ∈ KNAMES := by cases e <;> exact h
    rw [List.mem_singleton.mp hp]
    have := (kn_words s h).2.1
    show s.length ≤ 100
    omega
  | .con s l, h => by
    have h2 : s ∈ KCONS ∧ ∃ e', Ty.oks e' l := by
      cases e with
      | zero => exact ⟨h.1, 0, by rw [h.2]; trivial⟩
      | succ e => exact ⟨h.1, e, h.2.2⟩
    obtain ⟨hs, e', hl⟩ := h2
    have hsl : s.length ≤ 100 := by have := (kc_words s hs).2.1; omega
    show ∀ p ∈ (if l.isEmpty then [Pt.w s] else parP (decide (1 < n)) (.w s :: l.map fun t => .t t 2)), p.ok
    split
    · intro p hp
      rw [List.mem_singleton.mp hp]
      exact hsl
    · refine parP_ok fun p hp => ?_
      rcases List.mem_cons.mp hp with z | z
      · rw [z]; exact hsl
      · obtain ⟨t, ht, rfl⟩ := List.mem_map.mp z
        exact ⟨e', oks_mem hl ht⟩
  | .fn a b, h => by
    obtain ⟨e', rfl⟩ : ∃ e', e = e' + 1 := by
      cases e with
      | zero => exact h.elim
      | succ e => exact ⟨e, rfl⟩
    show ∀ p ∈ parP (decide (0 < n)) [.t a 1, .w "->", .t b 0], p.ok
    refine parP_ok fun p hp => ?_
    rcases List.mem_cons.mp hp with z | z
    · rw [z]; exact ⟨e', h.1⟩
    · rcases List.mem_cons.mp z with z | z
      · rw [z]; show ("->" : Str).length ≤ 100; decide +kernel
      · rw [List.mem_singleton.mp z]; exact ⟨e', h.2⟩
theorem boot_str : bootBuiltins "str" = some (.type "str") := by decide +kernel
theorem kit_ss {K : PySem.W.Frag} : PySem.W.kitOne K (.type "str") (.type "str") = some true := kit_ty (a := "str") (b := "str") (r := true) (by decide +kernel)
theorem kit_ts {K : PySem.W.Frag} : PySem.W.kitOne K (.type "tuple") (.type "str") = some false := kit_ty (a := "tuple") (b := "str") (r := false) (by decide +kernel)
structure TxtQ (P : Program) (w : World) (K : PySem.W.Frag) (mg : Str → Option Value) (base : Heap) (sW : Addr → Option Sp) : Prop where
  heldW : ∀ f sp, sW f = some sp → Held P w K mg base 2 f sp
  zisinstance : mg "isinstance" = none
  zstr : mg "str" = none
section
variable {P : Program} {w : World} {K : PySem.W.Frag} {mg : Str → Option Value} {base : Heap} {sW : Addr → Option Sp}
abbrev sWords : Stmt := topS 9
theorem scWords : FnScope ["parts", "parts_of", "words", "todo", "part", "tree", "need"] ["parts", "parts_of"] (defScope sWords) := ⟨rfl, rfl, rfl, by decide +kernel, rfl, by decide +kernel, by decide +kernel⟩
def spWords (sW : Addr → Option Sp) : Sp := fun vs H Q _ => ∃ (pa fk : Addr) (xs : List V) (l : List Pt), vs = [.ref pa, .ref fk] ∧ sW fk = some spKP ∧ H pa = some (.lst xs) ∧ PtAts H l xs ∧ (∀ p ∈ l, p.ok) ∧ wts l ≤ 1000 ∧
  ∀ (L : Addr) (H' : Hp), Same H H' → H' L = some (.lst (((l.map Pt.kw).flatten).map V.str)) → Q (.ref L) H'
theorem c_words {f : Addr} {fd : FuncData} (T : TxtQ P w K mg base sW) (F : Fun K "_words" "_words" sWords f fd) (b : Binds K fd ["parts", "parts_of"] []) (hm : mg "_words" = some (.ref f)) : C8.Cal P w K mg base 3 "_words" (spWords sW) [] := by
  refine cal_of F hm b scWords (fun vs H Q E h => ?_) (fun cdv A outer s H vs Q E hr h => ?_)
  · obtain ⟨pa, fk, xs, l, rfl, _⟩ := h
    rfl
  obtain ⟨pa, fk, xs, l, rfl, hfk, hpa, hl, hok, hz, q⟩ := h
  refine ⟨_, (pss_cons (ps_set (i := 2) scWords.nd rfl (Or.inl rfl) (pe_lst pa_nil))
    (pss_cons (ps_set (i := 3) scWords.nd rfl (Or.inl rfl) (pe_revL (pv 0)))
    (pss_cons (ps_while PassesOwn.never (pt_truth (pv 3) (fun _ => rfl))
      (pss_cons (ps_set (i := 4) scWords.nd rfl (Or.inl rfl) (pe_bm0 PySem.F.plainAttrs_list PySem.F.slot_list_pop PySem.F.type_list_pop mt_pop (pv 3)))
    (pss_one (ps_if (pt_val (pe_callB call_isi rfl T.zisinstance boot_isinstance (pa_cons (pv 4) (pa_cons (pe_bltn (v := .ty "str") rfl T.zstr boot_str rfl) pa_nil))))
      (pss_one (ps_expr (pe_bm PySem.F.plainAttrs_list PySem.F.slot_list_append PySem.F.type_list_append mt_append (pv 2) (pa_cons (pv 4) pa_nil))))
      (pss_cons (ps_asg (pv 4) (pg_tup rfl (pgs_cons (pg_name (i := 5) scWords.nd rfl (Or.inl rfl)) (pgs_cons (pg_name (i := 6) scWords.nd rfl (Or.inl rfl)) pgs_nil))))
    (pss_one (ps_expr (pe_bm PySem.F.plainAttrs_list PySem.F.slot_list_extend PySem.F.type_list_extend mt_extend (pv 3) (pa_cons (pe_revL (pe_callA (i := 1) T.heldW (hr.mono (by decide)) rfl (Or.inl rfl) (pa_cons (pv 5) (pa_cons (pv 6) pa_nil)))) pa_nil)))))))))
    (pss_one (ps_ret (pv 2)))))), ?_⟩
  refine ⟨by show 0 ≤ sizeLine; decide, fun L hL => ?_⟩
  have s1 := same_new hL (.lst [])
  have eL1 : upd H L (.lst []) L = some (.lst (([] : List Str).map V.str)) := upd_same
  generalize upd H L (.lst []) = H1 at s1 eL1 ⊢
  refine ⟨_, rfl, pa, xs, rfl, SqL.of (s1 _ _ hpa), fun T0 hT => ?_⟩
  have nTL : T0 ≠ L := fun z => by rw [z, eL1] at hT; cases hT
  have hTH := s1.free hT
  have s2 := sameT s1 (same_new hT (.lst xs.reverse))
  refine ⟨fun m σ G => ∃ (rs : List Pt) (ys : List V) (ws : List Str) (v4 v5 v6 : Option V), m = wts rs ∧ σ = [some (.ref pa), some (.ref fk), some (.ref L), some (.ref T0), v4, v5, v6] ∧ Same H G ∧ G T0 = some (.lst ys) ∧ PtAts G rs.reverse ys ∧ G L = some (.lst (ws.map V.str)) ∧ (l.map Pt.kw).flatten = ws ++ (rs.map Pt.kw).flatten ∧ (∀ p ∈ rs, p.ok) ∧ ws.length + wts rs ≤ 1000,
    ⟨wts l, l, xs.reverse, [], none, none, none, rfl, rfl, s2, upd_same, (hl.keep (tk_same s2)).rev, by rw [upd_ne nTL.symm]; exact eL1, rfl, hok, by show 0 + _ ≤ _; omega⟩, ?_⟩
  rintro m σ G ⟨rs, ys, ws, v4, v5, v6, rfl, rfl, sG, eT, hys, eL, hfl, hok2, hz2⟩
  have hyl := hys.len
  rw [List.length_reverse] at hyl
  refine ⟨_, rfl, _, .inl ⟨ys, SqL.of eT, rfl⟩, ?_⟩
  cases rs with
  | nil =>
    have hy0 : ys = [] := List.eq_nil_of_length_eq_zero hyl
    subst hy0
    refine iteF ?_
    refine ⟨_, rfl, q L G sG ?_⟩
    rw [hfl]
    show G L = some (.lst ((ws ++ []).map V.str))
    rw [List.append_nil]
    exact eL
  | cons p rs =>
    rw [List.reverse_cons] at hys
    obtain ⟨ys', y, rfl, hys', hy⟩ := hys.snoc
    have ne : (!(ys' ++ [y]).isEmpty) = true := by cases ys' <;> rfl
    rw [ne]
    refine iteT ?_
    refine ⟨_, fun _ _ h => h, ?_⟩
    have nTH : H T0 = none := hTH
    have tkT : TK G (upd G T0 (.lst (ys' ++ [y]).dropLast)) := tk_list eT
    refine ⟨_, rfl, .inl ⟨rfl, _, SqL.of eT⟩, T0, _, y, rfl, rfl, eT, by simp, ?_⟩
    have e4 : upd G T0 (.lst (ys' ++ [y]).dropLast) T0 = some (.lst ys') := by rw [upd_same, List.dropLast_concat]
    have eL4 : upd G T0 (.lst (ys' ++ [y]).dropLast) L = some (.lst (ws.map V.str)) := by rw [upd_ne nTL.symm]; exact eL
    have s4 : Same H (upd G T0 (.lst (ys' ++ [y]).dropLast)) := same_upd nTH sG _
    have hys4 := hys'.keep tkT
    have hy4 := hy.keep tkT
    generalize upd G T0 (.lst (ys' ++ [y]).dropLast) = G4 at e4 eL4 s4 hys4 hy4 ⊢
    have hwl : ws.length ≤ 1000 := by omega
    have hLH : H L = none := hL
    cases p with
    | w z =>
      cases (show y = .str z from hy4)
      refine ⟨_, rfl, .str z, .ty "str", _, _, _, rfl, .ty "str", .base (.str z), kit_ss, ?_⟩
      refine ⟨_, rfl, ?_⟩
      refine iteT ?_
      refine ⟨_, rfl, .inl ⟨rfl, _, SqL.of eL4⟩, _, rfl, L, _, _, rfl, rfl, eL4, szl (by rw [List.length_map]; omega), wts rs, by show wts rs < 1 + wts rs; omega, rs, ys', ws ++ [z], _, _, _, rfl, rfl, same_upd hLH s4 _, by rw [upd_ne nTL]; exact e4, hys4.keep (tk_list eL4), by rw [upd_same, List.map_append]; rfl, ?_, fun p hp => hok2 p (List.mem_cons_of_mem _ hp), ?_⟩
      · rw [hfl, List.append_assoc]
        rfl
      · rw [List.length_append]
        have : wts (Pt.w z :: rs) = 1 + wts rs := rfl
        show ws.length + 1 + wts rs ≤ 1000
        omega
    | t k n =>
      obtain ⟨a, x, rfl, ha, hk⟩ := hy4
      obtain ⟨e0, hke⟩ := hok2 (.t k n) (List.mem_cons_self ..)
      refine ⟨_, rfl, .ref a, .ty "str", _, _, _, rfl, .ty "str", .base (.tup ha), kit_ts, ?_⟩
      refine ⟨_, rfl, ?_⟩
      refine iteF ?_
      refine ⟨_, rfl, a, _, rfl, SqT.of ha, rfl, _, _, rfl, _, _, rfl, rfl, ?_⟩
      refine ⟨_, rfl, .inl ⟨rfl, _, SqL.of e4⟩, ?_⟩
      refine ⟨fk, _, rfl, hfk, _, rfl, _, rfl, x, k, e0, n, rfl, hk, hke, fun L5 zs G5 s5 e5 k5 => ?_⟩
      refine ⟨L5, zs, rfl, SqL.of e5, fun R hR => ?_⟩
      have s6 := same_new hR (.lst zs.reverse)
      have s56 := sameT s5 s6
      have eT6 := s56 _ _ e4
      have eL6 := s56 _ _ eL4
      have eR6 : upd G5 R (.lst zs.reverse) R = some (.lst zs.reverse) := upd_same
      have k6 := (k5.keep (tk_same s6)).rev
      have ys6 := hys4.keep (tk_same s56)
      have sH6 := sameT s4 s56
      generalize upd G5 R (.lst zs.reverse) = G6 at eT6 eL6 eR6 k6 ys6 sH6 ⊢
      have hpw := parts_wt n k
      have hzl := k5.len
      have hyl2 := hys4.len
      rw [List.length_reverse] at hyl2
      have w1 := wts_len (partsP n k)
      have w2 := wts_len rs
      have ew : wts (Pt.t k n :: rs) = 5 * k.nds + wts rs := rfl
      refine ⟨T0, R, _, _, rfl, rfl, eT6, eR6, by rw [List.length_reverse]; have := szl (n := ys'.length + zs.length) (by omega); omega, wts (partsP n k ++ rs), by rw [wts_app]; omega, partsP n k ++ rs, ys' ++ zs.reverse, ws, _, _, _, rfl, rfl, same_upd nTH sH6 _, upd_same, ?_, by rw [upd_ne nTL.symm]; exact eL6, ?_, fun p hp => ?_, by rw [wts_app]; omega⟩
      · rw [List.reverse_append]
        exact (PtAts.app ys6 k6).keep (tk_list eT6)
      · rw [hfl, List.map_append, List.flatten_append, parts_kw]
        rfl
      · rcases List.mem_append.mp hp with z | z
        · exact parts_ok hke p z
        · exact hok2 p (List.mem_cons_of_mem _ z)
structure TxtY (mg : Str → Option Value) (fK : Addr) : Prop where
  gKP : ∃ u, mg "_kind_parts" = some u ∧ RelV (.ref fK) u
abbrev sKWords : Stmt := topS 11
theorem scKWords : FnScope ["tree", "need"] ["tree", "need"] (defScope sKWords) := ⟨rfl, rfl, rfl, by decide +kernel, rfl, by decide +kernel, by decide +kernel⟩
def spKWords : Sp := fun vs H Q _ => ∃ (v : V) (t : Ty) (e n : Nat), vs = [v, .int (n : Int)] ∧ t.D.At H v ∧ t.ok e ∧ t.nds ≤ 200 ∧ ∀ (L : Addr) (H' : Hp), Same H H' → H' L = some (.lst ((t.kw n).map V.str)) → Q (.ref L) H'
theorem c_kwords {f fK : Addr} {fd : FuncData} (T : TxtY mg fK) (hK : sW fK = some spKP) (c_words : C8.Cal P w K mg base 3 "_words" (spWords sW) []) (F : Fun K "_kind_words" "_kind_words" sKWords f fd) (b : Binds K fd ["tree", "need"] []) (hm : mg "_kind_words" = some (.ref f)) : C8.Cal P w K mg base 4 "_kind_words" spKWords [] := by
  refine cal_of F hm b scKWords (fun vs H Q E h => ?_) (fun cdv A outer s H vs Q E hr h => ?_)
  · obtain ⟨v, t, e, n, rfl, _⟩ := h
    rfl
  obtain ⟨v, t, e, n, rfl, hat, hok, hn, q⟩ := h
  refine ⟨_, (pss_one (ps_ret (C8.pe_c c_words hr (by decide) rfl (pa_cons (pe_lst (pa_cons (pe_tup (pa_cons (pv 0) (pa_cons (pv 1) pa_nil))) pa_nil)) (pa_cons (C8.pe_gc rfl T.gKP) pa_nil))))), ?_⟩
  refine ⟨_, rfl, _, rfl, by show 2 ≤ sizeLine; decide, fun a ha => ⟨by show 1 ≤ sizeLine; decide, fun L hL => ?_⟩⟩
  have s1 := same_new ha (.tup [v, .int (n : Int)])
  have s2 := same_new hL (.lst [.ref a])
  have s12 := sameT s1 s2
  refine ⟨L, fK, [.ref a], [.t t n], rfl, hK, upd_same, PtAts.one ⟨a, v, rfl, s2 _ _ upd_same, hat.keep (tk_same s12)⟩, fun p hp => by rw [List.mem_singleton.mp hp]; exact ⟨e, hok⟩, by show 5 * t.nds + 0 ≤ 1000; omega, fun L2 H2 s3 e3 => q L2 H2 (sameT s12 s3) ?_⟩
  rw [e3]
  show some (HO.lst ((t.kw n ++ []).map V.str)) = _
  rw [List.append_nil]
abbrev sPrint : Stmt := topS 7
theorem scPrint : FnScope ["tree"] ["tree"] (defScope sPrint) := ⟨rfl, rfl, rfl, by decide +kernel, rfl, by decide +kernel, by decide +kernel⟩
def spPrint : Sp := fun vs H Q _ => ∃ (v : V) (t : Ty) (e : Nat), vs = [v] ∧ t.D.At H v ∧ t.ok e ∧ t.nds ≤ 200 ∧ (∀ w ∈ t.kw 0, w.length ≤ 100) ∧ (t.kw 0).length ≤ 1000 ∧ ∀ (z : Str) (H' : Hp), Same H H' → cs z = t.kc 0 → Q (.str z) H'
theorem c_print {f : Addr} {fd : FuncData} (c_kind_words : C8.Cal P w K mg base 4 "_kind_words" spKWords []) (c_joined : C8.Cal P w K mg base 1 "_joined" spJoined []) (F : Fun K "print_kind" "print_kind" sPrint f fd) (b : Binds K fd ["tree"] []) (hm : mg "print_kind" = some (.ref f)) : C8.Cal P w K mg base 5 "print_kind" spPrint [] := by
  refine cal_of F hm b scPrint (fun vs H Q E h => ?_) (fun cdv A outer s H vs Q E hr h => ?_)
  · obtain ⟨v, t, e, rfl, _⟩ := h
    rfl
  obtain ⟨v, t, e, rfl, hat, hok, hn, hw, hl, q⟩ := h
  refine ⟨_, (pss_one (ps_ret (C8.pe_c c_joined hr (by decide) rfl (pa_cons (C8.pe_c c_kind_words hr (by decide) rfl (pa_cons (pv 0) (pa_cons pe_int pa_nil))) pa_nil)))), ?_⟩
  refine ⟨_, rfl, v, t, e, 0, rfl, hat, hok, hn, fun L H1 s1 e1 => ?_⟩
  refine ⟨L, t.kw 0, rfl, e1, hl, hw, fun z H2 s2 ez => q z H2 (sameT s1 s2) ?_⟩
  obtain ⟨l, h1, h2⟩ := jc_tree t e 0 hok "(" []
  rw [List.append_nil] at h2
  rw [ez, h2]
  show gapC "(" ++ (t.kc 0 ++ []) = _
  rw [List.append_nil, show gapC "(" = [] from if_pos (by decide +kernel)]
  rfl
end
end Toy

set_option Elab.async false
set_option linter.all false
set_option maxRecDepth 100000
set_option maxHeartbeats 4000000
/-! Part R: what the law draws. -/
namespace Toy
open PySem L2
open PyProof.Rows (envOfC)
theorem at_str {zs : List Str} {i : Int} (h0 : 0 ≤ i) (h1 : i < (zs.length : Int)) : ∃ z ∈ zs, atI (zs.map V.str) i = some (.str z) := by
  have hk : i.toNat < zs.length := by omega
  refine ⟨zs[i.toNat], List.getElem_mem hk, ?_⟩
  have q : atI (zs.map V.str) ((i.toNat : Nat) : Int) = some (.str zs[i.toNat]) := atI_nat (by rw [List.getElem?_map, List.getElem?_eq_getElem hk]; rfl)
  rw [show ((i.toNat : Nat) : Int) = i by omega] at q
  exact q
/-! ### sizes -/
mutual
theorem nds_le : ∀ (t : Ty) (e : Nat), t.ok e → t.nds + 1 ≤ 2 ^ (e + 1)
  | .nm s, e, _ => by
    have : 1 ≤ 2 ^ e := Nat.one_le_two_pow
    show 1 + 1 ≤ 2 ^ (e + 1)
    rw [Nat.pow_succ]
    omega
  | .con s l, 0, h => by
    rw [h.2]
    show 1 + 0 + 1 ≤ 2 ^ 1
    decide
  | .con s l, e + 1, h => by
    have := ndss_le l e h.2.2
    have hl : l.length ≤ 2 := h.2.1
    have h1 : 1 ≤ 2 ^ (e + 1) := Nat.one_le_two_pow
    have h2 : l.length * 2 ^ (e + 1) ≤ 2 * 2 ^ (e + 1) := Nat.mul_le_mul_right _ hl
    show 1 + Ty.ndss l + 1 ≤ 2 ^ (e + 1 + 1)
    rw [Nat.pow_succ 2 (e + 1)]
    rcases (show l.length = 0 ∨ l.length = 1 ∨ l.length = 2 by omega) with z | z | z
    · rw [z, Nat.zero_mul] at this
      omega
    · rw [z, Nat.one_mul] at this
      omega
    · rw [z] at this
      omega
  | .fn a b, 0, h => h.elim
  | .fn a b, e + 1, h => by
    have h1 := nds_le a e h.1
    have h2 := nds_le b e h.2
    show 1 + (a.nds + b.nds) + 1 ≤ 2 ^ (e + 1 + 1)
    rw [Nat.pow_succ 2 (e + 1)]
    omega
theorem ndss_le : ∀ (l : List Ty) (e : Nat), Ty.oks e l → Ty.ndss l + l.length ≤ l.length * 2 ^ (e + 1)
  | [], e, _ => by show 0 + 0 ≤ 0 * _; omega
  | t :: l, e, h => by
    have h1 := nds_le t e h.1
    have h2 := ndss_le l e h.2
    show t.nds + Ty.ndss l + (l.length + 1) ≤ (l.length + 1) * 2 ^ (e + 1)
    rw [Nat.succ_mul]
    omega
end
theorem parW_mem {c : Bool} {ws : List Str} (h : ∀ w ∈ ws, w.length ≤ 100) : ∀ w ∈ parW c ws, w.length ≤ 100 := by
  cases c with
  | false => exact h
  | true =>
    intro w hw
    rcases List.mem_cons.mp hw with e | e
    · rw [e]; decide +kernel
    · rcases List.mem_append.mp e with e | e
      · exact h w e
      · rw [List.mem_singleton.mp e]; decide +kernel
theorem parW_len (c : Bool) (ws : List Str) : (parW c ws).length ≤ ws.length + 2 := by
  cases c with
  | false => exact Nat.le_add_right _ _
  | true => show (ws ++ [(")" : Str)]).length + 1 ≤ _; rw [List.length_append]; exact Nat.le_refl _
theorem parC_len (c : Bool) (x : Cs) : (parC c x).length ≤ x.length + 2 := by
  cases c with
  | false => exact Nat.le_add_right _ _
  | true => show (x ++ [41]).length + 1 ≤ _; rw [List.length_append]; exact Nat.le_refl _
mutual
theorem kw_small : ∀ (t : Ty) (e n : Nat), t.ok e → (∀ w ∈ t.kw n, w.length ≤ 100) ∧ (t.kw n).length ≤ 5 * t.nds ∧ (t.kc n).length ≤ 20 * t.nds
  | .nm s, e, n, h => by
    have h : s ∈ KNAMES := by cases e <;> exact h
    have h1 := (kn_words s h).2.1
    have h2 : s.length = (cs s).length := rfl
    refine ⟨fun w hw => ?_, by show 1 ≤ 5 * 1; decide, by show (cs s).length ≤ 20 * 1; omega⟩
    rw [List.mem_singleton.mp hw]
    omega
  | .con s l, e, n, h => by
    have h2 : s ∈ KCONS ∧ ∃ e', Ty.oks e' l ∧ l.length ≤ 2 := by
      cases e with
      | zero => exact ⟨h.1, 0, by rw [h.2]; exact ⟨trivial, Nat.zero_le _⟩⟩
      | succ e => exact ⟨h.1, e, h.2.2, h.2.1⟩
    obtain ⟨hs, e', hl, hl2⟩ := h2
    obtain ⟨i1, i2, i3⟩ := kws_small l e' hl
    have h1 := (kc_words s hs).2.1
    have h2 : s.length = (cs s).length := rfl
    refine ⟨parW_mem fun w hw => ?_, ?_, ?_⟩
    · rcases List.mem_cons.mp hw with z | z
      · rw [z]; omega
      · exact i1 w z
    · have := parW_len (!l.isEmpty && decide (1 < n)) (s :: Ty.kws l)
      rw [List.length_cons] at this
      show (parW _ _).length ≤ 5 * (1 + Ty.ndss l)
      omega
    · have := parC_len (!l.isEmpty && decide (1 < n)) (cs s ++ Ty.kcs l)
      rw [List.length_append] at this
      show (parC _ _).length ≤ 20 * (1 + Ty.ndss l)
      omega
  | .fn a b, e, n, h => by
    obtain ⟨e', rfl⟩ : ∃ e', e = e' + 1 := by
      cases e with
      | zero => exact h.elim
      | succ e => exact ⟨e, rfl⟩
    obtain ⟨a1, a2, a3⟩ := kw_small a e' 1 h.1
    obtain ⟨b1, b2, b3⟩ := kw_small b e' 0 h.2
    refine ⟨parW_mem fun w hw => ?_, ?_, ?_⟩
    · rcases List.mem_append.mp hw with z | z
      · exact a1 w z
      · rcases List.mem_cons.mp z with z | z
        · rw [z]; decide +kernel
        · exact b1 w z
    · have := parW_len (decide (0 < n)) (a.kw 1 ++ ("->" : Str) :: b.kw 0)
      rw [List.length_append, List.length_cons] at this
      show (parW _ _).length ≤ 5 * (1 + (a.nds + b.nds))
      omega
    · have := parC_len (decide (0 < n)) (a.kc 1 ++ ([32, 45, 62, 32] ++ b.kc 0))
      rw [List.length_append, List.length_append] at this
      have e4 : ([32, 45, 62, 32] : Cs).length = 4 := rfl
      show (parC _ _).length ≤ 20 * (1 + (a.nds + b.nds))
      omega
theorem kws_small : ∀ (l : List Ty) (e : Nat), Ty.oks e l → (∀ w ∈ Ty.kws l, w.length ≤ 100) ∧ (Ty.kws l).length ≤ 5 * Ty.ndss l ∧ (Ty.kcs l).length ≤ 20 * Ty.ndss l + l.length
  | [], e, _ => ⟨fun w h => absurd h List.not_mem_nil, Nat.zero_le _, Nat.zero_le _⟩
  | t :: l, e, h => by
    obtain ⟨a1, a2, a3⟩ := kw_small t e 2 h.1
    obtain ⟨b1, b2, b3⟩ := kws_small l e h.2
    refine ⟨fun w hw => (List.mem_append.mp hw).elim (a1 w) (b1 w), ?_, ?_⟩
    · show (t.kw 2 ++ Ty.kws l).length ≤ 5 * (t.nds + Ty.ndss l)
      rw [List.length_append]
      omega
    · show (32 :: (t.kc 2 ++ Ty.kcs l)).length ≤ 20 * (t.nds + Ty.ndss l) + (l.length + 1)
      rw [List.length_cons, List.length_append]
      omega
end
/-! ### as data -/
mutual
theorem ty_lay : ∀ (t : Ty) (e : Nat), t.ok e → t.D.lay = true ∧ t.D.dep ≤ 2 * e + 2
  | .nm s, e, h => by
    have h : s ∈ KNAMES := by cases e <;> exact h
    have h1 := (kn_words s h).2.2
    refine ⟨?_, by show 1 + max 0 (max 0 0) ≤ _; omega⟩
    show (PyData.strOk "name" && (PyData.strOk s && true)) = true
    rw [h1, show PyData.strOk "name" = true by decide +kernel]
    rfl
  | .con s l, e, h => by
    have h2 : s ∈ KCONS ∧ ∃ e', Ty.oks e' l ∧ (l ≠ [] → e = e' + 1) := by
      cases e with
      | zero => exact ⟨h.1, 0, by rw [h.2]; exact ⟨trivial, fun z => absurd rfl z⟩⟩
      | succ e => exact ⟨h.1, e, h.2.2, fun _ => rfl⟩
    obtain ⟨hs, e', hl, he⟩ := h2
    have h1 := (kc_words s hs).2.2
    obtain ⟨i1, i2⟩ := tys_lay l e' hl
    refine ⟨?_, ?_⟩
    · show (PyData.strOk "con" && (PyData.strOk s && (Td.lays (Ty.Ds l) && true))) = true
      rw [h1, i1, show PyData.strOk "con" = true by decide +kernel]
      rfl
    · show 1 + max 0 (max 0 (max (1 + Td.deps (Ty.Ds l)) 0)) ≤ 2 * e + 2
      cases l with
      | nil => show 1 + max 0 (max 0 (max (1 + 0) 0)) ≤ 2 * e + 2; omega
      | cons t l =>
        have := he (by simp)
        omega
  | .fn a b, e, h => by
    obtain ⟨e', rfl⟩ : ∃ e', e = e' + 1 := by
      cases e with
      | zero => exact h.elim
      | succ e => exact ⟨e, rfl⟩
    obtain ⟨a1, a2⟩ := ty_lay a e' h.1
    obtain ⟨b1, b2⟩ := ty_lay b e' h.2
    refine ⟨?_, ?_⟩
    · show (PyData.strOk "fun" && (a.D.lay && (b.D.lay && true))) = true
      rw [a1, b1, show PyData.strOk "fun" = true by decide +kernel]
      rfl
    · show 1 + max 0 (max a.D.dep (max b.D.dep 0)) ≤ 2 * (e' + 1) + 2
      omega
theorem tys_lay : ∀ (l : List Ty) (e : Nat), Ty.oks e l → Td.lays (Ty.Ds l) = true ∧ Td.deps (Ty.Ds l) ≤ 2 * e + 2
  | [], e, _ => ⟨rfl, Nat.zero_le _⟩
  | t :: l, e, h => by
    obtain ⟨a1, a2⟩ := ty_lay t e h.1
    obtain ⟨b1, b2⟩ := tys_lay l e h.2
    refine ⟨?_, ?_⟩
    · show (t.D.lay && Td.lays (Ty.Ds l)) = true
      rw [a1, b1]
      rfl
    · show max t.D.dep (Td.deps (Ty.Ds l)) ≤ _
      omega
end
theorem ds_nil (l : List Ty) : PyData.eqv (.tuple (Td.Ds (Ty.Ds l))) (.tuple []) = l.isEmpty := by
  cases l with
  | nil => simp [Ty.Ds, Td.Ds, PyData.eqv, PyData.eqvAll]
  | cons x r => simp [Ty.Ds, Td.Ds, PyData.eqv, PyData.eqvAll]
/-! ### the texts are read -/
theorem kcs_flat : ∀ l : List Ty, ((l.map fun t => (t, t.kc 2)).map fun q => 32 :: q.2).flatten = Ty.kcs l
  | [] => rfl
  | t :: l => by
    show (32 :: t.kc 2) ++ ((l.map fun t => (t, t.kc 2)).map fun q => 32 :: q.2).flatten = 32 :: (t.kc 2 ++ Ty.kcs l)
    rw [kcs_flat l]
    rfl
theorem fst_back (l : List Ty) : (l.map fun t => (t, t.kc 2)).map (·.1) = l := by
  rw [List.map_map]
  exact List.map_id l
theorem tx_kc : ∀ (e : Nat) (t : Ty) (n : Nat), t.ok e → TX (e + 1) n t (t.kc n)
  | e, .nm s, n, h => by
    have h : s ∈ KNAMES := by cases e <;> exact h
    exact tx_nm h
  | e, .fn a b, n, h => by
    obtain ⟨e', rfl⟩ : ∃ e', e = e' + 1 := by
      cases e with
      | zero => exact h.elim
      | succ e => exact ⟨e, rfl⟩
    have ha := tx_kc e' a 1 h.1
    have hb := tx_kc e' b 0 h.2
    have hx := tx_fn (ar := [32, 45, 62, 32]) (by decide) ha hb
    show TX (e' + 1 + 1) n _ (parC (decide (0 < n)) _)
    by_cases c : 0 < n
    · rw [decide_eq_true c]
      exact tx_par (s := []) (by decide +kernel) hx
    · rw [decide_eq_false c, show n = 0 by omega]
      exact hx.mono (by omega)
  | e, .con s l, n, h => by
    have h2 : s ∈ KCONS ∧ ((l = []) ∨ ∃ e', e = e' + 1 ∧ Ty.oks e' l) := by
      cases e with
      | zero => exact ⟨h.1, .inl h.2⟩
      | succ e => exact ⟨h.1, .inr ⟨e, rfl, h.2.2⟩⟩
    obtain ⟨hs, hl⟩ := h2
    have key : ∀ (d m : Nat), (l = [] ∨ m ≤ 1) → (∀ t ∈ l, TX d 2 t (t.kc 2)) → TX d m (.con s l) (cs s ++ Ty.kcs l) := fun d m hm hk => by
      have := tx_con (d := d) (n := m) (l := l.map fun t => (t, t.kc 2)) hs (hm.imp (fun z => by rw [z]; rfl) id) (fun q hq => by obtain ⟨t, ht, rfl⟩ := List.mem_map.mp hq; exact hk t ht)
      rw [fst_back, kcs_flat] at this
      exact this
    show TX (e + 1) n _ (parC (!l.isEmpty && decide (1 < n)) _)
    rcases hl with rfl | ⟨e', rfl, hl⟩
    · exact key (e + 1) n (.inl rfl) fun t ht => absurd ht List.not_mem_nil
    · have hk : ∀ t ∈ l, TX (e' + 1) 2 t (t.kc 2) := fun t ht => tx_kc e' t 2 (oks_mem hl ht)
      by_cases c : (!l.isEmpty && decide (1 < n)) = true
      · rw [c]
        exact tx_par (s := []) (by decide +kernel) (key (e' + 1) 0 (.inr (by decide)) hk)
      · have c := Bool.eq_false_iff.mpr c
        rw [c]
        refine (key (e' + 1) n ?_ hk).mono (by omega)
        rw [Bool.and_eq_false_iff] at c
        rcases c with c | c
        · left
          cases l with
          | nil => rfl
          | cons x l => cases c
        · right
          have := of_decide_eq_false c
          omega
end Toy

set_option Elab.async false
set_option linter.all false
set_option maxRecDepth 100000
set_option maxHeartbeats 4000000
/-! Part S: the law's defs. -/
namespace Toy
open PySem L2
open PyProof.Rows (envOfC)
theorem keep_new {p l : Addr} {H H' : Hp} {o : HO} (hl : H l = none) (k : Keep p (upd H l o) H') : Keep p H H' := fun b u hb e => k b u hb (by rw [upd_ne (ne_of_none e hl)]; exact e)
theorem Keep.trans {p : Addr} {H H1 H2 : Hp} (a : Keep p H H1) (b : Keep p H1 H2) : Keep p H H2 := fun c o hc e => b c o hc (a c o hc e)
theorem Keep.refl (p : Addr) (H : Hp) : Keep p H H := fun _ _ _ e => e
theorem DrawsAt.there {H : Hp} {p r : Addr} (d : DrawsAt H p r) : ∃ o, H p = some o := let ⟨_, _, _, h, _⟩ := d; ⟨_, h⟩
theorem DrawsAt.new {H : Hp} {p r l : Addr} (d : DrawsAt H p r) (h : H l = none) (o : HO) : DrawsAt (upd H l o) p r := d.same (same_new h o)
/-- [a, b, ..][_law_pick(draws, m)]: one of them -/
theorem pick_list {K : PySem.W.Frag} {E : XK} {zs : List Str} {m : Int} {i : Nat} {p r : Addr} {σ : L2.St} {H : Hp} {Q : VK} (hσ : σ[i]? = some (some (.ref p))) (hm : m = (zs.length : Int)) (h0 : 0 < zs.length) (h1 : zs.length ≤ 1000) (D : DrawsAt H p r)
    (k : ∀ z ∈ zs, ∀ H', Keep p H H' → DrawsAt H' p r → Q (.str z) H') : tOp (rIxL K) (tLst (tStrs zs)) (tCall spPick [] E (tCons (tVar i) (tCons (tC (.int m)) tNil))) σ H Q := by
  subst hm
  refine ⟨by rw [List.length_map]; exact Nat.le_of_lt (szl (by omega)), fun l hl => ?_⟩
  refine ⟨_, hσ, p, r, _, rfl, by omega, D.new hl _, fun n H2 hn0 hn1 kp d2 => ?_⟩
  have npl : l ≠ p := by
    obtain ⟨o, ho⟩ := D.there
    exact (ne_of_none ho hl).symm
  obtain ⟨z, hz, e⟩ := at_str (zs := zs) hn0 hn1
  exact ⟨l, _, n, _, rfl, rfl, SqL.of (kp _ _ npl upd_same), e, k z hz H2 (keep_new hl kp) d2⟩
theorem Keep.tk {p r : Addr} {H H' : Hp} (k : Keep p H H') (d : DrawsAt H p r) : TK H H' := tk_keep k d.notup
theorem strOk_kn {s : Str} (h : s ∈ KNAMES) : PyData.strOk s = true := (kn_words s h).2.2
theorem Keep.same {p : Addr} {H H' : Hp} (s : Same H H') : Keep p H H' := fun b u _ e => s b u e
theorem DrawsAt.off {H : Hp} {p r x : Addr} (d : DrawsAt H p r) (h1 : x ≠ p) (h2 : x ≠ r) (o : HO) : DrawsAt (upd H x o) p r := by
  obtain ⟨row, i, z, g1, g2⟩ := d
  exact ⟨row, i, z, by rw [upd_ne h1.symm]; exact g1, by rw [upd_ne h2.symm]; exact g2⟩
theorem DrawsAt.fresh {H : Hp} {p r x : Addr} (d : DrawsAt H p r) (hx : H x = none) : x ≠ p ∧ x ≠ r := by
  obtain ⟨row, i, z, g1, g2⟩ := d
  exact ⟨fun e => (by rw [e, g1] at hx; cases hx), fun e => (by rw [e, g2] at hx; cases hx)⟩
structure TxtLw (mg : Str → Option Value) : Prop where
  zrange : mg "range" = none
  ztuple : mg "tuple" = none
  zlen : mg "len" = none
  zmin : mg "min" = none
section
variable {P : Program} {w : World} {K : PySem.W.Frag} {mg : Str → Option Value} {base : Heap} {aK aS : Addr}
abbrev sLName : Stmt := topS 54
theorem scLName : FnScope ["draws", "names"] ["draws"] (defScope sLName) := ⟨rfl, rfl, rfl, by decide +kernel, rfl, by decide +kernel, by decide +kernel⟩
def spLName (Z : List Str) : Sp := fun vs H Q _ => ∃ p r : Addr, vs = [.ref p] ∧ DrawsAt H p r ∧ ∀ (z : Str) (H' : Hp), z ∈ Z → Keep p H H' → DrawsAt H' p r → Q (.str z) H'
theorem c_lname {f : Addr} {fd : FuncData} (c_law_pick : C8.Cal P w K mg base 2 "_law_pick" spPick []) (F : Fun K "_law_name" "_law_name" sLName f fd) (b : Binds K fd ["draws"] []) (hm : mg "_law_name" = some (.ref f)) : C8.Cal P w K mg base 3 "_law_name" (spLName KNAMES) [] := by
  refine cal_of F hm b scLName (fun vs H Q E h => ?_) (fun cdv A outer s H vs Q E hr h => ?_)
  · obtain ⟨p, r, rfl, _⟩ := h
    rfl
  obtain ⟨p, r, rfl, d0, q⟩ := h
  refine ⟨_, (pss_cons (ps_set (i := 1) scLName.nd rfl (Or.inl rfl) (pe_lst (pa_strs (zs := ["a", "b", "x", "xs", "f", "go", "n1", "x'", "long_name9", "ofx", "inn", "lets", "iff", "divide", "note1"]) rfl)))
    (pss_one (ps_ret (pe_ix ix_list (pv 1) (C8.pe_c c_law_pick hr (by decide) rfl (pa_cons (pv 0) (pa_cons pe_int pa_nil))) (fun _ _ => rfl))))), ?_⟩
  refine ⟨by show 15 ≤ sizeLine; decide, fun l hl => ?_⟩
  have s1 := same_new hl (.lst (KNAMES.map V.str))
  have e1 : upd H l (.lst (KNAMES.map V.str)) l = some (.lst (KNAMES.map V.str)) := upd_same
  refine ⟨_, rfl, _, rfl, p, r, 15, rfl, by decide, d0.new hl _, fun n H2 n0 n1 k2 d2 => ?_⟩
  have npl : l ≠ p := by
    obtain ⟨o, ho⟩ := d0.there
    exact (ne_of_none ho hl).symm
  obtain ⟨z, hz, e⟩ := at_str (zs := KNAMES) n0 (by show n < 15; exact n1)
  exact ⟨l, _, n, _, rfl, rfl, SqL.of (k2 _ _ npl upd_same), e, q z H2 hz (keep_new hl k2) d2⟩
abbrev sLCon : Stmt := topS 55
theorem scLCon : FnScope ["draws"] ["draws"] (defScope sLCon) := ⟨rfl, rfl, rfl, by decide +kernel, rfl, by decide +kernel, by decide +kernel⟩
theorem c_lcon {f : Addr} {fd : FuncData} (c_law_pick : C8.Cal P w K mg base 2 "_law_pick" spPick []) (F : Fun K "_law_con" "_law_con" sLCon f fd) (b : Binds K fd ["draws"] []) (hm : mg "_law_con" = some (.ref f)) : C8.Cal P w K mg base 3 "_law_con" (spLName KCONS) [] := by
  refine cal_of F hm b scLCon (fun vs H Q E h => ?_) (fun cdv A outer s H vs Q E hr h => ?_)
  · obtain ⟨p, r, rfl, _⟩ := h
    rfl
  obtain ⟨p, r, rfl, d0, q⟩ := h
  refine ⟨_, (pss_one (ps_ret (pe_ix ix_list (pe_lst (pa_strs (zs := ["A", "Nil", "Cons", "Tree", "Leaf", "T9'", "Of", "Data_x"]) rfl)) (C8.pe_c c_law_pick hr (by decide) rfl (pa_cons (pv 0) (pa_cons pe_int pa_nil))) (fun _ _ => rfl)))), ?_⟩
  exact pick_list (zs := KCONS) rfl rfl (by decide) (by decide) d0 fun z hz H' k d => q z H' hz k d
abbrev sLKind : Stmt := topS 56
theorem scLKind : FnScope ["draws", "depth", "pick", "parts", "k"] ["draws", "depth"] (defScope sLKind) := ⟨rfl, rfl, rfl, by decide +kernel, rfl, by decide +kernel, by decide +kernel⟩
def spLKind (n : Nat) : Sp := fun vs H Q _ => ∃ (p r : Addr) (d : Int) (e : Nat), vs = [.ref p, .int d] ∧ d ≤ (e : Int) ∧ e < n ∧ DrawsAt H p r ∧ ∀ (v : V) (t : Ty) (H' : Hp), Keep p H H' → DrawsAt H' p r → t.D.At H' v → t.ok e → Q v H'
theorem c_lkind1 {f : Addr} {fd : FuncData} {n : Nat} (T : TxtLw mg) (c_law_pick : C8.Cal P w K mg base 2 "_law_pick" spPick []) (c_law_name : C8.Cal P w K mg base 3 "_law_name" (spLName KNAMES) []) (c_law_con : C8.Cal P w K mg base 3 "_law_con" (spLName KCONS) []) (c_law_kind : C8.Cal P w K mg base (n + 4) "_law_kind" (spLKind n) []) (F : Fun K "_law_kind" "_law_kind" sLKind f fd) (b : Binds K fd ["draws", "depth"] []) (hm : mg "_law_kind" = some (.ref f)) : C8.Cal P w K mg base (n + 5) "_law_kind" (spLKind (n + 1)) [] := by
  refine cal_of F hm b scLKind (fun vs H Q E h => ?_) (fun cdv A outer s H vs Q E hr h => ?_)
  · obtain ⟨p, r, d, e, rfl, _⟩ := h
    rfl
  obtain ⟨p, r, d, e, rfl, hd, hen, d0, q⟩ := h
  refine ⟨_, (pss_cons (ps_set (i := 2) scLKind.nd rfl (Or.inl rfl) (C8.pe_c c_law_pick hr (by omega) rfl (pa_cons (pv 0) (pa_cons pe_int pa_nil))))
    (pss_cons (ps_if (PW.pt (pw_or (pt_cmpR op_lt (pv 1) pe_int (nomark _)) (pw_or1 (pt_cmpR op_lt (pv 2) pe_int (nomark _)))))
      (pss_cons (ps_if (pt_cmpR op_eq (pe_op op_mod (pv 2) pe_int) pe_int (nomark _))
      (pss_one (ps_ret (pe_tup (pa_cons pe_str (pa_cons (C8.pe_c c_law_name hr (by omega) rfl (pa_cons (pv 0) pa_nil)) pa_nil)))))
      pss_nil)
    (pss_one (ps_ret (pe_tup (pa_cons pe_str (pa_cons (C8.pe_c c_law_con hr (by omega) rfl (pa_cons (pv 0) pa_nil)) (pa_cons (pe_tup pa_nil) pa_nil)))))))
      pss_nil)
    (pss_cons (ps_if (pt_cmpR op_lt (pv 2) pe_int (nomark _))
      (pss_one (ps_ret (pe_tup (pa_cons pe_str (pa_cons (C8.pe_c c_law_kind hr (by omega) rfl (pa_cons (pv 0) (pa_cons (pe_op op_sub (pv 1) pe_int) pa_nil))) (pa_cons (C8.pe_c c_law_kind hr (by omega) rfl (pa_cons (pv 0) (pa_cons (pe_op op_sub (pv 1) pe_int) pa_nil))) pa_nil))))))
      pss_nil)
    (pss_cons (ps_setLc (i := 3) (own := [("k", 4)]) (g := gName 4) (tt := tYes) rfl scLKind.nd rfl rfl (sw_true rfl rfl rfl (by decide +kernel)) (pi_range1 rfl T.zrange (pa_cons (pe_op op_add pe_int (C8.pe_c c_law_pick hr (by omega) rfl (pa_cons (pv 0) (pa_cons pe_int pa_nil)))) pa_nil)) (blkOk_by (own := [("k", 4)]) (N := ["draws", "depth", "pick", "parts", "k"]) (sc := defScope sLKind) (by decide +kernel)) (fun _ _ _ _ _ => (pg_name (i := 4) scLKind.nd rfl (Or.inl rfl))) (fun _ _ _ _ _ => pts_nil) (fun _ _ _ _ _ => (C8.pe_c c_law_kind hr (by omega) rfl (pa_cons (pv 0) (pa_cons (pe_op op_sub (pv 1) pe_int) pa_nil)))))
    (pss_one (ps_ret (pe_tup (pa_cons pe_str (pa_cons (C8.pe_c c_law_con hr (by omega) rfl (pa_cons (pv 0) pa_nil)) (pa_cons (pe_callTy call_tuple_of rfl T.ztuple boot_tuple (pa_cons (pv 3) pa_nil)) pa_nil)))))))))), ?_⟩
  refine ⟨_, rfl, p, r, 6, rfl, by decide, d0, fun u H1 u0 u1 k1 d1 => ?_⟩
  have leaf : ∀ (n : Int), (∀ (z : Str) (H2 : Hp), z ∈ KNAMES → Keep p H1 H2 → DrawsAt H2 p r → ∀ t, H2 t = none → Q (.ref t) (upd H2 t (.tup [.str "name", .str z]))) ∧ (∀ (z : Str) (H2 : Hp), z ∈ KCONS → Keep p H1 H2 → DrawsAt H2 p r → ∀ t0, H2 t0 = none → ∀ t, upd H2 t0 (.tup []) t = none → Q (.ref t) (upd (upd H2 t0 (.tup [])) t (.tup [.str "con", .str z, .ref t0]))) := fun _ => by
    refine ⟨fun z H2 hz k2 d2 t ht => ?_, fun z H2 hz k2 d2 t0 ht0 t ht => ?_⟩
    · have s3 := same_new ht (.tup [.str "name", .str z])
      exact q _ (.nm z) _ ((k1.trans k2).trans fun b u _ hb => s3 b u hb) (d2.same s3) ⟨t, _, rfl, upd_same, _, _, rfl, rfl, _, _, rfl, rfl, rfl⟩ (by cases e <;> exact hz)
    · have s3 := same_new ht0 (.tup [])
      have s4 := same_new ht (.tup [.str "con", .str z, .ref t0])
      exact q _ (.con z []) _ ((k1.trans k2).trans fun b u _ hb => s4 b u (s3 b u hb)) ((d2.same s3).same s4) ⟨t, _, rfl, upd_same, _, _, rfl, rfl, _, _, rfl, rfl, _, _, rfl, ⟨t0, [], rfl, s4 _ _ upd_same, rfl⟩, rfl⟩ (by cases e with
        | zero => exact ⟨hz, rfl⟩
        | succ e => exact ⟨hz, Nat.zero_le _, trivial⟩)
  refine ⟨_, rfl, _, _, rfl, rfl, _, rfl, ?_⟩
  show if decide (d < 1) = true then _ else _
  have two : ∀ (X : Prop), (decide (V.int (u % 2) = V.int 0) = true → X) → (decide (V.int (u % 2) = V.int 0) = false → X) → X := fun X a b => (Bool.eq_false_or_eq_true (decide (V.int (u % 2) = V.int 0))).elim a b
  obtain ⟨lf1, lf2⟩ := leaf 0
  by_cases c1 : d < 1
  · rw [decide_eq_true c1]
    refine iteT (iteT ?_)
    refine ⟨_, rfl, _, _, rfl, rfl, (show (0 : Int) < 2 by decide), rfl, _, rfl, ?_⟩
    refine ite2 (fun _ => ?_) (fun _ => ?_)
    · exact ⟨_, rfl, p, r, rfl, d1, fun z H2 hz k2 d2 => ⟨by show 2 ≤ sizeLine; decide, fun t ht => lf1 z H2 hz k2 d2 t ht⟩⟩
    · exact ⟨_, rfl, p, r, rfl, d1, fun z H2 hz k2 d2 => ⟨by show 0 ≤ sizeLine; decide, fun t0 ht0 => ⟨by show 3 ≤ sizeLine; decide, fun t ht => lf2 z H2 hz k2 d2 t0 ht0 t ht⟩⟩⟩
  rw [decide_eq_false c1]
  refine iteF ?_
  refine ⟨_, rfl, _, _, rfl, rfl, _, rfl, ?_⟩
  show if decide (u < 2) = true then _ else _
  by_cases c2 : u < 2
  · rw [decide_eq_true c2]
    refine iteT ?_
    refine ⟨_, rfl, _, _, rfl, rfl, (show (0 : Int) < 2 by decide), rfl, _, rfl, ?_⟩
    refine ite2 (fun _ => ?_) (fun _ => ?_)
    · exact ⟨_, rfl, p, r, rfl, d1, fun z H2 hz k2 d2 => ⟨by show 2 ≤ sizeLine; decide, fun t ht => lf1 z H2 hz k2 d2 t ht⟩⟩
    · exact ⟨_, rfl, p, r, rfl, d1, fun z H2 hz k2 d2 => ⟨by show 0 ≤ sizeLine; decide, fun t0 ht0 => ⟨by show 3 ≤ sizeLine; decide, fun t ht => lf2 z H2 hz k2 d2 t0 ht0 t ht⟩⟩⟩
  rw [decide_eq_false c2]
  refine iteF ?_
  clear leaf lf1 lf2 two
  obtain ⟨e, rfl⟩ : ∃ j, e = j + 1 := ⟨e - 1, by omega⟩
  refine ⟨_, rfl, _, _, rfl, rfl, _, rfl, ?_⟩
  refine ite2 (fun _ => ?_) (fun _ => ?_)
  · refine ⟨_, rfl, _, rfl, _, _, rfl, rfl, p, r, _, e, rfl, by omega, by omega, d1, fun v2 t2 H2 k2 d2 a2 o2 => ?_⟩
    refine ⟨_, rfl, _, rfl, _, _, rfl, rfl, p, r, _, e, rfl, by omega, by omega, d2, fun v3 t3 H3 k3 d3 a3 o3 => ⟨by show 3 ≤ sizeLine; decide, fun t ht => ?_⟩⟩
    have s4 := same_new ht (.tup [.str "fun", v2, v3])
    exact q _ (.fn t2 t3) _ (((k1.trans k2).trans k3).trans (Keep.same s4)) (d3.same s4) ⟨t, _, rfl, upd_same, _, _, rfl, rfl, _, _, rfl, (a2.keep (k3.tk d2)).keep (tk_same s4), _, _, rfl, a3.keep (tk_same s4), rfl⟩ ⟨o2, o3⟩
  refine ⟨_, rfl, p, r, 2, rfl, by decide, d1, fun m H2 m0 m1 k2 d2 => ?_⟩
  refine ⟨_, _, rfl, rfl, 1 + m, rfl, by omega, by omega, fun D hD => ?_⟩
  obtain ⟨nDp, nDr⟩ := d2.fresh hD
  have hm2 : (1 + m).toNat ≤ 2 := by omega
  refine lc_range (Pv := fun i G => ∃ (l : List Ty) (xs : List V), G D = some (.lst xs) ∧ Keep p H2 G ∧ DrawsAt G p r ∧ Td.Ats G (Ty.Ds l) xs ∧ l.length = i ∧ Ty.oks e l) ⟨[], [], upd_same, Keep.same (same_new hD _), d2.same (same_new hD _), rfl, rfl, trivial⟩ ?_ ?_
  · rintro i G hi ⟨l, xs, eD, kG, dG, al, hl, ol⟩
    have hxl := ats_len al
    rw [ds_map, List.length_map] at hxl
    refine ⟨rfl, ?_⟩
    refine Lay2.tYes_if ?_
    refine ⟨_, rfl, _, rfl, _, _, rfl, rfl, p, r, _, e, rfl, by omega, by omega, dG, fun v3 t3 H3 k3 d3 a3 o3 => ?_⟩
    have eD3 := k3 _ _ nDp eD
    refine ⟨xs, eD3, szl (by omega), l ++ [t3], xs ++ [v3], upd_same, ?_, d3.off nDp nDr _, ?_, by rw [List.length_append, hl]; rfl, oks_app ol ⟨o3, trivial⟩⟩
    · intro b u nb hb
      rw [upd_ne (fun z => by rw [z, hD] at hb; cases hb)]
      exact k3 _ _ nb (kG _ _ nb hb)
    · rw [ds_snoc]
      exact ats_app ((al.keep (k3.tk dG)).keep (tk_list eD3)) (ats_one (a3.keep (tk_list eD3)))
  rintro G ⟨l, xs, eD, kG, dG, al, hl, ol⟩
  show gName 3 (V.ref D) _ _ _
  refine ⟨_, rfl, p, r, rfl, dG, fun z H3 hz k3 d3 => ?_⟩
  have eD3 := k3 _ _ nDp eD
  refine ⟨_, rfl, D, xs, rfl, .inl ⟨SqL.of eD3, fun t5 ht5 => ⟨by show 3 ≤ sizeLine; decide, fun t6 ht6 => ?_⟩⟩⟩
  have s5 := same_new ht5 (.tup xs)
  have s6 := same_new ht6 (.tup [.str "con", .str z, .ref t5])
  have s56 := sameT s5 s6
  exact q _ (.con z l) _ ((((k1.trans k2).trans kG).trans k3).trans (Keep.same s56)) (d3.same s56) ⟨t6, _, rfl, upd_same, _, _, rfl, rfl, _, _, rfl, rfl, _, _, rfl, ⟨t5, xs, rfl, s6 _ _ upd_same, (al.keep (k3.tk dG)).keep (tk_same s56)⟩, rfl⟩ ⟨hz, by omega, ol⟩
theorem c_lkind {f : Addr} {fd : FuncData} (T : TxtLw mg) (c_law_pick : C8.Cal P w K mg base 2 "_law_pick" spPick []) (c_law_name : C8.Cal P w K mg base 3 "_law_name" (spLName KNAMES) []) (c_law_con : C8.Cal P w K mg base 3 "_law_con" (spLName KCONS) []) (F : Fun K "_law_kind" "_law_kind" sLKind f fd) (b : Binds K fd ["draws", "depth"] []) (hm : mg "_law_kind" = some (.ref f)) : ∀ n : Nat, C8.Cal P w K mg base (n + 4) "_law_kind" (spLKind n) []
  | 0 => cal_none F hm b fun vs H Q E h => by
    obtain ⟨p, r, d, e, _, _, h, _⟩ := h
    exact Nat.not_lt_zero _ h
  | n + 1 => c_lkind1 T c_law_pick c_law_name c_law_con (c_lkind T c_law_pick c_law_name c_law_con F b hm n) F b hm
abbrev sLWr : Stmt := topS 57
theorem scLWr : FnScope ["text", "level", "needed"] ["text", "level", "needed"] (defScope sLWr) := ⟨rfl, rfl, rfl, by decide +kernel, rfl, by decide +kernel, by decide +kernel⟩
def spLWr : Sp := fun vs H Q _ => ∃ (z : Str) (lv n : Nat), vs = [.str z, .int (lv : Int), .int (n : Int)] ∧ z.length ≤ 10000 ∧ ∀ z' : Str, cs z' = parC (decide (lv < n)) (cs z) → Q (.str z') H
theorem c_lwr {f : Addr} {fd : FuncData} (F : Fun K "_law_wrapped" "_law_wrapped" sLWr f fd) (b : Binds K fd ["text", "level", "needed"] []) (hm : mg "_law_wrapped" = some (.ref f)) : C8.Cal P w K mg base 1 "_law_wrapped" spLWr [] := by
  refine cal_of F hm b scLWr (fun vs H Q E h => ?_) (fun cdv A outer s H vs Q E hr h => ?_)
  · obtain ⟨z, lv, n, rfl, _⟩ := h
    rfl
  obtain ⟨z, lv, n, rfl, hz, q⟩ := h
  refine ⟨_, (pss_cons (ps_if (pt_cmpR op_lt (pv 1) (pv 2) (nomark _))
      (pss_one (ps_ret (pe_op op_add_str (pe_op op_add_str pe_str (pv 0)) pe_str)))
      pss_nil)
    (pss_one (ps_ret (pv 0)))), ?_⟩
  refine ⟨_, rfl, _, rfl, _, _, rfl, rfl, _, rfl, ?_⟩
  show if decide ((lv : Int) < (n : Int)) = true then _ else _
  by_cases c : lv < n
  · rw [decide_eq_true (show (lv : Int) < (n : Int) by omega)]
    rw [decide_eq_true c] at q
    refine iteT ?_
    have := szl (n := z.length + 2) (by omega)
    have e1 : ("(" : Str).length = 1 := by decide +kernel
    have e2 : (")" : Str).length = 1 := by decide +kernel
    have e3 : ((("(" : Str) ++ z)).length = 1 + z.length := by
      show (cs (("(" : Str) ++ z)).length = _
      rw [cs_app, List.length_append]
      rfl
    refine ⟨_, rfl, _, _, rfl, rfl, by rw [e1]; omega, _, _, rfl, rfl, by rw [e2, e3]; omega, q _ ?_⟩
    rw [cs_app, cs_app]
    show (40 :: cs z) ++ [41] = 40 :: (cs z ++ [41])
    rfl
  · rw [decide_eq_false (show ¬ (lv : Int) < (n : Int) by omega)]
    rw [decide_eq_false c] at q
    refine iteF ?_
    exact ⟨_, rfl, q z rfl⟩
end
end Toy

set_option Elab.async false
set_option linter.all false
set_option maxRecDepth 100000
set_option maxHeartbeats 4000000
/-! Part T: the law's texts. -/
namespace Toy
open PySem L2
open PyProof.Rows (envOfC)
theorem len_cat (a b : Str) : (a ++ b).length = a.length + b.length := by
  show (cs (a ++ b)).length = _
  rw [cs_app, List.length_append]
  rfl
theorem pow10 {e : Nat} (h : e ≤ 4) : 2 ^ (e + 1) ≤ 32 := Nat.pow_le_pow_right (n := 2) (by decide) (show e + 1 ≤ 5 by omega)
/-- what stands of a type -/
theorem ty_at {H : Hp} {t : Ty} {v : V} (h : t.D.At H v) : ∃ a ys, v = .ref a ∧ H a = some (.tup ys) ∧ match t with
    | .nm z => ys = [.str "name", .str z]
    | .con z l => ∃ al xs, ys = [.str "con", .str z, .ref al] ∧ H al = some (.tup xs) ∧ Td.Ats H (Ty.Ds l) xs
    | .fn x y => ∃ u w, ys = [.str "fun", u, w] ∧ x.D.At H u ∧ y.D.At H w := by
  cases t with
  | nm z =>
    obtain ⟨a, ys, rfl, ha, v0, ys1, rfl, h0, v1, ys2, rfl, h1, h2⟩ := h
    cases (show ys2 = [] from h2)
    cases (show v0 = .str "name" from h0)
    cases (show v1 = .str z from h1)
    exact ⟨a, _, rfl, ha, rfl⟩
  | con z l =>
    obtain ⟨a, ys, rfl, ha, v0, ys1, rfl, h0, v1, ys2, rfl, h1, v2, ys3, rfl, h2, h3⟩ := h
    cases (show ys3 = [] from h3)
    cases (show v0 = .str "con" from h0)
    cases (show v1 = .str z from h1)
    obtain ⟨al, xs, rfl, hal, hxs⟩ := h2
    exact ⟨a, _, rfl, ha, al, xs, rfl, hal, hxs⟩
  | fn x y =>
    obtain ⟨a, ys, rfl, ha, v0, ys1, rfl, h0, v1, ys2, rfl, h1, v2, ys3, rfl, h2, h3⟩ := h
    cases (show ys3 = [] from h3)
    cases (show v0 = .str "fun" from h0)
    exact ⟨a, _, rfl, ha, v1, v2, rfl, h1, h2⟩
section
variable {P : Program} {w : World} {K : PySem.W.Frag} {mg : Str → Option Value} {base : Heap}
abbrev sLTx : Stmt := topS 58
theorem scLTx : FnScope ["tree", "needed", "part"] ["tree", "needed"] (defScope sLTx) := ⟨rfl, rfl, rfl, by decide +kernel, rfl, by decide +kernel, by decide +kernel⟩
def spLTx (n : Nat) : Sp := fun vs H Q _ => ∃ (v : V) (t : Ty) (e m : Nat), vs = [v, .int (m : Int)] ∧ t.D.At H v ∧ t.ok e ∧ e < n ∧ e ≤ 4 ∧ ∀ (z : Str) (H' : Hp), Same H H' → cs z = t.kc m → Q (.str z) H'
theorem c_ltx1 {f : Addr} {fd : FuncData} {n : Nat} (c_law_kind_text : C8.Cal P w K mg base (n + 2) "_law_kind_text" (spLTx n) []) (c_law_wrapped : C8.Cal P w K mg base 1 "_law_wrapped" spLWr []) (F : Fun K "_law_kind_text" "_law_kind_text" sLTx f fd) (b : Binds K fd ["tree", "needed"] []) (hm : mg "_law_kind_text" = some (.ref f)) : C8.Cal P w K mg base (n + 3) "_law_kind_text" (spLTx (n + 1)) [] := by
  refine cal_of F hm b scLTx (fun vs H Q E h => ?_) (fun cdv A outer s H vs Q E hr h => ?_)
  · obtain ⟨v, t, e, m, rfl, _⟩ := h
    rfl
  obtain ⟨v, t, e, m, rfl, hat, hok, hen, he4, q⟩ := h
  have hu64 := hr.units
  have hnds := nds_le t e hok
  have hp := pow10 he4
  refine ⟨_, (pss_cons (ps_if (PW.pt (pw_or (pt_cmpR op_eq (pe_ix ix_tup (pv 0) pe_int (fun _ _ => rfl)) pe_str (nomark _)) (pw_or1 (PW.pt (pw_and (pt_cmpR op_eq (pe_ix ix_tup (pv 0) pe_int (fun _ _ => rfl)) pe_str (nomark _)) (pw_and1 (pt_cmpR (op_eqD hu64) (pe_ix ix_tup (pv 0) pe_int (fun _ _ => rfl)) (pe_tup pa_nil) (nomark _))))))))
      (pss_one (ps_ret (pe_ix ix_tup (pv 0) pe_int (fun _ _ => rfl))))
      pss_nil)
    (pss_cons (ps_if (pt_cmpR op_eq (pe_ix ix_tup (pv 0) pe_int (fun _ _ => rfl)) pe_str (nomark _))
      (pss_one (ps_ret (C8.pe_c c_law_wrapped hr (by omega) rfl (pa_cons (pe_op op_add_str (pe_op op_add_str (C8.pe_c c_law_kind_text hr (by omega) rfl (pa_cons (pe_ix ix_tup (pv 0) pe_int (fun _ _ => rfl)) (pa_cons pe_int pa_nil))) pe_str) (C8.pe_c c_law_kind_text hr (by omega) rfl (pa_cons (pe_ix ix_tup (pv 0) pe_int (fun _ _ => rfl)) (pa_cons pe_int pa_nil)))) (pa_cons pe_int (pa_cons (pv 1) pa_nil))))))
      pss_nil)
    (pss_one (ps_ret (C8.pe_c c_law_wrapped hr (by omega) rfl (pa_cons (pe_op op_add_str (pe_ix ix_tup (pv 0) pe_int (fun _ _ => rfl)) (pe_bm PySem.F.plainAttrs_str PySem.F.slot_str_join PySem.F.type_str_join mt_join pe_str (pa_cons (pe_lc (own := [("part", 2)]) (g := gName 2) (tt := tYes) rfl scLTx.nd (pi_tup (pe_ix ix_tup (pv 0) pe_int (fun _ _ => rfl))) (blkOk_by (own := [("part", 2)]) (N := ["tree", "needed", "part"]) (sc := defScope sLTx) (by decide +kernel)) (fun _ _ _ _ _ => (pg_name (i := 2) scLTx.nd rfl (Or.inl rfl))) (fun _ _ _ _ _ => pts_nil) (fun _ _ _ _ _ => (pe_op op_add_str pe_str (C8.pe_c c_law_kind_text hr (by omega) rfl (pa_cons (pv 2) (pa_cons pe_int pa_nil)))))) pa_nil))) (pa_cons pe_int (pa_cons (pv 1) pa_nil)))))))), ?_⟩
  obtain ⟨a, ys, rfl, ha, hty⟩ := ty_at hat
  cases t with
  | nm z =>
    cases hty
    refine ⟨_, rfl, a, _, 0, _, rfl, rfl, SqT.of ha, at0 _ _, rfl, _, rfl, ?_⟩
    rw [wtt]
    refine iteT (iteT ?_)
    exact ⟨_, rfl, a, _, 1, _, rfl, rfl, SqT.of ha, at1 _ _ _, q z H (fun _ _ h => h) rfl⟩
  | con z l =>
    obtain ⟨al, xs, rfl, hal, hxs⟩ := hty
    have hxl := ats_len hxs
    rw [ds_map, List.length_map] at hxl
    have h2 : z ∈ KCONS ∧ l.length ≤ 2 ∧ (l = [] ∨ ∃ e', e = e' + 1 ∧ Ty.oks e' l) := by
      cases e with
      | zero => exact ⟨hok.1, by rw [hok.2]; exact Nat.zero_le _, .inl hok.2⟩
      | succ e => exact ⟨hok.1, hok.2.1, .inr ⟨e, rfl, hok.2.2⟩⟩
    obtain ⟨hz, hl2, hl⟩ := h2
    have hlay : ∃ e', Ty.oks e' l ∧ e' ≤ e := by
      rcases hl with rfl | ⟨e', rfl, h⟩
      · exact ⟨0, trivial, Nat.zero_le _⟩
      · exact ⟨e', h, Nat.le_succ _⟩
    obtain ⟨e2, ho2, he2⟩ := hlay
    obtain ⟨l1, l2⟩ := tys_lay l e2 ho2
    refine ⟨_, rfl, a, _, 0, _, rfl, rfl, SqT.of ha, at0 _ _, rfl, _, rfl, ?_⟩
    rw [wne (show ¬ ("con" : Str) = "name" by decide +kernel)]
    refine iteF ?_
    refine ⟨_, rfl, a, _, 0, _, rfl, rfl, SqT.of ha, at0 _ _, rfl, _, rfl, ?_⟩
    rw [wtt]
    refine iteT ?_
    refine ⟨_, rfl, a, _, 2, _, rfl, rfl, SqT.of ha, at2 _ _ _ _, by show 0 ≤ sizeLine; decide, fun t0 ht0 => ?_⟩
    have s0 := same_new ht0 (.tup [])
    have e0 : upd H t0 (.tup []) t0 = some (.tup []) := upd_same
    have ha0 := s0 _ _ ha
    have hal0 := s0 _ _ hal
    have hxs0 := hxs.keep (tk_same s0)
    generalize upd H t0 (.tup []) = H0 at s0 e0 ha0 hal0 hxs0 ⊢
    refine ⟨_, _, .tup (SqT.of hal0) (Td.Ats.dp hxs0), .tup (SqT.of e0) .nil, Td.shapedT l1 (by omega), Td.shapedT (l := []) rfl (by decide), _, rfl, ?_⟩
    show if PyData.eqv (.tuple (Td.Ds (Ty.Ds l))) (.tuple []) = true then _ else _
    rw [ds_nil]
    cases l with
    | nil =>
      refine iteT ?_
      refine ⟨_, rfl, a, _, 1, _, rfl, rfl, SqT.of ha0, at1 _ _ _, q z H0 s0 ?_⟩
      show cs z = parC (false && _) (cs z ++ [])
      rw [List.append_nil]
      rfl
    | cons t1 l1' =>
      generalize hll : t1 :: l1' = l at *
      have hne : l.isEmpty = false := by rw [← hll]; rfl
      rw [hne]
      refine iteF ?_
      refine ⟨_, rfl, a, _, 0, _, rfl, rfl, SqT.of ha0, at0 _ _, rfl, _, rfl, ?_⟩
      rw [wne (show ¬ ("con" : Str) = "fun" by decide +kernel)]
      refine iteF ?_
      obtain ⟨e', rfl, ho⟩ : ∃ e', e = e' + 1 ∧ Ty.oks e' l := hl.resolve_left fun z => by rw [z] at hne; cases hne
      refine ⟨_, rfl, a, _, 1, _, rfl, rfl, SqT.of ha0, at1 _ _ _, rfl, _, rfl, a, _, 2, _, rfl, rfl, SqT.of ha0, at2 _ _ _ _, al, rfl, ⟨_, SqT.of hal0⟩, fun D hD => ?_⟩
      refine lc_tup (a := al) (xs := xs) (fun i G => Same H0 G ∧ ∃ ps : List Str, G D = some (.lst (ps.map V.str)) ∧ ps.map cs = (l.take i).map (fun t => 32 :: t.kc 2) ∧ ps.length = i) ⟨same_new hD _, [], upd_same, rfl, rfl⟩ (fun i G _ ⟨h, _⟩ => SqT.of (h _ _ hal0)) ?_ ?_
      · rintro i x G hx ⟨sG, ps, eD, hps, hpl⟩
        obtain ⟨kk, hk1, hk2⟩ := ats_get hxs0 hx
        rw [ds_map, List.getElem?_map] at hk1
        obtain ⟨b, hb1, rfl⟩ := Option.map_eq_some_iff.mp hk1
        have hil : i < l.length := (List.getElem?_eq_some_iff.mp hb1).1
        have hob := oks_mem ho (List.mem_of_getElem? hb1)
        refine ⟨rfl, ?_⟩
        refine Lay2.tYes_if ?_
        refine ⟨_, rfl, x, b, e', 2, rfl, hk2.keep (tk_same sG), hob, by omega, by omega, fun z2 G2 s2 ez => ?_⟩
        have hzl : z2.length ≤ 1000 := by
          have h1 := (kw_small b e' 2 hob).2.2
          have h2 := nds_le b e' hob
          have h3 := pow10 (e := e') (by omega)
          have h4 : z2.length = (cs z2).length := rfl
          rw [h4, ez]
          omega
        have eD2 := s2 _ _ eD
        refine ⟨_, _, rfl, rfl, by have := szl (n := z2.length + 1) (by omega); have e9 : (" " : Str).length = 1 := by decide +kernel
                                   rw [e9]; omega, ps.map V.str, eD2, szl (by rw [List.length_map]; omega), same_upd hD (sameT sG s2) _, ps ++ [(" " : Str) ++ z2], by rw [upd_same, List.map_append]; rfl, ?_, by rw [List.length_append, hpl]; rfl⟩
        rw [List.map_append, hps, List.take_add_one, hb1, List.map_append]
        show _ ++ [cs ((" " : Str) ++ z2)] = _ ++ [32 :: b.kc 2]
        rw [cs_app, ez]
        rfl
      rintro G ⟨sG, ps, eD, hps, hpl⟩
      rw [hxl, List.take_length] at hps
      have hkcs : (ps.map cs).flatten = Ty.kcs l := by
        rw [hps, ← kcs_flat, List.map_map]
        rfl
      have hkl := (kws_small l e' ho).2.2
      have hnl := ndss_le l e' ho
      have hn2 : Ty.ndss l ≤ 64 := by
        have := hnds
        have e5 : (Ty.con z l).nds = 1 + Ty.ndss l := rfl
        omega
      have hzz := (kc_words z hz).2.1
      refine ⟨"", D, ps, rfl, rfl, .inl (SqL.of eD), ?_, ?_⟩
      · rw [len_flat, hkcs, show ("" : Str).length = 0 by decide +kernel]
        omega
      have hjl : (Txt.join "" ps).length ≤ 2000 := by
        show (cs (Txt.join "" ps)).length ≤ 2000
        rw [join_cs, hkcs]
        omega
      have hbig := szl (n := 3000) (by decide)
      refine ⟨_, _, rfl, rfl, by omega, ?_⟩
      refine ⟨_, rfl, _, 1, m, rfl, by rw [len_cat]; omega, fun z' ez => q z' G (sameT s0 sG) ?_⟩
      rw [ez, cs_app, join_cs, hkcs]
      show parC (decide (1 < m)) (cs z ++ Ty.kcs l) = parC (!l.isEmpty && decide (1 < m)) (cs z ++ Ty.kcs l)
      rw [hne]
      rfl
  | fn x y =>
    obtain ⟨u, w', rfl, hu, hw⟩ := hty
    obtain ⟨e', rfl⟩ : ∃ e', e = e' + 1 := by
      cases e with
      | zero => exact hok.elim
      | succ e => exact ⟨e, rfl⟩
    refine ⟨_, rfl, a, _, 0, _, rfl, rfl, SqT.of ha, at0 _ _, rfl, _, rfl, ?_⟩
    rw [wne (show ¬ ("fun" : Str) = "name" by decide +kernel)]
    refine iteF ?_
    refine ⟨_, rfl, a, _, 0, _, rfl, rfl, SqT.of ha, at0 _ _, rfl, _, rfl, ?_⟩
    rw [wne (show ¬ ("fun" : Str) = "con" by decide +kernel)]
    refine iteF (iteF ?_)
    refine ⟨_, rfl, a, _, 0, _, rfl, rfl, SqT.of ha, at0 _ _, rfl, _, rfl, ?_⟩
    rw [wtt]
    refine iteT ?_
    have len : ∀ (t : Ty) (k : Nat) (z2 : Str), t.ok e' → cs z2 = t.kc k → z2.length ≤ 1000 := fun t k z2 ho ez => by
      have h1 := (kw_small t e' k ho).2.2
      have h2 := nds_le t e' ho
      have h3 := pow10 (e := e') (by omega)
      have h4 : z2.length = (cs z2).length := rfl
      rw [h4, ez]
      omega
    have hbig := szl (n := 3000) (by decide)
    refine ⟨_, rfl, a, _, 1, _, rfl, rfl, SqT.of ha, at1 _ _ _, u, x, e', 1, rfl, hu, hok.1, by omega, by omega, fun z1 H1 s1 ez1 => ?_⟩
    have l1 := len x 1 z1 hok.1 ez1
    have e4 : (" -> " : Str).length = 4 := by decide +kernel
    refine ⟨_, _, rfl, rfl, by rw [e4]; omega, ?_⟩
    refine ⟨_, rfl, a, _, 2, _, rfl, rfl, SqT.of (s1 _ _ ha), at2 _ _ _ _, w', y, e', 0, rfl, hw.keep (tk_same s1), hok.2, by omega, by omega, fun z2 H2 s2 ez2 => ?_⟩
    have l2 := len y 0 z2 hok.2 ez2
    refine ⟨_, _, rfl, rfl, by rw [len_cat, e4]; omega, ?_⟩
    refine ⟨_, rfl, _, 0, m, rfl, by rw [len_cat, len_cat, e4]; omega, fun z' ez => q z' H2 (sameT s1 s2) ?_⟩
    rw [ez, cs_app, cs_app, ez1, ez2, List.append_assoc]
    rfl
theorem c_ltx {f : Addr} {fd : FuncData} (c_law_wrapped : C8.Cal P w K mg base 1 "_law_wrapped" spLWr []) (F : Fun K "_law_kind_text" "_law_kind_text" sLTx f fd) (b : Binds K fd ["tree", "needed"] []) (hm : mg "_law_kind_text" = some (.ref f)) : ∀ n : Nat, C8.Cal P w K mg base (n + 2) "_law_kind_text" (spLTx n) []
  | 0 => cal_none F hm b fun vs H Q E h => by
    obtain ⟨v, t, e, m, _, _, _, h, _⟩ := h
    exact Nat.not_lt_zero _ h
  | n + 1 => c_ltx1 (c_ltx c_law_wrapped F b hm n) c_law_wrapped F b hm
end
end Toy

set_option Elab.async false
set_option linter.all false
set_option maxRecDepth 100000
set_option maxHeartbeats 4000000
/-! Part U: other texts of a type; the law. -/
namespace Toy
open PySem L2
open PyProof.Rows (envOfC)
theorem glue_sp : ∀ (ps : List Str) (acc : Array Nat), (ps.foldl (fun acc p => acc ++ (Str.ofString " ").cps ++ p.cps) acc).toList = acc.toList ++ (ps.map fun p => 32 :: cs p).flatten
  | [], acc => by simp
  | p :: ps, acc => by
    rw [List.foldl_cons, glue_sp ps]
    have e1 : (Str.ofString " ").cps = #[32] := by decide +kernel
    have e : (acc ++ (Str.ofString " ").cps ++ p.cps).toList = acc.toList ++ (32 :: cs p) := by
      rw [e1]
      show ((acc ++ #[32]) ++ p.cps).toList = _
      simp [cs]
    rw [e, List.map_cons, List.flatten_cons, List.append_assoc]
theorem join_sp (p : Str) (ps : List Str) : cs (Txt.join " " (p :: ps)) = cs p ++ (ps.map fun p => 32 :: cs p).flatten := by
  show (ps.foldl (fun acc p => acc ++ (Str.ofString " ").cps ++ p.cps) p.cps).toList = _
  rw [glue_sp]
theorem more_len : ∀ {ps : List (Ty × Str)}, (∀ q ∈ ps, q.2.length ≤ 20 * q.1.nds) → (ps.map fun q => 32 :: cs q.2).flatten.length ≤ 20 * Ty.ndss (ps.map (·.1)) + ps.length ∧ (ps.map fun q => q.2.length).sum ≤ 20 * Ty.ndss (ps.map (·.1))
  | [], _ => ⟨Nat.zero_le _, Nat.zero_le _⟩
  | q :: ps, h => by
    obtain ⟨h1, h2⟩ := more_len fun p hp => h p (List.mem_cons_of_mem _ hp)
    have h3 := h q (List.mem_cons_self ..)
    have h4 : q.2.length = (cs q.2).length := rfl
    rw [List.map_cons, List.map_cons, List.flatten_cons, List.length_append, List.length_cons, List.length_cons, List.map_cons, List.sum_cons]
    show _ ≤ 20 * (q.1.nds + Ty.ndss (ps.map (·.1))) + (ps.length + 1) ∧ _ ≤ 20 * (q.1.nds + Ty.ndss (ps.map (·.1)))
    omega
section
variable {P : Program} {w : World} {K : PySem.W.Frag} {mg : Str → Option Value} {base : Heap}
abbrev sLMore : Stmt := topS 59
theorem scLMore : FnScope ["draws", "tree", "needed", "text", "level", "part"] ["draws", "tree", "needed"] (defScope sLMore) := ⟨rfl, rfl, rfl, by decide +kernel, rfl, by decide +kernel, by decide +kernel⟩
def spLMore (n : Nat) : Sp := fun vs H Q _ => ∃ (p r : Addr) (v : V) (t : Ty) (e m : Nat), vs = [.ref p, v, .int (m : Int)] ∧ DrawsAt H p r ∧ t.D.At H v ∧ t.ok e ∧ e < n ∧ e ≤ 4 ∧ ∀ (z : Str) (H' : Hp), Keep p H H' → DrawsAt H' p r → TX (e + 1) m t (cs z) → z.length ≤ 20 * t.nds → Q (.str z) H'
theorem c_lmore1 {f : Addr} {fd : FuncData} {n : Nat} (T : TxtLw mg) (c_law_pick : C8.Cal P w K mg base 2 "_law_pick" spPick []) (c_law_more : C8.Cal P w K mg base (n + 3) "_law_more" (spLMore n) []) (F : Fun K "_law_more" "_law_more" sLMore f fd) (b : Binds K fd ["draws", "tree", "needed"] []) (hm : mg "_law_more" = some (.ref f)) : C8.Cal P w K mg base (n + 4) "_law_more" (spLMore (n + 1)) [] := by
  refine cal_of F hm b scLMore (fun vs H Q E h => ?_) (fun cdv A outer s H vs Q E hr h => ?_)
  · obtain ⟨p, r, v, t, e, m, rfl, _⟩ := h
    rfl
  obtain ⟨p, r, v, t, e, m, rfl, d0, hat, hok, hen, he4, q⟩ := h
  have hu64 := hr.units
  have hnds := nds_le t e hok
  have hp := pow10 he4
  refine ⟨_, (pss_cons (ps_set (i := 3) scLMore.nd rfl (Or.inl rfl) (pe_ix ix_tup (pv 1) pe_int (fun _ _ => rfl)))
    (pss_cons (ps_set (i := 4) scLMore.nd rfl (Or.inl rfl) pe_int)
    (C8.pss_cut (ps_if (pt_cmpR op_eq (pe_ix ix_tup (pv 1) pe_int (fun _ _ => rfl)) pe_str (nomark _))
      (pss_cons (ps_set (i := 3) scLMore.nd rfl (Or.inl rfl) (pe_op op_add_str (pe_op op_add_str (C8.pe_c c_law_more hr (by omega) rfl (pa_cons (pv 0) (pa_cons (pe_ix ix_tup (pv 1) pe_int (fun _ _ => rfl)) (pa_cons pe_int pa_nil)))) (pe_ix ix_list (pe_lst (pa_strs (zs := ["->", " -> ", "\n->"]) rfl)) (C8.pe_c c_law_pick hr (by omega) rfl (pa_cons (pv 0) (pa_cons pe_int pa_nil))) (fun _ _ => rfl))) (C8.pe_c c_law_more hr (by omega) rfl (pa_cons (pv 0) (pa_cons (pe_ix ix_tup (pv 1) pe_int (fun _ _ => rfl)) (pa_cons pe_int pa_nil))))))
    (pss_one (ps_set (i := 4) scLMore.nd rfl (Or.inl rfl) pe_int)))
      (pss_one (ps_if (PW.pt (pw_and (pt_cmpR op_eq (pe_ix ix_tup (pv 1) pe_int (fun _ _ => rfl)) pe_str (nomark _)) (pw_and1 (pt_cmpR (op_neD hu64) (pe_ix ix_tup (pv 1) pe_int (fun _ _ => rfl)) (pe_tup pa_nil) (nomark _)))))
      (pss_cons (ps_set (i := 3) scLMore.nd rfl (Or.inl rfl) (pe_bm PySem.F.plainAttrs_str PySem.F.slot_str_join PySem.F.type_str_join mt_join pe_str (pa_cons (pe_op op_cat (pe_lst (pa_cons (pe_ix ix_tup (pv 1) pe_int (fun _ _ => rfl)) pa_nil)) (pe_lc (own := [("part", 5)]) (g := gName 5) (tt := tYes) rfl scLMore.nd (pi_tup (pe_ix ix_tup (pv 1) pe_int (fun _ _ => rfl))) (blkOk_by (own := [("part", 5)]) (N := ["draws", "tree", "needed", "text", "level", "part"]) (sc := defScope sLMore) (by decide +kernel)) (fun _ _ _ _ _ => (pg_name (i := 5) scLMore.nd rfl (Or.inl rfl))) (fun _ _ _ _ _ => pts_nil) (fun _ _ _ _ _ => (C8.pe_c c_law_more hr (by omega) rfl (pa_cons (pv 0) (pa_cons (pv 5) (pa_cons pe_int pa_nil))))))) pa_nil)))
    (pss_one (ps_set (i := 4) scLMore.nd rfl (Or.inl rfl) pe_int)))
      pss_nil)))
    (pss_cons (ps_if (PW.pt (pw_or (pt_cmpR op_lt (pv 4) (pv 2) (nomark _)) (pw_or1 (pt_cmpR op_eq (C8.pe_c c_law_pick hr (by omega) rfl (pa_cons (pv 0) (pa_cons pe_int pa_nil))) pe_int (nomark _)))))
      (pss_one (ps_ret (pe_op op_add_str (pe_op op_add_str pe_str (pv 3)) pe_str)))
      pss_nil)
    (pss_one (ps_ret (pv 3))))))), ?_⟩
  obtain ⟨a, ys, rfl, ha, hty⟩ := ty_at hat
  obtain ⟨y0, y1, yr, rfl⟩ : ∃ y0 y1 yr, ys = y0 :: y1 :: yr := by
    cases t with
    | nm z => exact ⟨_, _, _, hty⟩
    | con z l => obtain ⟨al, xs, h, _⟩ := hty; exact ⟨_, _, _, h⟩
    | fn x y => obtain ⟨u, w', h, _⟩ := hty; exact ⟨_, _, _, h⟩
  refine ⟨_, rfl, a, _, 1, _, rfl, rfl, SqT.of ha, at1 _ _ _, ?_⟩
  refine ⟨fun σ G => ∃ (z : Str) (lv : Nat) (v5 : Option V), σ = [some (.ref p), some (.ref a), some (.int (m : Int)), some (.str z), some (.int (lv : Int)), v5] ∧ Keep p H G ∧ DrawsAt G p r ∧ (∀ j ≤ lv, TX e j t (cs z)) ∧ z.length + 3 ≤ 20 * t.nds, ?_, ?_⟩
  · cases t with
    | nm z =>
      cases hty
      have hz : z ∈ KNAMES := by cases e <;> exact hok
      refine ⟨_, rfl, a, _, 0, _, rfl, rfl, SqT.of ha, at0 _ _, rfl, _, rfl, ?_⟩
      rw [wne (show ¬ ("name" : Str) = "fun" by decide +kernel)]
      refine iteF ?_
      refine ⟨_, rfl, a, _, 0, _, rfl, rfl, SqT.of ha, at0 _ _, rfl, _, rfl, ?_⟩
      rw [wne (show ¬ ("name" : Str) = "con" by decide +kernel)]
      refine iteF (iteF ?_)
      have := (kn_words z hz).2.1
      exact ⟨z, 2, none, rfl, Keep.refl _ _, d0, fun _ _ => tx_nm hz, by show z.length + 3 ≤ 20 * 1; omega⟩
    | con z l =>
      obtain ⟨al, xs, hye, hal, hxs⟩ := hty
      cases hye
      have hxl := ats_len hxs
      rw [ds_map, List.length_map] at hxl
      have h2 : z ∈ KCONS ∧ l.length ≤ 2 ∧ (l = [] ∨ ∃ e', e = e' + 1 ∧ Ty.oks e' l) := by
        cases e with
        | zero => exact ⟨hok.1, by rw [hok.2]; exact Nat.zero_le _, .inl hok.2⟩
        | succ e => exact ⟨hok.1, hok.2.1, .inr ⟨e, rfl, hok.2.2⟩⟩
      obtain ⟨hz, hl2, hl⟩ := h2
      have hlay : ∃ e', Ty.oks e' l ∧ e' ≤ e := by
        rcases hl with rfl | ⟨e', rfl, h⟩
        · exact ⟨0, trivial, Nat.zero_le _⟩
        · exact ⟨e', h, Nat.le_succ _⟩
      obtain ⟨e2, ho2, he2⟩ := hlay
      obtain ⟨l1, l2⟩ := tys_lay l e2 ho2
      have hzl := (kc_words z hz).2.1
      refine ⟨_, rfl, a, _, 0, _, rfl, rfl, SqT.of ha, at0 _ _, rfl, _, rfl, ?_⟩
      rw [wne (show ¬ ("con" : Str) = "fun" by decide +kernel)]
      refine iteF ?_
      refine ⟨_, rfl, a, _, 0, _, rfl, rfl, SqT.of ha, at0 _ _, rfl, _, rfl, ?_⟩
      rw [wtt]
      refine iteT ?_
      refine ⟨_, rfl, a, _, 2, _, rfl, rfl, SqT.of ha, at2 _ _ _ _, by show 0 ≤ sizeLine; decide, fun t0 ht0 => ?_⟩
      have s0 := same_new ht0 (.tup [])
      have e0 : upd H t0 (.tup []) t0 = some (.tup []) := upd_same
      have ha0 := s0 _ _ ha
      have hal0 := s0 _ _ hal
      have hxs0 := hxs.keep (tk_same s0)
      have d1 := d0.same s0
      generalize upd H t0 (.tup []) = H0 at s0 e0 ha0 hal0 hxs0 d1 ⊢
      refine ⟨_, _, .tup (SqT.of hal0) (Td.Ats.dp hxs0), .tup (SqT.of e0) .nil, Td.shapedT l1 (by omega), Td.shapedT (l := []) rfl (by decide), _, rfl, ?_⟩
      show if (!PyData.eqv (.tuple (Td.Ds (Ty.Ds l))) (.tuple [])) = true then _ else _
      rw [ds_nil]
      cases l with
      | nil =>
        refine iteF ?_
        refine ⟨z, 2, none, rfl, Keep.same s0, d1, fun j _ => ?_, by show z.length + 3 ≤ 20 * (1 + 0); omega⟩
        have := tx_con (d := e) (n := j) (l := []) hz (.inl rfl) (fun q h => absurd h List.not_mem_nil)
        rw [List.map_nil, List.map_nil, List.flatten_nil, List.append_nil] at this
        exact this
      | cons t1 l1' =>
        generalize hll : t1 :: l1' = l at *
        have hne : l.isEmpty = false := by rw [← hll]; rfl
        rw [hne]
        refine iteT ?_
        obtain ⟨e', rfl, ho⟩ : ∃ e', e = e' + 1 ∧ Ty.oks e' l := hl.resolve_left fun z => by rw [z] at hne; cases hne
        refine ⟨rfl, _, rfl, a, _, 1, _, rfl, rfl, SqT.of ha0, at1 _ _ _, by show 1 ≤ sizeLine; decide, fun L hL => ?_⟩
        have sL := same_new hL (.lst [.str z])
        have eL : upd H0 L (.lst [.str z]) L = some (.lst [.str z]) := upd_same
        have haL := sL _ _ ha0
        have halL := sL _ _ hal0
        have hxsL := hxs0.keep (tk_same sL)
        have d2 := d1.same sL
        have s0L := sameT s0 sL
        generalize upd H0 L (.lst [.str z]) = H1 at sL eL haL halL hxsL d2 s0L ⊢
        obtain ⟨nLp, nLr⟩ := d1.fresh hL
        refine ⟨_, rfl, a, _, 2, _, rfl, rfl, SqT.of haL, at2 _ _ _ _, al, rfl, ⟨_, SqT.of halL⟩, fun D hD => ?_⟩
        have npal : al ≠ p := fun e => d0.notup _ (by rw [← e]; exact hal)
        obtain ⟨nDp, nDr⟩ := d2.fresh hD
        have nDL : L ≠ D := ne_of_none eL hD
        refine lc_tup (a := al) (xs := xs) (fun i G => Keep p H1 G ∧ DrawsAt G p r ∧ ∃ ps : List (Ty × Str), G D = some (.lst (ps.map fun q => V.str q.2)) ∧ ps.map (·.1) = l.take i ∧ ps.length = i ∧ (∀ q ∈ ps, TX (e' + 1) 2 q.1 (cs q.2)) ∧ ∀ q ∈ ps, q.2.length ≤ 20 * q.1.nds) ⟨Keep.same (same_new hD _), d2.same (same_new hD _), [], upd_same, rfl, rfl, fun q h => absurd h List.not_mem_nil, fun q h => absurd h List.not_mem_nil⟩ (fun i G _ ⟨h, _⟩ => SqT.of (h _ _ npal halL)) ?_ ?_
        · rintro i x G hx ⟨kG, dG, ps, eD, hp1, hp2, hp3, hp4⟩
          obtain ⟨kk, hk1, hk2⟩ := ats_get hxsL hx
          rw [ds_map, List.getElem?_map] at hk1
          obtain ⟨b, hb1, rfl⟩ := Option.map_eq_some_iff.mp hk1
          have hob := oks_mem ho (List.mem_of_getElem? hb1)
          have hil : i < l.length := (List.getElem?_eq_some_iff.mp hb1).1
          refine ⟨rfl, ?_⟩
          refine Lay2.tYes_if ?_
          refine ⟨_, rfl, _, rfl, p, r, x, b, e', 2, rfl, dG, hk2.keep (kG.tk d2), hob, by omega, by omega, fun z2 G2 k2 dd2 t2 hz2 => ?_⟩
          have eD2 := k2 _ _ nDp eD
          refine ⟨_, eD2, szl (by rw [List.length_map]; omega), ?_, dd2.off nDp nDr _, ps ++ [(b, z2)], by rw [upd_same, List.map_append]; rfl, ?_, by rw [List.length_append, hp2]; rfl, ?_, ?_⟩
          · intro b' u nb hb
            rw [upd_ne (fun z => by rw [z, hD] at hb; cases hb)]
            exact k2 _ _ nb (kG _ _ nb hb)
          · rw [List.map_append, hp1, List.take_add_one, hb1]
            rfl
          · intro q hq
            rcases List.mem_append.mp hq with h | h
            · exact hp3 q h
            · rw [List.mem_singleton.mp h]; exact t2
          · intro q hq
            rcases List.mem_append.mp hq with h | h
            · exact hp4 q h
            · rw [List.mem_singleton.mp h]; exact hz2
        rintro G ⟨kG, dG, ps, eD, hp1, hp2, hp3, hp4⟩
        rw [hxl, List.take_length] at hp1
        rw [hxl] at hp2
        obtain ⟨m1, m2⟩ := more_len hp4
        rw [hp1] at m1 m2
        have hnl := ndss_le l e' ho
        have hn2 : Ty.ndss l ≤ 64 := by
          have := hnds
          have e5 : (Ty.con z l).nds = 1 + Ty.ndss l := rfl
          omega
        have eLG := kG _ _ nLp eL
        have big := szl (n := 3000) (by decide)
        refine ⟨L, D, _, _, rfl, rfl, eLG, eD, by rw [List.length_map]; show 1 + _ ≤ _; omega, fun J hJ => ?_⟩
        have sJ := same_new hJ (.lst ([V.str z] ++ ps.map fun q => V.str q.2))
        have eJ : upd G J (.lst ([V.str z] ++ ps.map fun q => V.str q.2)) J = some (.lst ((z :: ps.map (·.2)).map V.str)) := by
          rw [upd_same, List.map_cons, List.map_map]
          rfl
        refine ⟨" ", J, z :: ps.map (·.2), rfl, rfl, .inl (SqL.of eJ), ?_, ?_⟩
        · rw [List.map_cons, List.sum_cons, List.map_map, List.length_cons, List.length_map, show (" " : Str).length = 1 by decide +kernel]
          show z.length + (ps.map fun q => q.2.length).sum + _ ≤ 16777216
          omega
        have ej : cs (Txt.join " " (z :: ps.map (·.2))) = cs z ++ (ps.map fun q => 32 :: cs q.2).flatten := by
          rw [join_sp, List.map_map]
          rfl
        refine ⟨_, 1, _, rfl, ((Keep.same s0L).trans kG).trans (Keep.same sJ), dG.same sJ, fun j hj => ?_, ?_⟩
        · have := tx_con (d := e' + 1) (n := j) (l := ps.map fun q => (q.1, cs q.2)) hz (.inr hj) (fun q hq => by obtain ⟨q', hq', rfl⟩ := List.mem_map.mp hq; exact hp3 q' hq')
          rw [List.map_map, List.map_map] at this
          rw [ej, ← hp1]
          exact this
        · show (cs (Txt.join " " (z :: ps.map (·.2)))).length + 3 ≤ 20 * (1 + Ty.ndss l)
          rw [ej, List.length_append]
          have : z.length = (cs z).length := rfl
          omega
    | fn x y =>
      obtain ⟨u, w', hye, hu, hw⟩ := hty
      cases hye
      obtain ⟨e', rfl⟩ : ∃ e', e = e' + 1 := by
        cases e with
        | zero => exact hok.elim
        | succ e => exact ⟨e, rfl⟩
      refine ⟨_, rfl, a, _, 0, _, rfl, rfl, SqT.of ha, at0 _ _, rfl, _, rfl, ?_⟩
      rw [wtt]
      refine iteT ?_
      have nx := nds_le x e' hok.1
      have ny := nds_le y e' hok.2
      have hp' := pow10 (e := e') (by omega)
      have big := szl (n := 3000) (by decide)
      refine ⟨_, rfl, _, rfl, a, _, 1, _, rfl, rfl, SqT.of ha, at1 _ _ _, p, r, y1, x, e', 1, rfl, d0, hu, hok.1, by omega, by omega, fun z1 H1 k1 d1 t1 l1 => ?_⟩
      refine pick_list (zs := [("->" : Str), " -> ", "\n->"]) rfl rfl (by decide) (by decide) d1 fun ar har H2 k2 d2 => ?_
      have har2 : cs ar ∈ arrows ∧ ar.length ≤ 4 := by
        simp only [List.mem_cons, List.not_mem_nil, or_false] at har
        rcases har with rfl | rfl | rfl <;> decide +kernel
      have k12 := k1.trans k2
      have npa : a ≠ p := fun e => d0.notup _ (by rw [← e]; exact ha)
      refine ⟨_, _, rfl, rfl, by omega, ?_⟩
      refine ⟨_, rfl, _, rfl, a, _, 2, _, rfl, rfl, SqT.of (k12 _ _ npa ha), at2 _ _ _ _, p, r, w', y, e', 0, rfl, d2, hw.keep (k12.tk d0), hok.2, by omega, by omega, fun z2 H3 k3 d3 t3 l3 => ?_⟩
      refine ⟨_, _, rfl, rfl, by rw [len_cat]; omega, ?_⟩
      refine ⟨_, 0, none, rfl, k12.trans k3, d3, fun j hj => ?_, ?_⟩
      · rw [show j = 0 by omega, cs_app, cs_app, List.append_assoc]
        exact tx_fn har2.1 t1 t3
      · rw [len_cat, len_cat]
        show _ ≤ 20 * (1 + (x.nds + y.nds))
        omega
  rintro σ G ⟨z, lv, v5, rfl, kG, dG, hx, hz⟩
  have big := szl (n := 3000) (by decide)
  have e2 : ("( " : Str).length = 2 := by decide +kernel
  have e1 : (")" : Str).length = 1 := by decide +kernel
  have pa : ∀ G' : Hp, Keep p H G' → DrawsAt G' p r → Q (.str ((("( " : Str) ++ z) ++ (")" : Str))) G' := fun G' k' d' => by
    refine q _ G' k' d' ?_ (by rw [len_cat, len_cat, e2, e1]; omega)
    have e := tx_par (n := m) (s := [32]) (by decide +kernel) (hx 0 (Nat.zero_le _))
    rw [cs_app, cs_app, show cs "( " = [40, 32] by decide +kernel, show cs ")" = [41] by decide +kernel]
    exact e
  refine ⟨_, rfl, _, rfl, _, _, rfl, rfl, _, rfl, ?_⟩
  show if decide ((lv : Int) < (m : Int)) = true then _ else _
  by_cases c : lv < m
  · rw [decide_eq_true (show (lv : Int) < (m : Int) by omega)]
    refine iteT (iteT ?_)
    exact ⟨_, rfl, _, _, rfl, rfl, by rw [e2]; omega, _, _, rfl, rfl, by rw [len_cat, e2, e1]; omega, pa G kG dG⟩
  · rw [decide_eq_false (show ¬ (lv : Int) < (m : Int) by omega)]
    refine iteF ?_
    refine ⟨_, rfl, p, r, 3, rfl, by decide, dG, fun u H1 u0 u1 k1 d1 => ⟨rfl, _, rfl, ?_⟩⟩
    refine ite2 (fun _ => ?_) (fun _ => ?_)
    · exact ⟨_, rfl, _, _, rfl, rfl, by rw [e2]; omega, _, _, rfl, rfl, by rw [len_cat, e2, e1]; omega, pa H1 (kG.trans k1) d1⟩
    · exact ⟨_, rfl, q z H1 (kG.trans k1) d1 ((hx m (by omega)).mono (Nat.le_succ _)) (by omega)⟩
theorem c_lmore {f : Addr} {fd : FuncData} (T : TxtLw mg) (c_law_pick : C8.Cal P w K mg base 2 "_law_pick" spPick []) (F : Fun K "_law_more" "_law_more" sLMore f fd) (b : Binds K fd ["draws", "tree", "needed"] []) (hm : mg "_law_more" = some (.ref f)) : ∀ n : Nat, C8.Cal P w K mg base (n + 3) "_law_more" (spLMore n) []
  | 0 => cal_none F hm b fun vs H Q E h => by
    obtain ⟨p, r, v, t, e, m, _, _, _, _, h, _⟩ := h
    exact Nat.not_lt_zero _ h
  | n + 1 => c_lmore1 T c_law_pick (c_lmore T c_law_pick F b hm n) F b hm
abbrev sLaw : Stmt := topS 60
theorem scLaw : FnScope ["script", "draws", "k", "tree", "text"] ["script"] (defScope sLaw) := ⟨rfl, rfl, rfl, by decide +kernel, rfl, by decide +kernel, by decide +kernel⟩
def spLaw (K : PySem.W.Frag) : Sp := fun vs H Q _ => ∃ (a : Addr) (ns : List Int), vs = [.ref a] ∧ SqL K H a (ns.map V.int) ∧ ns.length ≤ 63 ∧ ∀ H', Q (.bl true) H'
theorem c_law {f : Addr} {fd : FuncData} (T : TxtLw mg) (c_law_stream : C8.Cal P w K mg base 2 "_law_stream" (spStream K) []) (c_law_kind : C8.Cal P w K mg base 8 "_law_kind" (spLKind 4) []) (c_law_kind_text : C8.Cal P w K mg base 6 "_law_kind_text" (spLTx 4) []) (c_law_more : C8.Cal P w K mg base 7 "_law_more" (spLMore 4) [])
    (cprint_kind : C8.Cal P w K mg base 5 "print_kind" spPrint []) (cparse_kind : C8.Cal P w K mg base 30 "parse_kind" spParse []) (F : Fun K "law" "law" sLaw f fd) : FnOk P w K mg base CX0 31 f fd ["script"] (spLaw K) := by
  refine F.ok scLaw (fun vs H Q E h => ?_) (fun cdv A outer s H vs Q E hr h => ?_)
  · obtain ⟨a, ns, rfl, _⟩ := h
    rfl
  obtain ⟨a, ns, rfl, hS, h63, q⟩ := h
  have hu := hu_of hr
  have hu64 := hr.units
  refine ⟨_, (pss_cons (ps_set (i := 1) scLaw.nd rfl (Or.inl rfl) (C8.pe_c c_law_stream hr (by decide) rfl (pa_cons (pv 0) (pa_cons pe_int pa_nil))))
    (pss_cons (ps_for PassesOwn.never rfl (pi_range1 rfl T.zrange (pa_cons (pe_callB (call_min2 rfl) rfl T.zmin boot_min (pa_cons pe_int (pa_cons (pe_op op_add pe_int (pe_op op_fdiv (pe_callB call_len_seq rfl T.zlen PySem.boot_len (pa_cons (pe_dget hu (pv 1) pe_str (fun _ _ => rfl)) pa_nil)) pe_int)) pa_nil))) pa_nil)) (pg_name (i := 2) scLaw.nd rfl (Or.inl rfl))
      (pss_cons (ps_set (i := 3) scLaw.nd rfl (Or.inl rfl) (C8.pe_c c_law_kind hr (by decide) rfl (pa_cons (pv 1) (pa_cons pe_int pa_nil))))
    (pss_cons (ps_set (i := 4) scLaw.nd rfl (Or.inl rfl) (C8.pe_c c_law_kind_text hr (by decide) rfl (pa_cons (pv 3) (pa_cons pe_int pa_nil))))
    (pss_cons (ps_if (PW.pt (pw_or (pt_cmpR op_ne (C8.pe_c cprint_kind hr (by decide) rfl (pa_cons (pv 3) pa_nil)) (pv 4) (nomark _)) (pw_or1 (pt_cmpR (op_neD hu64) (C8.pe_c cparse_kind hr (by decide) rfl (pa_cons (pv 4) pa_nil)) (pv 3) (nomark _)))))
      (pss_one (ps_ret pe_bl))
      pss_nil)
    (pss_one (ps_if (pt_cmpR (op_neD hu64) (C8.pe_c cparse_kind hr (by decide) rfl (pa_cons (C8.pe_c c_law_more hr (by decide) rfl (pa_cons (pv 1) (pa_cons (pv 3) (pa_cons pe_int pa_nil)))) pa_nil)) (pv 3) (nomark _))
      (pss_one (ps_ret pe_bl))
      pss_nil))))))
    (pss_one (ps_ret pe_bl)))), ?_⟩
  refine ⟨_, rfl, a, ns, 200, rfl, hS, h63, by decide, by decide, fun p r H1 hp s1 d1 => ?_⟩
  obtain ⟨row, i, zz, hpd, hrow⟩ := id d1
  refine ⟨_, rfl, p, _, rfl, (dk_row r _ zz ▸ DGet.k (k := Sum.inr "row") hpd), r, _, rfl, .inl (SqL.of hrow), _, _, rfl, rfl, ⟨by decide, by decide⟩, _, _, rfl, rfl, _, _, rfl, _, rfl, ?_, ?_, for_range
    (fun (k : Nat) σ H3 => ∃ (v2 v3 v4 : Option V), σ = [some (.ref a), some (.ref p), v2, v3, v4] ∧ DrawsAt H3 p r) ⟨none, none, none, rfl, d1⟩ ?_ ?_⟩
  · split <;> omega
  · split <;> omega
  · rintro k σ H3 hk ⟨v2, v3, v4, rfl, d3⟩
    refine ⟨_, rfl, p, r, 3, 3, rfl, by decide, by decide, d3, fun v t H4 k4 d4 a4 o4 => ?_⟩
    have hnds := nds_le t 3 o4
    obtain ⟨k1, k2, k3⟩ := kw_small t 3 0 o4
    obtain ⟨l1, l2⟩ := ty_lay t 3 o4
    have sh := Td.shaped l1 (by omega)
    have h16 : 2 ^ (3 + 1) = 16 := by decide
    refine ⟨_, rfl, v, t, 3, 0, rfl, a4, o4, by decide, by decide, fun z H5 s5 ez => ?_⟩
    have d5 := d4.same s5
    have a5 := a4.keep (tk_same s5)
    have hzl : z.length ≤ 300 := by
      show (cs z).length ≤ _
      rw [ez]
      omega
    refine ⟨_, rfl, v, t, 3, rfl, a5, o4, by omega, k1, by omega, fun z' H6 s6 ez' => ?_⟩
    have ee : z' = z := str_ext (ez'.trans ez.symm)
    subst ee
    refine ⟨_, rfl, rfl, _, rfl, ?_⟩
    rw [wtt]
    refine iteF ?_
    have d6 := d5.same s6
    refine ⟨_, rfl, z', t, rfl, by rw [ez]; exact (tx_kc 3 t 0 o4).mono (by decide), by omega, fun v7 H7 s7 a7 => ?_⟩
    have d7 := d6.same s7
    have at7 := a5.keep (tk_same (sameT s6 s7))
    refine ⟨_, rfl, _, _, a7.dp, at7.dp, sh, sh, _, rfl, ?_⟩
    rw [eqv_self sh]
    refine iteF ?_
    refine ⟨_, rfl, _, rfl, p, r, v, t, 3, 0, rfl, d7, at7, o4, by decide, by decide, fun z8 H8 k8 d8 t8 hz8 => ?_⟩
    refine ⟨z8, t, rfl, t8.mono (by decide), by omega, fun v9 H9 s9 a9 => ?_⟩
    have at9 := (at7.keep (k8.tk d7)).keep (tk_same s9)
    refine ⟨_, rfl, _, _, a9.dp, at9.dp, sh, sh, _, rfl, ?_⟩
    rw [eqv_self sh]
    refine iteF ?_
    exact ⟨_, _, _, rfl, d8.same s9⟩
  · rintro σ H3 ⟨v2, v3, v4, rfl, d3⟩
    exact q _
end
end Toy

set_option Elab.async false
set_option linter.all false
set_option maxRecDepth 100000
set_option maxHeartbeats 4000000
/-! Part V: written tuples and dicts; a method that is never reached. -/
namespace Toy
open PySem L2
open PyProof.Rows (envOfC)
theorem fand {a b : Bool} (h : (a && b) = true) : a = true ∧ b = true := by rwa [Bool.and_eq_true] at h
def strsAre : List Str → List Value → Bool
  | [], [] => true
  | z :: zs, .str x _ :: us => decide (x = z) && strsAre zs us
  | _, _ => false
theorem strsAre_ok : ∀ {zs : List Str} {us : List Value}, strsAre zs us = true → Vals (zs.map V.str) us
  | [], [], _ => .nil
  | [], _ :: _, h => by simp [strsAre] at h
  | _ :: _, [], h => by simp [strsAre] at h
  | z :: zs, u :: us, h => by
    cases u with
    | str x t =>
      simp only [strsAre, Bool.and_eq_true, decide_eq_true_eq] at h
      exact .cons ⟨t, by rw [h.1]⟩ (strsAre_ok h.2)
    | _ => simp [strsAre] at h
theorem written_tup {K : PySem.W.Frag} {a : Addr} {zs : List Str} {oc : Value} {od : Option Addr} {its : Array Value} {n : Nat} {sl : Array (Option Value)} (hz : zs.length ≤ 1000) (l : K.lookup a = some ⟨oc, od, .seq its n, sl⟩) (c : oc = .type "tuple") (v : strsAre zs its.toList = true) : ∀ H : Hp, SqT K H a (zs.map V.str) := fun H => by
  subst c
  have hv := strsAre_ok v
  have hl := hv.length
  rw [List.length_map] at hl
  have hl' : zs.length = its.size := by rw [hl]; exact Array.length_toList
  exact .inr ⟨_, its, n, l, rfl, rfl, Nat.le_of_lt (szl (by omega)), hv⟩
/-- the keys of a written dict -/
def keysAre : List DictEntry → List Str → Bool
  | [], [] => true
  | e :: es, z :: zs => (match e.key with | .str x _ => decide (x = z) | _ => false) && keysAre es zs
  | _, _ => false
theorem keys_out : ∀ {es : List DictEntry} {zs : List Str}, keysAre es zs = true → ∀ {z : Str}, z ∉ zs → es.find? (·.key.isStr z) = none ∧ es.any (·.refKey) = false
  | [], [], _, _, _ => ⟨rfl, rfl⟩
  | [], _ :: _, h, _, _ => by simp [keysAre] at h
  | _ :: _, [], h, _, _ => by simp [keysAre] at h
  | e :: es, y :: ys, h, z, n => by
    obtain ⟨h1, h2⟩ := fand h
    obtain ⟨g1, g2⟩ := keys_out h2 (fun m => n (List.mem_cons_of_mem _ m))
    obtain ⟨hs, k, v⟩ := e
    cases k with
    | str x t =>
      have hx : x = y := of_decide_eq_true h1
      subst hx
      have hzx : ¬ x = z := fun e => n (by rw [e]; exact List.mem_cons_self ..)
      have hk : (Value.str x t).isStr z = false := by
        rw [PySem.W.isStr_of]
        simp [Value.isStrOf, hzx]
      refine ⟨?_, ?_⟩
      · rw [List.find?_cons]
        show (match (Value.str x t).isStr z with | true => _ | false => _) = none
        rw [hk]
        exact g1
      · rw [List.any_cons, g2]
        rfl
    | _ => cases h1
theorem nsIn_out {K : PySem.W.Frag} {d : Addr} {es : Array DictEntry} {n : Nat} {zs : List Str} (l : K.lookup d = some ⟨.type "dict", none, .dict es n, #[]⟩) (h : keysAre es.toList zs = true) {z : Str} (nz : z ∉ zs) : PySem.W.nsIn K d z = some none := by
  obtain ⟨h1, h2⟩ := keys_out h nz
  unfold PySem.W.nsIn
  rw [l]
  show (match es.toList.find? (·.key.isStr z) with | some e => some (some e.val) | none => if es.toList.any (·.refKey) then none else some none) = _
  rw [h1]
  show (if es.toList.any (·.refKey) = true then none else some none) = _
  rw [h2]
  rfl
theorem held_of {P : Program} {w : World} {K : PySem.W.Frag} {mg : Str → Option Value} {base : Heap} {k : Nat} {x : Str} {f : Addr} {sp : Sp} (c : C8.Cal P w K mg base k x sp []) (hm : mg x = some (.ref f)) : Held P w K mg base k f sp := by
  obtain ⟨f', fd, ps, ds, F, hm', kp, b, d⟩ := c.ex
  rw [hm] at hm'
  cases hm'
  cases d
  exact ⟨fd, ps, F, kp, b⟩
def tab (l : List (Addr × Sp)) (f : Addr) : Option Sp := (l.find? fun q => decide (q.1 = f)).map (·.2)
theorem tab_mem : ∀ {l : List (Addr × Sp)}, (l.map (·.1)).Nodup → ∀ {f : Addr} {sp : Sp}, (f, sp) ∈ l → tab l f = some sp
  | q :: l, h, f, sp, m => by
    rw [List.map_cons, List.nodup_cons] at h
    unfold tab
    rw [List.find?_cons]
    rcases List.mem_cons.mp m with e | e
    · rw [← e, show decide ((f, sp).1 = f) = true from decide_eq_true rfl]
      rfl
    · rw [show decide (q.1 = f) = false from decide_eq_false fun z => h.1 (by rw [z]; exact List.mem_map.mpr ⟨_, e, rfl⟩)]
      exact tab_mem h.2 e
theorem tab_of {l : List (Addr × Sp)} {f : Addr} {sp : Sp} (h : tab l f = some sp) : (f, sp) ∈ l := by
  unfold tab at h
  obtain ⟨q, hq, rfl⟩ := Option.map_eq_some_iff.mp h
  have h1 := List.mem_of_find?_eq_some hq
  have h2 := List.find?_some (p := fun q : Addr × Sp => decide (q.1 = f)) hq
  have h2 : q.1 = f := of_decide_eq_true h2
  rw [← h2]
  exact h1
theorem held_up {P : Program} {w : World} {K : PySem.W.Frag} {mg : Str → Option Value} {base : Heap} {j k : Nat} {f : Addr} {sp : Sp} (h : Held P w K mg base j f sp) (hj : j ≤ k) : Held P w K mg base k f sp := by
  obtain ⟨fd, ps, F, kp, b⟩ := h
  exact ⟨fd, ps, F.mono hj, kp, b⟩
theorem met_none {P : Program} {w : World} {K : PySem.W.Frag} {mg : Str → Option Value} {base : Heap} {C : Addr} {m qual : Str} {st : Stmt} {f : Addr} {fd : FuncData} {ps : List Str} {k : Nat} {sp : Sp} (c : Cls K C) (me : Meth K C m f) (F : Fun K m qual st f fd) (b : Binds K fd ps []) (no : ∀ vs H Q E, ¬ sp vs H Q E) : C8.Met P w K mg base k C m sp [] :=
  ⟨f, fd, ps, [], c, me, ⟨fun vs H Q E h => (no _ _ _ _ h).elim, fun A outer s H args us vs Q E hr e0 hb r hsp => (no _ _ _ _ hsp).elim⟩, b, .nil⟩
abbrev sRefuse : Stmt := inClass (topS 25) 1
theorem scRefuse : FnScope ["self", "_", "row", "column"] ["self"] (defScope sRefuse) := ⟨rfl, rfl, rfl, by decide +kernel, rfl, by decide +kernel, by decide +kernel⟩
theorem closer_out {z : Str} (h : z ∉ Lay.CLS.map (·.1)) : Lay.closer z = none := by
  unfold Lay.closer
  generalize Lay.CLS = l at h ⊢
  induction l with
  | nil => rfl
  | cons q l ih =>
    obtain ⟨k, v⟩ := q
    rw [List.map_cons, List.mem_cons, not_or] at h
    rw [List.lookup_cons, beq_eq_false_iff_ne.mpr h.1]
    exact ih h.2
end Toy

set_option Elab.async false
set_option linter.all false
set_option maxRecDepth 100000
set_option maxHeartbeats 4000000
/-! The last part: what the program's top has left, and the end. -/
namespace Toy
open PySem L2
open PyProof.Rows (envOfC)
theorem all_mk {l : PySem.W.OpenLaw} {w : World} {K : PySem.W.Frag} {h : Heap} {mg : Str → Option Value} {fa : Addr} {f0 f1 f2 f3 f4 f5 f6 f7 f8 f9 f10 f11 f12 f13 f14 f15 f16 f17 f18 f19 f20 f21 f22 f23 f24 f25 f26 f27 f28 : Addr} (X : K.In h) (G : h.Ns mainGlobals mg) (hfa : mg "law" = some (.ref fa))
    {od0 an0 od1 an1 od2 an2 od3 an3 od4 an4 od5 an5 od6 an6 od7 an7 od8 an8 od9 an9 od10 an10 od11 an11 od12 an12 od13 an13 od14 an14 od15 an15 od16 an16 od17 an17 od18 an18 od19 an19 od20 an20 od21 an21 od22 an22 od23 an23 od24 an24 od25 an25 od26 an26 od27 an27 od28 an28 : Option Addr} {sl0 sl1 sl2 sl3 sl4 sl5 sl6 sl7 sl8 sl9 sl10 sl11 sl12 sl13 sl14 sl15 sl16 sl17 sl18 sl19 sl20 sl21 sl22 sl23 sl24 sl25 sl26 sl27 sl28 : Array (Option Value)} {oc0 kV0 dc0 pm0 cd0 ct0 oc1 kV1 dc1 pm1 cd1 ct1 oc2 kV2 dc2 pm2 cd2 ct2 oc3 kV3 dc3 pm3 cd3 ct3 oc4 kV4 dc4 pm4 cd4 ct4 oc5 kV5 dc5 pm5 cd5 ct5 oc6 kV6 dc6 pm6 cd6 ct6 oc7 kV7 dc7 pm7 cd7 ct7 oc8 kV8 dc8 pm8 cd8 ct8 oc9 kV9 dc9 pm9 cd9 ct9 oc10 kV10 dc10 pm10 cd10 ct10 oc11 kV11 dc11 pm11 cd11 ct11 oc12 kV12 dc12 pm12 cd12 ct12 oc13 kV13 dc13 pm13 cd13 ct13 oc14 kV14 dc14 pm14 cd14 ct14 oc15 kV15 dc15 pm15 cd15 ct15 oc16 kV16 dc16 pm16 cd16 ct16 oc17 kV17 dc17 pm17 cd17 ct17 oc18 kV18 dc18 pm18 cd18 ct18 oc19 kV19 dc19 pm19 cd19 ct19 oc20 kV20 dc20 pm20 cd20 ct20 oc21 kV21 dc21 pm21 cd21 ct21 oc22 kV22 dc22 pm22 cd22 ct22 oc23 kV23 dc23 pm23 cd23 ct23 oc24 kV24 dc24 pm24 cd24 ct24 oc25 kV25 dc25 pm25 cd25 ct25 oc26 kV26 dc26 pm26 cd26 ct26 oc27 kV27 dc27 pm27 cd27 ct27 oc28 kV28 dc28 pm28 cd28 ct28 : Value}
    {aCL CA CR : Addr} {esCL : Array DictEntry} {nCL : Nat} {tk0 tk1 tk2 tk3 tk4 tk5 tk6 tk7 tk8 : Tok} {tc0 tc1 tc2 tc3 tc4 tc5 tc6 : Tok} {aKW : Addr} {nKW : Nat} {ocKW : Value} {odKW : Option Addr} {itKW : Array Value} {slKW : Array (Option Value)} {aSG : Addr} {nSG : Nat} {ocSG : Value} {odSG : Option Addr} {itSG : Array Value} {slSG : Array (Option Value)} {aBK : Addr} {nBK : Nat} {ocBK : Value} {odBK : Option Addr} {itBK : Array Value} {slBK : Array (Option Value)} {aOP : Addr} {nOP : Nat} {ocOP : Value} {odOP : Option Addr} {itOP : Array Value} {slOP : Array (Option Value)} {aSB : Addr} {nSB : Nat} {ocSB : Value} {odSB : Option Addr} {itSB : Array Value} {slSB : Array (Option Value)} {aSF : Addr} {nSF : Nat} {ocSF : Value} {odSF : Option Addr} {itSF : Array Value} {slSF : Array (Option Value)} {gInit : Addr} {modInit manInit : Option Addr} {mslInit : Array (Option Value)} {mocInit mkVInit mdcInit mpmInit mcdInit mctInit : Value} {gAddSign : Addr} {modAddSign manAddSign : Option Addr} {mslAddSign : Array (Option Value)} {mocAddSign mkVAddSign mdcAddSign mpmAddSign mcdAddSign mctAddSign : Value} {gInner : Addr} {modInner manInner : Option Addr} {mslInner : Array (Option Value)} {mocInner mkVInner mdcInner mpmInner mcdInner mctInner : Value} {gTopCol : Addr} {modTopCol manTopCol : Option Addr} {mslTopCol : Array (Option Value)} {mocTopCol mkVTopCol mdcTopCol mpmTopCol mcdTopCol mctTopCol : Value} {gOpenB : Addr} {modOpenB manOpenB : Option Addr} {mslOpenB : Array (Option Value)} {mocOpenB mkVOpenB mdcOpenB mpmOpenB mcdOpenB mctOpenB : Value} {gCloseB : Addr} {modCloseB manCloseB : Option Addr} {mslCloseB : Array (Option Value)} {mocCloseB mkVCloseB mdcCloseB mpmCloseB mcdCloseB mctCloseB : Value} {gCloseAll : Addr} {modCloseAll manCloseAll : Option Addr} {mslCloseAll : Array (Option Value)} {mocCloseAll mkVCloseAll mdcCloseAll mpmCloseAll mcdCloseAll mctCloseAll : Value} {gBegin : Addr} {modBegin manBegin : Option Addr} {mslBegin : Array (Option Value)} {mocBegin mkVBegin mdcBegin mpmBegin mcdBegin mctBegin : Value} {gUpTo : Addr} {modUpTo manUpTo : Option Addr} {mslUpTo : Array (Option Value)} {mocUpTo mkVUpTo mdcUpTo mpmUpTo mcdUpTo mctUpTo : Value} {gMeet : Addr} {modMeet manMeet : Option Addr} {mslMeet : Array (Option Value)} {mocMeet mkVMeet mdcMeet mpmMeet mcdMeet mctMeet : Value} {gRInit : Addr} {modRInit manRInit : Option Addr} {mslRInit : Array (Option Value)} {mocRInit mkVRInit mdcRInit mpmRInit mcdRInit mctRInit : Value} {gRefuse : Addr} {modRefuse manRefuse : Option Addr} {mslRefuse : Array (Option Value)} {mocRefuse mkVRefuse mdcRefuse mpmRefuse mcdRefuse mctRefuse : Value} {gFront : Addr} {modFront manFront : Option Addr} {mslFront : Array (Option Value)} {mocFront mkVFront mdcFront mpmFront mcdFront mctFront : Value} {gFrontKind : Addr} {modFrontKind manFrontKind : Option Addr} {mslFrontKind : Array (Option Value)} {mocFrontKind mkVFrontKind mdcFrontKind mpmFrontKind mcdFrontKind mctFrontKind : Value} {gSkip : Addr} {modSkip manSkip : Option Addr} {mslSkip : Array (Option Value)} {mocSkip mkVSkip mdcSkip mpmSkip mcdSkip mctSkip : Value} {gSkipIf : Addr} {modSkipIf manSkipIf : Option Addr} {mslSkipIf : Array (Option Value)} {mocSkipIf mkVSkipIf mdcSkipIf mpmSkipIf mcdSkipIf mctSkipIf : Value} {gTake : Addr} {modTake manTake : Option Addr} {mslTake : Array (Option Value)} {mocTake mkVTake mdcTake mpmTake mcdTake mctTake : Value} {gCheckEnd : Addr} {modCheckEnd manCheckEnd : Option Addr} {mslCheckEnd : Array (Option Value)} {mocCheckEnd mkVCheckEnd mdcCheckEnd mpmCheckEnd mcdCheckEnd mctCheckEnd : Value} 
    (a0 : PySem.W.nsIn K mainGlobals "print_kind" = some (some (.ref f0)))
    (l0 : K.lookup f0 = some ⟨oc0, od0, .func (PySem.W.fnOf "print_kind" "print_kind" (defArgs sPrint) (defBody sPrint) (defScope sPrint) .none kV0 dc0 pm0 an0 cd0 ct0), sl0⟩)
    (c0 : PySem.W.codeIn K cd0 "print_kind" = true)
    (k0 : PySem.W.keepIn K (.ref f0) = true)
    (a1 : PySem.W.nsIn K mainGlobals "_joined" = some (some (.ref f1)))
    (l1 : K.lookup f1 = some ⟨oc1, od1, .func (PySem.W.fnOf "_joined" "_joined" (defArgs sJoined) (defBody sJoined) (defScope sJoined) .none kV1 dc1 pm1 an1 cd1 ct1), sl1⟩)
    (c1 : PySem.W.codeIn K cd1 "_joined" = true)
    (k1 : PySem.W.keepIn K (.ref f1) = true)
    (a2 : PySem.W.nsIn K mainGlobals "_words" = some (some (.ref f2)))
    (l2 : K.lookup f2 = some ⟨oc2, od2, .func (PySem.W.fnOf "_words" "_words" (defArgs sWords) (defBody sWords) (defScope sWords) .none kV2 dc2 pm2 an2 cd2 ct2), sl2⟩)
    (c2 : PySem.W.codeIn K cd2 "_words" = true)
    (k2 : PySem.W.keepIn K (.ref f2) = true)
    (a3 : PySem.W.nsIn K mainGlobals "_in_parentheses_if" = some (some (.ref f3)))
    (l3 : K.lookup f3 = some ⟨oc3, od3, .func (PySem.W.fnOf "_in_parentheses_if" "_in_parentheses_if" (defArgs sInPar) (defBody sInPar) (defScope sInPar) .none kV3 dc3 pm3 an3 cd3 ct3), sl3⟩)
    (c3 : PySem.W.codeIn K cd3 "_in_parentheses_if" = true)
    (k3 : PySem.W.keepIn K (.ref f3) = true)
    (a4 : PySem.W.nsIn K mainGlobals "_kind_words" = some (some (.ref f4)))
    (l4 : K.lookup f4 = some ⟨oc4, od4, .func (PySem.W.fnOf "_kind_words" "_kind_words" (defArgs sKWords) (defBody sKWords) (defScope sKWords) .none kV4 dc4 pm4 an4 cd4 ct4), sl4⟩)
    (c4 : PySem.W.codeIn K cd4 "_kind_words" = true)
    (k4 : PySem.W.keepIn K (.ref f4) = true)
    (a5 : PySem.W.nsIn K mainGlobals "_kind_parts" = some (some (.ref f5)))
    (l5 : K.lookup f5 = some ⟨oc5, od5, .func (PySem.W.fnOf "_kind_parts" "_kind_parts" (defArgs sKP) (defBody sKP) (defScope sKP) .none kV5 dc5 pm5 an5 cd5 ct5), sl5⟩)
    (c5 : PySem.W.codeIn K cd5 "_kind_parts" = true)
    (k5 : PySem.W.keepIn K (.ref f5) = true)
    (a6 : PySem.W.nsIn K mainGlobals "read_kind" = some (some (.ref f6)))
    (l6 : K.lookup f6 = some ⟨oc6, od6, .func (PySem.W.fnOf "read_kind" "read_kind" (defArgs sKind) (defBody sKind) (defScope sKind) .none kV6 dc6 pm6 an6 cd6 ct6), sl6⟩)
    (c6 : PySem.W.codeIn K cd6 "read_kind" = true)
    (k6 : PySem.W.keepIn K (.ref f6) = true)
    (a7 : PySem.W.nsIn K mainGlobals "_read_plain" = some (some (.ref f7)))
    (l7 : K.lookup f7 = some ⟨oc7, od7, .func (PySem.W.fnOf "_read_plain" "_read_plain" (defArgs sPlain) (defBody sPlain) (defScope sPlain) .none kV7 dc7 pm7 an7 cd7 ct7), sl7⟩)
    (c7 : PySem.W.codeIn K cd7 "_read_plain" = true)
    (k7 : PySem.W.keepIn K (.ref f7) = true)
    (a8 : PySem.W.nsIn K mainGlobals "read_smalls" = some (some (.ref f8)))
    (l8 : K.lookup f8 = some ⟨oc8, od8, .func (PySem.W.fnOf "read_smalls" "read_smalls" (defArgs sSmalls) (defBody sSmalls) (defScope sSmalls) .none kV8 dc8 pm8 an8 cd8 ct8), sl8⟩)
    (c8 : PySem.W.codeIn K cd8 "read_smalls" = true)
    (k8 : PySem.W.keepIn K (.ref f8) = true)
    (a9 : PySem.W.nsIn K mainGlobals "_read_small" = some (some (.ref f9)))
    (l9 : K.lookup f9 = some ⟨oc9, od9, .func (PySem.W.fnOf "_read_small" "_read_small" (defArgs sSmall) (defBody sSmall) (defScope sSmall) .none kV9 dc9 pm9 an9 cd9 ct9), sl9⟩)
    (c9 : PySem.W.codeIn K cd9 "_read_small" = true)
    (k9 : PySem.W.keepIn K (.ref f9) = true)
    (a10 : PySem.W.nsIn K mainGlobals "layout_in_braces" = some (some (.ref f10)))
    (l10 : K.lookup f10 = some ⟨oc10, od10, .func (PySem.W.fnOf "layout_in_braces" "layout_in_braces" (defArgs Lay.sLayout) (defBody Lay.sLayout) (defScope Lay.sLayout) .none kV10 dc10 pm10 an10 cd10 ct10), sl10⟩)
    (c10 : PySem.W.codeIn K cd10 "layout_in_braces" = true)
    (k10 : PySem.W.keepIn K (.ref f10) = true)
    (a11 : PySem.W.nsIn K mainGlobals "_arranged" = some (some (.ref f11)))
    (l11 : K.lookup f11 = some ⟨oc11, od11, .func (PySem.W.fnOf "_arranged" "_arranged" (defArgs Lay.sArranged) (defBody Lay.sArranged) (defScope Lay.sArranged) .none kV11 dc11 pm11 an11 cd11 ct11), sl11⟩)
    (c11 : PySem.W.codeIn K cd11 "_arranged" = true)
    (k11 : PySem.W.keepIn K (.ref f11) = true)
    (a12 : PySem.W.nsIn K mainGlobals "tokens" = some (some (.ref f12)))
    (l12 : K.lookup f12 = some ⟨oc12, od12, .func (PySem.W.fnOf "tokens" "tokens" (defArgs sTokens) (defBody sTokens) (defScope sTokens) .none kV12 dc12 pm12 an12 cd12 ct12), sl12⟩)
    (c12 : PySem.W.codeIn K cd12 "tokens" = true)
    (k12 : PySem.W.keepIn K (.ref f12) = true)
    (a13 : PySem.W.nsIn K mainGlobals "_comment_end" = some (some (.ref f13)))
    (l13 : K.lookup f13 = some ⟨oc13, od13, .func (PySem.W.fnOf "_comment_end" "_comment_end" (defArgs sCommentEnd) (defBody sCommentEnd) (defScope sCommentEnd) .none kV13 dc13 pm13 an13 cd13 ct13), sl13⟩)
    (c13 : PySem.W.codeIn K cd13 "_comment_end" = true)
    (k13 : PySem.W.keepIn K (.ref f13) = true)
    (a14 : PySem.W.nsIn K mainGlobals "_token_at" = some (some (.ref f14)))
    (l14 : K.lookup f14 = some ⟨oc14, od14, .func (PySem.W.fnOf "_token_at" "_token_at" (defArgs sTokenAt) (defBody sTokenAt) (defScope sTokenAt) .none kV14 dc14 pm14 an14 cd14 ct14), sl14⟩)
    (c14 : PySem.W.codeIn K cd14 "_token_at" = true)
    (k14 : PySem.W.keepIn K (.ref f14) = true)
    (a15 : PySem.W.nsIn K mainGlobals "_word_at" = some (some (.ref f15)))
    (l15 : K.lookup f15 = some ⟨oc15, od15, .func (PySem.W.fnOf "_word_at" "_word_at" (defArgs sWordAt) (defBody sWordAt) (defScope sWordAt) .none kV15 dc15 pm15 an15 cd15 ct15), sl15⟩)
    (c15 : PySem.W.codeIn K cd15 "_word_at" = true)
    (k15 : PySem.W.keepIn K (.ref f15) = true)
    (a16 : PySem.W.nsIn K mainGlobals "_goes_on" = some (some (.ref f16)))
    (l16 : K.lookup f16 = some ⟨oc16, od16, .func (PySem.W.fnOf "_goes_on" "_goes_on" (defArgs sGoesOn) (defBody sGoesOn) (defScope sGoesOn) .none kV16 dc16 pm16 an16 cd16 ct16), sl16⟩)
    (c16 : PySem.W.codeIn K cd16 "_goes_on" = true)
    (k16 : PySem.W.keepIn K (.ref f16) = true)
    (a17 : PySem.W.nsIn K mainGlobals "_is_number" = some (some (.ref f17)))
    (l17 : K.lookup f17 = some ⟨oc17, od17, .func (PySem.W.fnOf "_is_number" "_is_number" (defArgs sIsNumber) (defBody sIsNumber) (defScope sIsNumber) .none kV17 dc17 pm17 an17 cd17 ct17), sl17⟩)
    (c17 : PySem.W.codeIn K cd17 "_is_number" = true)
    (k17 : PySem.W.keepIn K (.ref f17) = true)
    (a18 : PySem.W.nsIn K mainGlobals "parse_kind" = some (some (.ref f18)))
    (l18 : K.lookup f18 = some ⟨oc18, od18, .func (PySem.W.fnOf "parse_kind" "parse_kind" (defArgs sParse) (defBody sParse) (defScope sParse) .none kV18 dc18 pm18 an18 cd18 ct18), sl18⟩)
    (c18 : PySem.W.codeIn K cd18 "parse_kind" = true)
    (k18 : PySem.W.keepIn K (.ref f18) = true)
    (a19 : PySem.W.nsIn K mainGlobals "_law_mix" = some (some (.ref f19)))
    (l19 : K.lookup f19 = some ⟨oc19, od19, .func (PySem.W.fnOf "_law_mix" "_law_mix" (defArgs sMix) (defBody sMix) (defScope sMix) .none kV19 dc19 pm19 an19 cd19 ct19), sl19⟩)
    (c19 : PySem.W.codeIn K cd19 "_law_mix" = true)
    (k19 : PySem.W.keepIn K (.ref f19) = true)
    (a20 : PySem.W.nsIn K mainGlobals "_law_stream" = some (some (.ref f20)))
    (l20 : K.lookup f20 = some ⟨oc20, od20, .func (PySem.W.fnOf "_law_stream" "_law_stream" (defArgs sStream) (defBody sStream) (defScope sStream) .none kV20 dc20 pm20 an20 cd20 ct20), sl20⟩)
    (c20 : PySem.W.codeIn K cd20 "_law_stream" = true)
    (k20 : PySem.W.keepIn K (.ref f20) = true)
    (a21 : PySem.W.nsIn K mainGlobals "_law_pick" = some (some (.ref f21)))
    (l21 : K.lookup f21 = some ⟨oc21, od21, .func (PySem.W.fnOf "_law_pick" "_law_pick" (defArgs sPick) (defBody sPick) (defScope sPick) .none kV21 dc21 pm21 an21 cd21 ct21), sl21⟩)
    (c21 : PySem.W.codeIn K cd21 "_law_pick" = true)
    (k21 : PySem.W.keepIn K (.ref f21) = true)
    (a22 : PySem.W.nsIn K mainGlobals "_law_name" = some (some (.ref f22)))
    (l22 : K.lookup f22 = some ⟨oc22, od22, .func (PySem.W.fnOf "_law_name" "_law_name" (defArgs sLName) (defBody sLName) (defScope sLName) .none kV22 dc22 pm22 an22 cd22 ct22), sl22⟩)
    (c22 : PySem.W.codeIn K cd22 "_law_name" = true)
    (k22 : PySem.W.keepIn K (.ref f22) = true)
    (a23 : PySem.W.nsIn K mainGlobals "_law_con" = some (some (.ref f23)))
    (l23 : K.lookup f23 = some ⟨oc23, od23, .func (PySem.W.fnOf "_law_con" "_law_con" (defArgs sLCon) (defBody sLCon) (defScope sLCon) .none kV23 dc23 pm23 an23 cd23 ct23), sl23⟩)
    (c23 : PySem.W.codeIn K cd23 "_law_con" = true)
    (k23 : PySem.W.keepIn K (.ref f23) = true)
    (a24 : PySem.W.nsIn K mainGlobals "_law_kind" = some (some (.ref f24)))
    (l24 : K.lookup f24 = some ⟨oc24, od24, .func (PySem.W.fnOf "_law_kind" "_law_kind" (defArgs sLKind) (defBody sLKind) (defScope sLKind) .none kV24 dc24 pm24 an24 cd24 ct24), sl24⟩)
    (c24 : PySem.W.codeIn K cd24 "_law_kind" = true)
    (k24 : PySem.W.keepIn K (.ref f24) = true)
    (a25 : PySem.W.nsIn K mainGlobals "_law_wrapped" = some (some (.ref f25)))
    (l25 : K.lookup f25 = some ⟨oc25, od25, .func (PySem.W.fnOf "_law_wrapped" "_law_wrapped" (defArgs sLWr) (defBody sLWr) (defScope sLWr) .none kV25 dc25 pm25 an25 cd25 ct25), sl25⟩)
    (c25 : PySem.W.codeIn K cd25 "_law_wrapped" = true)
    (k25 : PySem.W.keepIn K (.ref f25) = true)
    (a26 : PySem.W.nsIn K mainGlobals "_law_kind_text" = some (some (.ref f26)))
    (l26 : K.lookup f26 = some ⟨oc26, od26, .func (PySem.W.fnOf "_law_kind_text" "_law_kind_text" (defArgs sLTx) (defBody sLTx) (defScope sLTx) .none kV26 dc26 pm26 an26 cd26 ct26), sl26⟩)
    (c26 : PySem.W.codeIn K cd26 "_law_kind_text" = true)
    (k26 : PySem.W.keepIn K (.ref f26) = true)
    (a27 : PySem.W.nsIn K mainGlobals "_law_more" = some (some (.ref f27)))
    (l27 : K.lookup f27 = some ⟨oc27, od27, .func (PySem.W.fnOf "_law_more" "_law_more" (defArgs sLMore) (defBody sLMore) (defScope sLMore) .none kV27 dc27 pm27 an27 cd27 ct27), sl27⟩)
    (c27 : PySem.W.codeIn K cd27 "_law_more" = true)
    (k27 : PySem.W.keepIn K (.ref f27) = true)
    (a28 : PySem.W.nsIn K mainGlobals "law" = some (some (.ref f28)))
    (l28 : K.lookup f28 = some ⟨oc28, od28, .func (PySem.W.fnOf "law" "law" (defArgs sLaw) (defBody sLaw) (defScope sLaw) .none kV28 dc28 pm28 an28 cd28 ct28), sl28⟩)
    (c28 : PySem.W.codeIn K cd28 "law" = true)
    (k28 : PySem.W.keepIn K (.ref f28) = true)
    (cst0 : PySem.W.nsIn K mainGlobals "SMALL_LETTERS" = some (some (.str "abcdefghijklmnopqrstuvwxyz" tk0)))
    (cst1 : PySem.W.nsIn K mainGlobals "CAPITAL_LETTERS" = some (some (.str "ABCDEFGHIJKLMNOPQRSTUVWXYZ" tk1)))
    (cst2 : PySem.W.nsIn K mainGlobals "DIGITS" = some (some (.str "0123456789" tk2)))
    (cst3 : PySem.W.nsIn K mainGlobals "MARKS" = some (some (.str "_'" tk3)))
    (cst4 : PySem.W.nsIn K mainGlobals "LARGEST_NUMBER" = some (some (.int 1000000000000 tk4)))
    (cst5 : PySem.W.nsIn K mainGlobals "MOST_DIGITS" = some (some (.int 13 tk5)))
    (cst6 : PySem.W.nsIn K mainGlobals "KIND_FUN_LEVEL" = some (some (.int 0 tk6)))
    (cst7 : PySem.W.nsIn K mainGlobals "KIND_CON_LEVEL" = some (some (.int 1 tk7)))
    (cst8 : PySem.W.nsIn K mainGlobals "KIND_ATOM_LEVEL" = some (some (.int 2 tk8)))
    (gtKW : PySem.W.nsIn K mainGlobals "KEYWORDS" = some (some (.ref aKW)))
    (ltKW : K.lookup aKW = some ⟨ocKW, odKW, .seq itKW nKW, slKW⟩)
    (ctKW : ocKW = .type "tuple")
    (vtKW : strsAre KW itKW.toList = true)
    (gtSG : PySem.W.nsIn K mainGlobals "SIGNS" = some (some (.ref aSG)))
    (ltSG : K.lookup aSG = some ⟨ocSG, odSG, .seq itSG nSG, slSG⟩)
    (ctSG : ocSG = .type "tuple")
    (vtSG : strsAre SG itSG.toList = true)
    (gtBK : PySem.W.nsIn K mainGlobals "BLOCK_KEYWORDS" = some (some (.ref aBK)))
    (ltBK : K.lookup aBK = some ⟨ocBK, odBK, .seq itBK nBK, slBK⟩)
    (ctBK : ocBK = .type "tuple")
    (vtBK : strsAre Lay.BK itBK.toList = true)
    (gtOP : PySem.W.nsIn K mainGlobals "OPENERS" = some (some (.ref aOP)))
    (ltOP : K.lookup aOP = some ⟨ocOP, odOP, .seq itOP nOP, slOP⟩)
    (ctOP : ocOP = .type "tuple")
    (vtOP : strsAre Lay.OP itOP.toList = true)
    (gtSB : PySem.W.nsIn K mainGlobals "NO_SPACE_BEHIND" = some (some (.ref aSB)))
    (ltSB : K.lookup aSB = some ⟨ocSB, odSB, .seq itSB nSB, slSB⟩)
    (ctSB : ocSB = .type "tuple")
    (vtSB : strsAre NSB itSB.toList = true)
    (gtSF : PySem.W.nsIn K mainGlobals "NO_SPACE_BEFORE" = some (some (.ref aSF)))
    (ltSF : K.lookup aSF = some ⟨ocSF, odSF, .seq itSF nSF, slSF⟩)
    (ctSF : ocSF = .type "tuple")
    (vtSF : strsAre NSF itSF.toList = true)
    (gd : PySem.W.nsIn K mainGlobals "CLOSERS" = some (some (.ref aCL)))
    (ld : K.lookup aCL = some ⟨.type "dict", none, .dict esCL nCL, #[]⟩)
    (kd : PySem.W.KeysLit w.params esCL.toList)
    (sd : (aCL == sysModules) = false)
    (vd : keysAre esCL.toList (Lay.CLS.map (·.1)) = true)
    (wd0 : PySem.W.nsIn K aCL ")" = some (some (.str "(" tc0)))
    (wd1 : PySem.W.nsIn K aCL "]" = some (some (.str "[" tc1)))
    (wd2 : PySem.W.nsIn K aCL "}" = some (some (.str "{" tc2)))
    (wd3 : PySem.W.nsIn K aCL "in" = some (some (.str "let" tc3)))
    (wd4 : PySem.W.nsIn K aCL "of" = some (some (.str "case" tc4)))
    (wd5 : PySem.W.nsIn K aCL "then" = some (some (.str "if" tc5)))
    (wd6 : PySem.W.nsIn K aCL "else" = some (some (.str "then" tc6)))
    (aA : PySem.W.nsIn K mainGlobals "Arranger" = some (some (.ref CA)))
    (pgA : PySem.W.plainGet K CA Str.empty = true)
    (hdA : PySem.W.hasDictIn K CA = true)
    (poA : PySem.W.plainOver K CA = true)
    (saA : PySem.W.findIn K (.ref CA) "__setattr__" = some (some (.builtin "object.__setattr__")))
    (mkA : PySem.W.makesIn K CA = true)
    (kcA : PySem.W.keepIn K (.ref CA) = true)
    (noA0 : PySem.W.findIn K (.ref CA) "contexts" = some none)
    (noA1 : PySem.W.findIn K (.ref CA) "arranged" = some none)
    (maInit : PySem.W.findIn K (.ref CA) "__init__" = some (some (.ref gInit)))
    (miInit : PySem.W.isFn K (.ref gInit) = true)
    (mlInit : K.lookup gInit = some ⟨mocInit, modInit, .func (PySem.W.fnOf "__init__" "Arranger.__init__" (defArgs Lay.sInit) (defBody Lay.sInit) (defScope Lay.sInit) .none mkVInit mdcInit mpmInit manInit mcdInit mctInit), mslInit⟩)
    (mcInit : PySem.W.codeIn K mcdInit "Arranger.__init__" = true)
    (mkInit : PySem.W.keepIn K (.ref gInit) = true)
    (maAddSign : PySem.W.findIn K (.ref CA) "add_sign" = some (some (.ref gAddSign)))
    (miAddSign : PySem.W.isFn K (.ref gAddSign) = true)
    (mlAddSign : K.lookup gAddSign = some ⟨mocAddSign, modAddSign, .func (PySem.W.fnOf "add_sign" "Arranger.add_sign" (defArgs Lay.sAddSign) (defBody Lay.sAddSign) (defScope Lay.sAddSign) .none mkVAddSign mdcAddSign mpmAddSign manAddSign mcdAddSign mctAddSign), mslAddSign⟩)
    (mcAddSign : PySem.W.codeIn K mcdAddSign "Arranger.add_sign" = true)
    (mkAddSign : PySem.W.keepIn K (.ref gAddSign) = true)
    (maInner : PySem.W.findIn K (.ref CA) "innermost_column" = some (some (.ref gInner)))
    (miInner : PySem.W.isFn K (.ref gInner) = true)
    (mlInner : K.lookup gInner = some ⟨mocInner, modInner, .func (PySem.W.fnOf "innermost_column" "Arranger.innermost_column" (defArgs Lay.sInner) (defBody Lay.sInner) (defScope Lay.sInner) .none mkVInner mdcInner mpmInner manInner mcdInner mctInner), mslInner⟩)
    (mcInner : PySem.W.codeIn K mcdInner "Arranger.innermost_column" = true)
    (mkInner : PySem.W.keepIn K (.ref gInner) = true)
    (maTopCol : PySem.W.findIn K (.ref CA) "top_column" = some (some (.ref gTopCol)))
    (miTopCol : PySem.W.isFn K (.ref gTopCol) = true)
    (mlTopCol : K.lookup gTopCol = some ⟨mocTopCol, modTopCol, .func (PySem.W.fnOf "top_column" "Arranger.top_column" (defArgs Lay.sTopCol) (defBody Lay.sTopCol) (defScope Lay.sTopCol) .none mkVTopCol mdcTopCol mpmTopCol manTopCol mcdTopCol mctTopCol), mslTopCol⟩)
    (mcTopCol : PySem.W.codeIn K mcdTopCol "Arranger.top_column" = true)
    (mkTopCol : PySem.W.keepIn K (.ref gTopCol) = true)
    (maOpenB : PySem.W.findIn K (.ref CA) "open_block" = some (some (.ref gOpenB)))
    (miOpenB : PySem.W.isFn K (.ref gOpenB) = true)
    (mlOpenB : K.lookup gOpenB = some ⟨mocOpenB, modOpenB, .func (PySem.W.fnOf "open_block" "Arranger.open_block" (defArgs Lay.sOpenB) (defBody Lay.sOpenB) (defScope Lay.sOpenB) .none mkVOpenB mdcOpenB mpmOpenB manOpenB mcdOpenB mctOpenB), mslOpenB⟩)
    (mcOpenB : PySem.W.codeIn K mcdOpenB "Arranger.open_block" = true)
    (mkOpenB : PySem.W.keepIn K (.ref gOpenB) = true)
    (maCloseB : PySem.W.findIn K (.ref CA) "close_block" = some (some (.ref gCloseB)))
    (miCloseB : PySem.W.isFn K (.ref gCloseB) = true)
    (mlCloseB : K.lookup gCloseB = some ⟨mocCloseB, modCloseB, .func (PySem.W.fnOf "close_block" "Arranger.close_block" (defArgs Lay.sCloseB) (defBody Lay.sCloseB) (defScope Lay.sCloseB) .none mkVCloseB mdcCloseB mpmCloseB manCloseB mcdCloseB mctCloseB), mslCloseB⟩)
    (mcCloseB : PySem.W.codeIn K mcdCloseB "Arranger.close_block" = true)
    (mkCloseB : PySem.W.keepIn K (.ref gCloseB) = true)
    (maCloseAll : PySem.W.findIn K (.ref CA) "close_all" = some (some (.ref gCloseAll)))
    (miCloseAll : PySem.W.isFn K (.ref gCloseAll) = true)
    (mlCloseAll : K.lookup gCloseAll = some ⟨mocCloseAll, modCloseAll, .func (PySem.W.fnOf "close_all" "Arranger.close_all" (defArgs Lay.sCloseAll) (defBody Lay.sCloseAll) (defScope Lay.sCloseAll) .none mkVCloseAll mdcCloseAll mpmCloseAll manCloseAll mcdCloseAll mctCloseAll), mslCloseAll⟩)
    (mcCloseAll : PySem.W.codeIn K mcdCloseAll "Arranger.close_all" = true)
    (mkCloseAll : PySem.W.keepIn K (.ref gCloseAll) = true)
    (maBegin : PySem.W.findIn K (.ref CA) "begin_row" = some (some (.ref gBegin)))
    (miBegin : PySem.W.isFn K (.ref gBegin) = true)
    (mlBegin : K.lookup gBegin = some ⟨mocBegin, modBegin, .func (PySem.W.fnOf "begin_row" "Arranger.begin_row" (defArgs Lay.sBegin) (defBody Lay.sBegin) (defScope Lay.sBegin) .none mkVBegin mdcBegin mpmBegin manBegin mcdBegin mctBegin), mslBegin⟩)
    (mcBegin : PySem.W.codeIn K mcdBegin "Arranger.begin_row" = true)
    (mkBegin : PySem.W.keepIn K (.ref gBegin) = true)
    (maUpTo : PySem.W.findIn K (.ref CA) "close_up_to" = some (some (.ref gUpTo)))
    (miUpTo : PySem.W.isFn K (.ref gUpTo) = true)
    (mlUpTo : K.lookup gUpTo = some ⟨mocUpTo, modUpTo, .func (PySem.W.fnOf "close_up_to" "Arranger.close_up_to" (defArgs Lay.sUpTo) (defBody Lay.sUpTo) (defScope Lay.sUpTo) .none mkVUpTo mdcUpTo mpmUpTo manUpTo mcdUpTo mctUpTo), mslUpTo⟩)
    (mcUpTo : PySem.W.codeIn K mcdUpTo "Arranger.close_up_to" = true)
    (mkUpTo : PySem.W.keepIn K (.ref gUpTo) = true)
    (maMeet : PySem.W.findIn K (.ref CA) "meet" = some (some (.ref gMeet)))
    (miMeet : PySem.W.isFn K (.ref gMeet) = true)
    (mlMeet : K.lookup gMeet = some ⟨mocMeet, modMeet, .func (PySem.W.fnOf "meet" "Arranger.meet" (defArgs Lay.sMeet) (defBody Lay.sMeet) (defScope Lay.sMeet) .none mkVMeet mdcMeet mpmMeet manMeet mcdMeet mctMeet), mslMeet⟩)
    (mcMeet : PySem.W.codeIn K mcdMeet "Arranger.meet" = true)
    (mkMeet : PySem.W.keepIn K (.ref gMeet) = true)
    (aR : PySem.W.nsIn K mainGlobals "Reader" = some (some (.ref CR)))
    (pgR : PySem.W.plainGet K CR Str.empty = true)
    (hdR : PySem.W.hasDictIn K CR = true)
    (poR : PySem.W.plainOver K CR = true)
    (saR : PySem.W.findIn K (.ref CR) "__setattr__" = some (some (.builtin "object.__setattr__")))
    (mkR : PySem.W.makesIn K CR = true)
    (kcR : PySem.W.keepIn K (.ref CR) = true)
    (noR0 : PySem.W.findIn K (.ref CR) "row" = some none)
    (noR1 : PySem.W.findIn K (.ref CR) "at" = some none)
    (maRInit : PySem.W.findIn K (.ref CR) "__init__" = some (some (.ref gRInit)))
    (miRInit : PySem.W.isFn K (.ref gRInit) = true)
    (mlRInit : K.lookup gRInit = some ⟨mocRInit, modRInit, .func (PySem.W.fnOf "__init__" "Reader.__init__" (defArgs sRInit) (defBody sRInit) (defScope sRInit) .none mkVRInit mdcRInit mpmRInit manRInit mcdRInit mctRInit), mslRInit⟩)
    (mcRInit : PySem.W.codeIn K mcdRInit "Reader.__init__" = true)
    (mkRInit : PySem.W.keepIn K (.ref gRInit) = true)
    (maRefuse : PySem.W.findIn K (.ref CR) "refuse" = some (some (.ref gRefuse)))
    (miRefuse : PySem.W.isFn K (.ref gRefuse) = true)
    (mlRefuse : K.lookup gRefuse = some ⟨mocRefuse, modRefuse, .func (PySem.W.fnOf "refuse" "Reader.refuse" (defArgs sRefuse) (defBody sRefuse) (defScope sRefuse) .none mkVRefuse mdcRefuse mpmRefuse manRefuse mcdRefuse mctRefuse), mslRefuse⟩)
    (mcRefuse : PySem.W.codeIn K mcdRefuse "Reader.refuse" = true)
    (mkRefuse : PySem.W.keepIn K (.ref gRefuse) = true)
    (maFront : PySem.W.findIn K (.ref CR) "front" = some (some (.ref gFront)))
    (miFront : PySem.W.isFn K (.ref gFront) = true)
    (mlFront : K.lookup gFront = some ⟨mocFront, modFront, .func (PySem.W.fnOf "front" "Reader.front" (defArgs sFront) (defBody sFront) (defScope sFront) .none mkVFront mdcFront mpmFront manFront mcdFront mctFront), mslFront⟩)
    (mcFront : PySem.W.codeIn K mcdFront "Reader.front" = true)
    (mkFront : PySem.W.keepIn K (.ref gFront) = true)
    (maFrontKind : PySem.W.findIn K (.ref CR) "front_kind" = some (some (.ref gFrontKind)))
    (miFrontKind : PySem.W.isFn K (.ref gFrontKind) = true)
    (mlFrontKind : K.lookup gFrontKind = some ⟨mocFrontKind, modFrontKind, .func (PySem.W.fnOf "front_kind" "Reader.front_kind" (defArgs sFrontKind) (defBody sFrontKind) (defScope sFrontKind) .none mkVFrontKind mdcFrontKind mpmFrontKind manFrontKind mcdFrontKind mctFrontKind), mslFrontKind⟩)
    (mcFrontKind : PySem.W.codeIn K mcdFrontKind "Reader.front_kind" = true)
    (mkFrontKind : PySem.W.keepIn K (.ref gFrontKind) = true)
    (maSkip : PySem.W.findIn K (.ref CR) "skip" = some (some (.ref gSkip)))
    (miSkip : PySem.W.isFn K (.ref gSkip) = true)
    (mlSkip : K.lookup gSkip = some ⟨mocSkip, modSkip, .func (PySem.W.fnOf "skip" "Reader.skip" (defArgs sSkip) (defBody sSkip) (defScope sSkip) .none mkVSkip mdcSkip mpmSkip manSkip mcdSkip mctSkip), mslSkip⟩)
    (mcSkip : PySem.W.codeIn K mcdSkip "Reader.skip" = true)
    (mkSkip : PySem.W.keepIn K (.ref gSkip) = true)
    (maSkipIf : PySem.W.findIn K (.ref CR) "skip_if" = some (some (.ref gSkipIf)))
    (miSkipIf : PySem.W.isFn K (.ref gSkipIf) = true)
    (mlSkipIf : K.lookup gSkipIf = some ⟨mocSkipIf, modSkipIf, .func (PySem.W.fnOf "skip_if" "Reader.skip_if" (defArgs sSkipIf) (defBody sSkipIf) (defScope sSkipIf) .none mkVSkipIf mdcSkipIf mpmSkipIf manSkipIf mcdSkipIf mctSkipIf), mslSkipIf⟩)
    (mcSkipIf : PySem.W.codeIn K mcdSkipIf "Reader.skip_if" = true)
    (mkSkipIf : PySem.W.keepIn K (.ref gSkipIf) = true)
    (maTake : PySem.W.findIn K (.ref CR) "take" = some (some (.ref gTake)))
    (miTake : PySem.W.isFn K (.ref gTake) = true)
    (mlTake : K.lookup gTake = some ⟨mocTake, modTake, .func (PySem.W.fnOf "take" "Reader.take" (defArgs sTake) (defBody sTake) (defScope sTake) .none mkVTake mdcTake mpmTake manTake mcdTake mctTake), mslTake⟩)
    (mcTake : PySem.W.codeIn K mcdTake "Reader.take" = true)
    (mkTake : PySem.W.keepIn K (.ref gTake) = true)
    (maCheckEnd : PySem.W.findIn K (.ref CR) "check_end" = some (some (.ref gCheckEnd)))
    (miCheckEnd : PySem.W.isFn K (.ref gCheckEnd) = true)
    (mlCheckEnd : K.lookup gCheckEnd = some ⟨mocCheckEnd, modCheckEnd, .func (PySem.W.fnOf "check_end" "Reader.check_end" (defArgs sCheckEnd) (defBody sCheckEnd) (defScope sCheckEnd) .none mkVCheckEnd mdcCheckEnd mpmCheckEnd manCheckEnd mcdCheckEnd mctCheckEnd), mslCheckEnd⟩)
    (mcCheckEnd : PySem.W.codeIn K mcdCheckEnd "Reader.check_end" = true)
    (mkCheckEnd : PySem.W.keepIn K (.ref gCheckEnd) = true)
    (zlen : PySem.W.nsIn K mainGlobals "len" = some none)
    (zmin : PySem.W.nsIn K mainGlobals "min" = some none)
    (zint : PySem.W.nsIn K mainGlobals "int" = some none)
    (zrange : PySem.W.nsIn K mainGlobals "range" = some none)
    (zisinstance : PySem.W.nsIn K mainGlobals "isinstance" = some none)
    (zlist : PySem.W.nsIn K mainGlobals "list" = some none)
    (zreversed : PySem.W.nsIn K mainGlobals "reversed" = some none)
    (zstr : PySem.W.nsIn K mainGlobals "str" = some none)
    (ztuple : PySem.W.nsIn K mainGlobals "tuple" = some none) :
    ∃ fd : FuncData, (∀ (s : Shared) (v : Value), BindsTo s fd ⟨[v], []⟩ [("script", v)]) ∧ ∀ base : Heap, K.In base → base.Ns mainGlobals mg → FnOk l.prog w K mg base CX0 31 fa fd ["script"] (spLaw K) := by
  have e := hfa.symm.trans (PySem.W.mg_of X G a28)
  cases e
  have nlen := PySem.W.mg_none_of X G zlen
  have nmin := PySem.W.mg_none_of X G zmin
  have nint := PySem.W.mg_none_of X G zint
  have nrange := PySem.W.mg_none_of X G zrange
  have nisinstance := PySem.W.mg_none_of X G zisinstance
  have nlist := PySem.W.mg_none_of X G zlist
  have nreversed := PySem.W.mg_none_of X G zreversed
  have nstr := PySem.W.mg_none_of X G zstr
  have ntuple := PySem.W.mg_none_of X G ztuple
  have FPrint := fun_mk (st := sPrint) l0 c0 k0
  have bPrint := FPrint.binds (ps := ["tree"]) fun _ _ _ _ _ _ us hl => match us, hl with | [_], _ => rfl
  have mPrint := PySem.W.mg_of X G a0
  have FJoined := fun_mk (st := sJoined) l1 c1 k1
  have bJoined := FJoined.binds (ps := ["words"]) fun _ _ _ _ _ _ us hl => match us, hl with | [_], _ => rfl
  have mJoined := PySem.W.mg_of X G a1
  have FWords := fun_mk (st := sWords) l2 c2 k2
  have bWords := FWords.binds (ps := ["parts", "parts_of"]) fun _ _ _ _ _ _ us hl => match us, hl with | [_, _], _ => rfl
  have mWords := PySem.W.mg_of X G a2
  have FInPar := fun_mk (st := sInPar) l3 c3 k3
  have bInPar := FInPar.binds (ps := ["needed", "parts"]) fun _ _ _ _ _ _ us hl => match us, hl with | [_, _], _ => rfl
  have mInPar := PySem.W.mg_of X G a3
  have FKWords := fun_mk (st := sKWords) l4 c4 k4
  have bKWords := FKWords.binds (ps := ["tree", "need"]) fun _ _ _ _ _ _ us hl => match us, hl with | [_, _], _ => rfl
  have mKWords := PySem.W.mg_of X G a4
  have FKP := fun_mk (st := sKP) l5 c5 k5
  have bKP := FKP.binds (ps := ["tree", "need"]) fun _ _ _ _ _ _ us hl => match us, hl with | [_, _], _ => rfl
  have mKP := PySem.W.mg_of X G a5
  have FKind := fun_mk (st := sKind) l6 c6 k6
  have bKind := FKind.binds (ps := ["reader"]) fun _ _ _ _ _ _ us hl => match us, hl with | [_], _ => rfl
  have mKind := PySem.W.mg_of X G a6
  have FPlain := fun_mk (st := sPlain) l7 c7 k7
  have bPlain := FPlain.binds (ps := ["reader"]) fun _ _ _ _ _ _ us hl => match us, hl with | [_], _ => rfl
  have mPlain := PySem.W.mg_of X G a7
  have FSmalls := fun_mk (st := sSmalls) l8 c8 k8
  have bSmalls := FSmalls.binds (ps := ["reader"]) fun _ _ _ _ _ _ us hl => match us, hl with | [_], _ => rfl
  have mSmalls := PySem.W.mg_of X G a8
  have FSmall := fun_mk (st := sSmall) l9 c9 k9
  have bSmall := FSmall.binds (ps := ["reader"]) fun _ _ _ _ _ _ us hl => match us, hl with | [_], _ => rfl
  have mSmall := PySem.W.mg_of X G a9
  have FLayout := fun_mk (st := Lay.sLayout) l10 c10 k10
  have bLayout := FLayout.binds (ps := ["row"]) fun _ _ _ _ _ _ us hl => match us, hl with | [_], _ => rfl
  have mLayout := PySem.W.mg_of X G a10
  have FArranged := fun_mk (st := Lay.sArranged) l11 c11 k11
  have bArranged := FArranged.binds (ps := ["row", "contexts", "block_expected"]) fun _ _ _ _ _ _ us hl => match us, hl with | [_, _, _], _ => rfl
  have mArranged := PySem.W.mg_of X G a11
  have FTokens := fun_mk (st := sTokens) l12 c12 k12
  have bTokens := FTokens.binds (ps := ["text"]) fun _ _ _ _ _ _ us hl => match us, hl with | [_], _ => rfl
  have mTokens := PySem.W.mg_of X G a12
  have FCommentEnd := fun_mk (st := sCommentEnd) l13 c13 k13
  have bCommentEnd := FCommentEnd.binds (ps := ["text", "at"]) fun _ _ _ _ _ _ us hl => match us, hl with | [_, _], _ => rfl
  have mCommentEnd := PySem.W.mg_of X G a13
  have FTokenAt := fun_mk (st := sTokenAt) l14 c14 k14
  have bTokenAt := FTokenAt.binds (ps := ["text", "at", "row", "column"]) fun _ _ _ _ _ _ us hl => match us, hl with | [_, _, _, _], _ => rfl
  have mTokenAt := PySem.W.mg_of X G a14
  have FWordAt := fun_mk (st := sWordAt) l15 c15 k15
  have bWordAt := FWordAt.binds (ps := ["text", "at"]) fun _ _ _ _ _ _ us hl => match us, hl with | [_, _], _ => rfl
  have mWordAt := PySem.W.mg_of X G a15
  have FGoesOn := fun_mk (st := sGoesOn) l16 c16 k16
  have bGoesOn := FGoesOn.binds (ps := ["letter"]) fun _ _ _ _ _ _ us hl => match us, hl with | [_], _ => rfl
  have mGoesOn := PySem.W.mg_of X G a16
  have FIsNumber := fun_mk (st := sIsNumber) l17 c17 k17
  have bIsNumber := FIsNumber.binds (ps := ["word"]) fun _ _ _ _ _ _ us hl => match us, hl with | [_], _ => rfl
  have mIsNumber := PySem.W.mg_of X G a17
  have FParse := fun_mk (st := sParse) l18 c18 k18
  have bParse := FParse.binds (ps := ["text"]) fun _ _ _ _ _ _ us hl => match us, hl with | [_], _ => rfl
  have mParse := PySem.W.mg_of X G a18
  have FMix := fun_mk (st := sMix) l19 c19 k19
  have bMix := FMix.binds (ps := ["cell", "k"]) fun _ _ _ _ _ _ us hl => match us, hl with | [_, _], _ => rfl
  have mMix := PySem.W.mg_of X G a19
  have FStream := fun_mk (st := sStream) l20 c20 k20
  have bStream := FStream.binds (ps := ["script", "most"]) fun _ _ _ _ _ _ us hl => match us, hl with | [_, _], _ => rfl
  have mStream := PySem.W.mg_of X G a20
  have FPick := fun_mk (st := sPick) l21 c21 k21
  have bPick := FPick.binds (ps := ["draws", "many"]) fun _ _ _ _ _ _ us hl => match us, hl with | [_, _], _ => rfl
  have mPick := PySem.W.mg_of X G a21
  have FLName := fun_mk (st := sLName) l22 c22 k22
  have bLName := FLName.binds (ps := ["draws"]) fun _ _ _ _ _ _ us hl => match us, hl with | [_], _ => rfl
  have mLName := PySem.W.mg_of X G a22
  have FLCon := fun_mk (st := sLCon) l23 c23 k23
  have bLCon := FLCon.binds (ps := ["draws"]) fun _ _ _ _ _ _ us hl => match us, hl with | [_], _ => rfl
  have mLCon := PySem.W.mg_of X G a23
  have FLKind := fun_mk (st := sLKind) l24 c24 k24
  have bLKind := FLKind.binds (ps := ["draws", "depth"]) fun _ _ _ _ _ _ us hl => match us, hl with | [_, _], _ => rfl
  have mLKind := PySem.W.mg_of X G a24
  have FLWr := fun_mk (st := sLWr) l25 c25 k25
  have bLWr := FLWr.binds (ps := ["text", "level", "needed"]) fun _ _ _ _ _ _ us hl => match us, hl with | [_, _, _], _ => rfl
  have mLWr := PySem.W.mg_of X G a25
  have FLTx := fun_mk (st := sLTx) l26 c26 k26
  have bLTx := FLTx.binds (ps := ["tree", "needed"]) fun _ _ _ _ _ _ us hl => match us, hl with | [_, _], _ => rfl
  have mLTx := PySem.W.mg_of X G a26
  have FLMore := fun_mk (st := sLMore) l27 c27 k27
  have bLMore := FLMore.binds (ps := ["draws", "tree", "needed"]) fun _ _ _ _ _ _ us hl => match us, hl with | [_, _, _], _ => rfl
  have mLMore := PySem.W.mg_of X G a27
  have FLaw := fun_mk (st := sLaw) l28 c28 k28
  have bLaw := FLaw.binds (ps := ["script"]) fun _ _ _ _ _ _ us hl => match us, hl with | [_], _ => rfl
  have mLaw := PySem.W.mg_of X G a28
  refine ⟨PySem.W.fnOf "law" "law" (defArgs sLaw) (defBody sLaw) (defScope sLaw) .none kV28 dc28 pm28 an28 cd28 ct28, fun s v => .of_eq rfl, fun base _ _ => ?_⟩
  have FInit := fun_mk (st := Lay.sInit) mlInit mcInit mkInit
  have bInit := FInit.binds (ps := ["self", "contexts"]) fun _ _ _ _ _ _ us hl => match us, hl with | [_, _], _ => rfl
  have eInit : Meth K CA "__init__" gInit := ⟨maInit, miInit, mkInit⟩
  have FAddSign := fun_mk (st := Lay.sAddSign) mlAddSign mcAddSign mkAddSign
  have bAddSign := FAddSign.binds (ps := ["self", "sign", "token"]) fun _ _ _ _ _ _ us hl => match us, hl with | [_, _, _], _ => rfl
  have eAddSign : Meth K CA "add_sign" gAddSign := ⟨maAddSign, miAddSign, mkAddSign⟩
  have FInner := fun_mk (st := Lay.sInner) mlInner mcInner mkInner
  have bInner := FInner.binds (ps := ["self"]) fun _ _ _ _ _ _ us hl => match us, hl with | [_], _ => rfl
  have eInner : Meth K CA "innermost_column" gInner := ⟨maInner, miInner, mkInner⟩
  have FTopCol := fun_mk (st := Lay.sTopCol) mlTopCol mcTopCol mkTopCol
  have bTopCol := FTopCol.binds (ps := ["self"]) fun _ _ _ _ _ _ us hl => match us, hl with | [_], _ => rfl
  have eTopCol : Meth K CA "top_column" gTopCol := ⟨maTopCol, miTopCol, mkTopCol⟩
  have FOpenB := fun_mk (st := Lay.sOpenB) mlOpenB mcOpenB mkOpenB
  have bOpenB := FOpenB.binds (ps := ["self", "token"]) fun _ _ _ _ _ _ us hl => match us, hl with | [_, _], _ => rfl
  have eOpenB : Meth K CA "open_block" gOpenB := ⟨maOpenB, miOpenB, mkOpenB⟩
  have FCloseB := fun_mk (st := Lay.sCloseB) mlCloseB mcCloseB mkCloseB
  have bCloseB := FCloseB.binds (ps := ["self", "token"]) fun _ _ _ _ _ _ us hl => match us, hl with | [_, _], _ => rfl
  have eCloseB : Meth K CA "close_block" gCloseB := ⟨maCloseB, miCloseB, mkCloseB⟩
  have FCloseAll := fun_mk (st := Lay.sCloseAll) mlCloseAll mcCloseAll mkCloseAll
  have bCloseAll := FCloseAll.binds (ps := ["self", "token"]) fun _ _ _ _ _ _ us hl => match us, hl with | [_, _], _ => rfl
  have eCloseAll : Meth K CA "close_all" gCloseAll := ⟨maCloseAll, miCloseAll, mkCloseAll⟩
  have FBegin := fun_mk (st := Lay.sBegin) mlBegin mcBegin mkBegin
  have bBegin := FBegin.binds (ps := ["self", "token"]) fun _ _ _ _ _ _ us hl => match us, hl with | [_, _], _ => rfl
  have eBegin : Meth K CA "begin_row" gBegin := ⟨maBegin, miBegin, mkBegin⟩
  have FUpTo := fun_mk (st := Lay.sUpTo) mlUpTo mcUpTo mkUpTo
  have bUpTo := FUpTo.binds (ps := ["self", "markers", "token"]) fun _ _ _ _ _ _ us hl => match us, hl with | [_, _, _], _ => rfl
  have eUpTo : Meth K CA "close_up_to" gUpTo := ⟨maUpTo, miUpTo, mkUpTo⟩
  have FMeet := fun_mk (st := Lay.sMeet) mlMeet mcMeet mkMeet
  have bMeet := FMeet.binds (ps := ["self", "token"]) fun _ _ _ _ _ _ us hl => match us, hl with | [_, _], _ => rfl
  have eMeet : Meth K CA "meet" gMeet := ⟨maMeet, miMeet, mkMeet⟩
  have FRInit := fun_mk (st := sRInit) mlRInit mcRInit mkRInit
  have bRInit := FRInit.binds (ps := ["self", "row"]) fun _ _ _ _ _ _ us hl => match us, hl with | [_, _], _ => rfl
  have eRInit : Meth K CR "__init__" gRInit := ⟨maRInit, miRInit, mkRInit⟩
  have FRefuse := fun_mk (st := sRefuse) mlRefuse mcRefuse mkRefuse
  have bRefuse := FRefuse.binds (ps := ["self"]) fun _ _ _ _ _ _ us hl => match us, hl with | [_], _ => rfl
  have eRefuse : Meth K CR "refuse" gRefuse := ⟨maRefuse, miRefuse, mkRefuse⟩
  have FFront := fun_mk (st := sFront) mlFront mcFront mkFront
  have bFront := FFront.binds (ps := ["self"]) fun _ _ _ _ _ _ us hl => match us, hl with | [_], _ => rfl
  have eFront : Meth K CR "front" gFront := ⟨maFront, miFront, mkFront⟩
  have FFrontKind := fun_mk (st := sFrontKind) mlFrontKind mcFrontKind mkFrontKind
  have bFrontKind := FFrontKind.binds (ps := ["self"]) fun _ _ _ _ _ _ us hl => match us, hl with | [_], _ => rfl
  have eFrontKind : Meth K CR "front_kind" gFrontKind := ⟨maFrontKind, miFrontKind, mkFrontKind⟩
  have FSkip := fun_mk (st := sSkip) mlSkip mcSkip mkSkip
  have bSkip := FSkip.binds (ps := ["self", "text"]) fun _ _ _ _ _ _ us hl => match us, hl with | [_, _], _ => rfl
  have eSkip : Meth K CR "skip" gSkip := ⟨maSkip, miSkip, mkSkip⟩
  have FSkipIf := fun_mk (st := sSkipIf) mlSkipIf mcSkipIf mkSkipIf
  have bSkipIf := FSkipIf.binds (ps := ["self", "text"]) fun _ _ _ _ _ _ us hl => match us, hl with | [_, _], _ => rfl
  have eSkipIf : Meth K CR "skip_if" gSkipIf := ⟨maSkipIf, miSkipIf, mkSkipIf⟩
  have FTake := fun_mk (st := sTake) mlTake mcTake mkTake
  have bTake := FTake.binds (ps := ["self", "kind"]) fun _ _ _ _ _ _ us hl => match us, hl with | [_, _], _ => rfl
  have eTake : Meth K CR "take" gTake := ⟨maTake, miTake, mkTake⟩
  have FCheckEnd := fun_mk (st := sCheckEnd) mlCheckEnd mcCheckEnd mkCheckEnd
  have bCheckEnd := FCheckEnd.binds (ps := ["self"]) fun _ _ _ _ _ _ us hl => match us, hl with | [_], _ => rfl
  have eCheckEnd : Meth K CR "check_end" gCheckEnd := ⟨maCheckEnd, miCheckEnd, mkCheckEnd⟩
  have T : Txt K mg aKW aSG := ⟨nlen, nmin, nint, nrange, nisinstance, nlist, ⟨_, PySem.W.mg_of X G cst0, _, rfl⟩, ⟨_, PySem.W.mg_of X G cst1, _, rfl⟩, ⟨_, PySem.W.mg_of X G cst2, _, rfl⟩, ⟨_, PySem.W.mg_of X G cst3, _, rfl⟩, ⟨_, PySem.W.mg_of X G cst4, _, rfl⟩, ⟨_, PySem.W.mg_of X G cst5, _, rfl⟩, ⟨_, PySem.W.mg_of X G gtKW, rfl⟩, ⟨_, PySem.W.mg_of X G gtSG, rfl⟩, written_tup (by decide) ltKW ctKW vtKW, written_tup (by decide) ltSG ctSG vtSG⟩
  have tell : ∀ z : Str, Lay.Tells K aCL z := fun z => by
    by_cases hz : z ∈ Lay.CLS.map (·.1)
    · simp only [Lay.CLS, List.map_cons, List.map_nil, List.mem_cons, List.not_mem_nil, or_false] at hz
      rcases hz with rfl | rfl | rfl | rfl | rfl | rfl | rfl
      · exact .inr ⟨_, _, by decide +kernel, wd0, _, rfl⟩
      · exact .inr ⟨_, _, by decide +kernel, wd1, _, rfl⟩
      · exact .inr ⟨_, _, by decide +kernel, wd2, _, rfl⟩
      · exact .inr ⟨_, _, by decide +kernel, wd3, _, rfl⟩
      · exact .inr ⟨_, _, by decide +kernel, wd4, _, rfl⟩
      · exact .inr ⟨_, _, by decide +kernel, wd5, _, rfl⟩
      · exact .inr ⟨_, _, by decide +kernel, wd6, _, rfl⟩
    · exact .inl ⟨closer_out hz, nsIn_out ld vd hz⟩
  have TL : Lay.Txt K w mg CA aBK aOP aCL esCL nCL := ⟨nlen, nmin, nint, nrange, nisinstance, nlist, nreversed, nstr, ⟨_, PySem.W.mg_of X G gtBK, rfl⟩, ⟨_, PySem.W.mg_of X G gtOP, rfl⟩, ⟨_, PySem.W.mg_of X G gd, rfl⟩, written_tup (by decide) ltBK ctBK vtBK, written_tup (by decide) ltOP ctOP vtOP, ⟨ld, kd, sd⟩, tell, ⟨pgA, hdA, poA, saA⟩, noA0, noA1⟩
  have CMix := c_mix (P := l.prog) (w := w) (base := base) T FMix bMix mMix
  have CStream := c_stream (P := l.prog) (w := w) (base := base) T CMix FStream bStream mStream
  have CPick := c_pick (P := l.prog) (w := w) (base := base) T CMix FPick bPick mPick
  have CGoesOn := c_goesOn (P := l.prog) (w := w) (base := base) T FGoesOn bGoesOn mGoesOn
  have CWordAt := c_wordAt (P := l.prog) (w := w) (base := base) T CGoesOn FWordAt bWordAt mWordAt
  have CIsNumber := c_isNumber (P := l.prog) (w := w) (base := base) T FIsNumber bIsNumber mIsNumber
  have CCommentEnd := c_commentEnd (P := l.prog) (w := w) (base := base) T FCommentEnd bCommentEnd mCommentEnd
  have CTokenAt := c_tokenAt (P := l.prog) (w := w) (base := base) T CWordAt CIsNumber FTokenAt bTokenAt mTokenAt
  have CTokens := c_tokens (P := l.prog) (w := w) (base := base) T CCommentEnd CTokenAt FTokens bTokens mTokens
  have CInit := Lay.c_init (P := l.prog) (w := w) (base := base) (mg := mg) TL ⟨mkA, maInit, miInit, kcA⟩ (PySem.W.mg_of X G aA) FInit bInit
  have CAddSign := Lay.c_addSign (P := l.prog) (w := w) (base := base) (mg := mg) TL  eAddSign FAddSign bAddSign
  have CTopCol := Lay.c_topCol (P := l.prog) (w := w) (base := base) (mg := mg) TL  eTopCol FTopCol bTopCol
  have CInner := Lay.c_inner (P := l.prog) (w := w) (base := base) (mg := mg) TL  eInner FInner bInner
  have CCloseB := Lay.c_closeB (P := l.prog) (w := w) (base := base) (mg := mg) TL CAddSign eCloseB FCloseB bCloseB
  have COpenB := Lay.c_openB (P := l.prog) (w := w) (base := base) (mg := mg) TL CAddSign CInner eOpenB FOpenB bOpenB
  have CCloseAll := Lay.c_closeAll (P := l.prog) (w := w) (base := base) (mg := mg) TL CCloseB CTopCol eCloseAll FCloseAll bCloseAll
  have CBegin := Lay.c_begin (P := l.prog) (w := w) (base := base) (mg := mg) TL CCloseB CTopCol CAddSign eBegin FBegin bBegin
  have CUpTo := Lay.c_upTo (P := l.prog) (w := w) (base := base) (mg := mg) TL CCloseB eUpTo FUpTo bUpTo
  have CMeet := Lay.c_meet (P := l.prog) (w := w) (base := base) (mg := mg) TL CUpTo eMeet FMeet bMeet
  have CArranged := Lay.c_arranged (P := l.prog) (w := w) (base := base) TL CInit COpenB CCloseAll CBegin CMeet FArranged bArranged mArranged
  have CLayout := Lay.c_layout (P := l.prog) (w := w) (base := base) CArranged FLayout bLayout mLayout
  have TR : TxtR K CR := ⟨⟨pgR, hdR, poR, saR⟩, noR0, noR1⟩
  have CRInit := c_rinit (P := l.prog) (w := w) (base := base) (mg := mg) TR ⟨mkR, maRInit, miRInit, kcR⟩ (PySem.W.mg_of X G aR) FRInit bRInit
  have CRefuse : C8.Met l.prog w K mg base 1 CR "refuse" spNever [] := met_none TR.cl eRefuse FRefuse bRefuse fun _ _ _ _ h => h
  have CFront := c_front (P := l.prog) (w := w) (base := base) (mg := mg) TR  eFront FFront bFront
  have CFrontKind := c_frontKind (P := l.prog) (w := w) (base := base) (mg := mg) TR  eFrontKind FFrontKind bFrontKind
  have CSkip := c_skip (P := l.prog) (w := w) (base := base) (mg := mg) TR CRefuse eSkip FSkip bSkip
  have CSkipIf := c_skipIf (P := l.prog) (w := w) (base := base) (mg := mg) TR  eSkipIf FSkipIf bSkipIf
  have CTake := c_take (P := l.prog) (w := w) (base := base) (mg := mg) TR CRefuse eTake FTake bTake
  have CCheckEnd := c_checkEnd (P := l.prog) (w := w) (base := base) (mg := mg) TR CRefuse CFrontKind eCheckEnd FCheckEnd bCheckEnd
  have CKind := c_kinds (P := l.prog) (w := w) (base := base) TR ⟨ntuple, nreversed⟩ CFrontKind CFront CTake CSkip CSkipIf FSmall bSmall mSmall FSmalls bSmalls mSmalls FPlain bPlain mPlain FKind bKind mKind 6
  have CParse := c_parse (P := l.prog) (w := w) (base := base) CTokens CLayout CRInit CKind CCheckEnd FParse bParse mParse
  have TJ : TxtJ K mg aSB aSF := ⟨⟨_, PySem.W.mg_of X G gtSB, rfl⟩, ⟨_, PySem.W.mg_of X G gtSF, rfl⟩, written_tup (by decide) ltSB ctSB vtSB, written_tup (by decide) ltSF ctSF vtSF⟩
  have CJoined := c_joined (P := l.prog) (w := w) (base := base) TJ FJoined bJoined mJoined
  have CInPar := c_inpar (P := l.prog) (w := w) (base := base)  FInPar bInPar mInPar
  have CKP := c_kp (P := l.prog) (w := w) (base := base) ⟨⟨_, PySem.W.mg_of X G cst6, _, rfl⟩, ⟨_, PySem.W.mg_of X G cst7, _, rfl⟩, ⟨_, PySem.W.mg_of X G cst8, _, rfl⟩⟩ CInPar FKP bKP mKP
  have hW : ∀ f sp, tab [(f5, spKP)] f = some sp → Held l.prog w K mg base 2 f sp := fun f sp h => by
    rcases List.mem_cons.mp (tab_of h) with e | h
    · cases e
      exact held_of CKP mKP
    cases h
  have CWords := c_words (P := l.prog) (w := w) (base := base) ⟨hW, nisinstance, nstr⟩ FWords bWords mWords
  have CKWords := c_kwords (P := l.prog) (w := w) (base := base) ⟨⟨_, mKP, rfl⟩⟩ (tab_mem (l := [(f5, spKP)]) (List.nodup_cons.mpr ⟨List.not_mem_nil, List.nodup_nil⟩) (.head _)) CWords FKWords bKWords mKWords
  have CPrint := c_print (P := l.prog) (w := w) (base := base) CKWords CJoined FPrint bPrint mPrint
  have TW : TxtLw mg := ⟨nrange, ntuple, nlen, nmin⟩
  have CLName := c_lname (P := l.prog) (w := w) (base := base) CPick FLName bLName mLName
  have CLCon := c_lcon (P := l.prog) (w := w) (base := base) CPick FLCon bLCon mLCon
  have CLKind := c_lkind (P := l.prog) (w := w) (base := base) TW CPick CLName CLCon FLKind bLKind mLKind 4
  have CLWr := c_lwr (P := l.prog) (w := w) (base := base)  FLWr bLWr mLWr
  have CLTx := c_ltx (P := l.prog) (w := w) (base := base) CLWr FLTx bLTx mLTx 4
  have CLMore := c_lmore (P := l.prog) (w := w) (base := base) TW CPick FLMore bLMore mLMore 4
  exact c_law TW CStream CLKind CLTx CLMore CPrint CParse FLaw
theorem walk {l : PySem.W.OpenLaw} {q : Program} {loose : List Str} {XP : (Str → Option Value) → Heap → Prop} {YP : World → Heap → Prop} {d : DefRec} {K : Params → PySem.W.Frag} (hn : l.most = some 63) (hdf : d.params.defaults = [])
    (hY : ∀ (w : World) (h : Heap), YP w h → (K w.params).In h)
    (F : ∀ (w : World) (mg : Str → Option Value) (fa : Addr) (h : Heap), (K w.params).In h → h.Ns mainGlobals mg → mg d.name = some (.ref fa) →
      ∃ fd : FuncData, (∀ (s : Shared) (u : Value), BindsTo s fd ⟨[u], []⟩ [("script", u)]) ∧ ∀ base : Heap, (K w.params).In base → base.Ns mainGlobals mg → FnOk l.prog w (K w.params) mg base CX0 31 fa fd ["script"] (spLaw (K w.params))) :
    PySem.W.WalkO q loose XP YP l.row.toRowW d [] (fun f vs => PySem.call f vs) :=
  L2.walk_of (n := 63) (k := 31) (x := "script") (CX := fun _ => CX0) (sp := fun w => spLaw (K w.params)) hn (by decide) hdf ⟨rfl, by decide, by decide⟩ hY F (fun _ _ a ns hl _ hS => ⟨a, ns, rfl, hS, hl, fun _ => rfl⟩) fun _ _ _ _ _ z => z
end Toy
open PySem PySem.W PyProof.Rows
set_option maxRecDepth 100000 in
set_option maxHeartbeats 0 in
theorem PySem.Challenge.cw_needonce_k03_types_written_and_read_holds : PySem.Challenge.rw_needonce_k03_types_written_and_read.Holds := by
  w_on; o_law; k_head; (case hw => w_witness2)
  k_fill
  refine Toy.walk (l := PySem.Challenge.rw_needonce_k03_types_written_and_read) rfl rfl (fun w h Y => PySem.W.kIn_of Y) ?F
  case F =>
    intro w mg fa h KX G hmg
    refine' Toy.all_mk KX G hmg ?a0 ?l0 ?c0 ?k0 ?a1 ?l1 ?c1 ?k1 ?a2 ?l2 ?c2 ?k2 ?a3 ?l3 ?c3 ?k3 ?a4 ?l4 ?c4 ?k4 ?a5 ?l5 ?c5 ?k5 ?a6 ?l6 ?c6 ?k6 ?a7 ?l7 ?c7 ?k7 ?a8 ?l8 ?c8 ?k8 ?a9 ?l9 ?c9 ?k9 ?a10 ?l10 ?c10 ?k10 ?a11 ?l11 ?c11 ?k11 ?a12 ?l12 ?c12 ?k12 ?a13 ?l13 ?c13 ?k13 ?a14 ?l14 ?c14 ?k14 ?a15 ?l15 ?c15 ?k15 ?a16 ?l16 ?c16 ?k16 ?a17 ?l17 ?c17 ?k17 ?a18 ?l18 ?c18 ?k18 ?a19 ?l19 ?c19 ?k19 ?a20 ?l20 ?c20 ?k20 ?a21 ?l21 ?c21 ?k21 ?a22 ?l22 ?c22 ?k22 ?a23 ?l23 ?c23 ?k23 ?a24 ?l24 ?c24 ?k24 ?a25 ?l25 ?c25 ?k25 ?a26 ?l26 ?c26 ?k26 ?a27 ?l27 ?c27 ?k27 ?a28 ?l28 ?c28 ?k28 ?cst0 ?cst1 ?cst2 ?cst3 ?cst4 ?cst5 ?cst6 ?cst7 ?cst8 ?gtKW ?ltKW ?ctKW ?vtKW ?gtSG ?ltSG ?ctSG ?vtSG ?gtBK ?ltBK ?ctBK ?vtBK ?gtOP ?ltOP ?ctOP ?vtOP ?gtSB ?ltSB ?ctSB ?vtSB ?gtSF ?ltSF ?ctSF ?vtSF ?gd ?ld ?kd ?sd ?vd ?wd0 ?wd1 ?wd2 ?wd3 ?wd4 ?wd5 ?wd6 ?aA ?pgA ?hdA ?poA ?saA ?mkA ?kcA ?noA0 ?noA1 ?maInit ?miInit ?mlInit ?mcInit ?mkInit ?maAddSign ?miAddSign ?mlAddSign ?mcAddSign ?mkAddSign ?maInner ?miInner ?mlInner ?mcInner ?mkInner ?maTopCol ?miTopCol ?mlTopCol ?mcTopCol ?mkTopCol ?maOpenB ?miOpenB ?mlOpenB ?mcOpenB ?mkOpenB ?maCloseB ?miCloseB ?mlCloseB ?mcCloseB ?mkCloseB ?maCloseAll ?miCloseAll ?mlCloseAll ?mcCloseAll ?mkCloseAll ?maBegin ?miBegin ?mlBegin ?mcBegin ?mkBegin ?maUpTo ?miUpTo ?mlUpTo ?mcUpTo ?mkUpTo ?maMeet ?miMeet ?mlMeet ?mcMeet ?mkMeet ?aR ?pgR ?hdR ?poR ?saR ?mkR ?kcR ?noR0 ?noR1 ?maRInit ?miRInit ?mlRInit ?mcRInit ?mkRInit ?maRefuse ?miRefuse ?mlRefuse ?mcRefuse ?mkRefuse ?maFront ?miFront ?mlFront ?mcFront ?mkFront ?maFrontKind ?miFrontKind ?mlFrontKind ?mcFrontKind ?mkFrontKind ?maSkip ?miSkip ?mlSkip ?mcSkip ?mkSkip ?maSkipIf ?miSkipIf ?mlSkipIf ?mcSkipIf ?mkSkipIf ?maTake ?miTake ?mlTake ?mcTake ?mkTake ?maCheckEnd ?miCheckEnd ?mlCheckEnd ?mcCheckEnd ?mkCheckEnd ?zlen ?zmin ?zint ?zrange ?zisinstance ?zlist ?zreversed ?zstr ?ztuple
    (case a0 => k_is)
    (case l0 => k_is)
    (case c0 => k_is)
    (case k0 => k_is)
    (case a1 => k_is)
    (case l1 => k_is)
    (case c1 => k_is)
    (case k1 => k_is)
    (case a2 => k_is)
    (case l2 => k_is)
    (case c2 => k_is)
    (case k2 => k_is)
    (case a3 => k_is)
    (case l3 => k_is)
    (case c3 => k_is)
    (case k3 => k_is)
    (case a4 => k_is)
    (case l4 => k_is)
    (case c4 => k_is)
    (case k4 => k_is)
    (case a5 => k_is)
    (case l5 => k_is)
    (case c5 => k_is)
    (case k5 => k_is)
    (case a6 => k_is)
    (case l6 => k_is)
    (case c6 => k_is)
    (case k6 => k_is)
    (case a7 => k_is)
    (case l7 => k_is)
    (case c7 => k_is)
    (case k7 => k_is)
    (case a8 => k_is)
    (case l8 => k_is)
    (case c8 => k_is)
    (case k8 => k_is)
    (case a9 => k_is)
    (case l9 => k_is)
    (case c9 => k_is)
    (case k9 => k_is)
    (case a10 => k_is)
    (case l10 => k_is)
    (case c10 => k_is)
    (case k10 => k_is)
    (case a11 => k_is)
    (case l11 => k_is)
    (case c11 => k_is)
    (case k11 => k_is)
    (case a12 => k_is)
    (case l12 => k_is)
    (case c12 => k_is)
    (case k12 => k_is)
    (case a13 => k_is)
    (case l13 => k_is)
    (case c13 => k_is)
    (case k13 => k_is)
    (case a14 => k_is)
    (case l14 => k_is)
    (case c14 => k_is)
    (case k14 => k_is)
    (case a15 => k_is)
    (case l15 => k_is)
    (case c15 => k_is)
    (case k15 => k_is)
    (case a16 => k_is)
    (case l16 => k_is)
    (case c16 => k_is)
    (case k16 => k_is)
    (case a17 => k_is)
    (case l17 => k_is)
    (case c17 => k_is)
    (case k17 => k_is)
    (case a18 => k_is)
    (case l18 => k_is)
    (case c18 => k_is)
    (case k18 => k_is)
    (case a19 => k_is)
    (case l19 => k_is)
    (case c19 => k_is)
    (case k19 => k_is)
    (case a20 => k_is)
    (case l20 => k_is)
    (case c20 => k_is)
    (case k20 => k_is)
    (case a21 => k_is)
    (case l21 => k_is)
    (case c21 => k_is)
    (case k21 => k_is)
    (case a22 => k_is)
    (case l22 => k_is)
    (case c22 => k_is)
    (case k22 => k_is)
    (case a23 => k_is)
    (case l23 => k_is)
    (case c23 => k_is)
    (case k23 => k_is)
    (case a24 => k_is)
    (case l24 => k_is)
    (case c24 => k_is)
    (case k24 => k_is)
    (case a25 => k_is)
    (case l25 => k_is)
    (case c25 => k_is)
    (case k25 => k_is)
    (case a26 => k_is)
    (case l26 => k_is)
    (case c26 => k_is)
    (case k26 => k_is)
    (case a27 => k_is)
    (case l27 => k_is)
    (case c27 => k_is)
    (case k27 => k_is)
    (case a28 => k_is)
    (case l28 => k_is)
    (case c28 => k_is)
    (case k28 => k_is)
    (case cst0 => k_is)
    (case cst1 => k_is)
    (case cst2 => k_is)
    (case cst3 => k_is)
    (case cst4 => k_is)
    (case cst5 => k_is)
    (case cst6 => k_is)
    (case cst7 => k_is)
    (case cst8 => k_is)
    (case gtKW => k_is)
    (case ltKW => k_is)
    (case ctKW => rfl)
    (case vtKW => decide +kernel)
    (case gtSG => k_is)
    (case ltSG => k_is)
    (case ctSG => rfl)
    (case vtSG => decide +kernel)
    (case gtBK => k_is)
    (case ltBK => k_is)
    (case ctBK => rfl)
    (case vtBK => decide +kernel)
    (case gtOP => k_is)
    (case ltOP => k_is)
    (case ctOP => rfl)
    (case vtOP => decide +kernel)
    (case gtSB => k_is)
    (case ltSB => k_is)
    (case ctSB => rfl)
    (case vtSB => decide +kernel)
    (case gtSF => k_is)
    (case ltSF => k_is)
    (case ctSF => rfl)
    (case vtSF => decide +kernel)
    (case gd => k_is)
    (case ld => k_is)
    (case kd => exact ⟨⟨_, _, rfl, rfl⟩, ⟨_, _, rfl, rfl⟩, ⟨_, _, rfl, rfl⟩, ⟨_, _, rfl, rfl⟩, ⟨_, _, rfl, rfl⟩, ⟨_, _, rfl, rfl⟩, ⟨_, _, rfl, rfl⟩, trivial⟩)
    (case sd => rfl)
    (case vd => rfl)
    (case wd0 => k_is)
    (case wd1 => k_is)
    (case wd2 => k_is)
    (case wd3 => k_is)
    (case wd4 => k_is)
    (case wd5 => k_is)
    (case wd6 => k_is)
    (case aA => k_is)
    (case pgA => k_is)
    (case hdA => k_is)
    (case poA => k_is)
    (case saA => k_is)
    (case mkA => k_is)
    (case kcA => k_is)
    (case noA0 => k_is)
    (case noA1 => k_is)
    (case maInit => k_is)
    (case miInit => k_is)
    (case mlInit => k_is)
    (case mcInit => k_is)
    (case mkInit => k_is)
    (case maAddSign => k_is)
    (case miAddSign => k_is)
    (case mlAddSign => k_is)
    (case mcAddSign => k_is)
    (case mkAddSign => k_is)
    (case maInner => k_is)
    (case miInner => k_is)
    (case mlInner => k_is)
    (case mcInner => k_is)
    (case mkInner => k_is)
    (case maTopCol => k_is)
    (case miTopCol => k_is)
    (case mlTopCol => k_is)
    (case mcTopCol => k_is)
    (case mkTopCol => k_is)
    (case maOpenB => k_is)
    (case miOpenB => k_is)
    (case mlOpenB => k_is)
    (case mcOpenB => k_is)
    (case mkOpenB => k_is)
    (case maCloseB => k_is)
    (case miCloseB => k_is)
    (case mlCloseB => k_is)
    (case mcCloseB => k_is)
    (case mkCloseB => k_is)
    (case maCloseAll => k_is)
    (case miCloseAll => k_is)
    (case mlCloseAll => k_is)
    (case mcCloseAll => k_is)
    (case mkCloseAll => k_is)
    (case maBegin => k_is)
    (case miBegin => k_is)
    (case mlBegin => k_is)
    (case mcBegin => k_is)
    (case mkBegin => k_is)
    (case maUpTo => k_is)
    (case miUpTo => k_is)
    (case mlUpTo => k_is)
    (case mcUpTo => k_is)
    (case mkUpTo => k_is)
    (case maMeet => k_is)
    (case miMeet => k_is)
    (case mlMeet => k_is)
    (case mcMeet => k_is)
    (case mkMeet => k_is)
    (case aR => k_is)
    (case pgR => k_is)
    (case hdR => k_is)
    (case poR => k_is)
    (case saR => k_is)
    (case mkR => k_is)
    (case kcR => k_is)
    (case noR0 => k_is)
    (case noR1 => k_is)
    (case maRInit => k_is)
    (case miRInit => k_is)
    (case mlRInit => k_is)
    (case mcRInit => k_is)
    (case mkRInit => k_is)
    (case maRefuse => k_is)
    (case miRefuse => k_is)
    (case mlRefuse => k_is)
    (case mcRefuse => k_is)
    (case mkRefuse => k_is)
    (case maFront => k_is)
    (case miFront => k_is)
    (case mlFront => k_is)
    (case mcFront => k_is)
    (case mkFront => k_is)
    (case maFrontKind => k_is)
    (case miFrontKind => k_is)
    (case mlFrontKind => k_is)
    (case mcFrontKind => k_is)
    (case mkFrontKind => k_is)
    (case maSkip => k_is)
    (case miSkip => k_is)
    (case mlSkip => k_is)
    (case mcSkip => k_is)
    (case mkSkip => k_is)
    (case maSkipIf => k_is)
    (case miSkipIf => k_is)
    (case mlSkipIf => k_is)
    (case mcSkipIf => k_is)
    (case mkSkipIf => k_is)
    (case maTake => k_is)
    (case miTake => k_is)
    (case mlTake => k_is)
    (case mcTake => k_is)
    (case mkTake => k_is)
    (case maCheckEnd => k_is)
    (case miCheckEnd => k_is)
    (case mlCheckEnd => k_is)
    (case mcCheckEnd => k_is)
    (case mkCheckEnd => k_is)
    (case zlen => k_is)
    (case zmin => k_is)
    (case zint => k_is)
    (case zrange => k_is)
    (case zisinstance => k_is)
    (case zlist => k_is)
    (case zreversed => k_is)
    (case zstr => k_is)
    (case ztuple => k_is)

