import PyProof.Rows.All
import Wide.All
import OpenK.AllK
import Wide.FinOn
import HandS.ForMost
import HandS.Codes
import HandS.IsInst
import HandS.Conv
import HandS.More
import HandS.Rev
import PySem.Challenge.RW_needonce_k02_layout_by_its_rules
set_option Elab.async false
set_option maxRecDepth 100000
set_option maxHeartbeats 4000000
/-! Part A: how defs are called, the drawing of numbers from the script. -/
namespace Toy
open PySem L2
open PyProof.Rows (envOfC)
def topS (i : Nat) : Stmt := PySem.Challenge.pw_needonce_k02_layout_by_its_rules.main.body.getD i (.Pass ⟨0, 0, 0, 0⟩)
theorem boot_min : bootBuiltins "min" = some (.builtin "min") := by decide +kernel
theorem boot_isinstance : bootBuiltins "isinstance" = some (.builtin "isinstance") := by decide +kernel
theorem boot_int : bootBuiltins "int" = some (.type "int") := by decide +kernel
theorem boot_list : bootBuiltins "list" = some (.type "list") := by decide +kernel
/-- a written row of texts: what it is -/
def tStrs (zs : List Str) : TA := fun _ H Q => Q (zs.map V.str) H
def strE : Expr → Option Str
  | .Constant (.str z) _ _ => some z
  | _ => none
theorem strE_is {e : Expr} {z : Str} (h : strE e = some z) : ∃ j pos, e = .Constant (.str z) j pos := by
  unfold strE at h
  split at h
  · cases h
    exact ⟨_, _, rfl⟩
  · cases h
/-- a written row of texts -/
theorem pa_strs {X : Cx} : ∀ {es : List Expr} {zs : List Str}, es.map strE = zs.map some → PA X es (tStrs zs)
  | [], [], _ => pa_nil
  | [], _ :: _, h => by cases h
  | _ :: _, [], h => by cases h
  | e :: es, z :: zs, h => by
    rw [List.map_cons, List.map_cons] at h
    obtain ⟨h1, h2⟩ := List.cons.inj h
    obtain ⟨j, pos, rfl⟩ := strE_is h1
    exact pa_cons pe_str (pa_strs h2)
theorem strs_read {zs : List Str} {σ : L2.St} {H : Hp} {Q : List V → Hp → Prop} (h : Q (zs.map V.str) H) : tStrs zs σ H Q := h
def BK : List Str := ["where", "let", "of"]
def OP : List Str := ["(", "[", "{", "let", "case", "if"]
/-- the dict of the closing words -/
def CLS : List (Str × Str) := [(")", "("), ("]", "["), ("}", "{"), ("in", "let"), ("of", "case"), ("then", "if"), ("else", "then")]
def closer (z : Str) : Option Str := CLS.lookup z
def WORDS : List Str := ["where", "let", "of", "case", "if", "then", "else", "in", "(", ")", "[", "]", "{", "}", ",", "f", "x", "="]
/-- what the dict of the module tells of a word -/
def Tells (K : PySem.W.Frag) (d : Addr) (z : Str) : Prop := (closer z = none ∧ PySem.W.nsIn K d z = some none) ∨ ∃ m u, closer z = some m ∧ PySem.W.nsIn K d z = some (some u) ∧ RelV (.str m) u
/-- what the proofs ask of the module's names -/
structure Txt (K : PySem.W.Frag) (w : World) (mg : Str → Option Value) (C aB aO aC : Addr) (es : Array DictEntry) (n : Nat) : Prop where
  zlen : mg "len" = none
  zmin : mg "min" = none
  zint : mg "int" = none
  zrange : mg "range" = none
  zisinstance : mg "isinstance" = none
  zlist : mg "list" = none
  zreversed : mg "reversed" = none
  zstr : mg "str" = none
  gBLOCK_KEYWORDS : ∃ u, mg "BLOCK_KEYWORDS" = some u ∧ RelV (.ref aB) u
  gOPENERS : ∃ u, mg "OPENERS" = some u ∧ RelV (.ref aO) u
  gCLOSERS : ∃ u, mg "CLOSERS" = some u ∧ RelV (.ref aC) u
  kBLOCK_KEYWORDS : ∀ H : Hp, SqT K H aB (BK.map V.str)
  kOPENERS : ∀ H : Hp, SqT K H aO (OP.map V.str)
  kC : KDict K w aC es n
  tell : ∀ z : Str, z ∈ WORDS ∨ z = "" → Tells K aC z
  cl : Cls K C
  nC : NoAttr K C "contexts"
  nA : NoAttr K C "arranged"
theorem boot_str : bootBuiltins "str" = some (.type "str") := by decide +kernel
/-- d[key], d a dict of the module with text keys -/
theorem ix_kd {X : Cx} {d : Addr} {es : Array DictEntry} {n : Nat} (D : KDict X.K X.w d es n) :
    IxR X (fun x y H Q => ∃ (z : Str) (u0 : Value) (v0 : V), x = .ref d ∧ y = .str z ∧ PySem.W.nsIn X.K d z = some (some u0) ∧ RelV v0 u0 ∧ Q v0 H) := by
  intro value slice pins s σ H x y v u Q I rx ry h hs
  obtain ⟨z, u0, v0, rfl, rfl, e, r, q⟩ := h
  cases rx
  obtain ⟨t, rfl⟩ := ry
  exact PyProof.Rows.tail_any (kd_type D I) slot_dict_getitem.lookup (PySem.wpAny_getItem_of (PySem.strKind_is X.prog X.w z t) (PySem.W.mapOf_K (prog := X.prog) I.kIn D.at_ D.lit) (PySem.W.find_K D.at_ e) ⟨v0, H, I.tok _, r, q⟩) hs
section
variable {P : Program} {w : World} {K : PySem.W.Frag} {mg : Str → Option Value} {base : Heap} {C aB aO aC : Addr} {es : Array DictEntry} {n : Nat}
/-- a def as one that may be called by its name -/
theorem cal_of {x : Str} {st : Stmt} {f : Addr} {fd : FuncData} {N ps : List Str} {k : Nat} {sp : Sp} (F : Fun K x x st f fd) (hm : mg x = some (.ref f)) (b : Binds K fd ps []) (S : FnScope N ps (defScope st)) (len : ∀ vs H Q E, sp vs H Q E → vs.length = ps.length)
    (hbody : ∀ (cdv : Value) (A : Around) (outer : List Env) (s : Shared) (H : Hp) (vs : List V) (Q : VK) (E : XK), Room k (A.deeper (envOfC x (defScope st) s.heap.objs.size f cdv)) → sp vs H Q E →
      ∃ t, PSs (cxOf CX0 P w K mg base N x (defScope st) f cdv A outer s H E).nox (defBody st) t ∧ t { nx := fun _ H' => Q .non H', rt := Q } (start N vs) H) : C8.Cal P w K mg base (k + 1) x sp [] :=
  ⟨f, fd, ps, [], F.ok S len hbody, hm, F.kp, b, .nil⟩
theorem same_new {H : Hp} {p : Addr} (h : H p = none) (o : HO) : Same H (upd H p o) := fun b u q => by rw [upd_ne (ne_of_none q h)]; exact q
theorem same_upd {H H' : Hp} {p : Addr} (h : H p = none) (s : Same H H') (o : HO) : Same H (upd H' p o) := fun b u q => by rw [upd_ne (ne_of_none q h)]; exact s b u q
theorem szl {n : Nat} (h : n ≤ 100000) : n < sizeLine := Nat.lt_of_le_of_lt h (by decide)
theorem at_ok {α : Type} {xs : List α} {k : Nat} (h : k < xs.length) : atI xs (0 + (k : Int)) = some xs[k] := by
  rw [Int.zero_add]
  exact atI_nat (List.getElem?_eq_getElem h)
theorem at_int {ns : List Int} {i : Int} (h0 : 0 ≤ i) (h1 : i < (ns.length : Int)) : ∃ v : Int, atI (ns.map V.int) i = some (.int v) := by
  have hk : i.toNat < ns.length := by omega
  refine ⟨ns[i.toNat], ?_⟩
  have q : atI (ns.map V.int) ((i.toNat : Nat) : Int) = some (.int ns[i.toNat]) := atI_nat (by rw [List.getElem?_map, List.getElem?_eq_getElem hk] <;> rfl)
  rw [show ((i.toNat : Nat) : Int) = i by omega] at q
  exact q

/-! ### a number made of two -/
abbrev sMix : Stmt := topS 8
theorem scMix : FnScope ["cell", "k", "low"] ["cell", "k"] (defScope sMix) := ⟨rfl, rfl, rfl, by decide +kernel, rfl, by decide +kernel, by decide +kernel⟩
/-- some number below 1000 -/
def spMix : Sp := fun vs H Q _ => ∃ c k : Int, vs = [.int c, .int k] ∧ ∀ n : Int, 0 ≤ n → n < 1000 → Q (.int n) H
theorem c_mix {f : Addr} {fd : FuncData} (T : Txt K w mg C aB aO aC es n) (F : Fun K "_law_mix" "_law_mix" sMix f fd) (b : Binds K fd ["cell", "k"] []) (hm : mg "_law_mix" = some (.ref f)) : C8.Cal P w K mg base 1 "_law_mix" spMix [] := by
  refine cal_of F hm b scMix (fun vs H Q E h => ?_) (fun cdv A outer s H vs Q E hr h => ?_)
  · obtain ⟨c, k, rfl, _⟩ := h
    rfl
  obtain ⟨c, k, rfl, q⟩ := h
  refine ⟨_, (pss_cons (ps_set (i := 2) scMix.nd rfl (Or.inl rfl) (pe_op op_mod (pe_callTy call_int1 rfl T.zint boot_int (pa_cons (pe_op op_add (pe_op op_add (pe_op op_mul (pv 0) pe_int) (pe_op op_mul (pv 1) pe_int)) pe_int) pa_nil)) pe_int))
    (pss_one (ps_ret (pe_op op_mod (pe_op op_mod (pe_callTy call_int1 rfl T.zint boot_int (pa_cons (pe_op op_add (pe_op op_add (pe_op op_add (pe_op op_mul (pv 2) (pv 2)) (pe_op op_mul (pv 0) pe_int)) (pe_op op_mul (pv 1) pe_int)) pe_int) pa_nil)) pe_int) pe_int)))), ?_⟩
  refine ⟨_, rfl, _, _, rfl, rfl, .inr (by decide), _, rfl, _, _, rfl, rfl, .inr (by decide), _, _, rfl, rfl, _, _, rfl, rfl, .inl ⟨_, rfl, _, _, rfl, rfl, (show (0 : Int) < 2147483647 by decide), ?_⟩⟩
  refine ⟨_, rfl, _, rfl, _, _, rfl, rfl, .inl ?_, _, rfl, _, _, rfl, rfl, .inr (by decide), _, _, rfl, rfl, _, rfl, _, _, rfl, rfl, .inr (by decide), _, _, rfl, rfl, _, _, rfl, rfl, .inl ⟨_, rfl, _, _, rfl, rfl, (show (0 : Int) < 1000003 by decide), _, _, rfl, rfl, (show (0 : Int) < 1000 by decide), ?_⟩⟩
  · omega
  · exact q _ (by omega) (by omega)

/-! ### the draws of a script -/
def dk3 (r : Addr) (i z : Int) : List (Key × V) := [(Sum.inr "row", .ref r), (Sum.inr "at", .int i), (Sum.inr "seed", .int z)]
theorem nk_ra : ¬ (Sum.inr ("row" : Str) : Key) = Sum.inr ("at" : Str) := by decide +kernel
theorem nk_rs : ¬ (Sum.inr ("row" : Str) : Key) = Sum.inr ("seed" : Str) := by decide +kernel
theorem nk_as : ¬ (Sum.inr ("at" : Str) : Key) = Sum.inr ("seed" : Str) := by decide +kernel
theorem nk_sa : ¬ (Sum.inr ("seed" : Str) : Key) = Sum.inr ("at" : Str) := by decide +kernel
theorem dk_row (r : Addr) (i z : Int) : valV (dk3 r i z) (Sum.inr "row" : Key) = some (.ref r) := valV_pos rfl
theorem dk_at (r : Addr) (i z : Int) : valV (dk3 r i z) (Sum.inr "at" : Key) = some (.int i) := (valV_neg nk_ra).trans (valV_pos rfl)
theorem dk_seed (r : Addr) (i z : Int) : valV (dk3 r i z) (Sum.inr "seed" : Key) = some (.int z) := (valV_neg nk_rs).trans ((valV_neg nk_as).trans (valV_pos rfl))
theorem dk_put (r : Addr) (i z j : Int) : putK (dk3 r i z) (Sum.inr "at" : Key) (.int j) = dk3 r j z := by
  have h1 : ¬ ("row" : Str) = "at" := by decide +kernel
  have h2 : ¬ ("seed" : Str) = "at" := by decide +kernel
  simp [putK, dk3, h1, h2]
theorem dk_merge (r : Addr) (z : Int) : mergeK [] [(Sum.inr "row", .ref r), (Sum.inr "at", .int 0), (Sum.inr "seed", .int z)] = dk3 r 0 z := by
  have h1 : ¬ ("row" : Str) = "at" := by decide +kernel
  have h2 : ¬ ("row" : Str) = "seed" := by decide +kernel
  have h3 : ¬ ("at" : Str) = "seed" := by decide +kernel
  simp [mergeK, putK, dk3, h1, h2, h3]
/-- a reader of draws stands at p -/
def DrawsAt (H : Hp) (p r : Addr) : Prop := ∃ (row : List Int) (i : Nat) (z : Int), H p = some (.dK (dk3 r (i : Int) z)) ∧ H r = some (.lst (row.map V.int))
theorem DrawsAt.same {H H' : Hp} {p r : Addr} (d : DrawsAt H p r) (s : Same H H') : DrawsAt H' p r := by
  obtain ⟨row, i, z, h1, h2⟩ := d
  exact ⟨row, i, z, s _ _ h1, s _ _ h2⟩
/-- all but p stays -/
def Keep (p : Addr) (H H' : Hp) : Prop := ∀ b o, b ≠ p → H b = some o → H' b = some o
abbrev sPick : Stmt := topS 10
theorem scPick : FnScope ["draws", "many", "at", "number"] ["draws", "many"] (defScope sPick) := ⟨rfl, rfl, rfl, by decide +kernel, rfl, by decide +kernel, by decide +kernel⟩
/-- some number below m; the reader moves on -/
def spPick : Sp := fun vs H Q _ => ∃ (p r : Addr) (m : Int), vs = [.ref p, .int m] ∧ 0 < m ∧ DrawsAt H p r ∧ ∀ (n : Int) (H' : Hp), 0 ≤ n → n < m → Keep p H H' → DrawsAt H' p r → Q (.int n) H'
theorem c_pick {f : Addr} {fd : FuncData} (T : Txt K w mg C aB aO aC es n) (c_law_mix : C8.Cal P w K mg base 1 "_law_mix" spMix []) (F : Fun K "_law_pick" "_law_pick" sPick f fd) (b : Binds K fd ["draws", "many"] []) (hm : mg "_law_pick" = some (.ref f)) : C8.Cal P w K mg base 2 "_law_pick" spPick [] := by
  refine cal_of F hm b scPick (fun vs H Q E h => ?_) (fun cdv A outer s H vs Q E hr h => ?_)
  · obtain ⟨p, r, m, rfl, _⟩ := h
    rfl
  obtain ⟨p, r, m, rfl, hm0, ⟨row, i, z, hp, hrow⟩, q⟩ := h
  have hu := hu_of hr
  have npr : r ≠ p := ne_of hrow hp (by intro z; cases z)
  refine ⟨_, (pss_cons (ps_set (i := 2) scPick.nd rfl (Or.inl rfl) (pe_dget hu (pv 0) pe_str (fun _ _ => rfl)))
    (pss_cons (ps_dput hu (pv 0) pe_str (pe_op op_add (pv 2) pe_int) rfl)
    (pss_cons (ps_set (i := 3) scPick.nd rfl (Or.inl rfl) (C8.pe_c c_law_mix hr (by decide) rfl (pa_cons (pe_dget hu (pv 0) pe_str (fun _ _ => rfl)) (pa_cons (pv 2) pa_nil))))
    (pss_cons (ps_if (pt_cmpR op_lt (pv 2) (pe_callB call_len_seq rfl T.zlen PySem.boot_len (pa_cons (pe_dget hu (pv 0) pe_str (fun _ _ => rfl)) pa_nil)) (nomark _))
      (pss_one (ps_set (i := 3) scPick.nd rfl (Or.inl rfl) (pe_ix ix_list (pe_dget hu (pv 0) pe_str (fun _ _ => rfl)) (pv 2) (fun _ _ => rfl))))
      pss_nil)
    (pss_one (ps_ret (pe_op op_mod (pe_callTy call_int1 rfl T.zint boot_int (pa_cons (pv 3) pa_nil)) (pv 1)))))))), ?_⟩
  refine ⟨_, rfl, p, _, rfl, (dk_at r i z ▸ DGet.k (k := Sum.inr "at") hp), ?_⟩
  refine ⟨_, rfl, _, _, rfl, rfl, _, rfl, p, _, rfl, DPut.k (k := Sum.inr "at") hp (by show 3 < sizeLine; decide), ?_⟩
  rw [dk_put]
  have hp2 : upd H p (.dK (dk3 r ((i : Int) + 1) z)) p = some (.dK (dk3 r ((i : Int) + 1) z)) := upd_same
  have hr2 : upd H p (.dK (dk3 r ((i : Int) + 1) z)) r = some (.lst (row.map V.int)) := by rw [upd_ne npr]; exact hrow
  have fin : ∀ n : Int, 0 ≤ n → n < m → Q (.int n) (upd H p (.dK (dk3 r ((i : Int) + 1) z))) := fun n h0 h1 =>
    q n _ h0 h1 (fun b o hb e => by rw [upd_ne hb]; exact e) ⟨row, i + 1, z, by rw [upd_same]; rfl, hr2⟩
  refine ⟨_, rfl, p, _, rfl, (dk_seed r _ z ▸ DGet.k (k := Sum.inr "seed") hp2), _, rfl, _, _, rfl, fun n h0 h1 => ?_⟩
  refine ⟨_, rfl, _, rfl, p, _, rfl, (dk_row r _ z ▸ DGet.k (k := Sum.inr "row") hp2), r, _, rfl, .inl (SqL.of hr2), _, _, rfl, rfl, _, rfl, ?_⟩
  refine ite2 (fun c => ?_) (fun c => ?_)
  · have c' : (i : Int) < (((row.map V.int).length : Nat) : Int) := of_decide_eq_true c
    rw [List.length_map] at c'
    obtain ⟨v, hv⟩ := at_int (ns := row) (i := (i : Int)) (by omega) c'
    refine ⟨_, rfl, p, _, rfl, (dk_row r _ z ▸ DGet.k (k := Sum.inr "row") hp2), _, rfl, r, _, _, _, rfl, rfl, SqL.of hr2, hv, ?_⟩
    refine ⟨_, rfl, .inl ⟨_, rfl, _, rfl, _, _, rfl, rfl, hm0, ?_⟩⟩
    exact fin _ (Int.emod_nonneg _ (by omega)) (Int.emod_lt_of_pos _ hm0)
  · refine ⟨_, rfl, .inl ⟨_, rfl, _, rfl, _, _, rfl, rfl, hm0, ?_⟩⟩
    exact fin _ (Int.emod_nonneg _ (by omega)) (Int.emod_lt_of_pos _ hm0)
abbrev sStream : Stmt := topS 9
theorem scStream : FnScope ["script", "most", "row", "k", "rest", "j"] ["script", "most"] (defScope sStream) := ⟨rfl, rfl, rfl, by decide +kernel, rfl, by decide +kernel, by decide +kernel⟩
def spStream (K : PySem.W.Frag) : Sp := fun vs H Q _ => ∃ (a : Addr) (ns : List Int) (m : Int), vs = [.ref a, .int m] ∧ SqL K H a (ns.map V.int) ∧ ns.length ≤ 63 ∧ 0 ≤ m ∧ m ≤ 1000 ∧
  ∀ (p r : Addr) (H' : Hp), H p = none → Same H H' → DrawsAt H' p r → Q (.ref p) H'
theorem c_stream {f : Addr} {fd : FuncData} (T : Txt K w mg C aB aO aC es n) (c_law_mix : C8.Cal P w K mg base 1 "_law_mix" spMix []) (F : Fun K "_law_stream" "_law_stream" sStream f fd) (b : Binds K fd ["script", "most"] []) (hm : mg "_law_stream" = some (.ref f)) : C8.Cal P w K mg base 2 "_law_stream" (spStream K) [] := by
  refine cal_of F hm b scStream (fun vs H Q E h => ?_) (fun cdv A outer s H vs Q E hr h => ?_)
  · obtain ⟨a, ns, m, rfl, _⟩ := h
    rfl
  obtain ⟨a, ns, m, rfl, hS, h63, hm0, hm1, q⟩ := h
  refine ⟨_, (pss_cons (ps_set (i := 2) scStream.nd rfl (Or.inl rfl) (pe_lst pa_nil))
    (pss_cons (ps_for PassesOwn.never rfl (pi_range1 rfl T.zrange (pa_cons (pe_callB (call_min2 rfl) rfl T.zmin boot_min (pa_cons (pe_callB call_len_seq rfl T.zlen PySem.boot_len (pa_cons (pv 0) pa_nil)) (pa_cons pe_int pa_nil))) pa_nil)) (pg_name (i := 3) scStream.nd rfl (Or.inl rfl))
      (pss_cons (ps_set (i := 4) scStream.nd rfl (Or.inl rfl) (pe_ix ix_list (pv 0) (pv 3) (fun _ _ => rfl)))
    (pss_one (ps_if (pt_cmpR op_ge (pv 4) (pe_op op_pow pe_int pe_int) (nomark _))
      (pss_one (ps_for PassesOwn.never rfl (pi_range1 rfl T.zrange (pa_cons pe_int pa_nil)) (pg_name (i := 5) scStream.nd rfl (Or.inl rfl))
      (pss_one (ps_if (PW.pt (pw_and (pt_cmpR op_gt (pv 4) pe_int (nomark _)) (pw_and1 (pt_cmpR op_lt (pe_callB call_len_seq rfl T.zlen PySem.boot_len (pa_cons (pv 2) pa_nil)) (pv 1) (nomark _)))))
      (pss_cons (ps_expr (pe_bm PySem.F.plainAttrs_list PySem.F.slot_list_append PySem.F.type_list_append mt_append (pv 2) (pa_cons (pe_op op_mod (pe_callTy call_int1 rfl T.zint boot_int (pa_cons (pv 4) pa_nil)) pe_int) pa_nil)))
    (pss_one (ps_set (i := 4) scStream.nd rfl (Or.inl rfl) (pe_op op_fdiv (pv 4) pe_int))))
      pss_nil))))
      (pss_one (ps_for PassesOwn.never rfl (pi_range1 rfl T.zrange (pa_cons pe_int pa_nil)) (pg_name (i := 5) scStream.nd rfl (Or.inl rfl))
      (pss_one (ps_if (pt_cmpR op_lt (pe_callB call_len_seq rfl T.zlen PySem.boot_len (pa_cons (pv 2) pa_nil)) (pv 1) (nomark _))
      (pss_one (ps_expr (pe_bm PySem.F.plainAttrs_list PySem.F.slot_list_append PySem.F.type_list_append mt_append (pv 2) (pa_cons (C8.pe_c c_law_mix hr (by decide) rfl (pa_cons (pv 4) (pa_cons (pe_op op_add (pe_op op_mul pe_int (pv 5)) (pv 3)) pa_nil))) pa_nil))))
      pss_nil))))))))
    (pss_one (ps_ret (pe_disp (pps_cons pe_str (pv 2) (pps_cons pe_str pe_int (pps_cons pe_str (pe_callB call_len_seq rfl T.zlen PySem.boot_len (pa_cons (pv 2) pa_nil)) pps_nil))) rfl rfl (by decide) (by decide)))))), ?_⟩
  -- row = []
  refine ⟨(by show 0 ≤ sizeLine; decide), fun r hr0 => ?_⟩
  -- for k in range(min(len(script), 63))
  refine ⟨_, rfl, a, _, rfl, .inl ((same_new hr0 _).seq hS), _, _, rfl, _, rfl, ?_, ?_, for_range
    (fun (k : Nat) σ H2 => ∃ (kk rest jj : Option V) (row : List Int), σ = [some (.ref a), some (.int m), some (.ref r), kk, rest, jj] ∧ Same H H2 ∧ H2 r = some (.lst (row.map V.int)) ∧ (row.length : Int) ≤ m)
    ⟨none, none, none, [], rfl, same_new hr0 _, upd_same, by simpa using hm0⟩ ?_ ?_⟩
  · split <;> omega
  · rw [List.length_map]
    split <;> omega
  · rintro k σ H2 hk ⟨kk, rest, jj, row, rfl, s2, hrow, hl⟩
    have hk' : (k : Int) < (ns.length : Int) := by
      rw [List.length_map] at hk
      split at hk <;> omega
    obtain ⟨v, hv⟩ := at_int (ns := ns) (i := 0 + (k : Int)) (by omega) (by omega)
    refine ⟨_, rfl, _, rfl, a, _, _, _, rfl, rfl, s2.seq hS, hv, ?_⟩
    refine ⟨_, rfl, _, _, rfl, rfl, ⟨by decide, by decide, by decide⟩, _, _, rfl, rfl, _, rfl, ?_⟩
    refine ite2 (fun _ => ?_) (fun _ => ?_)
    -- a long cell: its digits
    · refine ⟨60, rfl, by decide, by decide, for_range (fun (j : Nat) σ H3 => ∃ (jj : Option V) (rest : Int) (row : List Int), σ = [some (.ref a), some (.int m), some (.ref r), some (.int (0 + (k : Int))), some (.int rest), jj] ∧ Same H H3 ∧ H3 r = some (.lst (row.map V.int)) ∧ (row.length : Int) ≤ m)
        ⟨_, _, row, rfl, s2, hrow, hl⟩ ?_ ?_⟩
      · rintro j σ H3 hj ⟨jj, rest, row, rfl, s3, hrow, hl⟩
        refine ⟨_, rfl, _, _, rfl, rfl, _, rfl, ?_⟩
        refine ite2 (fun _ => ?_) (fun _ => ?_)
        · refine ⟨_, rfl, r, _, rfl, .inl (SqL.of hrow), _, rfl, _, _, rfl, rfl, _, rfl, ?_⟩
          refine ite2 (fun c => ?_) (fun c => ?_)
          · have c' : (((row.map V.int).length : Nat) : Int) < m := of_decide_eq_true c
            rw [List.length_map] at c'
            refine ⟨_, rfl, .inl ⟨rfl, _, SqL.of hrow⟩, _, rfl, .inl ⟨_, rfl, _, _, rfl, rfl, (show (0 : Int) < 1000 by decide), r, _, _, rfl, rfl, hrow, szl (by rw [List.length_map]; omega), ?_⟩⟩
            refine ⟨_, rfl, _, _, rfl, rfl, ⟨by decide, by decide⟩, ?_⟩
            refine ⟨_, _, row ++ [rest % 1000], rfl, same_upd hr0 s3 _, ?_, ?_⟩
            · rw [upd_same, List.map_append]
              rfl
            · rw [List.length_append]
              show ((row.length + 1 : Nat) : Int) ≤ m
              omega
          · exact ⟨_, _, row, rfl, s3, hrow, hl⟩
        · exact ⟨_, _, row, rfl, s3, hrow, hl⟩
      · rintro σ H3 ⟨jj, rest, row, rfl, s3, hrow, hl⟩
        exact ⟨_, _, _, row, rfl, s3, hrow, hl⟩
    -- a short one: three numbers
    · refine ⟨3, rfl, by decide, by decide, for_range (fun (j : Nat) σ H3 => ∃ (jj : Option V) (row : List Int), σ = [some (.ref a), some (.int m), some (.ref r), some (.int (0 + (k : Int))), some (.int v), jj] ∧ Same H H3 ∧ H3 r = some (.lst (row.map V.int)) ∧ (row.length : Int) ≤ m)
        ⟨_, row, rfl, s2, hrow, hl⟩ ?_ ?_⟩
      · rintro j σ H3 hj ⟨jj, row, rfl, s3, hrow, hl⟩
        refine ⟨_, rfl, r, _, rfl, .inl (SqL.of hrow), _, rfl, _, _, rfl, rfl, _, rfl, ?_⟩
        refine ite2 (fun c => ?_) (fun c => ?_)
        · have c' : (((row.map V.int).length : Nat) : Int) < m := of_decide_eq_true c
          rw [List.length_map] at c'
          refine ⟨_, rfl, .inl ⟨rfl, _, SqL.of hrow⟩, _, rfl, _, rfl, _, _, rfl, rfl, .inl (by decide), _, rfl, _, _, rfl, rfl, _, _, rfl, fun n h0 h1 => ?_⟩
          refine ⟨r, _, _, rfl, rfl, hrow, szl (by rw [List.length_map]; omega), ?_⟩
          refine ⟨_, row ++ [n], rfl, same_upd hr0 s3 _, ?_, ?_⟩
          · rw [upd_same, List.map_append]
            rfl
          · rw [List.length_append]
            show ((row.length + 1 : Nat) : Int) ≤ m
            omega
        · exact ⟨_, row, rfl, s3, hrow, hl⟩
      · rintro σ H3 ⟨jj, row, rfl, s3, hrow, hl⟩
        exact ⟨_, _, _, row, rfl, s3, hrow, hl⟩
  · rintro σ H2 ⟨kk, rest, jj, row, rfl, s2, hrow, hl⟩
    intro p hp
    have np : r ≠ p := ne_of_none hrow hp
    refine ⟨_, rfl, _, rfl, r, _, rfl, .inl (SqL.of (by rw [upd_ne np]; exact hrow)), upd_same, [(Sum.inr "row", .ref r), (Sum.inr "at", .int 0), (Sum.inr "seed", .int (((row.map V.int).length : Nat) : Int))], rfl, (by show 3 ≤ 15; decide), ?_⟩
    refine q p r _ (s2.free hp) (same_upd (s2.free hp) (same_upd (s2.free hp) s2 _) _) ⟨row, 0, (((row.map V.int).length : Nat) : Int), ?_, by rw [upd_ne np, upd_ne np]; exact hrow⟩
    rw [upd_same, dk_merge]
    rfl
end
end Toy

set_option Elab.async false
set_option maxRecDepth 100000
set_option maxHeartbeats 4000000
/-! Part B: what layout does, over plain data; how it stands in the heap. -/
namespace Toy
open PySem L2
abbrev Tk := Str × Str × Int × Int
def tkV (t : Tk) : List V := [.str t.1, .str t.2.1, .int t.2.2.1, .int t.2.2.2]
inductive Ctx where
  | block (c : Int)
  | marker (s : Str)
  deriving DecidableEq
def Ctx.v : Ctx → List V
  | .block c => [.str "block", .int c]
  | .marker s => [.str "marker", .str s]
/-! ### layout, over plain data: the stack has its top first -/
def sg (s : Str) (t : Tk) : Tk := ("sign", s, t.2.2.1, t.2.2.2)
def innerCol : List Ctx → Int
  | [] => 0
  | .block c :: _ => c
  | .marker _ :: st => innerCol st
def topCol : List Ctx → Int
  | .block c :: _ => c
  | _ => 0
def topMarker : List Ctx → Option Str
  | [] => none
  | .block _ :: st => topMarker st
  | .marker s :: _ => some s
abbrev LS := List Ctx × List Tk
/-- closes the blocks on top -/
def closeTop (t : Tk) : List Ctx → List Tk → LS
  | .block _ :: st, out => closeTop t st (out ++ [sg "}" t])
  | st, out => (st, out)
/-- what the first token of a row means -/
def firstOf (t : Tk) : List Ctx → List Tk → LS
  | .block c :: st, out => if t.2.2.2 < c then firstOf t st (out ++ [sg "}" t]) else if c = t.2.2.2 then (.block c :: st, out ++ [sg ";" t]) else (.block c :: st, out)
  | st, out => (st, out)
def opens (t : Tk) (s : LS) : LS × Bool :=
  if t.1 ≠ "end" ∧ innerCol s.1 < t.2.2.2 then ((.block t.2.2.2 :: s.1, s.2 ++ [sg "{" t]), true) else ((s.1, s.2 ++ [sg "{" t, sg "}" t]), false)
def endAll (t : Tk) : List Ctx → List Tk → List Tk
  | [], out => out
  | .block _ :: st, out => endAll t st (out ++ [sg "}" t])
  | .marker _ :: st, out => endAll t st out
def upTo (ms : List Str) (t : Tk) (s : LS) : LS × Bool := match topMarker s.1 with
  | some m => if m ∈ ms then (closeTop t s.1 s.2, true) else (s, false)
  | none => (s, false)
def effComma (t : Tk) (s : LS) : LS := if t.2.1 = "," then (upTo ["(", "["] t s).1 else s
def effClose (t : Tk) (s : LS) : LS := match closer t.2.1 with
  | some m => let r := upTo [m] t s
    if r.2 = true then (if t.2.1 = "then" then .marker "then" :: r.1.1.tail else r.1.1.tail, r.1.2) else r.1
  | none => s
def effOpen (t : Tk) (s : LS) : LS := if t.2.1 ∈ OP then (.marker t.2.1 :: s.1, s.2) else s
def meet (t : Tk) (s : LS) : LS := let r := effOpen t (effClose t (effComma t s)); (r.1, r.2 ++ [t])
/-- a block is opened, where one is expected -/
def opened (ex : Bool) (t : Tk) (s : LS) : LS × Bool := if ex = true ∧ t.2.1 ≠ "{" then opens t s else (s, false)
/-- what stands before the token itself is met: is a block expected, the row before -/
def pre (ex : Bool) (last : Int) (t : Tk) (s : LS) : LS :=
  if t.1 = "end" then ([], endAll t (opened ex t s).1.1 (opened ex t s).1.2)
  else if t.2.2.1 ≠ last ∧ (opened ex t s).2 = false then firstOf t (opened ex t s).1.1 (opened ex t s).1.2 else (opened ex t s).1
def step (ex : Bool) (last : Int) (t : Tk) (s : LS) : LS := meet t (pre ex last t s)
def expects (t : Tk) : Bool := decide (t.1 = "keyword") && decide (t.2.1 ∈ BK)
def run : Bool → Int → List Tk → LS → LS
  | _, _, [], s => s
  | ex, last, t :: ts, s => run (expects t) t.2.2.1 ts (step ex last t s)
def lay (ts : List Tk) : List Tk := (run true 0 ts ([], [])).2

/-! ### in the heap -/
inductive Toks (H : Hp) : List Addr → List Tk → Prop
  | nil : Toks H [] []
  | cons {a : Addr} {t : Tk} {l : List Addr} {ts : List Tk} : H a = some (.tup (tkV t)) → Toks H l ts → Toks H (a :: l) (t :: ts)
theorem Toks.keep {H H' : Hp} {l : List Addr} {ts : List Tk} (h : Toks H l ts) (k : ∀ a xs, H a = some (.tup xs) → H' a = some (.tup xs)) : Toks H' l ts := by
  induction h with
  | nil => exact .nil
  | cons h _ ih => exact .cons (k _ _ h) ih
theorem Toks.snoc {H : Hp} {l : List Addr} {ts : List Tk} {a : Addr} {t : Tk} (h : Toks H l ts) (ha : H a = some (.tup (tkV t))) : Toks H (l ++ [a]) (ts ++ [t]) := by
  induction h with
  | nil => exact .cons ha .nil
  | cons h _ ih => exact .cons h ih
theorem Toks.len {H : Hp} {l : List Addr} {ts : List Tk} (h : Toks H l ts) : l.length = ts.length := by
  induction h with
  | nil => rfl
  | cons _ _ ih => rw [List.length_cons, List.length_cons, ih]
theorem Toks.get {H : Hp} {l : List Addr} {ts : List Tk} (h : Toks H l ts) : ∀ {i : Nat} {t : Tk}, ts[i]? = some t → ∃ a, l[i]? = some a ∧ H a = some (.tup (tkV t)) := by
  induction h with
  | nil => intro i t e; simp at e
  | cons h _ ih =>
    intro i t e
    cases i with
    | zero => simp at e; subst e; exact ⟨_, rfl, h⟩
    | succ i => exact ih (by simpa using e)
/-- the contexts, the top first -/
inductive Ctxs (H : Hp) : List Addr → List Ctx → Prop
  | nil : Ctxs H [] []
  | cons {a : Addr} {c : Ctx} {l : List Addr} {st : List Ctx} : H a = some (.tup c.v) → Ctxs H l st → Ctxs H (a :: l) (c :: st)
theorem Ctxs.keep {H H' : Hp} {l : List Addr} {ts : List Ctx} (h : Ctxs H l ts) (k : ∀ a xs, H a = some (.tup xs) → H' a = some (.tup xs)) : Ctxs H' l ts := by
  induction h with
  | nil => exact .nil
  | cons h _ ih => exact .cons (k _ _ h) ih
theorem Ctxs.len {H : Hp} {l : List Addr} {ts : List Ctx} (h : Ctxs H l ts) : l.length = ts.length := by
  induction h with
  | nil => rfl
  | cons _ _ ih => rw [List.length_cons, List.length_cons, ih]
theorem Ctxs.get {H : Hp} {l : List Addr} {ts : List Ctx} (h : Ctxs H l ts) : ∀ {i : Nat} {t : Ctx}, ts[i]? = some t → ∃ a, l[i]? = some a ∧ H a = some (.tup t.v) := by
  induction h with
  | nil => intro i t e; simp at e
  | cons h _ ih =>
    intro i t e
    cases i with
    | zero => simp at e; subst e; exact ⟨_, rfl, h⟩
    | succ i => exact ih (by simpa using e)
theorem kca : ¬ (("contexts" : Str) = "arranged") := by decide +kernel
def flds (c a : Addr) : List (Str × V) := putF "arranged" (.ref a) (putF "contexts" (.ref c) [])
theorem flds_c (c a : Addr) : (flds c a).lookup ("contexts" : Str) = some (.ref c) := by
  unfold flds
  rw [lookup_putF, if_neg kca, lookup_putF, if_pos rfl]
theorem flds_a (c a : Addr) : (flds c a).lookup ("arranged" : Str) = some (.ref a) := by
  unfold flds
  rw [lookup_putF, if_pos rfl]
theorem flds_no (c a : Addr) {m : Str} (h1 : ¬ m = "arranged") (h2 : ¬ m = "contexts") : (flds c a).lookup m = none := by
  unfold flds
  rw [lookup_putF, if_neg h1, lookup_putF, if_neg h2]
  all_goals rfl
/-- an arranger stands at o, its lists at c and a -/
structure Arr (C : Addr) (H : Hp) (o c a : Addr) (s : LS) : Prop where
  ex : ∃ (dx : Addr) (as ls : List Addr), H o = some (.ins C dx (flds c a)) ∧ H c = some (.lst (as.reverse.map V.ref)) ∧ H a = some (.lst (ls.map V.ref)) ∧ Ctxs H as s.1 ∧ Toks H ls s.2 ∧ c ≠ a
/-- all but c and a stays -/
def Keep2 (c a : Addr) (H H' : Hp) : Prop := ∀ b o, b ≠ c → b ≠ a → H b = some o → H' b = some o
theorem Keep2.refl (c a : Addr) (H : Hp) : Keep2 c a H H := fun _ _ _ _ h => h
theorem Keep2.trans {c a : Addr} {H H1 H2 : Hp} (x : Keep2 c a H H1) (y : Keep2 c a H1 H2) : Keep2 c a H H2 := fun b o h1 h2 h => y b o h1 h2 (x b o h1 h2 h)
theorem keep2_of {c a : Addr} {H H' : Hp} (s : Same H H') : Keep2 c a H H' := fun b o _ _ h => s b o h
theorem Arr.ne_tup {C : Addr} {H : Hp} {o c a b : Addr} {s : LS} {xs : List V} (A : Arr C H o c a s) (h : H b = some (.tup xs)) : b ≠ c ∧ b ≠ a := by
  obtain ⟨dx, as, ls, h1, h2, h3, _⟩ := A.ex
  exact ⟨ne_of h h2 (by intro z; cases z), ne_of h h3 (by intro z; cases z)⟩
/-- a tuple that stands beside an arranger stays -/
theorem Arr.tup {C : Addr} {H H' : Hp} {o c a b : Addr} {s : LS} {xs : List V} (A : Arr C H o c a s) (k : Keep2 c a H H') (h : H b = some (.tup xs)) : H' b = some (.tup xs) :=
  k _ _ (A.ne_tup h).1 (A.ne_tup h).2 h
theorem Arr.new {C : Addr} {H : Hp} {o c a t : Addr} {s : LS} (A : Arr C H o c a s) (ht : H t = none) (u : HO) : Arr C (upd H t u) o c a s := by
  obtain ⟨dx, as, ls, h1, h2, h3, h4, h5, h6⟩ := A.ex
  have k := same_new ht u
  exact ⟨dx, as, ls, k _ _ h1, k _ _ h2, k _ _ h3, h4.keep fun _ _ h => k _ _ h, h5.keep fun _ _ h => k _ _ h, h6⟩
theorem tup_upd {H : Hp} {p : Addr} {xs : List V} {o : HO} (h : H p = some (.lst xs)) : ∀ a ys, H a = some (.tup ys) → upd H p o a = some (.tup ys) := fun a ys q => by
  rw [upd_ne (ne_of q h (by intro z; cases z))]
  exact q
/-- one token more -/
theorem Arr.add {C : Addr} {H : Hp} {o c a t : Addr} {s : LS} {k : Tk} {dx : Addr} {as ls : List Addr} (h1 : H o = some (.ins C dx (flds c a))) (h2 : H c = some (.lst (as.reverse.map V.ref))) (h3 : H a = some (.lst (ls.map V.ref))) (h4 : Ctxs H as s.1) (h5 : Toks H ls s.2) (h6 : c ≠ a)
    (ht : H t = some (.tup (tkV k))) : Arr C (upd H a (.lst (ls.map V.ref ++ [.ref t]))) o c a (s.1, s.2 ++ [k]) := by
  have nta : t ≠ a := ne_of ht h3 (by intro z; cases z)
  refine ⟨dx, as, ls ++ [t], ?_, ?_, ?_, h4.keep (tup_upd h3), (h5.keep (tup_upd h3)).snoc (by rw [upd_ne nta]; exact ht), h6⟩
  · rw [upd_ne (ne_of h1 h3 (by intro z; cases z))]
    exact h1
  · rw [upd_ne h6]
    exact h2
  · rw [upd_same, List.map_append]
    rfl
/-- one context more -/
theorem Arr.push {C : Addr} {H : Hp} {o c a t : Addr} {s : LS} {k : Ctx} {dx : Addr} {as ls : List Addr} (h1 : H o = some (.ins C dx (flds c a))) (h2 : H c = some (.lst (as.reverse.map V.ref))) (h3 : H a = some (.lst (ls.map V.ref))) (h4 : Ctxs H as s.1) (h5 : Toks H ls s.2) (h6 : c ≠ a)
    (ht : H t = some (.tup k.v)) : Arr C (upd H c (.lst (as.reverse.map V.ref ++ [.ref t]))) o c a (k :: s.1, s.2) := by
  have ntc : t ≠ c := ne_of ht h2 (by intro z; cases z)
  refine ⟨dx, t :: as, ls, ?_, ?_, ?_, .cons (by rw [upd_ne ntc]; exact ht) (h4.keep (tup_upd h2)), h5.keep (tup_upd h2), h6⟩
  · rw [upd_ne (ne_of h1 h2 (by intro z; cases z))]
    exact h1
  · rw [upd_same, List.reverse_cons, List.map_append]
    rfl
  · rw [upd_ne h6.symm]
    exact h3
/-- one context less -/
theorem Arr.pop {C : Addr} {H : Hp} {o c a t : Addr} {st : List Ctx} {out : List Tk} {k : Ctx} {dx : Addr} {as ls : List Addr} (h1 : H o = some (.ins C dx (flds c a))) (h2 : H c = some (.lst ((t :: as).reverse.map V.ref))) (h3 : H a = some (.lst (ls.map V.ref))) (h4 : Ctxs H as st) (h5 : Toks H ls out) (h6 : c ≠ a) :
    Arr C (upd H c (.lst ((t :: as).reverse.map V.ref).dropLast)) o c a (st, out) := by
  refine ⟨dx, as, ls, ?_, ?_, ?_, h4.keep (tup_upd h2), h5.keep (tup_upd h2), h6⟩
  · rw [upd_ne (ne_of h1 h2 (by intro z; cases z))]
    exact h1
  · rw [upd_same, List.reverse_cons, List.map_append]
    show some (HO.lst ((as.reverse.map V.ref) ++ [V.ref t]).dropLast) = _
    rw [List.dropLast_concat]
  · rw [upd_ne h6.symm]
    exact h3
theorem keep_c {c a : Addr} {H : Hp} (o : HO) : Keep2 c a H (upd H c o) := fun b u h1 _ h => by rw [upd_ne h1]; exact h
theorem keep_a {c a : Addr} {H : Hp} (o : HO) : Keep2 c a H (upd H a o) := fun b u _ h2 h => by rw [upd_ne h2]; exact h
theorem top_at {t : Addr} {as : List Addr} : ((t :: as).reverse.map V.ref)[((t :: as).reverse.map V.ref).length - 1]? = some (.ref t) := by
  simp
theorem top_atI {t : Addr} {as : List Addr} : atI ((t :: as).reverse.map V.ref) (-1) = some (.ref t) := by
  rw [List.reverse_cons, List.map_append]
  exact atI_last _ _
theorem inV_strs (x : Str) : ∀ l : List Str, inV (.str x) (l.map V.str) = decide (x ∈ l)
  | [] => by simp [inV]
  | y :: l => by
    have ih := inV_strs x l
    have e : inV (.str x) ((y :: l).map V.str) = (eqV (.str y) (.str x) || inV (.str x) (l.map V.str)) := by simp [inV]
    rw [e, ih]
    by_cases h : x = y
    · subst h
      simp [eqV]
    · have h' : ¬ y = x := fun z => h z.symm
      simp [eqV, h, h']
theorem strs_flat : ∀ l : List Str, (l.map V.str).all flatV = true
  | [] => rfl
  | y :: l => by
    rw [List.map_cons, List.all_cons, strs_flat l]
    rfl
end Toy

set_option Elab.async false
set_option maxRecDepth 100000
set_option maxHeartbeats 4000000
/-! Part C: the methods of the class. -/
namespace Toy
open PySem L2
open PyProof.Rows (envOfC)
section
variable {P : Program} {w : World} {K : PySem.W.Frag} {mg : Str → Option Value} {base : Heap} {C aB aO aC : Addr} {es : Array DictEntry} {n : Nat}
theorem met_of {m qual : Str} {st : Stmt} {f : Addr} {fd : FuncData} {N ps : List Str} {k : Nat} {sp : Sp} (c : Cls K C) (me : Meth K C m f) (F : Fun K m qual st f fd) (b : Binds K fd ps []) (S : FnScope N ps (defScope st)) (len : ∀ vs H Q E, sp vs H Q E → vs.length = ps.length)
    (hbody : ∀ (cdv : Value) (A : Around) (outer : List Env) (s : Shared) (H : Hp) (vs : List V) (Q : VK) (E : XK), Room k (A.deeper (envOfC qual (defScope st) s.heap.objs.size f cdv)) → sp vs H Q E →
      ∃ t, PSs (cxOf CX0 P w K mg base N qual (defScope st) f cdv A outer s H E).nox (defBody st) t ∧ t { nx := fun _ H' => Q .non H', rt := Q } (start N vs) H) : C8.Met P w K mg base (k + 1) C m sp [] :=
  ⟨f, fd, ps, [], c, me, F.ok S len hbody, b, .nil⟩
abbrev sInit : Stmt := inClass (topS 6) 0
theorem scInit : FnScope ["self", "contexts"] ["self", "contexts"] (defScope sInit) := ⟨rfl, rfl, rfl, by decide +kernel, rfl, by decide +kernel, by decide +kernel⟩
def spInit (C : Addr) : Sp := fun vs H Q _ => ∃ (o dx t : Addr), vs = [.ref o, .ref t] ∧ H o = some (.ins C dx []) ∧ SqT K H t [] ∧ ∀ (c a : Addr) (H' : Hp), H c = none → H a = none → Arr C H' o c a ([], []) → (∀ b u, H b = some u → b ≠ o → H' b = some u) → Q .non H'
theorem c_init {f : Addr} {fd : FuncData} (T : Txt K w mg C aB aO aC es n) (M : Mk K C f) (mC : mg "Arranger" = some (.ref C)) (F : Fun K "__init__" "Arranger.__init__" sInit f fd) (b : Binds K fd ["self", "contexts"] []) : C8.Mak P w K mg base 1 "Arranger" C (spInit (K := K) C) [] := by
  refine ⟨f, fd, ["self", "contexts"], [], M, F.ok scInit (fun vs H Q E h => ?_) (fun cdv A outer s H vs Q E hr h => ?_), mC, b, .nil⟩
  · obtain ⟨o, dx, t, rfl, _⟩ := h
    rfl
  obtain ⟨o, dx, t, rfl, ho, ht, q⟩ := h
  refine ⟨_, (pss_cons (ps_fld (pv 0) (pe_callTy call_list_of rfl T.zlist boot_list (pa_cons (pv 1) pa_nil)) rfl)
    (pss_one (ps_fld (pv 0) (pe_lst pa_nil) rfl))), ?_⟩
  refine ⟨_, rfl, t, _, rfl, .inr ht, fun c hc => ?_⟩
  have noc : o ≠ c := ne_of_none ho hc
  refine ⟨_, rfl, o, C, dx, [], rfl, (by rw [upd_ne noc]; exact ho), T.cl, T.nC, (by show 0 < 1000; decide), ?_⟩
  refine ⟨(by show 0 ≤ sizeLine; decide), fun a ha => ?_⟩
  have noa : o ≠ a := by
    intro z
    rw [z, upd_same] at ha
    cases ha
  have nca : c ≠ a := by
    intro z
    rw [← z, upd_ne noc.symm, upd_same] at ha
    cases ha
  have ha' : H a = none := by
    rw [upd_ne noa.symm, upd_ne nca.symm] at ha
    exact ha
  refine ⟨_, rfl, o, C, dx, _, rfl, (by rw [upd_ne noa, upd_same]), T.cl, T.nA, (by show 1 < 1000; decide), ?_⟩
  refine q c a _ hc ha' ⟨dx, [], [], upd_same, ?_, ?_, .nil, .nil, nca⟩ fun x u hx hxo => ?_
  · rw [upd_ne noc.symm, upd_ne nca, upd_ne noc.symm, upd_same]
    rfl
  · rw [upd_ne noa.symm, upd_same]
    rfl
  · rw [upd_ne hxo, upd_ne (ne_of_none hx ha'), upd_ne hxo, upd_ne (ne_of_none hx hc)]
    exact hx
abbrev sAddSign : Stmt := inClass (topS 6) 1
theorem scAddSign : FnScope ["self", "sign", "token"] ["self", "sign", "token"] (defScope sAddSign) := ⟨rfl, rfl, rfl, by decide +kernel, rfl, by decide +kernel, by decide +kernel⟩
def spAddSign (C : Addr) : Sp := fun vs H Q _ => ∃ (o c a t : Addr) (s : LS) (z : Str) (k : Tk), vs = [.ref o, .str z, .ref t] ∧ Arr C H o c a s ∧ H t = some (.tup (tkV k)) ∧ s.2.length ≤ 5000 ∧
  ∀ H', Arr C H' o c a (s.1, s.2 ++ [sg z k]) → Keep2 c a H H' → Q .non H'
theorem c_addSign {f : Addr} {fd : FuncData} (T : Txt K w mg C aB aO aC es n) (me : Meth K C "add_sign" f) (F : Fun K "add_sign" "Arranger.add_sign" sAddSign f fd) (b : Binds K fd ["self", "sign", "token"] []) : C8.Met P w K mg base 1 C "add_sign" (spAddSign C) [] := by
  refine met_of T.cl me F b scAddSign (fun vs H Q E h => ?_) (fun cdv A outer s H vs Q E hr h => ?_)
  · obtain ⟨o, c, a, t, s, z, k, rfl, _⟩ := h
    rfl
  obtain ⟨o, c, a, t, ⟨st, out⟩, z, k, rfl, AR, ht, hl, q⟩ := h
  obtain ⟨dx, as, ls, h1, h2, h3, h4, h5, h6⟩ := id AR.ex
  refine ⟨_, (pss_one (ps_expr (pe_bm PySem.F.plainAttrs_list PySem.F.slot_list_append PySem.F.type_list_append mt_append (pe_fld (pv 0) rfl) (pa_cons (pe_tup (pa_cons pe_str (pa_cons (pv 1) (pa_cons (pe_ix ix_tup (pv 2) pe_int (fun _ _ => rfl)) (pa_cons (pe_ix ix_tup (pv 2) pe_int (fun _ _ => rfl)) pa_nil))))) pa_nil)))), ?_⟩
  refine ⟨_, rfl, o, C, dx, _, _, rfl, h1, T.cl, T.nA, flds_a _ _, .inl ⟨rfl, _, SqL.of h3⟩, _, rfl, _, rfl, t, _, 2, _, rfl, rfl, SqT.of ht, rfl, _, rfl, t, _, 3, _, rfl, rfl, SqT.of ht, rfl, (by show 4 ≤ sizeLine; decide), fun p hp => ?_⟩
  have k1 := same_new hp (.tup (tkV (sg z k)))
  refine ⟨a, _, _, rfl, rfl, k1 _ _ h3, szl (by rw [List.length_map, h5.len]; have hl' : out.length ≤ 5000 := hl; omega), ?_⟩
  exact q _ (Arr.add (k1 _ _ h1) (k1 _ _ h2) (k1 _ _ h3) (h4.keep fun _ _ h => k1 _ _ h) (h5.keep fun _ _ h => k1 _ _ h) h6 upd_same) ((keep2_of k1).trans (keep_a _))
theorem nbm : decide (V.str "marker" = V.str "block") = false := by decide +kernel
abbrev sTopCol : Stmt := inClass (topS 6) 3
theorem scTopCol : FnScope ["self"] ["self"] (defScope sTopCol) := ⟨rfl, rfl, rfl, by decide +kernel, rfl, by decide +kernel, by decide +kernel⟩
def spTopCol (C : Addr) : Sp := fun vs H Q _ => ∃ (o c a : Addr) (s : LS), vs = [.ref o] ∧ Arr C H o c a s ∧ Q (.int (topCol s.1)) H
theorem c_topCol {f : Addr} {fd : FuncData} (T : Txt K w mg C aB aO aC es n) (me : Meth K C "top_column" f) (F : Fun K "top_column" "Arranger.top_column" sTopCol f fd) (b : Binds K fd ["self"] []) : C8.Met P w K mg base 1 C "top_column" (spTopCol C) [] := by
  refine met_of T.cl me F b scTopCol (fun vs H Q E h => ?_) (fun cdv A outer s H vs Q E hr h => ?_)
  · obtain ⟨o, c, a, s, rfl, _⟩ := h
    rfl
  obtain ⟨o, c, a, ⟨st, out⟩, rfl, AR, q⟩ := h
  obtain ⟨dx, as, ls, h1, h2, h3, h4, h5, h6⟩ := id AR.ex
  refine ⟨_, (pss_cons (ps_if (PW.pt (pw_and (pt_truth (pe_fld (pv 0) rfl) (fun _ => rfl)) (pw_and1 (pt_cmpR op_eq (pe_ix ix_tup (pe_ix ix_list (pe_fld (pv 0) rfl) (pe_un un_neg pe_int) (fun _ _ => rfl)) pe_int (fun _ _ => rfl)) pe_str (nomark _)))))
      (pss_one (ps_ret (pe_ix ix_tup (pe_ix ix_list (pe_fld (pv 0) rfl) (pe_un un_neg pe_int) (fun _ _ => rfl)) pe_int (fun _ _ => rfl))))
      pss_nil)
    (pss_one (ps_ret pe_int))), ?_⟩
  refine ⟨_, rfl, o, C, dx, _, _, rfl, h1, T.cl, T.nC, flds_c _ _, _, .inl ⟨_, SqL.of h2, rfl⟩, ?_⟩
  cases h4 with
  | nil => exact iteF (iteF q)
  | @cons t x l st ht h4 =>
    have ne : (!((t :: l).reverse.map V.ref).isEmpty) = true := by simp
    rw [ne]
    refine iteT ?_
    cases x with
    | block y =>
      refine ⟨_, rfl, o, C, dx, _, _, rfl, h1, T.cl, T.nC, flds_c _ _, _, rfl, c, _, _, _, rfl, rfl, SqL.of h2, top_atI, t, _, 0, _, rfl, rfl, SqT.of ht, rfl, rfl, _, rfl, ?_⟩
      refine iteT ⟨_, rfl, o, C, dx, _, _, rfl, h1, T.cl, T.nC, flds_c _ _, _, rfl, c, _, _, _, rfl, rfl, SqL.of h2, top_atI, t, _, 1, _, rfl, rfl, SqT.of ht, rfl, q⟩
    | marker y =>
      refine ⟨_, rfl, o, C, dx, _, _, rfl, h1, T.cl, T.nC, flds_c _ _, _, rfl, c, _, _, _, rfl, rfl, SqL.of h2, top_atI, t, _, 0, _, rfl, rfl, SqT.of ht, rfl, rfl, _, rfl, ?_⟩
      rw [nbm]
      exact iteF q
theorem rev_at {l : List Addr} {i : Nat} (h : i < l.length) : (l.reverse.map V.ref)[(l.reverse.map V.ref).length - 1 - i]? = some (V.ref l[i]) := by
  rw [List.length_map, List.length_reverse, List.getElem?_map, List.getElem?_reverse (by omega), show l.length - 1 - (l.length - 1 - i) = i by omega, List.getElem?_eq_getElem h]
  rfl
theorem inner_marker {l : List Ctx} {i : Nat} {y : Str} (h : l[i]? = some (.marker y)) : innerCol (l.drop i) = innerCol (l.drop (i + 1)) := by
  obtain ⟨hi, e⟩ := List.getElem?_eq_some_iff.mp h
  rw [List.drop_eq_getElem_cons hi, e]
  rfl
theorem inner_block {l : List Ctx} {i : Nat} {y : Int} (h : l[i]? = some (.block y)) : innerCol (l.drop i) = y := by
  obtain ⟨hi, e⟩ := List.getElem?_eq_some_iff.mp h
  rw [List.drop_eq_getElem_cons hi, e]
  rfl
abbrev sInner : Stmt := inClass (topS 6) 2
theorem scInner : FnScope ["self", "word", "told"] ["self"] (defScope sInner) := ⟨rfl, rfl, rfl, by decide +kernel, rfl, by decide +kernel, by decide +kernel⟩
def spInner (C : Addr) : Sp := fun vs H Q _ => ∃ (o c a : Addr) (s : LS), vs = [.ref o] ∧ Arr C H o c a s ∧ Q (.int (innerCol s.1)) H
theorem c_inner {f : Addr} {fd : FuncData} (T : Txt K w mg C aB aO aC es n) (me : Meth K C "innermost_column" f) (F : Fun K "innermost_column" "Arranger.innermost_column" sInner f fd) (b : Binds K fd ["self"] []) : C8.Met P w K mg base 1 C "innermost_column" (spInner C) [] := by
  refine met_of T.cl me F b scInner (fun vs H Q E h => ?_) (fun cdv A outer s H vs Q E hr h => ?_)
  · obtain ⟨o, c, a, s, rfl, _⟩ := h
    rfl
  obtain ⟨o, c, a, ⟨st, out⟩, rfl, AR, q⟩ := h
  obtain ⟨dx, as, ls, h1, h2, h3, h4, h5, h6⟩ := id AR.ex
  have hl : as.length = st.length := h4.len
  refine ⟨_, (pss_cons (ps_for PassesOwn.never rfl (RT.pi_revA rfl T.zreversed (pe_fld (pv 0) rfl)) (pg_tup rfl (pgs_cons (pg_name (i := 1) scInner.nd rfl (Or.inl rfl)) (pgs_cons (pg_name (i := 2) scInner.nd rfl (Or.inl rfl)) pgs_nil)))
      (pss_one (ps_if (pt_cmpR op_eq (pv 1) pe_str (nomark _))
      (pss_one (ps_ret (pv 2)))
      pss_nil)))
    (pss_one (ps_ret pe_int))), ?_⟩
  refine ⟨_, rfl, o, C, dx, _, _, rfl, h1, T.cl, T.nC, flds_c _ _, c, _, rfl, .inl ⟨SqL.of h2, RT.for_Itv (K := K) (fun i σ H2 => H2 = H ∧ (∃ l1 l2, σ = [some (.ref o), l1, l2]) ∧ innerCol st = innerCol (st.drop i)) ⟨rfl, ⟨none, none, rfl⟩, rfl⟩
    (by rintro i σ H2 ⟨rfl, _⟩; exact SqL.of h2) ?_ ?_⟩⟩
  · rintro i x σ H2 hi hx ⟨rfl, ⟨l1, l2, rfl⟩, e⟩
    have hi' : i < as.length := by rw [List.length_map, List.length_reverse] at hi; exact hi
    have hs : i < st.length := by omega
    rw [rev_at hi'] at hx
    cases hx
    obtain ⟨t, ht1, ht2⟩ := h4.get (List.getElem?_eq_getElem hs)
    rw [List.getElem?_eq_getElem hi'] at ht1
    cases ht1
    cases hc : st[i] with
    | block y =>
      rw [hc] at ht2
      refine ⟨_, _, rfl, SqT.of ht2, rfl, _, _, rfl, _, _, rfl, rfl, ?_⟩
      refine ⟨_, rfl, rfl, _, rfl, ?_⟩
      have k := inner_block (l := st) (i := i) (y := y) (by rw [List.getElem?_eq_getElem hs, hc])
      rw [← e] at k
      refine iteT ⟨_, rfl, ?_⟩
      have q' : Q (.int (innerCol st)) H2 := q
      rw [k] at q'
      exact q'
    | marker y =>
      rw [hc] at ht2
      refine ⟨_, _, rfl, SqT.of ht2, rfl, _, _, rfl, _, _, rfl, rfl, ?_⟩
      refine ⟨_, rfl, rfl, _, rfl, ?_⟩
      rw [nbm]
      exact iteF ⟨rfl, ⟨_, _, rfl⟩, by rw [e]; exact inner_marker (by rw [List.getElem?_eq_getElem hs, hc])⟩
  · rintro σ H2 ⟨rfl, ⟨l1, l2, rfl⟩, e⟩
    have ed : st.drop ((as.reverse.map V.ref).length) = [] := by
      rw [List.length_map, List.length_reverse]
      exact List.drop_eq_nil_of_le (by rw [hl]; exact Nat.le_refl _)
    rw [ed] at e
    have q' : Q (.int (innerCol st)) H2 := q
    rw [e] at q'
    exact q'
abbrev sCloseB : Stmt := inClass (topS 6) 5
theorem scCloseB : FnScope ["self", "token"] ["self", "token"] (defScope sCloseB) := ⟨rfl, rfl, rfl, by decide +kernel, rfl, by decide +kernel, by decide +kernel⟩
def spCloseB (C : Addr) : Sp := fun vs H Q _ => ∃ (o c a t : Addr) (x : Ctx) (st : List Ctx) (out : List Tk) (k : Tk), vs = [.ref o, .ref t] ∧ Arr C H o c a (x :: st, out) ∧ H t = some (.tup (tkV k)) ∧ out.length ≤ 5000 ∧
  ∀ H', Arr C H' o c a (st, out ++ [sg "}" k]) → Keep2 c a H H' → Q .non H'
theorem c_closeB {f : Addr} {fd : FuncData} (T : Txt K w mg C aB aO aC es n) (cadd_sign : C8.Met P w K mg base 1 C "add_sign" (spAddSign C) []) (me : Meth K C "close_block" f) (F : Fun K "close_block" "Arranger.close_block" sCloseB f fd) (b : Binds K fd ["self", "token"] []) : C8.Met P w K mg base 2 C "close_block" (spCloseB C) [] := by
  refine met_of T.cl me F b scCloseB (fun vs H Q E h => ?_) (fun cdv A outer s H vs Q E hr h => ?_)
  · obtain ⟨o, c, a, t, x, st, out, k, rfl, _⟩ := h
    rfl
  obtain ⟨o, c, a, t, x, st, out, k, rfl, AR, ht, hl, q⟩ := h
  obtain ⟨dx, as, ls, h1, h2, h3, h4, h5, h6⟩ := id AR.ex
  cases h4 with
  | @cons ta _ las _ hta h4 =>
  refine ⟨_, (pss_cons (ps_expr (pe_bm0 PySem.F.plainAttrs_list PySem.F.slot_list_pop PySem.F.type_list_pop mt_pop (pe_fld (pv 0) rfl)))
    (pss_one (ps_expr (C8.pe_mt cadd_sign hr (by decide) (pv 0) (pa_cons pe_str (pa_cons (pv 1) pa_nil)))))), ?_⟩
  refine ⟨_, rfl, o, C, dx, _, _, rfl, h1, T.cl, T.nC, flds_c _ _, .inl ⟨rfl, _, SqL.of h2⟩, c, _, _, rfl, rfl, h2, top_at, ?_⟩
  have A1 := Arr.pop (k := x) h1 h2 h3 h4 h5 h6
  have ht1 := AR.tup (keep_c (HO.lst ((ta :: las).reverse.map V.ref).dropLast)) ht
  obtain ⟨dx', as', ls', g1, _⟩ := id A1.ex
  refine ⟨_, rfl, o, dx', _, rfl, g1, flds_no _ _ (by decide +kernel) (by decide +kernel), _, rfl, o, c, a, t, _, "}", k, rfl, A1, ht1, hl, fun H' A2 k2 => ?_⟩
  exact q H' A2 ((keep_c _).trans k2)
/-- the place of the instance: what a method call asks -/
theorem Arr.ins {H : Hp} {o c a : Addr} {s : LS} (A : Arr C H o c a s) : ∃ dx, H o = some (.ins C dx (flds c a)) := let ⟨dx, _, _, h, _⟩ := A.ex; ⟨dx, h⟩
abbrev sOpenB : Stmt := inClass (topS 6) 4
theorem scOpenB : FnScope ["self", "token"] ["self", "token"] (defScope sOpenB) := ⟨rfl, rfl, rfl, by decide +kernel, rfl, by decide +kernel, by decide +kernel⟩
def spOpenB (C : Addr) : Sp := fun vs H Q _ => ∃ (o c a t : Addr) (s : LS) (k : Tk), vs = [.ref o, .ref t] ∧ Arr C H o c a s ∧ H t = some (.tup (tkV k)) ∧ s.1.length + s.2.length ≤ 4000 ∧
  ∀ H', Arr C H' o c a (opens k s).1 → Keep2 c a H H' → Q (.bl (opens k s).2) H'
theorem c_openB {f : Addr} {fd : FuncData} (T : Txt K w mg C aB aO aC es n) (cadd_sign : C8.Met P w K mg base 1 C "add_sign" (spAddSign C) []) (cinnermost_column : C8.Met P w K mg base 1 C "innermost_column" (spInner C) []) (me : Meth K C "open_block" f) (F : Fun K "open_block" "Arranger.open_block" sOpenB f fd) (b : Binds K fd ["self", "token"] []) : C8.Met P w K mg base 2 C "open_block" (spOpenB C) [] := by
  refine met_of T.cl me F b scOpenB (fun vs H Q E h => ?_) (fun cdv A outer s H vs Q E hr h => ?_)
  · obtain ⟨o, c, a, t, s, k, rfl, _⟩ := h
    rfl
  obtain ⟨o, c, a, t, ⟨st, out⟩, k, rfl, AR, ht, hl, q⟩ := h
  have hl' : st.length + out.length ≤ 4000 := hl
  have mno : ¬ ("add_sign" : Str) = "arranged" ∧ ¬ ("add_sign" : Str) = "contexts" ∧ ¬ ("innermost_column" : Str) = "arranged" ∧ ¬ ("innermost_column" : Str) = "contexts" := by decide +kernel
  refine ⟨_, (pss_cons (ps_expr (C8.pe_mt cadd_sign hr (by decide) (pv 0) (pa_cons pe_str (pa_cons (pv 1) pa_nil))))
    (C8.pss_cut (ps_if (PW.pt (pw_and (pt_cmpR op_ne (pe_ix ix_tup (pv 1) pe_int (fun _ _ => rfl)) pe_str (nomark _)) (pw_and1 (pt_cmpR op_gt (pe_ix ix_tup (pv 1) pe_int (fun _ _ => rfl)) (C8.pe_mt0 cinnermost_column hr (by decide) (pv 0)) (nomark _)))))
      (pss_cons (ps_expr (pe_bm PySem.F.plainAttrs_list PySem.F.slot_list_append PySem.F.type_list_append mt_append (pe_fld (pv 0) rfl) (pa_cons (pe_tup (pa_cons pe_str (pa_cons (pe_ix ix_tup (pv 1) pe_int (fun _ _ => rfl)) pa_nil))) pa_nil)))
    (pss_one (ps_ret pe_bl)))
      pss_nil)
    (pss_cons (ps_expr (C8.pe_mt cadd_sign hr (by decide) (pv 0) (pa_cons pe_str (pa_cons (pv 1) pa_nil))))
    (pss_one (ps_ret pe_bl))))), ?_⟩
  obtain ⟨dx, g1⟩ := AR.ins
  refine ⟨_, rfl, o, dx, _, rfl, g1, flds_no _ _ mno.1 mno.2.1, _, rfl, o, c, a, t, _, "{", k, rfl, AR, ht, (by show out.length ≤ 5000; omega), fun H1 A1 k1 => ?_⟩
  have ht1 := AR.tup k1 ht
  refine ⟨fun σ' H' => σ' = [some (.ref o), some (.ref t)] ∧ H' = H1 ∧ ¬ (k.1 ≠ "end" ∧ innerCol st < k.2.2.2), ?_, ?_⟩
  · refine ⟨_, rfl, t, _, 0, _, rfl, rfl, SqT.of ht1, rfl, rfl, _, rfl, ?_⟩
    by_cases he : k.1 = "end"
    · rw [decide_eq_true (show V.str k.1 = V.str "end" by rw [he])]
      exact iteF (iteF ⟨rfl, rfl, fun z => z.1 he⟩)
    · rw [decide_eq_false (fun z => he (V.str.inj z) : ¬ V.str k.1 = V.str "end")]
      obtain ⟨dx1, e1⟩ := A1.ins
      refine iteT ⟨_, rfl, t, _, 3, _, rfl, rfl, SqT.of ht1, rfl, _, rfl, o, dx1, _, rfl, e1, flds_no _ _ mno.2.2.1 mno.2.2.2, o, c, a, _, rfl, A1, _, _, rfl, rfl, _, rfl, ?_⟩
      by_cases hc : innerCol st < k.2.2.2
      · rw [decide_eq_true (show innerCol (st, out ++ [sg "{" k]).1 < k.2.2.2 from hc)]
        have eo : opens k (st, out) = ((.block k.2.2.2 :: st, out ++ [sg "{" k]), true) := if_pos ⟨he, hc⟩
        obtain ⟨dx2, as2, ls2, j1, j2, j3, j4, j5, j6⟩ := id A1.ex
        refine iteT ⟨_, rfl, o, C, dx2, _, _, rfl, j1, T.cl, T.nC, flds_c _ _, .inl ⟨rfl, _, SqL.of j2⟩, _, rfl, t, _, 3, _, rfl, rfl, SqT.of ht1, rfl, (by show 2 ≤ sizeLine; decide), fun p hp => ?_⟩
        have k3 := same_new hp (.tup (Ctx.v (.block k.2.2.2)))
        have jl := j4.len
        refine ⟨c, _, _, rfl, rfl, k3 _ _ j2, szl (by rw [List.length_map, List.length_reverse, jl]; show st.length ≤ 100000; omega), ?_⟩
        have A3 := Arr.push (k := .block k.2.2.2) (k3 _ _ j1) (k3 _ _ j2) (k3 _ _ j3) (j4.keep fun _ _ h => k3 _ _ h) (j5.keep fun _ _ h => k3 _ _ h) j6 upd_same
        rw [eo] at q
        exact q _ A3 ((k1.trans (keep2_of k3)).trans (keep_c _))
      · rw [decide_eq_false (show ¬ innerCol (st, out ++ [sg "{" k]).1 < k.2.2.2 from hc)]
        exact iteF ⟨rfl, rfl, fun z => hc z.2⟩
  · rintro σ' H' ⟨rfl, rfl, hn⟩
    have eo : opens k (st, out) = ((st, out ++ [sg "{" k, sg "}" k]), false) := if_neg hn
    obtain ⟨dx1, e1⟩ := A1.ins
    refine ⟨_, rfl, o, dx1, _, rfl, e1, flds_no _ _ mno.1 mno.2.1, _, rfl, o, c, a, t, _, "}", k, rfl, A1, ht1, (by show (out ++ [sg "{" k]).length ≤ 5000; rw [List.length_append]; show out.length + 1 ≤ 5000; omega), fun H2 A2 k2 => ?_⟩
    rw [eo] at q
    have e2 : (out ++ [sg "{" k]) ++ [sg "}" k] = out ++ [sg "{" k, sg "}" k] := by simp
    have A2' : Arr C H2 o c a (st, (out ++ [sg "{" k]) ++ [sg "}" k]) := A2
    rw [e2] at A2'
    exact q _ A2' (k1.trans k2)
abbrev sCloseAll : Stmt := inClass (topS 6) 6
theorem scCloseAll : FnScope ["self", "token"] ["self", "token"] (defScope sCloseAll) := ⟨rfl, rfl, rfl, by decide +kernel, rfl, by decide +kernel, by decide +kernel⟩
def spCloseAll (C : Addr) : Sp := fun vs H Q _ => ∃ (o c a t : Addr) (s : LS) (k : Tk), vs = [.ref o, .ref t] ∧ Arr C H o c a s ∧ H t = some (.tup (tkV k)) ∧ s.1.length + s.2.length ≤ 5000 ∧ (∀ y, Ctx.block y ∈ s.1 → 0 < y) ∧
  ∀ H', Arr C H' o c a ([], endAll k s.1 s.2) → Keep2 c a H H' → Q .non H'
theorem c_closeAll {f : Addr} {fd : FuncData} (T : Txt K w mg C aB aO aC es n) (cclose_block : C8.Met P w K mg base 2 C "close_block" (spCloseB C) []) (ctop_column : C8.Met P w K mg base 1 C "top_column" (spTopCol C) []) (me : Meth K C "close_all" f) (F : Fun K "close_all" "Arranger.close_all" sCloseAll f fd) (b : Binds K fd ["self", "token"] []) : C8.Met P w K mg base 3 C "close_all" (spCloseAll C) [] := by
  refine met_of T.cl me F b scCloseAll (fun vs H Q E h => ?_) (fun cdv A outer s H vs Q E hr h => ?_)
  · obtain ⟨o, c, a, t, s, k, rfl, _⟩ := h
    rfl
  obtain ⟨o, c, a, t, ⟨st0, out0⟩, k, rfl, AR, ht, hl, hb, q⟩ := h
  have mno : ¬ ("close_block" : Str) = "arranged" ∧ ¬ ("close_block" : Str) = "contexts" ∧ ¬ ("top_column" : Str) = "arranged" ∧ ¬ ("top_column" : Str) = "contexts" := by decide +kernel
  refine ⟨_, (pss_one (ps_while PassesOwn.never (pt_truth (pe_fld (pv 0) rfl) (fun _ => rfl))
      (pss_one (ps_if (pt_cmpR op_gt (C8.pe_mt0 ctop_column hr (by decide) (pv 0)) pe_int (nomark _))
      (pss_one (ps_expr (C8.pe_mt cclose_block hr (by decide) (pv 0) (pa_cons (pv 1) pa_nil))))
      (pss_one (ps_expr (pe_bm0 PySem.F.plainAttrs_list PySem.F.slot_list_pop PySem.F.type_list_pop mt_pop (pe_fld (pv 0) rfl)))))))), ?_⟩
  refine ⟨fun m σ H2 => ∃ st out, m = st.length ∧ σ = [some (.ref o), some (.ref t)] ∧ Arr C H2 o c a (st, out) ∧ Keep2 c a H H2 ∧ endAll k st out = endAll k st0 out0 ∧ st.length + out.length ≤ 5000 ∧ ∀ y, Ctx.block y ∈ st → 0 < y,
    ⟨_, st0, out0, rfl, rfl, AR, Keep2.refl _ _ _, rfl, hl, hb⟩, ?_⟩
  rintro m σ H2 ⟨st, out, rfl, rfl, A2, k2, e, hl2, hb2⟩
  obtain ⟨dx, as, ls, h1, h2, h3, h4, h5, h6⟩ := id A2.ex
  refine ⟨_, rfl, o, C, dx, _, _, rfl, h1, T.cl, T.nC, flds_c _ _, _, .inl ⟨_, SqL.of h2, rfl⟩, ?_⟩
  cases h4 with
  | nil =>
    have e' : out = endAll k st0 out0 := e
    rw [← e'] at q
    exact iteF (q _ A2 k2)
  | @cons tx x l st ht2 h4 =>
    have ne : (!((tx :: l).reverse.map V.ref).isEmpty) = true := by simp
    rw [ne]
    refine iteT ⟨_, fun _ _ h => h, ?_⟩
    refine ⟨_, rfl, o, dx, _, rfl, h1, flds_no _ _ mno.2.2.1 mno.2.2.2, o, c, a, _, rfl, A2, _, _, rfl, rfl, _, rfl, ?_⟩
    cases x with
    | block y =>
      have hy : 0 < y := hb2 y (List.mem_cons_self ..)
      rw [decide_eq_true (show (0 : Int) < topCol (Ctx.block y :: st, out).1 from hy)]
      have lc : (Ctx.block y :: st).length = st.length + 1 := rfl
      refine iteT ⟨_, rfl, o, dx, _, rfl, h1, flds_no _ _ mno.1 mno.2.1, _, rfl, o, c, a, t, _, st, out, k, rfl, A2, AR.tup k2 ht, (by omega), fun H3 A3 k3 => ?_⟩
      refine ⟨st.length, by omega, st, _, rfl, rfl, A3, k2.trans k3, e, ?_, fun z hz => hb2 z (List.mem_cons_of_mem _ hz)⟩
      rw [List.length_append]
      show st.length + (out.length + 1) ≤ 5000
      omega
    | marker y =>
      have lc : (Ctx.marker y :: st).length = st.length + 1 := rfl
      refine iteF ⟨_, rfl, o, C, dx, _, _, rfl, h1, T.cl, T.nC, flds_c _ _, .inl ⟨rfl, _, SqL.of h2⟩, c, _, _, rfl, rfl, h2, top_at, ?_⟩
      have A3 := Arr.pop (k := .marker y) h1 h2 h3 h4 h5 h6
      exact ⟨st.length, by omega, st, out, rfl, rfl, A3, k2.trans (keep_c _), e, by omega, fun z hz => hb2 z (List.mem_cons_of_mem _ hz)⟩
end
end Toy

set_option Elab.async false
set_option maxRecDepth 100000
set_option maxHeartbeats 4000000
/-! Part D: rows, markers, a token met. -/
namespace Toy
open PySem L2
open PyProof.Rows (envOfC)
theorem firstOf_block (t : Tk) (c : Int) (st : List Ctx) (out : List Tk) : firstOf t (.block c :: st) out = if t.2.2.2 < c then firstOf t st (out ++ [sg "}" t]) else if c = t.2.2.2 then (.block c :: st, out ++ [sg ";" t]) else (.block c :: st, out) := rfl
section
variable {P : Program} {w : World} {K : PySem.W.Frag} {mg : Str → Option Value} {base : Heap} {C aB aO aC : Addr} {es : Array DictEntry} {n : Nat}
abbrev sBegin : Stmt := inClass (topS 6) 7
theorem scBegin : FnScope ["self", "token"] ["self", "token"] (defScope sBegin) := ⟨rfl, rfl, rfl, by decide +kernel, rfl, by decide +kernel, by decide +kernel⟩
def spBegin (C : Addr) : Sp := fun vs H Q _ => ∃ (o c a t : Addr) (s : LS) (k : Tk), vs = [.ref o, .ref t] ∧ Arr C H o c a s ∧ H t = some (.tup (tkV k)) ∧ s.1.length + s.2.length ≤ 4000 ∧ 0 < k.2.2.2 ∧
  ∀ H', Arr C H' o c a (firstOf k s.1 s.2) → Keep2 c a H H' → Q .non H'
theorem c_begin {f : Addr} {fd : FuncData} (T : Txt K w mg C aB aO aC es n) (cclose_block : C8.Met P w K mg base 2 C "close_block" (spCloseB C) []) (ctop_column : C8.Met P w K mg base 1 C "top_column" (spTopCol C) []) (cadd_sign : C8.Met P w K mg base 1 C "add_sign" (spAddSign C) [])
    (me : Meth K C "begin_row" f) (F : Fun K "begin_row" "Arranger.begin_row" sBegin f fd) (b : Binds K fd ["self", "token"] []) : C8.Met P w K mg base 3 C "begin_row" (spBegin C) [] := by
  refine met_of T.cl me F b scBegin (fun vs H Q E h => ?_) (fun cdv A outer s H vs Q E hr h => ?_)
  · obtain ⟨o, c, a, t, s, k, rfl, _⟩ := h
    rfl
  obtain ⟨o, c, a, t, ⟨st0, out0⟩, k, rfl, AR, ht, hl, hk, q⟩ := h
  have mno : ¬ ("close_block" : Str) = "arranged" ∧ ¬ ("close_block" : Str) = "contexts" ∧ ¬ ("top_column" : Str) = "arranged" ∧ ¬ ("top_column" : Str) = "contexts" ∧ ¬ ("add_sign" : Str) = "arranged" ∧ ¬ ("add_sign" : Str) = "contexts" := by decide +kernel
  refine ⟨_, (pss_cons (ps_while PassesOwn.never (pt_cmpR op_gt (C8.pe_mt0 ctop_column hr (by decide) (pv 0)) (pe_ix ix_tup (pv 1) pe_int (fun _ _ => rfl)) (nomark _))
      (pss_one (ps_expr (C8.pe_mt cclose_block hr (by decide) (pv 0) (pa_cons (pv 1) pa_nil)))))
    (pss_one (ps_if (pt_cmpR op_eq (C8.pe_mt0 ctop_column hr (by decide) (pv 0)) (pe_ix ix_tup (pv 1) pe_int (fun _ _ => rfl)) (nomark _))
      (pss_one (ps_expr (C8.pe_mt cadd_sign hr (by decide) (pv 0) (pa_cons pe_str (pa_cons (pv 1) pa_nil)))))
      pss_nil))), ?_⟩
  refine ⟨fun m σ H2 => ∃ st out, m = st.length ∧ σ = [some (.ref o), some (.ref t)] ∧ Arr C H2 o c a (st, out) ∧ Keep2 c a H H2 ∧ firstOf k st out = firstOf k st0 out0 ∧ st.length + out.length ≤ 4000,
    ⟨_, st0, out0, rfl, rfl, AR, Keep2.refl _ _ _, rfl, hl⟩, ?_⟩
  rintro m σ H2 ⟨st, out, rfl, rfl, A2, k2, e, hl2⟩
  obtain ⟨dx, h1⟩ := A2.ins
  have ht2 := AR.tup k2 ht
  refine ⟨_, rfl, o, dx, _, rfl, h1, flds_no _ _ mno.2.2.1 mno.2.2.2.1, o, c, a, _, rfl, A2, _, rfl, t, _, 3, _, rfl, rfl, SqT.of ht2, rfl, _, _, rfl, rfl, _, rfl, ?_⟩
  have tail : topCol st = k.2.2.2 → firstOf k st out = (st, out ++ [sg ";" k]) := fun ec => by
    cases st with
    | nil => have ec' : (0 : Int) = k.2.2.2 := ec; omega
    | cons x st =>
      cases x with
      | block y =>
        have ec' : y = k.2.2.2 := ec
        rw [firstOf_block, if_neg (by omega), if_pos ec']
      | marker y => have ec' : (0 : Int) = k.2.2.2 := ec; omega
  have tail2 : ¬ k.2.2.2 < topCol st → ¬ topCol st = k.2.2.2 → firstOf k st out = (st, out) := fun e1 e2 => by
    cases st with
    | nil => rfl
    | cons x st =>
      cases x with
      | block y =>
        have e1' : ¬ k.2.2.2 < y := e1
        have e2' : ¬ y = k.2.2.2 := e2
        rw [firstOf_block, if_neg e1', if_neg e2']
      | marker y => rfl
  by_cases hc : k.2.2.2 < topCol st
  · rw [decide_eq_true (show k.2.2.2 < topCol (st, out).1 from hc)]
    refine iteT ⟨_, fun _ _ h => h, ?_⟩
    cases st with
    | nil => have hc' : k.2.2.2 < 0 := hc; omega
    | cons x st =>
      cases x with
      | marker y => have hc' : k.2.2.2 < 0 := hc; omega
      | block y =>
        have hc' : k.2.2.2 < y := hc
        have lc : (Ctx.block y :: st).length = st.length + 1 := rfl
        refine ⟨_, rfl, o, dx, _, rfl, h1, flds_no _ _ mno.1 mno.2.1, _, rfl, o, c, a, t, _, st, out, k, rfl, A2, ht2, (by omega), fun H3 A3 k3 => ?_⟩
        refine ⟨st.length, by omega, st, _, rfl, rfl, A3, k2.trans k3, ?_, ?_⟩
        · rw [← e, firstOf_block, if_pos hc']
        · rw [List.length_append]
          show st.length + (out.length + 1) ≤ 4000
          omega
  · rw [decide_eq_false (show ¬ k.2.2.2 < topCol (st, out).1 from hc)]
    refine iteF ?_
    refine ⟨_, rfl, o, dx, _, rfl, h1, flds_no _ _ mno.2.2.1 mno.2.2.2.1, o, c, a, _, rfl, A2, _, rfl, t, _, 3, _, rfl, rfl, SqT.of ht2, rfl, rfl, _, rfl, ?_⟩
    have q' : ∀ H', Arr C H' o c a (firstOf k st0 out0) → Keep2 c a H H' → Q .non H' := q
    by_cases he : topCol st = k.2.2.2
    · rw [decide_eq_true (show V.int (topCol (st, out).1) = V.int k.2.2.2 from congrArg V.int he)]
      rw [← e, tail he] at q'
      exact iteT ⟨_, rfl, o, dx, _, rfl, h1, flds_no _ _ mno.2.2.2.2.1 mno.2.2.2.2.2, _, rfl, o, c, a, t, _, ";", k, rfl, A2, ht2, (by show out.length ≤ 5000; omega), fun H3 A3 k3 => q' _ A3 (k2.trans k3)⟩
    · rw [decide_eq_false (fun z => he (V.int.inj z) : ¬ V.int (topCol (st, out).1) = V.int k.2.2.2)]
      rw [← e, tail2 hc he] at q'
      exact iteF (q' _ A2 k2)
/-! ### up to a marker -/
def AllB (l : List Ctx) : Prop := ∀ x ∈ l, ∃ y, x = .block y
theorem topMarker_all : ∀ {bs st : List Ctx}, AllB bs → topMarker (bs ++ st) = topMarker st
  | [], _, _ => rfl
  | x :: bs, st, h => by
    obtain ⟨y, rfl⟩ := h x (List.mem_cons_self ..)
    exact topMarker_all (bs := bs) fun z hz => h z (List.mem_cons_of_mem _ hz)
theorem closeTop_all (t : Tk) : ∀ {bs st : List Ctx} (out : List Tk), AllB bs → closeTop t (bs ++ st) out = closeTop t st (out ++ List.replicate bs.length (sg "}" t))
  | [], st, out, _ => by simp
  | x :: bs, st, out, h => by
    obtain ⟨y, rfl⟩ := h x (List.mem_cons_self ..)
    show closeTop t (bs ++ st) (out ++ [sg "}" t]) = _
    rw [closeTop_all t _ fun z hz => h z (List.mem_cons_of_mem _ hz), List.append_assoc]
    rfl
theorem rev_atI {l : List Addr} {i : Nat} (h : i < l.length) : atI (l.reverse.map V.ref) ((l.length : Int) - 1 - (i : Int)) = some (V.ref l[i]) := by
  have e : (l.length : Int) - 1 - (i : Int) = ((l.length - 1 - i : Nat) : Int) := by omega
  rw [e]
  refine atI_nat ?_
  have k := rev_at h
  rw [List.length_map, List.length_reverse] at k
  exact k
abbrev sUpTo : Stmt := inClass (topS 6) 8
theorem scUpTo : FnScope ["self", "markers", "token", "at"] ["self", "markers", "token"] (defScope sUpTo) := ⟨rfl, rfl, rfl, by decide +kernel, rfl, by decide +kernel, by decide +kernel⟩
def spUpTo (K : PySem.W.Frag) (C : Addr) : Sp := fun vs H Q _ => ∃ (o c a t mt : Addr) (s : LS) (k : Tk) (ms : List Str), vs = [.ref o, .ref mt, .ref t] ∧ Arr C H o c a s ∧ H t = some (.tup (tkV k)) ∧ H mt = some (.tup (ms.map V.str)) ∧ s.1.length + s.2.length ≤ 4000 ∧
  ∀ H', Arr C H' o c a (upTo ms k s).1 → Keep2 c a H H' → Q (.bl (upTo ms k s).2) H'
theorem c_upTo {f : Addr} {fd : FuncData} (T : Txt K w mg C aB aO aC es n) (cclose_block : C8.Met P w K mg base 2 C "close_block" (spCloseB C) [])
    (me : Meth K C "close_up_to" f) (F : Fun K "close_up_to" "Arranger.close_up_to" sUpTo f fd) (b : Binds K fd ["self", "markers", "token"] []) : C8.Met P w K mg base 3 C "close_up_to" (spUpTo K C) [] := by
  refine met_of T.cl me F b scUpTo (fun vs H Q E h => ?_) (fun cdv A outer s H vs Q E hr h => ?_)
  · obtain ⟨o, c, a, t, mt, s, k, ms, rfl, _⟩ := h
    rfl
  obtain ⟨o, c, a, t, mt, ⟨st, out⟩, k, ms, rfl, AR, ht, hm, hl, q⟩ := h
  have mno : ¬ ("close_block" : Str) = "arranged" ∧ ¬ ("close_block" : Str) = "contexts" := by decide +kernel
  obtain ⟨dx, as, ls, h1, h2, h3, h4, h5, h6⟩ := id AR.ex
  have hal : as.length = st.length := h4.len
  have hxl : (as.reverse.map V.ref).length = as.length := by rw [List.length_map, List.length_reverse]
  refine ⟨_, (pss_cons (ps_set (i := 3) scUpTo.nd rfl (Or.inl rfl) (pe_op op_sub (pe_callB call_len_seq rfl T.zlen PySem.boot_len (pa_cons (pe_fld (pv 0) rfl) pa_nil)) pe_int))
    (pss_cons (ps_while PassesOwn.never (PW.pt (pw_and (pt_cmpR op_ge (pv 3) pe_int (nomark _)) (pw_and1 (pt_cmpR op_eq (pe_ix ix_tup (pe_ix ix_list (pe_fld (pv 0) rfl) (pv 3) (fun _ _ => rfl)) pe_int (fun _ _ => rfl)) pe_str (nomark _)))))
      (pss_one (ps_aug (i := 3) scUpTo.nd rfl (Or.inl rfl) pe_int ip_sub)))
    (pss_cons (ps_if (PW.pt (pw_or (pt_cmpR op_lt (pv 3) pe_int (nomark _)) (pw_or1 (pt_cmpR op_notIn_seq (pe_ix ix_tup (pe_ix ix_list (pe_fld (pv 0) rfl) (pv 3) (fun _ _ => rfl)) pe_int (fun _ _ => rfl)) (pv 1) rfl))))
      (pss_one (ps_ret pe_bl))
      pss_nil)
    (pss_cons (ps_while PassesOwn.never (pt_cmpR op_gt (pe_callB call_len_seq rfl T.zlen PySem.boot_len (pa_cons (pe_fld (pv 0) rfl) pa_nil)) (pe_op op_add (pv 3) pe_int) (nomark _))
      (pss_one (ps_expr (C8.pe_mt cclose_block hr (by decide) (pv 0) (pa_cons (pv 2) pa_nil)))))
    (pss_one (ps_ret pe_bl)))))), ?_⟩
  refine ⟨_, rfl, o, C, dx, _, _, rfl, h1, T.cl, T.nC, flds_c _ _, c, _, rfl, .inl (SqL.of h2), _, _, rfl, rfl, ?_⟩
  rw [hxl]
  -- the blocks on top are passed
  refine ⟨fun m σ H2 => H2 = H ∧ ∃ bs rest : List Ctx, m = rest.length ∧ st = bs ++ rest ∧ AllB bs ∧ σ = [some (.ref o), some (.ref mt), some (.ref t), some (.int ((as.length : Int) - 1 - (bs.length : Int)))],
    ⟨_, rfl, [], st, rfl, rfl, (fun x hx => by cases hx), by rw [show (as.length : Int) - 1 - ((([] : List Ctx).length : Nat) : Int) = (as.length : Int) - 1 from Int.sub_zero _]; rfl⟩, ?_⟩
  rintro m σ H2 ⟨rfl, bs, rest, rfl, est, hb, rfl⟩
  have hlen : st.length = bs.length + rest.length := by rw [est, List.length_append]
  refine ⟨_, rfl, _, _, rfl, rfl, _, rfl, ?_⟩
  cases rest with
  | nil =>
    have hlen' : st.length = bs.length := hlen
    rw [decide_eq_false (show ¬ (0 : Int) ≤ (as.length : Int) - 1 - (bs.length : Int) by omega)]
    refine iteF (iteF ?_)
    refine ⟨_, rfl, _, _, rfl, rfl, _, rfl, ?_⟩
    rw [decide_eq_true (show (as.length : Int) - 1 - (bs.length : Int) < 0 by omega)]
    have eu : upTo ms k (st, out) = ((st, out), false) := by
      have e1 : topMarker st = none := by rw [est, topMarker_all hb]; rfl
      unfold upTo
      rw [show topMarker (st, out).1 = none from e1]
    rw [eu] at q
    exact iteT (iteT (q _ AR (Keep2.refl _ _ _)))
  | cons x rest =>
    have hlen' : st.length = bs.length + (rest.length + 1) := hlen
    have hi : bs.length < as.length := by omega
    have hx : st[bs.length]? = some x := by rw [est]; simp
    obtain ⟨tx, ht1, ht2⟩ := h4.get hx
    rw [List.getElem?_eq_getElem hi] at ht1
    have etx : as[bs.length] = tx := Option.some.inj ht1
    have hat := rev_atI hi
    rw [etx] at hat
    rw [decide_eq_true (show (0 : Int) ≤ (as.length : Int) - 1 - (bs.length : Int) by omega)]
    refine iteT ?_
    cases x with
    | block y =>
      refine ⟨_, rfl, o, C, dx, _, _, rfl, h1, T.cl, T.nC, flds_c _ _, _, rfl, c, _, _, _, rfl, rfl, SqL.of h2, hat, tx, _, 0, _, rfl, rfl, SqT.of ht2, rfl, rfl, _, rfl, ?_⟩
      refine iteT ⟨_, fun _ _ h => h, ?_⟩
      refine ⟨_, rfl, _, _, rfl, rfl, rest.length, (by show rest.length < rest.length + 1; omega), rfl, bs ++ [.block y], rest, rfl, by rw [est]; simp, ?_, ?_⟩
      · intro z hz
        rcases List.mem_append.mp hz with hz | hz
        · exact hb z hz
        · exact ⟨y, List.mem_singleton.mp hz⟩
      · rw [List.length_append]
        show [some (V.ref o), some (V.ref mt), some (V.ref t), some (V.int ((as.length : Int) - 1 - (bs.length : Int) - 1))] = [_, _, _, some (V.int ((as.length : Int) - 1 - ((bs.length + 1 : Nat) : Int)))]
        rw [show (as.length : Int) - 1 - (bs.length : Int) - 1 = (as.length : Int) - 1 - ((bs.length + 1 : Nat) : Int) by omega]
    | marker y =>
      refine ⟨_, rfl, o, C, dx, _, _, rfl, h1, T.cl, T.nC, flds_c _ _, _, rfl, c, _, _, _, rfl, rfl, SqL.of h2, hat, tx, _, 0, _, rfl, rfl, SqT.of ht2, rfl, rfl, _, rfl, ?_⟩
      rw [nbm]
      refine iteF ?_
      refine ⟨_, rfl, _, _, rfl, rfl, _, rfl, ?_⟩
      rw [decide_eq_false (show ¬ (as.length : Int) - 1 - (bs.length : Int) < 0 by omega)]
      refine iteF ?_
      refine ⟨_, rfl, o, C, dx, _, _, rfl, h1, T.cl, T.nC, flds_c _ _, _, rfl, c, _, _, _, rfl, rfl, SqL.of h2, hat, tx, _, 1, _, rfl, rfl, SqT.of ht2, rfl, _, rfl, mt, _, rfl, .inr (SqT.of hm), rfl, strs_flat ms, _, rfl, ?_⟩
      show if (!inV (.str y) (ms.map V.str)) = true then _ else _
      rw [inV_strs]
      have e1 : topMarker st = some y := by rw [est, topMarker_all hb]; rfl
      by_cases hy : y ∈ ms
      · rw [decide_eq_true hy]
        refine iteF ?_
        have eu : upTo ms k (st, out) = (closeTop k st out, true) := by
          unfold upTo
          rw [show topMarker (st, out).1 = some y from e1]
          exact if_pos hy
        rw [eu] at q
        -- the blocks are closed
        refine ⟨fun m σ H2' => ∃ bs' out', m = bs'.length ∧ σ = [some (.ref o), some (.ref mt), some (.ref t), some (.int ((as.length : Int) - 1 - (bs.length : Int)))] ∧ AllB bs' ∧ Arr C H2' o c a (bs' ++ .marker y :: rest, out') ∧ Keep2 c a H2 H2' ∧ closeTop k (bs' ++ .marker y :: rest) out' = closeTop k st out ∧ bs'.length + out'.length ≤ 4000,
          ⟨_, bs, out, rfl, rfl, hb, est ▸ AR, Keep2.refl _ _ _, by rw [est], by show bs.length + out.length ≤ 4000; have hl' : st.length + out.length ≤ 4000 := hl; omega⟩, ?_⟩
        rintro m σ H3 ⟨bs', out', rfl, rfl, hb', A3, k3, e3, hl3⟩
        obtain ⟨dx3, as3, ls3, j1, j2, j3, j4, j5, j6⟩ := id A3.ex
        have j4l : as3.length = bs'.length + (rest.length + 1) := by
          have := j4.len
          rw [List.length_append] at this
          exact this
        refine ⟨_, rfl, o, C, dx3, _, _, rfl, j1, T.cl, T.nC, flds_c _ _, c, _, rfl, .inl (SqL.of j2), _, rfl, _, _, rfl, rfl, _, _, rfl, rfl, _, rfl, ?_⟩
        rw [List.length_map, List.length_reverse]
        cases bs' with
        | nil =>
          have j4l' : as3.length = 0 + (rest.length + 1) := j4l
          rw [decide_eq_false (show ¬ (as.length : Int) - 1 - (bs.length : Int) + 1 < (as3.length : Int) by omega)]
          rw [← e3] at q
          exact iteF (q _ A3 k3)
        | cons x bs' =>
          have j4l' : as3.length = (bs'.length + 1) + (rest.length + 1) := j4l
          rw [decide_eq_true (show (as.length : Int) - 1 - (bs.length : Int) + 1 < (as3.length : Int) by omega)]
          refine iteT ⟨_, fun _ _ h => h, ?_⟩
          obtain ⟨yx, rfl⟩ := hb' x (List.mem_cons_self ..)
          have hl3' : bs'.length + 1 + out'.length ≤ 4000 := hl3
          refine ⟨_, rfl, o, dx3, _, rfl, j1, flds_no _ _ mno.1 mno.2, _, rfl, o, c, a, t, _, bs' ++ .marker y :: rest, out', k, rfl, A3, AR.tup k3 ht, (by omega), fun H4 A4 k4 => ?_⟩
          refine ⟨bs'.length, (by show bs'.length < bs'.length + 1; omega), bs', _, rfl, rfl, fun z hz => hb' z (List.mem_cons_of_mem _ hz), A4, k3.trans k4, e3, ?_⟩
          rw [List.length_append]
          show bs'.length + (out'.length + 1) ≤ 4000
          omega
      · rw [decide_eq_false hy]
        have eu : upTo ms k (st, out) = ((st, out), false) := by
          unfold upTo
          rw [show topMarker (st, out).1 = some y from e1]
          exact if_neg hy
        rw [eu] at q
        exact iteT (q _ AR (Keep2.refl _ _ _))
/-! ### a token met -/
theorem Arr.of_eq {H : Hp} {o c a : Addr} {s s' : LS} (A : Arr C H o c a s) (e : s = s') : Arr C H o c a s' := e ▸ A
theorem upTo_len (ms : List Str) (t : Tk) (s : LS) : (upTo ms t s).1.1.length + (upTo ms t s).1.2.length = s.1.length + s.2.length := by
  have key : ∀ (st : List Ctx) (out : List Tk), (closeTop t st out).1.length + (closeTop t st out).2.length = st.length + out.length := by
    intro st
    induction st with
    | nil => intro out; rfl
    | cons x st ih =>
      intro out
      cases x with
      | block y =>
        show (closeTop t st (out ++ [sg "}" t])).1.length + (closeTop t st (out ++ [sg "}" t])).2.length = _
        rw [ih, List.length_append]
        show st.length + (out.length + 1) = (st.length + 1) + out.length
        omega
      | marker y => rfl
  unfold upTo
  split
  · split
    · exact key s.1 s.2
    · rfl
  · rfl
theorem upTo_top {m : Str} {t : Tk} {s : LS} (h : (upTo [m] t s).2 = true) : ∃ rest, (upTo [m] t s).1.1 = .marker m :: rest := by
  have key : ∀ (st : List Ctx) (out : List Tk), topMarker st = some m → ∃ rest, (closeTop t st out).1 = .marker m :: rest := by
    intro st
    induction st with
    | nil => intro out h; cases h
    | cons x st ih =>
      intro out h
      cases x with
      | block y => exact ih _ h
      | marker y =>
        have hy : y = m := Option.some.inj h
        subst hy
        exact ⟨st, rfl⟩
  unfold upTo at h ⊢
  split at h
  · rename_i m' e
    by_cases hm : m' ∈ [m]
    · rw [if_pos hm]
      have := List.mem_singleton.mp hm
      subst this
      exact key _ _ e
    · rw [if_neg hm] at h
      cases h
  · cases h
abbrev sMeet : Stmt := inClass (topS 6) 9
theorem scMeet : FnScope ["self", "token", "text"] ["self", "token"] (defScope sMeet) := ⟨rfl, rfl, rfl, by decide +kernel, rfl, by decide +kernel, by decide +kernel⟩
def spMeet (C : Addr) : Sp := fun vs H Q _ => ∃ (o c a t : Addr) (s : LS) (k : Tk), vs = [.ref o, .ref t] ∧ Arr C H o c a s ∧ H t = some (.tup (tkV k)) ∧ s.1.length + s.2.length ≤ 4000 ∧ (k.2.1 ∈ WORDS ∨ k.2.1 = "") ∧
  ∀ H', Arr C H' o c a (meet k s) → Keep2 c a H H' → Q .non H'
theorem c_meet {f : Addr} {fd : FuncData} (T : Txt K w mg C aB aO aC es n) (cclose_up_to : C8.Met P w K mg base 3 C "close_up_to" (spUpTo K C) [])
    (me : Meth K C "meet" f) (F : Fun K "meet" "Arranger.meet" sMeet f fd) (b : Binds K fd ["self", "token"] []) : C8.Met P w K mg base 4 C "meet" (spMeet C) [] := by
  refine met_of T.cl me F b scMeet (fun vs H Q E h => ?_) (fun cdv A outer s H vs Q E hr h => ?_)
  · obtain ⟨o, c, a, t, s, k, rfl, _⟩ := h
    rfl
  obtain ⟨o, c, a, t, s0, k, rfl, AR, ht, hl, hw, q⟩ := h
  have mno : ¬ ("close_up_to" : Str) = "arranged" ∧ ¬ ("close_up_to" : Str) = "contexts" := by decide +kernel
  refine ⟨_, (pss_cons (ps_set (i := 2) scMeet.nd rfl (Or.inl rfl) (pe_ix ix_tup (pv 1) pe_int (fun _ _ => rfl)))
    (C8.pss_cut (ps_if (pt_cmpR op_eq (pv 2) pe_str (nomark _))
      (pss_one (ps_expr (C8.pe_mt cclose_up_to hr (by decide) (pv 0) (pa_cons (pe_tup (pa_cons pe_str (pa_cons pe_str pa_nil))) (pa_cons (pv 1) pa_nil)))))
      pss_nil)
    (C8.pss_cut (ps_if (PW.pt (pw_and (pt_cmpR (op_in_kd T.kC) (pv 2) (C8.pe_gc rfl T.gCLOSERS) rfl) (pw_and1 (pt_val (C8.pe_mt cclose_up_to hr (by decide) (pv 0) (pa_cons (pe_tup (pa_cons (pe_ix (ix_kd T.kC) (C8.pe_gc rfl T.gCLOSERS) (pv 2) (fun _ _ => rfl)) pa_nil)) (pa_cons (pv 1) pa_nil)))))))
      (pss_cons (ps_expr (pe_bm0 PySem.F.plainAttrs_list PySem.F.slot_list_pop PySem.F.type_list_pop mt_pop (pe_fld (pv 0) rfl)))
    (pss_one (ps_if (pt_cmpR op_eq (pv 2) pe_str (nomark _))
      (pss_one (ps_expr (pe_bm PySem.F.plainAttrs_list PySem.F.slot_list_append PySem.F.type_list_append mt_append (pe_fld (pv 0) rfl) (pa_cons (pe_tup (pa_cons pe_str (pa_cons pe_str pa_nil))) pa_nil))))
      pss_nil)))
      pss_nil)
    (C8.pss_cut (ps_if (pt_cmpR op_in_seq (pv 2) (C8.pe_gc rfl T.gOPENERS) rfl)
      (pss_one (ps_expr (pe_bm PySem.F.plainAttrs_list PySem.F.slot_list_append PySem.F.type_list_append mt_append (pe_fld (pv 0) rfl) (pa_cons (pe_tup (pa_cons pe_str (pa_cons (pv 2) pa_nil))) pa_nil))))
      pss_nil)
    (pss_one (ps_expr (pe_bm PySem.F.plainAttrs_list PySem.F.slot_list_append PySem.F.type_list_append mt_append (pe_fld (pv 0) rfl) (pa_cons (pv 1) pa_nil)))))))), ?_⟩
  refine ⟨_, rfl, t, _, 1, _, rfl, rfl, SqT.of ht, rfl, ?_⟩
  -- a comma
  refine ⟨fun σ' H' => σ' = [some (.ref o), some (.ref t), some (.str k.2.1)] ∧ Arr C H' o c a (effComma k s0) ∧ Keep2 c a H H', ?_, ?_⟩
  · refine ⟨_, rfl, rfl, _, rfl, ?_⟩
    by_cases hc : k.2.1 = ","
    · rw [decide_eq_true (show V.str k.2.1 = V.str "," by rw [hc])]
      have ee : effComma k s0 = (upTo ["(", "["] k s0).1 := if_pos hc
      obtain ⟨dx, h1⟩ := AR.ins
      refine iteT ⟨_, rfl, o, dx, _, rfl, h1, flds_no _ _ mno.1 mno.2, (by show 2 ≤ sizeLine; decide), fun mt hmt => ?_⟩
      have A1 := AR.new hmt (.tup [.str "(", .str "["])
      refine ⟨_, rfl, o, c, a, t, mt, s0, k, ["(", "["], rfl, A1, (same_new hmt _) _ _ ht, upd_same, hl, fun H2 A2 k2 => ⟨rfl, A2.of_eq ee.symm, (keep2_of (same_new hmt _)).trans k2⟩⟩
    · rw [decide_eq_false (fun z => hc (V.str.inj z) : ¬ V.str k.2.1 = V.str ",")]
      have ee : effComma k s0 = s0 := if_neg hc
      exact iteF ⟨rfl, AR.of_eq ee.symm, Keep2.refl _ _ _⟩
  rintro σ1 H1 ⟨rfl, A1, k1⟩
  have l1 : (effComma k s0).1.length + (effComma k s0).2.length ≤ 4000 := by
    unfold effComma
    split
    · rw [upTo_len]; exact hl
    · exact hl
  -- a closing word
  refine ⟨fun σ' H' => σ' = [some (.ref o), some (.ref t), some (.str k.2.1)] ∧ Arr C H' o c a (effClose k (effComma k s0)) ∧ Keep2 c a H H', ?_, ?_⟩
  · rcases T.tell k.2.1 hw with ⟨e1, e2⟩ | ⟨m, u, e1, e2, e3⟩
    · have ee : effClose k (effComma k s0) = effComma k s0 := by
        unfold effClose
        rw [e1]
      refine ⟨_, rfl, _, _, rfl, rfl, e2, _, rfl, ?_⟩
      exact iteF (iteF ⟨rfl, A1.of_eq ee.symm, k1⟩)
    · have ee : effClose k (effComma k s0) = (let r := upTo [m] k (effComma k s0); if r.2 = true then (if k.2.1 = "then" then .marker "then" :: r.1.1.tail else r.1.1.tail, r.1.2) else r.1) := by
        unfold effClose
        rw [e1]
      refine ⟨_, rfl, _, _, rfl, rfl, e2, _, rfl, ?_⟩
      obtain ⟨dx, h1⟩ := A1.ins
      refine iteT ⟨_, rfl, o, dx, _, rfl, h1, flds_no _ _ mno.1 mno.2, _, rfl, _, u, .str m, rfl, rfl, e2, e3, (by show 1 ≤ sizeLine; decide), fun mt hmt => ?_⟩
      have A2 := A1.new hmt (.tup [.str m])
      have ks := same_new hmt (.tup [V.str m])
      refine ⟨_, rfl, o, c, a, t, mt, _, k, [m], rfl, A2, ks _ _ (AR.tup k1 ht), upd_same, l1, fun H3 A3 k3 => ⟨_, rfl, ?_⟩⟩
      have k13 := (k1.trans (keep2_of ks)).trans k3
      cases hu : (upTo [m] k (effComma k s0)).2 with
      | false =>
        have ee' : effClose k (effComma k s0) = (upTo [m] k (effComma k s0)).1 := by rw [ee]; simp only [hu]; rfl
        exact iteF ⟨rfl, A3.of_eq ee'.symm, k13⟩
      | true =>
        refine iteT ?_
        obtain ⟨rest, er⟩ := upTo_top hu
        obtain ⟨out3, eo⟩ : ∃ out3, (upTo [m] k (effComma k s0)).1 = (.marker m :: rest, out3) := ⟨_, Prod.ext er rfl⟩
        have ee' : effClose k (effComma k s0) = (if k.2.1 = "then" then .marker "then" :: rest else rest, out3) := by
          rw [ee]
          simp only [hu, eo]
          rfl
        have lr : (Ctx.marker m :: rest).length + out3.length ≤ 4000 := by
          have k2 := upTo_len [m] k (effComma k s0)
          rw [eo] at k2
          show (Ctx.marker m :: rest, out3).1.length + (Ctx.marker m :: rest, out3).2.length ≤ 4000
          omega
        have lr' : rest.length + 1 + out3.length ≤ 4000 := lr
        rw [eo] at A3
        obtain ⟨dx3, as, ls, j1, j2, j3, j4, j5, j6⟩ := id A3.ex
        cases j4 with
        | @cons tx _ las _ htx j4 =>
        refine ⟨_, rfl, o, C, dx3, _, _, rfl, j1, T.cl, T.nC, flds_c _ _, .inl ⟨rfl, _, SqL.of j2⟩, c, _, _, rfl, rfl, j2, top_at, ?_⟩
        have A4 := Arr.pop (k := .marker m) j1 j2 j3 j4 j5 j6
        refine ⟨_, rfl, rfl, _, rfl, ?_⟩
        have k14 := k13.trans (keep_c (a := a) (HO.lst ((tx :: las).reverse.map V.ref).dropLast))
        by_cases ht' : k.2.1 = "then"
        · rw [decide_eq_true (show V.str k.2.1 = V.str "then" by rw [ht'])]
          rw [if_pos ht'] at ee'
          obtain ⟨dx4, as4, ls4, i1, i2, i3, i4, i5, i6⟩ := id A4.ex
          refine iteT ⟨_, rfl, o, C, dx4, _, _, rfl, i1, T.cl, T.nC, flds_c _ _, .inl ⟨rfl, _, SqL.of i2⟩, (by show 2 ≤ sizeLine; decide), fun p hp => ?_⟩
          have k5 := same_new hp (.tup (Ctx.v (.marker "then")))
          have il := i4.len
          refine ⟨c, _, _, rfl, rfl, k5 _ _ i2, szl (by rw [List.length_map, List.length_reverse, il]; show rest.length ≤ 100000; omega), ?_⟩
          have A5 := Arr.push (k := .marker "then") (k5 _ _ i1) (k5 _ _ i2) (k5 _ _ i3) (i4.keep fun _ _ h => k5 _ _ h) (i5.keep fun _ _ h => k5 _ _ h) i6 upd_same
          exact ⟨rfl, A5.of_eq ee'.symm, (k14.trans (keep2_of k5)).trans (keep_c _)⟩
        · rw [decide_eq_false (fun z => ht' (V.str.inj z) : ¬ V.str k.2.1 = V.str "then")]
          rw [if_neg ht'] at ee'
          exact iteF ⟨rfl, A4.of_eq ee'.symm, k14⟩
  rintro σ2 H2 ⟨rfl, A2, k2⟩
  have l2 : (effClose k (effComma k s0)).1.length + (effClose k (effComma k s0)).2.length ≤ 4001 := by
    unfold effClose
    split
    · rename_i m em
      have k2 := upTo_len [m] k (effComma k s0)
      show (if (upTo [m] k (effComma k s0)).2 = true then ((if k.2.1 = "then" then Ctx.marker "then" :: (upTo [m] k (effComma k s0)).1.1.tail else (upTo [m] k (effComma k s0)).1.1.tail, (upTo [m] k (effComma k s0)).1.2) : LS) else (upTo [m] k (effComma k s0)).1).1.length + (if (upTo [m] k (effComma k s0)).2 = true then ((if k.2.1 = "then" then Ctx.marker "then" :: (upTo [m] k (effComma k s0)).1.1.tail else (upTo [m] k (effComma k s0)).1.1.tail, (upTo [m] k (effComma k s0)).1.2) : LS) else (upTo [m] k (effComma k s0)).1).2.length ≤ 4001
      have tl : (upTo [m] k (effComma k s0)).1.1.tail.length ≤ (upTo [m] k (effComma k s0)).1.1.length := by rw [List.length_tail]; omega
      split
      · split
        · show ((upTo [m] k (effComma k s0)).1.1.tail.length + 1) + (upTo [m] k (effComma k s0)).1.2.length ≤ 4001
          omega
        · show (upTo [m] k (effComma k s0)).1.1.tail.length + (upTo [m] k (effComma k s0)).1.2.length ≤ 4001
          omega
      · omega
    · omega
  -- an opening word
  refine ⟨fun σ' H' => σ' = [some (.ref o), some (.ref t), some (.str k.2.1)] ∧ Arr C H' o c a (effOpen k (effClose k (effComma k s0))) ∧ Keep2 c a H H', ?_, ?_⟩
  · refine ⟨_, rfl, aO, _, rfl, .inr (T.kOPENERS _), rfl, strs_flat _, _, rfl, ?_⟩
    show if inV (.str k.2.1) (OP.map V.str) = true then _ else _
    rw [inV_strs]
    by_cases ho : k.2.1 ∈ OP
    · rw [decide_eq_true ho]
      have ee : effOpen k (effClose k (effComma k s0)) = (.marker k.2.1 :: (effClose k (effComma k s0)).1, (effClose k (effComma k s0)).2) := if_pos ho
      obtain ⟨dx4, as4, ls4, i1, i2, i3, i4, i5, i6⟩ := id A2.ex
      refine iteT ⟨_, rfl, o, C, dx4, _, _, rfl, i1, T.cl, T.nC, flds_c _ _, .inl ⟨rfl, _, SqL.of i2⟩, _, rfl, (by show 2 ≤ sizeLine; decide), fun p hp => ?_⟩
      have k5 := same_new hp (.tup (Ctx.v (.marker k.2.1)))
      have il := i4.len
      refine ⟨c, _, _, rfl, rfl, k5 _ _ i2, szl (by rw [List.length_map, List.length_reverse, il]; omega), ?_⟩
      have A5 := Arr.push (k := .marker k.2.1) (k5 _ _ i1) (k5 _ _ i2) (k5 _ _ i3) (i4.keep fun _ _ h => k5 _ _ h) (i5.keep fun _ _ h => k5 _ _ h) i6 upd_same
      exact ⟨rfl, A5.of_eq ee.symm, (k2.trans (keep2_of k5)).trans (keep_c _)⟩
    · rw [decide_eq_false ho]
      have ee : effOpen k (effClose k (effComma k s0)) = effClose k (effComma k s0) := if_neg ho
      exact iteF ⟨rfl, A2.of_eq ee.symm, k2⟩
  rintro σ3 H3 ⟨rfl, A3, k3⟩
  -- self.arranged.append(token)
  have l3 : (effOpen k (effClose k (effComma k s0))).2.length ≤ 4001 := by
    unfold effOpen
    split
    · show (effClose k (effComma k s0)).2.length ≤ 4001
      omega
    · omega
  obtain ⟨dx4, as4, ls4, i1, i2, i3, i4, i5, i6⟩ := id A3.ex
  refine ⟨_, rfl, o, C, dx4, _, _, rfl, i1, T.cl, T.nA, flds_a _ _, .inl ⟨rfl, _, SqL.of i3⟩, _, rfl, a, _, _, rfl, rfl, i3, szl (by rw [List.length_map, i5.len]; omega), ?_⟩
  exact q _ (Arr.add i1 i2 i3 i4 i5 i6 (AR.tup k3 ht)) (k3.trans (keep_a _))
end
end Toy

set_option Elab.async false
set_option maxRecDepth 100000
set_option maxHeartbeats 4000000
/-! Part E: the program's layout. -/
namespace Toy
open PySem L2
open PyProof.Rows (envOfC)
abbrev sz (s : LS) : Nat := s.1.length + s.2.length
def Pos (s : LS) : Prop := ∀ y, Ctx.block y ∈ s.1 → 0 < y
theorem opened_sz (ex : Bool) (t : Tk) (s : LS) : sz (opened ex t s).1 ≤ sz s + 2 := by
  unfold opened opens
  split
  · split
    · show (s.1.length + 1) + (s.2 ++ [sg "{" t]).length ≤ _
      rw [List.length_append]
      show (s.1.length + 1) + (s.2.length + 1) ≤ s.1.length + s.2.length + 2
      omega
    · show s.1.length + (s.2 ++ [sg "{" t, sg "}" t]).length ≤ _
      rw [List.length_append]
      show s.1.length + (s.2.length + 2) ≤ s.1.length + s.2.length + 2
      omega
  · show sz s ≤ _
    omega
theorem firstOf_sz (t : Tk) : ∀ (st : List Ctx) (out : List Tk), sz (firstOf t st out) ≤ st.length + out.length + 1
  | [], out => by show 0 + out.length ≤ _; omega
  | .marker _ :: st, out => by show (st.length + 1) + out.length ≤ (st.length + 1) + out.length + 1; omega
  | .block c :: st, out => by
    rw [firstOf_block]
    have ih := firstOf_sz t st (out ++ [sg "}" t])
    rw [List.length_append] at ih
    have ih' : sz (firstOf t st (out ++ [sg "}" t])) ≤ st.length + (out.length + 1) + 1 := ih
    show _ ≤ (st.length + 1) + out.length + 1
    split
    · omega
    · split
      · show (st.length + 1) + (out ++ [sg ";" t]).length ≤ _
        rw [List.length_append]
        show (st.length + 1) + (out.length + 1) ≤ _
        omega
      · show (st.length + 1) + out.length ≤ _
        omega
theorem endAll_len (t : Tk) : ∀ (st : List Ctx) (out : List Tk), (endAll t st out).length ≤ st.length + out.length
  | [], out => by show out.length ≤ _; omega
  | .marker _ :: st, out => by
    have ih := endAll_len t st out
    show (endAll t st out).length ≤ (st.length + 1) + out.length
    omega
  | .block c :: st, out => by
    have ih := endAll_len t st (out ++ [sg "}" t])
    rw [List.length_append] at ih
    have ih' : (endAll t st (out ++ [sg "}" t])).length ≤ st.length + (out.length + 1) := ih
    show (endAll t st (out ++ [sg "}" t])).length ≤ (st.length + 1) + out.length
    omega
theorem pre_sz (ex : Bool) (last : Int) (t : Tk) (s : LS) : sz (pre ex last t s) ≤ sz s + 3 := by
  have h := opened_sz ex t s
  have h' : (opened ex t s).1.1.length + (opened ex t s).1.2.length ≤ sz s + 2 := h
  unfold pre
  split
  · have := endAll_len t (opened ex t s).1.1 (opened ex t s).1.2
    show 0 + (endAll t (opened ex t s).1.1 (opened ex t s).1.2).length ≤ _
    omega
  · split
    · have := firstOf_sz t (opened ex t s).1.1 (opened ex t s).1.2
      omega
    · omega
theorem effComma_sz (t : Tk) (s : LS) : sz (effComma t s) = sz s := by
  unfold effComma
  split
  · exact upTo_len _ _ _
  · rfl
theorem effClose_sz (t : Tk) (s : LS) : sz (effClose t s) ≤ sz s + 1 := by
  unfold effClose
  split
  · rename_i m em
    have k2 := upTo_len [m] t s
    have tl : (upTo [m] t s).1.1.tail.length ≤ (upTo [m] t s).1.1.length := by rw [List.length_tail]; omega
    show sz (if (upTo [m] t s).2 = true then ((if t.2.1 = "then" then Ctx.marker "then" :: (upTo [m] t s).1.1.tail else (upTo [m] t s).1.1.tail, (upTo [m] t s).1.2) : LS) else (upTo [m] t s).1) ≤ _
    split
    · split
      · show ((upTo [m] t s).1.1.tail.length + 1) + (upTo [m] t s).1.2.length ≤ s.1.length + s.2.length + 1
        omega
      · show (upTo [m] t s).1.1.tail.length + (upTo [m] t s).1.2.length ≤ s.1.length + s.2.length + 1
        omega
    · show (upTo [m] t s).1.1.length + (upTo [m] t s).1.2.length ≤ s.1.length + s.2.length + 1
      omega
  · show sz s ≤ _
    omega
theorem meet_sz (t : Tk) (s : LS) : sz (meet t s) ≤ sz s + 3 := by
  have h1 := effComma_sz t s
  have h2 := effClose_sz t (effComma t s)
  have h3 : sz (effOpen t (effClose t (effComma t s))) ≤ sz (effClose t (effComma t s)) + 1 := by
    unfold effOpen
    split
    · show (_ + 1) + _ ≤ _
      show ((effClose t (effComma t s)).1.length + 1) + (effClose t (effComma t s)).2.length ≤ (effClose t (effComma t s)).1.length + (effClose t (effComma t s)).2.length + 1
      omega
    · omega
  show (effOpen t (effClose t (effComma t s))).1.length + ((effOpen t (effClose t (effComma t s))).2 ++ [t]).length ≤ _
  rw [List.length_append]
  show (effOpen t (effClose t (effComma t s))).1.length + ((effOpen t (effClose t (effComma t s))).2.length + 1) ≤ _
  have h3' : (effOpen t (effClose t (effComma t s))).1.length + (effOpen t (effClose t (effComma t s))).2.length ≤ _ := h3
  omega
/-! ### the columns of blocks are positive -/
theorem opened_pos {ex : Bool} {t : Tk} {s : LS} (h : Pos s) (ht : 0 < t.2.2.2) : Pos (opened ex t s).1 := by
  unfold opened opens
  split
  · split
    · intro y hy
      rcases List.mem_cons.mp hy with hy | hy
      · cases hy; exact ht
      · exact h y hy
    · exact h
  · exact h
theorem firstOf_sub (t : Tk) : ∀ (st : List Ctx) (out : List Tk), ∀ x ∈ (firstOf t st out).1, x ∈ st
  | [], out => fun x hx => hx
  | .marker _ :: st, out => fun x hx => hx
  | .block c :: st, out => by
    rw [firstOf_block]
    have ih := firstOf_sub t st (out ++ [sg "}" t])
    split
    · exact fun x hx => List.mem_cons_of_mem _ (ih x hx)
    · split
      · exact fun x hx => hx
      · exact fun x hx => hx
theorem closeTop_sub (t : Tk) : ∀ (st : List Ctx) (out : List Tk), ∀ x ∈ (closeTop t st out).1, x ∈ st
  | [], out => fun x hx => hx
  | .marker _ :: st, out => fun x hx => hx
  | .block c :: st, out => fun x hx => List.mem_cons_of_mem _ (closeTop_sub t st (out ++ [sg "}" t]) x hx)
theorem upTo_sub (ms : List Str) (t : Tk) (s : LS) : ∀ x ∈ (upTo ms t s).1.1, x ∈ s.1 := by
  unfold upTo
  split
  · split
    · exact closeTop_sub t s.1 s.2
    · exact fun x hx => hx
  · exact fun x hx => hx
theorem pre_pos {ex : Bool} {last : Int} {t : Tk} {s : LS} (h : Pos s) (ht : 0 < t.2.2.2) : Pos (pre ex last t s) := by
  have h1 := opened_pos (ex := ex) h ht
  unfold pre
  split
  · exact fun y hy => by cases hy
  · split
    · exact fun y hy => h1 y (firstOf_sub t _ _ _ hy)
    · exact h1
theorem meet_pos {t : Tk} {s : LS} (h : Pos s) : Pos (meet t s) := by
  have h1 : Pos (effComma t s) := by
    unfold effComma
    split
    · exact fun y hy => h y (upTo_sub _ t s _ hy)
    · exact h
  have h2 : Pos (effClose t (effComma t s)) := by
    unfold effClose
    split
    · rename_i m em
      show Pos (if (upTo [m] t (effComma t s)).2 = true then ((if t.2.1 = "then" then Ctx.marker "then" :: (upTo [m] t (effComma t s)).1.1.tail else (upTo [m] t (effComma t s)).1.1.tail, (upTo [m] t (effComma t s)).1.2) : LS) else (upTo [m] t (effComma t s)).1)
      split
      · split
        · intro y hy
          rcases List.mem_cons.mp hy with hy | hy
          · cases hy
          · exact h1 y (upTo_sub _ t _ _ (List.mem_of_mem_tail hy))
        · exact fun y hy => h1 y (upTo_sub _ t _ _ (List.mem_of_mem_tail hy))
      · exact fun y hy => h1 y (upTo_sub _ t _ _ hy)
    · exact h1
  show ∀ y, Ctx.block y ∈ (effOpen t (effClose t (effComma t s))).1 → 0 < y
  unfold effOpen
  split
  · intro y hy
    rcases List.mem_cons.mp hy with hy | hy
    · cases hy
    · exact h2 y hy
  · exact h2
/-- what the tokens of a row are -/
def Wf (t : Tk) : Prop := (t.2.1 ∈ WORDS ∨ t.2.1 = "") ∧ 0 < t.2.2.2
theorem same_keep2 {c a : Addr} {H H1 H2 : Hp} (s : Same H H1) (hc : H c = none) (ha : H a = none) (k : Keep2 c a H1 H2) : Same H H2 := fun b o e => k b o (ne_of_none e hc) (ne_of_none e ha) (s b o e)
section
variable {P : Program} {w : World} {K : PySem.W.Frag} {mg : Str → Option Value} {base : Heap} {C aB aO aC : Addr} {es : Array DictEntry} {n : Nat}
abbrev sArranged : Stmt := topS 5
theorem scArranged : FnScope ["row", "contexts", "block_expected", "work", "last_row", "token", "kind", "text", "token_row", "_", "opened"] ["row", "contexts", "block_expected"] (defScope sArranged) := ⟨rfl, rfl, rfl, by decide +kernel, rfl, by decide +kernel, by decide +kernel⟩
def spArranged (K : PySem.W.Frag) : Sp := fun vs H Q _ => ∃ (rl ct : Addr) (tl : List Addr) (ts : List Tk), vs = [.ref rl, .ref ct, .bl true] ∧ SqL K H rl (tl.map V.ref) ∧ Toks H tl ts ∧ H ct = some (.tup []) ∧ (∀ t ∈ ts, Wf t) ∧ ts.length ≤ 120 ∧
  ∀ (p : Addr) (l : List Addr) (H' : Hp), H p = none → Same H H' → H' p = some (.lst (l.map V.ref)) → Toks H' l (lay ts) → Q (.ref p) H'
theorem c_arranged {f : Addr} {fd : FuncData} (T : Txt K w mg C aB aO aC es n) (cArranger : C8.Mak P w K mg base 1 "Arranger" C (spInit (K := K) C) []) (copen_block : C8.Met P w K mg base 2 C "open_block" (spOpenB C) []) (cclose_all : C8.Met P w K mg base 3 C "close_all" (spCloseAll C) [])
    (cbegin_row : C8.Met P w K mg base 3 C "begin_row" (spBegin C) []) (cmeet : C8.Met P w K mg base 4 C "meet" (spMeet C) []) (F : Fun K "_arranged" "_arranged" sArranged f fd) (b : Binds K fd ["row", "contexts", "block_expected"] []) (hm : mg "_arranged" = some (.ref f)) : C8.Cal P w K mg base 5 "_arranged" (spArranged K) [] := by
  refine cal_of F hm b scArranged (fun vs H Q E h => ?_) (fun cdv A outer s H vs Q E hr h => ?_)
  · obtain ⟨rl, ct, tl, ts, rfl, _⟩ := h
    rfl
  obtain ⟨rl, ct, tl, ts, rfl, hrl, htl, hct, hwf, hlen, q⟩ := h
  have mno : ¬ ("open_block" : Str) = "arranged" ∧ ¬ ("open_block" : Str) = "contexts" ∧ ¬ ("close_all" : Str) = "arranged" ∧ ¬ ("close_all" : Str) = "contexts" ∧ ¬ ("begin_row" : Str) = "arranged" ∧ ¬ ("begin_row" : Str) = "contexts" ∧ ¬ ("meet" : Str) = "arranged" ∧ ¬ ("meet" : Str) = "contexts" := by decide +kernel
  refine ⟨_, (pss_cons (ps_set (i := 3) scArranged.nd rfl (Or.inl rfl) (C8.pe_mk cArranger hr (by decide) rfl (pa_cons (pv 1) pa_nil)))
    (pss_cons (ps_set (i := 4) scArranged.nd rfl (Or.inl rfl) pe_int)
    (pss_cons (ps_for PassesOwn.never rfl (pi_list (pv 0)) (pg_name (i := 5) scArranged.nd rfl (Or.inl rfl))
      (pss_cons (ps_asg (pv 5) (pg_tup rfl (pgs_cons (pg_name (i := 6) scArranged.nd rfl (Or.inl rfl)) (pgs_cons (pg_name (i := 7) scArranged.nd rfl (Or.inl rfl)) (pgs_cons (pg_name (i := 8) scArranged.nd rfl (Or.inl rfl)) (pgs_cons (pg_name (i := 9) scArranged.nd rfl (Or.inl rfl)) pgs_nil))))))
    (C8.pss_cut (ps_set (i := 10) scArranged.nd rfl (Or.inl rfl) (pe_and (pv 2) (pe_and (pe_cmpR op_ne (pv 7) pe_str (nomark _)) (pe_one (C8.pe_mt copen_block hr (by decide) (pv 3) (pa_cons (pv 5) pa_nil))))))
    (C8.pss_cut (ps_if (pt_cmpR op_eq (pv 6) pe_str (nomark _))
      (pss_one (ps_expr (C8.pe_mt cclose_all hr (by decide) (pv 3) (pa_cons (pv 5) pa_nil))))
      (pss_one (ps_if (PW.pt (pw_and (pt_cmpR op_ne (pv 8) (pv 4) (nomark _)) (pw_and1 (pt_not (pt_val (pv 10))))))
      (pss_one (ps_expr (C8.pe_mt cbegin_row hr (by decide) (pv 3) (pa_cons (pv 5) pa_nil))))
      pss_nil)))
    (pss_cons (ps_expr (C8.pe_mt cmeet hr (by decide) (pv 3) (pa_cons (pv 5) pa_nil)))
    (pss_cons (ps_set (i := 2) scArranged.nd rfl (Or.inl rfl) (pe_and (pe_cmpR op_eq (pv 6) pe_str (nomark _)) (pe_one (pe_cmpR op_in_seq (pv 7) (C8.pe_gc rfl T.gBLOCK_KEYWORDS) rfl))))
    (pss_one (ps_set (i := 4) scArranged.nd rfl (Or.inl rfl) (pv 8)))))))))
    (pss_one (ps_ret (pe_fld (pv 3) rfl)))))), ?_⟩
  -- work = Arranger(contexts)
  refine ⟨_, rfl, fun o dx0 no ndx nex => ?_⟩
  have s0 : Same H (upd (upd H dx0 (.own o)) o (.ins C dx0 [])) := fun b u e => by
    rw [upd_ne (ne_of_none e no), upd_ne (ne_of_none e ndx)]
    exact e
  refine ⟨o, dx0, ct, rfl, upd_same, SqT.of (s0 _ _ hct), fun c a H1 hc ha A1 k1 => ⟨rfl, ?_⟩⟩
  have s1 : Same H H1 := fun b u e => k1 b u (s0 b u e) (ne_of_none e no)
  have hc0 : H c = none := s0.free hc
  have ha0 : H a = none := s0.free ha
  have hll := htl.len
  -- for token in row
  refine ⟨_, rfl, rl, rfl, ⟨_, s1.seq hrl⟩, for_list (K := K) (xs := tl.map V.ref) (fun i σ H2 => ∃ (s : LS) (ex : Bool) (last : Int) (v5 v6 v7 v8 v9 v10 : Option V), σ = [some (.ref rl), some (.ref ct), some (.bl ex), some (.ref o), some (.int last), v5, v6, v7, v8, v9, v10] ∧
      Arr C H2 o c a s ∧ Same H H2 ∧ run ex last (ts.drop i) s = run true 0 ts ([], []) ∧ sz s ≤ 6 * i ∧ Pos s)
    ⟨([], []), true, 0, none, none, none, none, none, none, rfl, A1, s1, rfl, Nat.le_refl _, fun y hy => by cases hy⟩ (fun i σ H2 _ h => by obtain ⟨_, _, _, _, _, _, _, _, _, _, _, s2, _⟩ := h; exact s2.seq hrl) ?_ ?_⟩
  · rintro i x σ H2 hx ⟨s, ex, last, v5, v6, v7, v8, v9, v10, rfl, A2, s2, e, hsz, hpos⟩
    obtain ⟨hi, ex1⟩ := List.getElem?_eq_some_iff.mp hx
    rw [List.length_map] at hi
    have hi' : i < ts.length := by omega
    obtain ⟨t, ht1, ht2⟩ := htl.get (List.getElem?_eq_getElem hi')
    rw [List.getElem?_map, ht1] at hx
    cases hx
    have hed := List.drop_eq_getElem_cons hi'
    have hw := hwf _ (List.getElem_mem hi')
    generalize hk : ts[i] = k at *
    have htt := s2 _ _ ht2
    have hszn : sz s ≤ 720 := by omega
    -- kind, text, token_row, _ = token
    refine ⟨_, rfl, t, _, rfl, SqT.of htt, rfl, _, _, rfl, _, _, rfl, _, _, rfl, _, _, rfl, rfl, ?_⟩
    -- opened = ..
    refine ⟨fun σ' H' => σ' = [some (.ref rl), some (.ref ct), some (.bl ex), some (.ref o), some (.int last), some (.ref t), some (.str k.1), some (.str k.2.1), some (.int k.2.2.1), some (.int k.2.2.2), some (.bl (opened ex k s).2)] ∧ Arr C H' o c a (opened ex k s).1 ∧ Same H H', ?_, ?_⟩
    · refine ⟨_, rfl, _, rfl, ?_⟩
      by_cases he : ex = true
      · rw [if_pos he]
        refine ⟨_, rfl, rfl, _, rfl, ?_⟩
        by_cases hb : k.2.1 = "{"
        · rw [decide_eq_true (show V.str k.2.1 = V.str "{" by rw [hb])]
          have eo : opened ex k s = (s, false) := if_neg (fun z => z.2 hb)
          refine iteF ?_
          rw [eo]
          exact ⟨by rw [he]; rfl, A2, s2⟩
        · rw [decide_eq_false (fun z => hb (V.str.inj z) : ¬ V.str k.2.1 = V.str "{")]
          have eo : opened ex k s = opens k s := if_pos ⟨he, hb⟩
          obtain ⟨dx, h⟩ := A2.ins
          rw [eo]
          exact iteT ⟨_, rfl, o, dx, _, rfl, h, flds_no _ _ mno.1 mno.2.1, _, rfl, o, c, a, t, s, k, rfl, A2, htt, by have h9 : s.1.length + s.2.length ≤ 720 := hszn; omega, fun H3 A3 k3 => ⟨by rw [he]; rfl, A3, same_keep2 s2 hc0 ha0 k3⟩⟩
      · rw [if_neg he]
        have eo : opened ex k s = (s, false) := if_neg (fun z => he z.1)
        have he' : ex = false := Bool.eq_false_iff.mpr he
        rw [eo]
        exact ⟨by rw [he']; rfl, A2, s2⟩
    rintro σ3 H3 ⟨rfl, A3, s3⟩
    have hosz := opened_sz ex k s
    have hopos := opened_pos (ex := ex) hpos hw.2
    have htt3 := s3 _ _ ht2
    -- the end, or the first of a row
    refine ⟨fun σ' H' => σ' = [some (.ref rl), some (.ref ct), some (.bl ex), some (.ref o), some (.int last), some (.ref t), some (.str k.1), some (.str k.2.1), some (.int k.2.2.1), some (.int k.2.2.2), some (.bl (opened ex k s).2)] ∧ Arr C H' o c a (pre ex last k s) ∧ Same H H', ?_, ?_⟩
    · refine ⟨_, rfl, rfl, _, rfl, ?_⟩
      obtain ⟨dx, h⟩ := A3.ins
      have hosz' : (opened ex k s).1.1.length + (opened ex k s).1.2.length ≤ 722 := by
        have h9 : (opened ex k s).1.1.length + (opened ex k s).1.2.length ≤ sz s + 2 := hosz
        omega
      by_cases hend : k.1 = "end"
      · rw [decide_eq_true (show V.str k.1 = V.str "end" by rw [hend])]
        have ep : pre ex last k s = ([], endAll k (opened ex k s).1.1 (opened ex k s).1.2) := if_pos hend
        rw [ep]
        exact iteT ⟨_, rfl, o, dx, _, rfl, h, flds_no _ _ mno.2.2.1 mno.2.2.2.1, _, rfl, o, c, a, t, _, k, rfl, A3, htt3, by omega, hopos, fun H4 A4 k4 => ⟨rfl, A4, same_keep2 s3 hc0 ha0 k4⟩⟩
      · rw [decide_eq_false (fun z => hend (V.str.inj z) : ¬ V.str k.1 = V.str "end")]
        refine iteF ⟨_, rfl, _, rfl, rfl, _, rfl, ?_⟩
        by_cases hrow : k.2.2.1 = last
        · rw [decide_eq_true (show V.int k.2.2.1 = V.int last by rw [hrow])]
          have ep : pre ex last k s = (opened ex k s).1 := by
            unfold pre
            rw [if_neg hend, if_neg (fun z => z.1 hrow)]
          rw [ep]
          exact iteF (iteF ⟨rfl, A3, s3⟩)
        · rw [decide_eq_false (fun z => hrow (V.int.inj z) : ¬ V.int k.2.2.1 = V.int last)]
          refine iteT ⟨_, rfl, _, rfl, ?_⟩
          cases ho2 : (opened ex k s).2 with
          | true =>
            have ep : pre ex last k s = (opened ex k s).1 := by
              unfold pre
              rw [if_neg hend, if_neg (fun z => by rw [ho2] at z; exact Bool.noConfusion z.2)]
            rw [ep]
            exact iteF ⟨rfl, A3, s3⟩
          | false =>
            have ep : pre ex last k s = firstOf k (opened ex k s).1.1 (opened ex k s).1.2 := by
              unfold pre
              rw [if_neg hend, if_pos ⟨hrow, ho2⟩]
            rw [ep]
            exact iteT ⟨_, rfl, o, dx, _, rfl, h, flds_no _ _ mno.2.2.2.2.1 mno.2.2.2.2.2.1, _, rfl, o, c, a, t, _, k, rfl, A3, htt3, by omega, hw.2, fun H4 A4 k4 => ⟨rfl, A4, same_keep2 s3 hc0 ha0 k4⟩⟩
    rintro σ4 H4 ⟨rfl, A4, s4⟩
    have hpsz := pre_sz ex last k s
    have hmsz := meet_sz k (pre ex last k s)
    obtain ⟨dx, h⟩ := A4.ins
    -- work.meet(token)
    refine ⟨_, rfl, o, dx, _, rfl, h, flds_no _ _ mno.2.2.2.2.2.2.1 mno.2.2.2.2.2.2.2, _, rfl, o, c, a, t, _, k, rfl, A4, s4 _ _ ht2, by have h9 : (pre ex last k s).1.length + (pre ex last k s).2.length ≤ sz s + 3 := hpsz; omega, hw.1, fun H5 A5 k5 => ?_⟩
    have s5 := same_keep2 s4 hc0 ha0 k5
    -- block_expected = ..
    refine ⟨_, rfl, rfl, _, rfl, ?_⟩
    have fin : ∀ b : Bool, b = expects k → (fun σ2 H2 => ∃ (s : LS) (ex : Bool) (last : Int) (v5 v6 v7 v8 v9 v10 : Option V), σ2 = [some (.ref rl), some (.ref ct), some (.bl ex), some (.ref o), some (.int last), v5, v6, v7, v8, v9, v10] ∧
        Arr C H2 o c a s ∧ Same H H2 ∧ run ex last (ts.drop (i + 1)) s = run true 0 ts ([], []) ∧ sz s ≤ 6 * (i + 1) ∧ Pos s) [some (.ref rl), some (.ref ct), some (.bl b), some (.ref o), some (.int k.2.2.1), some (.ref t), some (.str k.1), some (.str k.2.1), some (.int k.2.2.1), some (.int k.2.2.2), some (.bl (opened ex k s).2)] H5 := fun b hb => by
      refine ⟨meet k (pre ex last k s), b, k.2.2.1, _, _, _, _, _, _, rfl, A5, s5, ?_, by omega, meet_pos (pre_pos hpos hw.2)⟩
      rw [← e, hed, hb]
      rfl
    by_cases hkw : k.1 = "keyword"
    · rw [decide_eq_true (show V.str k.1 = V.str "keyword" by rw [hkw])]
      refine iteT ⟨_, rfl, aB, _, rfl, .inr (T.kBLOCK_KEYWORDS _), rfl, strs_flat _, ?_⟩
      refine ⟨_, rfl, fin _ ?_⟩
      show inV (.str k.2.1) (BK.map V.str) = _
      rw [inV_strs]
      unfold expects
      rw [decide_eq_true hkw]
      rfl
    · rw [decide_eq_false (fun z => hkw (V.str.inj z) : ¬ V.str k.1 = V.str "keyword")]
      refine iteF ⟨_, rfl, fin _ ?_⟩
      unfold expects
      rw [decide_eq_false hkw]
      rfl
  · rintro σ H2 ⟨s, ex, last, v5, v6, v7, v8, v9, v10, rfl, A2, s2, e, hsz, hpos⟩
    have ed : ts.drop (tl.map V.ref).length = [] := List.drop_eq_nil_of_le (by rw [List.length_map, hll]; exact Nat.le_refl _)
    rw [ed] at e
    obtain ⟨dx, as, ls, h1, h2, h3, h4, h5, h6⟩ := id A2.ex
    refine ⟨_, rfl, o, C, dx, _, _, rfl, h1, T.cl, T.nA, flds_a _ _, ?_⟩
    refine q a ls H2 ha0 s2 h3 ?_
    have el : lay ts = s.2 := by
      show (run true 0 ts ([], [])).2 = s.2
      rw [← e]
      rfl
    rw [el]
    exact h5
abbrev sLayout : Stmt := topS 4
theorem scLayout : FnScope ["row"] ["row"] (defScope sLayout) := ⟨rfl, rfl, rfl, by decide +kernel, rfl, by decide +kernel, by decide +kernel⟩
def spLayout (K : PySem.W.Frag) : Sp := fun vs H Q _ => ∃ (rl : Addr) (tl : List Addr) (ts : List Tk), vs = [.ref rl] ∧ SqL K H rl (tl.map V.ref) ∧ Toks H tl ts ∧ (∀ t ∈ ts, Wf t) ∧ ts.length ≤ 120 ∧
  ∀ (p : Addr) (l : List Addr) (H' : Hp), H p = none → Same H H' → H' p = some (.lst (l.map V.ref)) → Toks H' l (lay ts) → Q (.ref p) H'
theorem c_layout {f : Addr} {fd : FuncData} (c_arranged : C8.Cal P w K mg base 5 "_arranged" (spArranged K) []) (F : Fun K "layout" "layout" sLayout f fd) (b : Binds K fd ["row"] []) (hm : mg "layout" = some (.ref f)) : C8.Cal P w K mg base 6 "layout" (spLayout K) [] := by
  refine cal_of F hm b scLayout (fun vs H Q E h => ?_) (fun cdv A outer s H vs Q E hr h => ?_)
  · obtain ⟨rl, tl, ts, rfl, _⟩ := h
    rfl
  obtain ⟨rl, tl, ts, rfl, hrl, htl, hwf, hlen, q⟩ := h
  refine ⟨_, (pss_one (ps_ret (C8.pe_c c_arranged hr (by decide) rfl (pa_cons (pv 0) (pa_cons (pe_tup pa_nil) (pa_cons pe_bl pa_nil)))))), ?_⟩
  refine ⟨_, rfl, (by show 0 ≤ sizeLine; decide), fun ct hct => ?_⟩
  have s1 := same_new hct (.tup [])
  refine ⟨rl, ct, tl, ts, rfl, s1.seq hrl, htl.keep fun _ _ h => s1 _ _ h, upd_same, hwf, hlen, fun p l H' hp s2 h1 h2 => ?_⟩
  exact q p l H' (Same.free s1 hp) (Same.trans s1 s2) h1 h2
end
end Toy

set_option Elab.async false
set_option maxRecDepth 100000
set_option maxHeartbeats 4000000
/-! Part F: the law's own layout. -/
namespace Toy
open PySem L2
open PyProof.Rows (envOfC)
def cv : Ctx → V
  | .block c => .int c
  | .marker s => .str s
/-- the law's stack at sl, its tokens at fl -/
structure LW (H : Hp) (sl fl : Addr) (s : LS) : Prop where
  ex : ∃ ls : List Addr, H sl = some (.lst (s.1.reverse.map cv)) ∧ H fl = some (.lst (ls.map V.ref)) ∧ Toks H ls s.2 ∧ sl ≠ fl
theorem LW.ne_tup {H : Hp} {sl fl b : Addr} {s : LS} {xs : List V} (A : LW H sl fl s) (h : H b = some (.tup xs)) : b ≠ sl ∧ b ≠ fl := by
  obtain ⟨ls, h1, h2, _⟩ := A.ex
  exact ⟨ne_of h h1 (by intro z; cases z), ne_of h h2 (by intro z; cases z)⟩
theorem LW.tup {H H' : Hp} {sl fl b : Addr} {s : LS} {xs : List V} (A : LW H sl fl s) (k : Keep2 sl fl H H') (h : H b = some (.tup xs)) : H' b = some (.tup xs) :=
  k _ _ (A.ne_tup h).1 (A.ne_tup h).2 h
theorem LW.same {H H' : Hp} {sl fl : Addr} {s : LS} (A : LW H sl fl s) (k : Same H H') : LW H' sl fl s := by
  obtain ⟨ls, h1, h2, h3, h4⟩ := A.ex
  exact ⟨ls, k _ _ h1, k _ _ h2, h3.keep fun _ _ h => k _ _ h, h4⟩
theorem LW.of_eq {H : Hp} {sl fl : Addr} {s s' : LS} (A : LW H sl fl s) (e : s = s') : LW H sl fl s' := e ▸ A
theorem LW.add {H : Hp} {sl fl t : Addr} {s : LS} {k : Tk} {ls : List Addr} (h1 : H sl = some (.lst (s.1.reverse.map cv))) (h2 : H fl = some (.lst (ls.map V.ref))) (h3 : Toks H ls s.2) (h4 : sl ≠ fl) (ht : H t = some (.tup (tkV k))) :
    LW (upd H fl (.lst (ls.map V.ref ++ [.ref t]))) sl fl (s.1, s.2 ++ [k]) := by
  have nt : t ≠ fl := ne_of ht h2 (by intro z; cases z)
  refine ⟨ls ++ [t], ?_, ?_, (h3.keep (tup_upd h2)).snoc (by rw [upd_ne nt]; exact ht), h4⟩
  · rw [upd_ne h4]
    exact h1
  · rw [upd_same, List.map_append]
    rfl
theorem LW.push {H : Hp} {sl fl : Addr} {s : LS} {ls : List Addr} (x : Ctx) (h1 : H sl = some (.lst (s.1.reverse.map cv))) (h2 : H fl = some (.lst (ls.map V.ref))) (h3 : Toks H ls s.2) (h4 : sl ≠ fl) :
    LW (upd H sl (.lst (s.1.reverse.map cv ++ [cv x]))) sl fl (x :: s.1, s.2) := by
  refine ⟨ls, ?_, ?_, h3.keep (tup_upd h1), h4⟩
  · rw [upd_same, List.reverse_cons, List.map_append]
    rfl
  · rw [upd_ne h4.symm]
    exact h2
theorem LW.pop {H : Hp} {sl fl : Addr} {st : List Ctx} {out : List Tk} {ls : List Addr} {x : Ctx} (h1 : H sl = some (.lst ((x :: st).reverse.map cv))) (h2 : H fl = some (.lst (ls.map V.ref))) (h3 : Toks H ls out) (h4 : sl ≠ fl) :
    LW (upd H sl (.lst ((x :: st).reverse.map cv).dropLast)) sl fl (st, out) := by
  refine ⟨ls, ?_, ?_, h3.keep (tup_upd h1), h4⟩
  · rw [upd_same, List.reverse_cons, List.map_append]
    show some (HO.lst ((st.reverse.map cv) ++ [cv x]).dropLast) = _
    rw [List.dropLast_concat]
  · rw [upd_ne h4.symm]
    exact h2
theorem ctop_at {x : Ctx} {st : List Ctx} : ((x :: st).reverse.map cv)[((x :: st).reverse.map cv).length - 1]? = some (cv x) := by
  simp
theorem ctop_atI {x : Ctx} {st : List Ctx} : atI ((x :: st).reverse.map cv) (-1) = some (cv x) := by
  rw [List.reverse_cons, List.map_append]
  exact atI_last _ _
theorem crev_at {l : List Ctx} {i : Nat} (h : i < l.length) : (l.reverse.map cv)[(l.reverse.map cv).length - 1 - i]? = some (cv l[i]) := by
  rw [List.length_map, List.length_reverse, List.getElem?_map, List.getElem?_reverse (by omega), show l.length - 1 - (l.length - 1 - i) = i by omega, List.getElem?_eq_getElem h]
  rfl
theorem crev_atI {l : List Ctx} {i : Nat} (h : i < l.length) : atI (l.reverse.map cv) ((((l.reverse.map cv).length : Nat) : Int) - 1 - (0 + (i : Int))) = some (cv l[i]) := by
  have k := crev_at h
  have hl : (l.reverse.map cv).length = l.length := by rw [List.length_map, List.length_reverse]
  have e : (((l.reverse.map cv).length : Nat) : Int) - 1 - (0 + (i : Int)) = (((l.reverse.map cv).length - 1 - i : Nat) : Int) := by omega
  rw [e]
  exact atI_nat k
theorem cne {x : Ctx} {st : List Ctx} : (!((x :: st).reverse.map cv).isEmpty) = true := by simp
theorem kii : kitB "int" "int" = some true := by decide +kernel
theorem ksi : kitB "str" "int" = some false := by decide +kernel
theorem kis : kitB "int" "str" = some false := by decide +kernel
theorem kss : kitB "str" "str" = some true := by decide +kernel
def isB : Ctx → Bool
  | .block _ => true
  | .marker _ => false
/-- isinstance(context, int), isinstance(context, str) -/
theorem isiI {K : PySem.W.Frag} {H : Hp} (x : Ctx) : ∃ t, TyX K H (cv x) t ∧ PySem.W.kitOne K t (.type "int") = some (isB x) := by
  cases x with
  | block c => exact ⟨.type "int", .base (.int c), kit_ty kii⟩
  | marker c => exact ⟨.type "str", .base (.str c), kit_ty ksi⟩
theorem isiS {K : PySem.W.Frag} {H : Hp} (x : Ctx) : ∃ t, TyX K H (cv x) t ∧ PySem.W.kitOne K t (.type "str") = some (!isB x) := by
  cases x with
  | block c => exact ⟨.type "int", .base (.int c), kit_ty kis⟩
  | marker c => exact ⟨.type "str", .base (.str c), kit_ty kss⟩
section
variable {P : Program} {w : World} {K : PySem.W.Frag} {mg : Str → Option Value} {base : Heap} {C aB aO aC : Addr} {es : Array DictEntry} {n : Nat}
abbrev sLSign : Stmt := topS 14
theorem scLSign : FnScope ["text", "token"] ["text", "token"] (defScope sLSign) := ⟨rfl, rfl, rfl, by decide +kernel, rfl, by decide +kernel, by decide +kernel⟩
def spLSign : Sp := fun vs H Q _ => ∃ (t : Addr) (z : Str) (k : Tk), vs = [.str z, .ref t] ∧ H t = some (.tup (tkV k)) ∧ ∀ p, H p = none → Q (.ref p) (upd H p (.tup (tkV (sg z k))))
theorem c_lsign {f : Addr} {fd : FuncData} (F : Fun K "_law_sign" "_law_sign" sLSign f fd) (b : Binds K fd ["text", "token"] []) (hm : mg "_law_sign" = some (.ref f)) : C8.Cal P w K mg base 1 "_law_sign" spLSign [] := by
  refine cal_of F hm b scLSign (fun vs H Q E h => ?_) (fun cdv A outer s H vs Q E hr h => ?_)
  · obtain ⟨t, z, k, rfl, _⟩ := h
    rfl
  obtain ⟨t, z, k, rfl, ht, q⟩ := h
  refine ⟨_, (pss_one (ps_ret (pe_tup (pa_cons pe_str (pa_cons (pv 0) (pa_cons (pe_ix ix_tup (pv 1) pe_int (fun _ _ => rfl)) (pa_cons (pe_ix ix_tup (pv 1) pe_int (fun _ _ => rfl)) pa_nil))))))), ?_⟩
  exact ⟨_, rfl, _, rfl, t, _, 2, _, rfl, rfl, SqT.of ht, rfl, _, rfl, t, _, 3, _, rfl, rfl, SqT.of ht, rfl, (by show 4 ≤ sizeLine; decide), fun p hp => q p hp⟩
abbrev sMarker : Stmt := topS 12
theorem scMarker : FnScope ["stack", "k", "context"] ["stack"] (defScope sMarker) := ⟨rfl, rfl, rfl, by decide +kernel, rfl, by decide +kernel, by decide +kernel⟩
def spMarker : Sp := fun vs H Q _ => ∃ (sl : Addr) (st : List Ctx), vs = [.ref sl] ∧ H sl = some (.lst (st.reverse.map cv)) ∧ st.length ≤ 5000 ∧ Q (.str ((topMarker st).getD "")) H
theorem marker_at {l : List Ctx} {i : Nat} {y : Str} (h : l[i]? = some (.marker y)) : topMarker (l.drop i) = some y := by
  obtain ⟨hi, e⟩ := List.getElem?_eq_some_iff.mp h
  rw [List.drop_eq_getElem_cons hi, e]
  rfl
theorem block_at {l : List Ctx} {i : Nat} {y : Int} (h : l[i]? = some (.block y)) : topMarker (l.drop i) = topMarker (l.drop (i + 1)) := by
  obtain ⟨hi, e⟩ := List.getElem?_eq_some_iff.mp h
  rw [List.drop_eq_getElem_cons hi, e]
  rfl
theorem c_marker {f : Addr} {fd : FuncData} (T : Txt K w mg C aB aO aC es n) (F : Fun K "_law_marker" "_law_marker" sMarker f fd) (b : Binds K fd ["stack"] []) (hm : mg "_law_marker" = some (.ref f)) : C8.Cal P w K mg base 1 "_law_marker" spMarker [] := by
  refine cal_of F hm b scMarker (fun vs H Q E h => ?_) (fun cdv A outer s H vs Q E hr h => ?_)
  · obtain ⟨sl, st, rfl, _⟩ := h
    rfl
  obtain ⟨sl, st, rfl, hs, hl, q⟩ := h
  have hsl : (st.reverse.map cv).length = st.length := by rw [List.length_map, List.length_reverse]
  refine ⟨_, (pss_cons (ps_for PassesOwn.never rfl (pi_range1 rfl T.zrange (pa_cons (pe_callB call_len_seq rfl T.zlen PySem.boot_len (pa_cons (pv 0) pa_nil)) pa_nil)) (pg_name (i := 1) scMarker.nd rfl (Or.inl rfl))
      (pss_cons (ps_set (i := 2) scMarker.nd rfl (Or.inl rfl) (pe_ix ix_list (pv 0) (pe_op op_sub (pe_op op_sub (pe_callB call_len_seq rfl T.zlen PySem.boot_len (pa_cons (pv 0) pa_nil)) pe_int) (pv 1)) (fun _ _ => rfl)))
    (pss_one (ps_if (pt_val (pe_callB call_isi rfl T.zisinstance boot_isinstance (pa_cons (pv 2) (pa_cons (pe_bltn (v := .ty "str") rfl T.zstr boot_str rfl) pa_nil))))
      (pss_one (ps_ret (pv 2)))
      pss_nil))))
    (pss_one (ps_ret pe_str))), ?_⟩
  refine ⟨_, rfl, sl, _, rfl, .inl (SqL.of hs), _, rfl, by omega, by omega, for_range (fun i σ H2 => H2 = H ∧ (∃ l1 l2, σ = [some (.ref sl), l1, l2]) ∧ topMarker st = topMarker (st.drop i)) ⟨rfl, ⟨none, none, rfl⟩, rfl⟩ ?_ ?_⟩
  · rintro i σ H2 hi ⟨rfl, ⟨l1, l2, rfl⟩, e⟩
    have hi' : i < st.length := by rw [Int.toNat_natCast] at hi; omega
    refine ⟨_, rfl, _, rfl, sl, _, rfl, .inl (SqL.of hs), _, _, rfl, rfl, _, rfl, _, _, rfl, rfl, sl, _, _, _, rfl, rfl, SqL.of hs, crev_atI hi', ?_⟩
    obtain ⟨tt, ty, kt⟩ := isiS (K := K) (H := H2) st[i]
    refine ⟨_, rfl, cv st[i], .ty "str", tt, .type "str", _, rfl, .ty _, ty, kt, _, rfl, ?_⟩
    cases hc : st[i] with
    | block y => exact iteF ⟨rfl, ⟨_, _, rfl⟩, by rw [e]; exact block_at (by rw [List.getElem?_eq_getElem hi', hc])⟩
    | marker y =>
      have k := marker_at (l := st) (i := i) (y := y) (by rw [List.getElem?_eq_getElem hi', hc])
      rw [← e] at k
      rw [k] at q
      exact iteT ⟨_, rfl, q⟩
  · rintro σ H2 ⟨rfl, ⟨l1, l2, rfl⟩, e⟩
    have ed : st.drop ((((st.reverse.map cv).length : Nat) : Int)).toNat = [] := List.drop_eq_nil_of_le (by omega)
    rw [ed] at e
    rw [e] at q
    exact q
abbrev sLInner : Stmt := topS 13
theorem scLInner : FnScope ["stack", "k", "context"] ["stack"] (defScope sLInner) := ⟨rfl, rfl, rfl, by decide +kernel, rfl, by decide +kernel, by decide +kernel⟩
def spLInner : Sp := fun vs H Q _ => ∃ (sl : Addr) (st : List Ctx), vs = [.ref sl] ∧ H sl = some (.lst (st.reverse.map cv)) ∧ st.length ≤ 5000 ∧ Q (.int (innerCol st)) H
theorem c_linner {f : Addr} {fd : FuncData} (T : Txt K w mg C aB aO aC es n) (F : Fun K "_law_inner" "_law_inner" sLInner f fd) (b : Binds K fd ["stack"] []) (hm : mg "_law_inner" = some (.ref f)) : C8.Cal P w K mg base 1 "_law_inner" spLInner [] := by
  refine cal_of F hm b scLInner (fun vs H Q E h => ?_) (fun cdv A outer s H vs Q E hr h => ?_)
  · obtain ⟨sl, st, rfl, _⟩ := h
    rfl
  obtain ⟨sl, st, rfl, hs, hl, q⟩ := h
  have hsl : (st.reverse.map cv).length = st.length := by rw [List.length_map, List.length_reverse]
  refine ⟨_, (pss_cons (ps_for PassesOwn.never rfl (pi_range1 rfl T.zrange (pa_cons (pe_callB call_len_seq rfl T.zlen PySem.boot_len (pa_cons (pv 0) pa_nil)) pa_nil)) (pg_name (i := 1) scLInner.nd rfl (Or.inl rfl))
      (pss_cons (ps_set (i := 2) scLInner.nd rfl (Or.inl rfl) (pe_ix ix_list (pv 0) (pe_op op_sub (pe_op op_sub (pe_callB call_len_seq rfl T.zlen PySem.boot_len (pa_cons (pv 0) pa_nil)) pe_int) (pv 1)) (fun _ _ => rfl)))
    (pss_one (ps_if (pt_val (pe_callB call_isi rfl T.zisinstance boot_isinstance (pa_cons (pv 2) (pa_cons (pe_bltn (v := .ty "int") rfl T.zint boot_int rfl) pa_nil))))
      (pss_one (ps_ret (pv 2)))
      pss_nil))))
    (pss_one (ps_ret pe_int))), ?_⟩
  refine ⟨_, rfl, sl, _, rfl, .inl (SqL.of hs), _, rfl, by omega, by omega, for_range (fun i σ H2 => H2 = H ∧ (∃ l1 l2, σ = [some (.ref sl), l1, l2]) ∧ innerCol st = innerCol (st.drop i)) ⟨rfl, ⟨none, none, rfl⟩, rfl⟩ ?_ ?_⟩
  · rintro i σ H2 hi ⟨rfl, ⟨l1, l2, rfl⟩, e⟩
    have hi' : i < st.length := by rw [Int.toNat_natCast] at hi; omega
    refine ⟨_, rfl, _, rfl, sl, _, rfl, .inl (SqL.of hs), _, _, rfl, rfl, _, rfl, _, _, rfl, rfl, sl, _, _, _, rfl, rfl, SqL.of hs, crev_atI hi', ?_⟩
    obtain ⟨tt, ty, kt⟩ := isiI (K := K) (H := H2) st[i]
    refine ⟨_, rfl, cv st[i], .ty "int", tt, .type "int", _, rfl, .ty _, ty, kt, _, rfl, ?_⟩
    cases hc : st[i] with
    | marker y => exact iteF ⟨rfl, ⟨_, _, rfl⟩, by rw [e]; exact inner_marker (by rw [List.getElem?_eq_getElem hi', hc])⟩
    | block y =>
      have k := inner_block (l := st) (i := i) (y := y) (by rw [List.getElem?_eq_getElem hi', hc])
      rw [← e] at k
      rw [k] at q
      exact iteT ⟨_, rfl, q⟩
  · rintro σ H2 ⟨rfl, ⟨l1, l2, rfl⟩, e⟩
    have ed : st.drop ((((st.reverse.map cv).length : Nat) : Int)).toNat = [] := List.drop_eq_nil_of_le (by omega)
    rw [ed] at e
    rw [e] at q
    exact q
/-- found.append(_law_sign(..)): a new tuple at p, then the list -/
theorem LW.sign {H : Hp} {sl fl p : Addr} {s : LS} (k : Tk) (A : LW H sl fl s) (hl : s.2.length ≤ 5000) (hp : H p = none) :
    ∃ xs, upd H p (.tup (tkV k)) fl = some (.lst xs) ∧ xs.length < sizeLine ∧ LW (upd (upd H p (.tup (tkV k))) fl (.lst (xs ++ [.ref p]))) sl fl (s.1, s.2 ++ [k]) ∧ Keep2 sl fl H (upd (upd H p (.tup (tkV k))) fl (.lst (xs ++ [.ref p]))) := by
  obtain ⟨ls, h1, h2, h3, h4⟩ := A.ex
  have k1 := same_new hp (.tup (tkV k))
  exact ⟨_, k1 _ _ h2, szl (by rw [List.length_map, h3.len]; omega), LW.add (k1 _ _ h1) (k1 _ _ h2) (h3.keep fun _ _ h => k1 _ _ h) h4 upd_same, (keep2_of k1).trans (keep_a _)⟩
abbrev sLClose : Stmt := topS 15
theorem scLClose : FnScope ["stack", "found", "token"] ["stack", "found", "token"] (defScope sLClose) := ⟨rfl, rfl, rfl, by decide +kernel, rfl, by decide +kernel, by decide +kernel⟩
def spLClose : Sp := fun vs H Q _ => ∃ (sl fl t : Addr) (s : LS) (k : Tk), vs = [.ref sl, .ref fl, .ref t] ∧ LW H sl fl s ∧ H t = some (.tup (tkV k)) ∧ sz s ≤ 4000 ∧
  ∀ H', LW H' sl fl (closeTop k s.1 s.2) → Keep2 sl fl H H' → Q .non H'
theorem c_lclose {f : Addr} {fd : FuncData} (T : Txt K w mg C aB aO aC es n) (c_law_sign : C8.Cal P w K mg base 1 "_law_sign" spLSign []) (F : Fun K "_law_close" "_law_close" sLClose f fd) (b : Binds K fd ["stack", "found", "token"] []) (hm : mg "_law_close" = some (.ref f)) : C8.Cal P w K mg base 2 "_law_close" spLClose [] := by
  refine cal_of F hm b scLClose (fun vs H Q E h => ?_) (fun cdv A outer s H vs Q E hr h => ?_)
  · obtain ⟨sl, fl, t, s, k, rfl, _⟩ := h
    rfl
  obtain ⟨sl, fl, t, ⟨st0, out0⟩, k, rfl, A0, ht, hl, q⟩ := h
  refine ⟨_, (pss_one (ps_while PassesOwn.never (PW.pt (pw_and (pt_truth (pv 0) (fun _ => rfl)) (pw_and1 (pt_val (pe_callB call_isi rfl T.zisinstance boot_isinstance (pa_cons (pe_ix ix_list (pv 0) (pe_un un_neg pe_int) (fun _ _ => rfl)) (pa_cons (pe_bltn (v := .ty "int") rfl T.zint boot_int rfl) pa_nil)))))))
      (pss_cons (ps_expr (pe_bm0 PySem.F.plainAttrs_list PySem.F.slot_list_pop PySem.F.type_list_pop mt_pop (pv 0)))
    (pss_one (ps_expr (pe_bm PySem.F.plainAttrs_list PySem.F.slot_list_append PySem.F.type_list_append mt_append (pv 1) (pa_cons (C8.pe_c c_law_sign hr (by decide) rfl (pa_cons pe_str (pa_cons (pv 2) pa_nil))) pa_nil))))))), ?_⟩
  refine ⟨fun m σ H2 => ∃ st out, m = st.length ∧ σ = [some (.ref sl), some (.ref fl), some (.ref t)] ∧ LW H2 sl fl (st, out) ∧ Keep2 sl fl H H2 ∧ closeTop k st out = closeTop k st0 out0 ∧ st.length + out.length ≤ 4000,
    ⟨_, st0, out0, rfl, rfl, A0, Keep2.refl _ _ _, rfl, hl⟩, ?_⟩
  rintro m σ H2 ⟨st, out, rfl, rfl, A2, k2, e, hl2⟩
  obtain ⟨ls, h1, h2, h3, h4⟩ := id A2.ex
  refine ⟨_, rfl, _, .inl ⟨_, SqL.of h1, rfl⟩, ?_⟩
  have q' : ∀ H', LW H' sl fl (closeTop k st0 out0) → Keep2 sl fl H H' → Q .non H' := q
  cases st with
  | nil =>
    rw [← e] at q'
    exact iteF (iteF (q' _ A2 k2))
  | cons x st =>
    have lc : (x :: st).length = st.length + 1 := rfl
    show if (!((x :: st).reverse.map cv).isEmpty) = true then _ else _
    rw [cne]
    obtain ⟨tt, ty, kt⟩ := isiI (K := K) (H := H2) x
    refine iteT ⟨_, rfl, _, rfl, sl, _, _, _, rfl, rfl, SqL.of h1, ctop_atI, cv x, .ty "int", tt, .type "int", _, rfl, .ty _, ty, kt, _, rfl, ?_⟩
    cases x with
    | marker y =>
      rw [← e] at q'
      exact iteF (q' _ A2 k2)
    | block y =>
      refine iteT ⟨_, fun _ _ h => h, ?_⟩
      refine ⟨_, rfl, .inl ⟨rfl, _, SqL.of h1⟩, sl, _, _, rfl, rfl, h1, ctop_at, ?_⟩
      have A3 := LW.pop (x := .block y) h1 h2 h3 h4
      have k3 := k2.trans (keep_c (a := fl) (HO.lst ((Ctx.block y :: st).reverse.map cv).dropLast))
      obtain ⟨ls3, j1, j2, _⟩ := id A3.ex
      refine ⟨_, rfl, .inl ⟨rfl, _, SqL.of j2⟩, _, rfl, t, "}", k, rfl, A0.tup k3 ht, fun p hp => ?_⟩
      obtain ⟨xs, e1, e2, A4, k4⟩ := A3.sign (sg "}" k) (by show out.length ≤ 5000; omega) hp
      refine ⟨fl, xs, _, rfl, rfl, e1, e2, ?_⟩
      refine ⟨st.length, by omega, st, _, rfl, rfl, A4, k3.trans k4, e, ?_⟩
      rw [List.length_append]
      show st.length + (out.length + 1) ≤ 4000
      omega
abbrev sLFirst : Stmt := topS 17
theorem scLFirst : FnScope ["stack", "found", "token"] ["stack", "found", "token"] (defScope sLFirst) := ⟨rfl, rfl, rfl, by decide +kernel, rfl, by decide +kernel, by decide +kernel⟩
def spLFirst : Sp := fun vs H Q _ => ∃ (sl fl t : Addr) (s : LS) (k : Tk), vs = [.ref sl, .ref fl, .ref t] ∧ LW H sl fl s ∧ H t = some (.tup (tkV k)) ∧ sz s ≤ 4000 ∧
  ∀ H', LW H' sl fl (firstOf k s.1 s.2) → Keep2 sl fl H H' → Q .non H'
theorem c_lfirst {f : Addr} {fd : FuncData} (T : Txt K w mg C aB aO aC es n) (c_law_sign : C8.Cal P w K mg base 1 "_law_sign" spLSign []) (F : Fun K "_law_first" "_law_first" sLFirst f fd) (b : Binds K fd ["stack", "found", "token"] []) (hm : mg "_law_first" = some (.ref f)) : C8.Cal P w K mg base 2 "_law_first" spLFirst [] := by
  refine cal_of F hm b scLFirst (fun vs H Q E h => ?_) (fun cdv A outer s H vs Q E hr h => ?_)
  · obtain ⟨sl, fl, t, s, k, rfl, _⟩ := h
    rfl
  obtain ⟨sl, fl, t, ⟨st0, out0⟩, k, rfl, A0, ht, hl, q⟩ := h
  refine ⟨_, (pss_cons (ps_while PassesOwn.never (PW.pt (pw_and (pt_truth (pv 0) (fun _ => rfl)) (pw_and (pt_val (pe_callB call_isi rfl T.zisinstance boot_isinstance (pa_cons (pe_ix ix_list (pv 0) (pe_un un_neg pe_int) (fun _ _ => rfl)) (pa_cons (pe_bltn (v := .ty "int") rfl T.zint boot_int rfl) pa_nil)))) (pw_and1 (pt_cmpR op_gt (pe_ix ix_list (pv 0) (pe_un un_neg pe_int) (fun _ _ => rfl)) (pe_ix ix_tup (pv 2) pe_int (fun _ _ => rfl)) (nomark _))))))
      (pss_cons (ps_expr (pe_bm0 PySem.F.plainAttrs_list PySem.F.slot_list_pop PySem.F.type_list_pop mt_pop (pv 0)))
    (pss_one (ps_expr (pe_bm PySem.F.plainAttrs_list PySem.F.slot_list_append PySem.F.type_list_append mt_append (pv 1) (pa_cons (C8.pe_c c_law_sign hr (by decide) rfl (pa_cons pe_str (pa_cons (pv 2) pa_nil))) pa_nil))))))
    (pss_one (ps_if (PW.pt (pw_and (pt_truth (pv 0) (fun _ => rfl)) (pw_and1 (pt_cmpR op_eq (pe_ix ix_list (pv 0) (pe_un un_neg pe_int) (fun _ _ => rfl)) (pe_ix ix_tup (pv 2) pe_int (fun _ _ => rfl)) (nomark _)))))
      (pss_one (ps_expr (pe_bm PySem.F.plainAttrs_list PySem.F.slot_list_append PySem.F.type_list_append mt_append (pv 1) (pa_cons (C8.pe_c c_law_sign hr (by decide) rfl (pa_cons pe_str (pa_cons (pv 2) pa_nil))) pa_nil))))
      pss_nil))), ?_⟩
  refine ⟨fun m σ H2 => ∃ st out, m = st.length ∧ σ = [some (.ref sl), some (.ref fl), some (.ref t)] ∧ LW H2 sl fl (st, out) ∧ Keep2 sl fl H H2 ∧ firstOf k st out = firstOf k st0 out0 ∧ st.length + out.length ≤ 4000,
    ⟨_, st0, out0, rfl, rfl, A0, Keep2.refl _ _ _, rfl, hl⟩, ?_⟩
  rintro m σ H2 ⟨st, out, rfl, rfl, A2, k2, e, hl2⟩
  obtain ⟨ls, h1, h2, h3, h4⟩ := id A2.ex
  have ht2 := A0.tup k2 ht
  refine ⟨_, rfl, _, .inl ⟨_, SqL.of h1, rfl⟩, ?_⟩
  have q' : ∀ H', LW H' sl fl (firstOf k st0 out0) → Keep2 sl fl H H' → Q .non H' := q
  cases st with
  | nil =>
    rw [← e] at q'
    exact iteF (iteF ⟨_, rfl, _, .inl ⟨_, SqL.of h1, rfl⟩, iteF (iteF (q' _ A2 k2))⟩)
  | cons x st =>
    have lc : (x :: st).length = st.length + 1 := rfl
    show if (!((x :: st).reverse.map cv).isEmpty) = true then _ else _
    rw [cne]
    obtain ⟨tt, ty, kt⟩ := isiI (K := K) (H := H2) x
    refine iteT ⟨_, rfl, _, rfl, sl, _, _, _, rfl, rfl, SqL.of h1, ctop_atI, cv x, .ty "int", tt, .type "int", _, rfl, .ty _, ty, kt, _, rfl, ?_⟩
    cases x with
    | marker y =>
      rw [← e] at q'
      refine iteF (iteF ⟨_, rfl, _, .inl ⟨_, SqL.of h1, rfl⟩, ?_⟩)
      show if (!((Ctx.marker y :: st).reverse.map cv).isEmpty) = true then _ else _
      rw [cne]
      refine iteT ⟨_, rfl, _, rfl, sl, _, _, _, rfl, rfl, SqL.of h1, ctop_atI, _, rfl, t, _, 3, _, rfl, rfl, SqT.of ht2, rfl, rfl, _, rfl, ?_⟩
      rw [decide_eq_false (show ¬ cv (Ctx.marker y) = V.int k.2.2.2 from fun z => by cases z)]
      exact iteF (q' _ A2 k2)
    | block y =>
      refine iteT ⟨_, rfl, _, rfl, sl, _, _, _, rfl, rfl, SqL.of h1, ctop_atI, _, rfl, t, _, 3, _, rfl, rfl, SqT.of ht2, rfl, _, _, rfl, rfl, _, rfl, ?_⟩
      by_cases hc : k.2.2.2 < y
      · rw [decide_eq_true hc]
        refine iteT ⟨_, fun _ _ h => h, ?_⟩
        refine ⟨_, rfl, .inl ⟨rfl, _, SqL.of h1⟩, sl, _, _, rfl, rfl, h1, ctop_at, ?_⟩
        have A3 := LW.pop (x := .block y) h1 h2 h3 h4
        have k3 := k2.trans (keep_c (a := fl) (HO.lst ((Ctx.block y :: st).reverse.map cv).dropLast))
        obtain ⟨ls3, j1, j2, _⟩ := id A3.ex
        refine ⟨_, rfl, .inl ⟨rfl, _, SqL.of j2⟩, _, rfl, t, "}", k, rfl, A0.tup k3 ht, fun p hp => ?_⟩
        obtain ⟨xs, e1, e2, A4, k4⟩ := A3.sign (sg "}" k) (by show out.length ≤ 5000; omega) hp
        refine ⟨fl, xs, _, rfl, rfl, e1, e2, ?_⟩
        refine ⟨st.length, by omega, st, _, rfl, rfl, A4, k3.trans k4, ?_, ?_⟩
        · rw [← e, firstOf_block, if_pos hc]
        · rw [List.length_append]
          show st.length + (out.length + 1) ≤ 4000
          omega
      · rw [decide_eq_false hc]
        refine iteF ⟨_, rfl, _, .inl ⟨_, SqL.of h1, rfl⟩, ?_⟩
        show if (!((Ctx.block y :: st).reverse.map cv).isEmpty) = true then _ else _
        rw [cne]
        refine iteT ⟨_, rfl, _, rfl, sl, _, _, _, rfl, rfl, SqL.of h1, ctop_atI, _, rfl, t, _, 3, _, rfl, rfl, SqT.of ht2, rfl, rfl, _, rfl, ?_⟩
        rw [← e, firstOf_block, if_neg hc] at q'
        by_cases he : y = k.2.2.2
        · rw [decide_eq_true (show cv (Ctx.block y) = V.int k.2.2.2 from congrArg V.int he)]
          rw [if_pos he] at q'
          refine iteT ⟨_, rfl, .inl ⟨rfl, _, SqL.of h2⟩, _, rfl, t, ";", k, rfl, ht2, fun p hp => ?_⟩
          obtain ⟨xs, e1, e2, A4, k4⟩ := A2.sign (sg ";" k) (by show out.length ≤ 5000; omega) hp
          exact ⟨fl, xs, _, rfl, rfl, e1, e2, q' _ A4 (k2.trans k4)⟩
        · rw [decide_eq_false (show ¬ cv (Ctx.block y) = V.int k.2.2.2 from fun z => he (V.int.inj z))]
          rw [if_neg he] at q'
          exact iteF (q' _ A2 k2)
abbrev sLOpens : Stmt := topS 18
theorem scLOpens : FnScope ["stack", "found", "token"] ["stack", "found", "token"] (defScope sLOpens) := ⟨rfl, rfl, rfl, by decide +kernel, rfl, by decide +kernel, by decide +kernel⟩
def lopens (k : Tk) (s : LS) : LS × Bool := if k.2.1 = "{" then (s, false) else opens k s
def spLOpens : Sp := fun vs H Q _ => ∃ (sl fl t : Addr) (s : LS) (k : Tk), vs = [.ref sl, .ref fl, .ref t] ∧ LW H sl fl s ∧ H t = some (.tup (tkV k)) ∧ sz s ≤ 4000 ∧ (k.2.1 = "{" → k.1 = "sign") ∧
  ∀ H', LW H' sl fl (lopens k s).1 → Keep2 sl fl H H' → Q (.bl (lopens k s).2) H'
theorem c_lopens {f : Addr} {fd : FuncData} (T : Txt K w mg C aB aO aC es n) (c_law_sign : C8.Cal P w K mg base 1 "_law_sign" spLSign []) (c_law_inner : C8.Cal P w K mg base 1 "_law_inner" spLInner []) (F : Fun K "_law_opens" "_law_opens" sLOpens f fd) (b : Binds K fd ["stack", "found", "token"] []) (hm : mg "_law_opens" = some (.ref f)) : C8.Cal P w K mg base 2 "_law_opens" spLOpens [] := by
  refine cal_of F hm b scLOpens (fun vs H Q E h => ?_) (fun cdv A outer s H vs Q E hr h => ?_)
  · obtain ⟨sl, fl, t, s, k, rfl, _⟩ := h
    rfl
  obtain ⟨sl, fl, t, ⟨st, out⟩, k, rfl, A0, ht, hl, hsg, q⟩ := h
  have hl' : st.length + out.length ≤ 4000 := hl
  refine ⟨_, (pss_cons (ps_if (PW.pt (pw_and (pt_cmpR op_eq (pe_ix ix_tup (pv 2) pe_int (fun _ _ => rfl)) pe_str (nomark _)) (pw_and1 (pt_cmpR op_eq (pe_ix ix_tup (pv 2) pe_int (fun _ _ => rfl)) pe_str (nomark _)))))
      (pss_one (ps_ret pe_bl))
      pss_nil)
    (pss_cons (ps_expr (pe_bm PySem.F.plainAttrs_list PySem.F.slot_list_append PySem.F.type_list_append mt_append (pv 1) (pa_cons (C8.pe_c c_law_sign hr (by decide) rfl (pa_cons pe_str (pa_cons (pv 2) pa_nil))) pa_nil)))
    (pss_cons (ps_if (PW.pt (pw_or (pt_cmpR op_eq (pe_ix ix_tup (pv 2) pe_int (fun _ _ => rfl)) pe_str (nomark _)) (pw_or1 (pt_cmpR op_le (pe_ix ix_tup (pv 2) pe_int (fun _ _ => rfl)) (C8.pe_c c_law_inner hr (by decide) rfl (pa_cons (pv 0) pa_nil)) (nomark _)))))
      (pss_cons (ps_expr (pe_bm PySem.F.plainAttrs_list PySem.F.slot_list_append PySem.F.type_list_append mt_append (pv 1) (pa_cons (C8.pe_c c_law_sign hr (by decide) rfl (pa_cons pe_str (pa_cons (pv 2) pa_nil))) pa_nil)))
    (pss_one (ps_ret pe_bl)))
      pss_nil)
    (pss_cons (ps_expr (pe_bm PySem.F.plainAttrs_list PySem.F.slot_list_append PySem.F.type_list_append mt_append (pv 0) (pa_cons (pe_ix ix_tup (pv 2) pe_int (fun _ _ => rfl)) pa_nil)))
    (pss_one (ps_ret pe_bl)))))), ?_⟩
  refine ⟨_, rfl, t, _, 1, _, rfl, rfl, SqT.of ht, rfl, rfl, _, rfl, ?_⟩
  by_cases hb : k.2.1 = "{"
  · rw [decide_eq_true (show V.str k.2.1 = V.str "{" by rw [hb])]
    refine iteT ⟨_, rfl, t, _, 0, _, rfl, rfl, SqT.of ht, rfl, rfl, _, rfl, ?_⟩
    rw [decide_eq_true (show V.str k.1 = V.str "sign" by rw [hsg hb])]
    have eo : lopens k (st, out) = ((st, out), false) := if_pos hb
    rw [eo] at q
    exact iteT (q _ A0 (Keep2.refl _ _ _))
  · rw [decide_eq_false (fun z => hb (V.str.inj z) : ¬ V.str k.2.1 = V.str "{")]
    have eo : lopens k (st, out) = opens k (st, out) := if_neg hb
    rw [eo] at q
    obtain ⟨ls, h1, h2, h3, h4⟩ := id A0.ex
    refine iteF (iteF ⟨_, rfl, .inl ⟨rfl, _, SqL.of h2⟩, _, rfl, t, "{", k, rfl, ht, fun p hp => ?_⟩)
    obtain ⟨xs, e1, e2, A1, k1⟩ := A0.sign (sg "{" k) (by show out.length ≤ 5000; omega) hp
    refine ⟨fl, xs, _, rfl, rfl, e1, e2, ?_⟩
    have ht1 := A0.tup k1 ht
    obtain ⟨ls1, j1, j2, j3, j4⟩ := id A1.ex
    have shut : opens k (st, out) = ((st, out ++ [sg "{" k, sg "}" k]), false) → ∀ p2, upd (upd H p (.tup (tkV (sg "{" k)))) fl (.lst (xs ++ [.ref p])) p2 = none →
        ∃ xs2, upd (upd (upd H p (.tup (tkV (sg "{" k)))) fl (.lst (xs ++ [.ref p]))) p2 (.tup (tkV (sg "}" k))) fl = some (.lst xs2) ∧ xs2.length < sizeLine ∧
          Q (.bl false) (upd (upd (upd (upd H p (.tup (tkV (sg "{" k)))) fl (.lst (xs ++ [.ref p]))) p2 (.tup (tkV (sg "}" k)))) fl (.lst (xs2 ++ [.ref p2]))) := fun eo2 p2 hp2 => by
      obtain ⟨xs2, f1, f2, A2, k2⟩ := A1.sign (sg "}" k) (by show (out ++ [sg "{" k]).length ≤ 5000; rw [List.length_append]; show out.length + 1 ≤ 5000; omega) hp2
      rw [eo2] at q
      have e3 : (out ++ [sg "{" k]) ++ [sg "}" k] = out ++ [sg "{" k, sg "}" k] := by simp
      exact ⟨xs2, f1, f2, q _ (A2.of_eq (by rw [← e3])) (k1.trans k2)⟩
    refine ⟨_, rfl, t, _, 0, _, rfl, rfl, SqT.of ht1, rfl, rfl, _, rfl, ?_⟩
    by_cases hend : k.1 = "end"
    · rw [decide_eq_true (show V.str k.1 = V.str "end" by rw [hend])]
      refine iteT (iteT ⟨_, rfl, .inl ⟨rfl, _, SqL.of j2⟩, _, rfl, t, "}", k, rfl, ht1, fun p2 hp2 => ?_⟩)
      obtain ⟨xs2, f1, f2, q2⟩ := shut (if_neg (fun z => z.1 hend)) p2 hp2
      exact ⟨fl, xs2, _, rfl, rfl, f1, f2, q2⟩
    · rw [decide_eq_false (fun z => hend (V.str.inj z) : ¬ V.str k.1 = V.str "end")]
      refine iteF ⟨_, rfl, t, _, 3, _, rfl, rfl, SqT.of ht1, rfl, _, rfl, sl, st, rfl, j1, by omega, _, _, rfl, rfl, _, rfl, ?_⟩
      by_cases hc : innerCol st < k.2.2.2
      · rw [decide_eq_false (show ¬ k.2.2.2 ≤ innerCol st by omega)]
        have eo2 : opens k (st, out) = ((.block k.2.2.2 :: st, out ++ [sg "{" k]), true) := if_pos ⟨hend, hc⟩
        rw [eo2] at q
        refine iteF ⟨_, rfl, .inl ⟨rfl, _, SqL.of j1⟩, _, rfl, t, _, 3, _, rfl, rfl, SqT.of ht1, rfl, sl, _, _, rfl, rfl, j1, szl (by rw [List.length_map, List.length_reverse]; show st.length ≤ 100000; omega), ?_⟩
        exact q _ (LW.push (.block k.2.2.2) j1 j2 j3 j4) (k1.trans (keep_c _))
      · rw [decide_eq_true (show k.2.2.2 ≤ innerCol st by omega)]
        refine iteT ⟨_, rfl, .inl ⟨rfl, _, SqL.of j2⟩, _, rfl, t, "}", k, rfl, ht1, fun p2 hp2 => ?_⟩
        obtain ⟨xs2, f1, f2, q2⟩ := shut (if_neg (fun z => hc z.2)) p2 hp2
        exact ⟨fl, xs2, _, rfl, rfl, f1, f2, q2⟩
end
end Toy

set_option Elab.async false
set_option maxRecDepth 100000
set_option maxHeartbeats 4000000
/-! Part G: the law's effect of a token, and its layout of a row. -/
namespace Toy
open PySem L2
open PyProof.Rows (envOfC)
def clsK : List (Key × V) := CLS.map fun p => (Sum.inr p.1, V.str p.2)
theorem cls_merge : mergeK [] clsK = clsK := by decide +kernel
theorem lookup_val (z : Str) : ∀ l : List (Str × Str), valV (l.map fun p => ((Sum.inr p.1 : Key), V.str p.2)) (Sum.inr z) = (l.lookup z).map V.str
  | [] => rfl
  | (a, b) :: l => by
    by_cases h : a = z
    · subst h
      rw [List.map_cons, valV_pos rfl, List.lookup_cons]
      simp
    · have h1 : ¬ (Sum.inr a : Key) = Sum.inr z := fun q => h (Sum.inr.inj q)
      have h2 : (z == a) = false := beq_eq_false_iff_ne.mpr fun q => h q.symm
      rw [List.map_cons, valV_neg h1, lookup_val z l, List.lookup_cons, h2]
theorem cls_val (z : Str) : valV clsK (Sum.inr z) = (closer z).map V.str := lookup_val z CLS
theorem lookup_mem {z m : Str} : ∀ {l : List (Str × Str)}, l.lookup z = some m → (z, m) ∈ l
  | [], h => by cases h
  | (a, b) :: l, h => by
    rw [List.lookup_cons] at h
    by_cases e : z = a
    · subst e
      rw [show (z == z) = true from beq_self_eq_true z] at h
      cases h
      exact List.mem_cons_self ..
    · rw [show (z == a) = false from beq_eq_false_iff_ne.mpr e] at h
      exact List.mem_cons_of_mem _ (lookup_mem h)
theorem closer_ne {z m : Str} (h : closer z = some m) : m ≠ "" := by
  have q : ∀ p ∈ CLS, p.2 ≠ "" := by decide +kernel
  exact q _ (lookup_mem h)
theorem closer_comma : closer "," = none := by decide +kernel
theorem no_empty : ¬ ("" : Str) ∈ (["(", "["] : List Str) := by decide +kernel
section
variable {P : Program} {w : World} {K : PySem.W.Frag} {mg : Str → Option Value} {base : Heap} {C aB aO aC : Addr} {es : Array DictEntry} {n : Nat}
abbrev sLEffect : Stmt := topS 16
theorem scLEffect : FnScope ["stack", "found", "token", "text", "marker", "pairs"] ["stack", "found", "token"] (defScope sLEffect) := ⟨rfl, rfl, rfl, by decide +kernel, rfl, by decide +kernel, by decide +kernel⟩
def spLEffect : Sp := fun vs H Q _ => ∃ (sl fl t : Addr) (s : LS) (k : Tk), vs = [.ref sl, .ref fl, .ref t] ∧ LW H sl fl s ∧ H t = some (.tup (tkV k)) ∧ sz s ≤ 3000 ∧
  ∀ H', LW H' sl fl (effOpen k (effClose k (effComma k s))) → Keep2 sl fl H H' → Q .non H'
theorem c_leffect {f : Addr} {fd : FuncData} (c_law_marker : C8.Cal P w K mg base 1 "_law_marker" spMarker []) (c_law_close : C8.Cal P w K mg base 2 "_law_close" spLClose []) (F : Fun K "_law_effect" "_law_effect" sLEffect f fd) (b : Binds K fd ["stack", "found", "token"] []) (hm : mg "_law_effect" = some (.ref f)) : C8.Cal P w K mg base 3 "_law_effect" spLEffect [] := by
  refine cal_of F hm b scLEffect (fun vs H Q E h => ?_) (fun cdv A outer s H vs Q E hr h => ?_)
  · obtain ⟨sl, fl, t, s, k, rfl, _⟩ := h
    rfl
  obtain ⟨sl, fl, t, s0, k, rfl, A0, ht, hl, q⟩ := h
  have hu := hu_of hr
  have hl' : s0.1.length + s0.2.length ≤ 3000 := hl
  refine ⟨_, (pss_cons (ps_set (i := 3) scLEffect.nd rfl (Or.inl rfl) (pe_ix ix_tup (pv 2) pe_int (fun _ _ => rfl)))
    (pss_cons (ps_set (i := 4) scLEffect.nd rfl (Or.inl rfl) (C8.pe_c c_law_marker hr (by decide) rfl (pa_cons (pv 0) pa_nil)))
    (C8.pss_cut (ps_if (PW.pt (pw_and (pt_cmpR op_eq (pv 3) pe_str (nomark _)) (pw_and1 (pt_cmpR op_in_seq (pv 4) (pe_tup (pa_cons pe_str (pa_cons pe_str pa_nil))) rfl))))
      (pss_one (ps_expr (C8.pe_c c_law_close hr (by decide) rfl (pa_cons (pv 0) (pa_cons (pv 1) (pa_cons (pv 2) pa_nil))))))
      pss_nil)
    (pss_cons (ps_set (i := 5) scLEffect.nd rfl (Or.inl rfl) (pe_disp (pps_cons pe_str pe_str (pps_cons pe_str pe_str (pps_cons pe_str pe_str (pps_cons pe_str pe_str (pps_cons pe_str pe_str (pps_cons pe_str pe_str (pps_cons pe_str pe_str pps_nil))))))) rfl rfl (by decide) (by decide)))
    (C8.pss_cut (ps_if (PW.pt (pw_and (pt_cmp (pc_din hu (pv 3) (pv 5))) (pw_and1 (pt_cmpR op_eq (pv 4) (pe_dget hu (pv 5) (pv 3) (fun _ _ => rfl)) (nomark _)))))
      (pss_cons (ps_expr (C8.pe_c c_law_close hr (by decide) rfl (pa_cons (pv 0) (pa_cons (pv 1) (pa_cons (pv 2) pa_nil)))))
    (pss_cons (ps_expr (pe_bm0 PySem.F.plainAttrs_list PySem.F.slot_list_pop PySem.F.type_list_pop mt_pop (pv 0)))
    (pss_one (ps_if (pt_cmpR op_eq (pv 3) pe_str (nomark _))
      (pss_one (ps_expr (pe_bm PySem.F.plainAttrs_list PySem.F.slot_list_append PySem.F.type_list_append mt_append (pv 0) (pa_cons pe_str pa_nil))))
      pss_nil))))
      pss_nil)
    (pss_one (ps_if (pt_cmpR op_in_seq (pv 3) (pe_tup (pa_strs (zs := ["(", "[", "{", "let", "case", "if"]) rfl)) rfl)
      (pss_one (ps_expr (pe_bm PySem.F.plainAttrs_list PySem.F.slot_list_append PySem.F.type_list_append mt_append (pv 0) (pa_cons (pv 3) pa_nil))))
      pss_nil))))))), ?_⟩
  obtain ⟨ls, h1, h2, h3, h4⟩ := id A0.ex
  refine ⟨_, rfl, t, _, 1, _, rfl, rfl, SqT.of ht, rfl, ?_⟩
  refine ⟨_, rfl, sl, s0.1, rfl, h1, by omega, ?_⟩
  -- a comma
  refine ⟨fun σ' H' => σ' = [some (.ref sl), some (.ref fl), some (.ref t), some (.str k.2.1), some (.str ((topMarker s0.1).getD "")), none] ∧ LW H' sl fl (effComma k s0) ∧ Keep2 sl fl H H', ?_, ?_⟩
  · refine ⟨_, rfl, rfl, _, rfl, ?_⟩
    by_cases hc : k.2.1 = ","
    · rw [decide_eq_true (show V.str k.2.1 = V.str "," by rw [hc])]
      have ee : effComma k s0 = (upTo ["(", "["] k s0).1 := if_pos hc
      refine iteT ⟨_, rfl, (by show 2 ≤ sizeLine; decide), fun tp htp => ?_⟩
      have k1 := same_new htp (.tup ((["(", "["] : List Str).map V.str))
      refine ⟨tp, _, rfl, .inr (SqT.of upd_same), rfl, strs_flat ["(", "["], _, rfl, ?_⟩
      show if inV (.str ((topMarker s0.1).getD "")) ((["(", "["] : List Str).map V.str) = true then _ else _
      rw [inV_strs]
      have A1 := A0.same k1
      by_cases hm : (topMarker s0.1).getD "" ∈ (["(", "["] : List Str)
      · rw [decide_eq_true hm]
        have eu : (upTo ["(", "["] k s0).1 = closeTop k s0.1 s0.2 := by
          unfold upTo
          cases e : topMarker s0.1 with
          | none => rw [e] at hm; exact absurd hm no_empty
          | some m =>
            rw [e] at hm
            have hm' : m ∈ (["(", "["] : List Str) := hm
            show (if m ∈ (["(", "["] : List Str) then (closeTop k s0.1 s0.2, true) else (s0, false)).1 = _
            rw [if_pos hm']
        refine iteT ⟨_, rfl, _, rfl, _, rfl, sl, fl, t, s0, k, rfl, A1, k1 _ _ ht, by show s0.1.length + s0.2.length ≤ 4000; omega, fun H2 A2 k2 => ⟨rfl, A2.of_eq (by rw [ee, eu]), (keep2_of k1).trans k2⟩⟩
      · rw [decide_eq_false hm]
        have eu : (upTo ["(", "["] k s0).1 = s0 := by
          unfold upTo
          cases e : topMarker s0.1 with
          | none => rfl
          | some m =>
            rw [e] at hm
            have hm' : ¬ m ∈ (["(", "["] : List Str) := hm
            show (if m ∈ (["(", "["] : List Str) then (closeTop k s0.1 s0.2, true) else (s0, false)).1 = _
            rw [if_neg hm']
        exact iteF ⟨rfl, A1.of_eq (by rw [ee, eu]), keep2_of k1⟩
    · rw [decide_eq_false (fun z => hc (V.str.inj z) : ¬ V.str k.2.1 = V.str ",")]
      have ee : effComma k s0 = s0 := if_neg hc
      exact iteF (iteF ⟨rfl, A0.of_eq ee.symm, Keep2.refl _ _ _⟩)
  rintro σ1 H1 ⟨rfl, A1, k1⟩
  have l1 : sz (effComma k s0) ≤ 3000 := by rw [effComma_sz]; exact hl
  -- the pairs
  intro pd hpd
  refine ⟨upd_same, clsK, rfl, (by show 7 ≤ 15; decide), ?_⟩
  rw [upd_upd, cls_merge]
  have kp := same_new hpd (.dK clsK)
  have A2 := A1.same kp
  have k2 := k1.trans (keep2_of (c := sl) (a := fl) kp)
  have hd : upd H1 pd (.dK clsK) pd = some (.dK clsK) := upd_same
  have ht2 := A0.tup k2 ht
  -- a closing word
  refine ⟨fun σ' H' => σ' = [some (.ref sl), some (.ref fl), some (.ref t), some (.str k.2.1), some (.str ((topMarker s0.1).getD "")), some (.ref pd)] ∧ LW H' sl fl (effClose k (effComma k s0)) ∧ Keep2 sl fl H H', ?_, ?_⟩
  · refine ⟨_, rfl, _, rfl, pd, _, rfl, (cls_val k.2.1 ▸ DGet.k (k := Sum.inr k.2.1) hd), _, rfl, ?_⟩
    cases em : closer k.2.1 with
    | none =>
      have ee : effClose k (effComma k s0) = effComma k s0 := by
        unfold effClose
        rw [em]
      exact iteF (iteF ⟨rfl, A2.of_eq ee.symm, k2⟩)
    | some m =>
      have hnc : k.2.1 ≠ "," := fun z => by rw [z, closer_comma] at em; cases em
      have ec : effComma k s0 = s0 := if_neg hnc
      rw [ec] at A2 ⊢
      have gt : DGet (upd H1 pd (.dK clsK)) pd (.str k.2.1) (some (.str m)) := by
        have g := DGet.k (k := Sum.inr k.2.1) hd
        rw [cls_val, em] at g
        exact g
      have ee : effClose k s0 = (let r := upTo [m] k s0; if r.2 = true then (if k.2.1 = "then" then .marker "then" :: r.1.1.tail else r.1.1.tail, r.1.2) else r.1) := by
        unfold effClose
        rw [em]
      refine iteT ⟨_, rfl, _, rfl, _, rfl, pd, _, rfl, gt, rfl, _, rfl, ?_⟩
      by_cases hmm : (topMarker s0.1).getD "" = m
      · rw [decide_eq_true (show V.str ((topMarker s0.1).getD "") = V.str m by rw [hmm])]
        have etm : topMarker s0.1 = some m := by
          cases e : topMarker s0.1 with
          | none => rw [e] at hmm; exact absurd hmm.symm (closer_ne em)
          | some m' => rw [e] at hmm; exact congrArg some hmm
        have eu : upTo [m] k s0 = (closeTop k s0.1 s0.2, true) := by
          unfold upTo
          rw [etm]
          exact if_pos (List.mem_singleton.mpr rfl)
        obtain ⟨rest, er⟩ := upTo_top (m := m) (t := k) (s := s0) (by rw [eu])
        rw [eu] at er
        obtain ⟨out3, eo⟩ : ∃ out3, closeTop k s0.1 s0.2 = (.marker m :: rest, out3) := ⟨_, Prod.ext er rfl⟩
        have ee' : effClose k s0 = (if k.2.1 = "then" then .marker "then" :: rest else rest, out3) := by
          rw [ee, eu, eo]
          rfl
        have lr : rest.length + 1 + out3.length ≤ 3000 := by
          have k3 := upTo_len [m] k s0
          rw [eu, eo] at k3
          have k3' : (rest.length + 1) + out3.length = s0.1.length + s0.2.length := k3
          omega
        refine iteT ⟨_, rfl, _, rfl, _, rfl, sl, fl, t, s0, k, rfl, A2, ht2, by show s0.1.length + s0.2.length ≤ 4000; omega, fun H3 A3 k3 => ?_⟩
        have A3' := A3.of_eq eo
        obtain ⟨ls3, j1, j2, j3, j4⟩ := id A3'.ex
        refine ⟨_, rfl, .inl ⟨rfl, _, SqL.of j1⟩, sl, _, _, rfl, rfl, j1, ctop_at, ?_⟩
        have A4 := LW.pop (x := .marker m) j1 j2 j3 j4
        have k4 := (k2.trans k3).trans (keep_c (a := fl) (HO.lst ((Ctx.marker m :: rest).reverse.map cv).dropLast))
        obtain ⟨ls4, i1, i2, i3, i4⟩ := id A4.ex
        refine ⟨_, rfl, rfl, _, rfl, ?_⟩
        by_cases ht' : k.2.1 = "then"
        · rw [decide_eq_true (show V.str k.2.1 = V.str "then" by rw [ht'])]
          rw [if_pos ht'] at ee'
          refine iteT ⟨_, rfl, .inl ⟨rfl, _, SqL.of i1⟩, sl, _, _, rfl, rfl, i1, szl (by rw [List.length_map, List.length_reverse]; show rest.length ≤ 100000; omega), ?_⟩
          exact ⟨rfl, (LW.push (.marker "then") i1 i2 i3 i4).of_eq ee'.symm, k4.trans (keep_c _)⟩
        · rw [decide_eq_false (fun z => ht' (V.str.inj z) : ¬ V.str k.2.1 = V.str "then")]
          rw [if_neg ht'] at ee'
          exact iteF ⟨rfl, A4.of_eq ee'.symm, k4⟩
      · rw [decide_eq_false (fun z => hmm (V.str.inj z) : ¬ V.str ((topMarker s0.1).getD "") = V.str m)]
        have eu : upTo [m] k s0 = (s0, false) := by
          unfold upTo
          cases e : topMarker s0.1 with
          | none => rfl
          | some m' =>
            rw [e] at hmm
            have hmm' : ¬ m' = m := hmm
            show (if m' ∈ [m] then (closeTop k s0.1 s0.2, true) else (s0, false)) = _
            rw [if_neg (fun z => hmm' (List.mem_singleton.mp z))]
        have ee' : effClose k s0 = s0 := by
          rw [ee, eu]
          rfl
        exact iteF ⟨rfl, A2.of_eq ee'.symm, k2⟩
  rintro σ2 H2 ⟨rfl, A3, k3⟩
  have l2 := effClose_sz k (effComma k s0)
  have l2' : (effClose k (effComma k s0)).1.length + (effClose k (effComma k s0)).2.length ≤ 3001 := by
    have l9 : (effClose k (effComma k s0)).1.length + (effClose k (effComma k s0)).2.length ≤ sz (effComma k s0) + 1 := l2
    omega
  -- an opening word
  refine ⟨_, rfl, (by show 6 ≤ sizeLine; decide), fun tp htp => ?_⟩
  have kq := same_new htp (.tup (OP.map V.str))
  refine ⟨tp, _, rfl, .inr (SqT.of upd_same), rfl, strs_flat OP, _, rfl, ?_⟩
  show if inV (.str k.2.1) (OP.map V.str) = true then _ else _
  rw [inV_strs]
  have A4 := A3.same kq
  have k4 := k3.trans (keep2_of (c := sl) (a := fl) kq)
  obtain ⟨ls4, i1, i2, i3, i4⟩ := id A4.ex
  by_cases ho : k.2.1 ∈ OP
  · rw [decide_eq_true ho]
    have ee : effOpen k (effClose k (effComma k s0)) = (.marker k.2.1 :: (effClose k (effComma k s0)).1, (effClose k (effComma k s0)).2) := if_pos ho
    refine iteT ⟨_, rfl, .inl ⟨rfl, _, SqL.of i1⟩, _, rfl, sl, _, _, rfl, rfl, i1, szl (by rw [List.length_map, List.length_reverse]; omega), ?_⟩
    exact q _ ((LW.push (.marker k.2.1) i1 i2 i3 i4).of_eq ee.symm) (k4.trans (keep_c _))
  · rw [decide_eq_false ho]
    have ee : effOpen k (effClose k (effComma k s0)) = effClose k (effComma k s0) := if_neg ho
    exact iteF (q _ (A4.of_eq ee.symm) k4)
end
end Toy

set_option Elab.async false
set_option maxRecDepth 100000
set_option maxHeartbeats 4000000
/-! Part H: the law's layout of a row; the row that is drawn; the law. -/
namespace Toy
open PySem L2
open PyProof.Rows (envOfC)
/-- what a token of the drawn row is -/
structure Good (t : Tk) : Prop where
  wf : Wf t
  br : t.2.1 = "{" → t.1 = "sign"
  kw : t.2.1 ∈ BK → t.1 = "keyword"
  en : t.1 = "end" → t.2.1 = ""
  row : 0 < t.2.2.1
  ok : PyData.strOk t.1 = true ∧ PyData.strOk t.2.1 = true
structure GoodRow (ts : List Tk) : Prop where
  all : ∀ t ∈ ts, Good t
  rows : ts.Pairwise fun a b => a.2.2.1 ≤ b.2.2.1
  last : ∀ (i : Nat) (t : Tk), ts[i]? = some t → t.1 = "end" → i + 1 = ts.length
theorem ref_at {l : List Addr} {i : Nat} {a : Addr} (h : l[i]? = some a) : atI (l.map V.ref) (0 + (i : Int)) = some (.ref a) := by
  rw [Int.zero_add]
  exact atI_nat (by rw [List.getElem?_map, h]; rfl)
theorem opened_l (ex : Bool) (t : Tk) (s : LS) : opened ex t s = if ex = true then lopens t s else (s, false) := by
  unfold opened lopens
  by_cases h1 : ex = true
  · by_cases h2 : t.2.1 = "{"
    · rw [if_neg (fun z => z.2 h2), if_pos h1, if_pos h2]
    · rw [if_pos ⟨h1, h2⟩, if_pos h1, if_neg h2]
  · rw [if_neg (fun z => h1 z.1), if_neg h1]
theorem meet_end {t : Tk} (h : t.2.1 = "") (out : List Tk) : meet t ([], out) = ([], out ++ [t]) := by
  have h1 : ¬ t.2.1 = "," := by rw [h]; decide +kernel
  have h2 : closer t.2.1 = none := by rw [h]; decide +kernel
  have h3 : ¬ t.2.1 ∈ OP := by rw [h]; decide +kernel
  have e1 : effComma t ([], out) = ([], out) := if_neg h1
  have e2 : effClose t ([], out) = ([], out) := by
    unfold effClose
    rw [h2]
  have e3 : effOpen t ([], out) = ([], out) := if_neg h3
  show ((effOpen t (effClose t (effComma t ([], out)))).1, (effOpen t (effClose t (effComma t ([], out)))).2 ++ [t]) = _
  rw [e1, e2, e3]
theorem endAll_block (t : Tk) (c : Int) (st : List Ctx) (out : List Tk) : endAll t (.block c :: st) out = endAll t st (out ++ [sg "}" t]) := rfl
theorem endAll_marker (t : Tk) (c : Str) (st : List Ctx) (out : List Tk) : endAll t (.marker c :: st) out = endAll t st out := rfl
section
variable {P : Program} {w : World} {K : PySem.W.Frag} {mg : Str → Option Value} {base : Heap} {C aB aO aC : Addr} {es : Array DictEntry} {n : Nat}
abbrev sLLayout : Stmt := topS 19
theorem scLLayout : FnScope ["row", "stack", "found", "k", "token", "opened", "context"] ["row"] (defScope sLLayout) := ⟨rfl, rfl, rfl, by decide +kernel, rfl, by decide +kernel, by decide +kernel⟩
def spLLayout (K : PySem.W.Frag) : Sp := fun vs H Q _ => ∃ (rl : Addr) (tl : List Addr) (ts : List Tk), vs = [.ref rl] ∧ SqL K H rl (tl.map V.ref) ∧ Toks H tl ts ∧ GoodRow ts ∧ ts.length ≤ 120 ∧
  ∀ (p : Addr) (l : List Addr) (H' : Hp), H p = none → Same H H' → H' p = some (.lst (l.map V.ref)) → Toks H' l (lay ts) → Q (.ref p) H'
theorem c_llayout {f : Addr} {fd : FuncData} (T : Txt K w mg C aB aO aC es n) (c_law_sign : C8.Cal P w K mg base 1 "_law_sign" spLSign []) (c_law_opens : C8.Cal P w K mg base 2 "_law_opens" spLOpens []) (c_law_first : C8.Cal P w K mg base 2 "_law_first" spLFirst []) (c_law_effect : C8.Cal P w K mg base 3 "_law_effect" spLEffect [])
    (F : Fun K "_law_layout" "_law_layout" sLLayout f fd) (b : Binds K fd ["row"] []) (hm : mg "_law_layout" = some (.ref f)) : C8.Cal P w K mg base 4 "_law_layout" (spLLayout K) [] := by
  refine cal_of F hm b scLLayout (fun vs H Q E h => ?_) (fun cdv A outer s H vs Q E hr h => ?_)
  · obtain ⟨rl, tl, ts, rfl, _⟩ := h
    rfl
  obtain ⟨rl, tl, ts, rfl, hrl, htl, hg, hlen, q⟩ := h
  have hll := htl.len
  refine ⟨_, (pss_cons (ps_set (i := 1) scLLayout.nd rfl (Or.inl rfl) (pe_lst pa_nil))
    (pss_cons (ps_set (i := 2) scLLayout.nd rfl (Or.inl rfl) (pe_lst pa_nil))
    (pss_cons (ps_for PassesOwn.never rfl (pi_range1 rfl T.zrange (pa_cons (pe_callB call_len_seq rfl T.zlen PySem.boot_len (pa_cons (pv 0) pa_nil)) pa_nil)) (pg_name (i := 3) scLLayout.nd rfl (Or.inl rfl))
      (pss_cons (ps_set (i := 4) scLLayout.nd rfl (Or.inl rfl) (pe_ix ix_list (pv 0) (pv 3) (fun _ _ => rfl)))
    (pss_cons (ps_set (i := 5) scLLayout.nd rfl (Or.inl rfl) pe_bl)
    (C8.pss_cut (ps_if (PW.pt (pw_or (pt_cmpR op_eq (pv 3) pe_int (nomark _)) (pw_or1 (pt_cmpR op_in_seq (pe_ix ix_tup (pe_ix ix_list (pv 0) (pe_op op_sub (pv 3) pe_int) (fun _ _ => rfl)) pe_int (fun _ _ => rfl)) (pe_tup (pa_strs (zs := ["where", "let", "of"]) rfl)) rfl))))
      (pss_one (ps_set (i := 5) scLLayout.nd rfl (Or.inl rfl) (C8.pe_c c_law_opens hr (by decide) rfl (pa_cons (pv 1) (pa_cons (pv 2) (pa_cons (pv 4) pa_nil))))))
      pss_nil)
    (C8.pss_cut (ps_if (pt_cmpR op_eq (pe_ix ix_tup (pv 4) pe_int (fun _ _ => rfl)) pe_str (nomark _))
      (pss_one (ps_for PassesOwn.never rfl (RT.pi_revA rfl T.zreversed (pv 1)) (pg_name (i := 6) scLLayout.nd rfl (Or.inl rfl))
      (pss_one (ps_if (pt_val (pe_callB call_isi rfl T.zisinstance boot_isinstance (pa_cons (pv 6) (pa_cons (pe_bltn (v := .ty "int") rfl T.zint boot_int rfl) pa_nil))))
      (pss_one (ps_expr (pe_bm PySem.F.plainAttrs_list PySem.F.slot_list_append PySem.F.type_list_append mt_append (pv 2) (pa_cons (C8.pe_c c_law_sign hr (by decide) rfl (pa_cons pe_str (pa_cons (pv 4) pa_nil))) pa_nil))))
      pss_nil))))
      (C8.pss_cut (ps_if (PW.pt (pw_and (pt_not (pt_val (pv 5))) (pw_and1 (PW.pt (pw_or (pt_cmpR op_eq (pv 3) pe_int (nomark _)) (pw_or1 (pt_cmpR op_lt (pe_ix ix_tup (pe_ix ix_list (pv 0) (pe_op op_sub (pv 3) pe_int) (fun _ _ => rfl)) pe_int (fun _ _ => rfl)) (pe_ix ix_tup (pv 4) pe_int (fun _ _ => rfl)) (nomark _))))))))
      (pss_one (ps_expr (C8.pe_c c_law_first hr (by decide) rfl (pa_cons (pv 1) (pa_cons (pv 2) (pa_cons (pv 4) pa_nil))))))
      pss_nil)
    (pss_one (ps_expr (C8.pe_c c_law_effect hr (by decide) rfl (pa_cons (pv 1) (pa_cons (pv 2) (pa_cons (pv 4) pa_nil))))))))
    (pss_one (ps_expr (pe_bm PySem.F.plainAttrs_list PySem.F.slot_list_append PySem.F.type_list_append mt_append (pv 2) (pa_cons (pv 4) pa_nil)))))))))
    (pss_one (ps_ret (pv 2)))))), ?_⟩
  refine ⟨(by show 0 ≤ sizeLine; decide), fun sl hsl => ⟨(by show 0 ≤ sizeLine; decide), fun fl hfl => ?_⟩⟩
  have s1 : Same H (upd (upd H sl (.lst [])) fl (.lst [])) := (same_new hsl _).trans (same_new hfl _)
  have nsf : sl ≠ fl := by
    intro z
    rw [← z, upd_same] at hfl
    cases hfl
  have hfl0 : H fl = none := (same_new hsl _).free hfl
  have A1 : LW (upd (upd H sl (.lst [])) fl (.lst [])) sl fl ([], []) := ⟨[], by rw [upd_ne nsf, upd_same]; rfl, upd_same, .nil, nsf⟩
  have hrl1 := s1.seq hrl
  refine ⟨_, rfl, rl, _, rfl, .inl hrl1, _, rfl, by rw [List.length_map]; omega, by rw [List.length_map]; omega, for_range
    (fun i σ H2 => ∃ (s s' : LS) (ex : Bool) (last : Int) (v3 v4 v5 v6 : Option V), σ = [some (.ref rl), some (.ref sl), some (.ref fl), v3, v4, v5, v6] ∧ LW H2 sl fl s' ∧ s'.2 = s.2 ∧ (i < ts.length → s' = s) ∧ Same H H2 ∧ run ex last (ts.drop i) s = run true 0 ts ([], []) ∧ sz s ≤ 6 * i ∧
      (i = 0 → ex = true ∧ last = 0) ∧ ∀ j t, i = j + 1 → ts[j]? = some t → ex = expects t ∧ last = t.2.2.1)
    ⟨([], []), ([], []), true, 0, none, none, none, none, rfl, A1, rfl, fun _ => rfl, s1, rfl, Nat.le_refl _, fun _ => ⟨rfl, rfl⟩, fun j t h => by omega⟩ ?_ ?_⟩
  · rintro i σ H2 hi ⟨s, s', ex, last, v3, v4, v5, v6, rfl, A2, _, hss, s2, e, hsz, hi0, hij⟩
    rw [Int.toNat_natCast, List.length_map] at hi
    have hi' : i < ts.length := by omega
    have es := hss hi'
    subst es
    obtain ⟨t, ht1, ht2⟩ := htl.get (List.getElem?_eq_getElem hi')
    have hed := List.drop_eq_getElem_cons hi'
    have hgt := hg.all _ (List.getElem_mem hi')
    have hlast := hg.last i _ (List.getElem?_eq_getElem hi')
    have hrows : ∀ j t', i = j + 1 → ts[j]? = some t' → t'.2.2.1 ≤ (ts[i]).2.2.1 := fun j t' hj hjt => by
      obtain ⟨hj2, ej⟩ := List.getElem?_eq_some_iff.mp hjt
      have := List.pairwise_iff_getElem.mp hg.rows j i hj2 hi' (by omega)
      rw [ej] at this
      exact this
    generalize hk : ts[i] = k at *
    have htt := s2 _ _ ht2
    have hszn : sz s' ≤ 720 := by omega
    have hszn' : s'.1.length + s'.2.length ≤ 720 := hszn
    -- the token before
    have before : ∀ j, i = j + 1 → ∃ a t', tl[j]? = some a ∧ ts[j]? = some t' ∧ H2 a = some (.tup (tkV t')) ∧ Good t' := fun j hj => by
      have hj' : j < ts.length := by omega
      obtain ⟨a, ha1, ha2⟩ := htl.get (List.getElem?_eq_getElem hj')
      exact ⟨a, _, ha1, List.getElem?_eq_getElem hj', s2 _ _ ha2, hg.all _ (List.getElem_mem hj')⟩
    refine ⟨_, rfl, _, rfl, rl, _, _, _, rfl, rfl, s2.seq hrl, ref_at ht1, ?_⟩
    -- is a block opened
    refine ⟨fun σ' H' => σ' = [some (.ref rl), some (.ref sl), some (.ref fl), some (.int (0 + (i : Int))), some (.ref t), some (.bl (opened ex k s').2), v6] ∧ LW H' sl fl (opened ex k s').1 ∧ Same H H', ?_, ?_⟩
    · have eo : ex = true → opened ex k s' = lopens k s' := fun he => by rw [opened_l, if_pos he]
      refine ⟨_, rfl, rfl, _, rfl, ?_⟩
      cases i with
      | zero =>
        obtain ⟨he, _⟩ := hi0 rfl
        refine iteT (iteT ⟨_, rfl, _, rfl, _, rfl, ?_⟩)
        exact ⟨sl, fl, t, s', k, rfl, A2, htt, by show s'.1.length + s'.2.length ≤ 4000; omega, hgt.br, fun H4 A4 k4 => ⟨by rw [eo he]; rfl, A4.of_eq (by rw [eo he]), same_keep2 s2 hsl hfl0 k4⟩⟩
      | succ j =>
        obtain ⟨a, t', ha, htj, hat, gt'⟩ := before j rfl
        obtain ⟨he, _⟩ := hij j t' rfl htj
        rw [decide_eq_false (fun z => by have := V.int.inj z; omega : ¬ V.int (0 + ((j + 1 : Nat) : Int)) = V.int 0)]
        have hat1 : atI (tl.map V.ref) (0 + ((j + 1 : Nat) : Int) - 1) = some (.ref a) := by
          rw [show (0 : Int) + ((j + 1 : Nat) : Int) - 1 = 0 + (j : Int) by omega]
          exact ref_at ha
        refine iteF ⟨_, rfl, _, rfl, _, _, rfl, rfl, rl, _, _, _, rfl, rfl, s2.seq hrl, hat1, a, _, 1, _, rfl, rfl, SqT.of hat, rfl, (by show 3 ≤ sizeLine; decide), fun tp htp => ?_⟩
        refine ⟨tp, _, rfl, .inr (SqT.of upd_same), rfl, strs_flat BK, _, rfl, ?_⟩
        show if inV (.str t'.2.1) (BK.map V.str) = true then _ else _
        rw [inV_strs]
        have s3 := same_new htp (.tup (BK.map V.str))
        have exv : ex = decide (t'.2.1 ∈ BK) := by
          rw [he]
          unfold expects
          by_cases hb : t'.2.1 ∈ BK
          · rw [decide_eq_true hb, decide_eq_true (gt'.kw hb)]
            rfl
          · rw [decide_eq_false hb, Bool.and_false]
        by_cases hb : t'.2.1 ∈ BK
        · rw [decide_eq_true hb] at exv ⊢
          refine iteT ⟨_, rfl, _, rfl, _, rfl, ?_⟩
          exact ⟨sl, fl, t, s', k, rfl, A2.same s3, s3 _ _ htt, by show s'.1.length + s'.2.length ≤ 4000; omega, hgt.br, fun H4 A4 k4 => ⟨by rw [eo exv]; rfl, A4.of_eq (by rw [eo exv]), same_keep2 (Same.trans s2 s3) hsl hfl0 k4⟩⟩
        · rw [decide_eq_false hb] at exv ⊢
          have eo2 : opened ex k s' = (s', false) := by rw [opened_l, if_neg (by rw [exv]; decide)]
          exact iteF ⟨by rw [eo2]; rfl, (A2.same s3).of_eq (by rw [eo2]), Same.trans s2 s3⟩
    rintro σ3 H3 ⟨rfl, A3, s3⟩
    have hosz := opened_sz ex k s'
    have hosz' : (opened ex k s').1.1.length + (opened ex k s').1.2.length ≤ 722 := by
      have h9 : (opened ex k s').1.1.length + (opened ex k s').1.2.length ≤ sz s' + 2 := hosz
      omega
    have htt3 := s3 _ _ ht2
    have hpsz := pre_sz ex last k s'
    have hmsz := meet_sz k (pre ex last k s')
    have nexte : run (expects k) k.2.2.1 (ts.drop (i + 1)) (meet k (pre ex last k s')) = run true 0 ts ([], []) := by
      rw [← e, hed]
      rfl
    have nextij : ∀ j t', i + 1 = j + 1 → ts[j]? = some t' → expects k = expects t' ∧ k.2.2.1 = t'.2.2.1 := fun j t' hj hjt => by
      have hj' : j = i := by omega
      subst hj'
      rw [List.getElem?_eq_getElem hi', hk] at hjt
      cases hjt
      exact ⟨rfl, rfl⟩
    -- the token itself
    refine ⟨fun σ' H' => σ' = σ' ∧ (∃ v6', σ' = [some (.ref rl), some (.ref sl), some (.ref fl), some (.int (0 + (i : Int))), some (.ref t), some (.bl (opened ex k s').2), v6']) ∧ Same H H' ∧ ∃ s2 : LS, LW H' sl fl s2 ∧ s2.2 ++ [k] = (meet k (pre ex last k s')).2 ∧ (i + 1 < ts.length → (s2.1, s2.2 ++ [k]) = meet k (pre ex last k s')) ∧ s2.2.length ≤ 2000, ?_, ?_⟩
    · refine ⟨_, rfl, t, _, 0, _, rfl, rfl, SqT.of htt3, rfl, rfl, _, rfl, ?_⟩
      by_cases hend : k.1 = "end"
      · rw [decide_eq_true (show V.str k.1 = V.str "end" by rw [hend])]
        have ep : pre ex last k s' = ([], endAll k (opened ex k s').1.1 (opened ex k s').1.2) := if_pos hend
        have hil := hlast hend
        obtain ⟨ls, h1, h2, h3, h4⟩ := id A3.ex
        have hxl : ((opened ex k s').1.1.reverse.map cv).length = (opened ex k s').1.1.length := by rw [List.length_map, List.length_reverse]
        refine iteT ⟨_, rfl, sl, _, rfl, .inl ⟨SqL.of h1, RT.for_Itv (K := K) (fun i' σ' H' => (∃ v6', σ' = [some (.ref rl), some (.ref sl), some (.ref fl), some (.int (0 + (i : Int))), some (.ref t), some (.bl (opened ex k s').2), v6']) ∧ Same H H' ∧ ∃ out, LW H' sl fl ((opened ex k s').1.1, out) ∧ endAll k ((opened ex k s').1.1.drop i') out = endAll k (opened ex k s').1.1 (opened ex k s').1.2 ∧ out.length ≤ 722 + i')
          ⟨⟨_, rfl⟩, s3, (opened ex k s').1.2, A3, rfl, by omega⟩ (by rintro i' σ' H' ⟨_, _, out, A, _⟩; obtain ⟨_, g, _⟩ := A.ex; exact SqL.of g) ?_ ?_⟩⟩
        · rintro i' x σ' H' hi2 hx ⟨⟨v6', rfl⟩, s4, out, A4, e4, l4⟩
          have hi3 : i' < (opened ex k s').1.1.length := by omega
          rw [crev_at hi3] at hx
          cases hx
          have ed2 := List.drop_eq_getElem_cons hi3
          obtain ⟨tt, ty, kt⟩ := isiI (K := K) (H := H') (opened ex k s').1.1[i']
          refine ⟨_, rfl, _, .ty "int", tt, .type "int", _, rfl, .ty _, ty, kt, _, rfl, ?_⟩
          cases hc : (opened ex k s').1.1[i'] with
          | block y =>
            rw [ed2, hc, endAll_block] at e4
            obtain ⟨ls4, j1, j2, j3, j4⟩ := id A4.ex
            refine iteT ⟨_, rfl, .inl ⟨rfl, _, SqL.of j2⟩, _, rfl, t, "}", k, rfl, s4 _ _ ht2, fun p hp => ?_⟩
            obtain ⟨xs, f1, f2, A5, k5⟩ := A4.sign (sg "}" k) (by show out.length ≤ 5000; omega) hp
            refine ⟨fl, xs, _, rfl, rfl, f1, f2, ⟨_, rfl⟩, same_keep2 s4 hsl hfl0 k5, _, A5, e4, ?_⟩
            rw [List.length_append]
            show out.length + 1 ≤ 722 + (i' + 1)
            omega
          | marker y =>
            rw [ed2, hc, endAll_marker] at e4
            exact iteF ⟨⟨_, rfl⟩, s4, out, A4, e4, by omega⟩
        · rintro σ' H' ⟨⟨v6', rfl⟩, s4, out, A4, e4, l4⟩
          rw [hxl, List.drop_length] at e4
          rw [hxl] at l4
          have e4' : out = endAll k (opened ex k s').1.1 (opened ex k s').1.2 := e4
          refine ⟨rfl, ⟨_, rfl⟩, s4, _, A4, ?_, fun h => by omega, by show out.length ≤ 2000; omega⟩
          rw [ep, meet_end (hgt.en hend), ← e4']
      · rw [decide_eq_false (fun z => hend (V.str.inj z) : ¬ V.str k.1 = V.str "end")]
        refine iteF ?_
        -- the first of a row
        refine ⟨fun σ' H' => σ' = [some (.ref rl), some (.ref sl), some (.ref fl), some (.int (0 + (i : Int))), some (.ref t), some (.bl (opened ex k s').2), v6] ∧ LW H' sl fl (pre ex last k s') ∧ Same H H', ?_, ?_⟩
        · refine ⟨_, rfl, _, rfl, ?_⟩
          cases ho : (opened ex k s').2 with
          | true =>
            have ep : pre ex last k s' = (opened ex k s').1 := by
              unfold pre
              rw [if_neg hend, if_neg (fun z => by rw [ho] at z; exact Bool.noConfusion z.2)]
            exact iteF (iteF ⟨rfl, A3.of_eq ep.symm, s3⟩)
          | false =>
            have epf : k.2.2.1 ≠ last → pre ex last k s' = firstOf k (opened ex k s').1.1 (opened ex k s').1.2 := fun hne => by
              unfold pre
              rw [if_neg hend, if_pos ⟨hne, ho⟩]
            refine iteT ⟨_, rfl, rfl, _, rfl, ?_⟩
            cases i with
            | zero =>
              obtain ⟨_, hl0⟩ := hi0 rfl
              have hne : k.2.2.1 ≠ last := by rw [hl0]; have := hgt.row; omega
              exact iteT (iteT ⟨_, rfl, _, rfl, _, rfl, sl, fl, t, _, k, rfl, A3, htt3, by show (opened ex k s').1.1.length + (opened ex k s').1.2.length ≤ 4000; omega, fun H4 A4 k4 => ⟨rfl, A4.of_eq (epf hne).symm, same_keep2 s3 hsl hfl0 k4⟩⟩)
            | succ j =>
              obtain ⟨a, t', ha, htj, hat, gt'⟩ := before j rfl
              obtain ⟨_, hl0⟩ := hij j t' rfl htj
              have hle := hrows j t' rfl htj
              have hat3 := s3 _ _ (show H a = some (.tup (tkV t')) by
                obtain ⟨a2, ha1, ha2⟩ := htl.get htj
                rw [ha] at ha1
                cases ha1
                exact ha2)
              rw [decide_eq_false (fun z => by have := V.int.inj z; omega : ¬ V.int (0 + ((j + 1 : Nat) : Int)) = V.int 0)]
              have hat1 : atI (tl.map V.ref) (0 + ((j + 1 : Nat) : Int) - 1) = some (.ref a) := by
                rw [show (0 : Int) + ((j + 1 : Nat) : Int) - 1 = 0 + (j : Int) by omega]
                exact ref_at ha
              refine iteF ⟨_, rfl, _, rfl, _, _, rfl, rfl, rl, _, _, _, rfl, rfl, s3.seq hrl, hat1, a, _, 2, _, rfl, rfl, SqT.of hat3, rfl, _, rfl, t, _, 2, _, rfl, rfl, SqT.of htt3, rfl, _, _, rfl, rfl, _, rfl, ?_⟩
              by_cases hlt : t'.2.2.1 < k.2.2.1
              · rw [decide_eq_true hlt]
                have hne : k.2.2.1 ≠ last := by rw [hl0]; omega
                exact iteT ⟨_, rfl, _, rfl, _, rfl, sl, fl, t, _, k, rfl, A3, htt3, by show (opened ex k s').1.1.length + (opened ex k s').1.2.length ≤ 4000; omega, fun H4 A4 k4 => ⟨rfl, A4.of_eq (epf hne).symm, same_keep2 s3 hsl hfl0 k4⟩⟩
              · rw [decide_eq_false hlt]
                have ep : pre ex last k s' = (opened ex k s').1 := by
                  unfold pre
                  rw [if_neg hend, if_neg (fun z => z.1 (by rw [hl0]; omega))]
                exact iteF ⟨rfl, A3.of_eq ep.symm, s3⟩
        rintro σ4 H4 ⟨rfl, A4, s4⟩
        have hp9 : (pre ex last k s').1.length + (pre ex last k s').2.length ≤ sz s' + 3 := hpsz
        refine ⟨_, rfl, _, rfl, _, rfl, sl, fl, t, _, k, rfl, A4, s4 _ _ ht2, by show (pre ex last k s').1.length + (pre ex last k s').2.length ≤ 3000; omega, fun H5 A5 k5 => ?_⟩
        refine ⟨rfl, ⟨_, rfl⟩, same_keep2 s4 hsl hfl0 k5, _, A5, rfl, fun _ => rfl, ?_⟩
        have h9 : (meet k (pre ex last k s')).1.length + (meet k (pre ex last k s')).2.length ≤ sz (pre ex last k s') + 3 := hmsz
        have h10 : (meet k (pre ex last k s')).2.length = (effOpen k (effClose k (effComma k (pre ex last k s')))).2.length + 1 := by
          show (_ ++ [k]).length = _
          rw [List.length_append]
          rfl
        omega
    rintro σ4 H4 ⟨_, ⟨v6', rfl⟩, s4, s5, A4, e5, f5, l5⟩
    obtain ⟨ls, j1, j2, j3, j4⟩ := id A4.ex
    refine ⟨_, rfl, .inl ⟨rfl, _, SqL.of j2⟩, _, rfl, fl, _, _, rfl, rfl, j2, szl (by rw [List.length_map, j3.len]; omega), ?_⟩
    have A5 := LW.add j1 j2 j3 j4 (s4 _ _ ht2)
    refine ⟨meet k (pre ex last k s'), _, expects k, k.2.2.1, _, _, _, _, rfl, A5, e5, fun h => f5 h, same_keep2 s4 hsl hfl0 (keep_a _), nexte, by omega, fun h => by omega, nextij⟩
  · rintro σ H2 ⟨s, s', ex, last, v3, v4, v5, v6, rfl, A2, es, _, s2, e, hsz, _, _⟩
    rw [Int.toNat_natCast, List.length_map, hll, List.drop_length] at e
    obtain ⟨ls, h1, h2, h3, h4⟩ := id A2.ex
    refine ⟨_, rfl, ?_⟩
    refine q fl ls H2 hfl0 s2 h2 ?_
    have el : lay ts = s'.2 := by
      show (run true 0 ts ([], [])).2 = s'.2
      rw [← e, es]
      rfl
    rw [el]
    exact h3
end
end Toy

set_option Elab.async false
set_option maxRecDepth 100000
set_option maxHeartbeats 4000000
/-! Part I: what layout hands back is data; the drawn row; the law. -/
namespace Toy
open PySem L2
open PyProof.Rows (envOfC)
def TkOk (t : Tk) : Prop := PyData.strOk t.1 = true ∧ PyData.strOk t.2.1 = true
def OkL (l : List Tk) : Prop := ∀ t ∈ l, TkOk t
theorem OkL.snoc {l : List Tk} {t : Tk} (h : OkL l) (ht : TkOk t) : OkL (l ++ [t]) := fun u hu => by
  rcases List.mem_append.mp hu with hu | hu
  · exact h u hu
  · rw [List.mem_singleton.mp hu]; exact ht
theorem sg_ok {z : Str} (h : PyData.strOk z = true) (t : Tk) : TkOk (sg z t) := ⟨(show PyData.strOk ("sign" : Str) = true by decide +kernel), h⟩
theorem okz : PyData.strOk ("{" : Str) = true ∧ PyData.strOk ("}" : Str) = true ∧ PyData.strOk (";" : Str) = true := by decide +kernel
theorem closeTop_ok (t : Tk) : ∀ (st : List Ctx) (out : List Tk), OkL out → OkL (closeTop t st out).2
  | [], _, h => h
  | .marker _ :: _, _, h => h
  | .block _ :: st, out, h => closeTop_ok t st (out ++ [sg "}" t]) (h.snoc (sg_ok okz.2.1 t))
theorem firstOf_ok (t : Tk) : ∀ (st : List Ctx) (out : List Tk), OkL out → OkL (firstOf t st out).2
  | [], _, h => h
  | .marker _ :: _, _, h => h
  | .block c :: st, out, h => by
    rw [firstOf_block]
    split
    · exact firstOf_ok t st (out ++ [sg "}" t]) (h.snoc (sg_ok okz.2.1 t))
    · split
      · exact h.snoc (sg_ok okz.2.2 t)
      · exact h
theorem endAll_ok (t : Tk) : ∀ (st : List Ctx) (out : List Tk), OkL out → OkL (endAll t st out)
  | [], _, h => h
  | .marker _ :: st, out, h => endAll_ok t st out h
  | .block _ :: st, out, h => endAll_ok t st (out ++ [sg "}" t]) (h.snoc (sg_ok okz.2.1 t))
theorem opened_ok (ex : Bool) (t : Tk) {s : LS} (h : OkL s.2) : OkL (opened ex t s).1.2 := by
  unfold opened opens
  split
  · split
    · exact h.snoc (sg_ok okz.1 t)
    · have e : s.2 ++ [sg "{" t, sg "}" t] = (s.2 ++ [sg "{" t]) ++ [sg "}" t] := by simp
      show OkL (s.2 ++ [sg "{" t, sg "}" t])
      rw [e]
      exact (h.snoc (sg_ok okz.1 t)).snoc (sg_ok okz.2.1 t)
  · exact h
theorem pre_ok (ex : Bool) (last : Int) (t : Tk) {s : LS} (h : OkL s.2) : OkL (pre ex last t s).2 := by
  have h1 := opened_ok ex t h
  unfold pre
  split
  · exact endAll_ok t _ _ h1
  · split
    · exact firstOf_ok t _ _ h1
    · exact h1
theorem upTo_ok (ms : List Str) (t : Tk) {s : LS} (h : OkL s.2) : OkL (upTo ms t s).1.2 := by
  unfold upTo
  split
  · split
    · exact closeTop_ok t _ _ h
    · exact h
  · exact h
theorem meet_ok {t : Tk} (ht : TkOk t) {s : LS} (h : OkL s.2) : OkL (meet t s).2 := by
  have h1 : OkL (effComma t s).2 := by
    unfold effComma
    split
    · exact upTo_ok _ t h
    · exact h
  have h2 : OkL (effClose t (effComma t s)).2 := by
    unfold effClose
    split
    · rename_i m em
      show OkL (if (upTo [m] t (effComma t s)).2 = true then ((if t.2.1 = "then" then Ctx.marker "then" :: (upTo [m] t (effComma t s)).1.1.tail else (upTo [m] t (effComma t s)).1.1.tail, (upTo [m] t (effComma t s)).1.2) : LS) else (upTo [m] t (effComma t s)).1).2
      split
      · exact upTo_ok _ t h1
      · exact upTo_ok _ t h1
    · exact h1
  have h3 : OkL (effOpen t (effClose t (effComma t s))).2 := by
    unfold effOpen
    split
    · exact h2
    · exact h2
  exact h3.snoc ht
theorem run_ok : ∀ (ts : List Tk) (ex : Bool) (last : Int) (s : LS), OkL ts → OkL s.2 → OkL (run ex last ts s).2
  | [], _, _, _, _, h => h
  | t :: ts, ex, last, s, ht, h => run_ok ts (expects t) t.2.2.1 (step ex last t s) (fun u hu => ht u (List.mem_cons_of_mem _ hu)) (meet_ok (ht t (List.mem_cons_self ..)) (pre_ok ex last t h))
theorem run_sz : ∀ (ts : List Tk) (ex : Bool) (last : Int) (s : LS), sz (run ex last ts s) ≤ sz s + 6 * ts.length
  | [], _, _, s => by show sz s ≤ _; omega
  | t :: ts, ex, last, s => by
    have h1 := run_sz ts (expects t) t.2.2.1 (step ex last t s)
    have h2 := pre_sz ex last t s
    have h3 := meet_sz t (pre ex last t s)
    have h4 : sz (step ex last t s) = sz (meet t (pre ex last t s)) := rfl
    show sz (run (expects t) t.2.2.1 ts (step ex last t s)) ≤ sz s + 6 * (ts.length + 1)
    omega
theorem lay_ok {ts : List Tk} (h : OkL ts) : OkL (lay ts) := run_ok ts true 0 ([], []) h (fun u hu => by cases hu)
theorem lay_len (ts : List Tk) : (lay ts).length ≤ 6 * ts.length := by
  have h := run_sz ts true 0 ([], [])
  have h' : (run true 0 ts ([], [])).1.length + (run true 0 ts ([], [])).2.length ≤ 0 + 0 + 6 * ts.length := h
  show (run true 0 ts ([], [])).2.length ≤ _
  omega
def tkD (t : Tk) : PyData := .tuple [.str t.1, .str t.2.1, .int t.2.2.1, .int t.2.2.2]
theorem Toks.dp {K : PySem.W.Frag} {H : Hp} {l : List Addr} {ts : List Tk} (h : Toks H l ts) : DpAll K H (l.map V.ref) (ts.map tkD) := by
  induction h with
  | nil => exact .nil
  | cons h _ ih => exact .cons (.tup (SqT.of h) (.cons (.str _) (.cons (.str _) (.cons (.int _) (.cons (.int _) .nil))))) ih
theorem tkD_lay : ∀ ts : List Tk, (∀ t ∈ ts, TkOk t) → PyData.canLayAll0 (ts.map tkD) = true
  | [], _ => by simp [PyData.canLayAll0]
  | t :: ts, ok => by
    have h : (tkD t).canLay0 = true := by simp [tkD, PyData.canLay0, PyData.canLayAll0, (ok t (List.mem_cons_self ..)).1, (ok t (List.mem_cons_self ..)).2]
    simp [PyData.canLayAll0, h, tkD_lay ts fun u hu => ok u (List.mem_cons_of_mem _ hu)]
theorem tkD_depth : ∀ ts : List Tk, PyData.depthAll (ts.map tkD) ≤ 1
  | [] => by simp [PyData.depthAll]
  | t :: ts => by
    have h1 := tkD_depth ts
    have h2 : (tkD t).depth = 1 := by simp [tkD, PyData.depth, PyData.depthAll]
    simp only [List.map_cons, PyData.depthAll]
    omega
theorem tkD_shaped (ts : List Tk) (ok : ∀ t ∈ ts, TkOk t) : SeqAt.shaped (.list (ts.map tkD)) = true := by
  have h1 := tkD_depth ts
  have h2 : PyData.depth (.list (ts.map tkD)) ≤ 64 := by
    simp only [PyData.depth]
    omega
  show (PyData.canLay0 (.list (ts.map tkD)) && decide (PyData.depth (.list (ts.map tkD)) ≤ 64)) = true
  rw [Bool.and_eq_true]
  exact ⟨by simp only [PyData.canLay0]; exact tkD_lay ts ok, decide_eq_true h2⟩
theorem eqv_self {d : PyData} (h : SeqAt.shaped d = true) : PyData.eqv d d = true := SeqAt.eqv_refl d (SeqAt.canLay_of_shaped h)
theorem at_str {zs : List Str} {i : Int} (h0 : 0 ≤ i) (h1 : i < (zs.length : Int)) : ∃ z ∈ zs, atI (zs.map V.str) i = some (.str z) := by
  have hk : i.toNat < zs.length := by omega
  refine ⟨zs[i.toNat], List.getElem_mem _, ?_⟩
  have q : atI (zs.map V.str) ((i.toNat : Nat) : Int) = some (.str zs[i.toNat]) := atI_nat (by rw [List.getElem?_map, List.getElem?_eq_getElem hk] <;> rfl)
  rw [show ((i.toNat : Nat) : Int) = i by omega] at q
  exact q
theorem Keep.trans {p : Addr} {H H1 H2 : Hp} (a : Keep p H H1) (b : Keep p H1 H2) : Keep p H H2 := fun c o hc e => b c o hc (a c o hc e)
theorem keep_of {p : Addr} {H H' : Hp} (s : Same H H') : Keep p H H' := fun b o _ h => s b o h
/-- the state of the drawing: the reader, the words, the tokens so far -/
structure RS (p r wl fl : Addr) (H : Hp) (tl : List Addr) (ts : List Tk) : Prop where
  d : DrawsAt H p r
  wd : H wl = some (.lst (WORDS.map V.str))
  fd : H fl = some (.lst (tl.map V.ref))
  tk : Toks H tl ts
  ne : r ≠ fl ∧ wl ≠ fl
theorem DrawsAt.ne_tup {H : Hp} {p r a : Addr} {xs : List V} (d : DrawsAt H p r) (h : H a = some (.tup xs)) : a ≠ p := by
  obtain ⟨_, _, _, h1, _⟩ := d
  exact ne_of h h1 (by intro z; cases z)
theorem DrawsAt.ne_lst {H : Hp} {p r a : Addr} {xs : List V} (d : DrawsAt H p r) (h : H a = some (.lst xs)) : a ≠ p := by
  obtain ⟨_, _, _, h1, _⟩ := d
  exact ne_of h h1 (by intro z; cases z)
theorem RS.keep {p r wl fl : Addr} {H H' : Hp} {tl : List Addr} {ts : List Tk} (R : RS p r wl fl H tl ts) (k : Keep p H H') (d : DrawsAt H' p r) : RS p r wl fl H' tl ts :=
  ⟨d, k _ _ (R.d.ne_lst R.wd) R.wd, k _ _ (R.d.ne_lst R.fd) R.fd, R.tk.keep fun _ _ h => k _ _ (R.d.ne_tup h) h, R.ne⟩
theorem RS.same {p r wl fl : Addr} {H H' : Hp} {tl : List Addr} {ts : List Tk} (R : RS p r wl fl H tl ts) (s : Same H H') : RS p r wl fl H' tl ts :=
  ⟨R.d.same s, s _ _ R.wd, s _ _ R.fd, R.tk.keep fun _ _ h => s _ _ h, R.ne⟩
theorem RS.snoc {p r wl fl t : Addr} {H : Hp} {tl : List Addr} {ts : List Tk} {k : Tk} (R : RS p r wl fl H tl ts) (ht : H t = some (.tup (tkV k))) : RS p r wl fl (upd H fl (.lst (tl.map V.ref ++ [.ref t]))) (tl ++ [t]) (ts ++ [k]) := by
  have npf : fl ≠ p := R.d.ne_lst R.fd
  have ntf : t ≠ fl := (ne_of R.fd ht (by intro z; cases z)).symm
  refine ⟨?_, ?_, ?_, ?_, R.ne⟩
  · obtain ⟨row, i, z, h1, h2⟩ := R.d
    exact ⟨row, i, z, by rw [upd_ne npf.symm]; exact h1, by rw [upd_ne R.ne.1]; exact h2⟩
  · rw [upd_ne R.ne.2]
    exact R.wd
  · rw [upd_same, List.map_append]
    rfl
  · exact (R.tk.keep (tup_upd R.fd)).snoc (by rw [upd_ne ntf]; exact ht)
def kindOf (z : Str) : Str := if z ∈ (["f", "x"] : List Str) then "name" else if z.length = 1 then "sign" else "keyword"
theorem words_ok : ∀ z ∈ WORDS, (z = "{" → kindOf z = "sign") ∧ (z ∈ BK → kindOf z = "keyword") ∧ kindOf z ≠ "end" ∧ PyData.strOk (kindOf z) = true ∧ PyData.strOk z = true ∧ z.length ≤ 10 := by decide +kernel
section
variable {P : Program} {w : World} {K : PySem.W.Frag} {mg : Str → Option Value} {base : Heap} {C aB aO aC : Addr} {es : Array DictEntry} {n : Nat}
abbrev sRow : Stmt := topS 11
theorem scRow : FnScope ["draws", "many", "words", "found", "row", "column", "k", "text", "kind"] ["draws", "many"] (defScope sRow) := ⟨rfl, rfl, rfl, by decide +kernel, rfl, by decide +kernel, by decide +kernel⟩
def spRow : Sp := fun vs H Q _ => ∃ (p r : Addr) (m : Int), vs = [.ref p, .int m] ∧ DrawsAt H p r ∧ 0 ≤ m ∧ m ≤ 100 ∧
  ∀ (rl : Addr) (tl : List Addr) (ts : List Tk) (H' : Hp), H rl = none → Keep p H H' → DrawsAt H' p r → H' rl = some (.lst (tl.map V.ref)) → Toks H' tl ts → GoodRow ts → ts.length ≤ 120 → Q (.ref rl) H'
theorem c_row {f : Addr} {fd : FuncData} (T : Txt K w mg C aB aO aC es n) (c_law_pick : C8.Cal P w K mg base 2 "_law_pick" spPick []) (F : Fun K "_law_row" "_law_row" sRow f fd) (b : Binds K fd ["draws", "many"] []) (hm : mg "_law_row" = some (.ref f)) : C8.Cal P w K mg base 3 "_law_row" spRow [] := by
  refine cal_of F hm b scRow (fun vs H Q E h => ?_) (fun cdv A outer s H vs Q E hr h => ?_)
  · obtain ⟨p, r, m, rfl, _⟩ := h
    rfl
  obtain ⟨p, r, m, rfl, D, hm0, hm1, q⟩ := h
  refine ⟨_, (pss_cons (ps_set (i := 2) scRow.nd rfl (Or.inl rfl) (pe_lst (pa_strs (zs := ["where", "let", "of", "case", "if", "then", "else", "in", "(", ")", "[", "]", "{", "}", ",", "f", "x", "="]) rfl)))
    (pss_cons (ps_set (i := 3) scRow.nd rfl (Or.inl rfl) (pe_lst pa_nil))
    (pss_cons (ps_set (i := 4) scRow.nd rfl (Or.inl rfl) pe_int)
    (pss_cons (ps_set (i := 5) scRow.nd rfl (Or.inl rfl) pe_int)
    (pss_cons (ps_for PassesOwn.never rfl (pi_range1 rfl T.zrange (pa_cons (pv 1) pa_nil)) (pg_name (i := 6) scRow.nd rfl (Or.inl rfl))
      (C8.pss_cut (ps_if (pt_cmpR op_eq (C8.pe_c c_law_pick hr (by decide) rfl (pa_cons (pv 0) (pa_cons pe_int pa_nil))) pe_int (nomark _))
      (pss_cons (ps_set (i := 4) scRow.nd rfl (Or.inl rfl) (pe_op op_add (pe_op op_add (pv 4) pe_int) (C8.pe_c c_law_pick hr (by decide) rfl (pa_cons (pv 0) (pa_cons pe_int pa_nil)))))
    (pss_one (ps_set (i := 5) scRow.nd rfl (Or.inl rfl) (pe_op op_add pe_int (C8.pe_c c_law_pick hr (by decide) rfl (pa_cons (pv 0) (pa_cons pe_int pa_nil)))))))
      pss_nil)
    (pss_cons (ps_set (i := 7) scRow.nd rfl (Or.inl rfl) (pe_ix ix_list (pv 2) (C8.pe_c c_law_pick hr (by decide) rfl (pa_cons (pv 0) (pa_cons pe_int pa_nil))) (fun _ _ => rfl)))
    (pss_cons (ps_set (i := 8) scRow.nd rfl (Or.inl rfl) pe_str)
    (C8.pss_cut (ps_if (pt_cmpR op_in_seq (pv 7) (pe_tup (pa_cons pe_str (pa_cons pe_str pa_nil))) rfl)
      (pss_one (ps_set (i := 8) scRow.nd rfl (Or.inl rfl) pe_str))
      (pss_one (ps_if (pt_cmpR op_eq (pe_callB call_len_str rfl T.zlen PySem.boot_len (pa_cons (pv 7) pa_nil)) pe_int (nomark _))
      (pss_one (ps_set (i := 8) scRow.nd rfl (Or.inl rfl) pe_str))
      pss_nil)))
    (pss_cons (ps_expr (pe_bm PySem.F.plainAttrs_list PySem.F.slot_list_append PySem.F.type_list_append mt_append (pv 3) (pa_cons (pe_tup (pa_cons (pv 8) (pa_cons (pv 7) (pa_cons (pv 4) (pa_cons (pv 5) pa_nil))))) pa_nil)))
    (pss_one (ps_set (i := 5) scRow.nd rfl (Or.inl rfl) (pe_op op_add (pe_op op_add (pe_op op_add (pv 5) (pe_callB call_len_str rfl T.zlen PySem.boot_len (pa_cons (pv 7) pa_nil))) pe_int) (C8.pe_c c_law_pick hr (by decide) rfl (pa_cons (pv 0) (pa_cons pe_int pa_nil))))))))))))
    (pss_cons (ps_expr (pe_bm PySem.F.plainAttrs_list PySem.F.slot_list_append PySem.F.type_list_append mt_append (pv 3) (pa_cons (pe_tup (pa_cons pe_str (pa_cons pe_str (pa_cons (pe_op op_add (pv 4) (C8.pe_c c_law_pick hr (by decide) rfl (pa_cons (pv 0) (pa_cons pe_int pa_nil)))) (pa_cons (pv 5) pa_nil))))) pa_nil)))
    (pss_one (ps_ret (pv 3))))))))), ?_⟩
  refine ⟨(by show 18 ≤ sizeLine; decide), fun wl hwl => ⟨(by show 0 ≤ sizeLine; decide), fun fl hfl => ?_⟩⟩
  have s1 : Same H (upd (upd H wl (.lst (WORDS.map V.str))) fl (.lst [])) := (same_new hwl _).trans (same_new hfl _)
  have nwf : wl ≠ fl := by
    intro z
    rw [← z, upd_same] at hfl
    cases hfl
  have hfl0 : H fl = none := (same_new hwl _).free hfl
  have nrf : r ≠ fl := by
    obtain ⟨_, _, _, _, h2⟩ := D
    exact ne_of_none h2 hfl0
  have R1 : RS p r wl fl (upd (upd H wl (.lst (WORDS.map V.str))) fl (.lst [])) [] [] := ⟨D.same s1, by rw [upd_ne nwf, upd_same], upd_same, .nil, nrf, nwf⟩
  refine ⟨_, rfl, m, rfl, by omega, by omega, for_range
    (fun k σ H2 => ∃ (rr cc : Int) (tl : List Addr) (ts : List Tk) (v6 v7 v8 : Option V), σ = [some (.ref p), some (.int m), some (.ref wl), some (.ref fl), some (.int rr), some (.int cc), v6, v7, v8] ∧ RS p r wl fl H2 tl ts ∧ Keep p H H2 ∧ (∀ t ∈ ts, Good t ∧ t.1 ≠ "end" ∧ t.2.2.1 ≤ rr) ∧ (ts.Pairwise fun a b => a.2.2.1 ≤ b.2.2.1) ∧ 0 < rr ∧ 0 < cc ∧ ts.length = k)
    ⟨1, 1, [], [], none, none, none, rfl, R1, keep_of s1, (fun t h => by cases h), .nil, by decide, by decide, rfl⟩ ?_ ?_⟩
  · rintro k σ H2 hk ⟨rr, cc, tl, ts, v6, v7, v8, rfl, R2, k2, hg, hp, hrr, hcc, hl⟩
    have hk' : k < 100 := by omega
    -- a new row
    refine ⟨fun σ' H' => ∃ (rr cc : Int), σ' = [some (.ref p), some (.int m), some (.ref wl), some (.ref fl), some (.int rr), some (.int cc), some (.int (0 + (k : Int))), v7, v8] ∧ RS p r wl fl H' tl ts ∧ Keep p H H' ∧ (∀ t ∈ ts, Good t ∧ t.1 ≠ "end" ∧ t.2.2.1 ≤ rr) ∧ 0 < rr ∧ 0 < cc, ?_, ?_⟩
    · refine ⟨_, rfl, p, r, 3, rfl, by decide, R2.d, fun n1 H3 a0 a1 k3 d3 => ⟨rfl, _, rfl, ?_⟩⟩
      have R3 := R2.keep k3 d3
      refine ite2 (fun _ => ?_) (fun _ => ?_)
      · refine ⟨_, rfl, _, _, rfl, rfl, _, rfl, p, r, 2, rfl, by decide, R3.d, fun n2 H4 b0 b1 k4 d4 => ⟨_, _, rfl, rfl, ?_⟩⟩
        have R4 := R3.keep k4 d4
        refine ⟨_, rfl, p, r, 14, rfl, by decide, R4.d, fun n3 H5 c0 c1 k5 d5 => ⟨_, _, rfl, rfl, ?_⟩⟩
        refine ⟨rr + 1 + n2, 1 + n3, rfl, R4.keep k5 d5, ((k2.trans k3).trans k4).trans k5, fun t ht => ⟨(hg t ht).1, (hg t ht).2.1, by have := (hg t ht).2.2; omega⟩, by omega, by omega⟩
      · exact ⟨rr, cc, rfl, R3, k2.trans k3, hg, hrr, hcc⟩
    rintro σ3 H3 ⟨rr, cc, rfl, R3, k3, hg, hrr, hcc⟩
    -- text = words[..]
    refine ⟨_, rfl, _, rfl, p, r, 18, rfl, by decide, R3.d, fun n1 H4 a0 a1 k4 d4 => ?_⟩
    have R4 := R3.keep k4 d4
    have k34 := k3.trans k4
    obtain ⟨z, hz, ez⟩ := at_str (zs := WORDS) a0 a1
    obtain ⟨w1, w2, w3, w4, w5, w6⟩ := words_ok z hz
    refine ⟨wl, _, _, _, rfl, rfl, SqL.of R4.wd, ez, ?_⟩
    -- its kind
    refine ⟨fun σ' H' => σ' = [some (.ref p), some (.int m), some (.ref wl), some (.ref fl), some (.int rr), some (.int cc), some (.int (0 + (k : Int))), some (.str z), some (.str (kindOf z))] ∧ Same H4 H', ?_, ?_⟩
    · refine ⟨_, rfl, (by show 2 ≤ sizeLine; decide), fun tp htp => ?_⟩
      refine ⟨tp, _, rfl, .inr (SqT.of upd_same), rfl, strs_flat ["f", "x"], _, rfl, ?_⟩
      show if inV (.str z) ((["f", "x"] : List Str).map V.str) = true then _ else _
      rw [inV_strs]
      unfold kindOf
      by_cases hf : z ∈ (["f", "x"] : List Str)
      · rw [decide_eq_true hf, if_pos hf]
        exact iteT ⟨rfl, same_new htp _⟩
      · rw [decide_eq_false hf, if_neg hf]
        refine iteF ⟨_, rfl, z, rfl, Nat.le_of_lt (szl (by omega)), rfl, _, rfl, ?_⟩
        by_cases h1 : z.length = 1
        · rw [decide_eq_true (show V.int ((z.length : Nat) : Int) = V.int 1 by rw [h1]; rfl), if_pos h1]
          exact iteT ⟨rfl, same_new htp _⟩
        · rw [decide_eq_false (show ¬ V.int ((z.length : Nat) : Int) = V.int 1 from fun e => h1 (by have := V.int.inj e; omega)), if_neg h1]
          exact iteF ⟨rfl, same_new htp _⟩
    rintro σ5 H5 ⟨rfl, s5⟩
    have R5 := R4.same s5
    -- found.append(..)
    refine ⟨_, rfl, .inl ⟨rfl, _, SqL.of R5.fd⟩, _, rfl, _, rfl, _, rfl, _, rfl, (by show 4 ≤ sizeLine; decide), fun t ht => ?_⟩
    have s6 := same_new ht (.tup (tkV (kindOf z, z, rr, cc)))
    have R6 := R5.same s6
    refine ⟨fl, _, _, rfl, rfl, R6.fd, szl (by rw [List.length_map, R6.tk.len]; omega), ?_⟩
    have R7 := R6.snoc (k := (kindOf z, z, rr, cc)) upd_same
    have k7 : Keep p H (upd (upd H5 t (.tup (tkV (kindOf z, z, rr, cc)))) fl (.lst (tl.map V.ref ++ [.ref t]))) := by
      intro b u hb e
      have e2 := s6 _ _ (s5 _ _ (k34 b u hb e))
      rw [upd_ne (ne_of_none e hfl0)]
      exact e2
    -- column = ..
    refine ⟨_, rfl, _, rfl, z, rfl, Nat.le_of_lt (szl (by omega)), _, _, rfl, rfl, _, _, rfl, rfl, _, rfl, p, r, 2, rfl, by decide, R7.d, fun n2 H8 b0 b1 k8 d8 => ⟨_, _, rfl, rfl, ?_⟩⟩
    have gd : Good (kindOf z, z, rr, cc) := ⟨⟨.inl hz, hcc⟩, w1, w2, fun e => absurd e w3, hrr, w4, w5⟩
    refine ⟨rr, cc + ((z.length : Nat) : Int) + 1 + n2, tl ++ [t], ts ++ [(kindOf z, z, rr, cc)], _, _, _, rfl, R7.keep k8 d8, k7.trans k8, ?_, ?_, hrr, by omega, by rw [List.length_append, hl]; rfl⟩
    · intro u hu
      rcases List.mem_append.mp hu with hu | hu
      · exact hg u hu
      · rw [List.mem_singleton.mp hu]
        exact ⟨gd, w3, Int.le_refl _⟩
    · refine List.pairwise_append.mpr ⟨hp, List.pairwise_singleton _ _, fun a ha b hb => ?_⟩
      rw [List.mem_singleton.mp hb]
      exact (hg a ha).2.2
  · rintro σ H2 ⟨rr, cc, tl, ts, v6, v7, v8, rfl, R2, k2, hg, hp, hrr, hcc, hl⟩
    have hl' : ts.length ≤ 100 := by omega
    refine ⟨_, rfl, .inl ⟨rfl, _, SqL.of R2.fd⟩, _, rfl, _, rfl, p, r, 2, rfl, by decide, R2.d, fun n1 H3 a0 a1 k3 d3 => ⟨_, _, rfl, rfl, _, rfl, (by show 4 ≤ sizeLine; decide), fun t ht => ?_⟩⟩
    have R3 := R2.keep k3 d3
    have s4 := same_new ht (.tup (tkV ("end", "", rr + n1, cc)))
    have R4 := R3.same s4
    refine ⟨fl, _, _, rfl, rfl, R4.fd, szl (by rw [List.length_map, R4.tk.len]; omega), _, rfl, ?_⟩
    have R5 := R4.snoc (k := ("end", "", rr + n1, cc)) upd_same
    have k5 : Keep p H (upd (upd H3 t (.tup (tkV ("end", "", rr + n1, cc)))) fl (.lst (tl.map V.ref ++ [.ref t]))) := by
      intro b u hb e
      have e2 := s4 _ _ (k3 b u hb (k2 b u hb e))
      rw [upd_ne (ne_of_none e hfl0)]
      exact e2
    have eend : PyData.strOk ("end" : Str) = true ∧ PyData.strOk ("" : Str) = true := by decide +kernel
    have nb : ¬ ("" : Str) = "{" ∧ ¬ ("" : Str) ∈ BK := by decide +kernel
    have ge : Good ("end", "", rr + n1, cc) := ⟨⟨.inr rfl, hcc⟩, fun e => absurd e nb.1, fun e => absurd e nb.2, fun _ => rfl, (by show 0 < rr + n1; omega), eend⟩
    refine q fl _ _ _ hfl0 k5 R5.d R5.fd R5.tk ⟨?_, ?_, ?_⟩ (by rw [List.length_append]; show ts.length + 1 ≤ 120; omega)
    · intro u hu
      rcases List.mem_append.mp hu with hu | hu
      · exact (hg u hu).1
      · rw [List.mem_singleton.mp hu]; exact ge
    · refine List.pairwise_append.mpr ⟨hp, List.pairwise_singleton _ _, fun a ha b hb => ?_⟩
      rw [List.mem_singleton.mp hb]
      have := (hg a ha).2.2
      show a.2.2.1 ≤ rr + n1
      omega
    · intro i u hu e
      rw [List.length_append]
      by_cases hi : i < ts.length
      · rw [List.getElem?_append_left hi] at hu
        exact absurd e (hg u (List.mem_of_getElem? hu)).2.1
      · obtain ⟨h9, _⟩ := List.getElem?_eq_some_iff.mp hu
        rw [List.length_append] at h9
        have h9' : i < ts.length + 1 := h9
        show i + 1 = ts.length + 1
        omega
end
end Toy

set_option Elab.async false
set_option maxRecDepth 100000
set_option maxHeartbeats 4000000
/-! Part J: the law. -/
namespace Toy
open PySem L2
open PyProof.Rows (envOfC)
def oneIn : List Tk := [("end", "", 1, 1)]
def oneOut : List Tk := [("sign", "{", 1, 1), ("sign", "}", 1, 1), ("end", "", 1, 1)]
theorem lay_one : lay oneIn = oneOut := by decide +kernel
theorem end_ok : TkOk ("end", "", 1, 1) := ⟨(show PyData.strOk ("end" : Str) = true by decide +kernel), (show PyData.strOk ("" : Str) = true by decide +kernel)⟩
section
variable {P : Program} {w : World} {K : PySem.W.Frag} {mg : Str → Option Value} {base : Heap} {C aB aO aC : Addr} {es : Array DictEntry} {n : Nat}
abbrev sLaw : Stmt := topS 20
theorem scLaw : FnScope ["script", "draws", "row", "passed", "due", "actual", "again"] ["script"] (defScope sLaw) := ⟨rfl, rfl, rfl, by decide +kernel, rfl, by decide +kernel, by decide +kernel⟩
def spLaw (K : PySem.W.Frag) : Sp := fun vs H Q _ => ∃ (a : Addr) (ns : List Int), vs = [.ref a] ∧ SqL K H a (ns.map V.int) ∧ ns.length ≤ 63 ∧ ∀ H', Q (.bl true) H'
theorem c_law {f : Addr} {fd : FuncData} (T : Txt K w mg C aB aO aC es n) (c_law_stream : C8.Cal P w K mg base 2 "_law_stream" (spStream K) []) (c_law_row : C8.Cal P w K mg base 3 "_law_row" spRow []) (c_law_layout : C8.Cal P w K mg base 4 "_law_layout" (spLLayout K) []) (clayout : C8.Cal P w K mg base 6 "layout" (spLayout K) [])
    (F : Fun K "law" "law" sLaw f fd) : FnOk P w K mg base CX0 7 f fd ["script"] (spLaw K) := by
  refine F.ok scLaw (fun vs H Q E h => ?_) (fun cdv A outer s H vs Q E hr h => ?_)
  · obtain ⟨a, ns, rfl, _⟩ := h
    rfl
  obtain ⟨a, ns, rfl, hS, h63, q⟩ := h
  have hu := hu_of hr
  have hu64 := hr.units
  refine ⟨_, (pss_cons (ps_set (i := 1) scLaw.nd rfl (Or.inl rfl) (C8.pe_c c_law_stream hr (by decide) rfl (pa_cons (pv 0) (pa_cons pe_int pa_nil))))
    (pss_cons (ps_set (i := 2) scLaw.nd rfl (Or.inl rfl) (C8.pe_c c_law_row hr (by decide) rfl (pa_cons (pv 1) (pa_cons (pe_callB (call_min2 rfl) rfl T.zmin boot_min (pa_cons pe_int (pa_cons (pe_op op_fdiv (pe_callB call_len_seq rfl T.zlen PySem.boot_len (pa_cons (pe_dget hu (pv 1) pe_str (fun _ _ => rfl)) pa_nil)) pe_int) pa_nil))) pa_nil))))
    (pss_cons (ps_set (i := 3) scLaw.nd rfl (Or.inl rfl) (pe_callTy call_list_of rfl T.zlist boot_list (pa_cons (pv 2) pa_nil)))
    (pss_cons (ps_set (i := 4) scLaw.nd rfl (Or.inl rfl) (C8.pe_c c_law_layout hr (by decide) rfl (pa_cons (pv 2) pa_nil)))
    (pss_cons (ps_set (i := 5) scLaw.nd rfl (Or.inl rfl) (C8.pe_c clayout hr (by decide) rfl (pa_cons (pv 3) pa_nil)))
    (pss_cons (ps_if (PW.pt (pw_or (pt_not (pt_val (pe_callB call_isi rfl T.zisinstance boot_isinstance (pa_cons (pv 5) (pa_cons (pe_bltn (v := .ty "list") rfl T.zlist boot_list rfl) pa_nil))))) (pw_or (pt_cmpR (op_neD hu64) (pv 5) (pv 4) (nomark _)) (pw_or1 (pt_cmpR (op_neD hu64) (pv 3) (pv 2) (nomark _))))))
      (pss_one (ps_ret pe_bl))
      pss_nil)
    (pss_cons (ps_set (i := 6) scLaw.nd rfl (Or.inl rfl) (C8.pe_c clayout hr (by decide) rfl (pa_cons (pv 3) pa_nil)))
    (pss_cons (ps_expr (pe_bm PySem.F.plainAttrs_list PySem.F.slot_list_append PySem.F.type_list_append mt_append (pv 5) (pa_cons pe_str pa_nil)))
    (pss_one (ps_ret (pe_and (pe_cmpR (op_eqD hu64) (pv 6) (pv 4) (nomark _)) (pe_one (pe_cmpR (op_eqD hu64) (C8.pe_c clayout hr (by decide) rfl (pa_cons (pe_lst (pa_cons (pe_tup (pa_cons pe_str (pa_cons pe_str (pa_cons pe_int (pa_cons pe_int pa_nil))))) pa_nil)) pa_nil)) (pe_lst (pa_cons (pe_tup (pa_cons pe_str (pa_cons pe_str (pa_cons pe_int (pa_cons pe_int pa_nil))))) (pa_cons (pe_tup (pa_cons pe_str (pa_cons pe_str (pa_cons pe_int (pa_cons pe_int pa_nil))))) (pa_cons (pe_tup (pa_cons pe_str (pa_cons pe_str (pa_cons pe_int (pa_cons pe_int pa_nil))))) pa_nil)))) (nomark _)))))))))))))), ?_⟩
  refine ⟨_, rfl, a, ns, 300, rfl, hS, h63, by decide, by decide, fun p r H1 hp s1 d1 => ?_⟩
  -- row = _law_row(draws, ..)
  obtain ⟨drow, di, dz, hpd, hrow⟩ := id d1
  refine ⟨_, rfl, _, rfl, p, _, rfl, (dk_row r _ dz ▸ DGet.k (k := Sum.inr "row") hpd), r, _, rfl, .inl (SqL.of hrow), _, _, rfl, rfl, ⟨by decide, by decide⟩, _, _, rfl, ?_⟩
  refine ⟨p, r, _, rfl, d1, by split <;> omega, by split <;> omega, fun rl tl ts H2 hrl k2 d2 e2 tk2 g2 l2 => ?_⟩
  have wf2 : ∀ t ∈ ts, Wf t := fun t ht => (g2.all t ht).wf
  have ok2 : OkL ts := fun t ht => (g2.all t ht).ok
  -- passed = list(row)
  refine ⟨_, rfl, rl, _, rfl, .inl (SqL.of e2), fun pl hpl => ?_⟩
  have s3 := same_new hpl (.lst (tl.map V.ref))
  have ep3 : upd H2 pl (.lst (tl.map V.ref)) pl = some (.lst (tl.map V.ref)) := upd_same
  have er3 := s3 _ _ e2
  have tk3 := tk2.keep fun _ _ h => s3 _ _ h
  -- due = _law_layout(row)
  refine ⟨_, rfl, rl, tl, ts, rfl, SqL.of er3, tk3, g2, l2, fun dl ld H4 hdl s4 e4 tk4 => ?_⟩
  have tk4' := tk3.keep fun _ _ h => s4 _ _ h
  -- actual = layout(passed)
  refine ⟨_, rfl, pl, tl, ts, rfl, SqL.of (s4 _ _ ep3), tk4', wf2, l2, fun al la H5 hal s5 e5 tk5 => ?_⟩
  have ll := lay_len ts
  have shl := tkD_shaped (lay ts) (lay_ok ok2)
  have shr := tkD_shaped ts ok2
  have ed5 := s5 _ _ e4
  have td5 := tk4.keep fun _ _ h => s5 _ _ h
  have er5 := s5 _ _ (s4 _ _ er3)
  have ep5 := s5 _ _ (s4 _ _ ep3)
  have tr5 := tk4'.keep fun _ _ h => s5 _ _ h
  refine ⟨_, rfl, .ref al, .ty "list", .type "list", .type "list", true, rfl, .ty _, .base (.lst e5), kit_ty (by decide +kernel), _, rfl, ?_⟩
  refine iteF ⟨_, rfl, _, rfl, _, _, .lst (SqL.of e5) tk5.dp, .lst (SqL.of ed5) td5.dp, shl, shl, _, rfl, ?_⟩
  rw [eqv_self shl]
  refine iteF ⟨_, rfl, _, rfl, _, _, .lst (SqL.of ep5) tr5.dp, .lst (SqL.of er5) tr5.dp, shr, shr, _, rfl, ?_⟩
  rw [eqv_self shr]
  refine iteF ?_
  -- again = layout(passed)
  refine ⟨_, rfl, pl, tl, ts, rfl, SqL.of ep5, tr5, wf2, l2, fun gl lg H6 hgl s6 e6 tk6 => ?_⟩
  have ea6 := s6 _ _ e5
  have ed6 := s6 _ _ ed5
  have td6 := td5.keep fun _ _ h => s6 _ _ h
  have nga : gl ≠ al := (ne_of_none e5 hgl).symm
  have nda : dl ≠ al := ne_of_none e4 hal
  -- actual.append('spoilt')
  refine ⟨_, rfl, .inl ⟨rfl, _, SqL.of ea6⟩, al, _, _, rfl, rfl, ea6, szl (by rw [List.length_map, tk5.len]; omega), ?_⟩
  have tu := tup_upd (o := .lst (la.map V.ref ++ [V.str "spoilt"])) ea6
  refine ⟨_, rfl, _, rfl, _, _, .lst (SqL.of (by rw [upd_ne nga]; exact e6)) (tk6.keep tu).dp, .lst (SqL.of (by rw [upd_ne nda]; exact ed6)) (td6.keep tu).dp, shl, shl, _, rfl, ?_⟩
  rw [eqv_self shl]
  refine iteT ?_
  -- layout([('end', '', 1, 1)])
  refine ⟨(by show 4 ≤ sizeLine; decide), fun t7 ht7 => ⟨(by show 1 ≤ sizeLine; decide), fun l7 hl7 => ?_⟩⟩
  have n7 : t7 ≠ l7 := by
    intro z
    rw [← z, upd_same] at hl7
    cases hl7
  refine ⟨l7, [t7], oneIn, rfl, SqL.of upd_same, .cons (by rw [upd_ne n7, upd_same]; rfl) .nil, ?_, by decide, fun xl lx H8 hxl s8 e8 tk8 => ?_⟩
  · intro t ht
    rw [List.mem_singleton.mp ht]
    exact ⟨.inr rfl, (by decide : (0 : Int) < 1)⟩
  rw [lay_one] at tk8
  refine ⟨(by show 4 ≤ sizeLine; decide), fun a1 h1 => ⟨(by show 4 ≤ sizeLine; decide), fun a2 h2 => ⟨(by show 4 ≤ sizeLine; decide), fun a3 h3 => ⟨(by show 3 ≤ sizeLine; decide), fun l9 hl9 => ?_⟩⟩⟩⟩
  have q1 := same_new h1 (.tup [.str "sign", .str "{", .int 1, .int 1])
  have q2 := same_new h2 (.tup [.str "sign", .str "}", .int 1, .int 1])
  have q3 := same_new h3 (.tup [.str "end", .str "", .int 1, .int 1])
  have q4 := same_new hl9 (.lst [.ref a1, .ref a2, .ref a3])
  have qq := ((Same.trans q1 q2).trans q3).trans q4
  have tk9 : Toks _ [a1, a2, a3] oneOut :=
    .cons (q4 _ _ (q3 _ _ (q2 _ _ upd_same))) (.cons (q4 _ _ (q3 _ _ upd_same)) (.cons (q4 _ _ upd_same) .nil))
  have sh9 : SeqAt.shaped (.list (oneOut.map tkD)) = true := by
    refine tkD_shaped _ ?_
    rw [← lay_one]
    exact lay_ok fun u hu => by rw [List.mem_singleton.mp hu]; exact end_ok
  refine ⟨_, _, .lst (SqL.of (qq _ _ e8)) (tk8.keep fun _ _ h => qq _ _ h).dp, .lst (SqL.of upd_same) tk9.dp, sh9, sh9, ?_⟩
  rw [eqv_self sh9]
  exact q _
end
end Toy

set_option Elab.async false
set_option maxRecDepth 100000
set_option maxHeartbeats 4000000
/-! Part K: what the program's top has left, and the end. -/
namespace Toy
open PySem L2
open PyProof.Rows (envOfC)
def strsAre : List Str → List Value → Bool
  | [], [] => true
  | z :: zs, .str x _ :: us => decide (x = z) && strsAre zs us
  | _, _ => false
theorem strsAre_ok : ∀ {zs : List Str} {us : List Value}, strsAre zs us = true → Vals (zs.map V.str) us
  | [], [], _ => .nil
  | [], _ :: _, h => by simp [strsAre] at h
  | _ :: _, [], h => by simp [strsAre] at h
  | z :: zs, u :: us, h => by
    cases u with
    | str x t =>
      simp only [strsAre, Bool.and_eq_true, decide_eq_true_eq] at h
      exact .cons ⟨t, by rw [h.1]⟩ (strsAre_ok h.2)
    | _ => simp [strsAre] at h
theorem written_tup {K : PySem.W.Frag} {a : Addr} {zs : List Str} {oc : Value} {od : Option Addr} {its : Array Value} {n : Nat} {sl : Array (Option Value)} (hz : zs.length ≤ 1000) (l : K.lookup a = some ⟨oc, od, .seq its n, sl⟩) (c : oc = .type "tuple") (v : strsAre zs its.toList = true) : ∀ H : Hp, SqT K H a (zs.map V.str) := fun H => by
  subst c
  have hv := strsAre_ok v
  have hl := hv.length
  rw [List.length_map] at hl
  have hl' : zs.length = its.size := by rw [hl]; exact Array.length_toList
  exact .inr ⟨_, its, n, l, rfl, rfl, Nat.le_of_lt (szl (by omega)), hv⟩
theorem all_mk {l : PySem.W.OpenLaw} {w : World} {K : PySem.W.Frag} {h : Heap} {mg : Str → Option Value} {fa : Addr} {f0 f1 f2 f3 f4 f5 f6 f7 f8 f9 f10 f11 f12 f13 f14 f15 f16 f17 f18 f19 f20 f21 f22 f23 f24 C aB aO aC : Addr} (X : K.In h) (G : h.Ns mainGlobals mg) (hfa : mg "law" = some (.ref fa))
    {od0 an0 od1 an1 od2 an2 od3 an3 od4 an4 od5 an5 od6 an6 od7 an7 od8 an8 od9 an9 od10 an10 od11 an11 od12 an12 od13 an13 od14 an14 od15 an15 od16 an16 od17 an17 od18 an18 od19 an19 od20 an20 od21 an21 od22 an22 od23 an23 od24 an24 odB odO : Option Addr} {sl0 sl1 sl2 sl3 sl4 sl5 sl6 sl7 sl8 sl9 sl10 sl11 sl12 sl13 sl14 sl15 sl16 sl17 sl18 sl19 sl20 sl21 sl22 sl23 sl24 slB slO : Array (Option Value)} {oc0 kV0 dc0 pm0 cd0 ct0 oc1 kV1 dc1 pm1 cd1 ct1 oc2 kV2 dc2 pm2 cd2 ct2 oc3 kV3 dc3 pm3 cd3 ct3 oc4 kV4 dc4 pm4 cd4 ct4 oc5 kV5 dc5 pm5 cd5 ct5 oc6 kV6 dc6 pm6 cd6 ct6 oc7 kV7 dc7 pm7 cd7 ct7 oc8 kV8 dc8 pm8 cd8 ct8 oc9 kV9 dc9 pm9 cd9 ct9 oc10 kV10 dc10 pm10 cd10 ct10 oc11 kV11 dc11 pm11 cd11 ct11 oc12 kV12 dc12 pm12 cd12 ct12 oc13 kV13 dc13 pm13 cd13 ct13 oc14 kV14 dc14 pm14 cd14 ct14 oc15 kV15 dc15 pm15 cd15 ct15 oc16 kV16 dc16 pm16 cd16 ct16 oc17 kV17 dc17 pm17 cd17 ct17 oc18 kV18 dc18 pm18 cd18 ct18 oc19 kV19 dc19 pm19 cd19 ct19 oc20 kV20 dc20 pm20 cd20 ct20 oc21 kV21 dc21 pm21 cd21 ct21 oc22 kV22 dc22 pm22 cd22 ct22 oc23 kV23 dc23 pm23 cd23 ct23 oc24 kV24 dc24 pm24 cd24 ct24 ocB ocO : Value} {itB itO : Array Value} {nB nO nC : Nat} {es : Array DictEntry} {tk0 tk1 tk2 tk3 tk4 tk5 tk6 tk7 tk8 tk9 tk10 tk11 tk12 tk13 tk14 tk15 tk16 tk17 tk18 : Tok}
    (a0 : PySem.W.nsIn K mainGlobals "_law_mix" = some (some (.ref f0))) (l0 : K.lookup f0 = some ⟨oc0, od0, .func (PySem.W.fnOf "_law_mix" "_law_mix" (defArgs sMix) (defBody sMix) (defScope sMix) .none kV0 dc0 pm0 an0 cd0 ct0), sl0⟩) (c0 : PySem.W.codeIn K cd0 "_law_mix" = true) (k0 : PySem.W.keepIn K (.ref f0) = true)
    (a1 : PySem.W.nsIn K mainGlobals "_law_stream" = some (some (.ref f1))) (l1 : K.lookup f1 = some ⟨oc1, od1, .func (PySem.W.fnOf "_law_stream" "_law_stream" (defArgs sStream) (defBody sStream) (defScope sStream) .none kV1 dc1 pm1 an1 cd1 ct1), sl1⟩) (c1 : PySem.W.codeIn K cd1 "_law_stream" = true) (k1 : PySem.W.keepIn K (.ref f1) = true)
    (a2 : PySem.W.nsIn K mainGlobals "_law_pick" = some (some (.ref f2))) (l2 : K.lookup f2 = some ⟨oc2, od2, .func (PySem.W.fnOf "_law_pick" "_law_pick" (defArgs sPick) (defBody sPick) (defScope sPick) .none kV2 dc2 pm2 an2 cd2 ct2), sl2⟩) (c2 : PySem.W.codeIn K cd2 "_law_pick" = true) (k2 : PySem.W.keepIn K (.ref f2) = true)
    (a3 : PySem.W.nsIn K mainGlobals "_law_row" = some (some (.ref f3))) (l3 : K.lookup f3 = some ⟨oc3, od3, .func (PySem.W.fnOf "_law_row" "_law_row" (defArgs sRow) (defBody sRow) (defScope sRow) .none kV3 dc3 pm3 an3 cd3 ct3), sl3⟩) (c3 : PySem.W.codeIn K cd3 "_law_row" = true) (k3 : PySem.W.keepIn K (.ref f3) = true)
    (a4 : PySem.W.nsIn K mainGlobals "_law_marker" = some (some (.ref f4))) (l4 : K.lookup f4 = some ⟨oc4, od4, .func (PySem.W.fnOf "_law_marker" "_law_marker" (defArgs sMarker) (defBody sMarker) (defScope sMarker) .none kV4 dc4 pm4 an4 cd4 ct4), sl4⟩) (c4 : PySem.W.codeIn K cd4 "_law_marker" = true) (k4 : PySem.W.keepIn K (.ref f4) = true)
    (a5 : PySem.W.nsIn K mainGlobals "_law_inner" = some (some (.ref f5))) (l5 : K.lookup f5 = some ⟨oc5, od5, .func (PySem.W.fnOf "_law_inner" "_law_inner" (defArgs sLInner) (defBody sLInner) (defScope sLInner) .none kV5 dc5 pm5 an5 cd5 ct5), sl5⟩) (c5 : PySem.W.codeIn K cd5 "_law_inner" = true) (k5 : PySem.W.keepIn K (.ref f5) = true)
    (a6 : PySem.W.nsIn K mainGlobals "_law_sign" = some (some (.ref f6))) (l6 : K.lookup f6 = some ⟨oc6, od6, .func (PySem.W.fnOf "_law_sign" "_law_sign" (defArgs sLSign) (defBody sLSign) (defScope sLSign) .none kV6 dc6 pm6 an6 cd6 ct6), sl6⟩) (c6 : PySem.W.codeIn K cd6 "_law_sign" = true) (k6 : PySem.W.keepIn K (.ref f6) = true)
    (a7 : PySem.W.nsIn K mainGlobals "_law_close" = some (some (.ref f7))) (l7 : K.lookup f7 = some ⟨oc7, od7, .func (PySem.W.fnOf "_law_close" "_law_close" (defArgs sLClose) (defBody sLClose) (defScope sLClose) .none kV7 dc7 pm7 an7 cd7 ct7), sl7⟩) (c7 : PySem.W.codeIn K cd7 "_law_close" = true) (k7 : PySem.W.keepIn K (.ref f7) = true)
    (a8 : PySem.W.nsIn K mainGlobals "_law_effect" = some (some (.ref f8))) (l8 : K.lookup f8 = some ⟨oc8, od8, .func (PySem.W.fnOf "_law_effect" "_law_effect" (defArgs sLEffect) (defBody sLEffect) (defScope sLEffect) .none kV8 dc8 pm8 an8 cd8 ct8), sl8⟩) (c8 : PySem.W.codeIn K cd8 "_law_effect" = true) (k8 : PySem.W.keepIn K (.ref f8) = true)
    (a9 : PySem.W.nsIn K mainGlobals "_law_first" = some (some (.ref f9))) (l9 : K.lookup f9 = some ⟨oc9, od9, .func (PySem.W.fnOf "_law_first" "_law_first" (defArgs sLFirst) (defBody sLFirst) (defScope sLFirst) .none kV9 dc9 pm9 an9 cd9 ct9), sl9⟩) (c9 : PySem.W.codeIn K cd9 "_law_first" = true) (k9 : PySem.W.keepIn K (.ref f9) = true)
    (a10 : PySem.W.nsIn K mainGlobals "_law_opens" = some (some (.ref f10))) (l10 : K.lookup f10 = some ⟨oc10, od10, .func (PySem.W.fnOf "_law_opens" "_law_opens" (defArgs sLOpens) (defBody sLOpens) (defScope sLOpens) .none kV10 dc10 pm10 an10 cd10 ct10), sl10⟩) (c10 : PySem.W.codeIn K cd10 "_law_opens" = true) (k10 : PySem.W.keepIn K (.ref f10) = true)
    (a11 : PySem.W.nsIn K mainGlobals "_law_layout" = some (some (.ref f11))) (l11 : K.lookup f11 = some ⟨oc11, od11, .func (PySem.W.fnOf "_law_layout" "_law_layout" (defArgs sLLayout) (defBody sLLayout) (defScope sLLayout) .none kV11 dc11 pm11 an11 cd11 ct11), sl11⟩) (c11 : PySem.W.codeIn K cd11 "_law_layout" = true) (k11 : PySem.W.keepIn K (.ref f11) = true)
    (a12 : PySem.W.nsIn K mainGlobals "layout" = some (some (.ref f12))) (l12 : K.lookup f12 = some ⟨oc12, od12, .func (PySem.W.fnOf "layout" "layout" (defArgs sLayout) (defBody sLayout) (defScope sLayout) .none kV12 dc12 pm12 an12 cd12 ct12), sl12⟩) (c12 : PySem.W.codeIn K cd12 "layout" = true) (k12 : PySem.W.keepIn K (.ref f12) = true)
    (a13 : PySem.W.nsIn K mainGlobals "_arranged" = some (some (.ref f13))) (l13 : K.lookup f13 = some ⟨oc13, od13, .func (PySem.W.fnOf "_arranged" "_arranged" (defArgs sArranged) (defBody sArranged) (defScope sArranged) .none kV13 dc13 pm13 an13 cd13 ct13), sl13⟩) (c13 : PySem.W.codeIn K cd13 "_arranged" = true) (k13 : PySem.W.keepIn K (.ref f13) = true)
    (a14 : PySem.W.nsIn K mainGlobals "law" = some (some (.ref f14))) (l14 : K.lookup f14 = some ⟨oc14, od14, .func (PySem.W.fnOf "law" "law" (defArgs sLaw) (defBody sLaw) (defScope sLaw) .none kV14 dc14 pm14 an14 cd14 ct14), sl14⟩) (c14 : PySem.W.codeIn K cd14 "law" = true) (k14 : PySem.W.keepIn K (.ref f14) = true)
    (a15 : PySem.W.findIn K (.ref C) "__init__" = some (some (.ref f15))) (i15 : PySem.W.isFn K (.ref f15) = true) (l15 : K.lookup f15 = some ⟨oc15, od15, .func (PySem.W.fnOf "__init__" "Arranger.__init__" (defArgs sInit) (defBody sInit) (defScope sInit) .none kV15 dc15 pm15 an15 cd15 ct15), sl15⟩) (c15 : PySem.W.codeIn K cd15 "Arranger.__init__" = true) (k15 : PySem.W.keepIn K (.ref f15) = true)
    (a16 : PySem.W.findIn K (.ref C) "add_sign" = some (some (.ref f16))) (i16 : PySem.W.isFn K (.ref f16) = true) (l16 : K.lookup f16 = some ⟨oc16, od16, .func (PySem.W.fnOf "add_sign" "Arranger.add_sign" (defArgs sAddSign) (defBody sAddSign) (defScope sAddSign) .none kV16 dc16 pm16 an16 cd16 ct16), sl16⟩) (c16 : PySem.W.codeIn K cd16 "Arranger.add_sign" = true) (k16 : PySem.W.keepIn K (.ref f16) = true)
    (a17 : PySem.W.findIn K (.ref C) "innermost_column" = some (some (.ref f17))) (i17 : PySem.W.isFn K (.ref f17) = true) (l17 : K.lookup f17 = some ⟨oc17, od17, .func (PySem.W.fnOf "innermost_column" "Arranger.innermost_column" (defArgs sInner) (defBody sInner) (defScope sInner) .none kV17 dc17 pm17 an17 cd17 ct17), sl17⟩) (c17 : PySem.W.codeIn K cd17 "Arranger.innermost_column" = true) (k17 : PySem.W.keepIn K (.ref f17) = true)
    (a18 : PySem.W.findIn K (.ref C) "top_column" = some (some (.ref f18))) (i18 : PySem.W.isFn K (.ref f18) = true) (l18 : K.lookup f18 = some ⟨oc18, od18, .func (PySem.W.fnOf "top_column" "Arranger.top_column" (defArgs sTopCol) (defBody sTopCol) (defScope sTopCol) .none kV18 dc18 pm18 an18 cd18 ct18), sl18⟩) (c18 : PySem.W.codeIn K cd18 "Arranger.top_column" = true) (k18 : PySem.W.keepIn K (.ref f18) = true)
    (a19 : PySem.W.findIn K (.ref C) "open_block" = some (some (.ref f19))) (i19 : PySem.W.isFn K (.ref f19) = true) (l19 : K.lookup f19 = some ⟨oc19, od19, .func (PySem.W.fnOf "open_block" "Arranger.open_block" (defArgs sOpenB) (defBody sOpenB) (defScope sOpenB) .none kV19 dc19 pm19 an19 cd19 ct19), sl19⟩) (c19 : PySem.W.codeIn K cd19 "Arranger.open_block" = true) (k19 : PySem.W.keepIn K (.ref f19) = true)
    (a20 : PySem.W.findIn K (.ref C) "close_block" = some (some (.ref f20))) (i20 : PySem.W.isFn K (.ref f20) = true) (l20 : K.lookup f20 = some ⟨oc20, od20, .func (PySem.W.fnOf "close_block" "Arranger.close_block" (defArgs sCloseB) (defBody sCloseB) (defScope sCloseB) .none kV20 dc20 pm20 an20 cd20 ct20), sl20⟩) (c20 : PySem.W.codeIn K cd20 "Arranger.close_block" = true) (k20 : PySem.W.keepIn K (.ref f20) = true)
    (a21 : PySem.W.findIn K (.ref C) "close_all" = some (some (.ref f21))) (i21 : PySem.W.isFn K (.ref f21) = true) (l21 : K.lookup f21 = some ⟨oc21, od21, .func (PySem.W.fnOf "close_all" "Arranger.close_all" (defArgs sCloseAll) (defBody sCloseAll) (defScope sCloseAll) .none kV21 dc21 pm21 an21 cd21 ct21), sl21⟩) (c21 : PySem.W.codeIn K cd21 "Arranger.close_all" = true) (k21 : PySem.W.keepIn K (.ref f21) = true)
    (a22 : PySem.W.findIn K (.ref C) "begin_row" = some (some (.ref f22))) (i22 : PySem.W.isFn K (.ref f22) = true) (l22 : K.lookup f22 = some ⟨oc22, od22, .func (PySem.W.fnOf "begin_row" "Arranger.begin_row" (defArgs sBegin) (defBody sBegin) (defScope sBegin) .none kV22 dc22 pm22 an22 cd22 ct22), sl22⟩) (c22 : PySem.W.codeIn K cd22 "Arranger.begin_row" = true) (k22 : PySem.W.keepIn K (.ref f22) = true)
    (a23 : PySem.W.findIn K (.ref C) "close_up_to" = some (some (.ref f23))) (i23 : PySem.W.isFn K (.ref f23) = true) (l23 : K.lookup f23 = some ⟨oc23, od23, .func (PySem.W.fnOf "close_up_to" "Arranger.close_up_to" (defArgs sUpTo) (defBody sUpTo) (defScope sUpTo) .none kV23 dc23 pm23 an23 cd23 ct23), sl23⟩) (c23 : PySem.W.codeIn K cd23 "Arranger.close_up_to" = true) (k23 : PySem.W.keepIn K (.ref f23) = true)
    (a24 : PySem.W.findIn K (.ref C) "meet" = some (some (.ref f24))) (i24 : PySem.W.isFn K (.ref f24) = true) (l24 : K.lookup f24 = some ⟨oc24, od24, .func (PySem.W.fnOf "meet" "Arranger.meet" (defArgs sMeet) (defBody sMeet) (defScope sMeet) .none kV24 dc24 pm24 an24 cd24 ct24), sl24⟩) (c24 : PySem.W.codeIn K cd24 "Arranger.meet" = true) (k24 : PySem.W.keepIn K (.ref f24) = true)
    (gtB : PySem.W.nsIn K mainGlobals "BLOCK_KEYWORDS" = some (some (.ref aB))) (ltB : K.lookup aB = some ⟨ocB, odB, .seq itB nB, slB⟩) (ctB : ocB = .type "tuple") (vtB : strsAre BK itB.toList = true)
    (gtO : PySem.W.nsIn K mainGlobals "OPENERS" = some (some (.ref aO))) (ltO : K.lookup aO = some ⟨ocO, odO, .seq itO nO, slO⟩) (ctO : ocO = .type "tuple") (vtO : strsAre OP itO.toList = true)
    (gd : PySem.W.nsIn K mainGlobals "CLOSERS" = some (some (.ref aC))) (ld : K.lookup aC = some ⟨.type "dict", none, .dict es nC, #[]⟩) (kd : PySem.W.KeysLit w.params es.toList) (sd : (aC == sysModules) = false)
    (wd0 : PySem.W.nsIn K aC "where" = some none)
    (wd1 : PySem.W.nsIn K aC "let" = some none)
    (wd2 : PySem.W.nsIn K aC "of" = some (some (.str "case" tk2)))
    (wd3 : PySem.W.nsIn K aC "case" = some none)
    (wd4 : PySem.W.nsIn K aC "if" = some none)
    (wd5 : PySem.W.nsIn K aC "then" = some (some (.str "if" tk5)))
    (wd6 : PySem.W.nsIn K aC "else" = some (some (.str "then" tk6)))
    (wd7 : PySem.W.nsIn K aC "in" = some (some (.str "let" tk7)))
    (wd8 : PySem.W.nsIn K aC "(" = some none)
    (wd9 : PySem.W.nsIn K aC ")" = some (some (.str "(" tk9)))
    (wd10 : PySem.W.nsIn K aC "[" = some none)
    (wd11 : PySem.W.nsIn K aC "]" = some (some (.str "[" tk11)))
    (wd12 : PySem.W.nsIn K aC "{" = some none)
    (wd13 : PySem.W.nsIn K aC "}" = some (some (.str "{" tk13)))
    (wd14 : PySem.W.nsIn K aC "," = some none)
    (wd15 : PySem.W.nsIn K aC "f" = some none)
    (wd16 : PySem.W.nsIn K aC "x" = some none)
    (wd17 : PySem.W.nsIn K aC "=" = some none)
    (wd18 : PySem.W.nsIn K aC "" = some none)
    (aCl : PySem.W.nsIn K mainGlobals "Arranger" = some (some (.ref C))) (pg : PySem.W.plainGet K C Str.empty = true) (hd : PySem.W.hasDictIn K C = true) (po : PySem.W.plainOver K C = true) (sa : PySem.W.findIn K (.ref C) "__setattr__" = some (some (.builtin "object.__setattr__"))) (mk : PySem.W.makesIn K C = true) (kc : PySem.W.keepIn K (.ref C) = true)
    (nC1 : PySem.W.findIn K (.ref C) "contexts" = some none) (nA1 : PySem.W.findIn K (.ref C) "arranged" = some none)
    (zlen : PySem.W.nsIn K mainGlobals "len" = some none)
    (zmin : PySem.W.nsIn K mainGlobals "min" = some none)
    (zint : PySem.W.nsIn K mainGlobals "int" = some none)
    (zrange : PySem.W.nsIn K mainGlobals "range" = some none)
    (zisinstance : PySem.W.nsIn K mainGlobals "isinstance" = some none)
    (zlist : PySem.W.nsIn K mainGlobals "list" = some none)
    (zreversed : PySem.W.nsIn K mainGlobals "reversed" = some none)
    (zstr : PySem.W.nsIn K mainGlobals "str" = some none) :
    ∃ fd : FuncData, (∀ (s : Shared) (v : Value), BindsTo s fd ⟨[v], []⟩ [("script", v)]) ∧ ∀ base : Heap, K.In base → base.Ns mainGlobals mg → FnOk l.prog w K mg base CX0 7 fa fd ["script"] (spLaw K) := by
  have e := hfa.symm.trans (PySem.W.mg_of X G a14)
  cases e
  have tell : ∀ z : Str, z ∈ WORDS ∨ z = "" → Tells K aC z := by
    intro z hz
    simp only [WORDS, List.mem_cons, List.not_mem_nil, or_false, or_assoc] at hz
    rcases hz with rfl | rfl | rfl | rfl | rfl | rfl | rfl | rfl | rfl | rfl | rfl | rfl | rfl | rfl | rfl | rfl | rfl | rfl | rfl
    · exact .inl ⟨by decide +kernel, wd0⟩
    · exact .inl ⟨by decide +kernel, wd1⟩
    · exact .inr ⟨_, _, by decide +kernel, wd2, _, rfl⟩
    · exact .inl ⟨by decide +kernel, wd3⟩
    · exact .inl ⟨by decide +kernel, wd4⟩
    · exact .inr ⟨_, _, by decide +kernel, wd5, _, rfl⟩
    · exact .inr ⟨_, _, by decide +kernel, wd6, _, rfl⟩
    · exact .inr ⟨_, _, by decide +kernel, wd7, _, rfl⟩
    · exact .inl ⟨by decide +kernel, wd8⟩
    · exact .inr ⟨_, _, by decide +kernel, wd9, _, rfl⟩
    · exact .inl ⟨by decide +kernel, wd10⟩
    · exact .inr ⟨_, _, by decide +kernel, wd11, _, rfl⟩
    · exact .inl ⟨by decide +kernel, wd12⟩
    · exact .inr ⟨_, _, by decide +kernel, wd13, _, rfl⟩
    · exact .inl ⟨by decide +kernel, wd14⟩
    · exact .inl ⟨by decide +kernel, wd15⟩
    · exact .inl ⟨by decide +kernel, wd16⟩
    · exact .inl ⟨by decide +kernel, wd17⟩
    · exact .inl ⟨by decide +kernel, wd18⟩
  have T : Txt K w mg C aB aO aC es nC := ⟨PySem.W.mg_none_of X G zlen, PySem.W.mg_none_of X G zmin, PySem.W.mg_none_of X G zint, PySem.W.mg_none_of X G zrange, PySem.W.mg_none_of X G zisinstance, PySem.W.mg_none_of X G zlist, PySem.W.mg_none_of X G zreversed, PySem.W.mg_none_of X G zstr, ⟨_, PySem.W.mg_of X G gtB, rfl⟩, ⟨_, PySem.W.mg_of X G gtO, rfl⟩, ⟨_, PySem.W.mg_of X G gd, rfl⟩, written_tup (by decide) ltB ctB vtB, written_tup (by decide) ltO ctO vtO, ⟨ld, kd, sd⟩, tell, ⟨pg, hd, po, sa⟩, nC1, nA1⟩
  have F0 := fun_mk (st := sMix) l0 c0 k0
  have b0 := F0.binds (ps := ["cell", "k"]) fun _ _ _ _ _ _ us hl => match us, hl with | [_, _], _ => rfl
  have F1 := fun_mk (st := sStream) l1 c1 k1
  have b1 := F1.binds (ps := ["script", "most"]) fun _ _ _ _ _ _ us hl => match us, hl with | [_, _], _ => rfl
  have F2 := fun_mk (st := sPick) l2 c2 k2
  have b2 := F2.binds (ps := ["draws", "many"]) fun _ _ _ _ _ _ us hl => match us, hl with | [_, _], _ => rfl
  have F3 := fun_mk (st := sRow) l3 c3 k3
  have b3 := F3.binds (ps := ["draws", "many"]) fun _ _ _ _ _ _ us hl => match us, hl with | [_, _], _ => rfl
  have F4 := fun_mk (st := sMarker) l4 c4 k4
  have b4 := F4.binds (ps := ["stack"]) fun _ _ _ _ _ _ us hl => match us, hl with | [_], _ => rfl
  have F5 := fun_mk (st := sLInner) l5 c5 k5
  have b5 := F5.binds (ps := ["stack"]) fun _ _ _ _ _ _ us hl => match us, hl with | [_], _ => rfl
  have F6 := fun_mk (st := sLSign) l6 c6 k6
  have b6 := F6.binds (ps := ["text", "token"]) fun _ _ _ _ _ _ us hl => match us, hl with | [_, _], _ => rfl
  have F7 := fun_mk (st := sLClose) l7 c7 k7
  have b7 := F7.binds (ps := ["stack", "found", "token"]) fun _ _ _ _ _ _ us hl => match us, hl with | [_, _, _], _ => rfl
  have F8 := fun_mk (st := sLEffect) l8 c8 k8
  have b8 := F8.binds (ps := ["stack", "found", "token"]) fun _ _ _ _ _ _ us hl => match us, hl with | [_, _, _], _ => rfl
  have F9 := fun_mk (st := sLFirst) l9 c9 k9
  have b9 := F9.binds (ps := ["stack", "found", "token"]) fun _ _ _ _ _ _ us hl => match us, hl with | [_, _, _], _ => rfl
  have F10 := fun_mk (st := sLOpens) l10 c10 k10
  have b10 := F10.binds (ps := ["stack", "found", "token"]) fun _ _ _ _ _ _ us hl => match us, hl with | [_, _, _], _ => rfl
  have F11 := fun_mk (st := sLLayout) l11 c11 k11
  have b11 := F11.binds (ps := ["row"]) fun _ _ _ _ _ _ us hl => match us, hl with | [_], _ => rfl
  have F12 := fun_mk (st := sLayout) l12 c12 k12
  have b12 := F12.binds (ps := ["row"]) fun _ _ _ _ _ _ us hl => match us, hl with | [_], _ => rfl
  have F13 := fun_mk (st := sArranged) l13 c13 k13
  have b13 := F13.binds (ps := ["row", "contexts", "block_expected"]) fun _ _ _ _ _ _ us hl => match us, hl with | [_, _, _], _ => rfl
  have F14 := fun_mk (st := sLaw) l14 c14 k14
  have b14 := F14.binds (ps := ["script"]) fun _ _ _ _ _ _ us hl => match us, hl with | [_], _ => rfl
  have F15 := fun_mk (st := sInit) l15 c15 k15
  have b15 := F15.binds (ps := ["self", "contexts"]) fun _ _ _ _ _ _ us hl => match us, hl with | [_, _], _ => rfl
  have F16 := fun_mk (st := sAddSign) l16 c16 k16
  have b16 := F16.binds (ps := ["self", "sign", "token"]) fun _ _ _ _ _ _ us hl => match us, hl with | [_, _, _], _ => rfl
  have F17 := fun_mk (st := sInner) l17 c17 k17
  have b17 := F17.binds (ps := ["self"]) fun _ _ _ _ _ _ us hl => match us, hl with | [_], _ => rfl
  have F18 := fun_mk (st := sTopCol) l18 c18 k18
  have b18 := F18.binds (ps := ["self"]) fun _ _ _ _ _ _ us hl => match us, hl with | [_], _ => rfl
  have F19 := fun_mk (st := sOpenB) l19 c19 k19
  have b19 := F19.binds (ps := ["self", "token"]) fun _ _ _ _ _ _ us hl => match us, hl with | [_, _], _ => rfl
  have F20 := fun_mk (st := sCloseB) l20 c20 k20
  have b20 := F20.binds (ps := ["self", "token"]) fun _ _ _ _ _ _ us hl => match us, hl with | [_, _], _ => rfl
  have F21 := fun_mk (st := sCloseAll) l21 c21 k21
  have b21 := F21.binds (ps := ["self", "token"]) fun _ _ _ _ _ _ us hl => match us, hl with | [_, _], _ => rfl
  have F22 := fun_mk (st := sBegin) l22 c22 k22
  have b22 := F22.binds (ps := ["self", "token"]) fun _ _ _ _ _ _ us hl => match us, hl with | [_, _], _ => rfl
  have F23 := fun_mk (st := sUpTo) l23 c23 k23
  have b23 := F23.binds (ps := ["self", "markers", "token"]) fun _ _ _ _ _ _ us hl => match us, hl with | [_, _, _], _ => rfl
  have F24 := fun_mk (st := sMeet) l24 c24 k24
  have b24 := F24.binds (ps := ["self", "token"]) fun _ _ _ _ _ _ us hl => match us, hl with | [_, _], _ => rfl
  refine ⟨PySem.W.fnOf "law" "law" (defArgs sLaw) (defBody sLaw) (defScope sLaw) .none kV14 dc14 pm14 an14 cd14 ct14, fun s v => .of_eq rfl, fun base _ _ => ?_⟩
  have C15 := c_init (P := l.prog) (w := w) (base := base) T ⟨mk, a15, i15, kc⟩ (PySem.W.mg_of X G aCl) F15 b15
  have C16 := c_addSign (P := l.prog) (w := w) (mg := mg) (base := base) T  ⟨a16, i16, k16⟩ F16 b16
  have C18 := c_topCol (P := l.prog) (w := w) (mg := mg) (base := base) T  ⟨a18, i18, k18⟩ F18 b18
  have C17 := c_inner (P := l.prog) (w := w) (mg := mg) (base := base) T  ⟨a17, i17, k17⟩ F17 b17
  have C20 := c_closeB (P := l.prog) (w := w) (mg := mg) (base := base) T C16 ⟨a20, i20, k20⟩ F20 b20
  have C19 := c_openB (P := l.prog) (w := w) (mg := mg) (base := base) T C16 C17 ⟨a19, i19, k19⟩ F19 b19
  have C21 := c_closeAll (P := l.prog) (w := w) (mg := mg) (base := base) T C20 C18 ⟨a21, i21, k21⟩ F21 b21
  have C22 := c_begin (P := l.prog) (w := w) (mg := mg) (base := base) T C20 C18 C16 ⟨a22, i22, k22⟩ F22 b22
  have C23 := c_upTo (P := l.prog) (w := w) (mg := mg) (base := base) T C20 ⟨a23, i23, k23⟩ F23 b23
  have C24 := c_meet (P := l.prog) (w := w) (mg := mg) (base := base) T C23 ⟨a24, i24, k24⟩ F24 b24
  have C13 := c_arranged (P := l.prog) (w := w) (base := base) T C15 C19 C21 C22 C24 F13 b13 (PySem.W.mg_of X G a13)
  have C12 := c_layout (P := l.prog) (w := w) (base := base) C13 F12 b12 (PySem.W.mg_of X G a12)
  have C0 := c_mix (P := l.prog) (w := w) (base := base) T  F0 b0 (PySem.W.mg_of X G a0)
  have C1 := c_stream (P := l.prog) (w := w) (base := base) T C0 F1 b1 (PySem.W.mg_of X G a1)
  have C2 := c_pick (P := l.prog) (w := w) (base := base) T C0 F2 b2 (PySem.W.mg_of X G a2)
  have C3 := c_row (P := l.prog) (w := w) (base := base) T C2 F3 b3 (PySem.W.mg_of X G a3)
  have C4 := c_marker (P := l.prog) (w := w) (base := base) T  F4 b4 (PySem.W.mg_of X G a4)
  have C5 := c_linner (P := l.prog) (w := w) (base := base) T  F5 b5 (PySem.W.mg_of X G a5)
  have C6 := c_lsign (P := l.prog) (w := w) (base := base)  F6 b6 (PySem.W.mg_of X G a6)
  have C7 := c_lclose (P := l.prog) (w := w) (base := base) T C6 F7 b7 (PySem.W.mg_of X G a7)
  have C8 := c_leffect (P := l.prog) (w := w) (base := base) C4 C7 F8 b8 (PySem.W.mg_of X G a8)
  have C9 := c_lfirst (P := l.prog) (w := w) (base := base) T C6 F9 b9 (PySem.W.mg_of X G a9)
  have C10 := c_lopens (P := l.prog) (w := w) (base := base) T C6 C5 F10 b10 (PySem.W.mg_of X G a10)
  have C11 := c_llayout (P := l.prog) (w := w) (base := base) T C6 C10 C9 C8 F11 b11 (PySem.W.mg_of X G a11)
  exact c_law T C1 C3 C11 C12 F14
theorem walk {l : PySem.W.OpenLaw} {q : Program} {loose : List Str} {XP : (Str → Option Value) → Heap → Prop} {YP : World → Heap → Prop} {d : DefRec} {K : Params → PySem.W.Frag} (hn : l.most = some 63) (hdf : d.params.defaults = [])
    (hY : ∀ (w : World) (h : Heap), YP w h → (K w.params).In h)
    (F : ∀ (w : World) (mg : Str → Option Value) (fa : Addr) (h : Heap), (K w.params).In h → h.Ns mainGlobals mg → mg d.name = some (.ref fa) →
      ∃ fd : FuncData, (∀ (s : Shared) (u : Value), BindsTo s fd ⟨[u], []⟩ [("script", u)]) ∧ ∀ base : Heap, (K w.params).In base → base.Ns mainGlobals mg → FnOk l.prog w (K w.params) mg base CX0 7 fa fd ["script"] (spLaw (K w.params))) :
    PySem.W.WalkO q loose XP YP l.row.toRowW d [] (fun f vs => PySem.call f vs) :=
  L2.walk_of (n := 63) (k := 7) (x := "script") (CX := fun _ => CX0) (sp := fun w => spLaw (K w.params)) hn (by decide) hdf ⟨rfl, by decide, by decide⟩ hY F (fun _ _ a ns hl _ hS => ⟨a, ns, rfl, hS, hl, fun _ => rfl⟩) fun _ _ _ _ _ z => z
end Toy
open PySem PySem.W PyProof.Rows
set_option maxRecDepth 100000 in
set_option maxHeartbeats 0 in
theorem PySem.Challenge.cw_needonce_k02_layout_by_its_rules_holds : PySem.Challenge.rw_needonce_k02_layout_by_its_rules.Holds := by
  w_on; o_law; k_head; (case hw => w_witness2)
  k_fill
  refine Toy.walk (l := PySem.Challenge.rw_needonce_k02_layout_by_its_rules) rfl rfl (fun w h Y => PySem.W.kIn_of Y) ?F
  case F =>
    intro w mg fa h KX G hmg
    refine' Toy.all_mk KX G hmg ?a0 ?l0 ?c0 ?k0 ?a1 ?l1 ?c1 ?k1 ?a2 ?l2 ?c2 ?k2 ?a3 ?l3 ?c3 ?k3 ?a4 ?l4 ?c4 ?k4 ?a5 ?l5 ?c5 ?k5 ?a6 ?l6 ?c6 ?k6 ?a7 ?l7 ?c7 ?k7 ?a8 ?l8 ?c8 ?k8 ?a9 ?l9 ?c9 ?k9 ?a10 ?l10 ?c10 ?k10 ?a11 ?l11 ?c11 ?k11 ?a12 ?l12 ?c12 ?k12 ?a13 ?l13 ?c13 ?k13 ?a14 ?l14 ?c14 ?k14 ?a15 ?i15 ?l15 ?c15 ?k15 ?a16 ?i16 ?l16 ?c16 ?k16 ?a17 ?i17 ?l17 ?c17 ?k17 ?a18 ?i18 ?l18 ?c18 ?k18 ?a19 ?i19 ?l19 ?c19 ?k19 ?a20 ?i20 ?l20 ?c20 ?k20 ?a21 ?i21 ?l21 ?c21 ?k21 ?a22 ?i22 ?l22 ?c22 ?k22 ?a23 ?i23 ?l23 ?c23 ?k23 ?a24 ?i24 ?l24 ?c24 ?k24 ?gtB ?ltB ?ctB ?vtB ?gtO ?ltO ?ctO ?vtO ?gd ?ld ?kd ?sd ?wd0 ?wd1 ?wd2 ?wd3 ?wd4 ?wd5 ?wd6 ?wd7 ?wd8 ?wd9 ?wd10 ?wd11 ?wd12 ?wd13 ?wd14 ?wd15 ?wd16 ?wd17 ?wd18 ?aCl ?pg ?hd ?po ?sa ?mk ?kc ?nC1 ?nA1 ?zlen ?zmin ?zint ?zrange ?zisinstance ?zlist ?zreversed ?zstr
    (case aCl => k_is)
    (case a0 => k_is); (case l0 => k_is); (case c0 => k_is); (case k0 => k_is)
    (case a1 => k_is); (case l1 => k_is); (case c1 => k_is); (case k1 => k_is)
    (case a2 => k_is); (case l2 => k_is); (case c2 => k_is); (case k2 => k_is)
    (case a3 => k_is); (case l3 => k_is); (case c3 => k_is); (case k3 => k_is)
    (case a4 => k_is); (case l4 => k_is); (case c4 => k_is); (case k4 => k_is)
    (case a5 => k_is); (case l5 => k_is); (case c5 => k_is); (case k5 => k_is)
    (case a6 => k_is); (case l6 => k_is); (case c6 => k_is); (case k6 => k_is)
    (case a7 => k_is); (case l7 => k_is); (case c7 => k_is); (case k7 => k_is)
    (case a8 => k_is); (case l8 => k_is); (case c8 => k_is); (case k8 => k_is)
    (case a9 => k_is); (case l9 => k_is); (case c9 => k_is); (case k9 => k_is)
    (case a10 => k_is); (case l10 => k_is); (case c10 => k_is); (case k10 => k_is)
    (case a11 => k_is); (case l11 => k_is); (case c11 => k_is); (case k11 => k_is)
    (case a12 => k_is); (case l12 => k_is); (case c12 => k_is); (case k12 => k_is)
    (case a13 => k_is); (case l13 => k_is); (case c13 => k_is); (case k13 => k_is)
    (case a14 => k_is); (case l14 => k_is); (case c14 => k_is); (case k14 => k_is)
    (case a15 => k_is); (case i15 => k_is); (case l15 => k_is); (case c15 => k_is); (case k15 => k_is)
    (case a16 => k_is); (case i16 => k_is); (case l16 => k_is); (case c16 => k_is); (case k16 => k_is)
    (case a17 => k_is); (case i17 => k_is); (case l17 => k_is); (case c17 => k_is); (case k17 => k_is)
    (case a18 => k_is); (case i18 => k_is); (case l18 => k_is); (case c18 => k_is); (case k18 => k_is)
    (case a19 => k_is); (case i19 => k_is); (case l19 => k_is); (case c19 => k_is); (case k19 => k_is)
    (case a20 => k_is); (case i20 => k_is); (case l20 => k_is); (case c20 => k_is); (case k20 => k_is)
    (case a21 => k_is); (case i21 => k_is); (case l21 => k_is); (case c21 => k_is); (case k21 => k_is)
    (case a22 => k_is); (case i22 => k_is); (case l22 => k_is); (case c22 => k_is); (case k22 => k_is)
    (case a23 => k_is); (case i23 => k_is); (case l23 => k_is); (case c23 => k_is); (case k23 => k_is)
    (case a24 => k_is); (case i24 => k_is); (case l24 => k_is); (case c24 => k_is); (case k24 => k_is)
    (case gtB => k_is); (case ltB => k_is); (case ctB => rfl); (case vtB => decide +kernel)
    (case gtO => k_is); (case ltO => k_is); (case ctO => rfl); (case vtO => decide +kernel)
    (case gd => k_is); (case ld => k_is); (case kd => exact ⟨⟨_, _, rfl, rfl⟩, ⟨_, _, rfl, rfl⟩, ⟨_, _, rfl, rfl⟩, ⟨_, _, rfl, rfl⟩, ⟨_, _, rfl, rfl⟩, ⟨_, _, rfl, rfl⟩, ⟨_, _, rfl, rfl⟩, trivial⟩); (case sd => rfl)
    (case wd0 => k_is); (case wd1 => k_is); (case wd2 => k_is); (case wd3 => k_is); (case wd4 => k_is); (case wd5 => k_is); (case wd6 => k_is); (case wd7 => k_is); (case wd8 => k_is); (case wd9 => k_is); (case wd10 => k_is); (case wd11 => k_is); (case wd12 => k_is); (case wd13 => k_is); (case wd14 => k_is); (case wd15 => k_is); (case wd16 => k_is); (case wd17 => k_is); (case wd18 => k_is)
    (case pg => k_is); (case hd => k_is); (case po => k_is); (case sa => k_is); (case mk => k_is); (case kc => k_is); (case nC1 => k_is); (case nA1 => k_is)
    (case zlen => k_is); (case zmin => k_is); (case zint => k_is); (case zrange => k_is); (case zisinstance => k_is); (case zlist => k_is); (case zreversed => k_is); (case zstr => k_is)
    all_goals exact (0 : Nat)

