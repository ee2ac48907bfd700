import PyProof.Rows.All
import Wide.All
import OpenK.AllK
import Wide.FinOn
import HandS.ForMost
import HandS.Deep
import HandS.IsInst
import HandS.FStr
import HandS.Conv
import HandS.Strs
import HandS.SetFor
import HandS.TupSets
import HandS.DictComp
import HandS.Star
import HandS.ClsMeth
import HandS.More
import HandS.SortInts
import HandS.Zip
import HandS.SlotsOwn
import HandS.Property
import HandS.Codes
import HandS.GenYield
import HandS.GenCall
import HandS.GenList
import PyProof.ReprRoads
import PyProof.ReprLen
import HandS.Rev
import HandS.Style
import HandS.Lambda
import HandS.EndBits
import KE.KNestM
import HandS.StrMore
import PySem.Challenge.RW_countcycles_k44_needless_rules_left_out
set_option Elab.async false
set_option linter.all false
set_option maxRecDepth 100000
set_option maxHeartbeats 16000000
namespace CC
open PySem L2
def tp (i : Nat) : Stmt := PySem.Challenge.pw_countcycles_k44_needless_rules_left_out.main.body.getD i (.Pass ⟨0, 0, 0, 0⟩)
abbrev sCell : Stmt := tp 30
/-- a source of draws: three numbers -/
def IsSrc (o : HO) : Prop := ∃ a b c : Int, o = .lst [.int a, .int b, .int c] ∧ 0 ≤ b ∧ b < 2147483648
def spCell (K : PySem.W.Frag) : Sp := fun vs H Q _ => ∃ (a : Addr) (ns : List Int) (k : Nat), vs = [.ref a, .int (k : Int)] ∧ SqL K H a (ns.map V.int) ∧ ∀ z : Int, Q (.int z) H
def spSource : Sp := fun vs H Q _ => ∃ z : Int, vs = [.int z] ∧ ∀ p o, H p = none → IsSrc o → Q (.ref p) (upd H p o)
def spDraw : Sp := fun vs H Q _ => ∃ (s : Addr) (m : Int) (o : HO), vs = [.ref s, .int m] ∧ H s = some o ∧ IsSrc o ∧ 0 < m ∧ m < 1000000 ∧ ∀ (r : Int) (o' : HO), 0 ≤ r → r < m → IsSrc o' → Q (.int r) (upd H s o')
section
variable {P : Program} {w : World} {K : PySem.W.Frag} {mg : Str → Option Value} {base : Heap}
theorem scCell : FnScope ["_law_script", "_law_k"] ["_law_script", "_law_k"] (defScope sCell) := ⟨rfl, rfl, rfl, by decide +kernel, rfl, by decide +kernel, by decide +kernel⟩
theorem ok_cell {f : Addr} {fd : FuncData} {k : Nat} (F : Fun K "_law_cell_at" "_law_cell_at" sCell f fd) (ml : mg "len" = none) : FnOk P w K mg base CX0 (k + 1) f fd ["_law_script", "_law_k"] (spCell K) := by
  refine F.ok scCell (fun vs H Q E h => ?_) (fun cdv A outer s H vs Q E hr h => ?_)
  · obtain ⟨a, ns, k, rfl, _⟩ := h
    rfl
  · obtain ⟨a, ns, k, rfl, hS, q⟩ := h
    refine ⟨_, pss_cons (ps_if (pt_cmpR op_lt (pv 1) (pe_callB call_len_seq (by rfl) ml PySem.boot_len (pa_cons (pv 0) pa_nil)) (nomark _)) (pss_one (ps_ret (pe_ix ix_list (pv 0) (pv 1) (fun _ _ => rfl)))) pss_nil) (pss_one (ps_ret pe_int)), ?_⟩
    refine ⟨_, rfl, _, rfl, a, _, rfl, .inl hS, _, _, rfl, rfl, _, rfl, ite2 (fun e => ?_) (fun e => ?_)⟩
    · have e1 : (k : Int) < ((ns.map V.int).length : Int) := of_decide_eq_true e
      have e2 : k < ns.length := by
        rw [List.length_map] at e1
        omega
      have e3 : (ns.map V.int)[k]? = some (.int ns[k]) := by
        rw [List.getElem?_map, List.getElem?_eq_getElem e2]
        rfl
      exact ⟨_, rfl, _, rfl, a, _, _, _, rfl, rfl, hS, atI_nat e3, q _⟩
    · exact q 0
end
end CC
namespace CC
open PySem L2
/-! ### data in the heap -/
section
variable {K : PySem.W.Frag} {H H' : Hp}
theorem same_rd {a : Addr} {u : HO} (e : Same H H') (h : Rd H a u) : Rd H' a u := by
  rcases h with h | ⟨o, h⟩
  · exact .inl (e a _ h)
  · exact .inr ⟨o, e a _ h⟩
theorem same_l {a : Addr} {xs : List V} (e : Same H H') (h : SqL K H a xs) : SqL K H' a xs := by
  rcases h with h | h
  · exact .inl (same_rd e h)
  · exact .inr h
theorem same_t {a : Addr} {xs : List V} (e : Same H H') (h : SqT K H a xs) : SqT K H' a xs := by
  rcases h with h | h
  · exact .inl (same_rd e h)
  · exact .inr h
mutual
theorem dp_same (e : Same H H') : ∀ (d : PyData) (v : V), Dp K H v d → Dp K H' v d
  | .none, _, h => by cases h; exact .non
  | .bool b, _, h => by cases h; exact .bl b
  | .int i, _, h => by cases h; exact .int i
  | .str x, _, h => by cases h; exact .str x
  | .list ds, _, h => by
    cases h with
    | lst hs ha => exact .lst (same_l e hs) (dps_same e ds _ ha)
  | .tuple ds, _, h => by
    cases h with
    | tup hs ha => exact .tup (same_t e hs) (dps_same e ds _ ha)
  | .dict _, _, h => by cases h
theorem dps_same (e : Same H H') : ∀ (ds : List PyData) (vs : List V), DpAll K H vs ds → DpAll K H' vs ds
  | [], _, h => by cases h; exact .nil
  | d :: ds, _, h => by
    cases h with
    | cons h1 h2 => exact .cons (dp_same e d _ h1) (dps_same e ds _ h2)
end
theorem dps_len : ∀ {ds : List PyData} {vs : List V}, DpAll K H vs ds → vs.length = ds.length
  | [], _, h => by cases h; rfl
  | d :: ds, _, h => by
    cases h with
    | cons h1 h2 => exact congrArg (· + 1) (dps_len h2)
theorem dps_at : ∀ {ds : List PyData} {vs : List V} {i : Nat} {v : V}, DpAll K H vs ds → vs[i]? = some v → ∃ d, ds[i]? = some d ∧ Dp K H v d
  | [], _, i, v, h, e => by
    cases h
    simp at e
  | d :: ds, _, 0, v, h, e => by
    cases h with
    | cons h1 h2 => exact ⟨d, rfl, by simp at e; subst e; exact h1⟩
  | d :: ds, _, i + 1, v, h, e => by
    cases h with
    | cons h1 h2 => exact dps_at (i := i) h2 (by simpa using e)
theorem dps_to : ∀ {ds : List PyData} {vs : List V} {i : Nat} {d : PyData}, DpAll K H vs ds → ds[i]? = some d → ∃ v, vs[i]? = some v ∧ Dp K H v d
  | [], _, i, v, h, e => by
    cases h
    simp at e
  | d :: ds, _, 0, v, h, e => by
    cases h with
    | cons h1 h2 => exact ⟨_, rfl, by simp at e; subst e; exact h1⟩
  | d :: ds, _, i + 1, v, h, e => by
    cases h with
    | cons h1 h2 => exact dps_to (i := i) h2 (by simpa using e)
theorem dps_app : ∀ {ds es : List PyData} {vs us : List V}, DpAll K H vs ds → DpAll K H us es → DpAll K H (vs ++ us) (ds ++ es)
  | [], _, _, _, h, g => by
    cases h
    exact g
  | d :: ds, _, _, _, h, g => by
    cases h with
    | cons h1 h2 => exact .cons h1 (dps_app h2 g)
theorem dps_take : ∀ {ds : List PyData} {vs : List V} (n : Nat), DpAll K H vs ds → DpAll K H (vs.take n) (ds.take n)
  | _, _, 0, _ => .nil
  | [], _, n + 1, h => by
    cases h
    exact .nil
  | d :: ds, _, n + 1, h => by
    cases h with
    | cons h1 h2 => exact .cons h1 (dps_take n h2)
theorem dps_drop : ∀ {ds : List PyData} {vs : List V} (n : Nat), DpAll K H vs ds → DpAll K H (vs.drop n) (ds.drop n)
  | _, _, 0, h => h
  | [], _, n + 1, h => by
    cases h
    exact .nil
  | d :: ds, _, n + 1, h => by
    cases h with
    | cons h1 h2 => exact dps_drop n h2
theorem dps_one {v : V} {d : PyData} (h : Dp K H v d) : DpAll K H [v] [d] := .cons h .nil
theorem dps_ints : ∀ ns : List Int, DpAll K H (ns.map V.int) (ns.map PyData.int)
  | [] => .nil
  | n :: ns => .cons (.int n) (dps_ints ns)
theorem dps_bls : ∀ ns : List Bool, DpAll K H (ns.map V.bl) (ns.map PyData.bool)
  | [] => .nil
  | n :: ns => .cons (.bl n) (dps_bls ns)
theorem dp_l {v : V} {ds : List PyData} (h : Dp K H v (.list ds)) : ∃ p vs, v = .ref p ∧ SqL K H p vs ∧ DpAll K H vs ds := by
  cases h with
  | lst hs ha => exact ⟨_, _, rfl, hs, ha⟩
theorem dp_t {v : V} {ds : List PyData} (h : Dp K H v (.tuple ds)) : ∃ p vs, v = .ref p ∧ SqT K H p vs ∧ DpAll K H vs ds := by
  cases h with
  | tup hs ha => exact ⟨_, _, rfl, hs, ha⟩
theorem dp_int {v : V} {i : Int} (h : Dp K H v (.int i)) : v = .int i := by
  cases h
  rfl
theorem dp_str {v : V} {i : Str} (h : Dp K H v (.str i)) : v = .str i := by
  cases h
  rfl
theorem same_new {p : Addr} {o : HO} (h : H p = none) : Same H (upd H p o) := fun b x e => by
  rw [upd_ne (ne_of_none e h)]
  exact e
theorem same_mut {p : Addr} {o : HO} (e : Same H H') (h : H p = none) : Same H (upd H' p o) := fun b x q => by
  rw [upd_ne (ne_of_none q h)]
  exact e b x q
/-- the heap without one object -/
def wo (H : Hp) (s : Addr) : Hp := fun b => if b = s then none else H b
theorem wo_at (s : Addr) : wo H s s = none := by
  unfold wo
  rw [if_pos rfl]
theorem wo_ne {s b : Addr} (h : b ≠ s) : wo H s b = H b := by
  unfold wo
  rw [if_neg h]
theorem wo_le (s : Addr) : Same (wo H s) H := fun b o e => by
  by_cases h : b = s
  · subst h
    rw [wo_at] at e
    cases e
  · rw [wo_ne h] at e
    exact e
theorem wo_upd (s : Addr) (o : HO) : wo (upd H s o) s = wo H s := by
  funext b
  by_cases h : b = s
  · subst h
    rw [wo_at, wo_at]
  · rw [wo_ne h, wo_ne h, upd_ne h]
theorem wo_upd_ne {s p : Addr} (o : HO) (h : p ≠ s) : wo (upd H p o) s = upd (wo H s) p o := by
  funext b
  by_cases hb : b = s
  · subst hb
    rw [wo_at, upd_ne (Ne.symm h), wo_at]
  · rw [wo_ne hb]
    by_cases hp : b = p
    · subst hp
      rw [upd_same, upd_same]
    · rw [upd_ne hp, upd_ne hp, wo_ne hb]
theorem wo_same {s : Addr} (e : Same H H') : Same (wo H s) (wo H' s) := fun b o q => by
  by_cases h : b = s
  · subst h
    rw [wo_at] at q
    cases q
  · rw [wo_ne h] at q ⊢
    exact e b o q
theorem wo_ext {s : Addr} {o : HO} (e : Same (wo H s) (wo H' s)) (h' : H' s = some o) (h : H s = some o) : Same H H' := fun b u q => by
  by_cases hb : b = s
  · subst hb
    rw [h] at q
    rw [h', q]
  · have := e b u (by rw [wo_ne hb]; exact q)
    rw [wo_ne hb] at this
    exact this
end
/-! ### rules and pairs as data -/
structure R where
  k : Bool
  a : Nat
  b : Nat
  deriving DecidableEq
def kd (k : Bool) : Str := if k then "settles" else "within"
def R.d (r : R) : PyData := .tuple [.str (kd r.k), .int (r.a : Int), .int (r.b : Int)]
def prd (p : Nat × Nat) : PyData := .tuple [.int (p.1 : Int), .int (p.2 : Int)]
theorem kd_inj {j k : Bool} (h : kd j = kd k) : j = k := by
  revert h
  cases j <;> cases k <;> decide +kernel
theorem kd_ok (k : Bool) : PyData.strOk (kd k) = true := by
  cases k <;> decide +kernel
theorem rd_shaped (r : R) : SeqAt.shaped r.d = true := by
  show (r.d.canLay0 && decide (r.d.depth ≤ 64)) = true
  simp [R.d, PyData.canLay0, PyData.canLayAll0, PyData.depth, PyData.depthAll, kd_ok]
theorem prd_shaped (r : Nat × Nat) : SeqAt.shaped (prd r) = true := by
  show ((prd r).canLay0 && decide ((prd r).depth ≤ 64)) = true
  simp [prd, PyData.canLay0, PyData.canLayAll0, PyData.depth, PyData.depthAll]
theorem lay_all : ∀ {ds : List PyData}, (∀ d ∈ ds, SeqAt.shaped d = true) → PyData.canLayAll0 ds = true ∧ PyData.depthAll ds ≤ 64
  | [], _ => by simp [PyData.canLayAll0, PyData.depthAll]
  | d :: ds, h => by
    have h1 := h d (List.mem_cons_self)
    have h2 := lay_all (ds := ds) fun e he => h e (List.mem_cons_of_mem _ he)
    have h1 : (d.canLay0 && decide (d.depth ≤ 64)) = true := h1
    rw [Bool.and_eq_true, decide_eq_true_eq] at h1
    simp only [PyData.canLayAll0, PyData.depthAll, Bool.and_eq_true]
    refine ⟨⟨h1.1, h2.1⟩, ?_⟩
    omega
theorem rds_shaped (rs : List R) : SeqAt.shaped (.list (rs.map R.d)) = true := by
  have h : PyData.canLayAll0 (rs.map R.d) = true ∧ PyData.depthAll (rs.map R.d) ≤ 2 := by
    induction rs with
    | nil => simp [PyData.canLayAll0, PyData.depthAll]
    | cons r rs ih =>
      simp only [List.map_cons, PyData.canLayAll0, PyData.depthAll, R.d, PyData.canLay0, PyData.depth, Bool.and_eq_true]
      refine ⟨⟨by simp [kd_ok], ih.1⟩, ?_⟩
      have := ih.2
      omega
  show ((PyData.list (rs.map R.d)).canLay0 && decide ((PyData.list (rs.map R.d)).depth ≤ 64)) = true
  simp only [PyData.canLay0, PyData.depth, h.1, Bool.true_and]
  exact decide_eq_true (by have := h.2; omega)
theorem prds_shaped (rs : List (Nat × Nat)) : SeqAt.shaped (.list (rs.map prd)) = true := by
  have h : PyData.canLayAll0 (rs.map prd) = true ∧ PyData.depthAll (rs.map prd) ≤ 2 := by
    induction rs with
    | nil => simp [PyData.canLayAll0, PyData.depthAll]
    | cons r rs ih =>
      simp only [List.map_cons, PyData.canLayAll0, PyData.depthAll, prd, PyData.canLay0, PyData.depth, Bool.and_eq_true]
      refine ⟨⟨by simp, ih.1⟩, ?_⟩
      have := ih.2
      omega
  show ((PyData.list (rs.map prd)).canLay0 && decide ((PyData.list (rs.map prd)).depth ≤ 64)) = true
  simp only [PyData.canLay0, PyData.depth, h.1, Bool.true_and]
  exact decide_eq_true (by have := h.2; omega)
theorem rd_eqv (r s : R) : PyData.eqv r.d s.d = decide (r = s) := by
  obtain ⟨k, a, b⟩ := r
  obtain ⟨k', a', b'⟩ := s
  simp only [R.d, PyData.eqv, PyData.eqvAll, Bool.and_true]
  by_cases h : (⟨k, a, b⟩ : R) = ⟨k', a', b'⟩
  · rw [decide_eq_true h]
    cases h
    simp
  · rw [decide_eq_false h]
    by_cases hk : k = k'
    · subst hk
      have : ¬ (a = a' ∧ b = b') := fun z => h (by rw [z.1, z.2])
      simp
      intro z
      omega
    · have : ¬ kd k = kd k' := fun z => hk (kd_inj z)
      simp [this]
theorem prd_eqv (r s : Nat × Nat) : PyData.eqv (prd r) (prd s) = decide (r = s) := by
  obtain ⟨a, b⟩ := r
  obtain ⟨a', b'⟩ := s
  simp only [prd, PyData.eqv, PyData.eqvAll, Bool.and_true]
  by_cases h : (a, b) = (a', b')
  · rw [decide_eq_true h]
    cases h
    simp
  · rw [decide_eq_false h]
    have : ¬ (a = a' ∧ b = b') := fun z => h (by rw [z.1, z.2])
    simp
    intro z
    omega
theorem rds_any (rs : List R) (r : R) : ((rs.map R.d).any fun z => PyData.eqv z r.d) = decide (r ∈ rs) := by
  induction rs with
  | nil => simp
  | cons x rs ih =>
    rw [List.map_cons, List.any_cons, ih, rd_eqv]
    by_cases h : x = r
    · simp [h]
    · have : ¬ r = x := fun z => h z.symm
      simp [h, this]
theorem prds_any (rs : List (Nat × Nat)) (r : Nat × Nat) : ((rs.map prd).any fun z => PyData.eqv z (prd r)) = decide (r ∈ rs) := by
  induction rs with
  | nil => simp
  | cons x rs ih =>
    rw [List.map_cons, List.any_cons, ih, prd_eqv]
    by_cases h : x = r
    · simp [h]
    · have : ¬ r = x := fun z => h z.symm
      simp [h, this]
section
variable {K : PySem.W.Frag} {H H' : Hp}
theorem dp_r {v : V} {r : R} (h : Dp K H v r.d) : ∃ p, v = .ref p ∧ SqT K H p [.str (kd r.k), .int (r.a : Int), .int (r.b : Int)] := by
  obtain ⟨p, vs, rfl, hs, ha⟩ := dp_t h
  cases ha with
  | cons h1 h2 =>
    cases h2 with
    | cons h2 h3 =>
      cases h3 with
      | cons h3 h4 =>
        cases h4
        cases dp_str h1
        cases dp_int h2
        cases dp_int h3
        exact ⟨p, rfl, hs⟩
theorem r_dp {p : Addr} {r : R} (h : SqT K H p [.str (kd r.k), .int (r.a : Int), .int (r.b : Int)]) : Dp K H (.ref p) r.d := .tup h (.cons (.str _) (.cons (.int _) (.cons (.int _) .nil)))
theorem dp_p {v : V} {r : Nat × Nat} (h : Dp K H v (prd r)) : ∃ p, v = .ref p ∧ SqT K H p [.int (r.1 : Int), .int (r.2 : Int)] := by
  obtain ⟨p, vs, rfl, hs, ha⟩ := dp_t h
  cases ha with
  | cons h1 h2 =>
    cases h2 with
    | cons h2 h3 =>
      cases h3
      cases dp_int h1
      cases dp_int h2
      exact ⟨p, rfl, hs⟩
theorem p_dp {p : Addr} {r : Nat × Nat} (h : SqT K H p [.int (r.1 : Int), .int (r.2 : Int)]) : Dp K H (.ref p) (prd r) := .tup h (.cons (.int _) (.cons (.int _) .nil))
theorem dps_rat {rs : List R} {vs : List V} {i : Nat} {v : V} (h : DpAll K H vs (rs.map R.d)) (e : vs[i]? = some v) : ∃ r, rs[i]? = some r ∧ Dp K H v r.d := by
  obtain ⟨d, h1, h2⟩ := dps_at h e
  rw [List.getElem?_map] at h1
  cases q : rs[i]? with
  | none =>
    rw [q] at h1
    cases h1
  | some r =>
    rw [q] at h1
    cases h1
    exact ⟨r, rfl, h2⟩
theorem dps_pat {rs : List (Nat × Nat)} {vs : List V} {i : Nat} {v : V} (h : DpAll K H vs (rs.map prd)) (e : vs[i]? = some v) : ∃ r, rs[i]? = some r ∧ Dp K H v (prd r) := by
  obtain ⟨d, h1, h2⟩ := dps_at h e
  rw [List.getElem?_map] at h1
  cases q : rs[i]? with
  | none =>
    rw [q] at h1
    cases h1
  | some r =>
    rw [q] at h1
    cases h1
    exact ⟨r, rfl, h2⟩
end
end CC
namespace CC
open PySem L2
/-- what the top has left: the built-ins' names are free, the two constants -/
structure Glb (K : PySem.W.Frag) (mg : Str → Option Value) (kA : Addr) : Prop where
  len : mg "len" = none
  max : mg "max" = none
  min : mg "min" = none
  isi : mg "isinstance" = none
  int : mg "int" = none
  bool : mg "bool" = none
  str : mg "str" = none
  tup : mg "tuple" = none
  rng : mg "range" = none
  lst : mg "list" = none
  all : mg "all" = none
  set : mg "set" = none
  enu : mg "enumerate" = none
  rep : mg "repr" = none
  srt : mg "sorted" = none
  zip : mg "zip" = none
  any : mg "any" = none
  sum : mg "sum" = none
  rev : mg "reversed" = none
  dic : mg "dict" = none
  typ : mg "type" = none
  wid : ∃ t, mg "WIDEST" = some (.int 6 t)
  knd : mg "KINDS" = some (.ref kA)
  kseq : ∃ (o : Obj) (its : Array Value) (n : Nat), K.lookup kA = some o ∧ o.cls = .type "tuple" ∧ o.data = .seq its n ∧ its.size ≤ sizeLine ∧ Vals [.str "settles", .str "within"] its.toList
/-- a def of the top, as it stands -/
structure Df (K : PySem.W.Frag) (mg : Str → Option Value) (x : Str) (st : Stmt) (ps : List Str) where
  f : Addr
  fd : FuncData
  F : Fun K x x st f fd
  b : Binds K fd ps []
  g : mg x = some (.ref f)
/-- a def that keeps a promise -/
structure Cal (P : Program) (w : World) (K : PySem.W.Frag) (mg : Str → Option Value) (base : Heap) (x : Str) (ps : List Str) (sp : Sp) (l : Nat) where
  f : Addr
  fd : FuncData
  ok : ∀ k, l ≤ k → FnOk P w K mg base CX0 k f fd ps sp
  kp : PySem.W.keepIn K (.ref f) = true
  b : Binds K fd ps []
  g : mg x = some (.ref f)
def Df.cal {P : Program} {w : World} {K : PySem.W.Frag} {mg : Str → Option Value} {base : Heap} {x : Str} {st : Stmt} {ps : List Str} {sp : Sp} {l : Nat} (d : Df K mg x st ps) (h : ∀ k, FnOk P w K mg base CX0 (k + l) d.f d.fd ps sp) : Cal P w K mg base x ps sp l :=
  ⟨d.f, d.fd, fun k hk => (Nat.sub_add_cancel hk) ▸ h (k - l), d.F.kp, d.b, d.g⟩
abbrev sIsInt : Stmt := tp 3
abbrev sIsWidth : Stmt := tp 4
abbrev sIsCol : Stmt := tp 5
abbrev sIsRule : Stmt := tp 6
def spIsInt : Sp := fun vs H Q _ => ∃ z : Int, vs = [.int z] ∧ Q (.bl true) H
def spIsWidth : Sp := fun vs H Q _ => ∃ z : Nat, vs = [.int (z : Int)] ∧ 1 ≤ z ∧ z ≤ 6 ∧ Q (.bl true) H
def spIsCol : Sp := fun vs H Q _ => ∃ w z : Nat, vs = [.int (w : Int), .int (z : Int)] ∧ z < w ∧ Q (.bl true) H
/-- a rule for the width -/
def R.ok (w : Nat) (r : R) : Prop := r.a < w ∧ r.b < w ∧ r.a ≠ r.b
def spIsRule (K : PySem.W.Frag) : Sp := fun vs H Q _ => ∃ (w : Nat) (v : V) (r : R), vs = [.int (w : Int), v] ∧ Dp K H v r.d ∧ r.ok w ∧ Q (.bl true) H
section
variable {P : Program} {w : World} {K : PySem.W.Frag} {mg : Str → Option Value} {base : Heap} {kA : Addr}
theorem ty_tup {H : Hp} {p : Addr} {xs : List V} (h : SqT K H p xs) : TyX K H (.ref p) (.type "tuple") := by
  rcases h with (h | ⟨o, h⟩) | ⟨o, its, n, h, c, _⟩
  · exact .base (.tup h)
  · exact .fTuple h
  · exact .kTuple h c
theorem scIsInt : FnScope ["thing"] ["thing"] (defScope sIsInt) := ⟨rfl, rfl, rfl, by decide +kernel, rfl, by decide +kernel, by decide +kernel⟩
theorem ok_isint {f : Addr} {fd : FuncData} {k : Nat} (F : Fun K "is_an_integer" "is_an_integer" sIsInt f fd) (T : Glb K mg kA) : FnOk P w K mg base CX0 (k + 1) f fd ["thing"] spIsInt := by
  refine F.ok scIsInt (fun vs H Q E h => ?_) (fun cdv A outer s H vs Q E hr h => ?_)
  · obtain ⟨z, rfl, _⟩ := h
    rfl
  · obtain ⟨z, rfl, q⟩ := h
    refine ⟨_, pss_one (ps_ret (pe_and (pe_callB call_isi (by rfl) T.isi (by decide +kernel) (pa_cons (pv 0) (pa_cons (pe_bltn (v := .ty "int") (by rfl) T.int (by decide +kernel) rfl) pa_nil)))
      (pe_one (pe_not (pe_callB call_isi (by rfl) T.isi (by decide +kernel) (pa_cons (pv 0) (pa_cons (pe_bltn (v := .ty "bool") (by rfl) T.bool (by decide +kernel) rfl) pa_nil))))))), ?_⟩
    refine ⟨_, rfl, _, _, _, _, true, rfl, .ty _, .base (.int z), kit_ty (by decide +kernel), _, rfl, iteT ?_⟩
    exact ⟨_, rfl, _, _, _, _, false, rfl, .ty _, .base (.int z), kit_ty (by decide +kernel), _, rfl, q⟩
theorem scIsWidth : FnScope ["thing"] ["thing"] (defScope sIsWidth) := ⟨rfl, rfl, rfl, by decide +kernel, rfl, by decide +kernel, by decide +kernel⟩
theorem ok_iswidth {f : Addr} {fd : FuncData} {k : Nat} (F : Fun K "is_width" "is_width" sIsWidth f fd) (T : Glb K mg kA) (cI : Cal P w K mg base "is_an_integer" ["thing"] spIsInt 1) : FnOk P w K mg base CX0 (k + 2) f fd ["thing"] spIsWidth := by
  have GI := cI.ok (k + 1) (by omega)
  refine F.ok scIsWidth (fun vs H Q E h => ?_) (fun cdv A outer s H vs Q E hr h => ?_)
  · obtain ⟨z, rfl, _⟩ := h
    rfl
  · obtain ⟨z, rfl, h1, h2, q⟩ := h
    obtain ⟨tw, hw⟩ := T.wid
    refine ⟨_, pss_one (ps_ret (pe_and (pe_call GI hr rfl cI.g cI.kp cI.b .nil pass0 (pa_cons (pv 0) pa_nil))
      (pe_one (pe_chain op_le op_le pe_int (pv 0) (pe_glob (v := .int 6) rfl hw ⟨_, rfl⟩))))), ?_⟩
    refine ⟨_, rfl, _, rfl, _, rfl, iteT ?_⟩
    have e1 : decide ((1 : Int) ≤ (z : Int)) = true := decide_eq_true (by omega)
    have e2 : decide ((z : Int) ≤ (6 : Int)) = true := decide_eq_true (by omega)
    refine ⟨_, rfl, _, _, rfl, rfl, _, rfl, ?_⟩
    rw [e1]
    refine iteT ⟨_, _, rfl, rfl, ?_⟩
    show Q (.bl (decide ((z : Int) ≤ (6 : Int)))) H
    rw [e2]
    exact q
theorem scIsCol : FnScope ["width", "thing"] ["width", "thing"] (defScope sIsCol) := ⟨rfl, rfl, rfl, by decide +kernel, rfl, by decide +kernel, by decide +kernel⟩
theorem ok_iscol {f : Addr} {fd : FuncData} {k : Nat} (F : Fun K "is_column" "is_column" sIsCol f fd) (T : Glb K mg kA) (cI : Cal P w K mg base "is_an_integer" ["thing"] spIsInt 1) : FnOk P w K mg base CX0 (k + 2) f fd ["width", "thing"] spIsCol := by
  have GI := cI.ok (k + 1) (by omega)
  refine F.ok scIsCol (fun vs H Q E h => ?_) (fun cdv A outer s H vs Q E hr h => ?_)
  · obtain ⟨w, z, rfl, _⟩ := h
    rfl
  · obtain ⟨w, z, rfl, h1, q⟩ := h
    refine ⟨_, pss_one (ps_ret (pe_and (pe_call GI hr rfl cI.g cI.kp cI.b .nil pass0 (pa_cons (pv 1) pa_nil))
      (pe_one (pe_chain op_le op_lt pe_int (pv 1) (pv 0))))), ?_⟩
    refine ⟨_, rfl, _, rfl, _, rfl, iteT ?_⟩
    have e1 : decide ((0 : Int) ≤ (z : Int)) = true := decide_eq_true (by omega)
    have e2 : decide ((z : Int) < (w : Int)) = true := decide_eq_true (by omega)
    refine ⟨_, rfl, _, _, rfl, rfl, _, rfl, ?_⟩
    rw [e1]
    refine iteT ⟨_, rfl, _, _, rfl, rfl, ?_⟩
    show Q (.bl (decide ((z : Int) < (w : Int)))) H
    rw [e2]
    exact q
theorem scIsRule : FnScope ["width", "thing", "kind", "first", "second"] ["width", "thing"] (defScope sIsRule) := ⟨rfl, rfl, rfl, by decide +kernel, rfl, by decide +kernel, by decide +kernel⟩
theorem ok_isrule {f : Addr} {fd : FuncData} {k : Nat} (F : Fun K "is_rule" "is_rule" sIsRule f fd) (T : Glb K mg kA) 
 (cC : Cal P w K mg base "is_column" ["width", "thing"] spIsCol 2) : FnOk P w K mg base CX0 (k + 3) f fd ["width", "thing"] (spIsRule K) := by
  have GC := cC.ok (k + 2) (by omega)
  refine F.ok scIsRule (fun vs H Q E h => ?_) (fun cdv A outer s H vs Q E hr h => ?_)
  · obtain ⟨w, v, r, rfl, _⟩ := h
    rfl
  · obtain ⟨w, v, r, rfl, hd, ⟨h1, h2, h3⟩, q⟩ := h
    obtain ⟨p, rfl, hp⟩ := dp_r hd
    have hk : SqT K H kA [.str "settles", .str "within"] := .inr T.kseq
    have nd := scIsRule.nd
    refine ⟨_, pss_cons (ps_if (PW.pt (pw_or (pt_not (pt_val (pe_callB call_isi (by rfl) T.isi (by decide +kernel) (pa_cons (pv 1) (pa_cons (pe_bltn (v := .ty "tuple") (by rfl) T.tup (by decide +kernel) rfl) pa_nil)))))
          (pw_or1 (pt_cmpR op_ne (pe_callB call_len_seq (by rfl) T.len PySem.boot_len (pa_cons (pv 1) pa_nil)) pe_int (nomark _))))) (pss_one (ps_ret pe_bl)) pss_nil)
      (pss_cons (ps_asg (pv 1) (pg_tup rfl (pgs_cons (pg_name (i := 2) nd rfl (.inl rfl)) (pgs_cons (pg_name (i := 3) nd rfl (.inl rfl)) (pgs_cons (pg_name (i := 4) nd rfl (.inl rfl)) pgs_nil)))))
      (pss_cons (ps_if (PW.pt (pw_or (pt_not (pt_val (pe_callB call_isi (by rfl) T.isi (by decide +kernel) (pa_cons (pv 2) (pa_cons (pe_bltn (v := .ty "str") (by rfl) T.str (by decide +kernel) rfl) pa_nil)))))
          (pw_or1 (pt_cmpR op_notIn_seq (pv 2) (pe_glob (v := .ref kA) rfl T.knd rfl) (by rfl))))) (pss_one (ps_ret pe_bl)) pss_nil)
      (pss_one (ps_ret (pe_and (pe_call GC hr rfl cC.g cC.kp cC.b .nil pass0 (pa_cons (pv 0) (pa_cons (pv 3) pa_nil)))
        (pe_and (pe_call GC hr rfl cC.g cC.kp cC.b .nil pass0 (pa_cons (pv 0) (pa_cons (pv 4) pa_nil))) (pe_one (pe_cmpR op_ne (pv 3) (pv 4) (nomark _))))))))), ?_⟩
    refine ⟨_, rfl, _, _, _, _, true, rfl, .ty _, ty_tup hp, kit_ty (by decide +kernel), _, rfl, iteF ?_⟩
    refine ⟨_, rfl, p, _, rfl, .inr hp, rfl, _, rfl, iteF ?_⟩
    refine ⟨_, rfl, p, _, rfl, hp, rfl, _, _, rfl, _, _, rfl, _, _, rfl, rfl, ?_⟩
    refine ⟨_, rfl, _, _, _, _, true, rfl, .ty _, .base (.str _), kit_ty (by decide +kernel), _, rfl, iteF ?_⟩
    have ek : inV (.str (kd r.k)) [.str "settles", .str "within"] = true := by
      cases r.k <;> decide +kernel
    refine ⟨_, rfl, kA, _, rfl, .inr hk, rfl, rfl, _, rfl, ?_⟩
    rw [ek]
    refine iteF ?_
    refine ⟨_, rfl, _, rfl, w, r.a, rfl, h1, _, rfl, iteT ?_⟩
    refine ⟨_, rfl, _, rfl, w, r.b, rfl, h2, _, rfl, iteT ?_⟩
    refine ⟨_, rfl, _, rfl, rfl, ?_⟩
    have e3 : (!decide (V.int (r.a : Int) = V.int (r.b : Int))) = true := by
      rw [decide_eq_false (fun z => h3 (by injection z with z; omega))]
      rfl
    show Q (.bl (!decide (V.int (r.a : Int) = V.int (r.b : Int)))) H
    rw [e3]
    exact q
end
end CC
/-! A list comprehension of three clauses. -/
namespace C3
open PySem PySem.Spec PyProof.Rows L2
abbrev no : Value → Shared → Prop := fun _ _ => False
def turnOf (c : Expr) (k : Nat) (tg : Expr) (ps : Pos) (fs : List Expr) (env : Env) (acc : Value) (body : Sem Unit) (it : Value) : Sem Fin := do
  standAt ps
  match ← pyNext it with
  | none => pure (.done .next)
  | some v =>
    letOwnedTupleGo tg it v
    assign tg env v
    let mut ok := true
    for cd in fs do
      if ok then ok ← isTrue cd env (eval cd env)
    if ok then body
    again (.compLoop c k it acc env)
def nextOf (c : Expr) (k : Nat) (ix : Expr) (env : Env) (acc : Value) : Sem Unit := do
  let x ← eval ix env
  standAt ix.pos
  let x ← foldedSetIterable ix env x
  let _ ← runOwn (.compStart c k (← holding [x] (pyIter x)) acc env) env
def pushOf (ex : Expr) (env : Env) (acc : Value) : Sem Unit := do
  let _ ← call (.builtin "list.append") [acc, ← eval ex env]
section
variable {ex t0 i0 t1 i1 t2 i2 : Expr} {f0 f1 f2 : List Expr} {sc : Scope} {pos : Pos} {it acc : Value} {env : Env}
abbrev lc3 (ex t0 i0 t1 i1 t2 i2 : Expr) (f0 f1 f2 : List Expr) (sc : Scope) (pos : Pos) : Expr := .ListComp ex [⟨t0, i0, f0, 0⟩, ⟨t1, i1, f1, 0⟩, ⟨t2, i2, f2, 0⟩] sc pos
theorem turn0 : compTurn (lc3 ex t0 i0 t1 i1 t2 i2 f0 f1 f2 sc pos) 0 it acc env = turnOf (lc3 ex t0 i0 t1 i1 t2 i2 f0 f1 f2 sc pos) 0 t0 i0.pos f0 env acc (nextOf (lc3 ex t0 i0 t1 i1 t2 i2 f0 f1 f2 sc pos) 1 i1 env acc) it := by
  unfold turnOf
  refine congrArg (standAt i0.pos >>= ·) (funext fun _ => congrArg (pyNext it >>= ·) (funext fun r => ?_))
  cases r with
  | none => rfl
  | some v =>
    refine congrArg (letOwnedTupleGo t0 it v >>= ·) (funext fun _ => congrArg (assign t0 env v >>= ·) (funext fun _ => ?_))
    refine congrArg (fun k => forIn f0 true (fun c r => if r = true then do let ok ← isTrue c env (eval c env); pure (ForInStep.yield ok) else pure (ForInStep.yield r)) >>= k) (funext fun ok => ?_)
    cases ok with
    | false => rfl
    | true =>
      unfold nextOf
      simp only [bind_assoc, pure_bind, if_true]
      rfl
theorem turn1 : compTurn (lc3 ex t0 i0 t1 i1 t2 i2 f0 f1 f2 sc pos) 1 it acc env = turnOf (lc3 ex t0 i0 t1 i1 t2 i2 f0 f1 f2 sc pos) 1 t1 i1.pos f1 env acc (nextOf (lc3 ex t0 i0 t1 i1 t2 i2 f0 f1 f2 sc pos) 2 i2 env acc) it := by
  unfold turnOf
  refine congrArg (standAt i1.pos >>= ·) (funext fun _ => congrArg (pyNext it >>= ·) (funext fun r => ?_))
  cases r with
  | none => rfl
  | some v =>
    refine congrArg (letOwnedTupleGo t1 it v >>= ·) (funext fun _ => congrArg (assign t1 env v >>= ·) (funext fun _ => ?_))
    refine congrArg (fun k => forIn f1 true (fun c r => if r = true then do let ok ← isTrue c env (eval c env); pure (ForInStep.yield ok) else pure (ForInStep.yield r)) >>= k) (funext fun ok => ?_)
    cases ok with
    | false => rfl
    | true =>
      unfold nextOf
      simp only [bind_assoc, pure_bind, if_true]
      rfl
theorem turn2 : compTurn (lc3 ex t0 i0 t1 i1 t2 i2 f0 f1 f2 sc pos) 2 it acc env = turnOf (lc3 ex t0 i0 t1 i1 t2 i2 f0 f1 f2 sc pos) 2 t2 i2.pos f2 env acc (pushOf ex env acc) it := by rfl
end
section
variable {P : Program} {w : World} {A : Around} {R : Result → Shared → Prop} {s : Shared} {ex : Expr} {gs : List Comprehension} {sc : Scope} {pos : Pos} {k : Nat} {tg : Expr} {ps : Pos} {fs : List Expr} {it acc : Value} {env : Env} {body : Sem Unit}
theorem loopAny (e : compTurn (.ListComp ex gs sc pos) k it acc env = turnOf (.ListComp ex gs sc pos) k tg ps fs env acc body it) (J : Nat → Shared → Prop)
    (turn : ∀ n s, J n s → wpAny (model P w) A (pyNext it) (fun r s1 => match r with
      | none => R (.ok .next) s1
      | some v => wpAny (model P w) A (letOwnedTupleGo tg it v) (fun _ s2 => wpAny (model P w) A (assign tg env v) (fun _ s3 =>
          wpAny (model P w) A (forIn fs true fun c r => if r = true then do let ok ← isTrue c env (eval c env); pure (ForInStep.yield ok) else pure (ForInStep.yield r)) (fun ok s4 =>
            if ok = true then wpAny (model P w) A body (fun _ s5 => ∃ m, m < n ∧ J m s5) no s4 else ∃ m, m < n ∧ J m s4) no s3) no s2) no s1) no s)
    (n : Nat) (h : J n s) : codeAny (model P w) A (.compLoop (.ListComp ex gs sc pos) k it acc env) R s := by
  refine codeAny_loop rfl J (fun n s j => ?_) n h
  show wpAny _ A ((compTurn (.ListComp ex gs sc pos) k it acc env).onRaise (fun x => do noteFrame x env; theTreesLotGoes x)) _ _ s
  refine wpAny_noted ?_
  rw [e]
  unfold turnOf
  refine wpAny_bind (wpAny_standAt (wpAny_bind (thnF (turn n s j) fun r s1 h1 => ?_)))
  cases r with
  | none => exact wpAny_pure h1
  | some v =>
    refine wpAny_bind (thnF h1 fun _ s2 h2 => ?_)
    refine wpAny_bind (thnF h2 fun _ s3 h3 => wpAny_bind (thnF h3 fun ok s4 h4 => ?_))
    cases ok with
    | false => exact wpAny_pure ⟨rfl, h4⟩
    | true =>
      first
        | exact wpAny_bind (thnF h4 fun _ s5 h5 => wpAny_pure ⟨rfl, h5⟩)
        | exact wpAny_bind (wpAny_bind (thnF h4 fun _ s5 h5 => wpAny_pure (wpAny_pure ⟨rfl, h5⟩)))
end
/-! ### a clause within the block -/
abbrev TB := L2.St → Hp → (Hp → Prop) → Prop
def tPush (te : TE) (D : Addr) : TB := fun σ H N => te σ H fun y H1 => ∃ l, H1 D = some (.lst l) ∧ l.length < sizeLine ∧ N (upd H1 D (.lst (l ++ [y])))
def tTurn (J : It) (g : TG) (tt : TT) (vs : List Nat) (b : TB) (σ : L2.St) (W : Nat → Nat → Hp → Prop) (N : Hp → Prop) : Prop := ∀ i m H, W i m H →
  (J.stop i H ∧ N H) ∨ (J.go i H ∧ ∃ M : Hp → Prop, (∀ H', M H' → ∃ m', m' < m ∧ W (i + 1) m' H') ∧ ∀ x H', J.yld i H x H' → g x (wipe σ vs) H' fun τ H1 => wipe τ vs = wipe σ vs ∧ tt τ H1 fun y H2 => if y = true then b τ H2 M else M H2)
def tCl (wi : TI) (g : TG) (tt : TT) (vs : List Nat) (b : TB) : TB := fun σ H N => wi σ H fun J H1 => ∃ W : Nat → Nat → Hp → Prop, (∃ m, W 0 m H1) ∧ tTurn J g tt vs b σ W N
section
variable {X : Cx} {s0 : Shared} {H0 : Hp} {sc : Scope} {ce : Env} {fp : List Addr}
abbrev Bk (X : Cx) (s0 : Shared) (H0 : Hp) (sc : Scope) (ce : Env) (fp : List Addr) : Cx := X.blk s0 H0 sc ce fp
/-- what the body of a clause does, and which slots it forgets -/
def Does (X : Cx) (s0 : Shared) (H0 : Hp) (sc : Scope) (ce : Env) (fp : List Addr) (body : Sem Unit) (t : TB) (us : List Nat) : Prop :=
  ∀ (pins : List (Addr × Obj)) (s : Shared) (σ : L2.St) (H : Hp) (N : Hp → Prop), Inv (Bk X s0 H0 sc ce fp) pins σ H s → t σ H N →
    wpAny (model X.prog X.w) X.A body (fun _ s' => ∃ H', Inv (Bk X s0 H0 sc ce fp) pins (wipe σ us) H' s' ∧ N H') no s
theorem does_push {ex : Expr} {te : TE} {D : Addr} (pe : PE (Bk X s0 H0 sc ce fp) ex te) : Does X s0 H0 sc ce fp (pushOf ex ce (.ref D)) (tPush te D) [] := by
  intro pins s σ H N I h
  unfold pushOf
  refine wpAny_bind (thnF (pe.run pins s σ H _ I h) fun z s1 ⟨y, H1, I1, r, l, hl, hz, n⟩ => ?_)
  exact wpAny_bind (thnF (app_ok (E := no) (X := Bk X s0 H0 sc ce fp) (Q := fun _ s' => ∃ H', Inv (Bk X s0 H0 sc ce fp) pins (wipe σ []) H' s' ∧ N H') I1 hl hz r fun s2 I2 => ⟨_, I2, n⟩) fun _ s2 q => wpAny_pure q)
theorem level {ex : Expr} {gs : List Comprehension} {sb : Scope} {pos : Pos} {k : Nat} {tg : Expr} {ps : Pos} {fs : List Expr} {acc : Value} {body : Sem Unit} {g : TG} {tt : TT} {b : TB} {vs us : List Nat} (hc : X.calm = true) (te : ∀ it, compTurn (.ListComp ex gs sb pos) k it acc ce = turnOf (.ListComp ex gs sb pos) k tg ps fs ce acc body it)
    (pg : PG (Bk X s0 H0 sc ce fp) tg g) (pt : PTs (Bk X s0 H0 sc ce fp) fs tt) (bd : Does X s0 H0 sc ce fp body b us) (sub : ∀ i ∈ us, i ∈ vs)
    {pins : List (Addr × Obj)} {s : Shared} {σ : L2.St} {H : Hp} {N : Hp → Prop} {it : Addr} {fq : List Addr} {tn : Nat → Heap → Prop} {J : It} {W : Nat → Nat → Hp → Prop} {m : Nat} {R : Result → Shared → Prop}
    (I : Inv (Bk X s0 H0 sc ce fp) pins σ H s) (T : Turn X.prog X.w X.K tg J fq it tn) (st : tn 0 s.heap) (fo : ∀ b ∈ fq, FpOk (Bk X s0 H0 sc ce fp) pins H b) (w0 : W 0 m H) (tu : tTurn J g tt vs b σ W N)
    (fin : ∀ s' H', Inv (Bk X s0 H0 sc ce fp) pins (wipe σ vs) H' s' → N H' → R (.ok .next) s') :
    codeAny (model X.prog X.w) X.A (.compLoop (.ListComp ex gs sb pos) k (.ref it) acc ce) R s := by
  have fok : ∀ {H' : Hp}, (∀ b ∈ fq, H' b = none) → ∀ b ∈ fq, FpOk (Bk X s0 H0 sc ce fp) pins H' b := fun hn b hb => ⟨hn b hb, (fo b hb).2⟩
  refine loopAny (te _) (fun n s' => ∃ i H', Inv (Bk X s0 H0 sc ce fp) pins (wipe σ vs) H' s' ∧ tn i s'.heap ∧ (∀ b ∈ fq, H' b = none) ∧ W i n H') ?_ m ⟨0, H, I.weak (wipe_length _ _) (fun j v e => (wipe_some e).1), st, fun b hb => (fo b hb).1, w0⟩
  rintro n s1 ⟨i, H1, I1, st1, n1, w1⟩
  rcases tu i n H1 w1 with ⟨stop, nn⟩ | ⟨go, M, hM, step⟩
  · refine thnF (T.done (Bk X s0 H0 sc ce fp) rfl rfl rfl hc i _ s1 _ H1 no I1 (fok n1) st1 stop) fun r s2 ⟨hr, I2⟩ => ?_
    subst hr
    exact fin s2 H1 I2 nn
  · refine thnF (T.item (Bk X s0 H0 sc ce fp) rfl rfl rfl hc i _ s1 _ H1 no I1 (fok n1) st1 go) fun r s2 ⟨u, hr, h2⟩ => ?_
    subst hr
    refine thnF h2 fun _ s3 ⟨x, H3, I3, r3, y3, st3, n3⟩ => ?_
    have I3' := I3.pinned (fok n3) (T.obj _ _ st3)
    refine thnF (pg.run _ s3 _ H3 x u _ I3' r3 (step x H3 y3)) fun _ s4 ⟨τ, H4, I4, hw, q4⟩ => ?_
    refine thnF (pt.run _ s4 τ H4 _ I4 q4) fun ok s5 ⟨H5, I5, q5⟩ => ?_
    have ended : ∀ {s' : Shared} {H' : Hp}, Inv (Bk X s0 H0 sc ce fp) (pins ++ pinsAt fq s3.heap) (wipe τ us) H' s' → M H' → ∃ m, m < n ∧ ∃ i H', Inv (Bk X s0 H0 sc ce fp) pins (wipe σ vs) H' s' ∧ tn i s'.heap ∧ (∀ b ∈ fq, H' b = none) ∧ W i m H' := fun {s' H'} I' mm => by
      obtain ⟨m', hm, w'⟩ := hM H' mm
      have kp : ∀ b ∈ fq, ∀ o, s3.heap.get? b = some o → s'.heap.get? b = some o ∧ H' b = none := fun b hb o e =>
        have z := I'.pin (b, o) (List.mem_append_right _ (List.mem_append_right _ (mem_pinsAt hb e)))
        ⟨z.1, z.2.1⟩
      refine ⟨m', hm, i + 1, H', I'.unpinned.weak (by rw [wipe_length, wipe_length, ← wipe_length τ vs, hw, wipe_length]) (fun j v e => ?_), T.keep _ _ _ st3 fun b hb o e => (kp b hb o e).1, fun b hb => ?_, w'⟩
      · rw [← hw] at e
        obtain ⟨e1, e2⟩ := wipe_some e
        rw [wipe_out fun z => e2 (sub j z)]
        exact e1
      · obtain ⟨o, e, _⟩ := T.obj _ _ st3 b hb
        exact (kp b hb o e).2
    cases ok with
    | false =>
      simp only [Bool.false_eq_true, if_false] at q5 ⊢
      exact ended (I5.weak (wipe_length _ _) fun j v e => (wipe_some e).1) q5
    | true =>
      simp only [if_true] at q5 ⊢
      exact thnF (bd _ s5 τ H5 _ I5 q5) fun _ s6 ⟨H6, I6, q6⟩ => ended I6 q6
theorem does_next {ex : Expr} {gs : List Comprehension} {sb : Scope} {pos : Pos} {k : Nat} {tg ix : Expr} {ps : Pos} {fs : List Expr} {D : Addr} {body : Sem Unit} {wi : TI} {g : TG} {tt : TT} {b : TB} {vs us : List Nat} (hc : X.calm = true) (hce : (Bk X s0 H0 sc ce fp).env = ce)
    (te : ∀ it, compTurn (.ListComp ex gs sb pos) k it (.ref D) ce = turnOf (.ListComp ex gs sb pos) k tg ps fs ce (.ref D) body it)
    (cs : ∀ {it : Value} {R : Result → Shared → Prop} {s : Shared}, codeAny (model X.prog X.w) X.A (.compLoop (.ListComp ex gs sb pos) k it (.ref D) ce) R s → wpAny (model X.prog X.w) X.A (pyIter it) (fun it' s' => codeAny (model X.prog X.w) X.A (.compLoop (.ListComp ex gs sb pos) k it' (.ref D) ce) R s') no s → codeAny (model X.prog X.w) X.A (.compStart (.ListComp ex gs sb pos) k it (.ref D) ce) R s)
    (fo : ∀ x, foldedSetIterable ix ce x = pure x) (pi : PI (Bk X s0 H0 sc ce fp) tg ix wi) (pg : PG (Bk X s0 H0 sc ce fp) tg g) (pt : PTs (Bk X s0 H0 sc ce fp) fs tt) (bd : Does X s0 H0 sc ce fp body b us) (sub : ∀ i ∈ us, i ∈ vs) :
    Does X s0 H0 sc ce fp (nextOf (.ListComp ex gs sb pos) k ix ce (.ref D)) (tCl wi g tt vs b) vs := by
  intro pins s σ H N I h
  unfold nextOf
  refine wpAny_bind (thnF (pi.run pins s σ H _ I h) fun xv s1 hx => ?_)
  refine wpAny_bind (wpAny_standAt (wpAny_bind (wpAny_of_eq (fo xv) (wpAny_bind (wpAny_holding (thnF hx fun itv s2 h2 => ?_))))))
  obtain ⟨it, fq, tn, J, H2, rfl, I2, T, st2, f2, W, ⟨m, w0⟩, tu⟩ := h2
  refine wpAny_bind (wpAny_runOwn ?_)
  rw [Around.mark_none]
  have lp : codeAny (model X.prog X.w) X.A (.compLoop (.ListComp ex gs sb pos) k (.ref it) (.ref D) ce) (fun r s' => match r with
      | .ok _ => ∃ H', Inv (Bk X s0 H0 sc ce fp) pins (wipe σ vs) H' s' ∧ N H'
      | .error _ => False) s2 := level hc te pg pt bd sub I2 T st2 f2 w0 tu fun s' H' I' n => ⟨H', I', n⟩
  refine codeAny_mono (cs lp (T.self X.A 0 _ _ _ st2 lp)) fun r s' hr => ?_
  cases r with
  | ok f => exact wpAny_pure hr
  | error e => exact hr.elim
end
section
variable {P : Program} {w : World} {A : Around} {R : Result → Shared → Prop} {s : Shared} {ex t0 i0 t1 i1 t2 i2 : Expr} {f0 f1 f2 : List Expr} {sc : Scope} {pos : Pos} {it acc : Value} {env : Env}
theorem start1 (h0 : codeAny (model P w) A (.compLoop (lc3 ex t0 i0 t1 i1 t2 i2 f0 f1 f2 sc pos) 1 it acc env) R s)
    (h : wpAny (model P w) A (pyIter it) (fun it' s' => codeAny (model P w) A (.compLoop (lc3 ex t0 i0 t1 i1 t2 i2 f0 f1 f2 sc pos) 1 it' acc env) R s') no s) :
    codeAny (model P w) A (.compStart (lc3 ex t0 i0 t1 i1 t2 i2 f0 f1 f2 sc pos) 1 it acc env) R s := by
  refine codeAny_of_tree ?_
  show wpAny _ _ ((compStart (lc3 ex t0 i0 t1 i1 t2 i2 f0 f1 f2 sc pos) 1 it acc env).onRaise (fun x => do noteFrame x env; standAt theWindowsPlace)) _ _ s
  refine wpAny_notedAt ?_
  unfold compStart
  show wpAny _ _ (ask >>= _) _ _ s
  refine wpAny_bind (wpAny_askSetting (wpAny_ite ?_))
  split
  · first
      | exact wpAny_bind (wpAny_pure (wpAny_pure ⟨rfl, h0⟩))
      | exact wpAny_pure ⟨rfl, h0⟩
  · refine wpAny_bind (wpAny_rule ?_)
    show wpAny _ _ (standAt i1.pos >>= _) _ _ s
    exact wpAny_bind (wpAny_standAt (wpAny_bind (thnF h fun it' s' h' => wpAny_pure ⟨rfl, h'⟩)))
theorem start2 (h0 : codeAny (model P w) A (.compLoop (lc3 ex t0 i0 t1 i1 t2 i2 f0 f1 f2 sc pos) 2 it acc env) R s)
    (h : wpAny (model P w) A (pyIter it) (fun it' s' => codeAny (model P w) A (.compLoop (lc3 ex t0 i0 t1 i1 t2 i2 f0 f1 f2 sc pos) 2 it' acc env) R s') no s) :
    codeAny (model P w) A (.compStart (lc3 ex t0 i0 t1 i1 t2 i2 f0 f1 f2 sc pos) 2 it acc env) R s := by
  refine codeAny_of_tree ?_
  show wpAny _ _ ((compStart (lc3 ex t0 i0 t1 i1 t2 i2 f0 f1 f2 sc pos) 2 it acc env).onRaise (fun x => do noteFrame x env; standAt theWindowsPlace)) _ _ s
  refine wpAny_notedAt ?_
  unfold compStart
  show wpAny _ _ (ask >>= _) _ _ s
  refine wpAny_bind (wpAny_askSetting (wpAny_ite ?_))
  split
  · first
      | exact wpAny_bind (wpAny_pure (wpAny_pure ⟨rfl, h0⟩))
      | exact wpAny_pure ⟨rfl, h0⟩
  · refine wpAny_bind (wpAny_rule ?_)
    show wpAny _ _ (standAt i2.pos >>= _) _ _ s
    exact wpAny_bind (wpAny_standAt (wpAny_bind (thnF h fun it' s' h' => wpAny_pure ⟨rfl, h'⟩)))
end
section
variable {X : Cx}
def tLc3 (wi : TI) (g : TG) (tt : TT) (b : Addr → TB) (ws : List Nat) : TE := fun σ H Q => wi σ H fun J H1 => ∀ D, H1 D = none → ∃ W : Nat → Nat → Hp → Prop, (∃ m, W 0 m (upd H1 D (.lst []))) ∧ tTurn J g tt ws (b D) (wipe σ ws) W fun H' => Q (.ref D) H'
theorem pe_lc3 {ex t0 i0 t1 i1 t2 i2 : Expr} {f0 f1 f2 : List Expr} {scope : Scope} {pos : Pos} {own : List (Str × Nat)} {v1 v2 : List Nat} {w0 w1 w2 : TI} {g0 g1 g2 : TG} {e0 e1 e2 : TT} {te : TE} (hc : X.calm = true) (hN : X.N.Nodup) (hi : PI X t0 i0 w0)
    (ok : BlkOk X.N X.env.scope scope own) (sub1 : ∀ i ∈ v1, i ∈ own.map (·.2)) (sub2 : ∀ i ∈ v2, i ∈ v1)
    (hg : ∀ (s : Shared) (H : Hp) (C : Addr) (cl : List (Str × Addr)) (fp : List Addr), PG (X.blk s H scope (compEnvC scope cl C X.env) fp) t0 g0) (ht : ∀ (s : Shared) (H : Hp) (C : Addr) (cl : List (Str × Addr)) (fp : List Addr), PTs (X.blk s H scope (compEnvC scope cl C X.env) fp) f0 e0) (hi1 : ∀ (s : Shared) (H : Hp) (C : Addr) (cl : List (Str × Addr)) (fp : List Addr), PI (X.blk s H scope (compEnvC scope cl C X.env) fp) t1 i1 w1) (hg1 : ∀ (s : Shared) (H : Hp) (C : Addr) (cl : List (Str × Addr)) (fp : List Addr), PG (X.blk s H scope (compEnvC scope cl C X.env) fp) t1 g1) (ht1 : ∀ (s : Shared) (H : Hp) (C : Addr) (cl : List (Str × Addr)) (fp : List Addr), PTs (X.blk s H scope (compEnvC scope cl C X.env) fp) f1 e1)
    (hi2 : ∀ (s : Shared) (H : Hp) (C : Addr) (cl : List (Str × Addr)) (fp : List Addr), PI (X.blk s H scope (compEnvC scope cl C X.env) fp) t2 i2 w2) (hg2 : ∀ (s : Shared) (H : Hp) (C : Addr) (cl : List (Str × Addr)) (fp : List Addr), PG (X.blk s H scope (compEnvC scope cl C X.env) fp) t2 g2) (ht2 : ∀ (s : Shared) (H : Hp) (C : Addr) (cl : List (Str × Addr)) (fp : List Addr), PTs (X.blk s H scope (compEnvC scope cl C X.env) fp) f2 e2) (he : ∀ (s : Shared) (H : Hp) (C : Addr) (cl : List (Str × Addr)) (fp : List Addr), PE (X.blk s H scope (compEnvC scope cl C X.env) fp) ex te)
    (fs0 : ∀ x, foldedSetIterable i0 X.env x = pure x := by intro _; rfl) (fs1 : ∀ env x, foldedSetIterable i1 env x = pure x := by intro _ _; rfl) (fs2 : ∀ env x, foldedSetIterable i2 env x = pure x := by intro _ _; rfl) :
    PE X (lc3 ex t0 i0 t1 i1 t2 i2 f0 f1 f2 scope pos) (tLc3 w0 g0 e0 (fun D => tCl w1 g1 e1 v1 (tCl w2 g2 e2 v2 (tPush te D))) (own.map (·.2))) := by
  refine ⟨fun pins s σ H Q I h => ?_⟩
  rw [eval_ListComp]
  have fre : ∀ y ∈ scope.names, y.2 = .free → ∃ c, X.env.cells.lookup y.1 = some c := fun y hy e => by
    rcases ok.free y hy e with z | z
    · exact I.ok.has _ (.inl z)
    · exact I.ok.has _ (.inr z)
  refine wpAny_comprehension_free (use := none) rfl fs0 (closure_ok fre) ok.kind (fun y hy e => by rw [ok.uniq y hy, e]) (thn (hi.run pins s σ H _ I h) fun xv s1 hx => thn hx fun itv s2 h2 => ?_)
  obtain ⟨it, fp, tn, J, H2, rfl, I2, T, st2, f2', q⟩ := h2
  refine wpAny_newObj_type (newEnv_comp ?_) (by show 0 ≤ sizeLine; decide)
  obtain ⟨D, hD⟩ : ∃ D, D = s2.heap.objs.size := ⟨_, rfl⟩
  rw [← hD]
  obtain ⟨W, ⟨m0, wz⟩, turn⟩ := q D (I2.hok.fresh (by rw [hD]; exact Nat.le_refl _))
  obtain ⟨nl, hnl⟩ : ∃ nl : Obj, nl = { cls := .type "list", data := .seq ([] : List Value).toArray } := ⟨_, rfl⟩
  rw [← hnl]
  obtain ⟨s3, hs3⟩ : ∃ s3 : Shared, s3 = { s2 with heap := s2.heap.push nl } := ⟨_, rfl⟩
  have I3 : Inv X pins σ (upd H2 D (.lst [])) s3 := by
    rw [hs3]
    refine I2.laid (t' := s2.toks) (fun b o e => Heap.get?_push_of_some _ e) (by rw [hD]; exact Nat.le_refl _) ⟨Nat.zero_le _, [], 0, .nil, ?_⟩
    rw [hD, hnl]
    exact Heap.get?_push_size _ rfl
  have lt2 : ∀ b ∈ fp, b < s2.heap.objs.size := fun b hb => by
    obtain ⟨o, e, _⟩ := T.obj _ _ st2 b hb
    exact Heap.lt_size e
  have f3 : ∀ b ∈ fp, FpOk X pins (upd H2 D (.lst [])) b ∧ b < s3.heap.objs.size := fun b hb => by
    have z := lt2 b hb
    refine ⟨⟨?_, (f2' b hb).2⟩, by rw [hs3]; show b < (s2.heap.push nl).objs.size; rw [Heap.size_push]; exact Nat.lt_succ_of_lt z⟩
    rw [upd_ne (by rw [hD]; exact Nat.ne_of_lt z)]
    exact (f2' b hb).1
  have st3 : tn 0 s3.heap := T.keep _ _ _ st2 fun b _ o e => by
    rw [hs3]
    exact Heap.get?_push_of_some _ e
  have I4 := block_start I3 ok hN f3
  obtain ⟨cl, hcl⟩ : ∃ cl, cl = cellsFrom (s3.heap.objs.size + 1) scope.names (cloFrom X.env.cells scope.names []) := ⟨_, rfl⟩
  obtain ⟨H3, hH3⟩ : ∃ H3, H3 = upd H2 D (.lst []) := ⟨_, rfl⟩
  obtain ⟨ce, hce⟩ : ∃ ce, ce = compEnvC scope cl s3.heap.objs.size X.env := ⟨_, rfl⟩
  obtain ⟨s4, hs4⟩ : ∃ s4 : Shared, s4 = { s3 with heap := pushCells (s3.heap.push { cls := .type "dict", data := .dict #[] }) scope.names } := ⟨_, rfl⟩
  have cL : ce.locals = s3.heap.objs.size := by
    rw [hce]
    rfl
  have st4 : tn 0 s4.heap := T.keep _ _ _ st3 fun b _ o e => by
    rw [hs4]
    exact pushCells_keeps _ _ _ _ (Heap.get?_push_of_some _ e)
  have p0 := hg s3 H3 s3.heap.objs.size cl fp
  have p1 := ht s3 H3 s3.heap.objs.size cl fp
  have p2 := hi1 s3 H3 s3.heap.objs.size cl fp
  have p3 := hg1 s3 H3 s3.heap.objs.size cl fp
  have p4 := ht1 s3 H3 s3.heap.objs.size cl fp
  have p5 := hi2 s3 H3 s3.heap.objs.size cl fp
  have p6 := hg2 s3 H3 s3.heap.objs.size cl fp
  have p7 := ht2 s3 H3 s3.heap.objs.size cl fp
  have p8 := he s3 H3 s3.heap.objs.size cl fp
  rw [← hcl, ← hH3, ← hce, ← hs4] at I4
  rw [← hce] at p0 p1 p2 p3 p4 p5 p6 p7 p8
  rw [← hH3] at I3 f3 wz
  have stat : ∀ b ∈ fp, FpOk (Bk X s3 H3 scope ce fp) [] H3 b := fun b hb =>
    ⟨(f3 b hb).1.1, (I4.ok.exf b hb).1, I4.ok.exfs b hb, .inl hb, fun x c e => (I4.ok.exf b hb).2 x c e, fun p hp => absurd (show p ∈ ([] : List (Addr × Obj)) ++ [] from hp) (by simp)⟩
  have d2 := does_push (D := D) p8
  have d1 := does_next (D := D) (body := pushOf ex ce (.ref D)) hc rfl (fun it => turn2 (ex := ex) (t0 := t0) (i0 := i0) (t1 := t1) (i1 := i1) (t2 := t2) (i2 := i2) (f2 := f2) (f0 := f0) (f1 := f1) (sc := scope) (pos := pos)) start2 (fs2 ce) p5 p6 p7 d2 (vs := v2) (fun i hi => nomatch hi)
  have d0 := does_next (D := D) hc rfl (fun it => turn1 (ex := ex) (t0 := t0) (i0 := i0) (t1 := t1) (i1 := i1) (f1 := f1) (t2 := t2) (i2 := i2) (f0 := f0) (f2 := f2) (sc := scope) (pos := pos)) start1 (fs1 ce) p2 p3 p4 d1 (vs := v1) sub2
  have loop : codeAny (model X.prog X.w) X.A (.compLoop (lc3 ex t0 i0 t1 i1 t2 i2 f0 f1 f2 scope pos) 0 (.ref it) (.ref D) ce) (compPost (model X.prog X.w) X.A X.xe none (EP X pins σ Q) (.ref D) s3.heap.objs.size) s4 := by
    refine level hc (fun it => turn0) p0 p1 d0 sub1 I4 T st4 stat wz turn fun s6 H6 I6 nn => ?_
    have I7 : Inv X pins σ H6 s6 := I3.call' (ch := fp) I6.os I6.base I6.hok I6.bare fun b hb => ⟨(f3 b hb).1.2.2.2.1, (f3 b hb).1.2.1, (f3 b hb).1.2.2.2.2.1, (f3 b hb).1.2.2.2.2.2⟩
    have nC : H6 s3.heap.objs.size = none := by
      rw [← cL]
      exact I6.free
    obtain ⟨m, hn, _⟩ := I6.loc
    have hn : s6.heap.Ns ce.locals m := hn
    rw [cL] at hn
    refine ⟨m, hn, fun h'' sb => ?_⟩
    obtain ⟨y0, y1, y2, y3, y4, y5⟩ := I3.fpOk (Nat.le_refl _) nC
    exact ⟨.ref D, H6, I7.turned (t' := s6.toks) (fun b o hb e => (sb.2 b hb).trans e) y0 y1 y3 y4 y5, rfl, nn⟩
  have done := codeAny_compStart_list loop (T.self X.A 0 _ _ _ st4 loop)
  rw [hce, hcl, hs4, hs3] at done
  exact done
end
end C3
namespace CC
open PySem L2
/-! ### a list that is being made at D, its items seen through a view of the heap that D is not part of -/
section
variable {K : PySem.W.Frag} {D : Addr} {H0 H H' : Hp} {Vw : Hp → Hp} {G : Hp → Prop} {P : Nat → List PyData → Prop} {i : Nat} {us : List V} {ds : List PyData}
structure Made (K : PySem.W.Frag) (Vw : Hp → Hp) (G : Hp → Prop) (P : Nat → List PyData → Prop) (H0 : Hp) (D : Addr) (i : Nat) (H : Hp) (us : List V) (ds : List PyData) : Prop where
  same : Same (Vw H0) (Vw H)
  more : G H
  lst : H D = some (.lst us)
  dat : DpAll K (Vw H) us ds
  inv : P i ds
  len : us.length ≤ i
def MadeI (K : PySem.W.Frag) (Vw : Hp → Hp) (G : Hp → Prop) (P : Nat → List PyData → Prop) (H0 : Hp) (D : Addr) (i : Nat) (H : Hp) : Prop := ∃ us ds, Made K Vw G P H0 D i H us ds
theorem Made.start (v1 : ∀ H o, Vw (upd H D o) = Vw H) (v3 : ∀ H o, G H → G (upd H D o)) (g0 : G H0) (p0 : P 0 []) : MadeI K Vw G P H0 D 0 (upd H0 D (.lst [])) :=
  ⟨[], [], by rw [v1]; exact Same.refl _, v3 _ _ g0, upd_same, .nil, p0, Nat.le_refl _⟩
theorem Made.push (p : Made K Vw G P H0 D i H us ds) (h9 : i < 100000) (v1 : ∀ H o, Vw (upd H D o) = Vw H) (v3 : ∀ H o, G H → G (upd H D o)) {y : V} {d : PyData} {j : Nat} (hj : i < j) (q1 : Dp K (Vw H') y d) (q2 : P j (ds ++ [d])) (q3 : Same (Vw H) (Vw H')) (q4 : H' D = H D) (q5 : G H') :
    ∃ acc, H' D = some (.lst acc) ∧ acc.length < sizeLine ∧ MadeI K Vw G P H0 D j (upd H' D (.lst (acc ++ [y]))) := by
  refine ⟨us, q4.trans p.lst, Nat.lt_of_le_of_lt p.len (Nat.lt_of_lt_of_le h9 (by decide)), us ++ [y], ds ++ [d], ?_, v3 _ _ q5, upd_same, ?_, q2, by rw [List.length_append]; exact Nat.le_trans (Nat.succ_le_succ p.len) hj⟩
  · rw [v1]
    exact p.same.trans q3
  · rw [v1]
    exact dps_app (dps_same q3 _ _ p.dat) (dps_one q1)
theorem Made.skip (p : Made K Vw G P H0 D i H us ds) {j : Nat} (hj : i ≤ j) (q2 : P j ds) (q3 : Same (Vw H) (Vw H')) (q4 : H' D = H D) (q5 : G H') : MadeI K Vw G P H0 D j H' :=
  ⟨us, ds, p.same.trans q3, q5, q4.trans p.lst, dps_same q3 _ _ p.dat, q2, Nat.le_trans p.len hj⟩
end
/-! the plain view: the heap without D -/
abbrev Tr : Hp → Prop := fun _ => True
abbrev MadeP (K : PySem.W.Frag) (P : Nat → List PyData → Prop) (H0 : Hp) (D : Addr) (i : Nat) (H : Hp) : Prop := MadeI K (fun H => wo H D) Tr P H0 D i H
section
variable {K : PySem.W.Frag} {D : Addr} {H0 H H' : Hp} {P : Nat → List PyData → Prop} {i : Nat} {us : List V} {ds : List PyData}
theorem madeP_start (p0 : P 0 []) : MadeP K P H0 D 0 (upd H0 D (.lst [])) := Made.start (fun H o => wo_upd D o) (fun _ _ z => z) trivial p0
theorem madeP_push (p : Made K (fun H => wo H D) Tr P H0 D i H us ds) (h9 : i < 100000) {y : V} {d : PyData} {j : Nat} (hj : i < j) (q3 : Same H H') (q1 : Dp K (wo H' D) y d) (q2 : P j (ds ++ [d])) :
    ∃ acc, H' D = some (.lst acc) ∧ acc.length < sizeLine ∧ MadeP K P H0 D j (upd H' D (.lst (acc ++ [y]))) :=
  p.push h9 (fun H o => wo_upd D o) (fun _ _ z => z) hj q1 q2 (wo_same q3) ((q3 _ _ p.lst).trans p.lst.symm) trivial
theorem madeP_skip (p : Made K (fun H => wo H D) Tr P H0 D i H us ds) {j : Nat} (hj : i ≤ j) (q3 : Same H H') (q2 : P j ds) : MadeP K P H0 D j H' :=
  p.skip hj q2 (wo_same q3) ((q3 _ _ p.lst).trans p.lst.symm) trivial
/-- what stood before the list, still stands -/
theorem Made.old (p : Made K (fun H => wo H D) Tr P H0 D i H us ds) (n : H0 D = none) : Same H0 H := fun b o e => wo_le D _ _ (p.same b o (by rw [wo_ne (ne_of_none e n)]; exact e))
/-- a new tuple in the view -/
theorem tup_new {t : Addr} {xs : List V} {u : HO} (hD : H D = some u) (n : H t = none) : SqT K (wo (upd H t (.tup xs)) D) t xs := by
  have ne : t ≠ D := (ne_of_none hD n).symm
  rw [wo_upd_ne _ ne]
  exact .inl (.inl upd_same)
/-- the made list, whole -/
theorem Made.dp (p : Made K (fun H => wo H D) Tr P H0 D i H us ds) : Dp K H (.ref D) (.list ds) := .lst (.inl (.inl p.lst)) (dps_same (wo_le D) _ _ p.dat)
end
theorem yes_if {σ : L2.St} {H : Hp} {A B : Hp → Prop} (h : A H) : tYes σ H fun y H3 => if y = true then A H3 else B H3 := by
  show if true = true then A H else B H
  exact iteT h
/-! ### the columns 0 .. z - 1 as values -/
def cols (z : Nat) : List V := (List.range z).map fun (i : Nat) => V.int (i : Int)
theorem cols_len (z : Nat) : (cols z).length = z := by rw [cols, List.length_map, List.length_range]
theorem cols_at {z i : Nat} {x : V} (h : (cols z)[i]? = some x) : i < z ∧ x = .int (i : Int) := by
  rw [cols, List.getElem?_map] at h
  by_cases hi : i < z
  · rw [List.getElem?_range hi] at h
    exact ⟨hi, (Option.some.inj h).symm⟩
  · rw [List.getElem?_eq_none (by rw [List.length_range]; omega)] at h
    cases h
theorem cols_rg (z : Nat) : rgV 0 (z : Int) = cols z := by
  unfold rgV cols
  rw [show ((z : Int) - 0).toNat = z by omega]
  refine List.map_congr_left fun i _ => ?_
  rw [Int.zero_add]
/-! ### all rules for a width -/
def row (w a : Nat) (k : Bool) : List R := ((List.range w).filter fun b => decide (a ≠ b)).map fun b => ⟨k, a, b⟩
def allR (w : Nat) : List R := [true, false].flatMap fun k => (List.range w).flatMap fun a => row w a k
end CC
namespace CC
open PySem L2
/-! ### a list of things of one shape that is being made at D -/
section
variable {α : Type} {f : α → PyData} {K : PySem.W.Frag} {H0 H H' : Hp} {D : Addr} {n m : Nat} {rs rs' : List α}
def MadeF (f : α → PyData) (K : PySem.W.Frag) (H0 : Hp) (D : Addr) (n : Nat) (H : Hp) (rs : List α) : Prop := ∃ us, Same (wo H0 D) (wo H D) ∧ H D = some (.lst us) ∧ DpAll K (wo H D) us (rs.map f) ∧ us.length ≤ n
theorem MadeF.start : MadeF f K H0 D 0 (upd H0 D (.lst [])) [] := by
  refine ⟨[], ?_, upd_same, .nil, Nat.le_refl _⟩
  rw [wo_upd]
  exact Same.refl _
theorem MadeF.up (p : MadeF f K H0 D n H rs) (h : n ≤ m) (e : rs = rs') : MadeF f K H0 D m H rs' := by
  obtain ⟨us, p1, p2, p3, p4⟩ := p
  subst e
  exact ⟨us, p1, p2, p3, Nat.le_trans p4 h⟩
theorem MadeF.push {r : α} {y : V} (p : MadeF f K H0 D n H rs) (h9 : n < 100000) (hm : n < m) (q3 : Same H H') (q1 : Dp K (wo H' D) y (f r)) :
    ∃ acc, H' D = some (.lst acc) ∧ acc.length < sizeLine ∧ MadeF f K H0 D m (upd H' D (.lst (acc ++ [y]))) (rs ++ [r]) := by
  obtain ⟨us, p1, p2, p3, p4⟩ := p
  refine ⟨us, q3 _ _ p2, Nat.lt_of_le_of_lt p4 (Nat.lt_of_lt_of_le h9 (by decide)), us ++ [y], ?_, upd_same, ?_, ?_⟩
  · rw [wo_upd]
    exact p1.trans (wo_same q3)
  · rw [wo_upd, List.map_append]
    exact dps_app (dps_same (wo_same q3) _ _ p3) (dps_one q1)
  · rw [List.length_append]
    exact Nat.le_trans (Nat.succ_le_succ p4) hm
theorem MadeF.keep (p : MadeF f K H0 D n H rs) (q3 : Same H H') (h : n ≤ m) (e : rs = rs') : MadeF f K H0 D m H' rs' := by
  obtain ⟨us, p1, p2, p3, p4⟩ := p
  subst e
  exact ⟨us, p1.trans (wo_same q3), q3 _ _ p2, dps_same (wo_same q3) _ _ p3, Nat.le_trans p4 h⟩
theorem MadeF.old (p : MadeF f K H0 D n H rs) (h : H0 D = none) : Same H0 H := fun b o e => by
  obtain ⟨us, p1, _⟩ := p
  exact wo_le D _ _ (p1 b o (by rw [wo_ne (ne_of_none e h)]; exact e))
theorem MadeF.tup {t : Addr} {xs : List V} (p : MadeF f K H0 D n H rs) (nt : H t = none) : SqT K (wo (upd H t (.tup xs)) D) t xs := by
  obtain ⟨us, _, p2, _⟩ := p
  exact tup_new p2 nt
theorem free_back (e : Same H H') {a : Addr} (h : H' a = none) : H a = none := e.free h
end
/-- what a def that hands back a new list of such things promises -/
def NewF {α : Type} (f : α → PyData) (K : PySem.W.Frag) (H : Hp) (rs : List α) (Q : VK) : Prop := ∀ (p : Addr) (us : List V) (H' : Hp), Same H H' → H p = none → H' p = some (.lst us) → DpAll K (wo H' p) us (rs.map f) → Q (.ref p) H'
theorem MadeF.out {α : Type} {f : α → PyData} {K : PySem.W.Frag} {H H0 H' : Hp} {D : Addr} {n : Nat} {rs : List α} {Q : VK} (p : MadeF f K H0 D n H' rs) (h : H0 D = none) (s : Same H H0) (q : NewF f K H rs Q) : Q (.ref D) H' := by
  have o := p.old h
  obtain ⟨us, p1, p2, p3, p4⟩ := p
  exact q D us H' (s.trans o) (s.free h) p2 p3
abbrev g3 (K : PySem.W.Frag) (i j k : Nat) : TG := gTup K 3 (gCons (gName i) (gCons (gName j) (gCons (gName k) gNil)))
abbrev g2 (K : PySem.W.Frag) (i j : Nat) : TG := gTup K 2 (gCons (gName i) (gCons (gName j) gNil))
end CC
/-! A set made of a list or tuple of things of one kind, and how many members it has. -/
namespace SG
open PySem PySem.Spec PyProof.Rows L2
section kinds
variable {P : Program} {w : World} {κ : Type} [DecidableEq κ] {kn : KeyKind P w κ} {A : Around} {E : Value → Shared → Prop} {s : Shared}
/-- things of the kind come from no class statement, and hash by their value -/
structure Tame (kn : KeyKind P w κ) : Prop where
  cls : ∀ (n : Nat) (k : κ) (v : Value), kn.is k v = true → ofAClassStatement n v = pure false
  byv : ∀ (n : Nat) (k : κ) (v : Value), kn.is k v = true → ∃ b, hashByValue n v = pure b
theorem tame_mix : Tame (mixKind P w) := by
  constructor
  · intro n k v h
    rcases keyIs_shape h with ⟨i, t, _, rfl⟩ | ⟨x, t, _, rfl⟩ <;> cases n <;> rfl
  · intro n k v h
    rcases keyIs_shape h with ⟨i, t, _, rfl⟩ | ⟨x, t, _, rfl⟩ <;> exact ⟨_, hashByValue_scannable n rfl⟩
theorem each_is {ks : List κ} {us : List Value} (h : ItemsAre kn ks us) : ∀ u ∈ us, ∃ k, kn.is k u = true := by
  induction h with
  | nil => exact fun u hu => nomatch hu
  | @cons k v _ _ q _ ih =>
    intro u hu
    cases hu with
    | head => exact ⟨k, q⟩
    | tail _ hu => exact ih u hu
theorem tup_cls (Tm : Tame kn) {ks : List κ} {b : Addr} {Q : Bool → Shared → Prop} (hb : IsTupleKey kn s.heap ks b) (q : Q false s) : wpAny (model P w) A (ofAClassStatement 8 (.ref b)) Q E s := by
  have ty := hb.typeIs
  obtain ⟨ob, its, m, g1, _, g2, g3⟩ := hb
  unfold ofAClassStatement
  refine wpAny_bind (wpAny_typeOf ty ?_)
  dsimp only
  have e0 : (("tuple" : String) == "tuple") = true := by decide
  simp only [e0, if_true, Bool.not_true, Bool.false_eq_true, if_false]
  try refine wpAny_bind (wpAny_pure ?_)
  try simp only [Bool.not_true, Bool.false_eq_true, if_false]
  show wpAny _ _ (seqItems? (.ref b) >>= _) _ _ s
  refine wpAny_bind (wpAny_seqItems g1 g2 ?_)
  dsimp only
  refine wpAny_bind ?_
  show wpAny _ _ (forIn its _ _) _ _ s
  rw [← Array.forIn_toList]
  refine wpAny_forIn_list _ (fun left r s' => r.1 = none ∧ s' = s ∧ ∀ u ∈ left, ∃ k, kn.is k u = true) _ ?_ ?_ _ _ ⟨rfl, rfl, each_is g3⟩
  · rintro u left r s' ⟨hr, rfl, al⟩
    obtain ⟨k, hk⟩ := al u List.mem_cons_self
    rw [Tm.cls _ k u hk]
    refine wpAny_bind (wpAny_pure ?_)
    simp only [Bool.false_eq_true, if_false]
    exact wpAny_pure ⟨rfl, rfl, fun x hx => al x (List.mem_cons_of_mem _ hx)⟩
  · rintro ⟨r1, r2⟩ s' ⟨hr, rfl, _⟩
    simp only at hr
    subst hr
    exact wpAny_pure q
theorem tup_byv (Tm : Tame kn) {ks : List κ} {b : Addr} {Q : Bool → Shared → Prop} (hb : IsTupleKey kn s.heap ks b) (q : ∀ y, Q y s) : wpAny (model P w) A (hashByValue 8 (.ref b)) Q E s := by
  have ty := hb.typeIs
  obtain ⟨ob, its, m, g1, _, g2, g3⟩ := hb
  unfold hashByValue
  refine wpAny_bind (wpAny_specialOf ty F.slot_tuple_hash.lookup ?_)
  show wpAny _ _ (seqItems? (.ref b) >>= _) _ _ s
  refine wpAny_bind (wpAny_seqItems g1 g2 ?_)
  refine wpAny_bind ?_
  show wpAny _ _ (forIn its _ _) _ _ s
  rw [← Array.forIn_toList]
  refine wpAny_forIn_list _ (fun left r s' => s' = s ∧ ∀ u ∈ left, ∃ k, kn.is k u = true) _ ?_ ?_ _ _ ⟨rfl, each_is g3⟩
  · rintro u left r s' ⟨rfl, al⟩
    obtain ⟨k, hk⟩ := al u List.mem_cons_self
    obtain ⟨y, hy⟩ := Tm.byv 7 k u hk
    rw [hy]
    refine wpAny_bind (wpAny_pure ?_)
    cases y with
    | true =>
      simp only [Bool.not_true, Bool.false_eq_true, if_false]
      exact wpAny_pure ⟨rfl, fun x hx => al x (List.mem_cons_of_mem _ hx)⟩
    | false =>
      simp only [Bool.not_false, if_true]
      exact wpAny_pure (wpAny_pure (q _))
  · rintro ⟨r1, r2⟩ s' ⟨rfl, _⟩
    cases r1 with
    | none => exact wpAny_pure (q _)
    | some y => exact wpAny_pure (q _)
theorem tup_unseen (Tm : Tame kn) {ks : List κ} {b : Addr} {Q : Bool → Shared → Prop} (hb : IsTupleKey kn s.heap ks b) {us : List Value} (hus : ∀ u ∈ us, ∃ js c, u = Value.ref c ∧ IsTupleKey kn s.heap js c) (q : Q false s) :
    wpAny (model P w) A (searchCouldBeSeen (.ref b) us) Q E s := by
  unfold searchCouldBeSeen
  refine wpAny_bind ?_
  refine wpAny_forIn_list _ (fun left r s' => r.1 = none ∧ s' = s ∧ ∀ u ∈ left, ∃ js c, u = Value.ref c ∧ IsTupleKey kn s.heap js c) _ ?_ ?_ _ _ ⟨rfl, rfl, hus⟩
  · rintro u left r s' ⟨hr, rfl, al⟩
    obtain ⟨js, c, rfl, hc⟩ := al u List.mem_cons_self
    have al2 : ∀ x ∈ left, ∃ js c, x = Value.ref c ∧ IsTupleKey kn s'.heap js c := fun x hx => al x (List.mem_cons_of_mem _ hx)
    dsimp only
    by_cases hv : (b == c || (carriedByValue (.ref b) && carriedByValue (.ref c))) = true
    · exact wp_if_pos hv (wpAny_pure ⟨rfl, rfl, al2⟩)
    · refine wp_if_neg hv (wpAny_bind (wpAny_eqIsQuiet_tuple hb ?_))
      simp only [Bool.not_true, Bool.false_eq_true, if_false]
      refine wpAny_bind (wpAny_eqIsQuiet_tuple hc ?_)
      simp only [Bool.not_true, Bool.false_eq_true, if_false]
      refine wpAny_bind (tup_cls Tm hb ?_)
      simp only [Bool.false_eq_true, if_false]
      refine wpAny_bind (tup_cls Tm hc ?_)
      simp only [Bool.false_eq_true, if_false]
      exact wpAny_pure ⟨rfl, rfl, al2⟩
  · rintro ⟨r1, r2⟩ s' ⟨hr, rfl, _⟩
    simp only at hr
    subst hr
    exact wpAny_pure q
/-! ### a set of tuples of the kind -/
abbrev hs (kn : KeyKind P w κ) (k : List κ) : Int := tupleKeyHash kn k
abbrev Mem (κ : Type) := Addr × List κ
def ents (kn : KeyKind P w κ) (M : List (Mem κ)) : List (Int × Value) := M.map fun m => (hs kn m.2, Value.ref m.1)
structure TSet (kn : KeyKind P w κ) (h : Heap) (a : Addr) (M : List (Mem κ)) (es : Array (Int × Value)) (ep : Nat) (t : SetTable) : Prop where
  obj : ∃ o, h.get? a = some o ∧ o.ExactSet ∧ o.data = .set es ep t
  ent : es.toList = ents kn M
  tok : TabOk t (M.map fun m => hs kn m.2)
  uni : (M.map (·.2)).Nodup
  mem : ∀ m ∈ M, IsTupleKey kn h m.2 m.1
  led : w.params.followText "set-order" = true ∨ t.led = true
  rom : M.length * 5 < t.mask * 3
  few : M.length < 64
variable {a : Addr} {M : List (Mem κ)} {es : Array (Int × Value)} {ep : Nat} {t : SetTable}
theorem ents_len (e : es.toList = ents kn M) : es.size = M.length := by
  have q := congrArg List.length e
  rw [ents, List.length_map, Array.length_toList] at q
  exact q
theorem ents_at (e : es.toList = ents kn M) {i : Nat} {m : Mem κ} (h : M[i]? = some m) : es[i]? = some (hs kn m.2, Value.ref m.1) := by
  rw [← Array.getElem?_toList, e, ents, List.getElem?_map, h]
  rfl
theorem fits_of (T : TabOk t (M.map fun m => hs kn m.2)) (n : es.size = M.length) (r : M.length ≤ t.mask) : t.fits es.size = true := by
  have z := T.sz
  rw [List.length_map] at z
  unfold SetTable.fits SetTable.fill
  rw [T.dm, Bool.and_eq_true, beq_iff_eq, decide_eq_true_eq]
  show t.place.size = es.size ∧ t.place.size + 0 ≤ t.mask
  omega
theorem TSet.fit (S : TSet kn s.heap a M es ep t) : t.fits es.size = true := fits_of S.tok (ents_len S.ent) (by have := S.rom; omega)
theorem nodummy (m : Nat) : ∀ (n : Nat) (p : SetTable.Probe), p.dummy = none → (nth m p n).dummy = none
  | 0, _, h => h
  | n + 1, p, h => nodummy m n (adv m p) (by unfold adv; split <;> exact h)
abbrev st0 (m : Nat) (h : Int) : SetTable.Probe := runAt m (SetTable.bits h % (m + 1)) (SetTable.bits h)
/-- the search along the way, from its c-th step -/
theorem look (Tm : Tame kn) (S : TSet kn s.heap a M es ep t) {x : Addr} {k : List κ} (hx : IsTupleKey kn s.heap k x) (hu : A.units < cLine) {N : Nat} (hN : N < 10 * SetTable.turns t.mask)
    (fr : way t.mask (hs kn k) N ∉ t.place.toList) (oc : ∀ c, c < N → way t.mask (hs kn k) c ∈ t.place.toList) {Q : SetFound → Shared → Prop}
    (yes : k ∈ M.map (·.2) → Q (.there none) s) (no : k ∉ M.map (·.2) → Q (.free (way t.mask (hs kn k) N) false) s) :
    ∀ (f c : Nat) (sd : Option SetTable.Probe), sd.getD (t.probeStart (hs kn k)) = nth t.mask (st0 t.mask (hs kn k)) c → c ≤ N → N - c < f →
      (∀ (i : Nat) m, M[i]? = some m → m.2 = k → ∃ d, c ≤ d ∧ d < N ∧ t.place.toList[i]? = some (way t.mask (hs kn k) d)) →
      wpAny (model P w) A (setSearchFrom a (.ref x) (hs kn k) true f sd) Q E s
  | 0, _, _, _, _, z, _ => absurd z (Nat.not_lt_zero _)
  | f + 1, c, sd, hsd, hc, hf, ahead => by
    obtain ⟨ob, g1, g2, g3⟩ := S.obj
    rw [setSearchFrom_succ]
    refine wpAny_bind (wpAny_setState_of g1 g3 S.fit ?_)
    dsimp only
    have gw : ¬ t.gaveWay = true := by
      unfold SetTable.gaveWay
      rw [mask_odd S.tok.mok]
      decide
    refine wp_if_neg gw ?_
    try refine wpAny_bind (wpAny_pure ?_)
    have shift : ∀ q, nth t.mask (nth t.mask (st0 t.mask (hs kn k)) c) q = nth t.mask (st0 t.mask (hs kn k)) (c + q) := fun q => (nth_add t.mask c _ q).symm
    have at_ : ∀ q, (nth t.mask (nth t.mask (st0 t.mask (hs kn k)) c) q).j = way t.mask (hs kn k) (c + q) := fun q => congrArg SetTable.Probe.j (shift q)
    have last : c + (N - c) = N := by omega
    have told := go_spec t S.tok.ris S.tok.dm (fun i => (es[i]?.map (·.1)).getD 0) (hs kn k) (10 * SetTable.turns t.mask) (N - c) _ (nodummy t.mask c (st0 t.mask (hs kn k)) rfl) (by omega)
      (fun q hq => by rw [at_]; exact oc _ (by omega)) (by rw [at_, last]; exact fr)
    have hsh : ∀ (i : Nat) m, M[i]? = some m → (fun i => (es[i]?.map (·.1)).getD 0) i = hs kn m.2 := fun i m hm => by
      show (es[i]?.map (·.1)).getD 0 = _
      rw [ents_at S.ent hm]
      rfl
    rcases told with ⟨q, i, hq, hi, _, before, ans⟩ | ⟨before, ans⟩
    · have ans' : t.probe (fun i => (es[i]?.map (·.1)).getD 0) (hs kn k) (sd.getD (t.probeStart (hs kn k))) = some (.candidate (way t.mask (hs kn k) (c + q)) i (nth t.mask (st0 t.mask (hs kn k)) (c + (q + 1)))) := by
        rw [hsd, ← at_, ← shift]
        exact ans
      rw [ans']
      dsimp only
      rw [at_] at hi
      have il : i < M.length := by
        have z1 := (List.getElem?_eq_some_iff.mp hi).1
        have z2 := S.tok.sz
        rw [List.length_map] at z2
        rw [Array.length_toList] at z1
        omega
      obtain ⟨m, hm⟩ : ∃ m, M[i]? = some m := ⟨_, List.getElem?_eq_getElem il⟩
      have mm : m ∈ M := List.mem_of_getElem? hm
      have go : wpAny (model P w) A (searchRest a (.ref x) (hs kn k) true f es t (way t.mask (hs kn k) (c + q)) i (nth t.mask (st0 t.mask (hs kn k)) (c + (q + 1)))) Q E s := by
        unfold searchRest
        rw [ents_at S.ent hm]
        dsimp only
        refine wpAny_bind (wpAny_holding (wpAny_eqBool_tuple hu (S.mem m mm) hx ?_))
        refine wpAny_bind (wpAny_setState_of g1 g3 S.fit ?_)
        dsimp only
        by_cases same : m.2 = k
        · exact wp_if_pos (by simp [same]) (wpAny_pure (yes (List.mem_map.mpr ⟨m, mm, same⟩)))
        · refine wp_if_neg (by simp [same]) ?_
          try refine wpAny_bind (wpAny_pure ?_)
          rw [sameMem]
          dsimp only
          have live : t.slot (way t.mask (hs kn k) (c + q)) = .live i := slot_live S.tok.ris hi
          simp only [if_true, live, ents_at S.ent hm]
          refine wpAny_bind (wpAny_isSame_ref_self (wpAny_bind (wpAny_pure ?_)))
          simp only [if_true]
          refine wp_if_neg (by simp [same]) ?_
          refine look Tm S hx hu hN fr oc yes no f (c + (q + 1)) _ rfl (by omega) (by omega) fun j n hj hn => ?_
          obtain ⟨d, d1, d2, d3⟩ := ahead j n hj hn
          refine ⟨d, ?_, d2, d3⟩
          rcases Nat.lt_trichotomy d (c + q) with z | z | z
          · have z0 : c + (d - c) = d := by omega
            refine absurd ((hsh j n hj).trans (congrArg (hs kn) hn)) (before (d - c) j (by omega) ?_)
            rw [at_, z0]
            exact d3
          · rw [z] at d3
            have z1 := slot_live S.tok.ris d3
            rw [live] at z1
            injection z1 with z1
            rw [← z1, hm] at hj
            exact absurd ((congrArg Prod.snd (Option.some.inj hj)).trans hn) same
          · omega
      by_cases hl : t.led = true
      · refine wp_if_neg (by simp [hl]) ?_
        try refine wpAny_bind (wpAny_pure ?_)
        exact go
      · refine wp_if_pos (by simp [hl]) ?_
        refine wpAny_bind (tup_unseen Tm hx (fun u hu2 => ?_) ?_)
        · obtain ⟨e, he, ee⟩ := List.mem_map.mp hu2
          have he1 : e ∈ es ∧ e.1 = hs kn k := by simpa using he
          have he2 : e ∈ es.toList := by simpa using he1.1
          rw [S.ent] at he2
          obtain ⟨n, hn, rfl⟩ := List.mem_map.mp he2
          exact ⟨n.2, n.1, ee.symm, S.mem n hn⟩
        · refine wp_if_neg (by decide) ?_
          try refine wpAny_bind (wpAny_pure ?_)
          exact go
    · have ans' : t.probe (fun i => (es[i]?.map (·.1)).getD 0) (hs kn k) (sd.getD (t.probeStart (hs kn k))) = some (.empty (way t.mask (hs kn k) N) none) := by
        have z : way t.mask (hs kn k) N = (nth t.mask (nth t.mask (st0 t.mask (hs kn k)) c) (N - c)).j := by rw [at_, last]
        rw [hsd, z]
        exact ans
      rw [ans']
      dsimp only
      refine wpAny_pure (no fun hm => ?_)
      obtain ⟨m, mm, ek⟩ := List.mem_map.mp hm
      obtain ⟨j, hj⟩ := List.mem_iff_getElem?.mp mm
      obtain ⟨d, d1, d2, d3⟩ := ahead j m hj ek
      have z0 : c + (d - c) = d := by omega
      refine absurd ((hsh j m hj).trans (congrArg (hs kn) ek)) (before (d - c) j (by omega) ?_)
      rw [at_, z0]
      exact d3
theorem look0 (Tm : Tame kn) (S : TSet kn s.heap a M es ep t) {x : Addr} {k : List κ} (hx : IsTupleKey kn s.heap k x) (hu : A.units < cLine) {Q : SetFound → Shared → Prop} (yes : k ∈ M.map (·.2) → Q (.there none) s)
    (no : ∀ N, k ∉ M.map (·.2) → way t.mask (hs kn k) N ∉ t.place.toList → (∀ c, c < N → way t.mask (hs kn k) c ∈ t.place.toList) → Q (.free (way t.mask (hs kn k) N) false) s) :
    wpAny (model P w) A (setSearch a (.ref x) (hs kn k) true) Q E s := by
  have rm := S.rom
  obtain ⟨N, n1, n2, n3⟩ := S.tok.first (by rw [List.length_map]; omega) (hs kn k)
  have big : N < 100000 := by
    have : 10 * SetTable.turns t.mask ≤ 1420 := by
      unfold SetTable.turns
      rcases S.tok.mok with e | e | e <;> omega
    omega
  unfold setSearch
  refine look Tm S hx hu n1 n2 n3 yes (fun z => no N z n2 n3) 100000 0 none rfl (Nat.zero_le _) (by omega) fun i m hm ek => ?_
  have z1 : (M.map fun m => hs kn m.2)[i]? = some (hs kn k) := by
    rw [List.getElem?_map, hm, ← ek]
    rfl
  have z2 : i < t.place.toList.length := by
    have y1 : i < M.length := (List.getElem?_eq_some_iff.mp hm).1
    have y2 := S.tok.sz
    rw [List.length_map] at y2
    rw [Array.length_toList]
    omega
  obtain ⟨d, d1, d2⟩ := S.tok.before n2 z1 (List.getElem?_eq_getElem z2)
  exact ⟨d, Nat.zero_le _, d1, by rw [List.getElem?_eq_getElem z2, d2]⟩
/-! ### laid anew, and added to -/
theorem key_else {h h' : Heap} {k : List κ} {b : Addr} {o : Obj} (hb : IsTupleKey kn h k b) (ho : h.get? a = some o) (hd : o.data = .set es ep t) (sb : Heap.SameBut a h h') : IsTupleKey kn h' k b := by
  obtain ⟨o2, its, n, g1, g2, g3, g4⟩ := hb
  have ne : b ≠ a := fun z => by
    rw [z, ho] at g1
    rw [← Option.some.inj g1, hd] at g3
    exact nomatch g3
  exact ⟨o2, its, n, (sb.2 b ne).trans g1, g2, g3, g4⟩
theorem pick_len {α : Type} (l : List α) : ∀ n, n ≤ l.length → (List.range n).filterMap (fun i => l[i]?) = l.take n
  | 0, _ => by simp
  | n + 1, h => by
    rw [List.range_succ, List.filterMap_append, pick_len l n (by omega), List.take_succ, List.getElem?_eq_getElem h]
    simp [List.filterMap, List.getElem?_eq_getElem h]
theorem pick (e : es.toList = ents kn M) : ∀ js : List Nat, (∀ j ∈ js, j < M.length) →
    js.filterMap (fun j => es[j]?) = ents kn (js.filterMap fun j => M[j]?) ∧ ((js.filterMap fun j => M[j]?).map fun m => hs kn m.2) = js.map fun j => (es.map (·.1)).getD j 0
  | [], _ => ⟨rfl, rfl⟩
  | j :: js, h => by
    have hj : j < M.length := h j List.mem_cons_self
    obtain ⟨i1, i2⟩ := pick e js fun i hi => h i (List.mem_cons_of_mem _ hi)
    have g := List.getElem?_eq_getElem hj
    have z : (es.map (·.1)).getD j 0 = hs kn M[j].2 := by
      have z1 : (es.map (·.1))[j]? = some (hs kn M[j].2) := by
        rw [Array.getElem?_map, ents_at e g]
        rfl
      simp [Array.getD_eq_getD_getElem?, z1]
    constructor
    · rw [List.filterMap_cons_some (ents_at e g), List.filterMap_cons_some g, i1]
      rfl
    · rw [List.filterMap_cons_some g, List.map_cons, List.map_cons, i2, z]
theorem grow {o : Obj} (g1 : s.heap.get? a = some o) (g2 : o.ExactSet) (g3 : o.data = .set es ep t) (en : es.toList = ents kn M) (T : TabOk t (M.map fun m => hs kn m.2)) (fl : M.length ≤ t.mask)
    (un : (M.map (·.2)).Nodup) (me : ∀ m ∈ M, IsTupleKey kn s.heap m.2 m.1) (ld : w.params.followText "set-order" = true ∨ t.led = true) (fw : M.length < 64) {want B : Nat}
    (w1 : SetTable.sizeAbove want - 1 = B) (w2 : MaskOk B) (w3 : SetTable.sizeAbove want ≤ 128) (w4 : M.length * 5 < B * 3) {Q : Unit → Shared → Prop}
    (q : ∀ h' M' es' ep' t', Heap.SameBut a s.heap h' → TSet kn h' a M' es' ep' t' → M'.Perm M → Q () { s with heap := h' }) : wpAny (model P w) A (setRelay a want) Q E s := by
  have n := ents_len en
  obtain ⟨t', order, e1, pm, T', e2, e3, _, _⟩ := relaid_ok t (hs := es.map (·.1)) (wanted := want) w1 w2 (by rw [Array.size_map, n]; omega)
  rw [Array.size_map, n] at pm
  obtain ⟨p1, p2⟩ := pick en order.toList fun j hj => List.mem_range.mp (pm.mem_iff.mp hj)
  have pm2 : (order.toList.filterMap fun j => M[j]?).Perm M := by
    have z := pm.filterMap fun j => M[j]?
    rw [pick_len M M.length (Nat.le_refl _), List.take_length] at z
    exact z
  generalize order.toList.filterMap (fun j => M[j]?) = M' at p1 p2 pm2
  rw [← p2] at T'
  have p3 : (order.filterMap (es[·]?)).toList = ents kn M' := by
    first
      | (rw [Array.toList_filterMap]; exact p1)
      | simpa using p1
  have n2 := ents_len p3
  have n3 := pm2.length_eq
  rw [setRelay_eq]
  refine wpAny_bind (wpAny_setState_of g1 g3 (fits_of T n fl) ?_)
  dsimp only
  refine wp_if_neg (by rw [sizeLine_eq]; omega) ?_
  try refine wpAny_bind (wpAny_pure ?_)
  rw [e1]
  dsimp only
  refine wpAny_bind (wp_if_neg (by rw [n2, n3, n]; simp) ?_)
  try refine wpAny_bind (wpAny_pure ?_)
  refine wpAny_pure ?_
  dsimp only
  refine wpAny_storeSet_of g1 g3 ?_ (by rw [n2, n3, sizeLine_eq]; omega)
  have sb : Heap.SameBut a s.heap (s.heap.update a (Obj.putSet (order.filterMap (es[·]?)) t')) := Heap.SameBut.update ..
  refine q _ M' _ (ep + 1) t' sb ⟨⟨_, store_at g1 g3, ⟨g2.1, g2.2.1, g2.2.2⟩, rfl⟩, p3, T', (pm2.map (·.2)).nodup_iff.mpr un, fun m hm => key_else (me m (pm2.mem_iff.mp hm)) g1 g3 sb, by rw [e3]; exact ld, by rw [n3, e2]; exact w4, by rw [n3]; exact fw⟩ pm2
theorem more (Tm : Tame kn) (S : TSet kn s.heap a M es ep t) {x : Addr} {k : List κ} (hx : IsTupleKey kn s.heap k x) (hu : A.units < cLine) (fw : M.length + 1 < 64) {Q : Bool → Shared → Prop}
    (q : ∀ b h' M' es' ep' t', Heap.SameBut a s.heap h' → TSet kn h' a M' es' ep' t' → (k ∈ M.map (·.2) → M' = M) → (k ∉ M.map (·.2) → M'.Perm ((x, k) :: M)) → Q b { s with heap := h' }) :
    wpAny (model P w) A (setAddHashed a (.ref x) (hs kn k)) Q E s := by
  obtain ⟨o, g1, g2, g3⟩ := S.obj
  have n := ents_len S.ent
  have rm := S.rom
  unfold setAddHashed
  refine wpAny_holding ?_
  rw [show (100000 : Nat) = 99999 + 1 from rfl, setAddHashedIn_succ]
  refine wpAny_bind (wpAny_setState_of g1 g3 S.fit ?_)
  dsimp only
  refine wp_if_neg (by simp [byScan, Value.scannable]) ?_
  try refine wpAny_bind (wpAny_pure ?_)
  refine wpAny_bind (look0 Tm S hx hu (fun hm => ?_) fun N hm f1 f2 => ?_)
  · exact wpAny_pure (q false s.heap M es ep t (Heap.SameBut.refl a s.heap) S (fun _ => rfl) fun z => absurd hm z)
  · dsimp only
    refine wpAny_bind (wpAny_setState_of g1 g3 S.fit ?_)
    dsimp only
    obtain ⟨q1, q2, q3, q4, q5, q6, q7, q8, q9⟩ := S.tok.put f1 f2
    generalize t.put (way t.mask (hs kn k) N) = pt at q1 q3 q4 q5 q6 q7 q8 q9 ⊢
    obtain ⟨t1, p⟩ := pt
    dsimp only at q1 q3 q4 q5 q6 q7 q8 q9 ⊢
    subst q1
    have hin : (SetTable.insertAt es (SetTable.below t.place (way t.mask (hs kn k) N)) (hs kn k, Value.ref x)).toList = ents kn (M.take (SetTable.below t.place (way t.mask (hs kn k) N)) ++ (x, k) :: M.drop (SetTable.below t.place (way t.mask (hs kn k) N))) := by
      rw [SetTable.toList_insertAt, S.ent, ents, ents, List.map_append, List.map_cons, List.map_take, List.map_drop]
    generalize SetTable.below t.place (way t.mask (hs kn k) N) = b at q2 q3 hin ⊢
    have pm := put_perm M b (x, k)
    have ln : (M.take b ++ (x, k) :: M.drop b).length = M.length + 1 := pm.length_eq
    have hh : (M.take b ++ (x, k) :: M.drop b).map (fun m => hs kn m.2) = (M.map fun m => hs kn m.2).take b ++ hs kn k :: (M.map fun m => hs kn m.2).drop b := by
      rw [List.map_append, List.map_cons, List.map_take, List.map_drop]
    rw [← hh] at q3
    have un1 : ((M.take b ++ (x, k) :: M.drop b).map (·.2)).Nodup := by
      refine (pm.map (·.2)).nodup_iff.mpr ?_
      rw [List.map_cons]
      exact List.nodup_cons.mpr ⟨hm, S.uni⟩
    have n1 := ents_len hin
    rw [ln] at n1
    generalize SetTable.insertAt es b (hs kn k, Value.ref x) = es1 at hin n1 ⊢
    generalize M.take b ++ (x, k) :: M.drop b = M1 at pm ln q3 un1 hin
    have tail : ∀ t2 : SetTable, TabOk t2 (M1.map fun m => hs kn m.2) → t2.mask = t.mask → t2.led = t1.led → t2.tooFull = t1.tooFull →
        wpAny (model P w) A (do
          storeSet a es1 t2
          if !false && t2.tooFull then setRelay a (SetTable.grown (es.size + 1))
          return true) Q E s := by
      intro t2 T2 mk ldd tf
      refine wpAny_bind (wpAny_storeSet_of g1 g3 ?_ (by rw [n1, sizeLine_eq]; omega))
      have sb : Heap.SameBut a s.heap (s.heap.update a (Obj.putSet es1 t2)) := Heap.SameBut.update ..
      have so := store_at (es' := es1) (t' := t2) g1 g3
      generalize s.heap.update a (Obj.putSet es1 t2) = h1 at sb so ⊢
      have me1 : ∀ m ∈ M1, IsTupleKey kn h1 m.2 m.1 := fun m hm1 => by
        rcases List.mem_cons.mp (pm.mem_iff.mp hm1) with z | z
        · rw [z]
          exact key_else hx g1 g3 sb
        · exact key_else (S.mem m z) g1 g3 sb
      have ld1 : w.params.followText "set-order" = true ∨ t2.led = true := by
        rw [ldd, q5]
        exact S.led
      by_cases hf : t1.tooFull = true
      · have hf2 : t2.tooFull = true := tf.trans hf
        first
          | (refine wpAny_bind ?_; refine wp_if_pos (by simp [hf2]) ?_)
          | (refine wp_if_pos (by simp [hf2]) ?_; refine wpAny_bind ?_)
        have full : (M.length + 1) * 5 ≥ t1.mask * 3 := by
          have z := hf
          unfold SetTable.tooFull at z
          rw [decide_eq_true_eq, q9, List.length_map] at z
          exact z
        rw [n]
        have two : (t.mask = 7 ∧ M.length = 4) ∨ (t.mask = 31 ∧ M.length = 18) := by
          rcases S.tok.mok with e | e | e
          · left
            rw [q4, e] at full
            rw [e] at rm
            exact ⟨e, by omega⟩
          · right
            rw [q4, e] at full
            rw [e] at rm
            exact ⟨e, by omega⟩
          · exfalso
            rw [q4, e] at full
            omega
        have go : ∀ B, SetTable.sizeAbove (SetTable.grown (M.length + 1)) - 1 = B → MaskOk B → SetTable.sizeAbove (SetTable.grown (M.length + 1)) ≤ 128 → (M.length + 1) * 5 < B * 3 →
            wpAny (model P w) A (setRelay a (SetTable.grown (M.length + 1))) (fun _ s' => wpAny (model P w) A (pure true) Q E s') E { s with heap := h1 } := fun B b1 b2 b3 b4 => by
          refine grow (s := { s with heap := h1 }) so ⟨g2.1, g2.2.1, g2.2.2⟩ rfl hin T2 (by rw [ln, mk]; rcases two with ⟨z, z2⟩ | ⟨z, z2⟩ <;> omega) un1 me1 ld1 (by rw [ln]; exact fw) b1 b2 b3 (by rw [ln]; exact b4) ?_
          intro h2 M2 es2 ep2 t3 sb2 S2 pm2
          exact wpAny_pure (q true h2 M2 es2 ep2 t3 (sb.trans sb2) S2 (fun z => absurd z hm) fun _ => pm2.trans pm)
        rcases two with ⟨_, z⟩ | ⟨_, z⟩
        · exact go 31 (by rw [z, size_20]) (.inr (.inl rfl)) (by rw [z, size_20]; decide) (by omega)
        · exact go 127 (by rw [z, size_76]) (.inr (.inr rfl)) (by rw [z, size_76]; decide) (by omega)
      · have hf2 : ¬ t2.tooFull = true := by
          rw [tf]
          exact hf
        first
          | refine wp_if_neg (by simp [hf2]) ?_
          | (refine wpAny_bind ?_; refine wp_if_neg (by simp [hf2]) ?_; refine wpAny_pure ?_)
        refine wpAny_pure (q true h1 M1 es1 (ep + 1) t2 sb ⟨⟨_, so, ⟨g2.1, g2.2.1, g2.2.2⟩, rfl⟩, hin, T2, un1, me1, ld1, ?_, by rw [ln]; exact fw⟩ (fun z => absurd z hm) fun _ => pm)
        have z := hf
        unfold SetTable.tooFull at z
        rw [decide_eq_true_eq, q9, List.length_map, q4] at z
        rw [ln, mk]
        omega
    have both : ∀ y : Bool, wpAny (model P w) A (do
        storeSet a es1 (if y then t1 else { t1 with plain := false })
        if !false && (if y then t1 else { t1 with plain := false } : SetTable).tooFull then setRelay a (SetTable.grown (es.size + 1))
        return true) Q E s := by
      intro y
      cases y with
      | true => exact tail t1 q3 q4 rfl rfl
      | false => exact tail { t1 with plain := false } ⟨q3.ris, q3.dm, q3.sz, q3.mok, q3.bd, q3.reach⟩ q4 rfl rfl
    by_cases pl : t1.plain = true
    · first
        | (refine wpAny_bind ?_; refine wp_if_pos pl ?_; refine tup_byv Tm hx fun y => ?_)
        | refine wp_if_pos pl (wpAny_bind (tup_byv Tm hx fun y => ?_))
      exact both y
    · first
        | (refine wpAny_bind ?_; refine wp_if_neg pl ?_; refine wpAny_pure ?_)
        | refine wp_if_neg pl (wpAny_bind (wpAny_pure ?_))
      exact both true
end kinds
end SG
namespace SG
open PySem PySem.Spec PyProof.Rows L2
/-- what a set at S, filled one by one, is known to be behind i things; base: what stood before it -/
structure Fills (P : Program) (w : World) (A : Around) (S : Addr) (base : Heap) (n : Nat) (Pv : Nat → Value → Prop) (J : Nat → Heap → Prop) : Prop where
  stay : ∀ (i : Nat) (h h' : Heap), J i h → (∀ b o, (b = S ∨ ∃ x, base.get? b = some x) → h.get? b = some o → h'.get? b = some o) → J i h'
  adds : ∀ (i : Nat) (v : Value) (s : Shared) (Q : Shared → Prop) (E : Value → Shared → Prop), i < n → Pv i v → J i s.heap →
    (∀ (h' : Heap) (tk : Nat), s.toks ≤ tk → Heap.SameBut S s.heap h' → J (i + 1) h' → Q { s with heap := h', toks := tk }) → wpAny (model P w) A (setAdd S v) (fun _ s' => Q s') E s
section
variable {P : Program} {w : World} {A : Around} {s : Shared}
theorem fill {I S : Addr} {fp wr : List Addr} {G : Array GenState → Array GenState → Prop} {n : Nat} {Pv : Nat → Value → Prop} {St : Nat → Shared → Prop} {R : Result → Shared → Prop} {base : Heap} {J : Nat → Heap → Prop}
    (W : WalksS P w A.in1 I fp wr G n Pv St) (Fi : Fills P w A.in1 S base n Pv J) (off : S ∉ fp) (old : ∀ b ∈ wr, base.get? b = none) : ∀ (d i : Nat) (s : Shared), n - i = d → i ≤ n → St i s → J i s.heap →
      (∀ s', Moved (S :: wr) G s s' → J n s'.heap → R (.ok (.ret .none)) s') → codeAny (model P w) A (.builtin "set.update.loop" ⟨[.ref S, .ref I], []⟩) R s := by
  have up : ∀ b ∈ wr, b ∈ S :: wr := fun b hb => List.mem_cons_of_mem _ hb
  have still : ∀ {i : Nat} {s s' : Shared}, Moved wr G s s' → J i s.heap → J i s'.heap := fun {i s s'} mv j => Fi.stay i _ _ j fun b o hb e => mv.heap b o (fun hw => by
    rcases hb with z | ⟨x, z⟩
    · exact off (W.sub _ (z ▸ hw))
    · rw [old b hw] at z
      cases z) e
  intro d
  induction d with
  | zero =>
    intro i s hd hi st j fin
    have e : i = n := by omega
    subst e
    refine codeAny_builtin F.entry_set_update_loop ?_
    rw [Around.under_plainId F.plain_set_update_loop _]
    show wpAny _ A.in1 (pyNext (.ref I) >>= _) _ _ s
    refine wpAny_bind (W.done s _ _ st fun s' mv => ?_)
    exact wpAny_pure (fin s' (mv.mono up) (still mv j))
  | succ d ih =>
    intro i s hd hi st j fin
    have lt : i < n := by omega
    refine codeAny_builtin F.entry_set_update_loop ?_
    rw [Around.under_plainId F.plain_set_update_loop _]
    show wpAny _ A.in1 (pyNext (.ref I) >>= _) _ _ s
    refine wpAny_bind (W.item i s _ _ lt st fun v s' pv st' mv => ?_)
    show wpAny _ A.in1 (holding [v] (setAdd S v) >>= _) _ _ s'
    refine wpAny_bind (wpAny_holding (Fi.adds i v s' _ _ lt pv (still mv j) fun h' tk ht sb j' => ?_))
    have out : ∀ b o, b ∉ S :: wr → s'.heap.get? b = some o → h'.get? b = some o := fun b o hb e => by
      rw [sb.2 b fun z => hb (by rw [z]; exact List.mem_cons_self)]
      exact e
    refine wpAny_pure ⟨plainId_quiet F.plain_set_update_loop _, ih (i + 1) _ (by omega) lt (W.frame _ s' _ _ st' ht fun b hb o e => ?_) j' fun s2 mv2 j2 => ?_⟩
    · rw [sb.2 b fun z => off (z ▸ hb)]
      exact e
    · exact fin s2 (Moved.trans W.gtrans ((mv.mono up).then_heap ht out) mv2) j2
end
abbrev bare (w : World) : Obj := { cls := .type "set", dict := none, data := .set #[] 0 (.fresh 0 0 (!w.params.followText "set-order")) }
section
variable {P : Program} {w : World} {A : Around} {E : Value → Shared → Prop} {s : Shared}
theorem make {l : Addr} {its : Array Value} {J : Nat → Heap → Prop} {Q : Value → Shared → Prop} (hh : A.handled = none) (hl : s.heap.IsList l its ∨ s.heap.IsTuple l its)
    (Fi : Fills P w A.in1.in1.in1 s.heap.objs.size s.heap its.size (fun i v => its[i]? = some v) J)
    (j0 : ∀ h : Heap, h.get? s.heap.objs.size = some (bare w) → (∀ b o, s.heap.get? b = some o → h.get? b = some o) → J 0 h)
    (q : ∀ (h' : Heap) (tk : Nat), J its.size h' → (∀ b o, s.heap.get? b = some o → h'.get? b = some o) → Q (.ref s.heap.objs.size) { s with heap := h', toks := tk }) :
    wpAny (model P w) A (call (.type "set") [.ref l]) Q E s := by
  obtain ⟨c, tl, hmro⟩ := F.called_set.mro
  have hmade := F.called_set.made
  have hsub := F.called_set.sub
  refine wpAny_call (codeAny_of_tree ?_)
  show wpAny _ _ (callAny (.type "set") _) _ _ _
  refine wpAny_pure ⟨Code.quiet_builtin _ (by decide +kernel), codeAny_builtin F.entry_type_call ?_⟩
  rw [Around.under_plain (weight_type_call_type "set" [.ref l] []) rfl]
  have h1 := F.called_set.notType
  have h2 := F.called_set.canCreate
  have h3 := F.typeCall_set_1 (.ref l)
  repeat (any_goals (first | assumption | wp_step))
  refine codeAny_mono (code_set_led1 (.ref l) (E := E) (Q₁ := fun ob s1 => ob = .ref s.heap.objs.size ∧ s1 = { s with heap := s.heap.push (bare w) }) ⟨rfl, rfl⟩) fun r s1 hr => ?_
  cases r with
  | error e => exact hr
  | ok fl =>
    cases fl with
    | ret ob =>
      obtain ⟨rfl, rfl⟩ := hr
      have g0 : (s.heap.push (bare w)).get? s.heap.objs.size = some (bare w) := Heap.get?_push_size _ rfl
      have ty : Shared.TypeIs { s with heap := s.heap.push (bare w) } (.ref s.heap.objs.size) "set" := ⟨_, g0, rfl⟩
      have h4 := F.called_set.init.lookup
      have h5 := F.called_set.init.bind (.ref s.heap.objs.size)
      repeat (any_goals (first | assumption | wp_step))
      refine codeAny_mono (codeAny_call_builtin (R := wants (fun r s2 => r = .none ∧ ∃ h' tk, s2 = { s with heap := h', toks := tk } ∧ J its.size h' ∧ ∀ b o, s.heap.get? b = some o → h'.get? b = some o) E) F.called_set.init.plain F.entry_set_init (check_set_init_1 ty ?_)) fun r2 s2 hr2 => ?_
      · have lt : ∀ {b o}, s.heap.get? b = some o → b < s.heap.objs.size := fun e => Heap.lt_size e
        have nw : ∀ b, s.heap.objs.size ≤ b → s.heap.get? b = none := fun b hb => by
          cases z : s.heap.get? b with
          | none => rfl
          | some o => exact absurd (Nat.lt_of_lt_of_le (lt z) hb) (Nat.lt_irrefl _)
        have hh3 : A.in1.in1.in1.handled = none := by simp [hh]
        have z1 : (s.heap.push (bare w)).objs.size = s.heap.objs.size + 1 := Heap.size_push ..
        have ends : ∀ (s' : Shared), Moved [s.heap.objs.size, (s.heap.push (bare w)).objs.size] (fun a b => b = a) { s with heap := (s.heap.push (bare w)) } s' → J its.size s'.heap →
            ∃ h' tk, s' = { s with heap := h', toks := tk } ∧ J its.size h' ∧ ∀ b o, s.heap.get? b = some o → h'.get? b = some o := fun s' mv j => by
          obtain ⟨h', g', d', tk, os'⟩ := s'
          have e1 : g' = s.gens := mv.gens
          have e2 : d' = s.drawn := mv.drawn
          have e3 : os' = s.os := mv.os
          subst e1 e2 e3
          refine ⟨h', tk, rfl, j, fun b o e => mv.heap b o (fun hb => ?_) (Heap.get?_push_of_some _ e)⟩
          have hb2 := lt e
          simp only [List.mem_cons, List.not_mem_nil, or_false] at hb
          rcases hb with z | z
          · rw [z] at hb2
            exact Nat.lt_irrefl _ hb2
          · rw [z, z1] at hb2
            exact absurd hb2 (Nat.not_lt.mpr (Nat.le_succ _))
        rcases hl with hl | hl
        · obtain ⟨⟨ocls, odict, odata, oslots⟩, hol, hcl, nl, hdl⟩ := hl
          simp only at hcl hdl
          subst hcl hdl
          have hol' := Heap.get?_push_of_some (bare w) hol
          have hl1 : (s.heap.push (bare w)).IsList l its := ⟨_, hol', rfl, nl, rfl⟩
          have h6 := F.sub_list_set
          have h7 := F.sub_list_frozenset
          have h8 : (Value.type "list" == Value.type "dict") = false := by decide
          unfold Builtin.«set.__init__» noKeywords Builtin.Frozenset.updateFrom
          generalize hPI : pyIter = PI
          wp_walk
          subst hPI
          refine wpAny_pyIter_list hl1 (wpAny_bind (wpAny_runValue ?_))
          have hls := lt hol
          refine fill ((Walks.list hh3 _ l (by rw [z1]; exact Nat.ne_of_lt (Nat.lt_succ_of_lt hls)) its).toS) Fi (by rw [z1]; simp only [List.mem_cons, List.not_mem_nil, or_false, not_or]; exact ⟨Nat.ne_of_lt (Nat.lt_succ_self _), (Nat.ne_of_lt hls).symm⟩) (fun b hb => nw b (by rw [List.mem_singleton.mp hb, z1]; exact Nat.le_succ _)) (its.size - 0) 0 _ (by omega) (Nat.zero_le _)
            ⟨⟨_, Heap.get?_push_size _ rfl, rfl, rfl⟩, hl1.push _⟩ (j0 _ (Heap.get?_push_of_some _ g0) fun b o e => Heap.get?_push_of_some _ (Heap.get?_push_of_some _ e)) fun s' mv j => ?_
          refine wpAny_pure ?_
          obtain ⟨h', tk, e1, e2, e3⟩ := ends s' ⟨fun b o hb e => mv.heap b o hb (Heap.get?_push_of_some _ e), mv.gens, mv.drawn, mv.os, mv.toks⟩ j
          exact wpAny_pure ⟨rfl, h', tk, e1, e2, e3⟩
        · obtain ⟨⟨ocls, odict, odata, oslots⟩, hol, hcl, nl, hdl⟩ := hl
          simp only at hcl hdl
          subst hcl hdl
          have hol' := Heap.get?_push_of_some (bare w) hol
          have hl1 : (s.heap.push (bare w)).IsTuple l its := ⟨_, hol', rfl, nl, rfl⟩
          have h6 := F.sub_tuple_set
          have h7 := F.sub_tuple_frozenset
          have h8 : (Value.type "tuple" == Value.type "dict") = false := by decide
          unfold Builtin.«set.__init__» noKeywords Builtin.Frozenset.updateFrom
          generalize hPI : pyIter = PI
          wp_walk
          subst hPI
          refine wpAny_pyIter_tuple hl1 (wpAny_bind (wpAny_runValue ?_))
          have hls := lt hol
          refine fill ((Walks.tuple hh3 _ l (by rw [z1]; exact Nat.ne_of_lt (Nat.lt_succ_of_lt hls)) its).toS) Fi (by rw [z1]; simp only [List.mem_cons, List.not_mem_nil, or_false, not_or]; exact ⟨Nat.ne_of_lt (Nat.lt_succ_self _), (Nat.ne_of_lt hls).symm⟩) (fun b hb => nw b (by rw [List.mem_singleton.mp hb, z1]; exact Nat.le_succ _)) (its.size - 0) 0 _ (by omega) (Nat.zero_le _)
            ⟨⟨_, Heap.get?_push_size _ rfl, rfl, rfl⟩, hl1.push _⟩ (j0 _ (Heap.get?_push_of_some _ g0) fun b o e => Heap.get?_push_of_some _ (Heap.get?_push_of_some _ e)) fun s' mv j => ?_
          refine wpAny_pure ?_
          obtain ⟨h', tk, e1, e2, e3⟩ := ends s' ⟨fun b o hb e => mv.heap b o hb (Heap.get?_push_of_some _ e), mv.gens, mv.drawn, mv.os, mv.toks⟩ j
          exact wpAny_pure ⟨rfl, h', tk, e1, e2, e3⟩
      · cases r2 with
        | error e => exact hr2
        | ok fl2 =>
          cases fl2 with
          | ret r =>
            obtain ⟨rfl, h', tk, rfl, j, kp⟩ := hr2
            repeat (any_goals (first | assumption | wp_step))
            exact q _ _ j kp
          | _ => exact hr2.elim
    | _ => exact hr.elim
end
end SG
namespace SG
open PySem PySem.Spec PyProof.Rows L2
/-! ### how many different ones -/
section
variable {α : Type} [DecidableEq α]
theorem sub_len : ∀ {l r : List α}, l.Nodup → (∀ x ∈ l, x ∈ r) → l.length ≤ r.length
  | [], _, _, _ => Nat.zero_le _
  | x :: l, r, nd, h => by
    have h1 := List.nodup_cons.mp nd
    have hx := h x List.mem_cons_self
    have h2 : ∀ y ∈ l, y ∈ r.erase x := fun y hy => (List.mem_erase_of_ne (a := y) (b := x) fun e => h1.1 (by rw [← e]; exact hy)).mpr (h y (List.mem_cons_of_mem _ hy))
    have h3 := sub_len h1.2 h2
    rw [List.length_erase_of_mem hx] at h3
    have h4 : 0 < r.length := List.length_pos_of_mem hx
    rw [List.length_cons]
    omega
theorem less : ∀ {r : List α}, ¬ r.Nodup → ∃ l : List α, l.length < r.length ∧ ∀ x ∈ r, x ∈ l
  | [], h => absurd List.nodup_nil h
  | x :: r, h => by
    by_cases hx : x ∈ r
    · refine ⟨r, by simp, fun y hy => ?_⟩
      rcases List.mem_cons.mp hy with e | e
      · rw [e]
        exact hx
      · exact e
    · obtain ⟨l, h1, h2⟩ := less fun nd => h (List.nodup_cons.mpr ⟨hx, nd⟩)
      refine ⟨x :: l, by simpa using h1, fun y hy => ?_⟩
      rcases List.mem_cons.mp hy with e | e
      · rw [e]
        exact List.mem_cons_self
      · exact List.mem_cons_of_mem _ (h2 y e)
theorem as_many {l r : List α} (nd : l.Nodup) (h1 : ∀ x ∈ l, x ∈ r) (h2 : ∀ x ∈ r, x ∈ l) : l.length ≤ r.length ∧ (l.length = r.length ↔ r.Nodup) := by
  refine ⟨sub_len nd h1, fun e => ?_, fun nr => Nat.le_antisymm (sub_len nd h1) (sub_len nr h2)⟩
  rcases Classical.em r.Nodup with z | z
  · exact z
  · obtain ⟨l', q1, q2⟩ := less z
    have := sub_len nd fun x hx => q2 x (h1 x hx)
    omega
theorem take_one {l : List α} {i : Nat} {x : α} (h : l[i]? = some x) : l.take (i + 1) = l.take i ++ [x] := by
  rw [List.take_succ, h]
  rfl
end
section
variable {P : Program} {w : World} {A : Around} {E : Value → Shared → Prop} {s : Shared}
/-! ### tuples of texts and ints -/
theorem fills_tup {ks : List (Mem Key)} {its : Array Value} (e : its.toList = ks.map fun m => Value.ref m.1) (hk : ∀ m ∈ ks, IsTupleKey (mixKind P w) s.heap m.2 m.1) (few : ks.length < 64) (hu : A.units < cLine) :
    Fills P w A s.heap.objs.size s.heap its.size (fun i v => its[i]? = some v) fun i h => (∀ b o, s.heap.get? b = some o → h.get? b = some o) ∧
      ∃ M es ep t, TSet (mixKind P w) h s.heap.objs.size M es ep t ∧ (∀ m ∈ M, m ∈ ks.take i) ∧ (∀ m ∈ ks.take i, m.2 ∈ M.map (·.2)) ∧ M.length ≤ i := by
  have nw : s.heap.get? s.heap.objs.size = none := by
    cases z : s.heap.get? s.heap.objs.size with
    | none => rfl
    | some o => exact absurd (Heap.lt_size z) (Nat.lt_irrefl _)
  have up : ∀ {h : Heap} {m : Mem Key}, (∀ b o, s.heap.get? b = some o → h.get? b = some o) → m ∈ ks → IsTupleKey (mixKind P w) h m.2 m.1 := fun {h m} k hm => by
    obtain ⟨o, items, n, g, r⟩ := hk m hm
    exact ⟨o, items, n, k _ _ g, r⟩
  constructor
  · rintro i h h' ⟨k0, M, es, ep, t, S, m1, m2, m3⟩ kp
    have k1 : ∀ b o, s.heap.get? b = some o → h'.get? b = some o := fun b o q => kp b o (.inr ⟨o, q⟩) (k0 b o q)
    obtain ⟨o, g1, g2⟩ := S.obj
    exact ⟨k1, M, es, ep, t, ⟨⟨o, kp _ _ (.inl rfl) g1, g2⟩, S.ent, S.tok, S.uni, fun m hm => up k1 (List.mem_of_mem_take (m1 m hm)), S.led, S.rom, S.few⟩, m1, m2, m3⟩
  · rintro i v s' Q E' lt pv ⟨k0, M, es, ep, t, S, m1, m2, m3⟩ q
    have z : its.toList[i]? = some v := by
      rw [Array.getElem?_toList]
      exact pv
    rw [e, List.getElem?_map] at z
    obtain ⟨m, hm, rfl⟩ : ∃ m, ks[i]? = some m ∧ v = .ref m.1 := by
      cases y : ks[i]? with
      | none =>
        rw [y] at z
        cases z
      | some m =>
        rw [y] at z
        exact ⟨m, rfl, (Option.some.inj z).symm⟩
    have mm := List.mem_of_getElem? hm
    have il : i < ks.length := (List.getElem?_eq_some_iff.mp hm).1
    have hx := up k0 mm
    unfold setAdd
    refine wpAny_holding (wpAny_bind (wpAny_pyHash_tuple hu hx ?_))
    refine more (s := { s' with toks := s'.toks + (m.2.length + 1) }) tame_mix S hx hu (by omega) fun b h' M' es' ep' t' sb S' c1 c2 => ?_
    refine q h' _ (Nat.le_add_right _ _) sb ⟨fun b o g => (sb.2 b fun y => by rw [y, nw] at g; cases g).trans (k0 b o g), M', es', ep', t', S', ?_⟩
    rw [take_one hm]
    by_cases hin : m.2 ∈ M.map (·.2)
    · rw [c1 hin]
      refine ⟨fun n hn => List.mem_append_left _ (m1 n hn), fun n hn => ?_, by omega⟩
      rcases List.mem_append.mp hn with y | y
      · exact m2 n y
      · rw [List.mem_singleton.mp y]
        exact hin
    · have pm := c2 hin
      refine ⟨fun n hn => ?_, fun n hn => ?_, by rw [pm.length_eq, List.length_cons]; omega⟩
      · rcases List.mem_cons.mp (pm.mem_iff.mp hn) with y | y
        · rw [y]
          exact List.mem_append_right _ (List.mem_singleton.mpr rfl)
        · exact List.mem_append_left _ (m1 n y)
      · rw [(pm.map (·.2)).mem_iff, List.map_cons]
        rcases List.mem_append.mp hn with y | y
        · exact List.mem_cons_of_mem _ (m2 n y)
        · rw [List.mem_singleton.mp y]
          exact List.mem_cons_self
theorem fresh_tup {h : Heap} {a : Addr} (g : h.get? a = some (bare w)) : TSet (mixKind P w) h a [] #[] 0 (.fresh 0 0 (!w.params.followText "set-order")) where
  obj := ⟨_, g, ⟨rfl, rfl, rfl⟩, rfl⟩
  ent := rfl
  tok := ⟨List.Pairwise.nil, rfl, rfl, .inl rfl, (fun x hx => nomatch hx), (fun i h j hi => by simp at hi)⟩
  uni := List.nodup_nil
  mem := fun m hm => nomatch hm
  led := by
    show _ ∨ (!w.params.followText "set-order") = true
    cases w.params.followText "set-order"
    · exact .inr rfl
    · exact .inl rfl
  rom := by
    show 0 * 5 < 7 * 3
    decide
  few := by
    show 0 < 64
    decide
/-! ### texts -/
theorem fills_str {xs : List Str} {its : Array Value} (e : ∀ (i : Nat) v, its[i]? = some v → ∃ x t, xs[i]? = some x ∧ v = Value.str x t) (few : xs.length < 64) :
    Fills P w A s.heap.objs.size s.heap its.size (fun i v => its[i]? = some v) fun i h => (∀ b o, s.heap.get? b = some o → h.get? b = some o) ∧
      ∃ (Sf : Str → Bool) (l : List Str), h.SetOf (PySem.strKind P w) s.heap.objs.size Sf l.length ∧ (∀ k, Sf k = true ↔ k ∈ xs.take i) ∧ l.Nodup ∧ (∀ k, k ∈ l ↔ k ∈ xs.take i) ∧ l.length ≤ i := by
  have nw : s.heap.get? s.heap.objs.size = none := by
    cases z : s.heap.get? s.heap.objs.size with
    | none => rfl
    | some o => exact absurd (Heap.lt_size z) (Nat.lt_irrefl _)
  constructor
  · rintro i h h' ⟨k0, Sf, l, ⟨o, es, ep, t, g, r⟩, m⟩ kp
    exact ⟨fun b o q => kp b o (.inr ⟨o, q⟩) (k0 b o q), Sf, l, ⟨o, es, ep, t, kp _ _ (.inl rfl) g, r⟩, m⟩
  · rintro i v s' Q E' lt pv ⟨k0, Sf, l, S, m1, m2, m3, m4⟩ q
    obtain ⟨x, t, hx, rfl⟩ := e i v pv
    have il : i < xs.length := (List.getElem?_eq_some_iff.mp hx).1
    unfold setAdd
    refine wpAny_holding (wpAny_bind ((PySem.strKind P w).pyHash (k := x) (strKind_is _ _ _ _) ?_))
    refine wpAny_setAddHashed_of (knd := PySem.strKind P w) (s := { s' with toks := s'.toks + 1 }) (strKind_is _ _ _ _) rfl S (by unfold scanBound; omega) fun h' sb S' => ?_
    refine q h' _ (Nat.le_add_right _ _) sb ⟨fun b o g => (sb.2 b fun y => by rw [y, nw] at g; cases g).trans (k0 b o g), ?_⟩
    rw [take_one hx]
    have mem : ∀ k, (Sf k || decide (k = x)) = true ↔ k ∈ xs.take i ++ [x] := fun k => by
      rw [Bool.or_eq_true, decide_eq_true_eq, m1, List.mem_append, List.mem_singleton]
    by_cases hin : Sf x = true
    · rw [hin, if_pos rfl] at S'
      refine ⟨_, l, S', mem, m2, fun k => ?_, by omega⟩
      rw [m3, List.mem_append, List.mem_singleton]
      exact ⟨.inl, fun y => y.elim id fun y => by rw [y]; exact (m1 x).mp hin⟩
    · rw [if_neg hin] at S'
      have hn : x ∉ l := fun y => hin ((m1 x).mpr ((m3 x).mp y))
      refine ⟨_, x :: l, S', mem, List.nodup_cons.mpr ⟨hn, m2⟩, fun k => ?_, by rw [List.length_cons]; omega⟩
      rw [List.mem_cons, m3, List.mem_append, List.mem_singleton]
      exact ⟨fun y => y.elim .inr .inl, fun y => y.elim .inr .inl⟩
end
/-! ### len(set(e)) -/
section
variable {X : Cx}
def tLenSetD (K : PySem.W.Frag) (ta : TE) : TE := fun σ H Q => ta σ H fun x H1 => ∃ l : Addr, x = .ref l ∧
  ((∃ xs : List Str, (SqL K H1 l (xs.map V.str) ∨ SqT K H1 l (xs.map V.str)) ∧ xs.length < 64 ∧ ∀ n : Nat, n ≤ xs.length → (n = xs.length ↔ xs.Nodup) → Q (.int n) H1) ∨
  ∃ ks : List (Mem Key), (SqL K H1 l (ks.map fun m => V.ref m.1) ∨ SqT K H1 l (ks.map fun m => V.ref m.1)) ∧ (∀ m ∈ ks, SqT K H1 m.1 (m.2.map kV)) ∧ ks.length < 64 ∧
    ∀ n : Nat, n ≤ ks.length → (n = ks.length ↔ (ks.map (·.2)).Nodup) → Q (.int n) H1)
theorem its_keys {P : Program} {w : World} : ∀ {k : List Key} {us : List Value}, Vals (k.map kV) us → ItemsAre (mixKind P w) k us
  | [], _, .nil => .nil
  | .inl i :: ks, _, .cons r t => by
    obtain ⟨tk, rfl⟩ := r
    exact .cons (mixKind_int P w i tk) (its_keys t)
  | .inr x :: ks, _, .cons r t => by
    obtain ⟨tk, rfl⟩ := r
    exact .cons (mixKind_str P w x tk) (its_keys t)
theorem its_refs : ∀ {ks : List (Mem Key)} {us : List Value}, Vals (ks.map fun m => V.ref m.1) us → us = ks.map fun m => Value.ref m.1
  | [], _, .nil => rfl
  | m :: ks, _, .cons r t => by
    cases r
    rw [its_refs t]
    rfl
theorem its_strs {xs : List Str} {us : List Value} (r : Vals (xs.map V.str) us) (i : Nat) (v : Value) (h : us[i]? = some v) : ∃ x t, xs[i]? = some x ∧ v = Value.str x t := by
  induction xs generalizing us i with
  | nil =>
    cases r
    simp at h
  | cons y ys ih =>
    cases r with
    | cons r t =>
      obtain ⟨tk, rfl⟩ := r
      cases i with
      | zero =>
        simp at h
        exact ⟨y, tk, rfl, h.symm⟩
      | succ i => exact ih t i (by simpa using h)
theorem pe_lenSetD {a : Expr} {ta : TE} {p p2 q pos : Pos} (hc : X.calm = true) (hu : X.A.units + 3 < cLine) (hg : Gl X "len") (hm : X.mg "len" = none) (hg2 : Gl X "set") (hm2 : X.mg "set" = none) (ha : PE X a ta)
    (na : starEach [a] X.env = (false, eval a X.env) :: starEach [] X.env := by rfl) : PE X (.Call (.Name "len" p) [.Call (.Name "set" p2) [a] [] q] [] pos) (tLenSetD X.K ta) := by
  refine ⟨fun pins s σ H Q I h => ?_⟩
  refine Call_ (ld_blt I hg hm boot_len ?_)
  refine PyProof.Rows.callWith_builtin1 (PyProof.Rows.args_cons ?_ rfl) rfl rfl
  refine Call_ (ld_blt I hg2 hm2 boot_set ?_)
  refine PyProof.Rows.callWith_type1 (PyProof.Rows.args_cons (thn (ha.run pins s σ H _ I h) fun v s1 ⟨x, H1, I1, r1, q1⟩ => PyProof.Rows.args_nil ?_) na) na rfl
  obtain ⟨l, rfl, q1⟩ := q1
  cases r1
  have seq : ∀ {vs : List V}, (SqL X.K H1 l vs ∨ SqT X.K H1 l vs) → ∃ its : Array Value, Vals vs its.toList ∧ (s1.heap.IsList l its ∨ s1.heap.IsTuple l its) := fun {vs} hq => by
    rcases hq with hq | hq
    · obtain ⟨its, r, pl, _⟩ := I1.list hq
      exact ⟨its.toArray, by simpa using r, .inl pl.isList⟩
    · obtain ⟨its, r, pl, _⟩ := I1.tuple hq
      exact ⟨its.toArray, by simpa using r, .inr pl⟩
  have fin : ∀ (h' : Heap) (tk : Nat) (o : Obj) (es : Array (Int × Value)) (ep : Nat) (t : SetTable), h'.get? s1.heap.objs.size = some o → o.ExactSet → o.data = .set es ep t → t.fits es.size = true → (es.size : Int) < 2 ^ 63 →
      (∀ b o, s1.heap.get? b = some o → h'.get? b = some o) → Q (.int es.size) H1 →
      wpAny (model X.prog X.w) X.A (spliced (backTo pos (starEach [] X.env))) (fun vs s2 => wpAny (model X.prog X.w) X.A (call (.builtin "len") (Value.ref s1.heap.objs.size :: vs)) (EP X pins σ Q) X.xe s2) X.xe { s1 with heap := h', toks := tk } := fun h' tk o es ep t g1 g2 g3 g4 g5 kp qq => by
    have I2 : Inv X pins σ H1 { s1 with heap := h', toks := tk } := I1.kept fun b o e => kp b o e
    exact PyProof.Rows.args_nil (call_len_set g1 g2 g3 g4 g5 ⟨.int es.size, H1, I2.tok _, ⟨_, rfl⟩, qq⟩)
  rcases q1 with ⟨xs, hq, few, q1⟩ | ⟨ks, hq, hk, few, q1⟩
  · obtain ⟨its, r, hl⟩ := seq hq
    refine make (I1.ok.hd hc) hl (fills_str (xs := xs) (fun i v hv => its_strs r i v (by rw [Array.getElem?_toList]; exact hv)) few)
      (fun h g kp => ⟨kp, fun _ => false, [], ?_, fun k => by simp, List.nodup_nil, fun k => by simp, Nat.le_refl _⟩) fun h' tk ⟨_, Sf, ls, S, _, m2, m3, m4⟩ kp => ?_
    · exact SetOf_congr ((setObjOf_fresh (knd := PySem.strKind X.prog X.w) (!X.w.params.followText "set-order")).setOf g (by unfold scanBound; omega)) (fun _ => rfl) rfl
    · have n : its.size = xs.length := by
        have z := r.length
        rw [List.length_map, Array.length_toList] at z
        exact z.symm
      rw [n, List.take_length] at m3
      obtain ⟨a1, a2⟩ := as_many m2 (fun x hx => (m3 x).mp hx) fun x hx => (m3 x).mpr hx
      obtain ⟨o, es, ep, t, g1, g2, g3, _, _, _, g4, g5⟩ := S
      refine fin h' tk o es ep t g1 g2 g3 g4 (by rw [g5]; omega) kp ?_
      rw [g5]
      exact q1 _ a1 a2
  · obtain ⟨its, r, hl⟩ := seq hq
    have hx : ∀ m ∈ ks, IsTupleKey (mixKind X.prog X.w) s1.heap m.2 m.1 := fun m hm => by
      obtain ⟨us, ru, ⟨o, g1, g2, n, g3⟩, _⟩ := I1.tuple (hk m hm)
      exact ⟨o, _, n, g1, g2, g3, by simpa using its_keys ru⟩
    refine make (I1.ok.hd hc) hl (fills_tup (its_refs r) hx few hu) (fun h g kp => ⟨kp, [], #[], 0, _, fresh_tup g, (fun m hm => nomatch hm), (fun m hm => by simp at hm), Nat.le_refl _⟩) fun h' tk ⟨_, M, es, ep, t, S, m1, m2, m3⟩ kp => ?_
    have n : its.size = ks.length := by
      have z := r.length
      rw [List.length_map, Array.length_toList] at z
      exact z.symm
    rw [n, List.take_length] at m1 m2
    have zz : (M.map (·.2)).length ≤ (ks.map (·.2)).length ∧ ((M.map (·.2)).length = (ks.map (·.2)).length ↔ (ks.map (·.2)).Nodup) := as_many S.uni (fun x hx2 => by
        obtain ⟨m, hm, rfl⟩ := List.mem_map.mp hx2
        exact List.mem_map.mpr ⟨m, m1 m hm, rfl⟩) fun x hx2 => by
        obtain ⟨m, hm, rfl⟩ := List.mem_map.mp hx2
        exact m2 m hm
    rw [List.length_map, List.length_map] at zz
    obtain ⟨o, g1, g2, g3⟩ := S.obj
    have sz := ents_len S.ent
    refine fin h' tk o es ep t g1 g2 g3 (fits_of S.tok sz (by have := S.rom; omega)) (by rw [sz]; have := S.few; omega) kp ?_
    rw [sz]
    exact q1 _ zz.1 zz.2
end
end SG
namespace CC
open PySem L2
/-! ### where pairs lead -/
inductive Rch (ps : List (Nat × Nat)) (a : Nat) : Nat → Prop
  | refl : Rch ps a a
  | step {b c : Nat} : Rch ps a b → (b, c) ∈ ps → Rch ps a c
theorem Rch.trans {ps : List (Nat × Nat)} {a b c : Nat} (h1 : Rch ps a b) (h2 : Rch ps b c) : Rch ps a c := by
  induction h2 with
  | refl => exact h1
  | step _ h ih => exact ih.step h
theorem Rch.mono {ps qs : List (Nat × Nat)} (h : ∀ x ∈ ps, x ∈ qs) {a b : Nat} (r : Rch ps a b) : Rch qs a b := by
  induction r with
  | refl => exact .refl
  | step _ q ih => exact ih.step (h _ q)
theorem Rch.lt {ps : List (Nat × Nat)} {w a b : Nat} (h : ∀ x ∈ ps, x.1 < w ∧ x.2 < w) (ha : a < w) (r : Rch ps a b) : b < w := by
  cases r with
  | refl => exact ha
  | step _ q => exact (h _ q).2
/-- a set that is closed under the pairs holds all that is reached -/
theorem Rch.within {ps : List (Nat × Nat)} {a b : Nat} {S : Nat → Prop} (ha : S a) (hc : ∀ x y, S x → (x, y) ∈ ps → S y) (r : Rch ps a b) : S b := by
  induction r with
  | refl => exact ha
  | step _ q ih => exact hc _ _ ih q
def nms (ns : List Nat) : List V := ns.map fun (n : Nat) => V.int (n : Int)
theorem nms_len (ns : List Nat) : (nms ns).length = ns.length := List.length_map _
theorem nms_app (ns ms : List Nat) : nms (ns ++ ms) = nms ns ++ nms ms := List.map_append
theorem nms_flat (ns : List Nat) : (nms ns).all flatV = true := by
  rw [List.all_eq_true]
  intro v hv
  obtain ⟨n, _, rfl⟩ := List.mem_map.mp hv
  rfl
theorem nms_in (ns : List Nat) (n : Nat) : inV (.int (n : Int)) (nms ns) = decide (n ∈ ns) := by
  induction ns with
  | nil => simp [inV, nms]
  | cons m ns ih =>
    have e : inV (.int (n : Int)) (nms (m :: ns)) = (((m : Int) == (n : Int)) || inV (.int (n : Int)) (nms ns)) := rfl
    rw [e, ih]
    by_cases h : m = n
    · subst h
      simp
    · have h2 : ¬ n = m := fun z => h z.symm
      have h3 : ((m : Int) == (n : Int)) = false := by
        rw [beq_eq_false_iff_ne]
        omega
      rw [h3]
      simp [h2]
theorem few6 {fs : List Nat} (nd : fs.Nodup) (h : ∀ x ∈ fs, x < 6) : fs.length ≤ 6 := by
  have := SG.sub_len (r := List.range 6) nd fun x hx => List.mem_range.mpr (h x hx)
  rw [List.length_range] at this
  exact this
end CC
namespace CC
open PySem L2
abbrev sEvery : Stmt := tp 7
def spEvery (K : PySem.W.Frag) : Sp := fun vs H Q _ => ∃ w : Nat, vs = [.int (w : Int)] ∧ w ≤ 6 ∧ ∀ (p : Addr) (us : List V) (H' : Hp), Same H H' → H p = none → H' p = some (.lst us) → DpAll K (wo H' p) us ((allR w).map R.d) → Q (.ref p) H'
theorem row_step (w a : Nat) (k : Bool) (j : Nat) (hj : j < w) : ((List.range (j + 1)).filter fun b => decide (a ≠ b)) = ((List.range j).filter fun b => decide (a ≠ b)) ++ (if a = j then [] else [j]) := by
  rw [List.range_succ, List.filter_append]
  by_cases h : a = j
  · simp [h]
  · simp [h]
/-- a list of rules that is being made at D -/
def MadeR (K : PySem.W.Frag) (H0 : Hp) (D : Addr) (n : Nat) (H : Hp) (rs : List R) : Prop := ∃ us, Made K (fun H => wo H D) Tr (fun _ _ => True) H0 D n H us (rs.map R.d)
theorem MadeR.up {K : PySem.W.Frag} {H0 H : Hp} {D : Addr} {n m : Nat} {rs rs' : List R} (p : MadeR K H0 D n H rs) (h : n ≤ m) (e : rs = rs') : MadeR K H0 D m H rs' := by
  obtain ⟨us, p⟩ := p
  subst e
  exact ⟨us, p.same, trivial, p.lst, p.dat, trivial, Nat.le_trans p.len h⟩
theorem MadeR.start {K : PySem.W.Frag} {H0 : Hp} {D : Addr} : MadeR K H0 D 0 (upd H0 D (.lst [])) [] := by
  refine ⟨[], ?_, trivial, upd_same, .nil, trivial, Nat.le_refl _⟩
  show Same (wo H0 D) (wo (upd H0 D (.lst [])) D)
  rw [wo_upd]
  exact Same.refl _
theorem MadeR.push {K : PySem.W.Frag} {H0 H H' : Hp} {D : Addr} {n m : Nat} {rs : List R} {r : R} {y : V} (p : MadeR K H0 D n H rs) (h9 : n < 100000) (hm : n < m) (q3 : Same H H') (q1 : Dp K (wo H' D) y r.d) :
    ∃ acc, H' D = some (.lst acc) ∧ acc.length < sizeLine ∧ MadeR K H0 D m (upd H' D (.lst (acc ++ [y]))) (rs ++ [r]) := by
  obtain ⟨us, p⟩ := p
  obtain ⟨acc, a1, a2, us', ds', p'⟩ := madeP_push (j := m) p h9 hm q3 q1 trivial
  refine ⟨acc, a1, a2, us ++ [y], ?_, trivial, ?_, ?_, trivial, ?_⟩
  · show Same (wo H0 D) (wo (upd H' D (.lst (acc ++ [y]))) D)
    rw [wo_upd]
    exact p.same.trans (wo_same q3)
  · have e : some (HO.lst acc) = some (HO.lst us) := a1.symm.trans (q3 _ _ p.lst)
    cases e
    exact upd_same
  · show DpAll K (wo (upd H' D (.lst (acc ++ [y]))) D) _ _
    rw [wo_upd, List.map_append]
    exact dps_app (dps_same (wo_same q3) _ _ p.dat) (dps_one q1)
  · rw [List.length_append]
    exact Nat.le_trans (Nat.succ_le_succ p.len) hm
theorem MadeR.old {K : PySem.W.Frag} {H0 H : Hp} {D : Addr} {n : Nat} {rs : List R} (p : MadeR K H0 D n H rs) (h : H0 D = none) : Same H0 H := by
  obtain ⟨us, p⟩ := p
  exact p.old h
section
variable {P : Program} {w : World} {K : PySem.W.Frag} {mg : Str → Option Value} {base : Heap} {kA : Addr}
/-- a walk over a list, a clause of a comprehension -/
theorem turn_list {a : Addr} {xs : List V} {g : TG} {tt : TT} {vs : List Nat} {b : C3.TB} {σ : L2.St} {N : Hp → Prop} {H1 : Hp} (Pv : Nat → Hp → Prop) (h0 : Pv 0 H1) (hl : ∀ i H, i ≤ xs.length → Pv i H → SqL K H a xs)
    (hs : ∀ i x H, xs[i]? = some x → Pv i H → g x (wipe σ vs) H fun τ H2 => wipe τ vs = wipe σ vs ∧ tt τ H2 fun y H3 => if y = true then b τ H3 (Pv (i + 1)) else Pv (i + 1) H3) (hd : ∀ H, Pv xs.length H → N H) :
    ∃ W : Nat → Nat → Hp → Prop, (∃ m, W 0 m H1) ∧ C3.tTurn (Itl K a) g tt vs b σ W N := by
  refine ⟨fun i m H => m = xs.length - i ∧ i ≤ xs.length ∧ Pv i H, ⟨xs.length, by simp, Nat.zero_le _, h0⟩, ?_⟩
  rintro i m H ⟨rfl, hi, p⟩
  have q := hl i H hi p
  by_cases lt : i < xs.length
  · refine .inr ⟨⟨xs, xs[i], q, by simp [lt]⟩, Pv (i + 1), fun H' p' => ⟨xs.length - (i + 1), by omega, rfl, lt, p'⟩, fun x H' y => ?_⟩
    obtain ⟨e, y⟩ := y
    subst e
    exact hs i x _ (y xs q) p
  · have e : i = xs.length := by omega
    subst e
    exact .inl ⟨⟨xs, q, Nat.le_refl _⟩, hd H p⟩
theorem turn_tup {a : Addr} {xs : List V} {g : TG} {tt : TT} {vs : List Nat} {b : C3.TB} {σ : L2.St} {N : Hp → Prop} {H1 : Hp} (Pv : Nat → Hp → Prop) (h0 : Pv 0 H1) (hl : ∀ i H, i ≤ xs.length → Pv i H → SqT K H a xs)
    (hs : ∀ i x H, xs[i]? = some x → Pv i H → g x (wipe σ vs) H fun τ H2 => wipe τ vs = wipe σ vs ∧ tt τ H2 fun y H3 => if y = true then b τ H3 (Pv (i + 1)) else Pv (i + 1) H3) (hd : ∀ H, Pv xs.length H → N H) :
    ∃ W : Nat → Nat → Hp → Prop, (∃ m, W 0 m H1) ∧ C3.tTurn (Itt K a) g tt vs b σ W N := by
  refine ⟨fun i m H => m = xs.length - i ∧ i ≤ xs.length ∧ Pv i H, ⟨xs.length, by simp, Nat.zero_le _, h0⟩, ?_⟩
  rintro i m H ⟨rfl, hi, p⟩
  have q := hl i H hi p
  by_cases lt : i < xs.length
  · refine .inr ⟨⟨xs, xs[i], q, by simp [lt]⟩, Pv (i + 1), fun H' p' => ⟨xs.length - (i + 1), by omega, rfl, lt, p'⟩, fun x H' y => ?_⟩
    obtain ⟨e, y⟩ := y
    subst e
    exact hs i x _ (y xs q) p
  · have e : i = xs.length := by omega
    subst e
    exact .inl ⟨⟨xs, q, Nat.le_refl _⟩, hd H p⟩
theorem scEvery : FnScope ["width", "columns", "kind", "a", "b"] ["width"] (defScope sEvery) := ⟨rfl, rfl, rfl, by decide +kernel, rfl, by decide +kernel, by decide +kernel⟩
theorem ok_every {f : Addr} {fd : FuncData} {k : Nat} (F : Fun K "every_rule" "every_rule" sEvery f fd) (T : Glb K mg kA) : FnOk P w K mg base CX0 (k + 1) f fd ["width"] (spEvery K) := by
  refine F.ok scEvery (fun vs H Q E h => ?_) (fun cdv A outer s H vs Q E hr h => ?_)
  · obtain ⟨z, rfl, _⟩ := h
    rfl
  · obtain ⟨z, rfl, hz, q⟩ := h
    have nd := scEvery.nd
    refine ⟨_, pss_cons (ps_set (i := 1) nd rfl (.inr rfl) (pe_listRg rfl (by rfl) T.lst (prg_1 (by rfl) T.rng (pv 0))))
      (pss_one (ps_ret (C3.pe_lc3 (own := [("kind", 2), ("a", 3), ("b", 4)]) (v1 := [3, 4]) (v2 := [4]) (w1 := iList K (tVar 1)) (w2 := iList K (tVar 1)) rfl nd (pi_tup (pe_glob (v := .ref kA) rfl T.knd rfl)) (blkOk_by (N := ["width", "columns", "kind", "a", "b"]) (sc := defScope sEvery) (by decide +kernel)) (by decide) (by decide)
        (fun _ _ _ _ _ => pg_name (i := 2) nd rfl (.inl rfl)) (fun _ _ _ _ _ => pts_nil)
        (fun _ _ _ _ _ => pi_list (pv 1)) (fun _ _ _ _ _ => pg_name (i := 3) nd rfl (.inl rfl)) (fun _ _ _ _ _ => pts_nil)
        (fun _ _ _ _ _ => pi_list (pv 1)) (fun _ _ _ _ _ => pg_name (i := 4) nd rfl (.inl rfl)) (fun _ _ _ _ _ => pts_one (pt_cmpR op_ne (pv 3) (pv 4) (nomark _)))
        (fun _ _ _ _ _ => pe_tup (pa_cons (pv 2) (pa_cons (pv 3) (pa_cons (pv 4) pa_nil))))))), ?_⟩
    have hk : ∀ H, SqT K H kA [.str "settles", .str "within"] := fun H => .inr T.kseq
    refine ⟨_, rfl, _, rfl, RgOk.of_le (by omega) (by omega) (by omega) (by omega), fun c nc => ?_⟩
    rw [cols_rg]
    have cC : ∀ {H' : Hp}, Same (upd H c (.lst (cols z))) H' → SqL K H' c (cols z) := fun e => .inl (.inl (e _ _ upd_same))
    generalize hH1 : upd H c (.lst (cols z)) = H1 at cC
    have s1 : Same H H1 := by
      rw [← hH1]
      exact same_new nc
    refine ⟨kA, rfl, ⟨_, hk _⟩, fun D nD => ?_⟩
    refine turn_tup (xs := [.str "settles", .str "within"]) (fun i H => MadeR K H1 D (36 * i) H (([true, false].take i).flatMap fun k => (List.range z).flatMap fun a => row z a k)) MadeR.start (fun _ _ _ _ => hk _) ?_ ?_
    · intro i x H2 hx p
      obtain ⟨kk, rfl, hi, tk⟩ : ∃ kk : Bool, x = .str (kd kk) ∧ i < 2 ∧ [true, false].take (i + 1) = [true, false].take i ++ [kk] := by
        match i, hx with
        | 0, hx =>
          simp at hx
          exact ⟨true, hx.symm, by decide, rfl⟩
        | 1, hx =>
          simp at hx
          exact ⟨false, hx.symm, by decide, rfl⟩
        | n + 2, hx => simp at hx
      rw [tk, List.flatMap_append]
      generalize ([true, false].take i).flatMap (fun k => (List.range z).flatMap fun a => row z a k) = pre at p
      refine ⟨rfl, ?_⟩
      refine yes_if ?_
      refine ⟨_, rfl, c, rfl, ⟨_, cC (p.old nD)⟩, ?_⟩
      refine turn_list (xs := cols z) (fun j H => MadeR K H1 D (36 * i + 6 * j) H (pre ++ (List.range j).flatMap fun a => row z a kk)) (p.up (by omega) (by simp)) (fun _ _ _ p => cC (p.old nD)) ?_ ?_
      · intro j y H3 hy p3
        obtain ⟨hj, rfl⟩ := cols_at hy
        refine ⟨rfl, ?_⟩
        refine yes_if ?_
        refine ⟨_, rfl, c, rfl, ⟨_, cC (p3.old nD)⟩, ?_⟩
        refine turn_list (xs := cols z) (fun l H => MadeR K H1 D (36 * i + 6 * j + l) H ((pre ++ (List.range j).flatMap fun a => row z a kk) ++ (((List.range l).filter fun b => decide (j ≠ b)).map fun b => ⟨kk, j, b⟩))) (p3.up (by omega) (by simp)) (fun _ _ _ p => cC (p.old nD)) ?_ ?_
        · intro l v H4 hv p4
          obtain ⟨hl, rfl⟩ := cols_at hv
          refine ⟨rfl, _, rfl, _, rfl, rfl, _, rfl, ?_⟩
          rw [row_step z j kk l hl, List.map_append, ← List.append_assoc]
          by_cases e : j = l
          · have e1 : (!decide (V.int (j : Int) = V.int (l : Int))) = false := by rw [e]; simp
            rw [e1]
            refine iteF (p4.up (by omega) ?_)
            rw [if_pos e]
            simp
          · have e1 : (!decide (V.int (j : Int) = V.int (l : Int))) = true := by
              rw [decide_eq_false (fun q => e (by injection q with q; omega))]
              rfl
            rw [e1, if_neg e]
            refine iteT ⟨_, rfl, _, rfl, _, rfl, (by show 3 ≤ sizeLine; decide), fun t nt => ?_⟩
            obtain ⟨us, p5⟩ := id p4
            exact p4.push (by omega) (by omega) (same_new nt) (r_dp (r := ⟨kk, j, l⟩) (tup_new p5.lst nt))
        · intro H4 p4
          rw [cols_len] at p4
          refine p4.up (by omega) ?_
          rw [List.range_succ, List.flatMap_append]
          simp [row]
      · intro H3 p3
        rw [cols_len] at p3
        refine p3.up (by omega) (by simp)
    · intro H2 p
      obtain ⟨us, p5⟩ := id p
      exact q D us H2 (s1.trans (p.old nD)) (by
        cases z0 : H D with
        | none => rfl
        | some o =>
          rw [s1 _ _ z0] at nD
          cases nD) p5.lst p5.dat
end
end CC
namespace CC
open PySem L2 TL
def num (n : Nat) : Str := Str.ofString (toString (n : Int))
theorem tl_app (a b : Str) : tl (a ++ b) = tl a ++ tl b := tl_append a b
end CC
namespace CC
open PySem L2 TL
/-! ### lines -/
abbrev sLine : Stmt := tp 23
def lineS (r : R) : Str := Str.empty ++ num r.a ++ " " ++ kd r.k ++ " " ++ num r.b
def textS (rs : List R) : Str := Txt.join "" (rs.map fun r => lineS r ++ "\n")
theorem lines_nodup : ((allR 6).map lineS).Nodup := by decide +kernel
theorem mem_row {w a : Nat} {k : Bool} {r : R} : r ∈ row w a k ↔ r.k = k ∧ r.a = a ∧ r.b < w ∧ a ≠ r.b := by
  obtain ⟨k', a', b'⟩ := r
  simp only [row, List.mem_map, List.mem_filter, List.mem_range, decide_eq_true_eq, R.mk.injEq]
  constructor
  · rintro ⟨b, ⟨h1, h2⟩, rfl, rfl, rfl⟩
    exact ⟨rfl, rfl, h1, h2⟩
  · rintro ⟨rfl, rfl, h1, h2⟩
    exact ⟨b', ⟨h1, h2⟩, rfl, rfl, rfl⟩
theorem mem_allR {w : Nat} {r : R} : r ∈ allR w ↔ r.ok w := by
  simp only [allR, List.mem_flatMap, List.mem_range, mem_row, R.ok, List.mem_cons, List.not_mem_nil, or_false]
  constructor
  · rintro ⟨k, _, a, h1, rfl, rfl, h2, h3⟩
    exact ⟨h1, h2, h3⟩
  · rintro ⟨h1, h2, h3⟩
    refine ⟨r.k, ?_, r.a, h1, rfl, rfl, h2, h3⟩
    cases r.k
    · exact .inr rfl
    · exact .inl rfl
theorem R.ok.up {w : Nat} {r : R} (h : r.ok w) (hw : w ≤ 6) : r.ok 6 := ⟨Nat.lt_of_lt_of_le h.1 hw, Nat.lt_of_lt_of_le h.2.1 hw, h.2.2⟩
theorem inj_of {α β : Type} {f : α → β} : ∀ {l : List α}, (l.map f).Nodup → ∀ {x y : α}, x ∈ l → y ∈ l → f x = f y → x = y
  | [], _, _, _, h, _, _ => nomatch h
  | z :: l, nd, x, y, hx, hy, e => by
    rw [List.map_cons, List.nodup_cons] at nd
    rcases List.mem_cons.mp hx with e1 | h1
    · rcases List.mem_cons.mp hy with e2 | h2
      · rw [e1, e2]
      · exact absurd (List.mem_map.mpr ⟨y, h2, by rw [← e, e1]⟩) nd.1
    · rcases List.mem_cons.mp hy with e2 | h2
      · exact absurd (List.mem_map.mpr ⟨x, h1, by rw [e, e2]⟩) nd.1
      · exact inj_of nd.2 h1 h2 e
theorem line_inj {r s : R} (hr : r.ok 6) (hs : s.ok 6) (e : lineS r = lineS s) : r = s := inj_of lines_nodup (mem_allR.mpr hr) (mem_allR.mpr hs) e
theorem lines_all : ((allR 6).all fun r => (lineS r).length ≤ 20 && !(tl (lineS r)).contains 10) = true := by decide +kernel
theorem line_of6 {r : R} (hr : r.ok 6) : (lineS r).length ≤ 20 ∧ 10 ∉ tl (lineS r) := by
  have h := List.all_eq_true.mp lines_all r (mem_allR.mpr hr)
  simp only [Bool.and_eq_true, decide_eq_true_eq, Bool.not_eq_true'] at h
  refine ⟨h.1, fun z => ?_⟩
  have := List.contains_iff_mem.mpr z
  rw [h.2] at this
  cases this
theorem allR_nodup {w : Nat} (hw : w ≤ 6) : (allR w).Nodup := by
  have h : ∀ w : Fin 7, (allR w.1).Nodup := by decide +kernel
  exact h ⟨w, by omega⟩
/-- a text of lines, and its lines -/
theorem tl_text : ∀ rs : List R, tl (textS rs) = (rs.map fun r => tl (lineS r) ++ [10]).flatten
  | [] => by decide +kernel
  | r :: rs => by
    unfold textS
    rw [join_eq, tl_join]
    have e : ∀ l : List (List Nat), joinL (tl ("" : Str)) l = l.flatten := by
      intro l
      rw [show tl ("" : Str) = [] by decide +kernel]
      induction l with
      | nil => rfl
      | cons x l ih =>
        cases l with
        | nil => simp [joinL]
        | cons y l =>
          show x ++ ([] ++ joinL [] (y :: l)) = _
          rw [ih, List.nil_append]
          simp
    rw [e, List.map_map]
    congr 1
    refine List.map_congr_left fun r _ => ?_
    show tl (lineS r ++ "\n") = _
    rw [tl_app, show tl ("\n" : Str) = [10] by decide +kernel]
theorem split_text {rs : List R} (h : ∀ r ∈ rs, r.ok 6) : Txt.split (textS rs) "\n" = rs.map lineS ++ [Str.empty] := by
  have e : textS rs = Txt.join "\n" (rs.map lineS ++ [Str.empty]) := by
    refine ext_tl ?_
    show tl (textS rs) = tl (Txt.join "\n" (rs.map lineS ++ [Str.empty]))
    rw [tl_text, join_eq, tl_join, show tl ("\n" : Str) = [10] by decide +kernel]
    induction rs with
    | nil => decide +kernel
    | cons r rs ih =>
      rw [List.map_cons, List.flatten_cons, ih fun s hs => h s (List.mem_cons_of_mem _ hs)]
      cases rs with
      | nil =>
        show tl (lineS r) ++ [10] ++ joinL [10] [tl Str.empty] = joinL [10] [tl (lineS r), tl Str.empty]
        show tl (lineS r) ++ [10] ++ tl Str.empty = tl (lineS r) ++ ([10] ++ tl Str.empty)
        rw [List.append_assoc]
      | cons s rs =>
        show tl (lineS r) ++ [10] ++ _ = tl (lineS r) ++ ([10] ++ _)
        rw [List.append_assoc]
        rfl
  rw [e]
  refine split_join (s := 10) (S := []) (by decide +kernel) (by decide +kernel) (by simp) fun p hp => ?_
  rcases List.mem_append.mp hp with z | z
  · obtain ⟨r, hr, rfl⟩ := List.mem_map.mp z
    exact (line_of6 (h r hr)).2
  · rw [List.mem_singleton.mp z]
    decide +kernel
theorem text_len {rs : List R} (h : ∀ r ∈ rs, r.ok 6) : (textS rs).length ≤ 21 * rs.length := by
  rw [len_tl, tl_text]
  induction rs with
  | nil => simp
  | cons r rs ih =>
    have h1 := (line_of6 (h r List.mem_cons_self)).1
    rw [len_tl] at h1
    have h2 : (tl (lineS r)).length ≤ 20 := h1
    have h3 := ih fun s hs => h s (List.mem_cons_of_mem _ hs)
    simp only [List.map_cons, List.flatten_cons, List.length_append, List.length_cons, List.length_nil]
    omega
def spLine (K : PySem.W.Frag) : Sp := fun vs H Q _ => ∃ (v : V) (r : R), vs = [v] ∧ Dp K H v r.d ∧ r.ok 6 ∧ Q (.str (lineS r)) H
section
variable {P : Program} {w : World} {K : PySem.W.Frag} {mg : Str → Option Value} {base : Heap} {kA : Addr}
theorem scLine : FnScope ["rule", "kind", "first", "second"] ["rule"] (defScope sLine) := ⟨rfl, rfl, rfl, by decide +kernel, rfl, by decide +kernel, by decide +kernel⟩
theorem small6 {n : Nat} (h : n < 6) : (n : Int).natAbs.log2 < 1920 := by
  have : ∀ n : Fin 6, ((n.1 : Nat) : Int).natAbs.log2 < 1920 := by decide +kernel
  exact this ⟨n, h⟩
theorem lens_all : ((allR 6).all fun r => decide ((Str.empty ++ num r.a).length ≤ 20) && decide ((Str.empty ++ num r.a ++ " ").length ≤ 20) && decide ((Str.empty ++ num r.a ++ " " ++ kd r.k).length ≤ 20) && decide ((Str.empty ++ num r.a ++ " " ++ kd r.k ++ " ").length ≤ 20)) = true := by decide +kernel
theorem ok_line {f : Addr} {fd : FuncData} {k : Nat} (F : Fun K "line_of" "line_of" sLine f fd) : FnOk P w K mg base CX0 (k + 1) f fd ["rule"] (spLine K) := by
  refine F.ok scLine (fun vs H Q E h => ?_) (fun cdv A outer s H vs Q E hr h => ?_)
  · obtain ⟨v, r, rfl, _⟩ := h
    rfl
  · obtain ⟨v, r, rfl, hd, ho, q⟩ := h
    obtain ⟨p, rfl, hp⟩ := dp_r hd
    have nd := scLine.nd
    refine ⟨_, pss_cons (ps_asg (pv 0) (pg_tup rfl (pgs_cons (pg_name (i := 1) nd rfl (.inl rfl)) (pgs_cons (pg_name (i := 2) nd rfl (.inl rfl)) (pgs_cons (pg_name (i := 3) nd rfl (.inl rfl)) pgs_nil)))))
      (pss_one (ps_ret (pe_joined (.cons (pe_fmt (pv 2)) (.cons pe_str (.cons (pe_fmt (pv 1)) (.cons pe_str (.cons (pe_fmt (pv 3)) .nil)))))))), ?_⟩
    have hl := List.all_eq_true.mp lens_all r (mem_allR.mpr ho)
    simp only [Bool.and_eq_true, decide_eq_true_eq] at hl
    obtain ⟨⟨⟨l1, l2⟩, l3⟩, l4⟩ := hl
    have l5 := (line_of6 ho).1
    have big : ∀ {n : Nat}, n ≤ 20 → n ≤ sizeLine := fun h => Nat.le_trans h (by decide)
    have lk : (kd r.k).length ≤ sizeLine := by cases r.k <;> decide +kernel
    refine ⟨_, rfl, p, _, rfl, hp, rfl, _, _, rfl, _, _, rfl, _, _, rfl, rfl, ?_⟩
    exact ⟨_, rfl, .inr ⟨_, rfl, small6 ho.1, _, rfl, big l1, _, rfl, big l2, _, rfl, .inl ⟨_, rfl, lk, _, rfl, big l3, _, rfl, big l4, _, rfl, .inr ⟨_, rfl, small6 ho.2.1, _, rfl, big l5, q⟩⟩⟩⟩
end
end CC
namespace CC
open PySem L2 TL
/-! ### lines by their rules: the dict -/
def prs (rs : List R) (us : List V) : List (Key × V) := List.zipWith (fun (r : R) (v : V) => ((Sum.inr (lineS r) : Key), v)) rs us
theorem prs_get {K : PySem.W.Frag} {H : Hp} : ∀ {rs : List R} {us : List V}, (∀ r ∈ rs, r.ok 6) → DpAll K H us (rs.map R.d) → ∀ {r : R}, r ∈ rs → ∃ v, valV (prs rs us) (Sum.inr (lineS r)) = some v ∧ Dp K H v r.d
  | [], _, _, _, _, h => nomatch h
  | s :: rs, _, ho, .cons (v := v) (vs := vs) h1 h2, r, hr => by
    by_cases e : s = r
    · subst e
      exact ⟨v, valV_pos rfl, h1⟩
    · have ne : ¬ (Sum.inr (lineS s) : Key) = Sum.inr (lineS r) := fun z => e (line_inj (ho s List.mem_cons_self) (ho r hr) (Sum.inr.inj z))
      have hr' : r ∈ rs := by
        rcases List.mem_cons.mp hr with z | z
        · exact absurd z.symm e
        · exact z
      obtain ⟨u, u1, u2⟩ := prs_get (fun x hx => ho x (List.mem_cons_of_mem _ hx)) h2 hr'
      exact ⟨u, (valV_neg (p := (Sum.inr (lineS s), v)) ne).trans u1, u2⟩
theorem val_none {kvs : List (Key × V)} {k : Key} (h : ∀ p ∈ kvs, p.1 ≠ k) : valV kvs k = none := by
  induction kvs with
  | nil => rfl
  | cons p r ih => rw [valV_neg (h p List.mem_cons_self)]; exact ih fun q hq => h q (List.mem_cons_of_mem _ hq)
theorem prs_len {rs : List R} {us : List V} (h : us.length = rs.length) : (prs rs us).length = rs.length := by
  rw [prs, List.length_zipWith, h, Nat.min_self]
theorem prs_step {rs : List R} {us : List V} {i : Nat} {r : R} {v : V} (hr : rs[i]? = some r) (hv : us[i]? = some v) : (prs rs us).take (i + 1) = (prs rs us).take i ++ [(Sum.inr (lineS r), v)] := by
  rw [List.take_succ]
  have : (prs rs us)[i]? = some (Sum.inr (lineS r), v) := by
    rw [prs, List.getElem?_zipWith, hr, hv]
  rw [this]
  rfl
theorem prs_new {rs : List R} {us : List V} {i : Nat} {r : R} (ho : ∀ r ∈ rs, r.ok 6) (nd : rs.Nodup) (hr : rs[i]? = some r) : valV ((prs rs us).take i) (Sum.inr (lineS r)) = none := by
  refine val_none fun p hp e => ?_
  obtain ⟨j, hj⟩ := List.mem_iff_getElem?.mp hp
  have hji : j < i := by
    have := (List.getElem?_eq_some_iff.mp hj).1
    rw [List.length_take] at this
    omega
  rw [List.getElem?_take_of_lt hji, prs, List.getElem?_zipWith] at hj
  cases hs : rs[j]? with
  | none => rw [hs] at hj; cases us[j]? <;> cases hj
  | some s =>
    cases hu : us[j]? with
    | none => rw [hs, hu] at hj; cases hj
    | some u =>
      rw [hs, hu] at hj
      cases hj
      have e2 := line_inj (ho s (List.mem_of_getElem? hs)) (ho r (List.mem_of_getElem? hr)) (Sum.inr.inj e)
      subst e2
      exact absurd (nd_ix nd hs hr) (by omega)
theorem cut_last (xs : List V) (x : V) : cutV (xs ++ [x]) none (some (-1)) = xs := by
  unfold cutV
  have e : HT.sIx (xs ++ [x]).length (xs ++ [x]).length (some (-1)) = xs.length := by
    have := HT.clip_eq (-1) (xs ++ [x]).length (xs ++ [x]).length
    rw [if_pos (by decide)] at this
    have hl : (xs ++ [x]).length = xs.length + 1 := by simp
    omega
  rw [HT.sIx_none, e]
  simp
/-- a dict comprehension over a list -/
theorem dc_list {K : PySem.W.Frag} {a : Addr} {xs : List V} {g : TG} {tt : TT} {tk tv : TE} {vs : List Nat} {σ : L2.St} {H1 : Hp} {D : Addr} {N : Hp → Prop} (Pv : Nat → Hp → Prop) (h0 : Pv 0 (upd H1 D (.dK []))) (hl : ∀ i H, i ≤ xs.length → Pv i H → SqL K H a xs)
    (hs : ∀ i x H, xs[i]? = some x → Pv i H → g x (wipe σ vs) H fun τ H2 => wipe τ vs = wipe σ vs ∧ tt τ H2 fun b H3 => if b = true then tk τ H3 fun y H4 => tv τ H4 fun z H5 => ∃ kvs k, y = kV k ∧ H5 D = some (.dK kvs) ∧ kvs.length < sizeLine ∧ Pv (i + 1) (upd H5 D (.dK (putK kvs k z))) else Pv (i + 1) H3)
    (hd : ∀ H, Pv xs.length H → N H) :
    ∃ W : Nat → Nat → Hp → Prop, (∃ m, W 0 m (upd H1 D (.dK []))) ∧ ∀ i m H, W i m H → ((Itl K a).stop i H ∧ N H) ∨ ((Itl K a).go i H ∧ ∃ Nx : Hp → Prop, (∀ H', Nx H' → ∃ m', m' < m ∧ W (i + 1) m' H') ∧ ∀ x H', (Itl K a).yld i H x H' →
      g x (wipe σ vs) H' fun τ H2 => wipe τ vs = wipe σ vs ∧ tt τ H2 fun b H3 => if b = true then tk τ H3 fun y H4 => tv τ H4 fun z H5 => ∃ kvs k, y = kV k ∧ H5 D = some (.dK kvs) ∧ kvs.length < sizeLine ∧ Nx (upd H5 D (.dK (putK kvs k z))) else Nx H3) := by
  refine ⟨fun i m H => m = xs.length - i ∧ i ≤ xs.length ∧ Pv i H, ⟨xs.length, by simp, Nat.zero_le _, h0⟩, ?_⟩
  rintro i m H ⟨rfl, hi, p⟩
  have q := hl i H hi p
  by_cases lt : i < xs.length
  · refine .inr ⟨⟨xs, xs[i], q, by simp [lt]⟩, Pv (i + 1), fun H' p' => ⟨xs.length - (i + 1), by omega, rfl, lt, p'⟩, fun x H' y => ?_⟩
    obtain ⟨e, y⟩ := y
    subst e
    exact hs i x _ (y xs q) p
  · have e : i = xs.length := by omega
    subst e
    exact .inl ⟨⟨xs, q, Nat.le_refl _⟩, hd H p⟩
abbrev sRulesOf : Stmt := tp 24
def spRulesOf (K : PySem.W.Frag) : Sp := fun vs H Q _ => ∃ (w : Nat) (rs : List R), vs = [.int (w : Int), .str (textS rs)] ∧ w ≤ 6 ∧ (∀ r ∈ rs, r.ok w) ∧ rs.Nodup ∧
  ∀ (p : Addr) (us : List V) (H' : Hp), Same H H' → H p = none → H' p = some (.lst us) → DpAll K (wo H' p) us (rs.map R.d) → Q (.ref p) H'
theorem few_rules {w : Nat} {rs : List R} (hw : w ≤ 6) (ho : ∀ r ∈ rs, r.ok w) (nd : rs.Nodup) : rs.length ≤ 60 := by
  have h := SG.sub_len nd fun r hr => mem_allR.mpr ((ho r hr).up hw)
  have e : (allR 6).length = 60 := by decide +kernel
  omega
section
variable {P : Program} {w : World} {K : PySem.W.Frag} {mg : Str → Option Value} {base : Heap} {kA : Addr}
abbrev nRO : List Str := ["width", "text", "known", "parts", "lines", "rule", "line"]
theorem scRulesOf : FnScope nRO ["width", "text"] (defScope sRulesOf) := ⟨rfl, rfl, rfl, by decide +kernel, rfl, by decide +kernel, by decide +kernel⟩
theorem ok_rulesof {f : Addr} {fd : FuncData} {k : Nat} (F : Fun K "rules_of" "rules_of" sRulesOf f fd) (T : Glb K mg kA) (cE : Cal P w K mg base "every_rule" ["width"] (spEvery K) 1)
 (cL : Cal P w K mg base "line_of" ["rule"] (spLine K) 1) : FnOk P w K mg base CX0 (k + 2) f fd ["width", "text"] (spRulesOf K) := by
  have GE := cE.ok (k + 1) (by omega)
  have GL := cL.ok (k + 1) (by omega)
  refine F.ok scRulesOf (fun vs H Q E h => ?_) (fun cdv A outer s H vs Q E hr h => ?_)
  · obtain ⟨w, rs, rfl, _⟩ := h
    rfl
  · obtain ⟨w, rs, rfl, hw, ho, nd, q⟩ := h
    have hu := hu_of hr
    have hu3 := Nat.lt_of_le_of_lt (Nat.add_le_add_left (by decide : 3 ≤ 64) _) hr.units
    have n := scRulesOf.nd
    have ho6 : ∀ r ∈ rs, r.ok 6 := fun r h => (ho r h).up hw
    refine ⟨_, pss_cons (ps_set (i := 2) n rfl (.inr rfl) (pe_dc (own := [("rule", 5)]) (g := gName 5) (tt := tYes) rfl n (pi_list (pe_call GE hr rfl cE.g cE.kp cE.b .nil pass0 (pa_cons (pv 0) pa_nil))) (blkOk_by (N := nRO) (sc := defScope sRulesOf) (by decide +kernel))
          (fun _ _ _ _ _ => pg_name (i := 5) n rfl (.inl rfl)) (fun _ _ _ _ _ => pts_nil) (fun _ _ _ _ _ => pe_call GL hr rfl cL.g cL.kp cL.b .nil pass0 (pa_cons (pv 5) pa_nil)) (fun _ _ _ _ _ => pv 5)))
      (pss_cons (ps_set (i := 3) n rfl (.inl rfl) (pe_split (pv 1) pe_str))
      (pss_cons (ps_set (i := 4) n rfl (.inl rfl) (pe_slice sl_list (pv 3) po_none (po_some (pe_un un_neg pe_int))))
      (pss_cons (ps_if (PW.pt (pw_or (pt_cmpR op_ne (pe_ix ix_list (pv 3) (pe_un un_neg pe_int) (fun _ _ => rfl)) pe_str (nomark _))
          (pw_or1 (pt_cmpR op_ne (SG.pe_lenSetD rfl hu3 (by rfl) T.len (by rfl) T.set (pv 4)) (pe_callB call_len_seq (by rfl) T.len PySem.boot_len (pa_cons (pv 4) pa_nil)) (nomark _))))) (pss_one (ps_ret pe_non)) pss_nil)
      (pss_cons (ps_if (pt_not (pt_val (pe_callB (cr_all rfl) (by rfl) T.all (by decide +kernel) (pa_cons (pe_lc (own := [("line", 6)]) (g := gName 6) (tt := tYes) rfl n (pi_list (pv 4)) (blkOk_by (N := nRO) (sc := defScope sRulesOf) (by decide +kernel))
          (fun _ _ _ _ _ => pg_name (i := 6) n rfl (.inl rfl)) (fun _ _ _ _ _ => pts_nil) (fun _ _ _ _ _ => pe_cmp (pc_din hu (pv 6) (pv 2)) rfl)) pa_nil)))) (pss_one (ps_ret pe_non)) pss_nil)
      (pss_one (ps_ret (pe_lc (own := [("line", 6)]) (g := gName 6) (tt := tYes) rfl n (pi_list (pv 4)) (blkOk_by (N := nRO) (sc := defScope sRulesOf) (by decide +kernel))
          (fun _ _ _ _ _ => pg_name (i := 6) n rfl (.inl rfl)) (fun _ _ _ _ _ => pts_nil) (fun _ _ _ _ _ => pe_dget hu (pv 2) (pv 6) (fun _ _ => rfl))))))))), ?_⟩
    refine ⟨_, rfl, w, rfl, hw, fun p us H1 s1 np hp dp => ⟨p, rfl, ⟨_, SqL.of hp⟩, fun D nD => ?_⟩⟩
    have dp1 : DpAll K H1 us ((allR w).map R.d) := dps_same (wo_le p) _ _ dp
    have ulen : us.length = (allR w).length := by rw [dps_len dp1, List.length_map]
    have oka : ∀ r ∈ allR w, r.ok 6 := fun r h => (mem_allR.mp h).up hw
    have nda := allR_nodup hw
    have few : (allR w).length ≤ 60 := few_rules hw (fun r h => mem_allR.mp h) nda
    have pD : p ≠ D := ne_of_none hp nD
    refine dc_list (xs := us) (fun i H => Same H1 (wo H D) ∧ H D = some (.dK ((prs (allR w) us).take i))) ⟨?_, upd_same⟩ (fun i H _ z => SqL.of (wo_le D _ _ (z.1 _ _ hp))) ?_ ?_
    · rw [wo_upd]
      exact fun b o e => by rw [wo_ne (ne_of_none e nD)]; exact e
    · rintro i v H2 hv ⟨e1, e2⟩
      obtain ⟨r, hr2, dr⟩ := dps_rat dp1 hv
      refine ⟨rfl, yes_if ?_⟩
      refine ⟨_, rfl, v, r, rfl, dp_same (e1.trans (wo_le D)) _ _ dr, oka r (List.mem_of_getElem? hr2), _, rfl, _, Sum.inr (lineS r), rfl, e2, ?_, ?_, ?_⟩
      · rw [List.length_take]
        exact Nat.lt_of_le_of_lt (Nat.min_le_right _ _) (by rw [prs_len ulen]; exact small1000 (by omega))
      · rw [wo_upd]
        exact e1
      · rw [upd_same, putK_new _ (prs_new oka nda hr2), prs_step hr2 hv]
    rintro H2 ⟨e1, e2⟩
    rw [List.take_of_length_le (by rw [prs_len ulen, ulen]; exact Nat.le_refl _)] at e2
    have dp2 : DpAll K (wo H2 D) us ((allR w).map R.d) := dps_same e1 _ _ dp1
    -- parts
    have tlen := text_len ho6
    have rlen := few_rules hw ho nd
    refine ⟨_, rfl, ⟨_, rfl⟩, _, _, rfl, rfl, by decide +kernel, Nat.le_trans (show (textS rs).length + 2 ≤ 100000 by omega) (by decide), fun p3 n3 => ?_⟩
    rw [split_text ho6, List.map_append]
    have m3 : Same H2 (upd H2 p3 (.lst ((rs.map lineS).map V.str ++ [Str.empty].map V.str))) := same_new n3
    have h3 : (upd H2 p3 (.lst ((rs.map lineS).map V.str ++ [Str.empty].map V.str))) p3 = some (.lst ((rs.map lineS).map V.str ++ [V.str Str.empty])) := upd_same
    generalize upd H2 p3 (.lst ((rs.map lineS).map V.str ++ [Str.empty].map V.str)) = H3 at m3 h3
    -- lines
    refine ⟨_, rfl, _, rfl, _, rfl, p3, _, rfl, SqL.of h3, fun p4 n4 => ?_⟩
    have e4 : cutV ((rs.map lineS).map V.str ++ [V.str Str.empty]) none (some (-1)) = (rs.map lineS).map V.str := cut_last _ _
    rw [e4]
    have m4 : Same H3 (upd H3 p4 (.lst ((rs.map lineS).map V.str))) := same_new n4
    have h4 : (upd H3 p4 (.lst ((rs.map lineS).map V.str))) p4 = some (.lst ((rs.map lineS).map V.str)) := upd_same
    generalize upd H3 p4 (.lst ((rs.map lineS).map V.str)) = H4 at m4 h4
    have h34 := m4 _ _ h3
    have nodl : (rs.map lineS).Nodup := by
      refine List.Pairwise.map _ ?_ ((List.pairwise_iff_forall_sublist.mpr ?_ : rs.Pairwise fun a b => lineS a ≠ lineS b))
      · exact fun a b h => h
      · intro a b hab e
        have ha : a ∈ rs := hab.subset (by simp)
        have hb : b ∈ rs := hab.subset (by simp)
        have e2 := line_inj (ho6 a ha) (ho6 b hb) e
        subst e2
        exact absurd (nd.sublist hab) (by simp)
    have ll : ((rs.map lineS).map V.str).length = rs.length := by rw [List.length_map, List.length_map]
    refine ⟨_, rfl, 1, rfl, p3, _, -1, _, rfl, rfl, SqL.of h34, atI_last _ _, rfl, _, rfl, ?_⟩
    refine iteF ⟨_, rfl, p4, rfl, .inl ⟨rs.map lineS, .inl (SqL.of h4), by rw [List.length_map]; omega, fun n n1 n2 => ?_⟩⟩
    have en : n = (rs.map lineS).length := n2.mpr nodl
    subst en
    refine ⟨_, rfl, p4, _, rfl, .inl (SqL.of h4), rfl, _, rfl, ?_⟩
    have e5 : (!decide (V.int (((rs.map lineS).length : Nat) : Int) = V.int ((((rs.map lineS).map V.str).length : Nat) : Int))) = false := by
      rw [ll, List.length_map]
      simp
    rw [e5]
    refine iteF ?_
    -- all([line in known for line in lines])
    have h24 : H4 D = some (.dK (prs (allR w) us)) := m4 _ _ (m3 _ _ e2)
    have m24 : Same H2 H4 := m3.trans m4
    refine ⟨_, rfl, p4, rfl, ⟨_, SqL.of h4⟩, fun D5 n5 => ?_⟩
    have at_ : ∀ {i : Nat} {x : V}, ((rs.map lineS).map V.str)[i]? = some x → ∃ r, rs[i]? = some r ∧ x = .str (lineS r) := fun {i x} h => by
      rw [List.getElem?_map, List.getElem?_map] at h
      cases z : rs[i]? with
      | none =>
        rw [z] at h
        cases h
      | some r =>
        rw [z] at h
        exact ⟨r, rfl, (Option.some.inj h).symm⟩
    refine lc_list (xs := (rs.map lineS).map V.str) (fun i H => Same H4 (wo H D5) ∧ H D5 = some (.lst ((List.replicate i true).map V.bl)) ∧ i ≤ 60) ⟨?_, upd_same, by omega⟩ (fun i H _ z => SqL.of (wo_le D5 _ _ (z.1 _ _ h4))) ?_ ?_
    · rw [wo_upd]
      exact fun b o e => by rw [wo_ne (ne_of_none e n5)]; exact e
    · rintro i x H5 hx ⟨f1, f2, f3⟩
      obtain ⟨r, hr2, rfl⟩ := at_ hx
      have il : i < rs.length := (List.getElem?_eq_some_iff.mp hr2).1
      obtain ⟨v, v1, _⟩ := prs_get oka dp2 (mem_allR.mpr (ho r (List.mem_of_getElem? hr2)))
      have h5 : H5 D = some (.dK (prs (allR w) us)) := wo_le D5 _ _ (f1 _ _ h24)
      refine ⟨rfl, yes_if ⟨_, rfl, _, rfl, D, _, rfl, DGet.k (k := Sum.inr (lineS r)) h5, _, f2, small1000 (by simp; omega), ?_, ?_, by omega⟩⟩
      · rw [wo_upd]
        exact f1
      · rw [upd_same, v1, List.replicate_succ', List.map_append]
        rfl
    rintro H5 ⟨f1, f2, _⟩
    rw [ll] at f2
    refine ⟨D5, List.replicate rs.length true, rfl, SqL.of f2, _, rfl, ?_⟩
    have e6 : (List.replicate rs.length true).all id = true := by
      rw [List.all_eq_true]
      intro b hb
      rw [List.eq_of_mem_replicate hb]
      rfl
    rw [e6]
    refine iteF ?_
    -- [known[line] for line in lines]
    have m5 : Same H4 H5 := f1.trans (wo_le D5)
    have h45 := m5 _ _ h4
    have h25 := m5 _ _ h24
    refine ⟨_, rfl, p4, rfl, ⟨_, SqL.of h45⟩, fun D6 n6 => ?_⟩
    refine lc_list (xs := (rs.map lineS).map V.str) (fun i H => MadeR K H5 D6 i H (rs.take i)) MadeR.start (fun i H _ z => SqL.of (z.old n6 _ _ h45)) ?_ ?_
    · rintro i x H6 hx p6
      obtain ⟨r, hr2, rfl⟩ := at_ hx
      have il : i < rs.length := (List.getElem?_eq_some_iff.mp hr2).1
      obtain ⟨v, v1, v2⟩ := prs_get oka dp2 (mem_allR.mpr (ho r (List.mem_of_getElem? hr2)))
      have h6 : H6 D = some (.dK (prs (allR w) us)) := p6.old n6 _ _ h25
      have g6 := DGet.k (k := Sum.inr (lineS r)) h6
      rw [v1] at g6
      refine ⟨rfl, yes_if ⟨_, rfl, _, rfl, D, v, rfl, g6, ?_⟩⟩
      rw [SG.take_one hr2]
      refine p6.push (by omega) (Nat.lt_succ_self _) (Same.refl _) (dp_same ?_ _ _ v2)
      have nD6 : wo H2 D D6 = none := by
        cases z : wo H2 D D6 with
        | none => rfl
        | some o => rw [m5 _ _ (m24 _ _ (wo_le D _ _ z))] at n6; cases n6
      exact fun b o e => by
        rw [wo_ne (ne_of_none e nD6)]
        exact p6.old n6 _ _ (m5 _ _ (m24 _ _ (wo_le D _ _ e)))
    · intro H6 p6
      rw [ll, List.take_length] at p6
      obtain ⟨us6, p7⟩ := id p6
      have sH : Same H H6 := s1.trans (e1.trans ((wo_le D).trans (m24.trans (m5.trans (p6.old n6)))))
      refine q D6 us6 H6 sH ?_ p7.lst p7.dat
      cases z : H D6 with
      | none => rfl
      | some o => rw [m5 _ _ (m24 _ _ (wo_le D _ _ (e1 _ _ (s1 _ _ z))))] at n6; cases n6
end
end CC
namespace CC
open PySem L2 TL
section
variable {X : Cx} {CX : CXT} {k i : Nat} {f C : Addr} {sp : Sp} {E : XK} {x : Str} {e : Expr} {es : List Expr} {t : TA} {p pos : Pos}
/-- c(e, *y), c a local that holds the class at C -/
theorem pe_makeLS (M : Mk X.K C f) (F : FnR X.prog X.w X.K X.mg X.base CX k f sp) (hr : Room (k + 1) X.A) (hN : X.N[i]? = some x) (hv : Vis X.env.scope x) (hx : Passes CX X E) (ha : PA X (e :: es) t) (hdb : (x == ("__debug__" : Str)) = false := by decide)
    (hcd : (x == ("__classdict__" : Str)) = false := by decide) (he : starEach (e :: es) X.env = (false, eval e X.env) :: starEach es X.env := by rfl) (hst : (backTo pos (starEach es X.env)).any (·.1) = true := by rfl) :
    PE X (.Call (.Name x p) (e :: es) [] pos) (fun σ H Q => σ[i]? = some (some (.ref C)) ∧ StX.tMakeR C sp E t σ H Q) := by
  refine ⟨fun pins s σ H Q I ⟨h1, h2⟩ => ?_⟩
  refine wpAny_Call_Name_kw (thn ((pe_var (pos := p) hN hv hdb hcd).run pins s σ H (fun v H1 => v = .ref C ∧ H1 = H) I ⟨.ref C, h1, rfl, rfl⟩) fun u s1 ⟨v, H1, I1, r1, q1⟩ => ?_)
  obtain ⟨rfl, rfl⟩ := q1
  cases r1
  refine PySem.W.callWith_S2 (h₀ := X.base) I.ok.mod.kin M.kp (thn (ha.run pos pins s1 σ _ _ I1 h2) fun us s2 ⟨vs, H2, I2, r, q⟩ => ⟨I2.kIn, ?_⟩) he hst
  exact StX.run_makeR M F hr hx I2 r q
end
theorem from_le {p : Nat → Prop} {l : Nat} (h : ∀ k, p (k + l)) : ∀ k, l ≤ k → p k := fun k hk => by
  have := h (k - l)
  rwa [Nat.sub_add_cancel hk] at this
end CC
namespace CC
open PySem L2 TL
abbrev sInit : Stmt := inClass (tp 25) 0
abbrev sRead : Stmt := inClass (tp 25) 10
/-! ### the object -/
def fl0 (w : Nat) : List (Str × V) := putF "span" (.int (w : Int)) []
def flds (w : Nat) (g : Addr) : List (Str × V) := putF "given" (.ref g) (fl0 w)
theorem sg : ¬ (("span" : Str) = "given") := by decide +kernel
theorem flds_eq (w : Nat) (g : Addr) : flds w g = ([("span", V.int (w : Int)), ("given", V.ref g)] : List (Str × V)) := by
  show (if ("span" : Str) = "given" then [(("span" : Str), V.ref g)] else (("span" : Str), V.int (w : Int)) :: putF "given" (V.ref g) []) = _
  rw [if_neg sg]
  rfl
theorem flds_span (w : Nat) (g : Addr) : (flds w g).lookup ("span" : Str) = some (.int (w : Int)) := by
  unfold flds fl0
  rw [lookup_putF, if_neg sg, lookup_putF, if_pos rfl]
theorem flds_given (w : Nat) (g : Addr) : (flds w g).lookup ("given" : Str) = some (.ref g) := by
  unfold flds
  rw [lookup_putF, if_pos rfl]
theorem flds_no (w : Nat) (g : Addr) {m : Str} (h1 : ¬ m = "given") (h2 : ¬ m = "span") : (flds w g).lookup m = none := by
  unfold flds fl0
  rw [lookup_putF, if_neg h1, lookup_putF, if_neg h2]
  rfl
/-- a list of rules stands at x -/
def RulesAt (K : PySem.W.Frag) (C : Addr) (H : Hp) (x : Addr) (w : Nat) (rs : List R) : Prop := ∃ dx g us, H x = some (.ins C dx (flds w g)) ∧ H g = some (.tup us) ∧ DpAll K H us (rs.map R.d)
theorem RulesAt.same {K : PySem.W.Frag} {C : Addr} {H H' : Hp} {x : Addr} {w : Nat} {rs : List R} (h : RulesAt K C H x w rs) (e : Same H H') : RulesAt K C H' x w rs := by
  obtain ⟨dx, g, us, h1, h2, h3⟩ := h
  exact ⟨dx, g, us, e _ _ h1, e _ _ h2, dps_same e _ _ h3⟩
/-- what is asked of the class as the top has made it -/
structure Txt1 (K : PySem.W.Frag) (mg : Str → Option Value) (C : Addr) : Prop where
  cl : Cls K C
  nS : NoAttr K C "span"
  nG : NoAttr K C "given"
  mgC : mg "Rules" = some (.ref C)
/-! ### keys -/
def R.key (r : R) : List Key := [.inr (kd r.k), .inl (r.a : Int), .inl (r.b : Int)]
theorem key_inj {r s : R} (h : r.key = s.key) : r = s := by
  obtain ⟨k, a, b⟩ := r
  obtain ⟨k', a', b'⟩ := s
  simp only [R.key, List.cons.injEq, Sum.inr.injEq, Sum.inl.injEq, and_true] at h
  obtain ⟨h1, h2, h3⟩ := h
  have e1 := kd_inj h1
  have e2 : a = a' := by omega
  have e3 : b = b' := by omega
  rw [e1, e2, e3]
theorem keys_nodup {rs : List R} (h : rs.Nodup) : (rs.map R.key).Nodup := List.Pairwise.map _ (fun a b hab e => hab (key_inj e)) h
theorem dps_keys {K : PySem.W.Frag} {H : Hp} : ∀ {rs : List R} {us : List V}, DpAll K H us (rs.map R.d) → ∃ ks : List (SG.Mem Key), us = ks.map (fun m => V.ref m.1) ∧ ks.map (·.2) = rs.map R.key ∧ ∀ m ∈ ks, SqT K H m.1 (m.2.map kV)
  | [], _, h => by
    cases h
    exact ⟨[], rfl, rfl, fun m hm => nomatch hm⟩
  | r :: rs, _, h => by
    cases h with
    | cons h1 h2 =>
      obtain ⟨p, rfl, hp⟩ := dp_r h1
      obtain ⟨ks, e1, e2, e3⟩ := dps_keys h2
      refine ⟨(p, r.key) :: ks, by rw [e1]; rfl, by rw [List.map_cons, e2]; rfl, fun m hm => ?_⟩
      rcases List.mem_cons.mp hm with z | z
      · rw [z]
        exact hp
      · exact e3 m z
def spInit (K : PySem.W.Frag) (C : Addr) : Sp := fun vs H Q _ => ∃ (x dx : Addr) (w : Nat) (p : Addr) (us : List V) (rs : List R), vs = [.ref x, .int (w : Int), .ref p] ∧ H x = some (.ins C dx []) ∧ 1 ≤ w ∧ w ≤ 6 ∧ H p = some (.tup us) ∧ DpAll K (wo H x) us (rs.map R.d) ∧
  (∀ r ∈ rs, r.ok w) ∧ rs.Nodup ∧ ∀ H', (∀ b o, H b = some o → b ≠ x → H' b = some o) → H' x = some (.ins C dx (flds w p)) → Q .non H'
def spInitR (K : PySem.W.Frag) (C : Addr) : Sp := fun vs H Q E => ∃ ws rest, vs = ws ++ rest ∧ ws.length = 2 ∧ rest.length ≤ sizeLine ∧ ∀ p, H p = Option.none → spInit K C (ws ++ [V.ref p]) (upd H p (.tup rest)) Q E
def spRead (K : PySem.W.Frag) (C : Addr) : Sp := fun vs H Q _ => ∃ (w : Nat) (rs : List R), vs = [.ref C, .int (w : Int), .str (textS rs)] ∧ 1 ≤ w ∧ w ≤ 6 ∧ (∀ r ∈ rs, r.ok w) ∧ rs.Nodup ∧ ∀ (x : Addr) (H' : Hp), Same H H' → H x = none → RulesAt K C H' x w rs → Q (.ref x) H'
/-- C(width, *rules), C.read(width, text) -/
structure MakeR (P : Program) (w : World) (K : PySem.W.Frag) (mg : Str → Option Value) (base : Heap) (C : Addr) (l : Nat) where
  fN : Addr
  M : Mk K C fN
  ok : ∀ k, l ≤ k → FnR P w K mg base CX0 k fN (spInitR K C)
structure ReadR (P : Program) (w : World) (K : PySem.W.Frag) (mg : Str → Option Value) (base : Heap) (C : Addr) (l : Nat) where
  mc : Value
  pD : Addr
  fD : Addr
  rD : ClX.CRead K C mc
  cD : ClX.CMet K C mc "read" pD fD
  ok : ∀ k, l ≤ k → FnR P w K mg base CX0 k fD (spRead K C)
section
variable {P : Program} {w : World} {K : PySem.W.Frag} {mg : Str → Option Value} {base : Heap} {kA : Addr}
abbrev nIn : List Str := ["self", "width", "rules", "rule"]
theorem scInit : FnScope nIn ((["self", "width"] : List Str) ++ ([("rules" : Str)] : List Str)) (defScope sInit) := ⟨rfl, rfl, rfl, by decide +kernel, rfl, by decide +kernel, by decide +kernel⟩
theorem ok_init {f C : Addr} {fd : FuncData} {k : Nat} (F : Fun K "__init__" "Rules.__init__" sInit f fd) (T : Glb K mg kA) (TC : Txt1 K mg C)
 (cW : Cal P w K mg base "is_width" ["thing"] spIsWidth 2) (cR : Cal P w K mg base "is_rule" ["width", "thing"] (spIsRule K) 3) :
    FnR P w K mg base CX0 (k + 4) f (spInitR K C) := by
  have GW := cW.ok (k + 3) (by omega)
  have GR := cR.ok (k + 3) (by omega)
  obtain ⟨oc, od, kV, doc, pm, an, cdv, ct, osl, rfl, lk, hcd⟩ := F.ex
  refine StX.fn_star (ps := ["self", "width"]) (pv := "rules") lk hcd scInit StX.cxUp_none (fun us rest hl => ?_) (fun A outer s H vs Q E hr h => ?_)
  · match us, hl with
    | [a, b], _ =>
      cases rest with
      | nil => rfl
      | cons c r => rfl
  · obtain ⟨x, dx, w, p, us, rs, rfl, hx, w1, w6, hp, dp, ho, nd, q⟩ := h
    have hu3 := Nat.lt_of_le_of_lt (Nat.add_le_add_left (by decide : 3 ≤ 64) _) hr.units
    have n := scInit.nd
    refine ⟨_, PSs.nox (pss_cons (ps_if (pt_not (pt_val (pe_call GW hr rfl cW.g cW.kp cW.b .nil pass0 (pa_cons (pv 1) pa_nil)))) (pss_one ps_never) pss_nil)
      (pss_cons (ps_if (pt_not (pt_val (pe_callB (cr_all rfl) (by rfl) T.all (by decide +kernel) (pa_cons (pe_lc (own := [("rule", 3)]) (g := gName 3) (tt := tYes) rfl n (pi_tup (pv 2)) (blkOk_by (N := nIn) (sc := defScope sInit) (by decide +kernel))
          (fun _ _ _ _ _ => pg_name (i := 3) n rfl (.inl rfl)) (fun _ _ _ _ _ => pts_nil) (fun _ _ _ _ _ => pe_call GR hr rfl cR.g cR.kp cR.b .nil pass0 (pa_cons (pv 1) (pa_cons (pv 3) pa_nil)))) pa_nil)))) (pss_one ps_never) pss_nil)
      (pss_cons (ps_if (pt_cmpR op_ne (SG.pe_lenSetD rfl hu3 (by rfl) T.len (by rfl) T.set (pv 2)) (pe_callB call_len_seq (by rfl) T.len PySem.boot_len (pa_cons (pv 2) pa_nil)) (nomark _)) (pss_one ps_never) pss_nil)
      (pss_cons (ps_fld (pv 0) (pv 1) rfl) (pss_one (ps_fld (pv 0) (pv 2) rfl)))))), ?_⟩
    have rl := few_rules w6 ho nd
    have ul : us.length = rs.length := by rw [dps_len dp, List.length_map]
    refine ⟨_, rfl, w, rfl, w1, w6, _, rfl, iteF ?_⟩
    refine ⟨_, rfl, p, rfl, ⟨_, .inl (.inl hp)⟩, fun D nD => ?_⟩
    refine lc_tup (xs := us) (fun i H1 => Same H (wo H1 D) ∧ H1 D = some (.lst ((List.replicate i true).map V.bl)) ∧ i ≤ 60) ⟨?_, upd_same, by omega⟩ (fun i H1 _ z => .inl (.inl (wo_le D _ _ (z.1 _ _ hp)))) ?_ ?_
    · rw [wo_upd]
      exact fun b o e => by rw [wo_ne (ne_of_none e nD)]; exact e
    · rintro i v H1 hv ⟨e1, e2, e3⟩
      obtain ⟨r, hr2, dr⟩ := dps_rat dp hv
      have il : i < rs.length := (List.getElem?_eq_some_iff.mp hr2).1
      refine ⟨rfl, yes_if ⟨_, rfl, _, rfl, w, v, r, rfl, dp_same ((wo_le x).trans (e1.trans (wo_le D))) _ _ dr, ho r (List.mem_of_getElem? hr2), _, e2, small1000 (by simp; omega), ?_, ?_, by omega⟩⟩
      · rw [wo_upd]
        exact e1
      · rw [upd_same, List.replicate_succ', List.map_append]
        rfl
    rintro H1 ⟨e1, e2, _⟩
    rw [ul] at e2
    refine ⟨D, List.replicate rs.length true, rfl, SqL.of e2, _, rfl, ?_⟩
    have e6 : (List.replicate rs.length true).all id = true := by
      rw [List.all_eq_true]
      intro b hb
      rw [List.eq_of_mem_replicate hb]
      rfl
    rw [e6]
    refine iteF ?_
    have m1 : Same H H1 := e1.trans (wo_le D)
    obtain ⟨ks, k1, k2, k3⟩ := dps_keys (dps_same ((wo_le x).trans m1) _ _ dp)
    have hp1 := m1 _ _ hp
    have kl : ks.length = rs.length := by
      rw [← ul, k1, List.length_map]
    refine ⟨_, rfl, p, rfl, .inr ⟨ks, .inr (by rw [← k1]; exact .inl (.inl hp1)), k3, by omega, fun m z1 z2 => ?_⟩⟩
    have em : m = ks.length := z2.mpr (by rw [k2]; exact keys_nodup nd)
    subst em
    refine ⟨_, rfl, p, us, rfl, .inr (.inl (.inl hp1)), rfl, _, rfl, ?_⟩
    have e7 : (!decide (V.int (ks.length : Int) = V.int (us.length : Int))) = false := by
      rw [kl, ul]
      simp
    rw [e7]
    refine iteF ?_
    have hx1 := m1 _ _ hx
    have px : p ≠ x := ne_of hp hx (by intro z; cases z)
    refine ⟨_, rfl, _, rfl, x, C, dx, _, rfl, hx1, TC.cl, TC.nS, (by show 0 < 1000; decide), ?_⟩
    refine ⟨_, rfl, _, rfl, x, C, dx, _, rfl, upd_same, TC.cl, TC.nG, (by show 1 < 1000; decide), ?_⟩
    refine q _ (fun b o e hb => ?_) upd_same
    rw [upd_ne hb, upd_ne hb]
    exact m1 _ _ e
abbrev nRd : List Str := ["cls", "width", "text", "found"]
theorem scRead : FnScope nRd ["cls", "width", "text"] (defScope sRead) := ⟨rfl, rfl, rfl, by decide +kernel, rfl, by decide +kernel, by decide +kernel⟩
theorem ok_read {f C : Addr} {fd : FuncData} {k : Nat} (F : Fun K "read" "Rules.read" sRead f fd) (T : Glb K mg kA) (m : MakeR P w K mg base C 4)
 (cW : Cal P w K mg base "is_width" ["thing"] spIsWidth 2)
 (cO : Cal P w K mg base "rules_of" ["width", "text"] (spRulesOf K) 2) 
 : FnOk P w K mg base CX0 (k + 6) f fd ["cls", "width", "text"] (spRead K C) := by
  have GW := cW.ok (k + 5) (by omega)
  have GO := cO.ok (k + 5) (by omega)
  have GN := m.ok (k + 4) (by omega)
  refine F.ok scRead (fun vs H Q E h => ?_) (fun cdv A outer s H vs Q E hr h => ?_)
  · obtain ⟨w, rs, rfl, _⟩ := h
    rfl
  · obtain ⟨w, rs, rfl, w1, w6, ho, nd, q⟩ := h
    have n := scRead.nd
    refine ⟨_, pss_cons (ps_if (pt_not (pt_val (pe_call GW hr rfl cW.g cW.kp cW.b .nil pass0 (pa_cons (pv 1) pa_nil)))) (pss_one ps_never) pss_nil)
      (pss_cons (ps_if (pt_not (pt_val (pe_callB call_isi (by rfl) T.isi (by decide +kernel) (pa_cons (pv 2) (pa_cons (pe_bltn (v := .ty "str") (by rfl) T.str (by decide +kernel) rfl) pa_nil))))) (pss_one ps_never) pss_nil)
      (pss_cons (ps_set (i := 3) n rfl (.inl rfl) (pe_call GO hr rfl cO.g cO.kp cO.b .nil pass0 (pa_cons (pv 1) (pa_cons (pv 2) pa_nil))))
      (pss_cons (ps_if (pt_cmpR op_isN (pv 3) pe_non (nomark _)) (pss_one ps_never) pss_nil)
      (pss_one (ps_ret (pe_makeLS (i := 0) m.M GN hr rfl (.inl rfl) pass0 (pa_cons (pv 1) (StX.pa_star (pv 3) pa_nil)))))))), ?_⟩
    refine ⟨_, rfl, w, rfl, w1, w6, _, rfl, iteF ?_⟩
    refine ⟨_, rfl, _, _, _, _, true, rfl, .ty _, .base (.str _), kit_ty (by decide +kernel), _, rfl, iteF ?_⟩
    refine ⟨_, rfl, _, rfl, w, rs, rfl, w6, ho, nd, fun p us H1 s1 np hp dp => ?_⟩
    refine ⟨_, rfl, rfl, _, rfl, iteF ?_⟩
    have rl := few_rules w6 ho nd
    have ul : us.length = rs.length := by rw [dps_len dp, List.length_map]
    refine ⟨rfl, _, rfl, _, rfl, p, us, rfl, .inr (SqL.of hp), fun x dx nx ndx ne => ?_⟩
    rw [List.append_nil]
    refine ⟨[.ref x, .int (w : Int)], us, rfl, rfl, Nat.le_of_lt (small1000 (by omega)), fun g ng => ?_⟩
    have gx : x ≠ g := fun z => by rw [← z, upd_same] at ng; cases ng
    have gdx : dx ≠ g := fun z => by rw [← z, upd_ne ne, upd_same] at ng; cases ng
    have ng1 : H1 g = none := by
      rw [upd_ne gx.symm, upd_ne gdx.symm] at ng
      exact ng
    have keep : ∀ b o, H1 b = some o → (upd (upd (upd H1 dx (.own x)) x (.ins C dx [])) g (.tup us)) b = some o := fun b o e => by
      rw [upd_ne (ne_of_none e ng1), upd_ne (ne_of_none e nx), upd_ne (ne_of_none e ndx)]
      exact e
    refine ⟨x, dx, w, g, us, rs, rfl, by rw [upd_ne gx]; exact upd_same, w1, w6, upd_same, dps_same ?_ _ _ dp, ho, nd, fun H' k1 k2 => ⟨rfl, q x H' ?_ ?_ ⟨dx, g, us, k2, ?_, ?_⟩⟩⟩
    · exact fun b o e => by
        have e1 := wo_le p _ _ e
        rw [wo_ne (ne_of_none e1 nx)]
        exact keep b o e1
    · exact fun b o e => k1 b o (keep b o (s1 _ _ e)) (ne_of_none (s1 _ _ e) nx)
    · cases z : H x with
      | none => rfl
      | some o => rw [s1 _ _ z] at nx; cases nx
    · exact k1 g _ upd_same gx.symm
    · refine dps_same (fun b o e => ?_) _ _ dp
      have e1 := wo_le p _ _ e
      exact k1 b o (keep b o e1) (ne_of_none e1 nx)
end
end CC
namespace CC
open PySem L2
/-! ### steps down -/
def down (r : R) : Nat × Nat := if r.k then (r.a, r.b) else (r.b, r.a)
abbrev sDown : Stmt := tp 17
def spDown (K : PySem.W.Frag) : Sp := fun vs H Q _ => ∃ (g : Addr) (us : List V) (rs : List R), vs = [.ref g] ∧ SqT K H g us ∧ DpAll K H us (rs.map R.d) ∧ rs.length ≤ 60 ∧ NewF prd K H (rs.map down) Q
theorem kd_eq (k : Bool) : decide (V.str (kd k) = V.str "settles") = k := by
  cases k <;> decide +kernel
section
variable {P : Program} {w : World} {K : PySem.W.Frag} {mg : Str → Option Value} {base : Heap} {kA : Addr}
abbrev nDn : List Str := ["rules", "kind", "a", "b"]
theorem scDown : FnScope nDn ["rules"] (defScope sDown) := ⟨rfl, rfl, rfl, by decide +kernel, rfl, by decide +kernel, by decide +kernel⟩
theorem ok_down {f : Addr} {fd : FuncData} {k : Nat} (F : Fun K "steps_down" "steps_down" sDown f fd) : FnOk P w K mg base CX0 (k + 1) f fd ["rules"] (spDown K) := by
  refine F.ok scDown (fun vs H Q E h => ?_) (fun cdv A outer s H vs Q E hr h => ?_)
  · obtain ⟨g, us, rs, rfl, _⟩ := h
    rfl
  · obtain ⟨g, us, rs, rfl, hg, dp, hl, q⟩ := h
    have n := scDown.nd
    refine ⟨_, pss_one (ps_ret (pe_lc (own := [("kind", 1), ("a", 2), ("b", 3)]) (g := g3 K 1 2 3) (tt := tYes) rfl n (pi_tup (pv 0)) (blkOk_by (N := nDn) (sc := defScope sDown) (by decide +kernel))
      (fun _ _ _ _ _ => pg_tup rfl (pgs_cons (pg_name (i := 1) n rfl (.inl rfl)) (pgs_cons (pg_name (i := 2) n rfl (.inl rfl)) (pgs_cons (pg_name (i := 3) n rfl (.inl rfl)) pgs_nil)))) (fun _ _ _ _ _ => pts_nil)
      (fun _ _ _ _ _ => pe_ifExp (pt_cmpR op_eq (pv 1) pe_str (nomark _)) (pe_tup (pa_cons (pv 2) (pa_cons (pv 3) pa_nil))) (pe_tup (pa_cons (pv 3) (pa_cons (pv 2) pa_nil)))))), ?_⟩
    have ul : us.length = rs.length := by rw [dps_len dp, List.length_map]
    refine ⟨_, rfl, g, rfl, ⟨_, hg⟩, fun D nD => ?_⟩
    refine lc_tup (xs := us) (fun i H1 => MadeF prd K H D i H1 ((rs.take i).map down)) MadeF.start (fun i H1 _ z => same_t (z.old nD) hg) ?_ ?_
    · intro i v H1 hv p
      obtain ⟨r, hr2, dr⟩ := dps_rat dp hv
      have il : i < rs.length := (List.getElem?_eq_some_iff.mp hr2).1
      obtain ⟨t, rfl, ht⟩ := dp_r (dp_same (p.old nD) _ _ dr)
      refine ⟨t, _, rfl, ht, rfl, _, _, rfl, _, _, rfl, _, _, rfl, rfl, rfl, yes_if ?_⟩
      refine ⟨_, rfl, rfl, _, rfl, ?_⟩
      rw [SG.take_one hr2, List.map_append]
      rw [show decide (V.str (kd r.k) = V.str (Str.ofString "settles")) = r.k from kd_eq r.k]
      cases hk : r.k with
      | true =>
        refine iteT ⟨_, rfl, _, rfl, (by show 2 ≤ sizeLine; decide), fun t2 n2 => ?_⟩
        refine p.push (r := down r) (by omega) (Nat.lt_succ_self _) (same_new n2) (p_dp ?_)
        have e : down r = (r.a, r.b) := by unfold down; rw [hk]; rfl
        rw [e]
        exact p.tup n2
      | false =>
        refine iteF ⟨_, rfl, _, rfl, (by show 2 ≤ sizeLine; decide), fun t2 n2 => ?_⟩
        refine p.push (r := down r) (by omega) (Nat.lt_succ_self _) (same_new n2) (p_dp ?_)
        have e : down r = (r.b, r.a) := by unfold down; rw [hk]; rfl
        rw [e]
        exact p.tup n2
    · intro H1 p
      rw [ul, List.take_length] at p
      exact p.out nD (Same.refl _) q
end
end CC
namespace CC
/-! ### words in their order: shorter ones first, then by their signs -/
def lx : List Nat → List Nat → Prop
  | [], [] => False
  | [], _ :: _ => True
  | _ :: _, [] => False
  | a :: p, b :: q => a < b ∨ (a = b ∧ lx p q)
theorem lx_irr : ∀ p, ¬ lx p p
  | [], h => h
  | a :: p, h => by
    rcases h with h | ⟨_, h⟩
    · omega
    · exact lx_irr p h
theorem lx_trans : ∀ {p q r : List Nat}, lx p q → lx q r → lx p r
  | [], [], _, h, _ => False.elim h
  | [], _ :: _, [], _, h => False.elim h
  | [], _ :: _, _ :: _, _, _ => trivial
  | _ :: _, [], _, h, _ => False.elim h
  | _ :: _, _ :: _, [], _, h => False.elim h
  | a :: p, b :: q, c :: r, h1, h2 => by
    rcases h1 with h1 | ⟨rfl, h1⟩ <;> rcases h2 with h2 | ⟨rfl, h2⟩
    · exact .inl (by omega)
    · exact .inl h1
    · exact .inl h2
    · exact .inr ⟨rfl, lx_trans h1 h2⟩
theorem lx_tri : ∀ p q : List Nat, lx p q ∨ p = q ∨ lx q p
  | [], [] => .inr (.inl rfl)
  | [], _ :: _ => .inl trivial
  | _ :: _, [] => .inr (.inr trivial)
  | a :: p, b :: q => by
    rcases Nat.lt_trichotomy a b with h | h | h
    · exact .inl (.inl h)
    · subst h
      rcases lx_tri p q with z | z | z
      · exact .inl (.inr ⟨rfl, z⟩)
      · exact .inr (.inl (by rw [z]))
      · exact .inr (.inr (.inr ⟨rfl, z⟩))
    · exact .inr (.inr (.inl h))
theorem lx_app : ∀ {p q : List Nat} (r s : List Nat), p.length = q.length → lx p q → lx (p ++ r) (q ++ s)
  | [], [], _, _, _, h => False.elim h
  | [], _ :: _, _, _, e, _ => by simp at e
  | _ :: _, [], _, _, e, _ => by simp at e
  | a :: p, b :: q, r, s, e, h => by
    rcases h with h | ⟨h1, h⟩
    · exact .inl h
    · exact .inr ⟨h1, lx_app r s (by simpa using e) h⟩
theorem lx_last : ∀ (p : List Nat) {a b : Nat}, a < b → lx (p ++ [a]) (p ++ [b])
  | [], _, _, h => .inl h
  | _ :: p, _, _, h => .inr ⟨rfl, lx_last p h⟩
def SS (p q : List Nat) : Prop := p.length < q.length ∨ (p.length = q.length ∧ lx p q)
theorem SS.irr {p : List Nat} (h : SS p p) : False := by
  rcases h with h | ⟨_, h⟩
  · omega
  · exact lx_irr p h
theorem SS.trans {p q r : List Nat} (h1 : SS p q) (h2 : SS q r) : SS p r := by
  rcases h1 with h1 | ⟨e1, h1⟩ <;> rcases h2 with h2 | ⟨e2, h2⟩
  · exact .inl (by omega)
  · exact .inl (by omega)
  · exact .inl (by omega)
  · exact .inr ⟨by omega, lx_trans h1 h2⟩
theorem SS.tri (p q : List Nat) : SS p q ∨ p = q ∨ SS q p := by
  rcases Nat.lt_trichotomy p.length q.length with h | h | h
  · exact .inl (.inl h)
  · rcases lx_tri p q with z | z | z
    · exact .inl (.inr ⟨h, z⟩)
    · exact .inr (.inl z)
    · exact .inr (.inr (.inr ⟨h.symm, z⟩))
  · exact .inr (.inr (.inl h))
theorem SS.app {p q : List Nat} (x y : Nat) (h : SS p q) : SS (p ++ [x]) (q ++ [y]) := by
  rcases h with h | ⟨e, h⟩
  · exact .inl (by simp; omega)
  · exact .inr ⟨by simp [e], lx_app _ _ e h⟩
theorem SS.last (p : List Nat) {x y : Nat} (h : x < y) : SS (p ++ [x]) (p ++ [y]) := .inr ⟨by simp, lx_last p h⟩
theorem SS.snoc (p : List Nat) (x : Nat) : SS p (p ++ [x]) := .inl (by simp)
/-- a walk -/
inductive Wk (ps : List (Nat × Nat)) (a : Nat) : Nat → List Nat → Prop
  | one : Wk ps a a [a]
  | step {b c : Nat} {w : List Nat} : Wk ps a b w → (b, c) ∈ ps → Wk ps a c (w ++ [c])
theorem Wk.ne {ps : List (Nat × Nat)} {a b : Nat} {w : List Nat} (h : Wk ps a b w) : w ≠ [] := by
  cases h <;> simp
/-- what is found: each column that is reached, with the first of the shortest walks -/
structure FW (ps : List (Nat × Nat)) (st : Nat) (ws : List (Nat × List Nat)) : Prop where
  nd : (ws.map (·.1)).Nodup
  lt : ∀ e ∈ ws, e.1 < 6
  wk : ∀ e ∈ ws, Wk ps st e.1 e.2
  fst : ∀ c q, Wk ps st c q → ∃ v, (c, v) ∈ ws ∧ (v = q ∨ SS v q)
  len : ∀ e ∈ ws, e.2.length ≤ ws.length
/-- between two turns: n columns are through -/
structure BI (ps : List (Nat × Nat)) (st : Nat) (ws : List (Nat × List Nat)) (n : Nat) : Prop where
  nd : (ws.map (·.1)).Nodup
  lt : ∀ e ∈ ws, e.1 < 6
  wk : ∀ e ∈ ws, Wk ps st e.1 e.2
  ord : ∀ (i j : Nat) (e f : Nat × List Nat), i < j → ws[i]? = some e → ws[j]? = some f → SS e.2 f.2
  beg : (st, [st]) ∈ ws
  le : n ≤ ws.length
  len : ∀ (i : Nat) (e : Nat × List Nat), ws[i]? = some e → e.2.length ≤ i + 1
  don : ∀ (i : Nat) (e : Nat × List Nat), i < n → ws[i]? = some e → ∀ b, (e.1, b) ∈ ps → ∃ v, (b, v) ∈ ws ∧ (v = e.2 ++ [b] ∨ SS v (e.2 ++ [b]))
  low : ∀ e ∈ ws, ∀ (j : Nat) (f : Nat × List Nat), n ≤ j → ws[j]? = some f → ∀ x, SS e.2 (f.2 ++ [x])
theorem BI.start {ps : List (Nat × Nat)} {st : Nat} (h : st < 6) : BI ps st [(st, [st])] 0 where
  nd := by simp
  lt := fun e he => by rw [List.mem_singleton.mp he]; exact h
  wk := fun e he => by rw [List.mem_singleton.mp he]; exact .one
  ord := fun i j e f hij h1 h2 => by
    have := (List.getElem?_eq_some_iff.mp h2).1
    simp at this
    omega
  beg := List.mem_singleton.mpr rfl
  le := Nat.zero_le _
  len := fun i e h => by
    have : e ∈ [(st, [st])] := List.mem_of_getElem? h
    rw [List.mem_singleton.mp this]
    simp
  don := fun i e hi => absurd hi (Nat.not_lt_zero _)
  low := fun e he j f _ hf x => by
    have : f ∈ [(st, [st])] := List.mem_of_getElem? hf
    rw [List.mem_singleton.mp he, List.mem_singleton.mp this]
    exact SS.snoc _ _
theorem BI.out {ps : List (Nat × Nat)} {st : Nat} {ws : List (Nat × List Nat)} {n : Nat} (h : BI ps st ws n) (hn : ws.length ≤ n) : FW ps st ws where
  nd := h.nd
  lt := h.lt
  wk := h.wk
  fst := fun c q w => by
    induction w with
    | one => exact ⟨_, h.beg, .inl rfl⟩
    | @step b c w w1 hb ih =>
      obtain ⟨v, hv, e⟩ := ih
      obtain ⟨i, hi⟩ := List.mem_iff_getElem?.mp hv
      have il := (List.getElem?_eq_some_iff.mp hi).1
      obtain ⟨u, hu, e2⟩ := h.don i _ (by omega) hi c hb
      refine ⟨u, hu, ?_⟩
      rcases e with rfl | e
      · exact e2
      · rcases e2 with rfl | e2
        · exact .inr (e.app _ _)
        · exact .inr (e2.trans (e.app _ _))
  len := fun e he => by
    obtain ⟨i, hi⟩ := List.mem_iff_getElem?.mp he
    have := h.len i e hi
    have := (List.getElem?_eq_some_iff.mp hi).1
    omega
/-- within a turn, the column c with the way w: the new ones -/
def nws (w : List Nat) (nb : List Nat) : List (Nat × List Nat) := nb.map fun b => (b, w ++ [b])
structure TI (ps : List (Nat × Nat)) (ws : List (Nat × List Nat)) (c : Nat) (w : List Nat) (bs : List Nat) (i : Nat) (nb : List Nat) : Prop where
  inc : nb.Pairwise (· < ·)
  sub : ∀ b ∈ nb, b ∈ bs.take i
  new : ∀ b ∈ nb, b ∉ ws.map (·.1)
  all : ∀ b ∈ bs.take i, b ∈ ws.map (·.1) ∨ b ∈ nb
theorem TI.start {ps : List (Nat × Nat)} {ws : List (Nat × List Nat)} {c : Nat} {w bs : List Nat} : TI ps ws c w bs 0 [] where
  inc := .nil
  sub := fun _ h => nomatch h
  new := fun _ h => nomatch h
  all := fun _ h => by simp at h
theorem take1 {α : Type} {l : List α} {i : Nat} {x : α} (h : l[i]? = some x) : l.take (i + 1) = l.take i ++ [x] := by
  rw [List.take_succ, h]
  rfl
theorem nws_keys (w nb : List Nat) : (nws w nb).map (·.1) = nb := by
  unfold nws
  rw [List.map_map]
  exact List.map_id' nb
theorem TI.old {ps : List (Nat × Nat)} {ws : List (Nat × List Nat)} {c : Nat} {w bs nb : List Nat} {i b : Nat} (h : TI ps ws c w bs i nb) (hb : bs[i]? = some b) (hm : b ∈ (ws ++ nws w nb).map (·.1)) : TI ps ws c w bs (i + 1) nb where
  inc := h.inc
  sub := fun x hx => by
    rw [take1 hb]
    exact List.mem_append_left _ (h.sub x hx)
  new := h.new
  all := fun x hx => by
    rw [take1 hb] at hx
    rcases List.mem_append.mp hx with z | z
    · exact h.all x z
    · rw [List.mem_singleton.mp z]
      rw [List.map_append, nws_keys] at hm
      exact List.mem_append.mp hm
theorem TI.add {ps : List (Nat × Nat)} {ws : List (Nat × List Nat)} {c : Nat} {w bs nb : List Nat} {i b : Nat} (h : TI ps ws c w bs i nb) (hs : bs.Pairwise (· ≤ ·)) (hb : bs[i]? = some b) (hm : b ∉ (ws ++ nws w nb).map (·.1)) : TI ps ws c w bs (i + 1) (nb ++ [b]) where
  inc := by
    rw [List.pairwise_append]
    refine ⟨h.inc, by simp, fun x hx y hy => ?_⟩
    rw [List.mem_singleton.mp hy]
    have hx2 := h.sub x hx
    obtain ⟨j, hj⟩ := List.mem_iff_getElem?.mp hx2
    have jl := (List.getElem?_eq_some_iff.mp hj).1
    rw [List.length_take] at jl
    have ji : j < i := by omega
    rw [List.getElem?_take_of_lt ji] at hj
    have le : x ≤ b := by
      obtain ⟨l1, e1⟩ := List.getElem?_eq_some_iff.mp hj
      obtain ⟨l2, e2⟩ := List.getElem?_eq_some_iff.mp hb
      have := List.pairwise_iff_getElem.mp hs j i l1 l2 ji
      rw [e1, e2] at this
      exact this
    have ne : x ≠ b := fun e => hm (by rw [List.map_append, nws_keys, ← e]; exact List.mem_append_right _ hx)
    omega
  sub := fun x hx => by
    rw [take1 hb]
    rcases List.mem_append.mp hx with z | z
    · exact List.mem_append_left _ (h.sub x z)
    · exact List.mem_append_right _ z
  new := fun x hx => by
    rcases List.mem_append.mp hx with z | z
    · exact h.new x z
    · rw [List.mem_singleton.mp z]
      intro q
      exact hm (by rw [List.map_append]; exact List.mem_append_left _ q)
  all := fun x hx => by
    rw [take1 hb] at hx
    rcases List.mem_append.mp hx with z | z
    · rcases h.all x z with y | y
      · exact .inl y
      · exact .inr (List.mem_append_left _ y)
    · exact .inr (List.mem_append_right _ z)
theorem nws_mem {w nb : List Nat} {e : Nat × List Nat} : e ∈ nws w nb ↔ e.1 ∈ nb ∧ e.2 = w ++ [e.1] := by
  unfold nws
  rw [List.mem_map]
  constructor
  · rintro ⟨b, hb, rfl⟩
    exact ⟨hb, rfl⟩
  · rintro ⟨h1, h2⟩
    exact ⟨e.1, h1, by rw [← h2]⟩
/-- the turn's end -/
theorem BI.turn {ps : List (Nat × Nat)} {st : Nat} {ws : List (Nat × List Nat)} {n : Nat} (h : BI ps st ws n) {c : Nat} {w bs nb : List Nat} (hc : ws[n]? = some (c, w)) (hbs : ∀ b, b ∈ bs ↔ (c, b) ∈ ps) (hlt : ∀ x ∈ ps, x.1 < 6 ∧ x.2 < 6) (t : TI ps ws c w bs bs.length nb) : BI ps st (ws ++ nws w nb) (n + 1) := by
  have all : ∀ b ∈ bs, b ∈ ws.map (·.1) ∨ b ∈ nb := fun b hb => t.all b (by rw [List.take_length]; exact hb)
  have sub : ∀ b ∈ nb, (c, b) ∈ ps := fun b hb => (hbs b).mp (by have := t.sub b hb; rw [List.take_length] at this; exact this)
  have hw := h.wk _ (List.mem_of_getElem? hc)
  have nl := (List.getElem?_eq_some_iff.mp hc).1
  have at_ : ∀ {j : Nat} {f : Nat × List Nat}, (ws ++ nws w nb)[j]? = some f → (j < ws.length ∧ ws[j]? = some f) ∨ (ws.length ≤ j ∧ (nws w nb)[j - ws.length]? = some f) := fun {j f} hf => by
    by_cases lt : j < ws.length
    · rw [List.getElem?_append_left lt] at hf
      exact .inl ⟨lt, hf⟩
    · rw [List.getElem?_append_right (by omega)] at hf
      exact .inr ⟨by omega, hf⟩
  constructor
  · rw [List.map_append, nws_keys]
    refine List.nodup_append.mpr ⟨h.nd, t.inc.imp (fun h => by omega), fun x hx y hy e => ?_⟩
    subst e
    exact t.new x hy hx
  · intro e he
    rcases List.mem_append.mp he with z | z
    · exact h.lt e z
    · exact (hlt _ (sub _ (nws_mem.mp z).1)).2
  · intro e he
    rcases List.mem_append.mp he with z | z
    · exact h.wk e z
    · obtain ⟨z1, z2⟩ := nws_mem.mp z
      rw [z2]
      exact hw.step (sub _ z1)
  · intro i j e f hij hi hj
    rcases at_ hi with ⟨i1, i2⟩ | ⟨i1, i2⟩ <;> rcases at_ hj with ⟨j1, j2⟩ | ⟨j1, j2⟩
    · exact h.ord i j e f hij i2 j2
    · rw [(nws_mem.mp (List.mem_of_getElem? j2)).2]
      exact h.low e (List.mem_of_getElem? i2) n _ (Nat.le_refl _) hc _
    · omega
    · rw [(nws_mem.mp (List.mem_of_getElem? j2)).2, (nws_mem.mp (List.mem_of_getElem? i2)).2]
      refine SS.last _ ?_
      unfold nws at i2 j2
      rw [List.getElem?_map] at i2 j2
      cases hi3 : nb[i - ws.length]? with
      | none => rw [hi3] at i2; cases i2
      | some x =>
        cases hj3 : nb[j - ws.length]? with
        | none => rw [hj3] at j2; cases j2
        | some y =>
          rw [hi3] at i2
          rw [hj3] at j2
          cases i2
          cases j2
          obtain ⟨l1, e1⟩ := List.getElem?_eq_some_iff.mp hi3
          obtain ⟨l2, e2⟩ := List.getElem?_eq_some_iff.mp hj3
          have := List.pairwise_iff_getElem.mp t.inc _ _ l1 l2 (by omega)
          rw [e1, e2] at this
          exact this
  · exact List.mem_append_left _ h.beg
  · rw [List.length_append]
    omega
  · intro i e hi
    rcases at_ hi with ⟨i1, i2⟩ | ⟨i1, i2⟩
    · exact h.len i e i2
    · rw [(nws_mem.mp (List.mem_of_getElem? i2)).2, List.length_append]
      have := h.len n _ hc
      simp only [List.length_singleton] at this ⊢
      omega
  · intro i e hi he b hb
    rcases at_ he with ⟨i1, i2⟩ | ⟨i1, i2⟩
    · by_cases lt : i < n
      · obtain ⟨v, hv, q⟩ := h.don i e lt i2 b hb
        exact ⟨v, List.mem_append_left _ hv, q⟩
      · have : i = n := by omega
        subst this
        rw [hc] at i2
        cases i2
        rcases all b ((hbs b).mpr hb) with z | z
        · obtain ⟨⟨b', v⟩, hv, rfl⟩ := List.mem_map.mp z
          exact ⟨v, List.mem_append_left _ hv, .inr (h.low _ hv i _ (Nat.le_refl _) hc _)⟩
        · exact ⟨w ++ [b], List.mem_append_right _ (nws_mem.mpr ⟨z, rfl⟩), .inl rfl⟩
    · omega
  · intro e he j f hj hf x
    have old : ∀ e ∈ ws, ∀ b, SS e.2 (w ++ [b]) := fun e he b => h.low e he n _ (Nat.le_refl _) hc b
    rcases List.mem_append.mp he with z | z
    · rcases at_ hf with ⟨j1, j2⟩ | ⟨j1, j2⟩
      · exact h.low e z j f (by omega) j2 x
      · rw [(nws_mem.mp (List.mem_of_getElem? j2)).2]
        exact (old e z _).trans (SS.snoc _ _)
    · rw [(nws_mem.mp z).2]
      rcases at_ hf with ⟨j1, j2⟩ | ⟨j1, j2⟩
      · exact (h.ord n j _ _ (by omega) hc j2).app _ _
      · rw [(nws_mem.mp (List.mem_of_getElem? j2)).2]
        exact .inl (by simp)
end CC
namespace CC
open PySem L2
/-! ### the dict of ways -/
def Ents (H : Hp) : List (Key × V) → List (Nat × List Nat) → Prop
  | [], [] => True
  | (k, v) :: r, (c, w) :: s => k = Sum.inl (c : Int) ∧ (∃ t, v = .ref t ∧ H t = some (.tup (nms w))) ∧ Ents H r s
  | [], _ :: _ => False
  | _ :: _, [] => False
theorem Ents.mono {H H' : Hp} (e : ∀ t xs, H t = some (.tup xs) → H' t = some (.tup xs)) : ∀ {kvs : List (Key × V)} {ws : List (Nat × List Nat)}, Ents H kvs ws → Ents H' kvs ws
  | [], [], _ => trivial
  | [], _ :: _, h => False.elim h
  | _ :: _, [], h => False.elim h
  | (k, v) :: r, (c, w) :: s, ⟨h1, ⟨t, h2, h3⟩, h4⟩ => ⟨h1, ⟨t, h2, e _ _ h3⟩, Ents.mono e h4⟩
theorem Ents.len {H : Hp} : ∀ {kvs : List (Key × V)} {ws : List (Nat × List Nat)}, Ents H kvs ws → kvs.length = ws.length
  | [], [], _ => rfl
  | [], _ :: _, h => False.elim h
  | _ :: _, [], h => False.elim h
  | (k, v) :: r, (c, w) :: s, ⟨_, _, h⟩ => congrArg (· + 1) (Ents.len h)
theorem Ents.app {H : Hp} : ∀ {kvs kvs2 : List (Key × V)} {ws ws2 : List (Nat × List Nat)}, Ents H kvs ws → Ents H kvs2 ws2 → Ents H (kvs ++ kvs2) (ws ++ ws2)
  | [], _, [], _, _, h => h
  | [], _, _ :: _, _, h, _ => False.elim h
  | _ :: _, _, [], _, h, _ => False.elim h
  | (k, v) :: r, _, (c, w) :: s, _, ⟨h1, h2, h3⟩, h => ⟨h1, h2, Ents.app h3 h⟩
theorem Ents.keys {H : Hp} : ∀ {kvs : List (Key × V)} {ws : List (Nat × List Nat)}, Ents H kvs ws → (kvs.map fun kv => kV kv.1) = nms (ws.map (·.1))
  | [], [], _ => rfl
  | [], _ :: _, h => False.elim h
  | _ :: _, [], h => False.elim h
  | (k, v) :: r, (c, w) :: s, ⟨h1, _, h⟩ => by
    subst h1
    rw [List.map_cons, Ents.keys h]
    rfl
theorem Ents.none {H : Hp} {c : Nat} : ∀ {kvs : List (Key × V)} {ws : List (Nat × List Nat)}, Ents H kvs ws → c ∉ ws.map (·.1) → valV kvs (Sum.inl (c : Int)) = none
  | [], [], _, _ => rfl
  | [], _ :: _, h, _ => False.elim h
  | _ :: _, [], h, _ => False.elim h
  | (k, v) :: r, (d, w) :: s, ⟨h1, _, h⟩, n => by
    subst h1
    rw [List.map_cons, List.mem_cons, not_or] at n
    rw [valV_neg (fun e => n.1 (by have := Sum.inl.inj e; simp only at this ⊢; omega))]
    exact Ents.none h n.2
theorem Ents.some {H : Hp} {c : Nat} {u : List Nat} : ∀ {kvs : List (Key × V)} {ws : List (Nat × List Nat)}, Ents H kvs ws → (ws.map (·.1)).Nodup → (c, u) ∈ ws → ∃ t, valV kvs (Sum.inl (c : Int)) = some (.ref t) ∧ H t = some (.tup (nms u))
  | [], [], _, _, h => nomatch h
  | [], _ :: _, h, _, _ => False.elim h
  | _ :: _, [], h, _, _ => False.elim h
  | (k, v) :: r, (d, w) :: s, ⟨h1, ⟨t, h2, h3⟩, h⟩, nd, m => by
    subst h1 h2
    rw [List.map_cons, List.nodup_cons] at nd
    rcases List.mem_cons.mp m with e | m
    · cases e
      exact ⟨t, valV_pos rfl, h3⟩
    · have ne : ¬ (c = d) := fun e => nd.1 (List.mem_map.mpr ⟨(c, u), m, e⟩)
      obtain ⟨t2, e2, h2⟩ := Ents.some h nd.2 m
      exact ⟨t2, (valV_neg (fun e => ne (by have := Sum.inl.inj e; omega))).trans e2, h2⟩
abbrev sFw : Stmt := tp 18
def spFw (K : PySem.W.Frag) : Sp := fun vs H Q _ => ∃ (a : Addr) (us : List V) (ps : List (Nat × Nat)) (st : Nat), vs = [.ref a, .int (st : Int)] ∧ SqL K H a us ∧ DpAll K H us (ps.map prd) ∧ (∀ x ∈ ps, x.1 < 6 ∧ x.2 < 6) ∧ st < 6 ∧ ps.length ≤ 1000 ∧
  ∀ (D : Addr) (kvs : List (Key × V)) (ws : List (Nat × List Nat)) (H' : Hp), Same H H' → H D = none → H' D = some (.dK kvs) → Ents H' kvs ws → FW ps st ws → Q (.ref D) H'
theorem mem_take_bs {ps : List (Nat × Nat)} {c b : Nat} : b ∈ (ps.filter fun p => decide (p.1 = c)).map (·.2) ↔ (c, b) ∈ ps := by
  simp only [List.mem_map, List.mem_filter, decide_eq_true_eq]
  constructor
  · rintro ⟨⟨x, y⟩, ⟨h1, h2⟩, h3⟩
    simp only at h2 h3
    subst h2 h3
    exact h1
  · exact fun h => ⟨(c, b), ⟨h, rfl⟩, rfl⟩
/-- a sorted list of such numbers -/
theorem nats_of {ns : List Nat} {ns' : List Int} (h : ns'.Perm (ns.map fun (n : Nat) => (n : Int))) : ∃ ms : List Nat, ns' = ms.map (fun (n : Nat) => (n : Int)) ∧ ms.Perm ns := by
  refine ⟨ns'.map Int.toNat, ?_, ?_⟩
  · rw [List.map_map]
    have : ∀ x ∈ ns', ((fun (n : Nat) => (n : Int)) ∘ Int.toNat) x = x := fun x hx => by
      obtain ⟨n, _, rfl⟩ := List.mem_map.mp (h.mem_iff.mp hx)
      simp
    rw [List.map_congr_left this]
    simp
  · have := h.map Int.toNat
    rw [List.map_map] at this
    have e : (Int.toNat ∘ fun (n : Nat) => (n : Int)) = id := by
      funext n
      simp
    rw [e, List.map_id] at this
    exact this
theorem nms_ints (ns : List Nat) : nms ns = (ns.map fun (n : Nat) => (n : Int)).map V.int := by
  unfold nms
  rw [List.map_map]
  rfl
theorem few6' {ws : List (Nat × List Nat)} (nd : (ws.map (·.1)).Nodup) (h : ∀ e ∈ ws, e.1 < 6) : ws.length ≤ 6 := by
  have := few6 nd fun x hx => by
    obtain ⟨e, he, rfl⟩ := List.mem_map.mp hx
    exact h e he
  rwa [List.length_map] at this
def bsF (ps : List (Nat × Nat)) (c : Nat) : List Nat := (ps.filter fun p => decide (p.1 = c)).map (·.2)
theorem bsF_step {ps : List (Nat × Nat)} {c i x y : Nat} (h : ps[i]? = some (x, y)) : bsF (ps.take (i + 1)) c = bsF (ps.take i) c ++ (if x = c then [y] else []) := by
  unfold bsF
  rw [take1 h, List.filter_append, List.map_append]
  by_cases e : x = c
  · simp [e]
  · simp [e]
theorem bsF_len (ps : List (Nat × Nat)) (c : Nat) : (bsF ps c).length ≤ ps.length := by
  unfold bsF
  rw [List.length_map]
  exact List.length_filter_le _ _
section
variable {P : Program} {w : World} {K : PySem.W.Frag} {mg : Str → Option Value} {base : Heap} {kA : Addr}
abbrev nFw : List Str := ["pairs", "start", "ways", "waiting", "column", "b", "first", "second"]
theorem scFw : FnScope nFw ["pairs", "start"] (defScope sFw) := ⟨rfl, rfl, rfl, by decide +kernel, rfl, by decide +kernel, by decide +kernel⟩
theorem ok_fw {f : Addr} {fd : FuncData} {k : Nat} (F : Fun K "first_ways" "first_ways" sFw f fd) (T : Glb K mg kA) : FnOk P w K mg base CX0 (k + 1) f fd ["pairs", "start"] (spFw K) := by
  refine F.ok scFw (fun vs H Q E h => ?_) (fun cdv A outer s H vs Q E hr h => ?_)
  · obtain ⟨a, us, ps, st, rfl, _⟩ := h
    rfl
  · obtain ⟨a, us, ps, st, rfl, ha, dp, hps, hst, hpl, q⟩ := h
    have n := scFw.nd
    have hu := hu_of hr
    refine ⟨_, pss_cons (ps_set (i := 2) n rfl (.inl rfl) (pe_disp (pps_cons (pv 1) (pe_tup (pa_cons (pv 1) pa_nil)) pps_nil) (by rfl) (by rfl) (fun z => by cases z) (by decide)))
      (pss_cons (ps_set (i := 3) n rfl (.inl rfl) (pe_lst (pa_cons (pv 1) pa_nil)))
      (pss_cons (ps_while PassesOwn.never (pt_truth (pv 3) (by intro _; rfl))
        (pss_cons (ps_set (i := 4) n rfl (.inr rfl) (pe_bm PySem.F.plainAttrs_list PySem.F.slot_list_pop PySem.F.type_list_pop mt_popAt (pv 3) (pa_cons pe_int pa_nil)))
        (pss_one (ps_for PassesOwn.never rfl (pi_list (pe_callB cr_sortedI (by rfl) T.srt (by decide +kernel) (pa_cons (pe_lc (own := [("first", 6), ("second", 7)]) (g := g2 K 6 7) (tt := tTest (tOp rEq (tVar 6) (tVar 4))) rfl n (pi_list (pv 0)) (blkOk_by (N := nFw) (sc := defScope sFw) (by decide +kernel))
            (fun _ _ _ _ _ => pg_tup rfl (pgs_cons (pg_name (i := 6) n rfl (.inl rfl)) (pgs_cons (pg_name (i := 7) n rfl (.inl rfl)) pgs_nil)))
            (fun _ _ _ _ _ => pts_one (pt_cmpR op_eq (pv 6) (pv 4) (nomark _))) (fun _ _ _ _ _ => pv 7)) pa_nil))) (pg_name (i := 5) n rfl (.inl rfl))
          (pss_one (ps_if (pt_cmp (pc_dnotin hu (pv 5) (pv 2)))
            (pss_cons (ps_dput hu (pv 2) (pv 5) (pe_tup (StX.pa_star (pe_dget hu (pv 2) (pv 4) (fun _ _ => rfl)) (pa_cons (pv 5) pa_nil))) rfl)
            (pss_one (ps_expr (pe_bm PySem.F.plainAttrs_list PySem.F.slot_list_append PySem.F.type_list_append mt_append (pv 3) (pa_cons (pv 5) pa_nil))))) pss_nil))))))
      (pss_one (ps_ret (pv 2))))), ?_⟩
    have ul : us.length = ps.length := by rw [dps_len dp, List.length_map]
    have un : ∀ {t : Addr} {xs ys : List V} {H1 : Hp} {b : Addr}, H1 t = some (.tup xs) → H1 b = some (.lst ys) → t ≠ b := fun h1 h2 => ne_of h1 h2 (by intro z; cases z)
    have ud : ∀ {t : Addr} {xs : List V} {kvs : List (Key × V)} {H1 : Hp} {b : Addr}, H1 t = some (.tup xs) → H1 b = some (.dK kvs) → t ≠ b := fun h1 h2 => ne_of h1 h2 (by intro z; cases z)
    -- ways = {start: (start,)}
    intro D nD
    refine ⟨_, rfl, _, rfl, (by show 1 ≤ sizeLine; decide), fun t0 nt0 => ?_⟩
    have t0D : t0 ≠ D := fun e => by rw [e, upd_same] at nt0; cases nt0
    refine ⟨by rw [upd_ne t0D.symm]; exact upd_same, [(Sum.inl (st : Int), .ref t0)], rfl, (by show 1 ≤ 15; decide), ?_⟩
    have hD0 : (upd (upd (upd H D (.dK [])) t0 (.tup [.int (st : Int)])) D (.dK (mergeK [] [(Sum.inl (st : Int), .ref t0)]))) D = some (.dK [(Sum.inl (st : Int), .ref t0)]) := upd_same
    have ht0 : (upd (upd (upd H D (.dK [])) t0 (.tup [.int (st : Int)])) D (.dK (mergeK [] [(Sum.inl (st : Int), .ref t0)]))) t0 = some (.tup (nms [st])) := by
      rw [upd_ne t0D, upd_same]
      rfl
    have s0 : Same H (upd (upd (upd H D (.dK [])) t0 (.tup [.int (st : Int)])) D (.dK (mergeK [] [(Sum.inl (st : Int), .ref t0)]))) := same_mut ((same_new nD).trans (same_new nt0)) nD
    generalize upd (upd (upd H D (.dK [])) t0 (.tup [.int (st : Int)])) D (.dK (mergeK [] [(Sum.inl (st : Int), .ref t0)])) = H0 at hD0 ht0 s0
    refine ⟨_, rfl, (by show 1 ≤ sizeLine; decide), fun wt nwt => ?_⟩
    have wD : wt ≠ D := (ne_of_none hD0 nwt).symm
    have nwt0 : H wt = none := s0.free nwt
    -- the while
    refine ⟨fun m σ H1 => ∃ (kvs : List (Key × V)) (ws : List (Nat × List Nat)) (j : Nat) (y4 y5 y6 y7 : Option V), σ = [some (.ref a), some (.int (st : Int)), some (.ref D), some (.ref wt), y4, y5, y6, y7] ∧ Same H H1 ∧ H1 D = some (.dK kvs) ∧ Ents H1 kvs ws ∧ H1 wt = some (.lst (nms ((ws.drop j).map (·.1)))) ∧ BI ps st ws j ∧ m = 6 - j,
      ⟨_, [(Sum.inl (st : Int), .ref t0)], [(st, [st])], 0, none, none, none, none, rfl, s0.trans (same_new nwt), same_new nwt _ _ hD0, ⟨rfl, ⟨t0, rfl, same_new nwt _ _ ht0⟩, trivial⟩, upd_same, BI.start hst, rfl⟩, ?_⟩
    rintro m σ H1 ⟨kvs, ws, j, y4, y5, y6, y7, rfl, s1, hD, en, hw, inv, rfl⟩
    refine ⟨_, rfl, _, .inl ⟨_, SqL.of hw, rfl⟩, ?_⟩
    by_cases jl : j < ws.length
    · obtain ⟨⟨c, cw⟩, hc⟩ : ∃ e, ws[j]? = some e := ⟨_, List.getElem?_eq_getElem jl⟩
      have dr : ws.drop j = (c, cw) :: ws.drop (j + 1) := by
        rw [List.drop_eq_getElem_cons jl]
        congr 1
        exact (List.getElem?_eq_some_iff.mp hc).2
      have w6 := few6' inv.nd inv.lt
      have ne : (!(nms ((ws.drop j).map (·.1))).isEmpty) = true := by
        rw [dr]
        rfl
      rw [ne]
      refine iteT ⟨fun σ' H' => ∃ (kvs : List (Key × V)) (ws' : List (Nat × List Nat)) (y4 y5 y6 y7 : Option V), σ' = [some (.ref a), some (.int (st : Int)), some (.ref D), some (.ref wt), y4, y5, y6, y7] ∧ Same H H' ∧ H' D = some (.dK kvs) ∧ Ents H' kvs ws' ∧ H' wt = some (.lst (nms ((ws'.drop (j + 1)).map (·.1)))) ∧ BI ps st ws' (j + 1), ?_, ?_⟩
      · rintro σ' H' ⟨kvs, ws', y4, y5, y6, y7, rfl, g1, g2, g3, g4, g5⟩
        exact ⟨6 - (j + 1), by omega, kvs, ws', j + 1, y4, y5, y6, y7, rfl, g1, g2, g3, g4, g5, rfl⟩
      -- column = waiting.pop(0)
      refine ⟨_, rfl, .inl ⟨rfl, _, SqL.of hw⟩, wt, _, 0, 0, .int (c : Int), rfl, rfl, hw, by decide, by decide, ?_, ?_, ?_⟩
      · rw [dr]
        simp [seqIndex?, nms]
      · rw [dr]
        rfl
      have e1 : (nms ((ws.drop j).map (·.1))).eraseIdx 0 = nms ((ws.drop (j + 1)).map (·.1)) := by
        rw [dr]
        rfl
      rw [e1]
      have s2 : Same H (upd H1 wt (.lst (nms ((ws.drop (j + 1)).map (·.1))))) := same_mut s1 nwt0
      have h2D : (upd H1 wt (.lst (nms ((ws.drop (j + 1)).map (·.1))))) D = some (.dK kvs) := by rw [upd_ne wD.symm]; exact hD
      have h2w : (upd H1 wt (.lst (nms ((ws.drop (j + 1)).map (·.1))))) wt = some (.lst (nms ((ws.drop (j + 1)).map (·.1)))) := upd_same
      have en2 : Ents (upd H1 wt (.lst (nms ((ws.drop (j + 1)).map (·.1))))) kvs ws := en.mono fun t xs h => by rw [upd_ne (un h hw)]; exact h
      generalize upd H1 wt (.lst (nms ((ws.drop (j + 1)).map (·.1)))) = H2 at s2 h2D h2w en2
      -- the columns behind it
      refine ⟨_, rfl, a, rfl, ⟨_, same_l s2 ha⟩, fun L nL => ?_⟩
      refine lc_list (xs := us) (fun i H3 => Same H2 (wo H3 L) ∧ H3 L = some (.lst (nms (bsF (ps.take i) c)))) ⟨?_, upd_same⟩ (fun i H3 _ z => same_l (s2.trans (z.1.trans (wo_le L))) ha) ?_ ?_
      · rw [wo_upd]
        exact fun b o e => by rw [wo_ne (ne_of_none e nL)]; exact e
      · rintro i v H3 hv ⟨q1, q2⟩
        obtain ⟨⟨x, y⟩, hxy, dv⟩ := dps_pat dp hv
        have il : i < ps.length := (List.getElem?_eq_some_iff.mp hxy).1
        obtain ⟨t, rfl, ht⟩ := dp_p (dp_same (s2.trans (q1.trans (wo_le L))) _ _ dv)
        refine ⟨t, _, rfl, ht, rfl, _, _, rfl, _, _, rfl, rfl, rfl, ?_⟩
        refine ⟨_, rfl, _, rfl, rfl, _, rfl, ?_⟩
        rw [bsF_step hxy]
        by_cases e : x = c
        · subst e
          rw [show decide (V.int (x : Int) = V.int (x : Int)) = true from decide_eq_true rfl, if_pos (show x = x from rfl)]
          have bl := bsF_len (ps.take i) x
          rw [List.length_take] at bl
          have big : (nms (bsF (ps.take i) x)).length < sizeLine := Nat.lt_of_lt_of_le (show (nms (bsF (ps.take i) x)).length < 100000 by rw [nms_len]; omega) (by decide)
          refine iteT ?_
          refine ⟨_, rfl, _, q2, big, ?_, ?_⟩
          · rw [wo_upd]
            exact q1
          · rw [upd_same, nms_app]
            rfl
        · rw [show decide (V.int (x : Int) = V.int (c : Int)) = false from decide_eq_false (fun z => e (by injection z with z; omega)), if_neg e, List.append_nil]
          exact iteF ⟨q1, q2⟩
      rintro H3 ⟨q1, q2⟩
      rw [ul, List.take_length] at q2
      have s23 : Same H2 H3 := q1.trans (wo_le L)
      rw [nms_ints] at q2
      refine ⟨L, _, rfl, SqL.of q2, fun ns' p2 pm st2 n2 => ?_⟩
      obtain ⟨bs, rfl, pm2⟩ := nats_of pm
      rw [← nms_ints]
      have bsl : bs.Pairwise (· ≤ ·) := by
        rw [List.pairwise_map] at st2
        exact st2.imp fun h => by omega
      have hbs : ∀ b, b ∈ bs ↔ (c, b) ∈ ps := fun b => by
        rw [pm2.mem_iff]
        exact mem_take_bs
      have s24 : Same H2 (upd H3 p2 (.lst (nms bs))) := s23.trans (same_new n2)
      have h4p : (upd H3 p2 (.lst (nms bs))) p2 = some (.lst (nms bs)) := upd_same
      have n2' : H2 p2 = none := s23.free n2
      generalize upd H3 p2 (.lst (nms bs)) = H4 at s24 h4p
      have pD : p2 ≠ D := (ne_of_none h2D n2').symm
      have pw : p2 ≠ wt := (ne_of_none h2w n2').symm
      refine ⟨p2, rfl, ⟨_, SqL.of h4p⟩, ?_⟩
      have cm : (c, cw) ∈ ws := List.mem_of_getElem? hc
      refine for_list (xs := nms bs) (fun i σ' H' => ∃ (kvs : List (Key × V)) (nb : List Nat) (y5 y6 y7 : Option V), σ' = [some (.ref a), some (.int (st : Int)), some (.ref D), some (.ref wt), some (.int (c : Int)), y5, y6, y7] ∧ Same H H' ∧ H' p2 = some (.lst (nms bs)) ∧ H' D = some (.dK kvs) ∧ Ents H' kvs (ws ++ nws cw nb) ∧ H' wt = some (.lst (nms (((ws ++ nws cw nb).drop (j + 1)).map (·.1)))) ∧ TI ps ws c cw bs i nb)
        ⟨kvs, [], y5, y6, y7, rfl, s2.trans s24, h4p, s24 _ _ h2D, by rw [show nws cw [] = [] from rfl, List.append_nil]; exact en2.mono fun t xs h => s24 _ _ h, by rw [show nws cw [] = [] from rfl, List.append_nil]; exact s24 _ _ h2w, TI.start⟩
        (fun i σ' H' _ ⟨_, _, _, _, _, _, _, z, _⟩ => SqL.of z) ?_ ?_
      · rintro i v σ' H5 hv ⟨kvs, nb, y5, y6, y7, rfl, s5, g0, g1, g2, g3, ti⟩
        obtain ⟨b, hb, rfl⟩ : ∃ b, bs[i]? = some b ∧ v = .int (b : Int) := by
          rw [nms, List.getElem?_map] at hv
          cases z : bs[i]? with
          | none => rw [z] at hv; cases hv
          | some m => rw [z] at hv; exact ⟨m, rfl, (Option.some.inj hv).symm⟩
        have hbp : (c, b) ∈ ps := (hbs b).mp (List.mem_of_getElem? hb)
        have nbs : ∀ x ∈ nb, x < 6 := fun x hx => (hps _ ((hbs x).mp (List.mem_of_mem_take (ti.sub x hx)))).2
        have ndk : ((ws ++ nws cw nb).map (·.1)).Nodup := by
          rw [List.map_append, nws_keys]
          refine List.nodup_append.mpr ⟨inv.nd, ti.inc.imp (fun h => by omega), fun x hx y hy e => ?_⟩
          subst e
          exact ti.new x hy hx
        have lt6 : ∀ e ∈ ws ++ nws cw nb, e.1 < 6 := fun e he => by
          rcases List.mem_append.mp he with z | z
          · exact inv.lt e z
          · exact nbs _ (nws_mem.mp z).1
        have few := few6' ndk lt6
        have kl := g2.len
        refine ⟨_, rfl, _, rfl, D, _, rfl, DGet.k (k := Sum.inl (b : Int)) g1, _, rfl, ?_⟩
        by_cases hm : b ∈ (ws ++ nws cw nb).map (·.1)
        · obtain ⟨⟨b', u⟩, hu2, rfl⟩ := List.mem_map.mp hm
          obtain ⟨t, e3, _⟩ := g2.some ndk hu2
          rw [e3]
          exact iteF ⟨kvs, nb, _, _, _, rfl, s5, g0, g1, g2, g3, ti.old hb hm⟩
        · rw [g2.none hm]
          refine iteT ?_
          obtain ⟨t, e3, h3⟩ := g2.some ndk (List.mem_append_left _ cm)
          have gc := DGet.k (k := Sum.inl (c : Int)) g1
          rw [e3] at gc
          refine ⟨_, rfl, _, rfl, D, _, rfl, gc, t, _, rfl, .inl (SqT.of h3), _, rfl, ?_, fun t5 nt5 => ?_⟩
          · have := inv.len j _ hc
            exact Nat.le_of_lt (small1000 (by rw [List.length_append, nms_len]; simp only [List.length_singleton] at this ⊢; omega))
          have t5D : t5 ≠ D := (ne_of_none g1 nt5).symm
          have t5w : t5 ≠ wt := (ne_of_none g3 nt5).symm
          have t5p : t5 ≠ p2 := (ne_of_none g0 nt5).symm
          have nt5' : H t5 = none := s5.free nt5
          refine ⟨_, rfl, _, rfl, D, _, rfl, DPut.k (k := Sum.inl (b : Int)) (by rw [upd_ne t5D.symm]; exact g1) (small1000 (by omega)), ?_⟩
          rw [putK_new _ (g2.none hm)]
          have g3' : (upd (upd H5 t5 (.tup (nms cw ++ [.int (b : Int)]))) D (.dK (kvs ++ [(Sum.inl (b : Int), .ref t5)]))) wt = some (.lst (nms (((ws ++ nws cw nb).drop (j + 1)).map (·.1)))) := by
            rw [upd_ne wD, upd_ne t5w.symm]
            exact g3
          refine ⟨_, rfl, .inl ⟨rfl, _, SqL.of g3'⟩, _, rfl, wt, _, _, rfl, rfl, g3', small1000 (by rw [nms_len, List.length_map, List.length_drop]; omega), ?_⟩
          have eq1 : ws ++ nws cw (nb ++ [b]) = (ws ++ nws cw nb) ++ [(b, cw ++ [b])] := by
            unfold nws
            rw [List.map_append, List.append_assoc]
            rfl
          refine ⟨kvs ++ [(Sum.inl (b : Int), .ref t5)], nb ++ [b], _, _, _, rfl, same_mut (same_mut (s5.trans (same_new nt5)) nD) nwt0, ?_, ?_, ?_, ?_, ti.add bsl hb hm⟩
          · rw [upd_ne pw, upd_ne pD, upd_ne t5p.symm]
            exact g0
          · rw [upd_ne wD.symm]
            exact upd_same
          · rw [eq1]
            refine Ents.app (g2.mono fun t xs h => ?_) ⟨rfl, ⟨t5, rfl, ?_⟩, trivial⟩
            · rw [upd_ne (un h g3), upd_ne (ud h g1), upd_ne (ne_of_none h nt5)]
              exact h
            · rw [upd_ne t5w, upd_ne t5D, upd_same, nms_app]
              rfl
          · have eq2 : (ws ++ nws cw (nb ++ [b])).drop (j + 1) = (ws ++ nws cw nb).drop (j + 1) ++ [(b, cw ++ [b])] := by
              rw [eq1]
              exact List.drop_append_of_le_length (by rw [List.length_append]; omega)
            rw [upd_same, eq2, List.map_append, nms_app]
            rfl
      · rintro σ' H5 ⟨kvs, nb, y5, y6, y7, rfl, s5, g0, g1, g2, g3, ti⟩
        rw [nms_len] at ti
        exact ⟨kvs, _, _, _, _, _, rfl, s5, g1, g2, g3, inv.turn hc hbs hps ti⟩
    · have e1 : (!(nms ((ws.drop j).map (·.1))).isEmpty) = false := by
        rw [List.drop_eq_nil_of_le (by omega)]
        rfl
      rw [e1]
      refine iteF ⟨_, rfl, q D kvs ws H1 s1 nD hD en (inv.out (by omega))⟩
end
end CC
namespace CC
open PySem L2
abbrev sReached : Stmt := tp 19
theorem wk_of {ps : List (Nat × Nat)} {a b : Nat} (h : Rch ps a b) : ∃ w, Wk ps a b w := by
  induction h with
  | refl => exact ⟨_, .one⟩
  | step _ h ih =>
    obtain ⟨w, hw⟩ := ih
    exact ⟨_, hw.step h⟩
theorem rch_of {ps : List (Nat × Nat)} {a b : Nat} {w : List Nat} (h : Wk ps a b w) : Rch ps a b := by
  induction h with
  | one => exact .refl
  | step _ h ih => exact ih.step h
theorem FW.keys {ps : List (Nat × Nat)} {st : Nat} {ws : List (Nat × List Nat)} (h : FW ps st ws) (c : Nat) : c ∈ ws.map (·.1) ↔ Rch ps st c := by
  constructor
  · intro z
    obtain ⟨e, he, rfl⟩ := List.mem_map.mp z
    exact rch_of (h.wk e he)
  · intro z
    obtain ⟨w, hw⟩ := wk_of z
    obtain ⟨v, hv, _⟩ := h.fst c w hw
    exact List.mem_map.mpr ⟨_, hv, rfl⟩
def spReached (K : PySem.W.Frag) : Sp := fun vs H Q _ => ∃ (a : Addr) (us : List V) (ps : List (Nat × Nat)) (st : Nat), vs = [.ref a, .int (st : Int)] ∧ SqL K H a us ∧ DpAll K H us (ps.map prd) ∧ (∀ x ∈ ps, x.1 < 6 ∧ x.2 < 6) ∧ st < 6 ∧ ps.length ≤ 1000 ∧
  ∀ (p : Addr) (fs : List Nat) (H' : Hp), Same H H' → H p = none → H' p = some (.lst (nms fs)) → (∀ c, c ∈ fs ↔ Rch ps st c) → fs.Pairwise (· < ·) → Q (.ref p) H'
section
variable {P : Program} {w : World} {K : PySem.W.Frag} {mg : Str → Option Value} {base : Heap} {kA : Addr}
theorem scReached : FnScope ["pairs", "start"] ["pairs", "start"] (defScope sReached) := ⟨rfl, rfl, rfl, by decide +kernel, rfl, by decide +kernel, by decide +kernel⟩
theorem ok_reached {f : Addr} {fd : FuncData} {k : Nat} (F : Fun K "reached" "reached" sReached f fd) (T : Glb K mg kA) (cF : Cal P w K mg base "first_ways" ["pairs", "start"] (spFw K) 1) : FnOk P w K mg base CX0 (k + 2) f fd ["pairs", "start"] (spReached K) := by
  have GF := cF.ok (k + 1) (by omega)
  refine F.ok scReached (fun vs H Q E h => ?_) (fun cdv A outer s H vs Q E hr h => ?_)
  · obtain ⟨a, us, ps, st, rfl, _⟩ := h
    rfl
  · obtain ⟨a, us, ps, st, rfl, ha, dp, hps, hst, hpl, q⟩ := h
    refine ⟨_, pss_one (ps_ret (pe_callB cr_sortedI (by rfl) T.srt (by decide +kernel) (pa_cons (pe_callTy (call_listD rfl) (by rfl) T.lst (by decide +kernel) (pa_cons (pe_call GF hr rfl cF.g cF.kp cF.b .nil pass0 (pa_cons (pv 0) (pa_cons (pv 1) pa_nil))) pa_nil)) pa_nil))), ?_⟩
    refine ⟨_, rfl, _, rfl, a, us, ps, st, rfl, ha, dp, hps, hst, hpl, fun D kvs ws H1 s1 nD hD en fw => ?_⟩
    refine ⟨D, kvs, rfl, .inl hD, fun p np => ?_⟩
    rw [en.keys, nms_ints]
    have s2 : Same H1 (upd H1 p (.lst (((ws.map (·.1)).map fun (n : Nat) => (n : Int)).map V.int))) := same_new np
    have h2 : (upd H1 p (.lst (((ws.map (·.1)).map fun (n : Nat) => (n : Int)).map V.int))) p = some (.lst (((ws.map (·.1)).map fun (n : Nat) => (n : Int)).map V.int)) := upd_same
    generalize upd H1 p (.lst (((ws.map (·.1)).map fun (n : Nat) => (n : Int)).map V.int)) = H2 at s2 h2
    refine ⟨p, _, rfl, SqL.of h2, fun ns' p2 pm st2 n2 => ?_⟩
    obtain ⟨ms, rfl, pm2⟩ := nats_of pm
    rw [← nms_ints]
    refine q p2 ms _ ((s1.trans s2).trans (same_new n2)) ((s1.trans s2).free n2) upd_same (fun c => ?_) ?_
    · rw [pm2.mem_iff]
      exact fw.keys c
    · have nd : ms.Nodup := pm2.nodup_iff.mpr fw.nd
      have le : ms.Pairwise (· ≤ ·) := by
        rw [List.pairwise_map] at st2
        exact st2.imp fun h => by omega
      exact (le.and nd).imp fun h => by omega
end
end CC
namespace CC
open PySem L2 TL
/-- the source at s is one again, all else that stood still stands -/
structure Ran (H H' : Hp) (s : Addr) : Prop where
  same : Same (wo H s) (wo H' s)
  src : ∃ o, H' s = some o ∧ IsSrc o
theorem Ran.one {H : Hp} {s : Addr} {o : HO} (h : IsSrc o) : Ran H (upd H s o) s := ⟨by rw [wo_upd]; exact Same.refl _, o, upd_same, h⟩
theorem Ran.trans {H H1 H2 : Hp} {s : Addr} (a : Ran H H1 s) (b : Ran H1 H2 s) : Ran H H2 s := ⟨a.same.trans b.same, b.src⟩
theorem Ran.grow {H H1 H2 : Hp} {s : Addr} (a : Ran H H1 s) (b : Same H1 H2) : Ran H H2 s := by
  obtain ⟨o, h1, h2⟩ := a.src
  exact ⟨a.same.trans (wo_same b), o, b _ _ h1, h2⟩
theorem Ran.at_ {H H1 : Hp} {s b : Addr} {o : HO} (a : Ran H H1 s) (h : H b = some o) (n : b ≠ s) : H1 b = some o := wo_le s _ _ (a.same b o (by rw [wo_ne n]; exact h))
theorem Ran.free {H H1 : Hp} {s b : Addr} (a : Ran H H1 s) (h : H1 b = none) : H b = none := by
  by_cases e : b = s
  · obtain ⟨o, h1, _⟩ := a.src
    rw [e, h1] at h
    cases h
  · cases z : H b with
    | none => rfl
    | some o =>
      rw [a.at_ z e] at h
      cases h
theorem Ran.ne {H H1 : Hp} {s b : Addr} (a : Ran H H1 s) (h : H1 b = none) : b ≠ s := fun e => by
  obtain ⟨o, h1, _⟩ := a.src
  rw [e, h1] at h
  cases h
def Src (H : Hp) (s : Addr) : Prop := ∃ o, H s = some o ∧ IsSrc o
def spDraw2 : Sp := fun vs H Q _ => ∃ (s : Addr) (m : Nat), vs = [.ref s, .int (m : Int)] ∧ Src H s ∧ 0 < m ∧ m < 1000000 ∧ ∀ (r : Nat) (H' : Hp), r < m → Ran H H' s → Q (.int (r : Int)) H'
def spChoose (K : PySem.W.Frag) : Sp := fun vs H Q _ => ∃ (s : Addr) (v : V), vs = [.ref s, v] ∧ Src H s ∧
  ((∃ (a : Addr) (xs : List V), v = .ref a ∧ SqL K (wo H s) a xs ∧ 0 < xs.length ∧ xs.length < 1000 ∧ ∀ (i : Nat) (x : V) (H' : Hp), xs[i]? = some x → Ran H H' s → Q x H') ∨
  ∃ z : Str, v = .str z ∧ 0 < z.length ∧ z.length < 1000 ∧ ∀ (c : Nat) (H' : Hp), Ran H H' s → Q (.str ⟨#[c]⟩) H')
def spIsEq : Sp := fun vs H Q _ => ∃ b c : Bool, vs = [.bl b, .bl c] ∧ Q (.bl (b == c)) H
def spMixed (K : PySem.W.Frag) : Sp := fun vs H Q _ => ∃ (s : Addr) (m : Nat), vs = [.ref s, .int (m : Int)] ∧ Src H s ∧ m ≤ 900 ∧
  ∀ (p : Addr) (ns : List Nat) (H' : Hp), Ran H H' s → H p = none → p ≠ s → H' p = some (.lst (nms ns)) → ns.length = m → ns.Nodup → (∀ x ∈ ns, x < m) → Q (.ref p) H'
def spStep (K : PySem.W.Frag) : Sp := fun vs H Q _ => ∃ (s : Addr) (a b : Nat) (z : Str), vs = [.ref s, .int (a : Int), .int (b : Int), .str z] ∧ Src H s ∧ 0 < z.length ∧ z.length < 1000 ∧
  ∀ (t : Addr) (r : R) (H' : Hp), (r = ⟨true, a, b⟩ ∨ r = ⟨false, b, a⟩) → Ran H H' s → H t = none → t ≠ s → Dp K (wo H' s) (.ref t) r.d → Q (.ref t) H'
section
variable {X : Cx}
theorem call_repr_bl : CallR X (.builtin "repr") (fun xs H Q => ∃ b, xs = [.bl b] ∧ Q (.str (if b then "True" else "False")) H) := by
  intro pins s σ H xs us Q I r h
  obtain ⟨b, rfl, q⟩ := h
  obtain ⟨u, rfl, rfl⟩ := vals1 r
  exact PySem.P.repr_of_bool ⟨.str _, H, I.tok _, ⟨_, by cases b <;> rfl⟩, q⟩
end
theorem nms_at {ns : List Nat} {i : Nat} {x : V} (h : (nms ns)[i]? = some x) : ∃ m, ns[i]? = some m ∧ x = .int (m : Int) := by
  rw [nms, List.getElem?_map] at h
  cases z : ns[i]? with
  | none =>
    rw [z] at h
    cases h
  | some m =>
    rw [z] at h
    exact ⟨m, rfl, (Option.some.inj h).symm⟩
theorem int_ne (a b : Nat) : (!decide (V.int (a : Int) = V.int (b : Int))) = decide (a ≠ b) := by
  by_cases e : a = b
  · subst e
    simp
  · rw [decide_eq_false (fun z => e (by injection z with z; omega)), decide_eq_true e]
    rfl
end CC
namespace CC
open PySem L2
def spAll (K : PySem.W.Frag) : Sp := fun vs H Q _ => ∃ w : Nat, vs = [.int (w : Int)] ∧ w ≤ 6 ∧ NewF R.d K H (allR w) Q
theorem MadeF.extend {α : Type} {f : α → PyData} {K : PySem.W.Frag} {H0 H H' : Hp} {D : Addr} {n m : Nat} {rs rs2 : List α} {us zs : List V} (p : MadeF f K H0 D n H rs) (hD : H D = some (.lst us)) (q3 : Same H H') (q1 : DpAll K (wo H' D) zs (rs2.map f)) (hm : n + zs.length ≤ m) :
    MadeF f K H0 D m (upd H' D (.lst (us ++ zs))) (rs ++ rs2) := by
  obtain ⟨us', p1, p2, p3, p4⟩ := p
  rw [hD] at p2
  cases p2
  refine ⟨us ++ zs, ?_, upd_same, ?_, ?_⟩
  · rw [wo_upd]
    exact p1.trans (wo_same q3)
  · rw [wo_upd, List.map_append]
    exact dps_app (dps_same (wo_same q3) _ _ p3) q1
  · rw [List.length_append]
    omega
/-! tuples never change -/
structure SameT (H H' : Hp) : Prop where
  tup : ∀ b xs, H b = some (.tup xs) → H' b = some (.tup xs)
  frz : ∀ b o xs, H b = some (.frz o (.tup xs)) → H' b = some (.frz o (.tup xs))
theorem sqt_T {K : PySem.W.Frag} {H H' : Hp} {a : Addr} {xs : List V} (e : SameT H H') (h : SqT K H a xs) : SqT K H' a xs := by
  rcases h with (h | ⟨o, h⟩) | h
  · exact .inl (.inl (e.tup _ _ h))
  · exact .inl (.inr ⟨o, e.frz _ _ _ h⟩)
  · exact .inr h
theorem rd_T {K : PySem.W.Frag} {H H' : Hp} {v : V} {r : R} (e : SameT H H') (h : Dp K H v r.d) : Dp K H' v r.d := by
  obtain ⟨p, rfl, hp⟩ := dp_r h
  exact r_dp (sqt_T e hp)
theorem rds_T {K : PySem.W.Frag} {H H' : Hp} (e : SameT H H') : ∀ {rs : List R} {us : List V}, DpAll K H us (rs.map R.d) → DpAll K H' us (rs.map R.d)
  | [], _, h => by
    cases h
    exact .nil
  | r :: rs, _, h => by
    cases h with
    | cons h1 h2 => exact .cons (rd_T e h1) (rds_T e h2)
theorem prd_T {K : PySem.W.Frag} {H H' : Hp} {v : V} {r : Nat × Nat} (e : SameT H H') (h : Dp K H v (prd r)) : Dp K H' v (prd r) := by
  obtain ⟨p, rfl, hp⟩ := dp_p h
  exact p_dp (sqt_T e hp)
theorem prds_T {K : PySem.W.Frag} {H H' : Hp} (e : SameT H H') : ∀ {rs : List (Nat × Nat)} {us : List V}, DpAll K H us (rs.map prd) → DpAll K H' us (rs.map prd)
  | [], _, h => by
    cases h
    exact .nil
  | r :: rs, _, h => by
    cases h with
    | cons h1 h2 => exact .cons (prd_T e h1) (prds_T e h2)
theorem same_T {H H' : Hp} (e : Same H H') : SameT H H' := ⟨fun b xs h => e _ _ h, fun b o xs h => e _ _ h⟩
theorem SameT.trans {H H1 H2 : Hp} (a : SameT H H1) (b : SameT H1 H2) : SameT H H2 := ⟨fun c xs h => b.tup _ _ (a.tup _ _ h), fun c o xs h => b.frz _ _ _ (a.frz _ _ _ h)⟩
/-- a list that is left out, or changed, is no tuple -/
theorem wo_T {H : Hp} {l : Addr} {us : List V} (h : H l = some (.lst us)) : SameT H (wo H l) := by
  constructor
  · intro b xs e
    rw [wo_ne (ne_of e h (by intro z; cases z))]
    exact e
  · intro b o xs e
    rw [wo_ne (ne_of e h (by intro z; cases z))]
    exact e
theorem upd_T {H : Hp} {l : Addr} {us : List V} {o : HO} (h : H l = some (.lst us)) : SameT H (upd H l o) := by
  constructor
  · intro b xs e
    rw [upd_ne (ne_of e h (by intro z; cases z))]
    exact e
  · intro b o xs e
    rw [upd_ne (ne_of e h (by intro z; cases z))]
    exact e
theorem row_len (w a : Nat) (k : Bool) : (row w a k).length ≤ w := by
  unfold row
  rw [List.length_map]
  have := List.length_filter_le (fun b => decide (a ≠ b)) (List.range w)
  rw [List.length_range] at this
  exact this
end CC
namespace CC
open PySem L2 TL
def gd (m : List Nat) : PyData := .tuple (m.map fun (n : Nat) => PyData.int (n : Int))
theorem dps_nms {K : PySem.W.Frag} {H : Hp} : ∀ fs : List Nat, DpAll K H (nms fs) (fs.map fun (n : Nat) => PyData.int (n : Int))
  | [] => .nil
  | n :: fs => .cons (.int _) (dps_nms fs)
theorem nms_dps {K : PySem.W.Frag} {H : Hp} : ∀ {fs : List Nat} {us : List V}, DpAll K H us (fs.map fun (n : Nat) => PyData.int (n : Int)) → us = nms fs
  | [], _, h => by
    cases h
    rfl
  | n :: fs, _, h => by
    cases h with
    | cons h1 h2 =>
      rw [dp_int h1, nms_dps h2]
      rfl
theorem dp_gd {K : PySem.W.Frag} {H : Hp} {t : Addr} {m : List Nat} (h : SqT K H t (nms m)) : Dp K H (.ref t) (gd m) := .tup h (dps_nms m)
theorem gd_at {K : PySem.W.Frag} {H : Hp} {v : V} {m : List Nat} (h : Dp K H v (gd m)) : ∃ t, v = .ref t ∧ SqT K H t (nms m) := by
  obtain ⟨p, us, rfl, h1, h2⟩ := dp_t h
  rw [nms_dps h2] at h1
  exact ⟨p, rfl, h1⟩
theorem gd_T {K : PySem.W.Frag} {H H' : Hp} {v : V} {m : List Nat} (e : SameT H H') (h : Dp K H v (gd m)) : Dp K H' v (gd m) := by
  obtain ⟨t, rfl, ht⟩ := gd_at h
  exact dp_gd (sqt_T e ht)
theorem gds_T {K : PySem.W.Frag} {H H' : Hp} (e : SameT H H') : ∀ {ms : List (List Nat)} {us : List V}, DpAll K H us (ms.map gd) → DpAll K H' us (ms.map gd)
  | [], _, h => by
    cases h
    exact .nil
  | m :: ms, _, h => by
    cases h with
    | cons h1 h2 => exact .cons (gd_T e h1) (gds_T e h2)
theorem dps_gat {K : PySem.W.Frag} {H : Hp} {gs : List V} {ms : List (List Nat)} {i : Nat} {v : V} (h : DpAll K H gs (ms.map gd)) (e : gs[i]? = some v) : ∃ m, ms[i]? = some m ∧ Dp K H v (gd m) := by
  obtain ⟨d, h1, h2⟩ := dps_at h e
  rw [List.getElem?_map] at h1
  cases q : ms[i]? with
  | none => rw [q] at h1; cases h1
  | some m =>
    rw [q] at h1
    cases h1
    exact ⟨m, rfl, h2⟩
def rTupOf (K : PySem.W.Frag) : List V → Hp → VK → Prop := fun xs H Q => ∃ p ys, xs = [.ref p] ∧ ((SqL K H p ys ∧ ∀ l, H l = none → Q (.ref l) (upd H l (.tup ys))) ∨ (SqT K H p ys ∧ Q (.ref p) H))
end CC
namespace CC
open PySem L2
/-! ### what follows -/
inductive RT (S : Nat → Nat → Prop) (a : Nat) : Nat → Prop
  | refl : RT S a a
  | step {b c : Nat} : RT S a b → S b c → RT S a c
theorem rch_rt {ps : List (Nat × Nat)} {S : Nat → Nat → Prop} (h : ∀ x y, (x, y) ∈ ps ↔ S x y) {a b : Nat} : Rch ps a b ↔ RT S a b := by
  constructor
  · intro r
    induction r with
    | refl => exact .refl
    | step _ q ih => exact ih.step ((h _ _).mp q)
  · intro r
    induction r with
    | refl => exact .refl
    | step _ q ih => exact ih.step ((h _ _).mpr q)
theorem RT.trans {S : Nat → Nat → Prop} {a b c : Nat} (h1 : RT S a b) (h2 : RT S b c) : RT S a c := by
  induction h2 with
  | refl => exact h1
  | step _ h ih => exact ih.step h
/-- a given rule, or one that can be turned round -/
def Lk (rs : List R) (k : Bool) (x y : Nat) : Prop := (⟨k, x, y⟩ : R) ∈ rs ∨ ((⟨k, y, x⟩ : R) ∈ rs ∧ Rch (rs.map down) x y ∧ Rch (rs.map down) y x)
def Fol (rs : List R) (r : R) : Prop := RT (Lk rs r.k) r.a r.b
def lsd (fs : List Nat) : PyData := .list (fs.map fun (n : Nat) => PyData.int (n : Int))
theorem lsd_at {K : PySem.W.Frag} {H : Hp} {v : V} {fs : List Nat} (h : Dp K H v (lsd fs)) : ∃ p, v = .ref p ∧ SqL K H p (nms fs) := by
  obtain ⟨p, us, rfl, h1, h2⟩ := dp_l h
  rw [nms_dps h2] at h1
  exact ⟨p, rfl, h1⟩
abbrev sLinks : Stmt := tp 20
abbrev sFollows : Stmt := tp 21
abbrev sCall : Stmt := inClass (tp 25) 7
def spLinks (K : PySem.W.Frag) : Sp := fun vs H Q _ => ∃ (w : Nat) (g : Addr) (us : List V) (rs : List R) (k : Bool), vs = [.int (w : Int), .ref g, .str (kd k)] ∧ SqT K H g us ∧ DpAll K H us (rs.map R.d) ∧ (∀ r ∈ rs, r.ok w) ∧ w ≤ 6 ∧ rs.length ≤ 60 ∧
  ∀ (p : Addr) (us' : List V) (ps : List (Nat × Nat)) (H' : Hp), Same H H' → H p = none → H' p = some (.lst us') → DpAll K (wo H' p) us' (ps.map prd) → (∀ x y, (x, y) ∈ ps ↔ Lk rs k x y) → ps.length ≤ 120 → Q (.ref p) H'
theorem kd_ne (j k : Bool) : decide (V.str (kd j) = V.str (kd k)) = decide (j = k) := by
  cases j <;> cases k <;> decide +kernel
def pk (rs : List R) (k : Bool) : List (Nat × Nat) := (rs.filter fun r => decide (r.k = k)).map fun r => (r.a, r.b)
theorem pk_mem {rs : List R} {k : Bool} {x y : Nat} : (x, y) ∈ pk rs k ↔ (⟨k, x, y⟩ : R) ∈ rs := by
  simp only [pk, List.mem_map, List.mem_filter, decide_eq_true_eq, Prod.mk.injEq]
  constructor
  · rintro ⟨r, ⟨h1, rfl⟩, rfl, rfl⟩
    exact h1
  · intro h
    exact ⟨_, ⟨h, rfl⟩, rfl, rfl⟩
theorem pk_step {rs : List R} {k : Bool} {i : Nat} {r : R} (h : rs[i]? = some r) : pk (rs.take (i + 1)) k = pk (rs.take i) k ++ (if r.k = k then [(r.a, r.b)] else []) := by
  rw [SG.take_one h, pk, List.filter_append, List.map_append]
  by_cases e : r.k = k
  · simp [pk, e]
  · simp [pk, e]
/-- those of the pairs that are turned, by the lists of what lies below -/
def trn (fss : List (List Nat)) (ps : List (Nat × Nat)) : List (Nat × Nat) := (ps.filter fun p => decide (p.1 ∈ fss.getD p.2 []) && decide (p.2 ∈ fss.getD p.1 [])).map fun p => (p.2, p.1)
theorem trn_step {fss : List (List Nat)} {ps : List (Nat × Nat)} {i : Nat} {p : Nat × Nat} (h : ps[i]? = some p) : trn fss (ps.take (i + 1)) = trn fss (ps.take i) ++ (if (decide (p.1 ∈ fss.getD p.2 []) && decide (p.2 ∈ fss.getD p.1 [])) = true then [(p.2, p.1)] else []) := by
  rw [SG.take_one h, trn, List.filter_append, List.map_append]
  by_cases e : (decide (p.1 ∈ fss.getD p.2 []) && decide (p.2 ∈ fss.getD p.1 [])) = true
  · rw [if_pos e]
    simp only [trn, List.filter_cons, e, if_true, List.filter_nil, List.map_cons, List.map_nil]
  · rw [if_neg e]
    simp only [trn, List.filter_cons, e, if_false, List.filter_nil, List.map_nil]
    rfl
theorem down_lt {rs : List R} {w : Nat} (h : ∀ r ∈ rs, r.ok w) : ∀ x ∈ rs.map down, x.1 < w ∧ x.2 < w := fun x hx => by
  obtain ⟨r, hr, rfl⟩ := List.mem_map.mp hx
  have := h r hr
  unfold down
  cases r.k
  · exact ⟨this.2.1, this.1⟩
  · exact ⟨this.1, this.2.1⟩
theorem getD_left {α : Type} {l r : List α} {i : Nat} {d : α} (h : i < l.length) : (l ++ r).getD i d = l.getD i d := by
  simp [List.getD, List.getElem?_append_left h]
theorem getD_last {α : Type} {l : List α} {x d : α} : (l ++ [x]).getD l.length d = x := by
  simp [List.getD]
section
variable {P : Program} {w : World} {K : PySem.W.Frag} {mg : Str → Option Value} {base : Heap} {kA : Addr}
abbrev nLk : List Str := ["width", "rules", "kind", "steps", "below", "pairs", "turned", "column", "word", "a", "b"]
theorem scLinks : FnScope nLk ["width", "rules", "kind"] (defScope sLinks) := ⟨rfl, rfl, rfl, by decide +kernel, rfl, by decide +kernel, by decide +kernel⟩
theorem ok_links {f : Addr} {fd : FuncData} {k : Nat} (F : Fun K "links" "links" sLinks f fd) (T : Glb K mg kA) (cD : Cal P w K mg base "steps_down" ["rules"] (spDown K) 1)
 (cR : Cal P w K mg base "reached" ["pairs", "start"] (spReached K) 2) : FnOk P w K mg base CX0 (k + 3) f fd ["width", "rules", "kind"] (spLinks K) := by
  have GD := cD.ok (k + 2) (by omega)
  have GR := cR.ok (k + 2) (by omega)
  refine F.ok scLinks (fun vs H Q E h => ?_) (fun cdv A outer s H vs Q E hr h => ?_)
  · obtain ⟨w, g, us, rs, k, rfl, _⟩ := h
    rfl
  · obtain ⟨w, g, us, rs, kk, rfl, hg, dp, ho, hw, hl, q⟩ := h
    have n := scLinks.nd
    refine ⟨_, pss_cons (ps_set (i := 3) n rfl (.inr rfl) (pe_call GD hr rfl cD.g cD.kp cD.b .nil pass0 (pa_cons (pv 1) pa_nil)))
      (pss_cons (ps_set (i := 4) n rfl (.inr rfl) (pe_lc (own := [("column", 7)]) (g := gName 7) (tt := tYes) rfl n (pi_range1 (by rfl) T.rng (pa_cons (pv 0) pa_nil)) (blkOk_by (N := nLk) (sc := defScope sLinks) (by decide +kernel))
          (fun _ _ _ _ _ => pg_name (i := 7) n rfl (.inl rfl)) (fun _ _ _ _ _ => pts_nil) (fun _ _ _ _ _ => pe_call GR hr rfl cR.g cR.kp cR.b .nil pass0 (pa_cons (pv 3) (pa_cons (pv 7) pa_nil)))))
      (pss_cons (ps_setLc (i := 5) (own := [("word", 8), ("a", 9), ("b", 10)]) (g := g3 K 8 9 10) (tt := tTest (tOp rEq (tVar 8) (tVar 2))) rfl n rfl rfl (sw_true rfl rfl rfl (by decide +kernel)) (pi_tup (pv 1)) (blkOk_by (N := nLk) (sc := defScope sLinks) (by decide +kernel))
          (fun _ _ _ _ _ => pg_tup rfl (pgs_cons (pg_name (i := 8) n rfl (.inl rfl)) (pgs_cons (pg_name (i := 9) n rfl (.inl rfl)) (pgs_cons (pg_name (i := 10) n rfl (.inl rfl)) pgs_nil))))
          (fun _ _ _ _ _ => pts_one (pt_cmpR op_eq (pv 8) (pv 2) (nomark _))) (fun _ _ _ _ _ => pe_tup (pa_cons (pv 9) (pa_cons (pv 10) pa_nil))))
      (pss_cons (ps_setLc (i := 6) (own := [("a", 9), ("b", 10)]) (g := g2 K 9 10) (tt := tAnd (tTest (tOp (rIn K false) (tVar 9) (tOp (rIxL K) (tVar 4) (tVar 10)))) (tTest (tOp (rIn K false) (tVar 10) (tOp (rIxL K) (tVar 4) (tVar 9))))) rfl n rfl rfl (sw_true rfl rfl rfl (by decide +kernel)) (pi_list (pv 5)) (blkOk_by (N := nLk) (sc := defScope sLinks) (by decide +kernel))
          (fun _ _ _ _ _ => pg_tup rfl (pgs_cons (pg_name (i := 9) n rfl (.inl rfl)) (pgs_cons (pg_name (i := 10) n rfl (.inl rfl)) pgs_nil)))
          (fun _ _ _ _ _ => pts_one (PW.pt (pw_and (pt_cmpR op_in_seq (pv 9) (pe_ix ix_list (pv 4) (pv 10) (fun _ _ => rfl)) (by rfl)) (pw_and1 (pt_cmpR op_in_seq (pv 10) (pe_ix ix_list (pv 4) (pv 9) (fun _ _ => rfl)) (by rfl))))))
          (fun _ _ _ _ _ => pe_tup (pa_cons (pv 10) (pa_cons (pv 9) pa_nil))))
      (pss_one (ps_ret (pe_op op_cat (pv 5) (pv 6))))))), ?_⟩
    have ul : us.length = rs.length := by rw [dps_len dp, List.length_map]
    -- steps
    refine ⟨_, rfl, g, us, rs, rfl, hg, dp, hl, fun sa su H1 s1 nsa hsa dsa => ?_⟩
    have dsa1 : DpAll K H1 su ((rs.map down).map prd) := dps_same (wo_le sa) _ _ dsa
    have dlt := down_lt ho
    have dl6 : ∀ x ∈ rs.map down, x.1 < 6 ∧ x.2 < 6 := fun x hx => ⟨Nat.lt_of_lt_of_le (dlt x hx).1 hw, Nat.lt_of_lt_of_le (dlt x hx).2 hw⟩
    -- below
    refine ⟨_, rfl, _, rfl, by omega, by omega, fun B nB => ?_⟩
    refine lc_range (lo := 0) (n := ((w : Nat) : Int).toNat) (fun i H2 => ∃ fss : List (List Nat), MadeF lsd K H1 B i H2 fss ∧ fss.length = i ∧ ∀ c, c < i → ∀ x, x ∈ fss.getD c [] ↔ Rch (rs.map down) c x) ⟨[], MadeF.start, rfl, fun c hc => absurd hc (Nat.not_lt_zero _)⟩ ?_ ?_
    · rintro i H2 hi ⟨fss, p, fl, ff⟩
      have iw : i < w := by omega
      have o2 := p.old nB
      refine ⟨rfl, yes_if ?_⟩
      refine ⟨_, rfl, _, rfl, sa, su, rs.map down, i, by rw [Int.zero_add]; rfl, SqL.of (o2 _ _ hsa), dps_same o2 _ _ dsa1, dl6, by omega, by rw [List.length_map]; omega, fun pr fs H3 s3 npr hpr hfs _ => ?_⟩
      obtain ⟨us2, _, pB, _⟩ := id p
      have prB : pr ≠ B := (ne_of_none pB npr).symm
      obtain ⟨acc, a1, a2, a3⟩ := p.push (r := fs) (y := .ref pr) (m := i + 1) (by omega) (Nat.lt_succ_self _) s3 (.lst (.inl (.inl (by rw [wo_ne prB]; exact hpr))) (dps_nms fs))
      refine ⟨acc, a1, a2, fss ++ [fs], a3, by rw [List.length_append, fl]; rfl, fun c hc x => ?_⟩
      by_cases e : c < i
      · rw [getD_left (by omega)]
        exact ff c e x
      · have : c = i := by omega
        subst this
        rw [← fl, getD_last]
        rw [fl]
        exact hfs x
    rintro H2 ⟨fss, pB, fl, ff⟩
    have ew : ((w : Nat) : Int).toNat = w := by omega
    rw [ew] at fl ff pB
    have o2 := pB.old nB
    obtain ⟨bu, _, hB, dB, _⟩ := pB
    have dB2 : DpAll K H2 bu (fss.map lsd) := dps_same (wo_le B) _ _ dB
    have s2 : Same H H2 := s1.trans o2
    -- pairs
    refine ⟨_, rfl, g, rfl, ⟨_, same_t s2 hg⟩, fun D3 n3 => ?_⟩
    refine lc_tup (xs := us) (fun i H3 => MadeF prd K H2 D3 i H3 (pk (rs.take i) kk)) MadeF.start (fun i H3 _ z => same_t (s2.trans (z.old n3)) hg) ?_ ?_
    · intro i v H3 hv p
      obtain ⟨r, hr2, dr⟩ := dps_rat dp hv
      have il : i < rs.length := (List.getElem?_eq_some_iff.mp hr2).1
      obtain ⟨t, rfl, ht⟩ := dp_r (dp_same (s2.trans (p.old n3)) _ _ dr)
      refine ⟨t, _, rfl, ht, rfl, _, _, rfl, _, _, rfl, _, _, rfl, rfl, rfl, ?_⟩
      refine ⟨_, rfl, _, rfl, rfl, _, rfl, ?_⟩
      rw [show decide (V.str (kd r.k) = V.str (kd kk)) = decide (r.k = kk) from kd_ne _ _, pk_step hr2]
      by_cases e : r.k = kk
      · rw [decide_eq_true e, if_pos e]
        refine iteT ⟨_, rfl, _, rfl, (by show 2 ≤ sizeLine; decide), fun t2 n2 => ?_⟩
        exact p.push (r := (r.a, r.b)) (by omega) (Nat.lt_succ_self _) (same_new n2) (p_dp (p.tup n2))
      · rw [decide_eq_false e, if_neg e]
        exact iteF (p.up (by omega) (by simp))
    intro H3 p3
    rw [ul, List.take_length] at p3
    have o3 := p3.old n3
    obtain ⟨pu, _, hP, dP, _⟩ := p3
    have dP3 : DpAll K H3 pu ((pk rs kk).map prd) := dps_same (wo_le D3) _ _ dP
    have pl : pu.length = (pk rs kk).length := by rw [dps_len dP3, List.length_map]
    have pkl : (pk rs kk).length ≤ 60 := by
      unfold pk
      rw [List.length_map]
      exact Nat.le_trans (List.length_filter_le _ _) hl
    -- turned
    refine ⟨_, rfl, D3, rfl, ⟨_, SqL.of hP⟩, fun D4 n4 => ?_⟩
    refine lc_list (xs := pu) (fun i H4 => MadeF prd K H3 D4 i H4 (trn fss ((pk rs kk).take i))) MadeF.start (fun i H4 _ z => SqL.of (z.old n4 _ _ hP)) ?_ ?_
    · intro i v H4 hv p
      obtain ⟨⟨x, y⟩, hxy, dv⟩ := dps_pat dP3 hv
      have il : i < (pk rs kk).length := (List.getElem?_eq_some_iff.mp hxy).1
      have o4 := p.old n4
      obtain ⟨t, rfl, ht⟩ := dp_p (dp_same o4 _ _ dv)
      have hm := ho _ (pk_mem.mp (List.mem_of_getElem? hxy))
      have get : ∀ c, c < w → ∃ pc, bu[c]? = some (.ref pc) ∧ SqL K H4 pc (nms (fss.getD c [])) := fun c hc => by
        have hc2 : c < fss.length := by omega
        have e1 : (fss.map lsd)[c]? = some (lsd (fss.getD c [])) := by
          rw [List.getElem?_map, List.getElem?_eq_getElem hc2]
          simp [List.getD, List.getElem?_eq_getElem hc2]
        obtain ⟨u, u1, u2⟩ := dps_to dB2 e1
        obtain ⟨pc, rfl, hpc⟩ := lsd_at (dp_same (o3.trans o4) _ _ u2)
        exact ⟨pc, u1, hpc⟩
      obtain ⟨p1, b1, l1⟩ := get y hm.2.1
      obtain ⟨p2, b2, l2⟩ := get x hm.1
      have hB4 : SqL K H4 B bu := SqL.of (o4 _ _ (o3 _ _ hB))
      refine ⟨t, _, rfl, ht, rfl, _, _, rfl, _, _, rfl, rfl, rfl, ?_⟩
      refine ⟨_, rfl, _, rfl, _, rfl, B, bu, _, _, rfl, rfl, hB4, atI_nat b1, p1, _, rfl, .inl l1, rfl, nms_flat _, _, rfl, ?_⟩
      rw [show inV (V.int (x : Int)) (nms (fss.getD y [])) = decide (x ∈ fss.getD y []) from nms_in _ _]
      have stp : trn fss ((pk rs kk).take (i + 1)) = trn fss ((pk rs kk).take i) ++ (if (decide (x ∈ fss.getD y []) && decide (y ∈ fss.getD x [])) = true then [(y, x)] else []) := trn_step hxy
      by_cases e : x ∈ fss.getD y []
      · rw [decide_eq_true e]
        refine iteT ⟨_, rfl, _, rfl, _, rfl, B, bu, _, _, rfl, rfl, hB4, atI_nat b2, p2, _, rfl, .inl l2, rfl, nms_flat _, _, rfl, ?_⟩
        rw [show inV (V.int (y : Int)) (nms (fss.getD x [])) = decide (y ∈ fss.getD x []) from nms_in _ _]
        by_cases e2 : y ∈ fss.getD x []
        · rw [decide_eq_true e2]
          rw [if_pos (by rw [decide_eq_true e, decide_eq_true e2]; rfl)] at stp
          rw [stp]
          refine iteT ⟨_, rfl, _, rfl, (by show 2 ≤ sizeLine; decide), fun t2 n2 => ?_⟩
          exact p.push (r := (y, x)) (by omega) (Nat.lt_succ_self _) (same_new n2) (p_dp (p.tup n2))
        · rw [decide_eq_false e2]
          rw [if_neg (by rw [decide_eq_false e2, Bool.and_false]; exact Bool.false_ne_true)] at stp
          rw [stp]
          exact iteF (p.up (by omega) (by simp))
      · rw [decide_eq_false e]
        rw [if_neg (by rw [decide_eq_false e]; exact Bool.false_ne_true)] at stp
        rw [stp]
        refine iteF ?_
        exact iteF (p.up (by omega) (by simp))
    intro H4 p4
    rw [pl, List.take_length] at p4
    have o4 := p4.old n4
    obtain ⟨tu, _, hT, dT, _⟩ := p4
    have trl : (trn fss (pk rs kk)).length ≤ 60 := by
      unfold trn
      rw [List.length_map]
      exact Nat.le_trans (List.length_filter_le _ _) pkl
    have tul : tu.length = (trn fss (pk rs kk)).length := by rw [dps_len dT, List.length_map]
    refine ⟨_, rfl, _, rfl, D3, D4, pu, tu, rfl, rfl, o4 _ _ hP, hT, Nat.le_of_lt (small1000 (by omega)), fun p5 n5 => ?_⟩
    have m5 : Same H4 (upd H4 p5 (.lst (pu ++ tu))) := same_new n5
    have toV : Same H4 (wo (upd H4 p5 (.lst (pu ++ tu))) p5) := fun b o e => by
      rw [wo_ne (ne_of_none e n5)]
      exact m5 _ _ e
    have sH : Same H H4 := s2.trans (o3.trans o4)
    refine q p5 (pu ++ tu) (pk rs kk ++ trn fss (pk rs kk)) _ (sH.trans m5) (sH.free n5) upd_same ?_ (fun x y => ?_) (by rw [List.length_append]; omega)
    · rw [List.map_append]
      exact dps_app (dps_same (o4.trans toV) _ _ dP3) (dps_same ((wo_le D4).trans toV) _ _ dT)
    · rw [List.mem_append, pk_mem]
      unfold Lk
      refine or_congr Iff.rfl ?_
      simp only [trn, List.mem_map, List.mem_filter, Bool.and_eq_true, decide_eq_true_eq, Prod.mk.injEq]
      constructor
      · rintro ⟨⟨a, b⟩, ⟨h1, h2, h3⟩, rfl, rfl⟩
        have hm := ho _ (pk_mem.mp h1)
        exact ⟨pk_mem.mp h1, (ff _ hm.2.1 _).mp h2, (ff _ hm.1 _).mp h3⟩
      · rintro ⟨h1, h2, h3⟩
        have hm := ho _ h1
        exact ⟨(y, x), ⟨pk_mem.mpr h1, (ff _ hm.2.1 _).mpr h2, (ff _ hm.1 _).mpr h3⟩, rfl, rfl⟩
end
end CC
namespace CC
open PySem L2
def spFollows (K : PySem.W.Frag) : Sp := fun vs H Q _ => ∃ (w : Nat) (g : Addr) (us : List V) (rs : List R) (v : V) (r : R), vs = [.int (w : Int), .ref g, v] ∧ SqT K H g us ∧ DpAll K H us (rs.map R.d) ∧ (∀ r ∈ rs, r.ok w) ∧ w ≤ 6 ∧ rs.length ≤ 60 ∧ Dp K H v r.d ∧ r.ok w ∧
  ∀ (b : Bool) (H' : Hp), Same H H' → (b = true ↔ Fol rs r) → Q (.bl b) H'
def spCall (K : PySem.W.Frag) (C : Addr) : Sp := fun vs H Q _ => ∃ (x : Addr) (w : Nat) (rs : List R) (v : V) (r : R), vs = [.ref x, v] ∧ RulesAt K C H x w rs ∧ (∀ r ∈ rs, r.ok w) ∧ w ≤ 6 ∧ rs.length ≤ 60 ∧ Dp K H v r.d ∧ r.ok w ∧
  ∀ (b : Bool) (H' : Hp), Same H H' → (b = true ↔ Fol rs r) → Q (.bl b) H'
theorem lk_lt {rs : List R} {w : Nat} (ho : ∀ r ∈ rs, r.ok w) {k : Bool} {x y : Nat} (h : Lk rs k x y) : x < w ∧ y < w := by
  rcases h with h | ⟨h, _⟩
  · exact ⟨(ho _ h).1, (ho _ h).2.1⟩
  · exact ⟨(ho _ h).2.1, (ho _ h).1⟩
/-- rules(rule) -/
structure CallC (P : Program) (w : World) (K : PySem.W.Frag) (mg : Str → Option Value) (base : Heap) (C : Addr) (l : Nat) where
  fC : Addr
  cC : StX.CallO K C fC
  ok : ∀ k, l ≤ k → FnR P w K mg base CX0 k fC (spCall K C)
section
variable {P : Program} {w : World} {K : PySem.W.Frag} {mg : Str → Option Value} {base : Heap} {kA : Addr}
abbrev nFo : List Str := ["width", "rules", "rule", "kind", "first", "second"]
theorem scFollows : FnScope nFo ["width", "rules", "rule"] (defScope sFollows) := ⟨rfl, rfl, rfl, by decide +kernel, rfl, by decide +kernel, by decide +kernel⟩
theorem ok_follows {f : Addr} {fd : FuncData} {k : Nat} (F : Fun K "follows" "follows" sFollows f fd) (T : Glb K mg kA) (cL : Cal P w K mg base "links" ["width", "rules", "kind"] (spLinks K) 3)
 (cR : Cal P w K mg base "reached" ["pairs", "start"] (spReached K) 2) :
    FnOk P w K mg base CX0 (k + 4) f fd ["width", "rules", "rule"] (spFollows K) := by
  have GL := cL.ok (k + 3) (by omega)
  have GR := cR.ok (k + 3) (by omega)
  refine F.ok scFollows (fun vs H Q E h => ?_) (fun cdv A outer s H vs Q E hr h => ?_)
  · obtain ⟨w, g, us, rs, v, r, rfl, _⟩ := h
    rfl
  · obtain ⟨w, g, us, rs, v, r, rfl, hg, dp, ho, hw, hl, dv, hr2, q⟩ := h
    have n := scFollows.nd
    obtain ⟨t, rfl, ht⟩ := dp_r dv
    refine ⟨_, pss_cons (ps_asg (pv 2) (pg_tup rfl (pgs_cons (pg_name (i := 3) n rfl (.inl rfl)) (pgs_cons (pg_name (i := 4) n rfl (.inl rfl)) (pgs_cons (pg_name (i := 5) n rfl (.inl rfl)) pgs_nil)))))
      (pss_one (ps_ret (pe_cmpR op_in_seq (pv 5) (pe_call GR hr rfl cR.g cR.kp cR.b .nil pass0 (pa_cons (pe_call GL hr rfl cL.g cL.kp cL.b .nil pass0 (pa_cons (pv 0) (pa_cons (pv 1) (pa_cons (pv 3) pa_nil)))) (pa_cons (pv 4) pa_nil))) (by rfl)))), ?_⟩
    refine ⟨_, rfl, t, _, rfl, ht, rfl, _, _, rfl, _, _, rfl, _, _, rfl, rfl, ?_⟩
    refine ⟨_, rfl, _, rfl, _, rfl, _, rfl, w, g, us, rs, r.k, rfl, hg, dp, ho, hw, hl, fun p us' ps H1 s1 np hp dps hps pl => ?_⟩
    refine ⟨_, rfl, p, us', ps, r.a, rfl, SqL.of hp, dps_same (wo_le p) _ _ dps, fun x hx => ?_, Nat.lt_of_lt_of_le hr2.1 hw, by omega, fun p2 fs H2 s2 np2 hp2 hfs _ => ?_⟩
    · obtain ⟨x1, x2⟩ := x
      have := lk_lt ho ((hps x1 x2).mp hx)
      exact ⟨Nat.lt_of_lt_of_le this.1 hw, Nat.lt_of_lt_of_le this.2 hw⟩
    · refine ⟨p2, _, rfl, .inl (SqL.of hp2), rfl, nms_flat _, ?_⟩
      show Q (.bl (inV (V.int (r.b : Int)) (nms fs))) H2
      rw [nms_in]
      refine q _ H2 (s1.trans s2) ?_
      rw [decide_eq_true_eq, hfs]
      exact rch_rt hps
abbrev nCa : List Str := ["self", "rule"]
theorem scCall : FnScope nCa ["self", "rule"] (defScope sCall) := ⟨rfl, rfl, rfl, by decide +kernel, rfl, by decide +kernel, by decide +kernel⟩
theorem ok_call {f C : Addr} {fd : FuncData} {k : Nat} (F : Fun K "__call__" "Rules.__call__" sCall f fd) (T : Glb K mg kA) (TC : Txt1 K mg C) (cF : Cal P w K mg base "follows" ["width", "rules", "rule"] (spFollows K) 4)
 (cU : Cal P w K mg base "is_rule" ["width", "thing"] (spIsRule K) 3) :
    FnOk P w K mg base CX0 (k + 5) f fd ["self", "rule"] (spCall K C) := by
  have GF := cF.ok (k + 4) (by omega)
  have GU := cU.ok (k + 4) (by omega)
  refine F.ok scCall (fun vs H Q E h => ?_) (fun cdv A outer s H vs Q E hr h => ?_)
  · obtain ⟨x, w, rs, v, r, rfl, _⟩ := h
    rfl
  · obtain ⟨x, w, rs, v, r, rfl, ⟨dx, g, us, h1, h2, h3⟩, ho, hw, hl, dv, hr2, q⟩ := h
    refine ⟨_, pss_cons (ps_if (pt_not (pt_val (pe_call GU hr rfl cU.g cU.kp cU.b .nil pass0 (pa_cons (pe_fld (pv 0) rfl) (pa_cons (pv 1) pa_nil))))) (pss_one ps_never) pss_nil)
      (pss_one (ps_ret (pe_call GF hr rfl cF.g cF.kp cF.b .nil pass0 (pa_cons (pe_fld (pv 0) rfl) (pa_cons (pe_fld (pv 0) rfl) (pa_cons (pv 1) pa_nil)))))), ?_⟩
    refine ⟨_, rfl, x, C, dx, _, _, rfl, h1, TC.cl, TC.nS, flds_span _ _, _, rfl, w, v, r, rfl, dv, hr2, _, rfl, iteF ?_⟩
    refine ⟨_, rfl, x, C, dx, _, _, rfl, h1, TC.cl, TC.nS, flds_span _ _, _, rfl, x, C, dx, _, _, rfl, h1, TC.cl, TC.nG, flds_given _ _, _, rfl, ?_⟩
    exact ⟨w, g, us, rs, v, r, rfl, .inl (.inl h2), h3, ho, hw, hl, dv, hr2, q⟩
end
end CC
namespace CC
open PySem L2 TL
theorem lc_zipT {K : PySem.W.Frag} {a b : Addr} {xs ys : List V} {g : TG} {tt : TT} {te : TE} {vs : List Nat} {σ : L2.St} {H1 : Hp} {D : Addr} {Qd : Hp → Prop} (hn : ys.length ≤ xs.length) (Pv : Nat → Hp → Prop) (h0 : Pv 0 (upd H1 D (.lst []))) (hl : ∀ i H, Pv i H → SqT K H a xs ∧ SqT K H b ys)
    (hs : ∀ i x y T H, xs[i]? = some x → ys[i]? = some y → Pv i H → H T = none → g (.ref T) (wipe σ vs) (upd H T (.tup [x, y])) fun σ2 H2 => wipe σ2 vs = wipe σ vs ∧ tt σ2 H2 fun b H3 =>
      if b = true then te σ2 H3 fun y H4 => ∃ acc, H4 D = some (.lst acc) ∧ acc.length < sizeLine ∧ Pv (i + 1) (upd H4 D (.lst (acc ++ [y]))) else Pv (i + 1) H3) (hd : ∀ H, Pv ys.length H → Qd H) :
    ∃ W : Nat → Nat → Hp → Prop, (∃ m, W 0 m (upd H1 D (.lst []))) ∧ ∀ i m H, W i m H →
      ((RZ.ItzT K a b).stop i H ∧ Qd H) ∨ ((RZ.ItzT K a b).go i H ∧ ∃ Nx : Hp → Prop, (∀ H', Nx H' → ∃ m', m' < m ∧ W (i + 1) m' H') ∧ ∀ x H', (RZ.ItzT K a b).yld i H x H' → g x (wipe σ vs) H' fun σ2 H2 => wipe σ2 vs = wipe σ vs ∧ tt σ2 H2 fun b H3 =>
        if b = true then te σ2 H3 fun y H4 => ∃ acc, H4 D = some (.lst acc) ∧ acc.length < sizeLine ∧ Nx (upd H4 D (.lst (acc ++ [y]))) else Nx H3) := by
  refine ⟨fun i m H => m = ys.length - i ∧ i ≤ ys.length ∧ Pv i H, ⟨ys.length, by simp, Nat.zero_le _, h0⟩, ?_⟩
  rintro i m H ⟨rfl, hi, p⟩
  obtain ⟨q1, q2⟩ := hl i H p
  by_cases lt : i < ys.length
  · have g1 : xs[i]? = some xs[i] := List.getElem?_eq_getElem (by omega)
    have g2 : ys[i]? = some ys[i] := List.getElem?_eq_getElem lt
    refine .inr ⟨⟨xs, ys, _, _, q1, q2, g1, g2⟩, Pv (i + 1), fun H' p' => ⟨ys.length - (i + 1), by omega, rfl, lt, p'⟩, fun v H' y => ?_⟩
    obtain ⟨T, x, y, rfl, nT, rfl, h1, h2⟩ := y
    exact hs i x y T H (h1 xs q1) (h2 ys q2) p nT
  · have e : i = ys.length := by omega
    subst e
    exact .inl ⟨⟨xs, ys, q1, q2, .inr (Nat.le_refl _)⟩, hd H p⟩
theorem iteT' {p q : Prop} {b : Bool} (h : b = true) (x : p) : if b = true then p else q := by
  rw [if_pos h]
  exact x
theorem iteF' {p q : Prop} {b : Bool} (h : b = false) (x : q) : if b = true then p else q := by
  rw [if_neg (by rw [h]; decide)]
  exact x
end CC
namespace CC
open PySem L2 TL
/-! ### what is no width and no text (k05/Ro, Rd, Ir have the same) -/
theorem fn_or {P : Program} {w : World} {K : PySem.W.Frag} {mg : Str → Option Value} {base : Heap} {CX : CXT} {k : Nat} {f : Addr} {fd : FuncData} {ps : List Str} {sp sp' : Sp} (F : FnOk P w K mg base CX k f fd ps sp) (G : FnOk P w K mg base CX k f fd ps sp') :
    FnOk P w K mg base CX k f fd ps (fun vs H Q E => sp vs H Q E ∨ sp' vs H Q E) :=
  ⟨fun vs H Q E h => h.elim (F.len vs H Q E) (G.len vs H Q E), fun A outer s H args us vs Q E hr e0 b r h => h.elim (F.run A outer s H args us vs Q E hr e0 b r) (G.run A outer s H args us vs Q E hr e0 b r)⟩
def noInts : List String := ["NoneType", "bool", "str", "tuple", "list", "dict"]
def noStrs : List String := ["NoneType", "bool", "int", "tuple", "list", "dict"]
def NoInt (K : PySem.W.Frag) (H : Hp) (v : V) : Prop := ∃ n, TyX K H v (.type n) ∧ n ∈ noInts
def NoStr (K : PySem.W.Frag) (H : Hp) (v : V) : Prop := ∃ n, TyX K H v (.type n) ∧ n ∈ noStrs
/-- no width -/
def NoWid (K : PySem.W.Frag) (H : Hp) (v : V) : Prop := NoInt K H v ∨ ∃ z : Int, v = .int z ∧ ¬ (1 ≤ z ∧ z ≤ 6)
def spIsIntX (K : PySem.W.Frag) : Sp := fun vs H Q E => spIsInt vs H Q E ∨ ∃ v, vs = [v] ∧ NoInt K H v ∧ Q (.bl false) H
def spIsWidthX (K : PySem.W.Frag) : Sp := fun vs H Q E => spIsWidth vs H Q E ∨ ∃ v, vs = [v] ∧ NoWid K H v ∧ Q (.bl false) H
def Cal.imp {P : Program} {w : World} {K : PySem.W.Frag} {mg : Str → Option Value} {base : Heap} {x : Str} {ps : List Str} {sp sp' : Sp} {l : Nat} (c : Cal P w K mg base x ps sp l) (h : ∀ vs H Q E, sp' vs H Q E → sp vs H Q E) : Cal P w K mg base x ps sp' l :=
  ⟨c.f, c.fd, fun k hk => (c.ok k hk).imp h, c.kp, c.b, c.g⟩
section
variable {P : Program} {w : World} {K : PySem.W.Frag} {mg : Str → Option Value} {base : Heap} {kA : Addr}
theorem ok_isintX {f : Addr} {fd : FuncData} {k : Nat} (F : Fun K "is_an_integer" "is_an_integer" sIsInt f fd) (T : Glb K mg kA) : FnOk P w K mg base CX0 (k + 1) f fd ["thing"] (spIsIntX K) := by
  refine fn_or (ok_isint F T) ?_
  refine F.ok scIsInt (fun vs H Q E h => ?_) (fun cdv A outer s H vs Q E hr h => ?_)
  · obtain ⟨v, rfl, _⟩ := h
    rfl
  · obtain ⟨v, rfl, ⟨n, ty, hn⟩, q⟩ := h
    refine ⟨_, pss_one (ps_ret (pe_and (pe_callB call_isi (by rfl) T.isi (by decide +kernel) (pa_cons (pv 0) (pa_cons (pe_bltn (v := .ty "int") (by rfl) T.int (by decide +kernel) rfl) pa_nil)))
      (pe_one (pe_not (pe_callB call_isi (by rfl) T.isi (by decide +kernel) (pa_cons (pv 0) (pa_cons (pe_bltn (v := .ty "bool") (by rfl) T.bool (by decide +kernel) rfl) pa_nil))))))), ?_⟩
    by_cases hb : n = "bool"
    · subst hb
      refine ⟨_, rfl, _, _, _, _, true, rfl, .ty _, ty, kit_ty (by decide +kernel), _, rfl, iteT ?_⟩
      exact ⟨_, rfl, _, _, _, _, true, rfl, .ty _, ty, kit_ty (by decide +kernel), _, rfl, q⟩
    · have kb : kitB n "int" = some false := by
        simp only [noInts, List.mem_cons, List.not_mem_nil, or_false] at hn
        rcases hn with rfl | rfl | rfl | rfl | rfl | rfl <;> first | exact (hb rfl).elim | decide +kernel
      exact ⟨_, rfl, _, _, _, _, false, rfl, .ty _, ty, kit_ty kb, _, rfl, iteF q⟩
theorem ok_iswidthX {f : Addr} {fd : FuncData} {k : Nat} (F : Fun K "is_width" "is_width" sIsWidth f fd) (T : Glb K mg kA) (cI : Cal P w K mg base "is_an_integer" ["thing"] (spIsIntX K) 1) : FnOk P w K mg base CX0 (k + 2) f fd ["thing"] (spIsWidthX K) := by
  have GI := cI.ok (k + 1) (by omega)
  refine fn_or (ok_iswidth F T (cI.imp fun _ _ _ _ h => .inl h)) ?_
  refine F.ok scIsWidth (fun vs H Q E h => ?_) (fun cdv A outer s H vs Q E hr h => ?_)
  · obtain ⟨v, rfl, _⟩ := h
    rfl
  · obtain ⟨v, rfl, hv, q⟩ := h
    obtain ⟨tw, hw⟩ := T.wid
    refine ⟨_, pss_one (ps_ret (pe_and (pe_call GI hr rfl cI.g cI.kp cI.b .nil pass0 (pa_cons (pv 0) pa_nil))
      (pe_one (pe_chain op_le op_le pe_int (pv 0) (pe_glob (v := .int 6) rfl hw ⟨_, rfl⟩))))), ?_⟩
    rcases hv with no | ⟨z, rfl, hz⟩
    · exact ⟨_, rfl, .inr ⟨v, rfl, no, _, rfl, iteF q⟩⟩
    · refine ⟨_, rfl, .inl ⟨z, rfl, _, rfl, iteT ?_⟩⟩
      refine ⟨_, rfl, _, _, rfl, rfl, _, rfl, ?_⟩
      by_cases h1 : (1 : Int) ≤ z
      · refine iteT' (decide_eq_true h1) ⟨_, _, rfl, rfl, ?_⟩
        show Q (.bl (decide (z ≤ (6 : Int)))) H
        rw [decide_eq_false (show ¬ z ≤ (6 : Int) from fun h => hz ⟨h1, h⟩)]
        exact q
      · exact iteF' (decide_eq_false h1) q
end
theorem ty_same {K : PySem.W.Frag} {H H' : Hp} {v : V} {t : Value} (e : Same H H') (h : TyX K H v t) : TyX K H' v t := by
  cases h with
  | base b =>
    refine .base ?_
    cases b with
    | non => exact .non
    | bl x => exact .bl x
    | int i => exact .int i
    | str x => exact .str x
    | flt x => exact .flt x
    | lst z => exact .lst (e _ _ z)
    | frz z => exact .frz (e _ _ z)
    | tup z => exact .tup (e _ _ z)
    | dK z => exact .dK (e _ _ z)
    | dT z => exact .dT (e _ _ z)
    | ins z a b c d f => exact .ins (e _ _ z) a b c d f
  | byt b => exact .byt b
  | set z => exact .set (e _ _ z)
  | kList z c => exact .kList z c
  | kTuple z c => exact .kTuple z c
  | kDict z c => exact .kDict z c
  | fTuple z => exact .fTuple (e _ _ z)
  | fDict z => exact .fDict (e _ _ z)
theorem NoStr.same {K : PySem.W.Frag} {H H' : Hp} {v : V} (h : NoStr K H v) (e : Same H H') : NoStr K H' v := by
  obtain ⟨n, ty, hn⟩ := h
  exact ⟨n, ty_same e ty, hn⟩
end CC
namespace CC
open PySem L2
/-! ### steps_down, links, follows of a list -/
def spDownL (K : PySem.W.Frag) : Sp := fun vs H Q _ => ∃ (g : Addr) (us : List V) (rs : List R), vs = [.ref g] ∧ SqL K H g us ∧ DpAll K H us (rs.map R.d) ∧ rs.length ≤ 60 ∧ NewF prd K H (rs.map down) Q
def spDown2 (K : PySem.W.Frag) : Sp := fun vs H Q E => spDown K vs H Q E ∨ spDownL K vs H Q E
def spLinksL (K : PySem.W.Frag) : Sp := fun vs H Q _ => ∃ (w : Nat) (g : Addr) (us : List V) (rs : List R) (k : Bool), vs = [.int (w : Int), .ref g, .str (kd k)] ∧ SqL K H g us ∧ DpAll K H us (rs.map R.d) ∧ (∀ r ∈ rs, r.ok w) ∧ w ≤ 6 ∧ rs.length ≤ 60 ∧
  ∀ (p : Addr) (us' : List V) (ps : List (Nat × Nat)) (H' : Hp), Same H H' → H p = none → H' p = some (.lst us') → DpAll K (wo H' p) us' (ps.map prd) → (∀ x y, (x, y) ∈ ps ↔ Lk rs k x y) → ps.length ≤ 120 → Q (.ref p) H'
def spLinks2 (K : PySem.W.Frag) : Sp := fun vs H Q E => spLinks K vs H Q E ∨ spLinksL K vs H Q E
def spFollowsL (K : PySem.W.Frag) : Sp := fun vs H Q _ => ∃ (w : Nat) (g : Addr) (us : List V) (rs : List R) (v : V) (r : R), vs = [.int (w : Int), .ref g, v] ∧ SqL K H g us ∧ DpAll K H us (rs.map R.d) ∧ (∀ r ∈ rs, r.ok w) ∧ w ≤ 6 ∧ rs.length ≤ 60 ∧ Dp K H v r.d ∧ r.ok w ∧
  ∀ (b : Bool) (H' : Hp), Same H H' → (b = true ↔ Fol rs r) → Q (.bl b) H'
def spFollows2 (K : PySem.W.Frag) : Sp := fun vs H Q E => spFollows K vs H Q E ∨ spFollowsL K vs H Q E
section
variable {P : Program} {w : World} {K : PySem.W.Frag} {mg : Str → Option Value} {base : Heap} {kA : Addr}
theorem ok_downL {f : Addr} {fd : FuncData} {k : Nat} (F : Fun K "steps_down" "steps_down" sDown f fd) : FnOk P w K mg base CX0 (k + 1) f fd ["rules"] (spDownL K) := by
  refine F.ok scDown (fun vs H Q E h => ?_) (fun cdv A outer s H vs Q E hr h => ?_)
  · obtain ⟨g, us, rs, rfl, _⟩ := h
    rfl
  · obtain ⟨g, us, rs, rfl, hg, dp, hl, q⟩ := h
    have n := scDown.nd
    refine ⟨_, pss_one (ps_ret (pe_lc (own := [("kind", 1), ("a", 2), ("b", 3)]) (g := g3 K 1 2 3) (tt := tYes) rfl n (pi_list (pv 0)) (blkOk_by (N := nDn) (sc := defScope sDown) (by decide +kernel))
      (fun _ _ _ _ _ => pg_tup rfl (pgs_cons (pg_name (i := 1) n rfl (.inl rfl)) (pgs_cons (pg_name (i := 2) n rfl (.inl rfl)) (pgs_cons (pg_name (i := 3) n rfl (.inl rfl)) pgs_nil)))) (fun _ _ _ _ _ => pts_nil)
      (fun _ _ _ _ _ => pe_ifExp (pt_cmpR op_eq (pv 1) pe_str (nomark _)) (pe_tup (pa_cons (pv 2) (pa_cons (pv 3) pa_nil))) (pe_tup (pa_cons (pv 3) (pa_cons (pv 2) pa_nil)))))), ?_⟩
    have ul : us.length = rs.length := by rw [dps_len dp, List.length_map]
    refine ⟨_, rfl, g, rfl, ⟨_, hg⟩, fun D nD => ?_⟩
    refine lc_list (xs := us) (fun i H1 => MadeF prd K H D i H1 ((rs.take i).map down)) MadeF.start (fun i H1 _ z => same_l (z.old nD) hg) ?_ ?_
    · intro i v H1 hv p
      obtain ⟨r, hr2, dr⟩ := dps_rat dp hv
      have il : i < rs.length := (List.getElem?_eq_some_iff.mp hr2).1
      obtain ⟨t, rfl, ht⟩ := dp_r (dp_same (p.old nD) _ _ dr)
      refine ⟨t, _, rfl, ht, rfl, _, _, rfl, _, _, rfl, _, _, rfl, rfl, rfl, yes_if ?_⟩
      refine ⟨_, rfl, rfl, _, rfl, ?_⟩
      rw [SG.take_one hr2, List.map_append]
      rw [show decide (V.str (kd r.k) = V.str (Str.ofString "settles")) = r.k from kd_eq r.k]
      cases hk : r.k with
      | true =>
        refine iteT ⟨_, rfl, _, rfl, (by show 2 ≤ sizeLine; decide), fun t2 n2 => ?_⟩
        refine p.push (r := down r) (by omega) (Nat.lt_succ_self _) (same_new n2) (p_dp ?_)
        have e : down r = (r.a, r.b) := by unfold down; rw [hk]; rfl
        rw [e]
        exact p.tup n2
      | false =>
        refine iteF ⟨_, rfl, _, rfl, (by show 2 ≤ sizeLine; decide), fun t2 n2 => ?_⟩
        refine p.push (r := down r) (by omega) (Nat.lt_succ_self _) (same_new n2) (p_dp ?_)
        have e : down r = (r.b, r.a) := by unfold down; rw [hk]; rfl
        rw [e]
        exact p.tup n2
    · intro H1 p
      rw [ul, List.take_length] at p
      exact p.out nD (Same.refl _) q
theorem ok_linksL {f : Addr} {fd : FuncData} {k : Nat} (F : Fun K "links" "links" sLinks f fd) (T : Glb K mg kA) (cD : Cal P w K mg base "steps_down" ["rules"] (spDownL K) 1)
 (cR : Cal P w K mg base "reached" ["pairs", "start"] (spReached K) 2) : FnOk P w K mg base CX0 (k + 3) f fd ["width", "rules", "kind"] (spLinksL K) := by
  have GD := cD.ok (k + 2) (by omega)
  have GR := cR.ok (k + 2) (by omega)
  refine F.ok scLinks (fun vs H Q E h => ?_) (fun cdv A outer s H vs Q E hr h => ?_)
  · obtain ⟨w, g, us, rs, k, rfl, _⟩ := h
    rfl
  · obtain ⟨w, g, us, rs, kk, rfl, hg, dp, ho, hw, hl, q⟩ := h
    have n := scLinks.nd
    refine ⟨_, pss_cons (ps_set (i := 3) n rfl (.inr rfl) (pe_call GD hr rfl cD.g cD.kp cD.b .nil pass0 (pa_cons (pv 1) pa_nil)))
      (pss_cons (ps_set (i := 4) n rfl (.inr rfl) (pe_lc (own := [("column", 7)]) (g := gName 7) (tt := tYes) rfl n (pi_range1 (by rfl) T.rng (pa_cons (pv 0) pa_nil)) (blkOk_by (N := nLk) (sc := defScope sLinks) (by decide +kernel))
          (fun _ _ _ _ _ => pg_name (i := 7) n rfl (.inl rfl)) (fun _ _ _ _ _ => pts_nil) (fun _ _ _ _ _ => pe_call GR hr rfl cR.g cR.kp cR.b .nil pass0 (pa_cons (pv 3) (pa_cons (pv 7) pa_nil)))))
      (pss_cons (ps_setLc (i := 5) (own := [("word", 8), ("a", 9), ("b", 10)]) (g := g3 K 8 9 10) (tt := tTest (tOp rEq (tVar 8) (tVar 2))) rfl n rfl rfl (sw_true rfl rfl rfl (by decide +kernel)) (pi_list (pv 1)) (blkOk_by (N := nLk) (sc := defScope sLinks) (by decide +kernel))
          (fun _ _ _ _ _ => pg_tup rfl (pgs_cons (pg_name (i := 8) n rfl (.inl rfl)) (pgs_cons (pg_name (i := 9) n rfl (.inl rfl)) (pgs_cons (pg_name (i := 10) n rfl (.inl rfl)) pgs_nil))))
          (fun _ _ _ _ _ => pts_one (pt_cmpR op_eq (pv 8) (pv 2) (nomark _))) (fun _ _ _ _ _ => pe_tup (pa_cons (pv 9) (pa_cons (pv 10) pa_nil))))
      (pss_cons (ps_setLc (i := 6) (own := [("a", 9), ("b", 10)]) (g := g2 K 9 10) (tt := tAnd (tTest (tOp (rIn K false) (tVar 9) (tOp (rIxL K) (tVar 4) (tVar 10)))) (tTest (tOp (rIn K false) (tVar 10) (tOp (rIxL K) (tVar 4) (tVar 9))))) rfl n rfl rfl (sw_true rfl rfl rfl (by decide +kernel)) (pi_list (pv 5)) (blkOk_by (N := nLk) (sc := defScope sLinks) (by decide +kernel))
          (fun _ _ _ _ _ => pg_tup rfl (pgs_cons (pg_name (i := 9) n rfl (.inl rfl)) (pgs_cons (pg_name (i := 10) n rfl (.inl rfl)) pgs_nil)))
          (fun _ _ _ _ _ => pts_one (PW.pt (pw_and (pt_cmpR op_in_seq (pv 9) (pe_ix ix_list (pv 4) (pv 10) (fun _ _ => rfl)) (by rfl)) (pw_and1 (pt_cmpR op_in_seq (pv 10) (pe_ix ix_list (pv 4) (pv 9) (fun _ _ => rfl)) (by rfl))))))
          (fun _ _ _ _ _ => pe_tup (pa_cons (pv 10) (pa_cons (pv 9) pa_nil))))
      (pss_one (ps_ret (pe_op op_cat (pv 5) (pv 6))))))), ?_⟩
    have ul : us.length = rs.length := by rw [dps_len dp, List.length_map]
    -- steps
    refine ⟨_, rfl, g, us, rs, rfl, hg, dp, hl, fun sa su H1 s1 nsa hsa dsa => ?_⟩
    have dsa1 : DpAll K H1 su ((rs.map down).map prd) := dps_same (wo_le sa) _ _ dsa
    have dlt := down_lt ho
    have dl6 : ∀ x ∈ rs.map down, x.1 < 6 ∧ x.2 < 6 := fun x hx => ⟨Nat.lt_of_lt_of_le (dlt x hx).1 hw, Nat.lt_of_lt_of_le (dlt x hx).2 hw⟩
    -- below
    refine ⟨_, rfl, _, rfl, by omega, by omega, fun B nB => ?_⟩
    refine lc_range (lo := 0) (n := ((w : Nat) : Int).toNat) (fun i H2 => ∃ fss : List (List Nat), MadeF lsd K H1 B i H2 fss ∧ fss.length = i ∧ ∀ c, c < i → ∀ x, x ∈ fss.getD c [] ↔ Rch (rs.map down) c x) ⟨[], MadeF.start, rfl, fun c hc => absurd hc (Nat.not_lt_zero _)⟩ ?_ ?_
    · rintro i H2 hi ⟨fss, p, fl, ff⟩
      have iw : i < w := by omega
      have o2 := p.old nB
      refine ⟨rfl, yes_if ?_⟩
      refine ⟨_, rfl, _, rfl, sa, su, rs.map down, i, by rw [Int.zero_add]; rfl, SqL.of (o2 _ _ hsa), dps_same o2 _ _ dsa1, dl6, by omega, by rw [List.length_map]; omega, fun pr fs H3 s3 npr hpr hfs _ => ?_⟩
      obtain ⟨us2, _, pB, _⟩ := id p
      have prB : pr ≠ B := (ne_of_none pB npr).symm
      obtain ⟨acc, a1, a2, a3⟩ := p.push (r := fs) (y := .ref pr) (m := i + 1) (by omega) (Nat.lt_succ_self _) s3 (.lst (.inl (.inl (by rw [wo_ne prB]; exact hpr))) (dps_nms fs))
      refine ⟨acc, a1, a2, fss ++ [fs], a3, by rw [List.length_append, fl]; rfl, fun c hc x => ?_⟩
      by_cases e : c < i
      · rw [getD_left (by omega)]
        exact ff c e x
      · have : c = i := by omega
        subst this
        rw [← fl, getD_last]
        rw [fl]
        exact hfs x
    rintro H2 ⟨fss, pB, fl, ff⟩
    have ew : ((w : Nat) : Int).toNat = w := by omega
    rw [ew] at fl ff pB
    have o2 := pB.old nB
    obtain ⟨bu, _, hB, dB, _⟩ := pB
    have dB2 : DpAll K H2 bu (fss.map lsd) := dps_same (wo_le B) _ _ dB
    have s2 : Same H H2 := s1.trans o2
    -- pairs
    refine ⟨_, rfl, g, rfl, ⟨_, same_l s2 hg⟩, fun D3 n3 => ?_⟩
    refine lc_list (xs := us) (fun i H3 => MadeF prd K H2 D3 i H3 (pk (rs.take i) kk)) MadeF.start (fun i H3 _ z => same_l (s2.trans (z.old n3)) hg) ?_ ?_
    · intro i v H3 hv p
      obtain ⟨r, hr2, dr⟩ := dps_rat dp hv
      have il : i < rs.length := (List.getElem?_eq_some_iff.mp hr2).1
      obtain ⟨t, rfl, ht⟩ := dp_r (dp_same (s2.trans (p.old n3)) _ _ dr)
      refine ⟨t, _, rfl, ht, rfl, _, _, rfl, _, _, rfl, _, _, rfl, rfl, rfl, ?_⟩
      refine ⟨_, rfl, _, rfl, rfl, _, rfl, ?_⟩
      rw [show decide (V.str (kd r.k) = V.str (kd kk)) = decide (r.k = kk) from kd_ne _ _, pk_step hr2]
      by_cases e : r.k = kk
      · rw [decide_eq_true e, if_pos e]
        refine iteT ⟨_, rfl, _, rfl, (by show 2 ≤ sizeLine; decide), fun t2 n2 => ?_⟩
        exact p.push (r := (r.a, r.b)) (by omega) (Nat.lt_succ_self _) (same_new n2) (p_dp (p.tup n2))
      · rw [decide_eq_false e, if_neg e]
        exact iteF (p.up (by omega) (by simp))
    intro H3 p3
    rw [ul, List.take_length] at p3
    have o3 := p3.old n3
    obtain ⟨pu, _, hP, dP, _⟩ := p3
    have dP3 : DpAll K H3 pu ((pk rs kk).map prd) := dps_same (wo_le D3) _ _ dP
    have pl : pu.length = (pk rs kk).length := by rw [dps_len dP3, List.length_map]
    have pkl : (pk rs kk).length ≤ 60 := by
      unfold pk
      rw [List.length_map]
      exact Nat.le_trans (List.length_filter_le _ _) hl
    -- turned
    refine ⟨_, rfl, D3, rfl, ⟨_, SqL.of hP⟩, fun D4 n4 => ?_⟩
    refine lc_list (xs := pu) (fun i H4 => MadeF prd K H3 D4 i H4 (trn fss ((pk rs kk).take i))) MadeF.start (fun i H4 _ z => SqL.of (z.old n4 _ _ hP)) ?_ ?_
    · intro i v H4 hv p
      obtain ⟨⟨x, y⟩, hxy, dv⟩ := dps_pat dP3 hv
      have il : i < (pk rs kk).length := (List.getElem?_eq_some_iff.mp hxy).1
      have o4 := p.old n4
      obtain ⟨t, rfl, ht⟩ := dp_p (dp_same o4 _ _ dv)
      have hm := ho _ (pk_mem.mp (List.mem_of_getElem? hxy))
      have get : ∀ c, c < w → ∃ pc, bu[c]? = some (.ref pc) ∧ SqL K H4 pc (nms (fss.getD c [])) := fun c hc => by
        have hc2 : c < fss.length := by omega
        have e1 : (fss.map lsd)[c]? = some (lsd (fss.getD c [])) := by
          rw [List.getElem?_map, List.getElem?_eq_getElem hc2]
          simp [List.getD, List.getElem?_eq_getElem hc2]
        obtain ⟨u, u1, u2⟩ := dps_to dB2 e1
        obtain ⟨pc, rfl, hpc⟩ := lsd_at (dp_same (o3.trans o4) _ _ u2)
        exact ⟨pc, u1, hpc⟩
      obtain ⟨p1, b1, l1⟩ := get y hm.2.1
      obtain ⟨p2, b2, l2⟩ := get x hm.1
      have hB4 : SqL K H4 B bu := SqL.of (o4 _ _ (o3 _ _ hB))
      refine ⟨t, _, rfl, ht, rfl, _, _, rfl, _, _, rfl, rfl, rfl, ?_⟩
      refine ⟨_, rfl, _, rfl, _, rfl, B, bu, _, _, rfl, rfl, hB4, atI_nat b1, p1, _, rfl, .inl l1, rfl, nms_flat _, _, rfl, ?_⟩
      rw [show inV (V.int (x : Int)) (nms (fss.getD y [])) = decide (x ∈ fss.getD y []) from nms_in _ _]
      have stp : trn fss ((pk rs kk).take (i + 1)) = trn fss ((pk rs kk).take i) ++ (if (decide (x ∈ fss.getD y []) && decide (y ∈ fss.getD x [])) = true then [(y, x)] else []) := trn_step hxy
      by_cases e : x ∈ fss.getD y []
      · rw [decide_eq_true e]
        refine iteT ⟨_, rfl, _, rfl, _, rfl, B, bu, _, _, rfl, rfl, hB4, atI_nat b2, p2, _, rfl, .inl l2, rfl, nms_flat _, _, rfl, ?_⟩
        rw [show inV (V.int (y : Int)) (nms (fss.getD x [])) = decide (y ∈ fss.getD x []) from nms_in _ _]
        by_cases e2 : y ∈ fss.getD x []
        · rw [decide_eq_true e2]
          rw [if_pos (by rw [decide_eq_true e, decide_eq_true e2]; rfl)] at stp
          rw [stp]
          refine iteT ⟨_, rfl, _, rfl, (by show 2 ≤ sizeLine; decide), fun t2 n2 => ?_⟩
          exact p.push (r := (y, x)) (by omega) (Nat.lt_succ_self _) (same_new n2) (p_dp (p.tup n2))
        · rw [decide_eq_false e2]
          rw [if_neg (by rw [decide_eq_false e2, Bool.and_false]; exact Bool.false_ne_true)] at stp
          rw [stp]
          exact iteF (p.up (by omega) (by simp))
      · rw [decide_eq_false e]
        rw [if_neg (by rw [decide_eq_false e]; exact Bool.false_ne_true)] at stp
        rw [stp]
        refine iteF ?_
        exact iteF (p.up (by omega) (by simp))
    intro H4 p4
    rw [pl, List.take_length] at p4
    have o4 := p4.old n4
    obtain ⟨tu, _, hT, dT, _⟩ := p4
    have trl : (trn fss (pk rs kk)).length ≤ 60 := by
      unfold trn
      rw [List.length_map]
      exact Nat.le_trans (List.length_filter_le _ _) pkl
    have tul : tu.length = (trn fss (pk rs kk)).length := by rw [dps_len dT, List.length_map]
    refine ⟨_, rfl, _, rfl, D3, D4, pu, tu, rfl, rfl, o4 _ _ hP, hT, Nat.le_of_lt (small1000 (by omega)), fun p5 n5 => ?_⟩
    have m5 : Same H4 (upd H4 p5 (.lst (pu ++ tu))) := same_new n5
    have toV : Same H4 (wo (upd H4 p5 (.lst (pu ++ tu))) p5) := fun b o e => by
      rw [wo_ne (ne_of_none e n5)]
      exact m5 _ _ e
    have sH : Same H H4 := s2.trans (o3.trans o4)
    refine q p5 (pu ++ tu) (pk rs kk ++ trn fss (pk rs kk)) _ (sH.trans m5) (sH.free n5) upd_same ?_ (fun x y => ?_) (by rw [List.length_append]; omega)
    · rw [List.map_append]
      exact dps_app (dps_same (o4.trans toV) _ _ dP3) (dps_same ((wo_le D4).trans toV) _ _ dT)
    · rw [List.mem_append, pk_mem]
      unfold Lk
      refine or_congr Iff.rfl ?_
      simp only [trn, List.mem_map, List.mem_filter, Bool.and_eq_true, decide_eq_true_eq, Prod.mk.injEq]
      constructor
      · rintro ⟨⟨a, b⟩, ⟨h1, h2, h3⟩, rfl, rfl⟩
        have hm := ho _ (pk_mem.mp h1)
        exact ⟨pk_mem.mp h1, (ff _ hm.2.1 _).mp h2, (ff _ hm.1 _).mp h3⟩
      · rintro ⟨h1, h2, h3⟩
        have hm := ho _ h1
        exact ⟨(y, x), ⟨pk_mem.mpr h1, (ff _ hm.2.1 _).mpr h2, (ff _ hm.1 _).mpr h3⟩, rfl, rfl⟩
theorem ok_followsL {f : Addr} {fd : FuncData} {k : Nat} (F : Fun K "follows" "follows" sFollows f fd) (T : Glb K mg kA) (cL : Cal P w K mg base "links" ["width", "rules", "kind"] (spLinksL K) 3)
 (cR : Cal P w K mg base "reached" ["pairs", "start"] (spReached K) 2) :
    FnOk P w K mg base CX0 (k + 4) f fd ["width", "rules", "rule"] (spFollowsL K) := by
  have GL := cL.ok (k + 3) (by omega)
  have GR := cR.ok (k + 3) (by omega)
  refine F.ok scFollows (fun vs H Q E h => ?_) (fun cdv A outer s H vs Q E hr h => ?_)
  · obtain ⟨w, g, us, rs, v, r, rfl, _⟩ := h
    rfl
  · obtain ⟨w, g, us, rs, v, r, rfl, hg, dp, ho, hw, hl, dv, hr2, q⟩ := h
    have n := scFollows.nd
    obtain ⟨t, rfl, ht⟩ := dp_r dv
    refine ⟨_, pss_cons (ps_asg (pv 2) (pg_tup rfl (pgs_cons (pg_name (i := 3) n rfl (.inl rfl)) (pgs_cons (pg_name (i := 4) n rfl (.inl rfl)) (pgs_cons (pg_name (i := 5) n rfl (.inl rfl)) pgs_nil)))))
      (pss_one (ps_ret (pe_cmpR op_in_seq (pv 5) (pe_call GR hr rfl cR.g cR.kp cR.b .nil pass0 (pa_cons (pe_call GL hr rfl cL.g cL.kp cL.b .nil pass0 (pa_cons (pv 0) (pa_cons (pv 1) (pa_cons (pv 3) pa_nil)))) (pa_cons (pv 4) pa_nil))) (by rfl)))), ?_⟩
    refine ⟨_, rfl, t, _, rfl, ht, rfl, _, _, rfl, _, _, rfl, _, _, rfl, rfl, ?_⟩
    refine ⟨_, rfl, _, rfl, _, rfl, _, rfl, w, g, us, rs, r.k, rfl, hg, dp, ho, hw, hl, fun p us' ps H1 s1 np hp dps hps pl => ?_⟩
    refine ⟨_, rfl, p, us', ps, r.a, rfl, SqL.of hp, dps_same (wo_le p) _ _ dps, fun x hx => ?_, Nat.lt_of_lt_of_le hr2.1 hw, by omega, fun p2 fs H2 s2 np2 hp2 hfs _ => ?_⟩
    · obtain ⟨x1, x2⟩ := x
      have := lk_lt ho ((hps x1 x2).mp hx)
      exact ⟨Nat.lt_of_lt_of_le this.1 hw, Nat.lt_of_lt_of_le this.2 hw⟩
    · refine ⟨p2, _, rfl, .inl (SqL.of hp2), rfl, nms_flat _, ?_⟩
      show Q (.bl (inV (V.int (r.b : Int)) (nms fs))) H2
      rw [nms_in]
      refine q _ H2 (s1.trans s2) ?_
      rw [decide_eq_true_eq, hfs]
      exact rch_rt hps
theorem ok_down2 {f : Addr} {fd : FuncData} {k : Nat} (F : Fun K "steps_down" "steps_down" sDown f fd) : FnOk P w K mg base CX0 (k + 1) f fd ["rules"] (spDown2 K) := fn_or (ok_down F) (ok_downL F)
theorem ok_links2 {f : Addr} {fd : FuncData} {k : Nat} (F : Fun K "links" "links" sLinks f fd) (T : Glb K mg kA) (cD : Cal P w K mg base "steps_down" ["rules"] (spDown2 K) 1) (cR : Cal P w K mg base "reached" ["pairs", "start"] (spReached K) 2) : FnOk P w K mg base CX0 (k + 3) f fd ["width", "rules", "kind"] (spLinks2 K) :=
  fn_or (ok_links F T (cD.imp fun _ _ _ _ h => .inl h) cR) (ok_linksL F T (cD.imp fun _ _ _ _ h => .inr h) cR)
theorem ok_follows2 {f : Addr} {fd : FuncData} {k : Nat} (F : Fun K "follows" "follows" sFollows f fd) (T : Glb K mg kA) (cL : Cal P w K mg base "links" ["width", "rules", "kind"] (spLinks2 K) 3) (cR : Cal P w K mg base "reached" ["pairs", "start"] (spReached K) 2) : FnOk P w K mg base CX0 (k + 4) f fd ["width", "rules", "rule"] (spFollows2 K) :=
  fn_or (ok_follows F T (cL.imp fun _ _ _ _ h => .inl h) cR) (ok_followsL F T (cL.imp fun _ _ _ _ h => .inr h) cR)
end
end CC
namespace CC
open PySem PySem.Spec PyProof.Rows L2
def rInDT (K : PySem.W.Frag) : R2 := fun x y H Q => ∃ d ds, Dp K H x d ∧ Dp K H y (.tuple ds) ∧ SeqAt.shaped d = true ∧ SeqAt.shaped (.list ds) = true ∧ Q (.bl (ds.any fun z => PyData.eqv z d)) H
def rNotInDT (K : PySem.W.Frag) : R2 := fun x y H Q => ∃ d ds, Dp K H x d ∧ Dp K H y (.tuple ds) ∧ SeqAt.shaped d = true ∧ SeqAt.shaped (.list ds) = true ∧ Q (.bl (!ds.any fun z => PyData.eqv z d)) H
section
variable {X : Cx}
theorem op_inDT (hu : X.A.units + 65 < cLine) : OpR X (compareOp .In) (rInDT X.K) := by
  intro pins s σ H x y v u Q I rx ry h
  obtain ⟨d, ds, hd, he, sd, se, q⟩ := h
  obtain ⟨as, r1⟩ := Dp.reads I d x v hd rx
  obtain ⟨bs, r2⟩ := Dp.reads I (.tuple ds) y u he ry
  exact SeqAt.in_tuple_reads r2 r1 (SeqAt.canLay_of_shaped se) (SeqAt.canLay_of_shaped sd) (room_in_shaped sd hu) ⟨.bl _, H, I, rfl, q⟩
theorem op_notInDT (hu : X.A.units + 65 < cLine) : OpR X (compareOp .NotIn) (rNotInDT X.K) := by
  intro pins s σ H x y v u Q I rx ry h
  obtain ⟨d, ds, hd, he, sd, se, q⟩ := h
  obtain ⟨as, r1⟩ := Dp.reads I d x v hd rx
  obtain ⟨bs, r2⟩ := Dp.reads I (.tuple ds) y u he ry
  exact SeqAt.notIn_tuple_reads r2 r1 (SeqAt.canLay_of_shaped se) (SeqAt.canLay_of_shaped sd) (room_in_shaped sd hu) ⟨.bl _, H, I, rfl, q⟩
end
end CC
namespace CC
open PySem PySem.Spec PyProof.Rows L2
/-! ### x in a tuple of data, C(e, *y), an own + -/
section
variable {X : Cx}
variable {CX : CXT} {k : Nat} {f C : Addr} {sp : Sp} {E : XK} {x : Str} {e : Expr} {es : List Expr} {t : TA} {p pos : Pos}
theorem pe_makeRS (M : Mk X.K C f) (F : FnR X.prog X.w X.K X.mg X.base CX k f sp) (hr : Room (k + 1) X.A) (hg : Gl X x) (hm : X.mg x = some (.ref C)) (hx : Passes CX X E) (ha : PA X (e :: es) t) (hdb : (x == ("__debug__" : Str)) = false := by decide)
    (he : starEach (e :: es) X.env = (false, eval e X.env) :: starEach es X.env := by rfl) (hst : (backTo pos (starEach es X.env)).any (·.1) = true := by rfl) : PE X (.Call (.Name x p) (e :: es) [] pos) (StX.tMakeR C sp E t) := by
  refine ⟨fun pins s σ H Q I h => ?_⟩
  refine wpAny_Call_Name_kw (ld_glob I hg hm ?_ hdb)
  refine PySem.W.callWith_S2 (h₀ := X.base) I.ok.mod.kin M.kp (thn (ha.run pos pins s σ H _ I h) fun us s1 ⟨vs, H1, I1, r, q⟩ => ⟨I1.kIn, ?_⟩) he hst
  exact StX.run_makeR M F hr hx I1 r q
def rOwnB (C : Addr) (sp : Sp) (E : XK) : R2 := fun x y H Q => ∃ a dx fs b dy gs, x = .ref a ∧ y = .ref b ∧ H a = some (.ins C dx fs) ∧ H b = some (.ins C dy gs) ∧ sp [x, y] H Q E
theorem op_ownB {op : Operator} {g : Addr} (hc : PySem.W.selfFirst X.K C = true) (hs : PySem.W.findIn X.K (.ref C) (PySem.dunder op.info.2) = some (some (.ref g))) (hf : PySem.W.isFn X.K (.ref g) = true) (F : FnR X.prog X.w X.K X.mg X.base CX k g sp)
    (hr : Room k X.A) (hx : Passes CX X E) : OpR X (binaryOp op) (rOwnB C sp E) := by
  intro pins s σ H x y v u Q I rx ry h
  obtain ⟨a, dx, fs, b, dy, gs, rfl, rfl, ha, hb, q⟩ := h
  cases (show v = Value.ref a from rx)
  cases (show u = Value.ref b from ry)
  obtain ⟨mA, J, _⟩ := ins_get I.hok ha
  obtain ⟨mB, J', _⟩ := ins_get I.hok hb
  obtain ⟨od, J, _⟩ := J.look
  obtain ⟨od', J', _⟩ := J'.look
  obtain ⟨m, hF⟩ := I.fr
  refine PySem.W.binop_K (op := op) hF I.ok.mod.kin J J'.type hc hs hf ?_
  refine wpAny_mono (wpAny_call (run_fnR (us := [.ref a, .ref b]) (vs := [.ref a, .ref b]) F hr hx I (.cons rfl (.cons rfl .nil)) q)) (fun w s' z => ?_) fun _ _ x => x
  obtain ⟨z', H', I', rz, qz⟩ := z
  exact SlX.cmpback rz ⟨z', H', I', rz, qz⟩
end
def addR (rs ts : List R) : List R := rs ++ ts.filter fun t => !decide (t ∈ rs)
theorem addR_ok {w : Nat} {rs ts : List R} (h1 : ∀ r ∈ rs, r.ok w) (h2 : ∀ r ∈ ts, r.ok w) : ∀ r ∈ addR rs ts, r.ok w := fun r hr => by
  rcases List.mem_append.mp hr with z | z
  · exact h1 r z
  · exact h2 r (List.mem_filter.mp z).1
theorem addR_nodup {rs ts : List R} (h1 : rs.Nodup) (h2 : ts.Nodup) : (addR rs ts).Nodup := by
  refine List.nodup_append.mpr ⟨h1, h2.filter _, fun a ha b hb e => ?_⟩
  subst e
  have := (List.mem_filter.mp hb).2
  rw [decide_eq_true ha] at this
  cases this
theorem addR_mem {rs ts : List R} {r : R} : r ∈ addR rs ts ↔ r ∈ rs ∨ r ∈ ts := by
  unfold addR
  rw [List.mem_append, List.mem_filter]
  constructor
  · rintro (h | h)
    · exact .inl h
    · exact .inr h.1
  · rintro (h | h)
    · exact .inl h
    · by_cases e : r ∈ rs
      · exact .inl e
      · exact .inr ⟨h, by rw [decide_eq_false e]; rfl⟩
end CC
/-! ### groups of columns, by a table of what is reached -/
namespace CC
open PySem L2
def grpM (M : Nat → Nat → Bool) (w a : Nat) : List Nat := (List.range w).filter fun b => M a b && M b a
def clsM (M : Nat → Nat → Bool) (w : Nat) : List (List Nat) := ((List.range w).filter fun a => (grpM M w a).head? == some a).map (grpM M w)
section
variable {M N : Nat → Nat → Bool} {w a b : Nat}
theorem grp_congr (h : ∀ x y, x < w → y < w → M x y = N x y) (ha : a < w) : grpM M w a = grpM N w a := by
  unfold grpM
  refine List.filter_congr fun b hb => ?_
  have hb := List.mem_range.mp hb
  rw [h a b ha hb, h b a hb ha]
theorem cls_congr (h : ∀ x y, x < w → y < w → M x y = N x y) : clsM M w = clsM N w := by
  unfold clsM
  have e : ((List.range w).filter fun a => (grpM M w a).head? == some a) = ((List.range w).filter fun a => (grpM N w a).head? == some a) := by
    refine List.filter_congr fun b hb => ?_
    rw [grp_congr h (List.mem_range.mp hb)]
  rw [e]
  refine List.map_congr_left fun b hb => ?_
  exact grp_congr h (List.mem_range.mp (List.mem_filter.mp hb).1)
theorem grp_mem : b ∈ grpM M w a ↔ b < w ∧ M a b = true ∧ M b a = true := by
  unfold grpM
  rw [List.mem_filter, List.mem_range, Bool.and_eq_true]
theorem grp_inc : (grpM M w a).Pairwise (· < ·) := List.Pairwise.filter _ List.pairwise_lt_range
theorem grp_lt {x : Nat} (h : x ∈ grpM M w a) : x < w := (grp_mem.mp h).1
theorem grp_len : (grpM M w a).length ≤ w := by
  unfold grpM
  have := List.length_filter_le (fun b => M a b && M b a) (List.range w)
  rwa [List.length_range] at this
theorem inc_eq : ∀ {l m : List Nat}, l.Pairwise (· < ·) → m.Pairwise (· < ·) → (∀ x, x ∈ l ↔ x ∈ m) → l = m
  | [], [], _, _, _ => rfl
  | [], y :: m, _, _, h => absurd ((h y).mpr List.mem_cons_self) (by simp)
  | x :: l, [], _, _, h => absurd ((h x).mp List.mem_cons_self) (by simp)
  | x :: l, y :: m, hl, hm, h => by
    rw [List.pairwise_cons] at hl hm
    have e : x = y := by
      rcases List.mem_cons.mp ((h x).mp List.mem_cons_self) with z | z
      · exact z
      · rcases List.mem_cons.mp ((h y).mpr List.mem_cons_self) with q | q
        · exact q.symm
        · have := hm.1 x z
          have := hl.1 y q
          omega
    subst e
    rw [inc_eq hl.2 hm.2 fun z => ?_]
    constructor
    · intro hz
      rcases List.mem_cons.mp ((h z).mp (List.mem_cons_of_mem _ hz)) with q | q
      · have := hl.1 z hz
        omega
      · exact q
    · intro hz
      rcases List.mem_cons.mp ((h z).mpr (List.mem_cons_of_mem _ hz)) with q | q
      · have := hm.1 z hz
        omega
      · exact q
/-- what is told of M for a law: it leads from each column to itself, and on -/
structure Eqr (M : Nat → Nat → Bool) (w : Nat) : Prop where
  refl : ∀ x, x < w → M x x = true
  trans : ∀ x y z, x < w → y < w → z < w → M x y = true → M y z = true → M x z = true
theorem Eqr.self (h : Eqr M w) (ha : a < w) : a ∈ grpM M w a := grp_mem.mpr ⟨ha, h.refl a ha, h.refl a ha⟩
theorem Eqr.same (h : Eqr M w) (ha : a < w) (hb : b ∈ grpM M w a) : grpM M w b = grpM M w a := by
  obtain ⟨b1, b2, b3⟩ := grp_mem.mp hb
  refine inc_eq grp_inc grp_inc fun x => ?_
  rw [grp_mem, grp_mem]
  constructor
  · rintro ⟨x1, x2, x3⟩
    exact ⟨x1, h.trans _ _ _ ha b1 x1 b2 x2, h.trans _ _ _ x1 b1 ha x3 b3⟩
  · rintro ⟨x1, x2, x3⟩
    exact ⟨x1, h.trans _ _ _ b1 ha x1 b3 x2, h.trans _ _ _ x1 ha b1 x3 b2⟩
theorem Eqr.head (h : Eqr M w) (ha : a < w) : ∃ c, (grpM M w a).head? = some c ∧ c ≤ a ∧ c ∈ grpM M w a := by
  cases e : grpM M w a with
  | nil =>
    have := h.self ha
    rw [e] at this
    cases this
  | cons c r =>
    refine ⟨c, rfl, ?_, List.mem_cons_self⟩
    have m := h.self ha
    have i := grp_inc (M := M) (w := w) (a := a)
    rw [e] at m i
    rcases List.mem_cons.mp m with z | z
    · omega
    · have := (List.pairwise_cons.mp i).1 a z
      omega
/-- the groups of the columns below i, each once -/
def clsTo (M : Nat → Nat → Bool) (w i : Nat) : List (List Nat) := ((List.range i).filter fun a => (grpM M w a).head? == some a).map (grpM M w)
theorem clsTo_step (i : Nat) : clsTo M w (i + 1) = clsTo M w i ++ (if ((grpM M w i).head? == some i) = true then [grpM M w i] else []) := by
  unfold clsTo
  rw [List.range_succ, List.filter_append, List.map_append]
  by_cases e : ((grpM M w i).head? == some i) = true
  · rw [if_pos e, List.filter_cons_of_pos (p := fun a => (grpM M w a).head? == some a) e]
    rfl
  · rw [if_neg e, List.filter_cons_of_neg (p := fun a => (grpM M w a).head? == some a) e]
    rfl
theorem Eqr.seen (h : Eqr M w) {i : Nat} (hi : i < w) : grpM M w i ∈ clsTo M w i ↔ ¬ ((grpM M w i).head? == some i) = true := by
  obtain ⟨c, c1, c2, c3⟩ := h.head hi
  rw [c1]
  constructor
  · intro m e
    have e : c = i := by simpa using e
    subst e
    unfold clsTo at m
    obtain ⟨x, hx, ex⟩ := List.mem_map.mp m
    have hx1 := List.mem_range.mp (List.mem_filter.mp hx).1
    have mx : x ∈ grpM M w c := by
      rw [← ex]
      exact h.self (by omega)
    cases q : grpM M w c with
    | nil => rw [q] at c3; cases c3
    | cons y r =>
      rw [q] at c1 mx
      have ey : y = c := by simpa using c1
      have i2 := grp_inc (M := M) (w := w) (a := c)
      rw [q] at i2
      rcases List.mem_cons.mp mx with z | z
      · omega
      · have := (List.pairwise_cons.mp i2).1 x z
        omega
  · intro e
    have ne : ¬ c = i := fun z => e (by rw [z]; simp)
    have cw : c < w := grp_lt c3
    have es := h.same hi c3
    unfold clsTo
    refine List.mem_map.mpr ⟨c, List.mem_filter.mpr ⟨List.mem_range.mpr (by omega), ?_⟩, es⟩
    rw [es, c1]
    simp
theorem clsTo_heads (i : Nat) : (clsTo M w i).Pairwise fun x y => ∃ a b, x.head? = some a ∧ y.head? = some b ∧ a < b := by
  unfold clsTo
  rw [List.pairwise_map]
  have p : ((List.range i).filter fun a => (grpM M w a).head? == some a).Pairwise (· < ·) := List.Pairwise.filter _ List.pairwise_lt_range
  refine (List.pairwise_iff_forall_sublist.mpr fun {x y} hs => ?_)
  have hx : x ∈ (List.range i).filter fun a => (grpM M w a).head? == some a := hs.subset (by simp)
  have hy : y ∈ (List.range i).filter fun a => (grpM M w a).head? == some a := hs.subset (by simp)
  have lt := List.pairwise_iff_forall_sublist.mp p hs
  exact ⟨x, y, by simpa using (List.mem_filter.mp hx).2, by simpa using (List.mem_filter.mp hy).2, lt⟩
theorem clsTo_len (i : Nat) : (clsTo M w i).length ≤ i := by
  unfold clsTo
  rw [List.length_map]
  have := List.length_filter_le (fun a => (grpM M w a).head? == some a) (List.range i)
  rwa [List.length_range] at this
end
end CC
namespace CC
open PySem L2
theorem lc_enum {K : PySem.W.Frag} {a : Addr} {xs : List V} {g : TG} {tt : TT} {te : TE} {vs : List Nat} {σ : L2.St} {H1 : Hp} {D : Addr} {N : Hp → Prop} (Pv : Nat → Hp → Prop) (h0 : Pv 0 (upd H1 D (.lst []))) (hl : ∀ i H, i ≤ xs.length → Pv i H → SqL K H a xs)
    (hs : ∀ i x t H, xs[i]? = some x → Pv i H → H t = none → g (.ref t) (wipe σ vs) (upd H t (.tup [.int (i : Nat), x])) fun τ H2 => wipe τ vs = wipe σ vs ∧ tt τ H2 fun b H3 => if b = true then te τ H3 fun y H4 => ∃ acc, H4 D = some (.lst acc) ∧ acc.length < sizeLine ∧ Pv (i + 1) (upd H4 D (.lst (acc ++ [y]))) else Pv (i + 1) H3)
    (hd : ∀ H, Pv xs.length H → N H) :
    ∃ W : Nat → Nat → Hp → Prop, (∃ m, W 0 m (upd H1 D (.lst []))) ∧ ∀ i m H, W i m H → ((Ite K a).stop i H ∧ N H) ∨ ((Ite K a).go i H ∧ ∃ Nx : Hp → Prop, (∀ H', Nx H' → ∃ m', m' < m ∧ W (i + 1) m' H') ∧ ∀ x H', (Ite K a).yld i H x H' →
      g x (wipe σ vs) H' fun τ H2 => wipe τ vs = wipe σ vs ∧ tt τ H2 fun b H3 => if b = true then te τ H3 fun y H4 => ∃ acc, H4 D = some (.lst acc) ∧ acc.length < sizeLine ∧ Nx (upd H4 D (.lst (acc ++ [y]))) else Nx H3) := by
  refine ⟨fun i m H => m = xs.length - i ∧ i ≤ xs.length ∧ Pv i H, ⟨xs.length, by simp, Nat.zero_le _, h0⟩, ?_⟩
  rintro i m H ⟨rfl, hi, p⟩
  have q := hl i H hi p
  by_cases lt : i < xs.length
  · refine .inr ⟨⟨xs, xs[i], q, by simp [lt]⟩, Pv (i + 1), fun H' p' => ⟨xs.length - (i + 1), by omega, rfl, lt, p'⟩, fun x H' y => ?_⟩
    obtain ⟨t, v, rfl, nt, rfl, hv⟩ := y
    exact hs i v t H (hv xs q) p nt
  · have e : i = xs.length := by omega
    subst e
    exact .inl ⟨⟨xs, q, Nat.le_refl _⟩, hd H p⟩
end CC
namespace CC
open PySem L2 TL
/-- a property of an own class: a field's value -/
structure Prp (P : Program) (w : World) (K : PySem.W.Frag) (mg : Str → Option Value) (base : Heap) (C : Addr) (f fld : Str) where
  p : Addr
  g : Addr
  fd : FuncData
  hp : PropOf K C f p g
  ok : ∀ k, 1 ≤ k → FnOk P w K mg base CX0 k g fd ["self"] (getSp C fld)
  b : Binds K fd ["self"] []
/-- a property, by its promise -/
structure PrpG (P : Program) (w : World) (K : PySem.W.Frag) (mg : Str → Option Value) (base : Heap) (C : Addr) (f : Str) (sp : Sp) where
  p : Addr
  g : Addr
  fd : FuncData
  hp : PropOf K C f p g
  ok : ∀ k, 1 ≤ k → FnOk P w K mg base CX0 k g fd ["self"] sp
  b : Binds K fd ["self"] []
end CC
namespace CC
open PySem L2
abbrev sPW : Stmt := inClass (tp 25) 1
abbrev sPR : Stmt := inClass (tp 25) 2
section
variable {P : Program} {w : World} {K : PySem.W.Frag} {mg : Str → Option Value} {base : Heap} {kA : Addr}
theorem scPW : FnScope ["self"] ["self"] (defScope sPW) := ⟨rfl, rfl, rfl, by decide +kernel, rfl, by decide +kernel, by decide +kernel⟩
theorem scPR : FnScope ["self"] ["self"] (defScope sPR) := ⟨rfl, rfl, rfl, by decide +kernel, rfl, by decide +kernel, by decide +kernel⟩
theorem ok_pw {f C : Addr} {fd : FuncData} {k : Nat} (F : Fun K "width" "Rules.width" sPW f fd) (TC : Txt1 K mg C) : FnOk P w K mg base CX0 (k + 1) f fd ["self"] (getSp C "span") := by
  refine F.ok scPW (fun vs H Q E h => ?_) (fun cdv A outer s H vs Q E hr h => ?_)
  · obtain ⟨a, dx, fs, v, rfl, _⟩ := h
    rfl
  · obtain ⟨a, dx, fs, v, rfl, ea, l, q⟩ := h
    exact ⟨_, pss_one (ps_ret (pe_fld (pv 0) rfl)), _, rfl, a, C, dx, fs, v, rfl, ea, TC.cl, TC.nS, l, q⟩
theorem ok_pr {f C : Addr} {fd : FuncData} {k : Nat} (F : Fun K "rules" "Rules.rules" sPR f fd) (TC : Txt1 K mg C) : FnOk P w K mg base CX0 (k + 1) f fd ["self"] (getSp C "given") := by
  refine F.ok scPR (fun vs H Q E h => ?_) (fun cdv A outer s H vs Q E hr h => ?_)
  · obtain ⟨a, dx, fs, v, rfl, _⟩ := h
    rfl
  · obtain ⟨a, dx, fs, v, rfl, ea, l, q⟩ := h
    exact ⟨_, pss_one (ps_ret (pe_fld (pv 0) rfl)), _, rfl, a, C, dx, fs, v, rfl, ea, TC.cl, TC.nG, l, q⟩
end
end CC
namespace CC
open PySem L2
def asgVal1 : Stmt → Expr
  | .Assign _ v _ => v
  | _ => .Constant .none 0 ⟨0, 0, 0, 0⟩
def lcSc1 : Expr → Scope
  | .ListComp _ _ sc _ => sc
  | _ => { kind := .function, names := [], isGenerator := false, isCoroutine := false }
abbrev sChk : Stmt := tp 27
def spChk (K : PySem.W.Frag) (C : Addr) : Sp := fun vs H Q _ => ∃ (x : Addr) (w : Nat) (rs : List R), vs = [.ref x] ∧ RulesAt K C H x w rs ∧ Q .non H
def MIs (M : Nat → Nat → Bool) (w : Nat) (ps : List (Nat × Nat)) : Prop := ∀ x y, x < w → y < w → (M x y = true ↔ Rch ps x y)
/-- a new tuple of groups -/
def NewG (K : PySem.W.Frag) (H : Hp) (w : Nat) (ps : List (Nat × Nat)) (Q : VK) : Prop := ∀ (v : V) (M : Nat → Nat → Bool) (H' : Hp), Same H H' → Dp K H' v (.tuple ((clsM M w).map gd)) → MIs M w ps → Q v H'
def spCls (K : PySem.W.Frag) : Sp := fun vs H Q _ => ∃ (w : Nat) (a : Addr) (us : List V) (ps : List (Nat × Nat)), vs = [.int (w : Int), .ref a] ∧ w ≤ 6 ∧ SqL K H a us ∧ DpAll K H us (ps.map prd) ∧ (∀ x ∈ ps, x.1 < w ∧ x.2 < w) ∧ ps.length ≤ 1000 ∧ NewG K H w ps Q
def spGrp (K : PySem.W.Frag) (C : Addr) : Sp := fun vs H Q _ => ∃ (x : Addr) (w : Nat) (rs : List R), vs = [.ref x] ∧ RulesAt K C H x w rs ∧ (∀ r ∈ rs, r.ok w) ∧ w ≤ 6 ∧ rs.length ≤ 60 ∧ NewG K H w (rs.map down) Q
theorem down_ltw {rs : List R} {w : Nat} (ho : ∀ r ∈ rs, r.ok w) : ∀ x ∈ rs.map down, x.1 < w ∧ x.2 < w := fun x hx => by
  obtain ⟨r, hr, rfl⟩ := List.mem_map.mp hx
  have := ho r hr
  unfold down
  cases r.k
  · exact ⟨this.2.1, this.1⟩
  · exact ⟨this.1, this.2.1⟩
section
variable {P : Program} {w : World} {K : PySem.W.Frag} {mg : Str → Option Value} {base : Heap} {kA : Addr}
theorem scChk : FnScope ["rules"] ["rules"] (defScope sChk) := ⟨rfl, rfl, rfl, by decide +kernel, rfl, by decide +kernel, by decide +kernel⟩
theorem ok_chk {f C : Addr} {fd : FuncData} {k : Nat} (F : Fun K "check_rules" "check_rules" sChk f fd) (T : Glb K mg kA) (TC : Txt1 K mg C) (ic : C8.InsC K C) : FnOk P w K mg base CX0 (k + 1) f fd ["rules"] (spChk K C) := by
  refine F.ok scChk (fun vs H Q E h => ?_) (fun cdv A outer s H vs Q E hr h => ?_)
  · obtain ⟨x, w, rs, rfl, _⟩ := h
    rfl
  · obtain ⟨x, w, rs, rfl, ⟨dx, g, us, h1, _, _⟩, q⟩ := h
    refine ⟨_, pss_one (ps_if (pt_not (pt_val (pe_callB (C8.call_isC ic) (by rfl) T.isi (by decide +kernel) (pa_cons (pv 0) (pa_cons (pe_glob (v := .ref C) rfl TC.mgC rfl) pa_nil))))) (pss_one ps_never) pss_nil), ?_⟩
    exact ⟨_, rfl, x, dx, _, rfl, h1, _, rfl, iteF q⟩
end
end CC
namespace GF
open PySem PySem.Spec PyProof.Rows L2
section
variable {M : Model} {A : Around} {R : GenEnd} {Y : Protocol} {n : Nat} {s₀ : Shared} {c : Code} {fs : List Frame} {s : Shared} {env : Env} {K : Flow → Sem PySem.Fin} {J : Value → Sem PySem.Fin} {gd : Bool → Bool} {lv : List Value → List Value}
theorem seg_For {tg iter : Expr} {body : List Stmt} {pos : Pos} (hs : ∀ x, foldedSetIterable iter env x = pure x)
    (h : wpAny M (A.over c fs) (eval iter env) (fun x s1 => wpAny M (A.over c fs) (pyIter x) (fun it s2 => ∀ p, Seg M A R Y n s₀ (.forLoop tg it body [] env) (M.den (.forLoop tg it body [] env)) (.ret (fun r => ((match r with | .ok f => (.pure f : Sem Flow) | .error e => .raise e).onRaise (cameBack env)).wrap K J gd lv) none (gd false) (lv []) c p [] :: fs) s2) (fun x s' => Seg M A R Y n s₀ c (J x) fs s') s1) (fun x s' => Seg M A R Y n s₀ c (J x) fs s') s) :
    Seg M A R Y n s₀ c ((exec (.For tg iter body [] pos) env).wrap K J gd lv) fs s := by
  rw [exec_For]
  show Seg M A R Y n s₀ c (.at pos fun _ => (eval iter env >>= fun v => (foldedSetIterable iter env v >>= fun x => (standAt iter.pos >>= fun _ => (holding [x] (pyIter x) >>= fun it => runOwn (.forLoop tg it body [] env) env)))).wrap K J gd lv) fs s
  refine seg_at ?_
  rw [Sem.bind_eq_wrap', Sem.wrap_wrap]
  refine seg_wrap (wpAny_mono h (fun x s1 h1 => ?_) fun _ _ z => z)
  rw [hs x]
  show Seg M A R Y n s₀ c (.at iter.pos fun _ => (holding [x] (pyIter x) >>= fun it => runOwn (.forLoop tg it body [] env) env).wrap K J (gd ∘ id) (lv ∘ id)) fs s1
  refine seg_at ?_
  rw [Sem.bind_eq_wrap', Sem.wrap_wrap]
  refine seg_wrap (wpAny_holding (wpAny_mono h1 (fun it s2 h2 => ?_) fun _ _ z => z))
  exact seg_call h2
end
section
variable {prog : Program} {w : World} {A : Around} {R : GenEnd} {Y : Protocol} {n : Nat} {s₀ : Shared} {fs : List Frame} {s : Shared} {env : Env}
/-- an exception within a loop's turn -/
abbrev Out (env : Env) (e : Value) : Sem PySem.Fin := (do noteFrame e env; theTreesLotGoes e : Sem Unit).wrap (fun _ => .raise e) .raise id id
abbrev Back (tg : Expr) (it : Value) (body : List Stmt) (env : Env) (f : Flow) : Sem PySem.Fin := match f with
  | .next | .cont => .pure (.again (.forLoop tg it body [] env))
  | .brk => .pure (.done .next)
  | .ret v => .pure (.done (.ret v))
theorem seg_forLoop {tg : Expr} {it : Value} {body : List Stmt}
    (h : wpAny (model prog w) (A.over (.forLoop tg it body [] env) fs) (pyNext it) (fun r s1 => match r with
        | none => Seg (model prog w) A R Y n s₀ (.block [] env) ((model prog w).den (.block [] env)) fs s1
        | some v => wpAny (model prog w) (A.over (.forLoop tg it body [] env) fs) (letOwnedTupleGo tg it v) (fun _ s2 =>
            wpAny (model prog w) (A.over (.forLoop tg it body [] env) fs) (assign tg env v) (fun _ s3 =>
              Seg (model prog w) A R Y n s₀ (.forLoop tg it body [] env) ((execs body env).wrap (Back tg it body env) (Out env) id id) fs s3)
              (fun x s' => Seg (model prog w) A R Y n s₀ (.forLoop tg it body [] env) (Out env x) fs s') s2)
            (fun x s' => Seg (model prog w) A R Y n s₀ (.forLoop tg it body [] env) (Out env x) fs s') s1)
      (fun x s' => Seg (model prog w) A R Y n s₀ (.forLoop tg it body [] env) (Out env x) fs s') s) :
    Seg (model prog w) A R Y n s₀ (.forLoop tg it body [] env) ((model prog w).den (.forLoop tg it body [] env)) fs s := by
  show Seg _ A R Y n s₀ _ ((forTurn tg it body [] env).onRaise (fun x => do noteFrame x env; theTreesLotGoes x)) fs s
  have eH : (fun e => ((do noteFrame e env; theTreesLotGoes e : Sem Unit).bind fun _ => (.raise e : Sem PySem.Fin))) = Out env := funext fun e => Sem.bind_eq_wrap _ _
  unfold forTurn
  rw [Sem.onRaise_eq_wrap, eH]
  refine seg_at ?_
  rw [Sem.bind_eq_wrap', Sem.onRaise_eq_wrap]
  show Seg _ A R Y n s₀ _ (Sem.wrap Sem.pure (Out env) id id (Sem.wrap _ Sem.raise id id (Sem.wrap Sem.pure _ id id (pyNext it)))) fs s
  rw [Sem.wrap_wrap, Sem.wrap_wrap]
  refine seg_wrap (wpAny_mono h (fun r s1 h1 => ?_) fun e s' h' => ?_)
  · cases r with
    | none => exact seg_again rfl h1
    | some v =>
      show Seg _ A R Y n s₀ _ (Sem.wrap Sem.pure (Out env) id id (letOwnedTupleGo tg it v >>= fun _ => (assign tg env v >>= fun _ => (execs body env >>= fun f => _)))) fs s1
      rw [Sem.bind_eq_wrap', Sem.wrap_wrap]
      refine seg_wrap (wpAny_mono h1 (fun _ s2 h2 => ?_) fun _ _ z => z)
      rw [Sem.bind_eq_wrap', Sem.wrap_wrap]
      refine seg_wrap (wpAny_mono h2 (fun _ s3 h3 => ?_) fun _ _ z => z)
      rw [Sem.bind_eq_wrap', Sem.wrap_wrap]
      refine Eq.mp (congrArg (fun z => Seg (model prog w) A R Y n s₀ (.forLoop tg it body [] env) z fs s3) (Sem.wrap_congr (execs body env) (K := Back tg it body env) (H := Out env) id id (fun f => ?_) (fun e => rfl))) h3
      cases f <;> rfl
  · exact seg_at h'
end
/-! ### for and if in a generator's body -/
def tGFor (wi : TI) (g : TG) (tb : TGn) : TGn := fun D ys σ H => wi σ H fun J H1 => ∃ W : Nat → Nat → List V → L2.St → Hp → Prop, (∃ m, W 0 m ys σ H1) ∧ ∀ i m ys σ H, W i m ys σ H →
  (J.stop i H ∧ D.nx ys σ H) ∨ (J.go i H ∧ ∃ N : List V → L2.St → Hp → Prop, (∀ ys' σ' H', N ys' σ' H' → ∃ m', m' < m ∧ W (i + 1) m' ys' σ' H') ∧ ∀ x H', J.yld i H x H' → g x σ H' fun σ2 H2 => tb { D with nx := N, ct := N, bk := D.nx } ys σ2 H2)
section
variable {X : Cx}
theorem gs_for {tg iter : Expr} {body : List Stmt} {wi : TI} {g : TG} {tb : TGn} {pos : Pos} (hp : PassesOwn (model X.prog X.w) X.A X.env X.xe) (hc : X.calm = true) (hi : PI X tg iter wi) (hg : PG X tg g) (hb : GSs X body tb)
    (hs : ∀ x, foldedSetIterable iter X.env x = pure x := by intro _; rfl) : GS X (.For tg iter body [] pos) (tGFor wi g tb) := by
  refine ⟨fun A S ip R n ys s₀ c fs K J gd lv s σ H D g1 hn k hI ht => ?_⟩
  obtain ⟨acc0, c0, r0, I0⟩ := hI
  refine seg_For hs ?_
  rw [g1.over]
  refine wpAny_mono (hi.run _ s σ H _ I0 ht) (fun v s1 h1 => wpAny_mono h1 (fun itv s2 h2 p => ?_) fun x s' hx => k.exc n s₀ x s' hx) fun x s' hx => k.exc n s₀ x s' hx
  obtain ⟨it, fp, tn, Jt, H2, e, I2, T, st2, f2, W, ⟨m0, w0⟩, turn⟩ := h2
  subst e
  -- the iterator's own objects lie apart from the consumer's list, whatever stands in it
  have stat : ∀ {acc : Array Value} {cc : Nat} {H' : Hp}, (∀ b ∈ fp, H' b = none) → ∀ b ∈ fp, FpOk X ((S, lstObj acc cc) :: ip) H' b := fun {acc cc H'} hz b hb => by
    obtain ⟨_, z1, z2, z3, z4, z5⟩ := f2 b hb
    refine ⟨hz b hb, z1, z2, z3, z4, fun q hq => ?_⟩
    rcases List.mem_append.mp hq with y | y
    · exact z5 q (List.mem_append_left _ y)
    · rcases List.mem_cons.mp y with y | y
      · rw [y]
        exact z5 (S, lstObj acc0 c0) (List.mem_append_right _ List.mem_cons_self)
      · exact z5 q (List.mem_append_right _ (List.mem_cons_of_mem _ y))
  have gl := fun (kk : Result → Sem PySem.Fin) => gc_loop (k := kk) (c' := .forLoop tg (.ref it) body [] X.env) (l := lv []) (kp := []) (p := p) g1 rfl rfl
  have loop : ∀ (m i n : Nat) (ys : List V) (s₀ s : Shared) (σ : L2.St) (H : Hp) (acc : Array Value) (cc : Nat), n + ys.length = sizeLine → W i m ys σ H → Vals ys acc.toList → Inv X ((S, lstObj acc cc) :: ip) σ H s → tn i s.heap → (∀ b ∈ fp, H b = none) →
      Seg (model X.prog X.w) A R (GY X S) n s₀ (.forLoop tg (.ref it) body [] X.env) ((model X.prog X.w).den (.forLoop tg (.ref it) body [] X.env))
        (.ret (fun r => ((match r with | .ok f => (.pure f : Sem Flow) | .error e => .raise e).onRaise (cameBack X.env)).wrap K J gd lv) none (gd false) (lv []) c p [] :: fs) s := by
    intro m
    induction m using Nat.strongRecOn with
    | ind m ih =>
      intro i n ys s₀ s σ H acc cc hn w r I st fr
      have ee : ∀ (n : Nat) (s₀ : Shared) (x : Value) (s' : Shared), X.xe x s' → Seg (model X.prog X.w) A R (GY X S) n s₀ (.forLoop tg (.ref it) body [] X.env) (Out X.env x)
          (.ret (fun r => ((match r with | .ok f => (.pure f : Sem Flow) | .error e => .raise e).onRaise (cameBack X.env)).wrap K J gd lv) none (gd false) (lv []) c p [] :: fs) s' := fun n s₀ x s' hx => by
        refine seg_wrap ?_
        rw [(gl _).over]
        exact wpAny_bind (wpAny_mono (hp x s' hx) (fun _ s2 hq => wpAny_theTreesLotGoes (seg_leaf (.error x) (seg_cameBack g1 k hq))) fun y s2 hq => seg_leaf (.error y) (seg_cameBack g1 k hq))
      refine seg_forLoop ?_
      rw [(gl _).over]
      rcases turn i m ys σ H w with ⟨stop, qn⟩ | ⟨go, N, hN, step⟩
      · refine wpAny_mono (T.done X rfl rfl rfl hc i _ s σ H X.xe I (stat fr) st stop) (fun q s4 z => ?_) fun x s' hx => ee n s₀ x s' hx
        obtain ⟨rfl, I4⟩ := z
        show Seg _ A R _ n s₀ _ (.pure (.done .next)) _ s4
        exact seg_leaf (.ok .next) (k.ok n ys s₀ s4 .next hn ⟨σ, H, ⟨acc, cc, r, I4⟩, qn⟩)
      · refine wpAny_mono (T.item X rfl rfl rfl hc i _ s σ H X.xe I (stat fr) st go) (fun q s4 z => ?_) fun x s' hx => ee n s₀ x s' hx
        obtain ⟨u, rfl, h4⟩ := z
        refine wpAny_mono h4 (fun _ s5 z => ?_) fun x s' hx => ee n s₀ x s' hx
        obtain ⟨x, H5, I5, r5, y5, st5, fr5⟩ := z
        have I5p := I5.pinned (stat fr5) (T.obj _ _ st5)
        refine wpAny_mono (hg.run _ s5 σ H5 x u _ I5p r5 (step x H5 y5)) (fun _ s6 z => ?_) fun x s' hx => ee n s₀ x s' hx
        obtain ⟨σ6, H6, I6, q6⟩ := z
        have gb : GC X S (ip ++ pinsAt fp s5.heap) A (.forLoop tg (.ref it) body [] X.env) (.ret (fun r => ((match r with | .ok f => (.pure f : Sem Flow) | .error e => .raise e).onRaise (cameBack X.env)).wrap K J gd lv) none (gd false) (lv []) c p [] :: fs) id := by
          obtain ⟨a1, a2, a3, a4, a5, a6, a7⟩ := gl (fun r => ((match r with | .ok f => (.pure f : Sem Flow) | .error e => .raise e).onRaise (cameBack X.env)).wrap K J gd lv)
          refine ⟨a1, fun q hq => ?_, a3, a4, a5, a6, a7⟩
          rcases List.mem_append.mp hq with y | y
          · exact a2 q y
          · obtain ⟨hb, _⟩ := of_pinsAt y
            obtain ⟨_, _, _, _, _, z5⟩ := f2 _ hb
            exact (z5 (S, lstObj acc0 c0) (List.mem_append_right _ List.mem_cons_self)).symm
        have back : ∀ {acc7 : Array Value} {c7 : Nat} {σ7 : L2.St} {H7 : Hp} {s7 : Shared}, Inv X ((S, lstObj acc7 c7) :: (ip ++ pinsAt fp s5.heap)) σ7 H7 s7 → Inv X ((S, lstObj acc7 c7) :: ip) σ7 H7 s7 ∧ tn (i + 1) s7.heap ∧ ∀ b ∈ fp, H7 b = none := fun {acc7 c7 σ7 H7 s7} I7 => by
          have pin : ∀ b ∈ fp, ∀ o, s5.heap.get? b = some o → s7.heap.get? b = some o ∧ H7 b = none := fun b hb o e => by
            have z := I7.pin (b, o) (List.mem_append_right _ (List.mem_cons_of_mem _ (List.mem_append_right _ (mem_pinsAt hb e))))
            exact ⟨z.1, z.2.1⟩
          refine ⟨Inv.unpinned (pins := (S, lstObj acc7 c7) :: ip) (pl := pinsAt fp s5.heap) I7, T.keep _ _ _ st5 fun b hb o e => (pin b hb o e).1, fun b hb => ?_⟩
          obtain ⟨o, e, _⟩ := T.obj _ _ st5 b hb
          exact (pin b hb o e).2
        refine hb.run A S (ip ++ pinsAt fp s5.heap) R n ys s₀ _ _ _ _ id id s6 σ6 H6 { D with nx := N, ct := N, bk := D.nx } gb hn ⟨fun n7 ys7 s07 s7 f hn7 z => ?_, fun n7 s07 x s7 hx => ee n7 s07 x s7 hx⟩ ⟨acc, cc, r, I6⟩ q6
        cases f with
        | next =>
          obtain ⟨σ7, H7, ⟨acc7, c7, r7, I7⟩, n7'⟩ := z
          obtain ⟨m', hm, w7⟩ := hN ys7 σ7 H7 n7'
          obtain ⟨b1, b2, b3⟩ := back I7
          exact seg_again rfl (ih m' hm (i + 1) n7 ys7 s07 s7 σ7 H7 acc7 c7 hn7 w7 r7 b1 b2 b3)
        | cont =>
          obtain ⟨σ7, H7, ⟨acc7, c7, r7, I7⟩, n7'⟩ := z
          obtain ⟨m', hm, w7⟩ := hN ys7 σ7 H7 n7'
          obtain ⟨b1, b2, b3⟩ := back I7
          exact seg_again rfl (ih m' hm (i + 1) n7 ys7 s07 s7 σ7 H7 acc7 c7 hn7 w7 r7 b1 b2 b3)
        | brk =>
          obtain ⟨σ7, H7, ⟨acc7, c7, r7, I7⟩, q7⟩ := z
          exact seg_leaf (.ok .next) (k.ok n7 ys7 s07 s7 .next hn7 ⟨σ7, H7, ⟨acc7, c7, r7, (back I7).1⟩, q7⟩)
        | ret v =>
          obtain ⟨x7, σ7, H7, ⟨acc7, c7, r7, I7⟩, rv, q7⟩ := z
          exact seg_leaf (.ok (.ret v)) (k.ok n7 ys7 s07 s7 (.ret v) hn7 ⟨x7, σ7, H7, ⟨acc7, c7, r7, (back I7).1⟩, rv, q7⟩)
  exact loop m0 0 n ys s₀ s2 σ H2 acc0 c0 hn w0 r0 I2 st2 fun b hb => (f2 b hb).1
def tGIf (tc : TT) (t u : TGn) : TGn := fun D ys σ H => tc σ H fun b H1 => if b = true then t D ys σ H1 else u D ys σ H1
theorem gs_if {test : Expr} {body orelse : List Stmt} {tc : TT} {t u : TGn} {pos : Pos} (hc : PT X test tc) (ha : GSs X body t) (hb : GSs X orelse u) : GS X (.If test body orelse pos) (tGIf tc t u) := by
  refine ⟨fun A S ip R n ys s₀ c fs K J gd lv s σ H D g1 hn k hI ht => ?_⟩
  obtain ⟨acc, cc, r, I⟩ := hI
  show Seg _ A R _ n s₀ c (.at pos fun _ => (isTrue test X.env (eval test X.env) >>= fun b => if b = true then execs body X.env else execs orelse X.env).wrap K J gd lv) fs s
  refine seg_at ?_
  rw [Sem.bind_eq_wrap', Sem.wrap_wrap]
  refine seg_wrap ?_
  rw [g1.over]
  refine wpAny_mono (hc.run _ s σ H _ I ht) (fun b s1 z => ?_) fun x s' hx => k.exc n s₀ x s' hx
  obtain ⟨H1, I1, q1⟩ := z
  cases b with
  | true =>
    rw [if_pos rfl] at q1
    exact ha.run A S ip R n ys s₀ c fs K J gd lv s1 σ H1 D g1 hn k ⟨acc, cc, r, I1⟩ q1
  | false =>
    rw [if_neg Bool.false_ne_true] at q1
    exact hb.run A S ip R n ys s₀ c fs K J gd lv s1 σ H1 D g1 hn k ⟨acc, cc, r, I1⟩ q1
end
end GF
namespace CC
open PySem L2 GF
/-- what follows, ascending -/
def folL (F : R → Bool) (w : Nat) : List R := (allR w).filter F
def FIs (F : R → Bool) (w : Nat) (rs : List R) : Prop := ∀ r, r.ok w → (F r = true ↔ Fol rs r)
theorem fol_congr {F G : R → Bool} {w : Nat} {rs : List R} (h1 : FIs F w rs) (h2 : FIs G w rs) : folL F w = folL G w := by
  unfold folL
  refine List.filter_congr fun r hr => ?_
  have ok := mem_allR.mp hr
  exact Bool.eq_iff_iff.mpr ((h1 r ok).trans (h2 r ok).symm)
theorem folL_mem {F : R → Bool} {w : Nat} {rs : List R} (h : FIs F w rs) {r : R} : r ∈ folL F w ↔ r.ok w ∧ Fol rs r := by
  unfold folL
  rw [List.mem_filter, mem_allR]
  exact ⟨fun z => ⟨z.1, (h r z.1).mp z.2⟩, fun z => ⟨z.1, (h r z.1).mpr z.2⟩⟩
def spFolG (K : PySem.W.Frag) (C : Addr) : SpG := fun vs H Q _ => ∃ (x : Addr) (w : Nat) (rs : List R), vs = [.ref x] ∧ RulesAt K C H x w rs ∧ (∀ r ∈ rs, r.ok w) ∧ w ≤ 6 ∧ rs.length ≤ 60 ∧ ∀ (us : List V) (F : R → Bool) (H' : Hp), Same H H' → DpAll K H' us ((folL F w).map R.d) → FIs F w rs → Q us H'
/-- a generator def that keeps a promise -/
structure CalY (P : Program) (w : World) (K : PySem.W.Frag) (mg : Str → Option Value) (base : Heap) (x : Str) (ps : List Str) (sp : SpG) (l : Nat) where
  f : Addr
  fd : FuncData
  ok : ∀ k, l ≤ k → GFn P w K mg base k f fd ps sp
  kp : PySem.W.keepIn K (.ref f) = true
  b : Binds K fd ps []
  g : mg x = some (.ref f)
def calY {P : Program} {w : World} {K : PySem.W.Frag} {mg : Str → Option Value} {base : Heap} {x : Str} {st : Stmt} {ps : List Str} {sp : SpG} {l : Nat} (d : Df K mg x st ps) (h : ∀ k, GFn P w K mg base (k + l) d.f d.fd ps sp) : CalY P w K mg base x ps sp l :=
  ⟨d.f, d.fd, fun k hk => (Nat.sub_add_cancel hk) ▸ h (k - l), d.F.kp, d.b, d.g⟩
theorem pass0X {X : Cx} : Passes (CX X.prog X.w) X E0 := fun _ _ _ _ _ _ _ h => by
  obtain ⟨_, _, _, _, _, _, _, _, _, _, _, _, z⟩ := h
  exact z.elim
theorem nostop0 {K : PySem.W.Frag} : NoStop K E0 := fun _ _ _ h => h.elim
theorem for_listG {K : PySem.W.Frag} {a : Addr} {xs : List V} {g : TG} {tb : TGn} {D : GEnds} {ys : List V} {σ : L2.St} {H : Hp} (Pv : Nat → List V → L2.St → Hp → Prop) (h0 : Pv 0 ys σ H) (hl : ∀ i ys σ H, i ≤ xs.length → Pv i ys σ H → SqL K H a xs)
    (hs : ∀ i x ys σ H, xs[i]? = some x → Pv i ys σ H → g x σ H fun σ2 H2 => tb { D with nx := Pv (i + 1), ct := Pv (i + 1), bk := D.nx } ys σ2 H2) (hd : ∀ ys σ H, Pv xs.length ys σ H → D.nx ys σ H) :
    ∃ W : Nat → Nat → List V → L2.St → Hp → Prop, (∃ m, W 0 m ys σ H) ∧ ∀ i m ys σ H, W i m ys σ H →
      ((Itl K a).stop i H ∧ D.nx ys σ H) ∨ ((Itl K a).go i H ∧ ∃ N : List V → L2.St → Hp → Prop, (∀ ys' σ' H', N ys' σ' H' → ∃ m', m' < m ∧ W (i + 1) m' ys' σ' H') ∧ ∀ x H', (Itl K a).yld i H x H' → g x σ H' fun σ2 H2 => tb { D with nx := N, ct := N, bk := D.nx } ys σ2 H2) := by
  refine ⟨fun i m ys σ H => m = xs.length - i ∧ i ≤ xs.length ∧ Pv i ys σ H, ⟨xs.length, by simp, Nat.zero_le _, h0⟩, ?_⟩
  rintro i m ys σ H ⟨rfl, hi, p⟩
  have q := hl i ys σ H hi p
  by_cases lt : i < xs.length
  · refine .inr ⟨⟨xs, xs[i], q, by simp [lt]⟩, Pv (i + 1), fun ys' σ' H' p' => ⟨xs.length - (i + 1), by omega, rfl, lt, p'⟩, fun x H' y => ?_⟩
    obtain ⟨e, y⟩ := y
    subst e
    exact hs i x ys σ _ (y xs q) p
  · have e : i = xs.length := by omega
    subst e
    exact .inl ⟨⟨xs, q, Nat.le_refl _⟩, hd ys σ H p⟩
theorem for_tupG {K : PySem.W.Frag} {a : Addr} {xs : List V} {g : TG} {tb : TGn} {D : GEnds} {ys : List V} {σ : L2.St} {H : Hp} (Pv : Nat → List V → L2.St → Hp → Prop) (h0 : Pv 0 ys σ H) (hl : ∀ i ys σ H, i ≤ xs.length → Pv i ys σ H → SqT K H a xs)
    (hs : ∀ i x ys σ H, xs[i]? = some x → Pv i ys σ H → g x σ H fun σ2 H2 => tb { D with nx := Pv (i + 1), ct := Pv (i + 1), bk := D.nx } ys σ2 H2) (hd : ∀ ys σ H, Pv xs.length ys σ H → D.nx ys σ H) :
    ∃ W : Nat → Nat → List V → L2.St → Hp → Prop, (∃ m, W 0 m ys σ H) ∧ ∀ i m ys σ H, W i m ys σ H →
      ((Itt K a).stop i H ∧ D.nx ys σ H) ∨ ((Itt K a).go i H ∧ ∃ N : List V → L2.St → Hp → Prop, (∀ ys' σ' H', N ys' σ' H' → ∃ m', m' < m ∧ W (i + 1) m' ys' σ' H') ∧ ∀ x H', (Itt K a).yld i H x H' → g x σ H' fun σ2 H2 => tb { D with nx := N, ct := N, bk := D.nx } ys σ2 H2) := by
  refine ⟨fun i m ys σ H => m = xs.length - i ∧ i ≤ xs.length ∧ Pv i ys σ H, ⟨xs.length, by simp, Nat.zero_le _, h0⟩, ?_⟩
  rintro i m ys σ H ⟨rfl, hi, p⟩
  have q := hl i ys σ H hi p
  by_cases lt : i < xs.length
  · refine .inr ⟨⟨xs, xs[i], q, by simp [lt]⟩, Pv (i + 1), fun ys' σ' H' p' => ⟨xs.length - (i + 1), by omega, rfl, lt, p'⟩, fun x H' y => ?_⟩
    obtain ⟨e, y⟩ := y
    subst e
    exact hs i x ys σ _ (y xs q) p
  · have e : i = xs.length := by omega
    subst e
    exact .inl ⟨⟨xs, q, Nat.le_refl _⟩, hd ys σ H p⟩
theorem for_rangeG {lo : Int} {n : Nat} {g : TG} {tb : TGn} {D : GEnds} {ys : List V} {σ : L2.St} {H : Hp} (Pv : Nat → List V → L2.St → Hp → Prop) (h0 : Pv 0 ys σ H)
    (hs : ∀ i ys σ H, i < n → Pv i ys σ H → g (.int (lo + i)) σ H fun σ2 H2 => tb { D with nx := Pv (i + 1), ct := Pv (i + 1), bk := D.nx } ys σ2 H2) (hd : ∀ ys σ H, Pv n ys σ H → D.nx ys σ H) :
    ∃ W : Nat → Nat → List V → L2.St → Hp → Prop, (∃ m, W 0 m ys σ H) ∧ ∀ i m ys σ H, W i m ys σ H →
      ((Itr lo n).stop i H ∧ D.nx ys σ H) ∨ ((Itr lo n).go i H ∧ ∃ N : List V → L2.St → Hp → Prop, (∀ ys' σ' H', N ys' σ' H' → ∃ m', m' < m ∧ W (i + 1) m' ys' σ' H') ∧ ∀ x H', (Itr lo n).yld i H x H' → g x σ H' fun σ2 H2 => tb { D with nx := N, ct := N, bk := D.nx } ys σ2 H2) := by
  refine ⟨fun i m ys σ H => m = n - i ∧ i ≤ n ∧ Pv i ys σ H, ⟨n, by simp, Nat.zero_le _, h0⟩, ?_⟩
  rintro i m ys σ H ⟨rfl, hi, p⟩
  by_cases lt : i < n
  · refine .inr ⟨lt, Pv (i + 1), fun ys' σ' H' p' => ⟨n - (i + 1), by omega, rfl, lt, p'⟩, fun x H' y => ?_⟩
    obtain ⟨e1, e2⟩ := y
    subst e1 e2
    exact hs i ys σ _ lt p
  · have e : i = n := by omega
    subst e
    exact .inl ⟨Nat.le_refl _, hd ys σ H p⟩
section
variable {P : Program} {w : World} {K : PySem.W.Frag} {mg : Str → Option Value} {base : Heap} {kA : Addr}
abbrev nFol : List Str := ["rules", "kind", "pairs", "a", "b"]
end
end CC
namespace CC
open PySem PySem.Spec PyProof.Rows L2
abbrev sAdd : Stmt := inClass (tp 25) 8
def spAdd (K : PySem.W.Frag) (C : Addr) : Sp := fun vs H Q _ => ∃ (x y : Addr) (w : Nat) (rs ts : List R), vs = [.ref x, .ref y] ∧ RulesAt K C H x w rs ∧ RulesAt K C H y w ts ∧ 1 ≤ w ∧ w ≤ 6 ∧ (∀ r ∈ rs, r.ok w) ∧ (∀ r ∈ ts, r.ok w) ∧ rs.Nodup ∧ ts.Nodup ∧
  ∀ (z : Addr) (H' : Hp), Same H H' → H z = none → RulesAt K C H' z w (addR rs ts) → Q (.ref z) H'
/-- rules + rules -/
structure AddR (P : Program) (w : World) (K : PySem.W.Frag) (mg : Str → Option Value) (base : Heap) (C : Addr) (l : Nat) where
  fA : Addr
  sf : PySem.W.selfFirst K C = true
  fi : PySem.W.findIn K (.ref C) "__add__" = some (some (.ref fA))
  fn : PySem.W.isFn K (.ref fA) = true
  ok : ∀ k, l ≤ k → FnR P w K mg base CX0 k fA (spAdd K C)
section
variable {P : Program} {w : World} {K : PySem.W.Frag} {mg : Str → Option Value} {base : Heap} {kA : Addr}
abbrev nAd : List Str := ["self", "other", "added", "joined", "rule"]
theorem scAdd : FnScope nAd ["self", "other"] (defScope sAdd) := ⟨rfl, rfl, rfl, by decide +kernel, rfl, by decide +kernel, by decide +kernel⟩
theorem ok_add {f C : Addr} {fd : FuncData} {k : Nat} (F : Fun K "__add__" "Rules.__add__" sAdd f fd) (T : Glb K mg kA) (TC : Txt1 K mg C) (ic : C8.InsC K C) (m : MakeR P w K mg base C 4) : FnOk P w K mg base CX0 (k + 6) f fd ["self", "other"] (spAdd K C) := by
  have GN := m.ok (k + 4) (by omega)
  refine F.ok scAdd (fun vs H Q E h => ?_) (fun cdv A outer s H vs Q E hr h => ?_)
  · obtain ⟨x, y, w, rs, ts, rfl, _⟩ := h
    rfl
  · obtain ⟨x, y, w, rs, ts, rfl, ⟨dx, g, us, h1, h2, h3⟩, ⟨dy, g', us', h1', h2', h3'⟩, w1, w6, ho, ho', nd, nd', q⟩ := h
    have n := scAdd.nd
    have hu65 : (A.deeper (PyProof.Rows.envOfC (Str.ofString "Rules.__add__") (defScope sAdd) s.heap.objs.size f cdv)).units + 65 < cLine := by
      have := hr.un
      omega
    refine ⟨_, (pss_cons (ps_if (pt_not (pt_val (pe_callB (C8.call_isC ic) (by rfl) T.isi (by decide +kernel) (pa_cons (pv 1) (pa_cons (pe_glob (v := .ref C) rfl TC.mgC rfl) pa_nil))))) (pss_one ps_never) pss_nil)
      (pss_cons (ps_if (pt_cmpR op_ne (pe_fld (pv 0) rfl) (pe_fld (pv 1) rfl) (nomark _)) (pss_one ps_never) pss_nil)
      (pss_cons (ps_setLc (i := 2) (own := [("rule", 4)]) (g := gName 4) (tt := tTest (tOp (rNotInDT K) (tVar 4) (tFld K (tVar 0) "given"))) rfl n rfl rfl (sw_true rfl rfl rfl (by decide +kernel)) (pi_tup (pe_fld (pv 1) rfl)) (blkOk_by (N := nAd) (sc := defScope sAdd) (by decide +kernel))
        (fun _ _ _ _ _ => (pg_name (i := 4) n rfl (.inl rfl))) (fun _ _ _ _ _ => pts_one (pt_cmpR (op_notInDT hu65) (pv 4) (pe_fld (pv 0) rfl) (by rfl))) (fun _ _ _ _ _ => (pv 4)))
      (pss_cons (ps_set (i := 3) n rfl (.inl rfl) (pe_lst (StX.pa_star (pe_fld (pv 0) rfl) (StX.pa_star (pv 2) pa_nil))))
      (pss_one (ps_ret (pe_makeRS m.M GN hr rfl TC.mgC pass0 (pa_cons (pe_fld (pv 0) rfl) (StX.pa_star (pv 3) pa_nil))))))))), ?_⟩
    have rl := few_rules w6 ho nd
    have rl' := few_rules w6 ho' nd'
    have ul : us.length = rs.length := by rw [dps_len h3, List.length_map]
    have ul' : us'.length = ts.length := by rw [dps_len h3', List.length_map]
    refine ⟨_, rfl, y, dy, _, rfl, h1', _, rfl, iteF ?_⟩
    refine ⟨_, rfl, x, C, dx, _, _, rfl, h1, TC.cl, TC.nS, flds_span _ _, _, rfl, y, C, dy, _, _, rfl, h1', TC.cl, TC.nS, flds_span _ _, rfl, _, rfl, ?_⟩
    rw [show (!decide (V.int (w : Int) = V.int (w : Int))) = false by simp]
    refine iteF ?_
    refine ⟨_, rfl, y, C, dy, _, _, rfl, h1', TC.cl, TC.nG, flds_given _ _, g', rfl, ⟨_, .inl (.inl h2')⟩, fun D nD => ?_⟩
    refine lc_tup (xs := us') (fun i H1 => MadeF R.d K H D i H1 ((ts.take i).filter fun t => !decide (t ∈ rs))) MadeF.start (fun i H1 _ z => .inl (.inl (z.old nD _ _ h2'))) ?_ ?_
    · rintro i v H1 hv mo
      obtain ⟨r, hr2, dr⟩ := dps_rat h3' hv
      have il : i < ts.length := (List.getElem?_eq_some_iff.mp hr2).1
      have o := mo.old nD
      obtain ⟨uo, _, hDo, _⟩ := id mo
      refine ⟨rfl, _, rfl, _, rfl, x, C, dx, _, _, rfl, o _ _ h1, TC.cl, TC.nG, flds_given _ _, r.d, rs.map R.d, dp_same o _ _ dr, .tup (.inl (.inl (o _ _ h2))) (dps_same o _ _ h3), rd_shaped _, rds_shaped _, _, rfl, ?_⟩
      rw [rds_any, SG.take_one hr2, List.filter_append]
      by_cases e : r ∈ rs
      · rw [decide_eq_true e, List.filter_cons_of_neg (by rw [decide_eq_true e]; decide), List.filter_nil, List.append_nil]
        exact iteF (mo.keep (Same.refl _) (by omega) rfl)
      · rw [decide_eq_false e, List.filter_cons_of_pos (by rw [decide_eq_false e]; rfl), List.filter_nil]
        refine iteT ⟨_, rfl, ?_⟩
        exact mo.push (r := r) (m := i + 1) (by omega) (Nat.lt_succ_self _) (Same.refl _) (rd_T ((same_T o).trans (wo_T hDo)) dr)
    rintro H1 mo
    have o := mo.old nD
    rw [ul', List.take_length] at mo
    obtain ⟨uo, _, hDo, dDo, ulo⟩ := mo
    refine ⟨_, rfl, x, C, dx, _, _, rfl, o _ _ h1, TC.cl, TC.nG, flds_given _ _, g, us, rfl, .inl (.inl (.inl (o _ _ h2))), _, rfl, D, uo, rfl, .inr (SqL.of hDo), ?_⟩
    refine ⟨?_, fun jo njo => ?_⟩
    · rw [List.append_nil, List.length_append]
      exact Nat.le_of_lt (small1000 (by omega))
    rw [List.append_nil]
    have s2 : Same H1 (upd H1 jo (.lst (us ++ uo))) := same_new njo
    have hjo : (upd H1 jo (.lst (us ++ uo))) jo = some (.lst (us ++ uo)) := upd_same
    have dj : DpAll K (upd H1 jo (.lst (us ++ uo))) (us ++ uo) ((addR rs ts).map R.d) := by
      unfold addR
      rw [List.map_append]
      exact dps_app (dps_same (o.trans s2) _ _ h3) (dps_same ((wo_le D).trans s2) _ _ dDo)
    generalize upd H1 jo (.lst (us ++ uo)) = H2 at s2 hjo dj
    have s02 : Same H H2 := o.trans s2
    have oka := addR_ok ho ho'
    have nda := addR_nodup nd nd'
    have rla := few_rules w6 oka nda
    have ula : (us ++ uo).length = (addR rs ts).length := by rw [dps_len dj, List.length_map]
    refine ⟨_, rfl, x, C, dx, _, _, rfl, s02 _ _ h1, TC.cl, TC.nS, flds_span _ _, _, rfl, jo, _, rfl, .inr (SqL.of hjo), fun z dz nz ndz ne => ?_⟩
    rw [List.append_nil]
    refine ⟨[.ref z, .int (w : Int)], us ++ uo, rfl, rfl, Nat.le_of_lt (small1000 (by omega)), fun t nt => ?_⟩
    have gx : z ≠ t := fun e => by rw [← e, upd_same] at nt; cases nt
    have gdx : dz ≠ t := fun e => by rw [← e, upd_ne ne, upd_same] at nt; cases nt
    have ng1 : H2 t = none := by
      rw [upd_ne gx.symm, upd_ne gdx.symm] at nt
      exact nt
    have keep : ∀ b o, H2 b = some o → (upd (upd (upd H2 dz (.own z)) z (.ins C dz [])) t (.tup (us ++ uo))) b = some o := fun b o e => by
      rw [upd_ne (ne_of_none e ng1), upd_ne (ne_of_none e nz), upd_ne (ne_of_none e ndz)]
      exact e
    refine ⟨z, dz, w, t, us ++ uo, addR rs ts, rfl, by rw [upd_ne gx]; exact upd_same, w1, w6, upd_same, dps_same ?_ _ _ dj, oka, nda, fun H' k1 k2 => ⟨rfl, q z H' ?_ ?_ ⟨dz, t, us ++ uo, k2, ?_, ?_⟩⟩⟩
    · exact fun b o e => by
        rw [wo_ne (ne_of_none e nz)]
        exact keep b o e
    · exact fun b o e => k1 b o (keep b o (s02 _ _ e)) (ne_of_none (s02 _ _ e) nz)
    · exact s02.free nz
    · exact k1 t _ upd_same gx.symm
    · refine dps_same (fun b o e => ?_) _ _ dj
      exact k1 b o (keep b o e) (ne_of_none e nz)
end
end CC
namespace CC
open PySem L2
section
variable {P : Program} {w : World} {K : PySem.W.Frag} {mg : Str → Option Value} {base : Heap} {kA : Addr}
abbrev nCl : List Str := ["width", "pairs", "ends", "mates", "column", "a", "b", "some"]
end
end CC
/-! a layer above the hand layer: defs that are called where nothing is being shown (no repr of a container is under way) -/
namespace GD
open PySem PySem.Spec PyProof.Rows L2
abbrev Calm (A : Around) : Prop := A.guards = some []
/-- a def's promise, where nothing is being shown -/
structure FnG (P : Program) (w : World) (K : PySem.W.Frag) (mg : Str → Option Value) (base : Heap) (CX : CXT) (k : Nat) (f : Addr) (fd : FuncData) (ps : List Str) (sp : Sp) : Prop where
  few : ∀ vs H Q E, sp vs H Q E → vs.length = ps.length
  goes : ∀ (A : Around) (out : List Env) (s : Shared) (H : Hp) (args : Args) (us : List Value) (vs : List V) (Q : VK) (E : XK), Calm A → Room k A → Env0 P w K mg base A out s H → BindsTo s fd args (ps.zip us) → Vals vs us → sp vs H Q E → codeAny (model P w) A (.call (.ref f) args) (CR CX out P w H s Q E) s
section
variable {P : Program} {w : World} {K : PySem.W.Frag} {mg : Str → Option Value} {base : Heap} {CX : CXT} {k : Nat} {f : Addr} {fd : FuncData} {ps : List Str} {sp : Sp}
theorem FnG.of (F : FnOk P w K mg base CX k f fd ps sp) : FnG P w K mg base CX k f fd ps sp := ⟨F.len, fun A out s H args us vs Q E _ hr e0 hb r h => F.run A out s H args us vs Q E hr e0 hb r h⟩
/-- the rule for a def by its body -/
theorem fun_okG {x q : Str} {st : Stmt} {N : List Str} (F : Fun K x q st f fd) (S : FnScope N ps (defScope st)) (few : ∀ vs H Q E, sp vs H Q E → vs.length = ps.length)
    (body : ∀ (cd : Value) (A : Around) (out : List Env) (s : Shared) (H : Hp) (vs : List V) (Q : VK) (E : XK), Calm (A.deeper (envOfC q (defScope st) s.heap.objs.size f cd)) → Room k (A.deeper (envOfC q (defScope st) s.heap.objs.size f cd)) → sp vs H Q E →
      ∃ t, PSs (cxOf CX0 P w K mg base N q (defScope st) f cd A out s H E).nox (defBody st) t ∧ t { nx := fun _ H' => Q .non H', rt := Q } (start N vs) H) : FnG P w K mg base CX0 (k + 1) f fd ps sp := by
  obtain ⟨oc, od, kV, doc, pm, an, cd, ct, osl, rfl, look, hcd⟩ := F.ex
  constructor
  · exact few
  intro A out s H args us vs Q E calm room e0 bound rel wish
  have keep : ∀ b o, base.get? b = some o → s.heap.get? b = some o := fun b o e => (e0.bs b o e).1
  have inK := e0.mod.kin.keeps keep
  have noL := e0.mod.nolimit.keeps keep
  have size := few _ _ _ _ wish
  refine codeAny_call_function room.depth (inK _ _ look) rfl S.co S.gen rfl (PySem.W.codeRec_of inK hcd) (bound _ _ _ _ ?_)
  refine wpAny_newFunctionEnv_cells S.kind (fun y hy => ?_) fun env he s1 x => ?_
  · rcases S.par y.1 (List.of_mem_zip hy).1 with z | z
    · exact .inl z
    · exact .inr ⟨z, PySem.W.cellsFrom_some _ _ _ (.inl z)⟩
  subst he
  refine ⟨noL.keeps x.toInCall.keep, codeAny_func ?_⟩
  obtain ⟨t, d, r⟩ := body cd A out s H vs Q E calm (room.deeper _) wish
  have J := inv_start (CX := CX0) (E := E) S room.hd e0 size rel x
  refine wpAny_mono (d.nox.run [] s1 (start N vs) H _ J r) (fun fl s2 z => ?_) fun _ _ z => z
  cases fl with
  | brk => exact z.elim fun _ z => z.elim fun _ z => z.2.elim
  | cont => exact z.elim fun _ z => z.elim fun _ z => z.2.elim
  | next =>
    obtain ⟨τ, H2, J2, q⟩ := z
    exact ⟨.non, H2, J2.os, J2.bare, J2.base, J2.hok, rfl, q⟩
  | ret u =>
    obtain ⟨v, τ, H2, J2, rv, q⟩ := z
    exact ⟨v, H2, J2.os, J2.bare, J2.base, J2.hok, rv, q⟩
end
section
variable {X : Cx} {CX : CXT} {k : Nat} {f : Addr} {fd : FuncData} {ps : List Str} {sp : Sp} {E : XK} {x : Str} {p pos : Pos} {e : Expr} {es : List Expr} {t : TA}
theorem pe_callG (F : FnG X.prog X.w X.K X.mg X.base CX k f fd ps sp) (calm : Calm X.A) (room : Room k X.A) (gl : Gl X x) (at_ : X.mg x = some (.ref f)) (kp : PySem.W.keepIn X.K (.ref f) = true) (b : Binds X.K fd ps []) (hx : Passes CX X E) (ha : PA X (e :: es) t)
    (hd : (x == ("__debug__" : Str)) = false := by decide) (h1 : starEach (e :: es) X.env = (false, eval e X.env) :: starEach es X.env := by rfl) (h2 : (backTo pos (starEach es X.env)).any (·.1) = false := by rfl) : PE X (.Call (.Name x p) (e :: es) [] pos) (tCall sp [] E t) := by
  constructor
  intro pins s σ H Q I h
  refine wpAny_Call_Name_kw (ld_glob I gl at_ (PySem.W.callWith_K (h₀ := X.base) I.ok.mod.kin kp (thn (ha.run pos pins s σ H _ I h) fun us s1 z => ?_) h1 h2) hd)
  obtain ⟨vs, H1, I1, r, q⟩ := z
  refine ⟨I1.kIn, ?_⟩
  rw [List.append_nil] at q
  have hl : us.length = ps.length := by
    rw [← r.length]
    exact F.few _ _ _ _ q
  have hb := b s1 us I1.kIn (by rw [List.append_nil]; exact hl)
  rw [List.append_nil] at hb
  refine wpAny_call (codeAny_mono (F.goes X.A X.stack s1 H1 ⟨us, []⟩ us vs Q E calm room I1.env0 hb r q) fun fin s2 z => ?_)
  match fin, z with
  | .error err, z => exact hx pins σ H1 s1 err s2 I1 z
  | .ok (.ret u), z => exact I1.after z
  | .ok .next, z => exact z.elim
  | .ok .brk, z => exact z.elim
  | .ok .cont, z => exact z.elim
/-- repr(x), x data -/
theorem call_reprD (calm : Calm X.A) (hu : X.A.units + 66 < cLine) : CallR X (.builtin "repr") (fun xs H Q => ∃ v d, xs = [v] ∧ Dp X.K H v d ∧ d.showable = true ∧ d.hasDict = false ∧ d.depth ≤ 64 ∧ d.shown.length ≤ sizeLine ∧ Q (.str d.shown) H) := by
  intro pins s σ H xs us Q I r h
  obtain ⟨v, d, rfl, hd, h1, h2, h3, h4, q⟩ := h
  obtain ⟨u, rfl, rv⟩ := vals1 r
  obtain ⟨as, rd⟩ := Dp.reads I d v u hd rv
  cases hd with
  | non =>
    cases rv
    exact PySem.P.repr_of_none ⟨.str _, H, I.tok _, ⟨_, rfl⟩, q⟩
  | bl b =>
    cases rv
    exact PySem.P.repr_of_bool ⟨.str _, H, I.tok _, ⟨_, rfl⟩, q⟩
  | int i =>
    obtain ⟨t, rfl⟩ := rv
    exact PySem.P.repr_of_int (by simpa [PyData.showable] using h1) ⟨.str _, H, I.tok _, ⟨_, rfl⟩, q⟩
  | str x =>
    obtain ⟨t, rfl⟩ := rv
    exact PySem.P.repr_of_str ⟨.str _, H, I.tok _, ⟨_, rfl⟩, q⟩ h4
  | lst hs ha =>
    cases rv
    exact repr_of_reads' rd h1 (PyData.noDict_hsm h2) calm (by omega) (fun _ _ e => e) (fun h' u tk hk => ⟨.str _, H, I.kept hk, ⟨_, rfl⟩, q⟩) h4
  | tup hs ha =>
    cases rv
    exact repr_of_reads' rd h1 (PyData.noDict_hsm h2) calm (by omega) (fun _ _ e => e) (fun h' u tk hk => ⟨.str _, H, I.kept hk, ⟨_, rfl⟩, q⟩) h4
end
/-- the law's call, at the heap behind the top -/
theorem law_callG {P : Program} {w : World} {K : PySem.W.Frag} {mg mb : Str → Option Value} {CX : CXT} {k : Nat} {fa a : Addr} {fd : FuncData} {x : Str} {sp : Sp} {s : Shared} {vs : List Value} {ns : List Int}
    (inK : K.In s.heap) (nsM : s.heap.Ns mainGlobals mg) (nsB : s.heap.Ns builtinsNs mb) (boot : ∀ x : Str, x ≠ "__name__" → mb x = bootBuiltins x) (noL : s.heap.NoLimit) (gens : s.gens = #[])
    (ha : s.heap.get? a = some { cls := .type "list", data := .seq vs.toArray }) (hin : IntsAre vs ns) (few : ns.length ≤ sizeLine) (room : Room k callerA)
    (F : ∀ base : Heap, K.In base → base.Ns mainGlobals mg → FnG P w K mg base CX k fa fd [x] sp) (bind : ∀ (s : Shared) (u : Value), BindsTo s fd ⟨[u], []⟩ [(x, u)])
    (wish : ∀ H : Hp, Only H → SqL K H a (ns.map V.int) → sp [.ref a] H (fun v _ => v = .bl true) fun _ _ _ => False) (noX : ∀ H e s', CX [] H s (fun _ _ _ => False) e s' → False) :
    codeAny (model P w) callerA (.call (.ref fa) ⟨[.ref a], []⟩) (fun r s' => r = .ok (.ret (.bool true)) ∧ OldK s.heap s'.heap ∧ s'.os = s.os ∧ AllBare s'.gens) s := by
  have go : ∀ H : Hp, Only H → SqL K H a (ns.map V.int) → HOk P w H s.heap → (∀ b, b ≠ a → H b = none) → (K.lookup a = none ∨ H a = none) →
      codeAny (model P w) callerA (.call (.ref fa) ⟨[.ref a], []⟩) (fun r s' => r = .ok (.ret (.bool true)) ∧ OldK s.heap s'.heap ∧ s'.os = s.os ∧ AllBare s'.gens) s := by
    intro H only sq hok off way
    have up : ∀ {b : Addr} {o : Obj}, s.heap.get? b = some o → H b = none → (hidT s.heap H).get? b = some o := fun e n => hidT_get e n
    have notA : ∀ {b : Addr} {o : Obj} {es : Array DictEntry} {n : Nat}, s.heap.get? b = some o → o.data = .dict es n → H b = none := fun {b o es n} e d => by
      by_cases z : b = a
      · rw [z, ha] at e
        cases e
        cases (show Data.seq vs.toArray _ = Data.dict es n from d)
      · exact off b z
    have lift : ∀ {b : Addr} {m : Str → Option Value}, s.heap.Ns b m → (hidT s.heap H).Ns b m := fun ⟨o, es, n, e, d, r⟩ => ⟨o, es, n, up e (notA e d), d, r⟩
    have inB : K.In (hidT s.heap H) := fun b o e => up (inK b o e) (by
      by_cases z : b = a
      · rcases way with z2 | z2
        · rw [z, z2] at e
          cases e
        · rw [z]
          exact z2
      · exact off b z)
    obtain ⟨mc, l1, l2⟩ := noL
    have e0 : Env0 P w K mg (hidT s.heap H) callerA [] s H := ⟨rfl, ⟨inB, lift nsM, ⟨mb, lift nsB, boot⟩, ⟨mc, lift l1, l2⟩⟩, fun _ _ e => of_hidT e, Nat.le_of_eq (hidT_size _ _), trivial, fun b z => (nomatch (show b ∈ ([] : List Addr) from z)), hok, .of_eq gens⟩
    refine codeAny_mono ((F _ inB (lift nsM)).goes callerA [] s H ⟨[.ref a], []⟩ [.ref a] [.ref a] _ _ rfl room e0 (bind s (.ref a)) (.cons rfl .nil) (wish H only sq)) fun fin s2 z => ?_
    match fin, z with
    | .error err, z => exact (noX H err s2 z).elim
    | .ok .next, z => exact z.elim
    | .ok .brk, z => exact z.elim
    | .ok .cont, z => exact z.elim
    | .ok (.ret u), ⟨v, H2, os, bare, un, hok2, rel, ev⟩ =>
      cases (show v = V.bl true from ev)
      cases (show u = Value.bool true from rel)
      refine ⟨rfl, OldK.of_keep fun b o e => ?_, os, bare⟩
      rcases only b with z | ⟨ob, xs, z⟩
      · exact un.keep b o e z (fun y => nomatch (show b ∈ ([] : List Addr) from y)) (fun y => nomatch y)
      · obtain ⟨e1, _⟩ := hok b _ z
        obtain ⟨e2, _⟩ := hok2 b _ (un.frzs b ob _ z)
        rw [e1] at e
        cases e
        exact e2
  have rel := vals_ints hin
  have lenV := hin.length
  cases look : K.lookup a with
  | some o =>
    have e := inK a o look
    rw [ha] at e
    cases e
    refine go (fun _ => none) (fun _ => .inl rfl) (.inr ⟨_, vs.toArray, _, look, rfl, rfl, rfl, ?_, ?_⟩) (fun b u z => nomatch (show (none : Option HO) = some u from z)) (fun _ _ => rfl) (.inr rfl)
    · rw [List.size_toArray, lenV]
      exact few
    · simpa using rel
  | none =>
    have one : (fun b => if b = a then some (HO.frz { cls := .type "list", data := .seq vs.toArray } (.lst (ns.map V.int))) else none) a = some (HO.frz { cls := .type "list", data := .seq vs.toArray } (.lst (ns.map V.int))) := if_pos rfl
    refine go (fun b => if b = a then some (.frz { cls := .type "list", data := .seq vs.toArray } (.lst (ns.map V.int))) else none) (fun b => ?_) (.inl (.inr ⟨_, one⟩)) (fun b u z => ?_) (fun b hb => if_neg hb) (.inl look)
    · by_cases hb : b = a
      · rw [hb]
        exact .inr ⟨_, _, one⟩
      · exact .inl (if_neg hb)
    · by_cases hb : b = a
      · subst hb
        have z2 := one.symm.trans z
        cases z2
        exact ⟨ha, by rw [List.length_map]; exact few, vs, _, rel, ha⟩
      · have z2 := (if_neg hb).symm.trans z
        cases z2
/-- the goal that k_head leaves, from the law's promise -/
theorem walk_ofG {l : PySem.W.OpenLaw} {n k : Nat} {q : Program} {loose : List Str} {XP : (Str → Option Value) → Heap → Prop} {YP : World → Heap → Prop} {d : DefRec} {K : Params → PySem.W.Frag} {CX : World → CXT} {sp : World → Sp} {x : Str}
    (most : l.most = some n) (few : n ≤ sizeLine) (plain : d.params.defaults = []) (room : Room k callerA) (hY : ∀ (w : World) (h : Heap), YP w h → (K w.params).In h)
    (F : ∀ (w : World) (mg : Str → Option Value) (fa : Addr) (h : Heap), (K w.params).In h → h.Ns mainGlobals mg → mg d.name = some (.ref fa) → ∃ fd : FuncData, (∀ (s : Shared) (u : Value), BindsTo s fd ⟨[u], []⟩ [(x, u)]) ∧ ∀ base : Heap, (K w.params).In base → base.Ns mainGlobals mg → FnG l.prog w (K w.params) mg base (CX w) k fa fd [x] (sp w))
    (wish : ∀ (w : World) (H : Hp) (a : Addr) (ns : List Int), ns.length ≤ n → Only H → SqL (K w.params) H a (ns.map V.int) → sp w [.ref a] H (fun v _ => v = .bl true) fun _ _ _ => False)
    (noX : ∀ (w : World) (H : Hp) (s : Shared) (e : Value) (s' : Shared), CX w [] H s (fun _ _ _ => False) e s' → False) : PySem.W.WalkO q loose XP YP l.row.toRowW d [] (fun f vs => PySem.call f vs) := by
  refine Att.attach_call most plain ?_
  intro w s₀ s mg mb fa o pm cd doc a vs ns G Y _ _ _ hmg hobj hin len gens
  have inK := hY w _ Y
  obtain ⟨fd, bind, ok⟩ := F w mg fa _ inK G.T.g hmg
  exact law_callG inK G.T.g G.T.b G.T.builtins G.T.nolimit gens hobj hin (Nat.le_trans len few) room ok bind (fun H h1 h2 => wish w H a ns len h1 h2) fun H e s' => noX w H s e s'
end GD
/-! data that may be shown and compared: weight at most m, depth at most n -/
namespace GD
open PySem L2
structure SD (m n : Nat) (d : PyData) : Prop where
  lay : d.canLay0 = true
  shw : d.showable = true
  lvs : d.leavesShort 13 = true
  dep : d.depth ≤ n
  wt : d.weight ≤ m
theorem SD.up {m n m' n' : Nat} {d : PyData} (h : SD m n d) (h1 : m ≤ m') (h2 : n ≤ n') : SD m' n' d := ⟨h.lay, h.shw, h.lvs, Nat.le_trans h.dep h2, Nat.le_trans h.wt h1⟩
theorem SD.non : SD 0 0 .none := ⟨by simp [PyData.canLay0], by simp [PyData.showable], by simp [PyData.leavesShort], by simp [PyData.depth], by simp [PyData.weight]⟩
theorem SD.bl (b : Bool) : SD 0 0 (.bool b) := ⟨by simp [PyData.canLay0], by simp [PyData.showable], by simp [PyData.leavesShort], by simp [PyData.depth], by simp [PyData.weight]⟩
theorem SD.nat {n : Nat} (hn : n < 1000000) : SD 20 0 (.int (n : Int)) := by
  have hl : n.log2 < 20 := by
    by_cases z : n = 0
    · subst z; decide
    · exact (Nat.log2_lt z).mpr (by omega)
  have hl2 : (n : Int).natAbs.log2 < 1920 := by
    rw [Int.natAbs_natCast]
    omega
  refine ⟨by simp [PyData.canLay0], ?_, ?_, by simp [PyData.depth], ?_⟩
  · unfold PyData.showable
    exact decide_eq_true hl2
  · unfold PyData.leavesShort
    refine decide_eq_true ?_
    show (Str.ofString (toString (n : Int))).length ≤ 13
    have e := int_text_length_le10 (a := (n : Int)) (k := 6) (by decide) (by rw [Int.natAbs_natCast]; exact hn)
    rw [ofString_length]
    omega
  · unfold PyData.weight
    rw [Int.natAbs_natCast]
    split <;> omega
theorem SD.int {i : Int} (h0 : 0 ≤ i) (h1 : i < 1000000) : SD 20 0 (.int i) := by
  obtain ⟨n, rfl⟩ : ∃ n : Nat, i = (n : Int) := ⟨i.toNat, by omega⟩
  exact SD.nat (by omega)
theorem SD.str {x : Str} {m : Nat} (h : PyData.strOk x = true) (hl : x.length ≤ m) (hc : ∀ c ∈ x.cps.toList, c < 16 ^ 8) : SD m 0 (.str x) := by
  refine ⟨by simp [PyData.canLay0, h], by simp [PyData.showable], ?_, by simp [PyData.depth], ?_⟩
  · simpa only [PyData.leavesShort, List.all_eq_true, decide_eq_true_eq] using hc
  · simp only [PyData.weight]
    exact hl
theorem SD.all {m n : Nat} : ∀ {ds : List PyData}, (∀ d ∈ ds, SD m n d) → PyData.canLayAll0 ds = true ∧ PyData.showableAll ds = true ∧ PyData.leavesShortAll 13 ds = true ∧ PyData.depthAll ds ≤ n ∧ PyData.weightAll ds ≤ ds.length * (m + 1)
  | [], _ => by simp [PyData.canLayAll0, PyData.showableAll, PyData.leavesShortAll, PyData.depthAll, PyData.weightAll]
  | d :: ds, h => by
    have h1 := h d List.mem_cons_self
    obtain ⟨a1, a2, a3, a4, a5⟩ := SD.all (ds := ds) fun e he => h e (List.mem_cons_of_mem _ he)
    have := h1.dep
    have := h1.wt
    refine ⟨?_, ?_, ?_, ?_, ?_⟩
    · simp [PyData.canLayAll0, h1.lay, a1]
    · simp [PyData.showableAll, h1.shw, a2]
    · simp [PyData.leavesShortAll, h1.lvs, a3]
    · simp only [PyData.depthAll]; omega
    · simp only [PyData.weightAll, List.length_cons, Nat.add_mul]; omega
theorem SD.list {m n k : Nat} {ds : List PyData} (h : ∀ d ∈ ds, SD m n d) (hk : ds.length ≤ k) : SD (k * (m + 1)) (n + 1) (.list ds) := by
  obtain ⟨a1, a2, a3, a4, a5⟩ := SD.all h
  have : ds.length * (m + 1) ≤ k * (m + 1) := Nat.mul_le_mul_right _ hk
  refine ⟨by simp [PyData.canLay0, a1], by simp [PyData.showable, a2], by simp [PyData.leavesShort, a3], ?_, ?_⟩
  · simp only [PyData.depth]; omega
  · simp only [PyData.weight]; omega
theorem SD.tuple {m n k : Nat} {ds : List PyData} (h : ∀ d ∈ ds, SD m n d) (hk : ds.length ≤ k) : SD (k * (m + 1)) (n + 1) (.tuple ds) := by
  obtain ⟨a1, a2, a3, a4, a5⟩ := SD.all h
  have : ds.length * (m + 1) ≤ k * (m + 1) := Nat.mul_le_mul_right _ hk
  refine ⟨by simp [PyData.canLay0, a1], by simp [PyData.showable, a2], by simp [PyData.leavesShort, a3], ?_, ?_⟩
  · simp only [PyData.depth]; omega
  · simp only [PyData.weight]; omega
theorem SD.shaped {m n : Nat} {d : PyData} (h : SD m n d) (hn : n ≤ 64) : SeqAt.shaped d = true := by
  show (d.canLay0 && decide (d.depth ≤ 64)) = true
  rw [h.lay, Bool.true_and]
  exact decide_eq_true (Nat.le_trans h.dep hn)
theorem SD.fits {m n : Nat} {d : PyData} (h : SD m n d) (hm : m ≤ 2 ^ 20) : d.shown.length ≤ sizeLine := PyData.shown_fits (B := 13) (by decide) (by decide) h.lvs (Nat.le_trans h.wt hm)
theorem SD.nodict {m n : Nat} {d : PyData} (h : SD m n d) : d.hasDict = false := PyData.hasDict_of_canLay d h.lay
end GD
namespace GD
open PySem L2 CC
/-- a def that keeps a promise where nothing is being shown -/
structure CalG (P : Program) (w : World) (K : PySem.W.Frag) (mg : Str → Option Value) (base : Heap) (x : Str) (ps : List Str) (sp : Sp) (l : Nat) where
  f : Addr
  fd : FuncData
  ok : ∀ k, l ≤ k → FnG P w K mg base CX0 k f fd ps sp
  kp : PySem.W.keepIn K (.ref f) = true
  b : Binds K fd ps []
  g : mg x = some (.ref f)
def calG {P : Program} {w : World} {K : PySem.W.Frag} {mg : Str → Option Value} {base : Heap} {x : Str} {st : Stmt} {ps : List Str} {sp : Sp} {l : Nat} (d : Df K mg x st ps) (h : ∀ k, FnG P w K mg base CX0 (k + l) d.f d.fd ps sp) : CalG P w K mg base x ps sp l :=
  ⟨d.f, d.fd, fun k hk => (Nat.sub_add_cancel hk) ▸ h (k - l), d.F.kp, d.b, d.g⟩
/-- two values that are the same data -/
def spEqD (K : PySem.W.Frag) : Sp := fun vs H Q _ => ∃ (v u : V) (d : PyData), vs = [v, u] ∧ Dp K H v d ∧ Dp K H u d ∧ SD 1000000 64 d ∧ Q (.bl true) H
theorem hu66 {k : Nat} {A : Around} (hr : Room k A) : A.units + 66 < cLine := by
  have := hr.un
  omega
end GD
namespace CC
open PySem L2
theorem sd_r {w : Nat} {r : R} (hw : w ≤ 6) (h : r.ok w) : GD.SD 63 1 r.d := by
  refine GD.SD.tuple (m := 20) (n := 0) (k := 3) (fun d hd => ?_) (by show 3 ≤ 3; decide)
  have h1 := h.1
  have h2 := h.2.1
  rcases List.mem_cons.mp hd with rfl | hd
  · cases r.k
    · exact GD.SD.str (by decide +kernel) (by decide +kernel) (by decide +kernel)
    · exact GD.SD.str (by decide +kernel) (by decide +kernel) (by decide +kernel)
  · rcases List.mem_cons.mp hd with rfl | hd
    · exact GD.SD.nat (by omega)
    · rcases List.mem_cons.mp hd with rfl | hd
      · exact GD.SD.nat (by omega)
      · cases hd
theorem sd_rs {w : Nat} {rs : List R} (hw : w ≤ 6) (ho : ∀ r ∈ rs, r.ok w) (hl : rs.length ≤ 60) : GD.SD 3840 2 (.list (rs.map R.d)) :=
  GD.SD.list (m := 63) (n := 1) (k := 60) (fun d hd => by
    obtain ⟨r, hr, rfl⟩ := List.mem_map.mp hd
    exact sd_r hw (ho r hr)) (by rw [List.length_map]; exact hl)
theorem eqvAll_rs : ∀ m l : List R, PyData.eqvAll (m.map R.d) (l.map R.d) = decide (m = l)
  | [], [] => by simp [PyData.eqvAll]
  | [], _ :: _ => by simp [PyData.eqvAll]
  | _ :: _, [] => by simp [PyData.eqvAll]
  | x :: m, y :: l => by
    simp only [List.map_cons, PyData.eqvAll, eqvAll_rs m l, rd_eqv]
    by_cases h : x = y
    · subst h
      simp
    · simp [h]
theorem rs_eqv (m l : List R) : PyData.eqv (.list (m.map R.d)) (.list (l.map R.d)) = decide (m = l) := by
  simp only [PyData.eqv]
  exact eqvAll_rs m l
theorem RulesAt.ran {K : PySem.W.Frag} {C : Addr} {H H' : Hp} {x s : Addr} {w : Nat} {rs : List R} (h : RulesAt K C H x w rs) (hs : Src H s) (r : Ran H H' s) (T : SameT H H') : RulesAt K C H' x w rs := by
  obtain ⟨o, hs1, a, b, c, rfl, _⟩ := hs
  obtain ⟨dx, g, us, h1, h2, h3⟩ := h
  exact ⟨dx, g, us, r.at_ h1 (ne_of h1 hs1 (by intro z; cases z)), r.at_ h2 (ne_of h2 hs1 (by intro z; cases z)), rds_T T h3⟩
end CC
namespace CC
open PySem L2 TL
theorem Ran.T {H H' : Hp} {s : Addr} (r : Ran H H' s) (h : Src H s) : SameT H H' := by
  obtain ⟨o, h1, a, b, c, rfl, _⟩ := h
  constructor
  · intro x xs e
    exact r.at_ e (ne_of e h1 (by intro z; cases z))
  · intro x o xs e
    exact r.at_ e (ne_of e h1 (by intro z; cases z))
theorem cut_from (xs : List V) (n : Nat) : cutV xs (some (n : Int)) none = xs.drop n := by
  unfold cutV
  rw [HT.sIx_nat, HT.sIx_none]
  by_cases h : n ≤ xs.length
  · rw [Nat.min_eq_left h]
    exact List.take_of_length_le (by rw [List.length_drop]; exact Nat.le_refl _)
  · rw [Nat.min_eq_right (by omega), List.drop_eq_nil_of_le (Nat.le_refl _), List.drop_eq_nil_of_le (by omega)]
    simp
theorem cut_to (xs : List V) (n : Nat) : cutV xs none (some (n : Int)) = xs.take n := by
  unfold cutV
  rw [HT.sIx_nat, HT.sIx_none, List.drop_zero, Nat.sub_zero]
  by_cases h : n ≤ xs.length
  · rw [Nat.min_eq_left h]
  · rw [Nat.min_eq_right (by omega), List.take_of_length_le (Nat.le_refl _), List.take_of_length_le (by omega)]
theorem rot_nodup {α : Type} {l : List α} (h : l.Nodup) (n : Nat) : (l.drop n ++ l.take n).Nodup := by
  have p : (l.drop n ++ l.take n).Perm l := by
    have := (List.perm_append_comm : (l.drop n ++ l.take n).Perm (l.take n ++ l.drop n))
    rw [List.take_append_drop] at this
    exact this
  exact p.nodup_iff.mpr h
theorem rot_mem {α : Type} {l : List α} {n : Nat} {x : α} (h : x ∈ l.drop n ++ l.take n) : x ∈ l := by
  rcases List.mem_append.mp h with z | z
  · exact List.mem_of_mem_drop z
  · exact List.mem_of_mem_take z
theorem MadeF.woT {α : Type} {f : α → PyData} {K : PySem.W.Frag} {H0 H : Hp} {D : Addr} {n : Nat} {rs : List α} (p : MadeF f K H0 D n H rs) : SameT H (wo H D) := by
  obtain ⟨us, _, h, _⟩ := p
  exact wo_T h
end CC
namespace CC
open PySem L2 TL
def Given (K : PySem.W.Frag) (H : Hp) (g : Addr) (w : Nat) (rs : List R) : Prop := ∃ us, SqL K H g us ∧ DpAll K H us (rs.map R.d) ∧ (∀ r ∈ rs, r.ok w) ∧ rs.Nodup ∧ 1 ≤ w ∧ w ≤ 6
def spList (K : PySem.W.Frag) (C : Addr) : Sp := fun vs H Q _ => ∃ (w : Nat) (g : Addr) (rs : List R), vs = [.int (w : Int), .ref g] ∧ Given K H g w rs ∧ ∀ (x : Addr) (H' : Hp), Same H H' → H x = none → RulesAt K C H' x w rs → Q (.ref x) H'
def lineP (r : R) : Str := num r.a ++ " " ++ kd r.k ++ " " ++ num r.b ++ "\n"
theorem lineP_eq (r : R) : lineP r = lineS r ++ "\n" := by
  refine ext_tl ?_
  unfold lineP lineS
  simp only [tl_app]
  rw [show tl Str.empty = [] by rfl, List.nil_append]
theorem lens2_all : ((allR 6).all fun r => decide ((num r.a).length ≤ 20) && decide ((num r.a ++ " ").length ≤ 20) && decide ((num r.a ++ " " ++ kd r.k).length ≤ 20) && decide ((num r.a ++ " " ++ kd r.k ++ " ").length ≤ 20) && decide ((num r.a ++ " " ++ kd r.k ++ " " ++ num r.b).length ≤ 20) && decide ((num r.b).length ≤ 20) && decide ((kd r.k).length ≤ 20)) = true := by decide +kernel
end CC
namespace CC
open PySem L2
theorem folL_ok {F : R → Bool} {w : Nat} : ∀ r ∈ folL F w, r.ok w := fun r hr => mem_allR.mp (List.mem_filter.mp hr).1
theorem folL_nodup {F : R → Bool} {w : Nat} (hw : w ≤ 6) : (folL F w).Nodup := (allR_nodup hw).filter _
end CC
/-! ### what follows from what follows -/
namespace CC
open PySem L2
section
variable {rs ts : List R} {k : Bool} {x y a b : Nat} {r t : R}
def Dr (k : Bool) (D : List (Nat × Nat)) (x y : Nat) : Prop := if k then Rch D x y else Rch D y x
theorem Dr.trans {D : List (Nat × Nat)} {c : Nat} (h1 : Dr k D a b) (h2 : Dr k D b c) : Dr k D a c := by
  cases k
  · exact Rch.trans (show Rch D c b from h2) (show Rch D b a from h1)
  · exact Rch.trans (show Rch D a b from h1) (show Rch D b c from h2)
theorem rch_one {D : List (Nat × Nat)} (h : (x, y) ∈ D) : Rch D x y := Rch.refl.step h
theorem lk_dr (h : Lk rs k x y) : Dr k (rs.map down) x y := by
  rcases h with h | ⟨_, h1, h2⟩
  · have m : down ⟨k, x, y⟩ ∈ rs.map down := List.mem_map_of_mem h
    cases k
    · exact rch_one m
    · exact rch_one m
  · cases k
    · exact h2
    · exact h1
theorem rt_dr (h : RT (Lk rs k) a b) : Dr k (rs.map down) a b := by
  induction h with
  | refl => cases k <;> exact Rch.refl
  | step _ l ih => exact ih.trans (lk_dr l)
theorem lk_turn (h : Lk rs k x y) (h1 : Dr k (rs.map down) x y) (h2 : Dr k (rs.map down) y x) : Lk rs k y x := by
  rcases h with h | ⟨h, _, _⟩
  · cases k
    · exact .inr ⟨h, h1, h2⟩
    · exact .inr ⟨h, h2, h1⟩
  · exact .inl h
theorem rt_turn (h : RT (Lk rs k) a b) : Dr k (rs.map down) b a → RT (Lk rs k) b a := by
  induction h with
  | refl => exact fun _ => .refl
  | @step b c p l ih =>
    intro q
    have l1 := lk_dr l
    have p1 := rt_dr p
    exact (RT.refl.step (lk_turn l l1 (q.trans p1))).trans (ih (l1.trans q))
theorem fol_self (h : r ∈ rs) : Fol rs r := RT.refl.step (.inl h)
theorem down_eq (r : R) : Dr r.k (rs.map down) r.a r.b ↔ Rch (rs.map down) (down r).1 (down r).2 := by
  obtain ⟨k, a, b⟩ := r
  cases k <;> exact Iff.rfl
theorem rch_sub (h : ∀ t ∈ ts, Fol rs t) (q : Rch (ts.map down) x y) : Rch (rs.map down) x y := by
  induction q with
  | refl => exact .refl
  | step _ m ih =>
    obtain ⟨t, ht, e⟩ := List.mem_map.mp m
    have z := (down_eq t).mp (rt_dr (h t ht))
    rw [e] at z
    exact ih.trans z
theorem rch_monoR (h : ∀ r ∈ rs, r ∈ ts) (q : Rch (rs.map down) x y) : Rch (ts.map down) x y := q.mono fun z hz => by
  obtain ⟨t, ht, rfl⟩ := List.mem_map.mp hz
  exact List.mem_map_of_mem (h t ht)
theorem rt_mono (h : ∀ r ∈ rs, r ∈ ts) (q : RT (Lk rs k) a b) : RT (Lk ts k) a b := by
  induction q with
  | refl => exact .refl
  | step _ l ih =>
    refine ih.step ?_
    rcases l with l | ⟨l, l1, l2⟩
    · exact .inl (h _ l)
    · exact .inr ⟨h _ l, rch_monoR h l1, rch_monoR h l2⟩
theorem fol_mono (h : ∀ r ∈ rs, r ∈ ts) (q : Fol rs r) : Fol ts r := rt_mono h q
theorem rt_sub (h : ∀ t ∈ ts, Fol rs t) (q : RT (Lk ts k) a b) : RT (Lk rs k) a b := by
  induction q with
  | refl => exact .refl
  | step _ l ih =>
    refine ih.trans ?_
    rcases l with l | ⟨l, l1, l2⟩
    · exact h _ l
    · refine rt_turn (h _ l) ?_
      have e1 := rch_sub h l1
      have e2 := rch_sub h l2
      show Dr k (rs.map down) _ _
      cases k
      · exact e2
      · exact e1
theorem fol_sub (h : ∀ t ∈ ts, Fol rs t) (q : Fol ts r) : Fol rs r := rt_sub h q
theorem fol_same (h1 : ∀ r ∈ rs, r ∈ ts) (h2 : ∀ t ∈ ts, Fol rs t) : Fol ts r ↔ Fol rs r := ⟨fol_sub h2, fol_mono h1⟩
theorem mis_same {M : Nat → Nat → Bool} {w : Nat} (h1 : ∀ r ∈ rs, r ∈ ts) (h2 : ∀ t ∈ ts, Fol rs t) (h : MIs M w (ts.map down)) : MIs M w (rs.map down) := fun x y hx hy => (h x y hx hy).trans ⟨rch_sub h2, rch_monoR h1⟩
theorem fis_same {F : R → Bool} {w : Nat} (h1 : ∀ r ∈ rs, r ∈ ts) (h2 : ∀ t ∈ ts, Fol rs t) (h : FIs F w ts) : FIs F w rs := fun r hr => (h r hr).trans (fol_same h1 h2)
end
end CC
namespace CC
open PySem L2 TL
/-! ### least -/
abbrev sLea : Stmt := tp 28
def noR (ls : List R) (r : R) : List R := ls.filter fun x => !decide (x = r)
open Classical in
noncomputable def stepL (ls : List R) (r : R) : List R := if Fol (noR ls r) r then noR ls r else ls
noncomputable def lastL (rs : List R) : Nat → List R
  | 0 => rs
  | i + 1 => stepL (lastL rs i) (rs.reverse.getD i ⟨true, 0, 0⟩)
noncomputable def leastL (rs : List R) : List R := lastL rs rs.length
section
variable {rs ls : List R} {r t : R} {w : Nat}
theorem noR_mem : t ∈ noR ls r ↔ t ∈ ls ∧ t ≠ r := by
  unfold noR
  rw [List.mem_filter]
  simp
theorem noR_sub : (noR ls r).Sublist ls := List.filter_sublist
theorem stepL_sub : (stepL ls r).Sublist ls := by
  classical
  unfold stepL
  split
  · exact noR_sub
  · exact List.Sublist.refl _
theorem lastL_sub : ∀ i, (lastL rs i).Sublist rs
  | 0 => List.Sublist.refl _
  | i + 1 => stepL_sub.trans (lastL_sub i)
theorem stepL_fol (r t : R) : Fol (stepL ls r) t ↔ Fol ls t := by
  classical
  unfold stepL
  split
  · rename_i h
    refine ⟨fol_mono fun x hx => (noR_mem.mp hx).1, fol_sub fun x hx => ?_⟩
    by_cases e : x = r
    · rw [e]
      exact h
    · exact fol_self (noR_mem.mpr ⟨hx, e⟩)
  · exact Iff.rfl
theorem lastL_fol : ∀ i t, Fol (lastL rs i) t ↔ Fol rs t
  | 0, _ => Iff.rfl
  | i + 1, t => (stepL_fol _ t).trans (lastL_fol i t)
theorem least_sub : (leastL rs).Sublist rs := lastL_sub _
theorem least_fol (t : R) : Fol (leastL rs) t ↔ Fol rs t := lastL_fol _ t
theorem stepL_min (h : r ∈ stepL ls r) : ¬ Fol (noR (stepL ls r) r) r := by
  classical
  unfold stepL at h ⊢
  split
  · rename_i c
    rw [if_pos c] at h
    exact ((noR_mem.mp h).2 rfl).elim
  · rename_i c
    exact c
theorem lastL_min : ∀ i, i ≤ rs.length → ∀ j, j < i → ∀ r, rs.reverse[j]? = some r → r ∈ lastL rs i → ¬ Fol (noR (lastL rs i) r) r
  | 0, _, j, h, _, _, _ => absurd h (Nat.not_lt_zero _)
  | i + 1, hi, j, h, r, hr, hm => by
    by_cases e : j = i
    · subst e
      have e : rs.reverse.getD j ⟨true, 0, 0⟩ = r := by
        rw [List.getD_eq_getElem?_getD, hr]
        rfl
      show ¬ Fol (noR (stepL (lastL rs j) (rs.reverse.getD j ⟨true, 0, 0⟩)) r) r
      have hm : r ∈ stepL (lastL rs j) (rs.reverse.getD j ⟨true, 0, 0⟩) := hm
      rw [e] at hm ⊢
      exact stepL_min hm
    · have sub : ∀ x ∈ lastL rs (i + 1), x ∈ lastL rs i := fun x hx => stepL_sub.subset hx
      have ih := lastL_min i (by omega) j (by omega) r hr (sub r hm)
      exact fun z => ih (fol_mono (fun x hx => noR_mem.mpr ⟨sub x (noR_mem.mp hx).1, (noR_mem.mp hx).2⟩) z)
theorem least_min (h : r ∈ leastL rs) : ¬ Fol (noR (leastL rs) r) r := by
  have m : r ∈ rs.reverse := List.mem_reverse.mpr (least_sub.subset h)
  obtain ⟨j, hj⟩ := List.mem_iff_getElem?.mp m
  have jl := (List.getElem?_eq_some_iff.mp hj).1
  rw [List.length_reverse] at jl
  exact lastL_min rs.length (Nat.le_refl _) j jl r hj h
theorem lastL_stays (h : ∀ r ∈ rs, ¬ Fol (noR rs r) r) : ∀ i, i ≤ rs.length → lastL rs i = rs
  | 0, _ => rfl
  | i + 1, hi => by
    classical
    have ih := lastL_stays h i (by omega)
    show stepL (lastL rs i) _ = rs
    rw [ih]
    have il : i < rs.reverse.length := by
      rw [List.length_reverse]
      omega
    have m : rs.reverse.getD i ⟨true, 0, 0⟩ ∈ rs := by
      rw [List.getD_eq_getElem?_getD, List.getElem?_eq_getElem il]
      exact List.mem_reverse.mp (List.getElem_mem il)
    unfold stepL
    rw [if_neg (h _ m)]
theorem least_least : leastL (leastL rs) = leastL rs := lastL_stays (fun r h => least_min h) _ (Nat.le_refl _)
end
def spLea (K : PySem.W.Frag) (C : Addr) : Sp := fun vs H Q _ => ∃ (x : Addr) (w : Nat) (rs : List R), vs = [.ref x] ∧ RulesAt K C H x w rs ∧ (∀ r ∈ rs, r.ok w) ∧ rs.Nodup ∧ 1 ≤ w ∧ w ≤ 6 ∧ ∀ (z : Addr) (H' : Hp), Same H H' → H z = none → RulesAt K C H' z w (leastL rs) → Q (.ref z) H'
section
variable {P : Program} {w : World} {K : PySem.W.Frag} {mg : Str → Option Value} {base : Heap} {kA : Addr}
abbrev nLea : List Str := ["rules", "left", "rule", "others", "other"]
theorem scLea : FnScope nLea ["rules"] (defScope sLea) := ⟨rfl, rfl, rfl, by decide +kernel, rfl, by decide +kernel, by decide +kernel⟩
theorem ok_lea {f C : Addr} {fd : FuncData} {k : Nat} (F : Fun K "least" "least" sLea f fd) (T : Glb K mg kA) (TC : Txt1 K mg C) (pW : Prp P w K mg base C "width" "span") (pR : Prp P w K mg base C "rules" "given") (m : MakeR P w K mg base C 4) (cK : Cal P w K mg base "check_rules" ["rules"] (spChk K C) 1)
    (cF : Cal P w K mg base "follows" ["width", "rules", "rule"] (spFollows2 K) 4) : FnOk P w K mg base CX0 (k + 6) f fd ["rules"] (spLea K C) := by
  have GK := cK.ok (k + 5) (by omega)
  have GF := cF.ok (k + 5) (by omega)
  have GN := m.ok (k + 4) (by omega)
  refine F.ok scLea (fun vs H Q E h => ?_) (fun cdv A outer s H vs Q E hr h => ?_)
  · obtain ⟨x, w, rs, rfl, _⟩ := h
    rfl
  · obtain ⟨x, m', rs, rfl, ra, ho, nd, w1, w6, q⟩ := h
    obtain ⟨dx, g, us, h1, h2, h3⟩ := id ra
    have n := scLea.nd
    have hu64 : (A.deeper (PyProof.Rows.envOfC (Str.ofString "least") (defScope sLea) s.heap.objs.size f cdv)).units + 64 < cLine := by
      have := hr.un
      omega
    refine ⟨_, (pss_cons (ps_expr (pe_call GK hr rfl cK.g cK.kp cK.b .nil pass0 (pa_cons (pv 0) pa_nil)))
      (pss_cons (ps_set (i := 1) n rfl (.inl rfl) (pe_callTy call_list_of (by rfl) T.lst (by decide +kernel) (pa_cons (pe_prop (pv 0) TC.cl pR.hp (pR.ok (k + 4) (by omega)) hr pR.b .nil pass0 rfl) pa_nil)))
      (pss_cons (ps_for PassesOwn.never rfl (show PI _ _ _ (RT.iRevA K _) from RT.pi_revA (by rfl) T.rev (pe_prop (pv 0) TC.cl pR.hp (pR.ok (k + 4) (by omega)) hr pR.b .nil pass0 rfl)) (pg_name (i := 2) n rfl (.inr rfl))
        (pss_cons (ps_setLc (i := 3) (own := [("other", 4)]) (g := gName 4) (tt := tTest (tOp (rNeD K) (tVar 4) (tVar 2))) rfl n rfl rfl (sw_true rfl rfl rfl (by decide +kernel)) (pi_list (pv 1)) (blkOk_by (N := nLea) (sc := defScope sLea) (by decide +kernel))
        (fun _ _ _ _ _ => (pg_name (i := 4) n rfl (.inl rfl))) (fun _ _ _ _ _ => pts_one (pt_cmpR (op_neD hu64) (pv 4) (pv 2) (nomark _))) (fun _ _ _ _ _ => (pv 4)))
        (pss_one (ps_if (pt_val (pe_call GF hr rfl cF.g cF.kp cF.b .nil pass0 (pa_cons (pe_prop (pv 0) TC.cl pW.hp (pW.ok (k + 4) (by omega)) hr pW.b .nil pass0 rfl) (pa_cons (pv 3) (pa_cons (pv 2) pa_nil)))))
          (pss_one (ps_set (i := 1) n rfl (.inl rfl) (pv 3)))
          pss_nil))))
      (pss_one (ps_ret (pe_makeRS m.M GN hr rfl TC.mgC pass0 (pa_cons (pe_prop (pv 0) TC.cl pW.hp (pW.ok (k + 4) (by omega)) hr pW.b .nil pass0 rfl) (StX.pa_star (pv 1) pa_nil)))))))), ?_⟩
    have rl := few_rules w6 ho nd
    have ul : us.length = rs.length := by rw [dps_len h3, List.length_map]
    refine ⟨_, rfl, x, m', rs, rfl, ra, ?_⟩
    refine ⟨_, rfl, x, dx, _, rfl, h1, x, dx, _, _, rfl, h1, flds_given _ _, g, us, rfl, .inr (.inl (.inl h2)), fun pl npl => ?_⟩
    have s1 : Same H (upd H pl (.lst us)) := same_new npl
    have hpl : (upd H pl (.lst us)) pl = some (.lst us) := upd_same
    generalize upd H pl (.lst us) = H1 at s1 hpl
    have ra1 := ra.same s1
    obtain ⟨dx1, g1, us1, i1, i2, i3⟩ := id ra1
    have ul1 : us1.length = rs.length := by rw [dps_len i3, List.length_map]
    refine ⟨_, rfl, x, dx1, _, rfl, i1, x, dx1, _, _, rfl, i1, flds_given _ _, g1, us1, rfl, .inr ⟨.inl (.inl i2), ?_⟩⟩
    refine RT.for_ItvT (xs := us1) (fun i σ H' => ∃ (pl' : Addr) (ul' : List V) (y2 y3 : Option V), σ = [some (.ref x), some (.ref pl'), y2, y3, none] ∧ Same H1 H' ∧ H' pl' = some (.lst ul') ∧ DpAll K H' ul' ((lastL rs i).map R.d)) ⟨pl, us, none, none, rfl, Same.refl _, hpl, dps_same s1 _ _ h3⟩ (fun i σ H' ⟨_, _, _, _, _, e, _⟩ => .inl (.inl (e _ _ i2))) ?_ ?_
    · rintro i v σ H' hi hv ⟨pl', ul', y2, y3, rfl, e', hpl', dl'⟩
      obtain ⟨r, hr2, dr⟩ := dps_rat i3 hv
      have er : rs.reverse.getD i ⟨true, 0, 0⟩ = r := by
        rw [List.getD_eq_getElem?_getD, List.getElem?_reverse (by omega), show rs.length - 1 - i = us1.length - 1 - i by rw [ul1], hr2]
        rfl
      have rm := List.mem_of_getElem? hr2
      have sub := lastL_sub (rs := rs) i
      have okl : ∀ t ∈ lastL rs i, t.ok m' := fun t ht => ho t (sub.subset ht)
      have lenl : (lastL rs i).length ≤ 60 := Nat.le_trans sub.length_le rl
      have ull : ul'.length = (lastL rs i).length := by rw [dps_len dl', List.length_map]
      have dr' := dp_same e' _ _ dr
      refine ⟨_, rfl, pl', rfl, ⟨_, SqL.of hpl'⟩, fun D nD => ?_⟩
      refine lc_list (xs := ul') (fun j H2 => MadeF R.d K H' D j H2 (((lastL rs i).take j).filter fun x => !decide (x = r))) MadeF.start (fun j H2 _ z => SqL.of (z.old nD _ _ hpl')) ?_ ?_
      · rintro j v2 H2 hv2 mo
        obtain ⟨r2, hr3, dr2⟩ := dps_rat dl' hv2
        have il : j < (lastL rs i).length := (List.getElem?_eq_some_iff.mp hr3).1
        have o := mo.old nD
        obtain ⟨uo2, _, hDo2, _⟩ := id mo
        refine ⟨rfl, _, rfl, _, rfl, r2.d, r.d, dp_same o _ _ dr2, dp_same o _ _ dr', rd_shaped _, rd_shaped _, _, rfl, ?_⟩
        rw [rd_eqv, SG.take_one hr3, List.filter_append]
        by_cases e : r2 = r
        · rw [decide_eq_true e, List.filter_cons_of_neg (p := fun x => !decide (x = r)) (by rw [decide_eq_true e]; decide), List.filter_nil, List.append_nil]
          exact iteF (mo.keep (Same.refl _) (by omega) rfl)
        · rw [decide_eq_false e, List.filter_cons_of_pos (p := fun x => !decide (x = r)) (by rw [decide_eq_false e]; rfl), List.filter_nil]
          refine iteT ⟨_, rfl, ?_⟩
          exact mo.push (r := r2) (m := j + 1) (by omega) (Nat.lt_succ_self _) (Same.refl _) (rd_T ((same_T o).trans (wo_T hDo2)) dr2)
      rintro H2 mo
      have o2 := mo.old nD
      rw [ull, List.take_length] at mo
      obtain ⟨uo2, _, hDo2, dDo2, ulo2⟩ := mo
      have e2 := e'.trans o2
      have dD2 : DpAll K H2 uo2 ((noR (lastL rs i) r).map R.d) := dps_same (wo_le D) _ _ dDo2
      have okn : ∀ t ∈ noR (lastL rs i) r, t.ok m' := fun t ht => okl t (noR_mem.mp ht).1
      have lenn : (noR (lastL rs i) r).length ≤ 60 := Nat.le_trans noR_sub.length_le lenl
      refine ⟨_, rfl, x, dx1, _, rfl, e2 _ _ i1, x, dx1, _, _, rfl, e2 _ _ i1, flds_span _ _, _, rfl, _, rfl, .inr ⟨m', D, uo2, noR (lastL rs i) r, v, r, rfl, SqL.of hDo2, dD2, okn, w6, lenn, dp_same o2 _ _ dr', ho r rm, fun b H3 s3 hb => ⟨_, rfl, ?_⟩⟩⟩
      have e3 := e2.trans s3
      have stp : lastL rs (i + 1) = stepL (lastL rs i) r := by
        show stepL (lastL rs i) (rs.reverse.getD i ⟨true, 0, 0⟩) = _
        rw [er]
      rw [stp]
      cases b with
      | true =>
        refine iteT ⟨_, rfl, D, uo2, _, _, rfl, e3, s3 _ _ hDo2, ?_⟩
        unfold stepL
        rw [if_pos (hb.mp rfl)]
        exact dps_same s3 _ _ dD2
      | false =>
        refine iteF ⟨pl', ul', _, _, rfl, e3, s3 _ _ (o2 _ _ hpl'), ?_⟩
        unfold stepL
        rw [if_neg fun z => Bool.false_ne_true (hb.mpr z)]
        exact dps_same (o2.trans s3) _ _ dl'
    · rintro σ H' ⟨pl', ul', y2, y3, rfl, e', hpl', dl'⟩
      rw [ul1] at dl'
      have sub := least_sub (rs := rs)
      have okl : ∀ t ∈ leastL rs, t.ok m' := fun t ht => ho t (sub.subset ht)
      have ndl : (leastL rs).Nodup := nd.sublist sub
      refine ⟨_, rfl, x, dx1, _, rfl, e' _ _ i1, x, dx1, _, _, rfl, e' _ _ i1, flds_span _ _, _, rfl, pl', ul', rfl, .inr (SqL.of hpl'), fun z dz nz ndz ne => ?_⟩
      rw [List.append_nil]
      have dl' : DpAll K H' ul' ((leastL rs).map R.d) := dl'
      have ull : ul'.length = (leastL rs).length := by rw [dps_len dl', List.length_map]
      have lenl := few_rules w6 okl ndl
      refine ⟨[.ref z, .int (m' : Int)], ul', rfl, rfl, Nat.le_of_lt (small1000 (by omega)), fun t nt => ?_⟩
      have gx : z ≠ t := fun e => by rw [← e, upd_same] at nt; cases nt
      have gdx : dz ≠ t := fun e => by rw [← e, upd_ne ne, upd_same] at nt; cases nt
      have ng1 : H' t = none := by
        rw [upd_ne gx.symm, upd_ne gdx.symm] at nt
        exact nt
      have keep : ∀ b o, H' b = some o → (upd (upd (upd H' dz (.own z)) z (.ins C dz [])) t (.tup ul')) b = some o := fun b o e => by
        rw [upd_ne (ne_of_none e ng1), upd_ne (ne_of_none e nz), upd_ne (ne_of_none e ndz)]
        exact e
      have s02 := s1.trans e'
      refine ⟨z, dz, m', t, ul', leastL rs, rfl, by rw [upd_ne gx]; exact upd_same, w1, w6, upd_same, dps_same ?_ _ _ dl', okl, ndl, fun H2 k1 k2 => ⟨rfl, q z H2 ?_ ?_ ⟨dz, t, ul', k2, ?_, ?_⟩⟩⟩
      · exact fun b o e => by
          rw [wo_ne (ne_of_none e nz)]
          exact keep b o e
      · exact fun b o e => k1 b o (keep b o (s02 _ _ e)) (ne_of_none (s02 _ _ e) nz)
      · exact s02.free nz
      · exact k1 t _ upd_same gx.symm
      · refine dps_same (fun b o e => ?_) _ _ dl'
        exact k1 b o (keep b o e) (ne_of_none e nz)
end
end CC
namespace CC
open PySem L2
/-! ### reaching by way of the first columns -/
def Via (ps : List (Nat × Nat)) : Nat → Nat → Nat → Prop
  | 0, a, b => a = b ∨ (a, b) ∈ ps
  | m + 1, a, b => Via ps m a b ∨ (Via ps m a m ∧ Via ps m m b)
theorem via_rch {ps : List (Nat × Nat)} : ∀ {m a b : Nat}, Via ps m a b → Rch ps a b
  | 0, a, b, h => by
    rcases h with rfl | h
    · exact .refl
    · exact Rch.refl.step h
  | m + 1, a, b, h => by
    rcases h with h | ⟨h1, h2⟩
    · exact via_rch h
    · exact (via_rch h1).trans (via_rch h2)
theorem via_trans {ps : List (Nat × Nat)} : ∀ {m a b c : Nat}, c < m → Via ps m a c → Via ps m c b → Via ps m a b
  | 0, _, _, _, h, _, _ => absurd h (Nat.not_lt_zero _)
  | m + 1, a, b, c, h, h1, h2 => by
    by_cases e : c = m
    · subst e
      have h3 : Via ps c a c := by
        rcases h1 with z | z
        · exact z
        · exact z.1
      have h4 : Via ps c c b := by
        rcases h2 with z | z
        · exact z
        · exact z.2
      exact .inr ⟨h3, h4⟩
    · have lt : c < m := by omega
      rcases h1 with x | ⟨x1, x2⟩
      · rcases h2 with y | ⟨y1, y2⟩
        · exact .inl (via_trans lt x y)
        · exact .inr ⟨via_trans lt x y1, y2⟩
      · rcases h2 with y | ⟨y1, y2⟩
        · exact .inr ⟨x1, via_trans lt x2 y⟩
        · exact .inr ⟨x1, y2⟩
theorem via_up {ps : List (Nat × Nat)} {a b : Nat} (h : Via ps 0 a b) : ∀ m, Via ps m a b
  | 0 => h
  | m + 1 => .inl (via_up h m)
theorem rch_via {ps : List (Nat × Nat)} {w a b : Nat} (hp : ∀ x ∈ ps, x.1 < w ∧ x.2 < w) (h : Rch ps a b) : Via ps w a b := by
  induction h with
  | refl => exact via_up (.inl rfl) w
  | step _ q ih => exact via_trans (hp _ q).1 ih (via_up (.inr q) w)
/-- what is known while the lists of lists are gone through -/
structure FlW (ps : List (Nat × Nat)) (w m i j : Nat) (M : Nat → Nat → Bool) : Prop where
  snd : ∀ a b, M a b = true → Rch ps a b
  cmp : ∀ a b, a < w → b < w → Via ps m a b → M a b = true
  rows : ∀ a b, a < i → b < w → Via ps (m + 1) a b → M a b = true
  cols : ∀ b, b < j → Via ps (m + 1) i b → M i b = true
def put1 (M : Nat → Nat → Bool) (a b : Nat) : Nat → Nat → Bool := fun x y => if x = a ∧ y = b then true else M x y
theorem put1_le {M : Nat → Nat → Bool} {a b x y : Nat} (h : M x y = true) : put1 M a b x y = true := by
  unfold put1
  split
  · rfl
  · exact h
theorem FlW.hit {ps : List (Nat × Nat)} {w m i j : Nat} {M : Nat → Nat → Bool} (f : FlW ps w m i j M) (h1 : M i m = true) (h2 : M m j = true) : FlW ps w m i (j + 1) (put1 M i j) where
  snd := fun a b h => by
    unfold put1 at h
    by_cases e : a = i ∧ b = j
    · rw [e.1, e.2]
      exact (f.snd _ _ h1).trans (f.snd _ _ h2)
    · rw [if_neg e] at h
      exact f.snd a b h
  cmp := fun a b ha hb v => put1_le (f.cmp a b ha hb v)
  rows := fun a b ha hb v => put1_le (f.rows a b ha hb v)
  cols := fun b hb v => by
    by_cases e : b = j
    · subst e
      unfold put1
      rw [if_pos ⟨rfl, rfl⟩]
    · exact put1_le (f.cols b (by omega) v)
theorem FlW.miss {ps : List (Nat × Nat)} {w m i j : Nat} {M : Nat → Nat → Bool} (f : FlW ps w m i j M) (hi : i < w) (hj : j < w) (hm : m < w) (h : ¬ (M i m = true ∧ M m j = true)) : FlW ps w m i (j + 1) M where
  snd := f.snd
  cmp := f.cmp
  rows := f.rows
  cols := fun b hb v => by
    by_cases e : b = j
    · subst e
      rcases v with v | ⟨v1, v2⟩
      · exact f.cmp _ _ hi hj v
      · exact absurd ⟨f.cmp _ _ hi hm v1, f.cmp _ _ hm hj v2⟩ h
    · exact f.cols b (by omega) v
theorem FlW.nextRow {ps : List (Nat × Nat)} {w m i : Nat} {M : Nat → Nat → Bool} (f : FlW ps w m i w M) : FlW ps w m (i + 1) 0 M where
  snd := f.snd
  cmp := f.cmp
  rows := fun a b ha hb v => by
    by_cases e : a = i
    · subst e
      exact f.cols b hb v
    · exact f.rows a b (by omega) hb v
  cols := fun b hb => absurd hb (Nat.not_lt_zero _)
theorem FlW.nextMid {ps : List (Nat × Nat)} {w m : Nat} {M : Nat → Nat → Bool} (f : FlW ps w m w 0 M) : FlW ps w (m + 1) 0 0 M where
  snd := f.snd
  cmp := fun a b ha hb v => f.rows a b ha hb v
  rows := fun a b ha => absurd ha (Nat.not_lt_zero _)
  cols := fun b hb => absurd hb (Nat.not_lt_zero _)
/-! ### a list of lists of truths -/
def brow (w : Nat) (m : Nat → Bool) : List V := (List.range w).map fun b => V.bl (m b)
theorem brow_len (w : Nat) (m : Nat → Bool) : (brow w m).length = w := by rw [brow, List.length_map, List.length_range]
theorem brow_at {w b : Nat} {m : Nat → Bool} (h : b < w) : (brow w m)[b]? = some (.bl (m b)) := by
  rw [brow, List.getElem?_map, List.getElem?_range h]
  rfl
theorem brow_set {w b : Nat} {m : Nat → Bool} (h : b < w) : (brow w m).set b (.bl true) = brow w (fun y => if y = b then true else m y) := by
  refine List.ext_getElem? fun i => ?_
  by_cases hi : i < w
  · rw [brow_at hi]
    by_cases e : i = b
    · subst e
      rw [List.getElem?_set_self (by rw [brow_len]; exact h), if_pos rfl]
    · rw [List.getElem?_set_ne (fun z => e z.symm), brow_at hi, if_neg e]
  · rw [List.getElem?_eq_none (by rw [List.length_set, brow_len]; omega), List.getElem?_eq_none (by rw [brow_len]; omega)]
structure Mat (H0 H : Hp) (fo : Addr) (rows : List Addr) (w : Nat) (M : Nat → Nat → Bool) : Prop where
  same : Same H0 H
  new : H0 fo = none
  top : H fo = some (.lst (rows.map V.ref))
  len : rows.length = w
  nd : rows.Nodup
  off : fo ∉ rows
  row : ∀ (a : Nat) r, rows[a]? = some r → H r = some (.lst (brow w (M a))) ∧ H0 r = none
theorem Mat.put {H0 H : Hp} {fo : Addr} {rows : List Addr} {w : Nat} {M : Nat → Nat → Bool} (m : Mat H0 H fo rows w M) {a b : Nat} {r : Addr} (ha : rows[a]? = some r) (hb : b < w) : Mat H0 (upd H r (.lst ((brow w (M a)).set b (.bl true)))) fo rows w (put1 M a b) := by
  have rm : r ∈ rows := List.mem_of_getElem? ha
  refine ⟨same_mut m.same (m.row a r ha).2, m.new, ?_, m.len, m.nd, m.off, fun x s hx => ⟨?_, (m.row x s hx).2⟩⟩
  · rw [upd_ne (fun e => m.off (by rw [e]; exact rm))]
    exact m.top
  · by_cases e : x = a
    · subst e
      rw [ha] at hx
      cases hx
      rw [upd_same, brow_set hb]
      congr 3
      funext y
      unfold put1
      simp
    · have ne : s ≠ r := fun z => by
        subst z
        exact e (nd_ix m.nd hx ha)
      rw [upd_ne ne, (m.row x s hx).1]
      congr 3
      funext y
      unfold put1
      simp [e]
theorem Mat.at_ {H0 H : Hp} {fo : Addr} {rows : List Addr} {w : Nat} {M : Nat → Nat → Bool} (m : Mat H0 H fo rows w M) {a : Nat} (ha : a < w) : ∃ r, rows[a]? = some r ∧ (rows.map V.ref)[a]? = some (.ref r) ∧ H r = some (.lst (brow w (M a))) := by
  have h : a < rows.length := by rw [m.len]; exact ha
  have e := List.getElem?_eq_getElem h
  exact ⟨_, e, by rw [List.getElem?_map, e]; rfl, (m.row a _ e).1⟩
abbrev sDowns : Stmt := tp 38
def spDowns (K : PySem.W.Frag) : Sp := fun vs H Q _ => ∃ (g : Addr) (us : List V) (rs : List R), vs = [.ref g] ∧ SqL K H g us ∧ DpAll K H us (rs.map R.d) ∧ rs.length ≤ 60 ∧ NewF prd K H (rs.map down) Q
abbrev sReach : Stmt := tp 37
def asgVal : Stmt → Expr
  | .Assign _ v _ => v
  | _ => .Constant .none 0 ⟨0, 0, 0, 0⟩
def lcSc : Expr → Scope
  | .ListComp _ _ sc _ => sc
  | _ => { kind := .function, names := [], isGenerator := false, isCoroutine := false }
abbrev scRe0 : Scope := lcSc (asgVal ((defBody sReach).getD 0 (.Pass ⟨0, 0, 0, 0⟩)))
/-- the answer: read only -/
structure MatR (K : PySem.W.Frag) (H : Hp) (p : Addr) (w : Nat) (M : Nat → Nat → Bool) : Prop where
  ex : ∃ rows : List Addr, SqL K H p (rows.map V.ref) ∧ rows.length = w ∧ ∀ (a : Nat) r, rows[a]? = some r → SqL K H r (brow w (M a))
theorem MatR.same {K : PySem.W.Frag} {H H' : Hp} {p : Addr} {w : Nat} {M : Nat → Nat → Bool} (m : MatR K H p w M) (e : Same H H') : MatR K H' p w M := by
  obtain ⟨rows, h1, h2, h3⟩ := m.ex
  exact ⟨rows, same_l e h1, h2, fun a r h => same_l e (h3 a r h)⟩
def spReach (K : PySem.W.Frag) : Sp := fun vs H Q _ => ∃ (w : Nat) (a : Addr) (us : List V) (ps : List (Nat × Nat)), vs = [.int (w : Int), .ref a] ∧ w ≤ 6 ∧ SqL K H a us ∧ DpAll K H us (ps.map prd) ∧ (∀ x ∈ ps, x.1 < w ∧ x.2 < w) ∧
  ∀ (p : Addr) (M : Nat → Nat → Bool) (H' : Hp), Same H H' → H p = none → MatR K H' p w M → (∀ x y, x < w → y < w → (M x y = true ↔ Rch ps x y)) → Q (.ref p) H'
section
variable {P : Program} {w : World} {K : PySem.W.Frag} {mg : Str → Option Value} {base : Heap} {kA : Addr}
abbrev nDs : List Str := ["_law_some", "_law_kind", "_law_a", "_law_b"]
theorem scDowns : FnScope nDs ["_law_some"] (defScope sDowns) := ⟨rfl, rfl, rfl, by decide +kernel, rfl, by decide +kernel, by decide +kernel⟩
theorem ok_downs {f : Addr} {fd : FuncData} {k : Nat} (F : Fun K "_law_steps" "_law_steps" sDowns f fd) : FnOk P w K mg base CX0 (k + 1) f fd ["_law_some"] (spDowns K) := by
  refine F.ok scDowns (fun vs H Q E h => ?_) (fun cdv A outer s H vs Q E hr h => ?_)
  · obtain ⟨g, us, rs, rfl, _⟩ := h
    rfl
  · obtain ⟨g, us, rs, rfl, hg, dp, hl, q⟩ := h
    have n := scDowns.nd
    refine ⟨_, pss_one (ps_ret (pe_lc (own := [("_law_kind", 1), ("_law_a", 2), ("_law_b", 3)]) (g := g3 K 1 2 3) (tt := tYes) rfl n (pi_list (pv 0)) (blkOk_by (N := nDs) (sc := defScope sDowns) (by decide +kernel))
      (fun _ _ _ _ _ => pg_tup rfl (pgs_cons (pg_name (i := 1) n rfl (.inl rfl)) (pgs_cons (pg_name (i := 2) n rfl (.inl rfl)) (pgs_cons (pg_name (i := 3) n rfl (.inl rfl)) pgs_nil)))) (fun _ _ _ _ _ => pts_nil)
      (fun _ _ _ _ _ => pe_ifExp (pt_cmpR op_eq (pv 1) pe_str (nomark _)) (pe_tup (pa_cons (pv 2) (pa_cons (pv 3) pa_nil))) (pe_tup (pa_cons (pv 3) (pa_cons (pv 2) pa_nil)))))), ?_⟩
    have ul : us.length = rs.length := by rw [dps_len dp, List.length_map]
    refine ⟨_, rfl, g, rfl, ⟨_, hg⟩, fun D nD => ?_⟩
    refine lc_list (xs := us) (fun i H1 => MadeF prd K H D i H1 ((rs.take i).map down)) MadeF.start (fun i H1 _ z => same_l (z.old nD) hg) ?_ ?_
    · intro i v H1 hv p
      obtain ⟨r, hr2, dr⟩ := dps_rat dp hv
      have il : i < rs.length := (List.getElem?_eq_some_iff.mp hr2).1
      obtain ⟨t, rfl, ht⟩ := dp_r (dp_same (p.old nD) _ _ dr)
      refine ⟨t, _, rfl, ht, rfl, _, _, rfl, _, _, rfl, _, _, rfl, rfl, rfl, yes_if ?_⟩
      refine ⟨_, rfl, rfl, _, rfl, ?_⟩
      rw [SG.take_one hr2, List.map_append]
      rw [show decide (V.str (kd r.k) = V.str (Str.ofString "settles")) = r.k from kd_eq r.k]
      cases hk : r.k with
      | true =>
        refine iteT ⟨_, rfl, _, rfl, (by show 2 ≤ sizeLine; decide), fun t2 n2 => ?_⟩
        refine p.push (r := down r) (by omega) (Nat.lt_succ_self _) (same_new n2) (p_dp ?_)
        have e : down r = (r.a, r.b) := by unfold down; rw [hk]; rfl
        rw [e]
        exact p.tup n2
      | false =>
        refine iteF ⟨_, rfl, _, rfl, (by show 2 ≤ sizeLine; decide), fun t2 n2 => ?_⟩
        refine p.push (r := down r) (by omega) (Nat.lt_succ_self _) (same_new n2) (p_dp ?_)
        have e : down r = (r.b, r.a) := by unfold down; rw [hk]; rfl
        rw [e]
        exact p.tup n2
    · intro H1 p
      rw [ul, List.take_length] at p
      exact p.out nD (Same.refl _) q
abbrev nRe : List Str := ["_law_width", "_law_pairs_here", "_law_found", "_law_by", "_law_a", "_law_b"]
theorem scReach : FnScope nRe ["_law_width", "_law_pairs_here"] (defScope sReach) := ⟨rfl, rfl, rfl, by decide +kernel, rfl, by decide +kernel, by decide +kernel⟩
theorem ok_reach {f : Addr} {fd : FuncData} {k : Nat} (F : Fun K "_law_reach" "_law_reach" sReach f fd) (T : Glb K mg kA) : FnOk P w K mg base CX0 (k + 1) f fd ["_law_width", "_law_pairs_here"] (spReach K) := by
  refine F.ok scReach (fun vs H Q E h => ?_) (fun cdv A outer s H vs Q E hr h => ?_)
  · obtain ⟨w, a, us, ps, rfl, _⟩ := h
    rfl
  · obtain ⟨w, a, us, ps, rfl, hw, ha, dp, hps, q⟩ := h
    have n := scReach.nd
    have hu65 := Nat.lt_of_le_of_lt (Nat.le_trans (Nat.add_le_add_left (by decide : 65 ≤ 200) _) (Nat.add_le_add_right (Nat.le_add_right _ (16 * k)) 200)) hr.un
    refine ⟨_, pss_cons (ps_setLc (i := 2) (own := [("_law_a", 4)]) (g := gName 4) (tt := tYes) (te := tLc (iRng1 (tCons (tVar 0) tNil)) (gName 5) tYes (tOrV (tOp rEq (tVar 4) (tVar 5)) (tOp (rInD K) (tTup (tCons (tVar 4) (tCons (tVar 5) tNil))) (tVar 1))) [5]) rfl n rfl rfl (sw_true rfl rfl rfl (by decide +kernel)) (pi_range1 (by rfl) T.rng (pa_cons (pv 0) pa_nil)) (blkOk_by (N := nRe) (sc := defScope sReach) (by decide +kernel))
          (fun _ _ _ _ _ => pg_name (i := 4) n rfl (.inr rfl)) (fun _ _ _ _ _ => pts_nil)
          (fun _ _ _ _ _ => pe_lc (own := [("_law_b", 5)]) (g := gName 5) (tt := tYes) rfl n (pi_range1 (by rfl) T.rng (pa_cons (pv 0) pa_nil)) (blkOk_by (N := nRe) (sc := relS scRe0 (defScope sReach)) (by decide +kernel)) (fun _ _ _ _ _ => pg_name (i := 5) n rfl (.inl rfl)) (fun _ _ _ _ _ => pts_nil)
            (fun _ _ _ _ _ => pe_or (pe_cmpR op_eq (pv 4) (pv 5) (nomark _)) (pe_one (pe_cmpR (op_inD hu65) (pe_tup (pa_cons (pv 4) (pa_cons (pv 5) pa_nil))) (pv 1) (by rfl))))))
      (pss_cons (ps_for PassesOwn.never rfl (pi_range1 (by rfl) T.rng (pa_cons (pv 0) pa_nil)) (pg_name (i := 3) n rfl (.inl rfl))
        (pss_one (ps_for PassesOwn.never rfl (pi_range1 (by rfl) T.rng (pa_cons (pv 0) pa_nil)) (pg_name (i := 4) n rfl (.inl rfl))
          (pss_one (ps_for PassesOwn.never rfl (pi_range1 (by rfl) T.rng (pa_cons (pv 0) pa_nil)) (pg_name (i := 5) n rfl (.inl rfl))
            (pss_one (ps_if (PW.pt (pw_and (pt_val (pe_ix ix_list (pe_ix ix_list (pv 2) (pv 4) (fun _ _ => rfl)) (pv 3) (fun _ _ => rfl))) (pw_and1 (pt_val (pe_ix ix_list (pe_ix ix_list (pv 2) (pv 3) (fun _ _ => rfl)) (pv 5) (fun _ _ => rfl))))))
              (pss_one (ps_asg pe_bl (pg_sub (pe_ix ix_list (pv 2) (pv 4) (fun _ _ => rfl)) (pv 5) set_list))) pss_nil)))))))
      (pss_one (ps_ret (pv 2)))), ?_⟩
    have ew : ((w : Nat) : Int).toNat = w := by omega
    let M0 : Nat → Nat → Bool := fun x y => decide (x = y) || decide ((x, y) ∈ ps)
    refine ⟨_, rfl, _, rfl, by omega, by omega, fun fo nfo => ?_⟩
    refine lc_range (lo := 0) (n := ((w : Nat) : Int).toNat) (fun i H2 => ∃ rows : List Addr, H2 fo = some (.lst (rows.map V.ref)) ∧ rows.length = i ∧ rows.Nodup ∧ fo ∉ rows ∧ (∀ (x : Nat) r, rows[x]? = some r → H2 r = some (.lst (brow w (M0 x))) ∧ H r = none) ∧ Same H H2)
      ⟨[], upd_same, rfl, List.nodup_nil, by simp, fun x r h => by simp at h, same_new nfo⟩ ?_ ?_
    · rintro i H2 hi ⟨rows, r1, r2, r3, r4, r5, r6⟩
      refine ⟨rfl, yes_if ?_⟩
      refine ⟨_, rfl, _, rfl, by omega, by omega, fun D nD => ?_⟩
      have fD : fo ≠ D := ne_of_none r1 nD
      refine lc_range (lo := 0) (n := ((w : Nat) : Int).toNat) (fun j H3 => Same H2 (wo H3 D) ∧ H3 D = some (.lst (brow j (M0 i)))) ⟨?_, upd_same⟩ ?_ ?_
      · rw [wo_upd]
        exact fun b o e => by rw [wo_ne (ne_of_none e nD)]; exact e
      · rintro j H3 hj ⟨e1, e2⟩
        have bs : brow (j + 1) (M0 i) = brow j (M0 i) ++ [.bl (M0 i j)] := by
          unfold brow
          rw [List.range_succ, List.map_append]
          rfl
        have fin : ∀ H4 : Hp, Same H3 H4 → ∃ acc, H4 D = some (.lst acc) ∧ acc.length < sizeLine ∧ (Same H2 (wo (upd H4 D (.lst (acc ++ [.bl (M0 i j)]))) D) ∧ (upd H4 D (.lst (acc ++ [.bl (M0 i j)]))) D = some (.lst (brow (j + 1) (M0 i)))) := fun H4 s4 => by
          refine ⟨_, s4 _ _ e2, small1000 (by rw [brow_len]; omega), ?_, by rw [upd_same, bs]⟩
          rw [wo_upd]
          exact e1.trans (wo_same s4)
        refine ⟨rfl, yes_if ?_⟩
        refine ⟨_, rfl, _, rfl, rfl, _, rfl, ite2 (fun e => ?_) (fun e => ?_)⟩
        · have eij : i = j := by
            have := of_decide_eq_true e
            injection this with this
            omega
          have em : M0 i j = true := by
            show (decide (i = j) || decide ((i, j) ∈ ps)) = true
            rw [decide_eq_true eij]
            rfl
          have z := fin H3 (Same.refl _)
          rw [em] at z
          exact z
        · have nij : ¬ i = j := fun z => e (decide_eq_true (by rw [z]))
          refine ⟨_, rfl, _, rfl, (by show 2 ≤ sizeLine; decide), fun t nt => ?_⟩
          have m4 : Same H3 (upd H3 t (.tup [.int (0 + (i : Int)), .int (0 + (j : Int))])) := same_new nt
          have ht : (upd H3 t (.tup [.int (0 + (i : Int)), .int (0 + (j : Int))])) t = some (.tup [.int (i : Int), .int (j : Int)]) := by
            rw [upd_same, Int.zero_add, Int.zero_add]
          have s3 : Same H H3 := r6.trans (e1.trans (wo_le D))
          refine ⟨_, rfl, prd (i, j), ps.map prd, p_dp (r := (i, j)) (.inl (.inl ht)), .lst (same_l (s3.trans m4) ha) (dps_same (s3.trans m4) _ _ dp), prd_shaped _, prds_shaped _, ?_⟩
          rw [prds_any]
          have em : M0 i j = decide ((i, j) ∈ ps) := by
            show (decide (i = j) || decide ((i, j) ∈ ps)) = _
            rw [decide_eq_false nij]
            rfl
          have z := fin _ m4
          rw [em] at z
          exact z
      · rintro H3 ⟨e1, e2⟩
        rw [ew] at e2
        have s3 : Same H2 H3 := e1.trans (wo_le D)
        refine ⟨_, s3 _ _ r1, small1000 (by rw [List.length_map]; omega), rows ++ [D], by rw [upd_same, List.map_append]; rfl, by rw [List.length_append, r2]; rfl, ?_, ?_, fun x r hx => ?_, same_mut (r6.trans s3) nfo⟩
        · refine List.nodup_append.mpr ⟨r3, by simp, fun x hx y hy e => ?_⟩
          rw [List.mem_singleton.mp hy] at e
          obtain ⟨i2, h2⟩ := List.mem_iff_getElem?.mp hx
          have := (r5 i2 x h2).1
          rw [e, nD] at this
          cases this
        · intro z
          rcases List.mem_append.mp z with z | z
          · exact r4 z
          · exact fD (List.mem_singleton.mp z)
        · by_cases hx2 : x < rows.length
          · rw [List.getElem?_append_left hx2] at hx
            have nf : r ≠ fo := fun z => r4 (by rw [← z]; exact List.mem_of_getElem? hx)
            rw [upd_ne nf]
            exact ⟨s3 _ _ (r5 x r hx).1, (r5 x r hx).2⟩
          · have hx3 : x = rows.length := by
              have := (List.getElem?_eq_some_iff.mp hx).1
              rw [List.length_append] at this
              simp at this
              omega
            subst hx3
            have er : D = r := by simpa using hx
            subst er
            rw [upd_ne fD.symm]
            refine ⟨?_, r6.free nD⟩
            rw [e2, r2]
    rintro H2 ⟨rows, r1, r2, r3, r4, r5, r6⟩
    rw [ew] at r2
    have mt : Mat H H2 fo rows w M0 := ⟨r6, nfo, r1, r2, r3, r4, r5⟩
    have fw : FlW ps w 0 0 0 M0 := by
      refine ⟨fun x y h => ?_, fun x y _ _ v => ?_, fun x y hx => absurd hx (Nat.not_lt_zero _), fun y hy => absurd hy (Nat.not_lt_zero _)⟩
      · have h : (decide (x = y) || decide ((x, y) ∈ ps)) = true := h
        rw [Bool.or_eq_true, decide_eq_true_eq, decide_eq_true_eq] at h
        rcases h with rfl | h
        · exact .refl
        · exact Rch.refl.step h
      · show (decide (x = y) || decide ((x, y) ∈ ps)) = true
        rw [Bool.or_eq_true, decide_eq_true_eq, decide_eq_true_eq]
        exact v
    generalize M0 = M0' at mt fw
    -- the three loops
    refine ⟨_, rfl, _, rfl, by omega, by omega, ?_⟩
    refine for_range (lo := 0) (n := ((w : Nat) : Int).toNat) (fun m σ H3 => ∃ M y3 y4 y5, σ = [some (.int (w : Int)), some (.ref a), some (.ref fo), y3, y4, y5] ∧ Mat H H3 fo rows w M ∧ FlW ps w m 0 0 M) ⟨M0', none, none, none, rfl, mt, fw⟩ ?_ ?_
    · rintro m σ H3 hm ⟨M, y3, y4, y5, rfl, mt, fw⟩
      have hm : m < w := by omega
      refine ⟨_, rfl, _, rfl, by omega, by omega, ?_⟩
      refine for_range (lo := 0) (n := ((w : Nat) : Int).toNat) (fun i σ H4 => ∃ M y4 y5, σ = [some (.int (w : Int)), some (.ref a), some (.ref fo), some (.int (0 + (m : Int))), y4, y5] ∧ Mat H H4 fo rows w M ∧ FlW ps w m i 0 M) ⟨M, y4, y5, rfl, mt, fw⟩ ?_ ?_
      · rintro i σ H4 hi ⟨M, y4, y5, rfl, mt, fw⟩
        have hi : i < w := by omega
        refine ⟨_, rfl, _, rfl, by omega, by omega, ?_⟩
        refine for_range (lo := 0) (n := ((w : Nat) : Int).toNat) (fun j σ H5 => ∃ M y5, σ = [some (.int (w : Int)), some (.ref a), some (.ref fo), some (.int (0 + (m : Int))), some (.int (0 + (i : Int))), y5] ∧ Mat H H5 fo rows w M ∧ FlW ps w m i j M) ⟨M, y5, rfl, mt, fw⟩ ?_ ?_
        · rintro j σ H5 hj ⟨M, y5, rfl, mt, fw⟩
          have hj : j < w := by omega
          obtain ⟨ri, i1, i2, i3⟩ := mt.at_ hi
          obtain ⟨rm, n1, n2, n3⟩ := mt.at_ hm
          have zi : ∀ x : Nat, (0 + (x : Int)) = (x : Int) := fun x => Int.zero_add _
          refine ⟨_, rfl, _, rfl, fo, _, _, _, rfl, rfl, SqL.of mt.top, by rw [zi]; exact atI_nat i2, _, rfl, ri, _, _, _, rfl, rfl, SqL.of i3, by rw [zi]; exact atI_nat (brow_at hm), _, rfl, ?_⟩
          cases c1 : M i m with
          | false =>
            refine iteF (iteF ⟨M, _, rfl, mt, fw.miss hi hj hm fun z => ?_⟩)
            rw [c1] at z
            cases z.1
          | true =>
            refine iteT ⟨_, rfl, _, rfl, fo, _, _, _, rfl, rfl, SqL.of mt.top, by rw [zi]; exact atI_nat n2, _, rfl, rm, _, _, _, rfl, rfl, SqL.of n3, by rw [zi]; exact atI_nat (brow_at hj), _, rfl, ?_⟩
            cases c2 : M m j with
            | false =>
              refine iteF ⟨M, _, rfl, mt, fw.miss hi hj hm fun z => ?_⟩
              rw [c2] at z
              cases z.2
            | true =>
              refine iteT ⟨_, rfl, _, rfl, fo, _, _, _, rfl, rfl, SqL.of mt.top, by rw [zi]; exact atI_nat i2, _, rfl, ri, _, _, j, rfl, rfl, i3, ?_, ?_⟩
              · rw [zi, brow_len]
                unfold ixN
                rw [if_pos (by omega), if_pos (by omega)]
                simp
              · exact ⟨put1 M i j, _, rfl, mt.put i1 hj, fw.hit c1 c2⟩
        · rintro σ H5 ⟨M, y5, rfl, mt, fw⟩
          rw [ew] at fw
          exact ⟨M, _, _, rfl, mt, fw.nextRow⟩
      · rintro σ H4 ⟨M, y4, y5, rfl, mt, fw⟩
        rw [ew] at fw
        exact ⟨M, _, _, _, rfl, mt, fw.nextMid⟩
    · rintro σ H3 ⟨M, y3, y4, y5, rfl, mt, fw⟩
      rw [ew] at fw
      refine ⟨_, rfl, q fo M H3 mt.same nfo ⟨rows, SqL.of mt.top, mt.len, fun x r h => SqL.of (mt.row x r h).1⟩ fun x y hx hy => ⟨fw.snd x y, fun r => fw.cmp x y hx hy (rch_via hps r)⟩⟩
end
end CC
namespace CC
open PySem L2
abbrev sArrows : Stmt := tp 39
def spArrows (K : PySem.W.Frag) : Sp := fun vs H Q _ => ∃ (w : Nat) (g : Addr) (us : List V) (rs : List R) (k : Bool), vs = [.int (w : Int), .ref g, .str (kd k)] ∧ SqL K H g us ∧ DpAll K H us (rs.map R.d) ∧ (∀ r ∈ rs, r.ok w) ∧ w ≤ 6 ∧ rs.length ≤ 60 ∧
  ∀ (p : Addr) (us' : List V) (ps : List (Nat × Nat)) (H' : Hp), Same H H' → H p = none → H' p = some (.lst us') → DpAll K (wo H' p) us' (ps.map prd) → (∀ x y, (x, y) ∈ ps ↔ Lk rs k x y) → Q (.ref p) H'
/-- the same, with the pairs themselves -/
def spArrowsM (K : PySem.W.Frag) : Sp := fun vs H Q _ => ∃ (w : Nat) (g : Addr) (us : List V) (rs : List R) (k : Bool), vs = [.int (w : Int), .ref g, .str (kd k)] ∧ SqL K H g us ∧ DpAll K H us (rs.map R.d) ∧ (∀ r ∈ rs, r.ok w) ∧ w ≤ 6 ∧ rs.length ≤ 60 ∧
  ∀ (p : Addr) (us' : List V) (M : Nat → Nat → Bool) (ps : List (Nat × Nat)) (H' : Hp), Same H H' → H p = none → H' p = some (.lst us') → DpAll K (wo H' p) us' (ps.map prd) → (∀ x y, (x, y) ∈ ps ↔ Lk rs k x y) → ps = pk rs k ++ ((pk rs k).filter fun p => M p.1 p.2 && M p.2 p.1).map (fun p => (p.2, p.1)) → Q (.ref p) H'
theorem arr_weak {K : PySem.W.Frag} {vs : List V} {H : Hp} {Q : VK} {E : XK} (h : spArrows K vs H Q E) : spArrowsM K vs H Q E := by
  obtain ⟨w, g, us, rs, k, h1, h2, h3, h4, h5, h6, q⟩ := h
  exact ⟨w, g, us, rs, k, h1, h2, h3, h4, h5, h6, fun p us' M ps H' a b c d e _ => q p us' ps H' a b c d e⟩
def spDue (K : PySem.W.Frag) : Sp := fun vs H Q _ => ∃ (w : Nat) (g : Addr) (us : List V) (rs : List R), vs = [.int (w : Int), .ref g] ∧ SqL K H g us ∧ DpAll K H us (rs.map R.d) ∧ (∀ r ∈ rs, r.ok w) ∧ w ≤ 6 ∧ rs.length ≤ 60 ∧
  ∀ (p : Addr) (us' : List V) (ds : List R) (H' : Hp), Same H H' → H p = none → H' p = some (.lst us') → DpAll K (wo H' p) us' (ds.map R.d) → (∀ r, r.ok w → (r ∈ ds ↔ Fol rs r)) → Q (.ref p) H'
theorem MatR.at_ {K : PySem.W.Frag} {H : Hp} {p : Addr} {w : Nat} {M : Nat → Nat → Bool} (m : MatR K H p w M) : ∃ rows : List Addr, SqL K H p (rows.map V.ref) ∧ ∀ a, a < w → ∃ r, (rows.map V.ref)[a]? = some (.ref r) ∧ SqL K H r (brow w (M a)) := by
  obtain ⟨rows, h1, h2, h3⟩ := m.ex
  refine ⟨rows, h1, fun a ha => ?_⟩
  have e := List.getElem?_eq_getElem (show a < rows.length by omega)
  exact ⟨_, by rw [List.getElem?_map, e]; rfl, h3 a _ e⟩
def trm (M : Nat → Nat → Bool) (ps : List (Nat × Nat)) : List (Nat × Nat) := (ps.filter fun p => M p.1 p.2 && M p.2 p.1).map fun p => (p.2, p.1)
theorem trm_step {M : Nat → Nat → Bool} {ps : List (Nat × Nat)} {i x y : Nat} (h : ps[i]? = some (x, y)) : trm M (ps.take (i + 1)) = trm M (ps.take i) ++ (if (M x y && M y x) = true then [(y, x)] else []) := by
  rw [SG.take_one h, trm, List.filter_append, List.map_append]
  by_cases e : (M x y && M y x) = true
  · rw [if_pos e]
    simp only [trm, List.filter_cons, e, if_true, List.filter_nil, List.map_cons, List.map_nil]
  · rw [if_neg e]
    simp only [trm, List.filter_cons, e, if_false, List.filter_nil, List.map_nil]
    rfl
theorem filter_step {α : Type} {f : α → Bool} {l : List α} {i : Nat} {x : α} (h : l[i]? = some x) : (l.take (i + 1)).filter f = (l.take i).filter f ++ (if f x = true then [x] else []) := by
  have e : l.take (i + 1) = l.take i ++ [x] := by
    rw [List.take_succ, h]
    rfl
  rw [e, List.filter_append]
  by_cases e : f x = true
  · simp [e]
  · simp [e]
section
variable {P : Program} {w : World} {K : PySem.W.Frag} {mg : Str → Option Value} {base : Heap} {kA : Addr}
abbrev nAr : List Str := ["_law_width", "_law_some", "_law_kind", "_law_down", "_law_found", "_law_other", "_law_a", "_law_b"]
theorem scArrows : FnScope nAr ["_law_width", "_law_some", "_law_kind"] (defScope sArrows) := ⟨rfl, rfl, rfl, by decide +kernel, rfl, by decide +kernel, by decide +kernel⟩
theorem ok_arrowsM {f : Addr} {fd : FuncData} {k : Nat} (F : Fun K "_law_pairs" "_law_pairs" sArrows f fd) (T : Glb K mg kA) (cR : Cal P w K mg base "_law_reach" ["_law_width", "_law_pairs_here"] (spReach K) 1)
 (cD : Cal P w K mg base "_law_steps" ["_law_some"] (spDowns K) 1) : FnOk P w K mg base CX0 (k + 2) f fd ["_law_width", "_law_some", "_law_kind"] (spArrowsM K) := by
  have GR := cR.ok (k + 1) (by omega)
  have GD := cD.ok (k + 1) (by omega)
  refine F.ok scArrows (fun vs H Q E h => ?_) (fun cdv A outer s H vs Q E hr h => ?_)
  · obtain ⟨w, g, us, rs, k, rfl, _⟩ := h
    rfl
  · obtain ⟨w, g, us, rs, kk, rfl, hg, dp, ho, hw, hl, q⟩ := h
    have n := scArrows.nd
    refine ⟨_, pss_cons (ps_set (i := 3) n rfl (.inr rfl) (pe_call GR hr rfl cR.g cR.kp cR.b .nil pass0 (pa_cons (pv 0) (pa_cons (pe_call GD hr rfl cD.g cD.kp cD.b .nil pass0 (pa_cons (pv 1) pa_nil)) pa_nil))))
      (pss_cons (ps_setLc (i := 4) (own := [("_law_other", 5), ("_law_a", 6), ("_law_b", 7)]) (g := g3 K 5 6 7) (tt := tTest (tOp rEq (tVar 5) (tVar 2))) rfl n rfl rfl (sw_true rfl rfl rfl (by decide +kernel)) (pi_list (pv 1)) (blkOk_by (N := nAr) (sc := defScope sArrows) (by decide +kernel))
          (fun _ _ _ _ _ => pg_tup rfl (pgs_cons (pg_name (i := 5) n rfl (.inl rfl)) (pgs_cons (pg_name (i := 6) n rfl (.inl rfl)) (pgs_cons (pg_name (i := 7) n rfl (.inl rfl)) pgs_nil))))
          (fun _ _ _ _ _ => pts_one (pt_cmpR op_eq (pv 5) (pv 2) (nomark _))) (fun _ _ _ _ _ => pe_tup (pa_cons (pv 6) (pa_cons (pv 7) pa_nil))))
      (pss_one (ps_ret (pe_op op_cat (pv 4) (pe_lc (own := [("_law_a", 6), ("_law_b", 7)]) (g := g2 K 6 7) (tt := tAnd (tB (tOp (rIxL K) (tOp (rIxL K) (tVar 3) (tVar 6)) (tVar 7))) (tB (tOp (rIxL K) (tOp (rIxL K) (tVar 3) (tVar 7)) (tVar 6)))) rfl n (pi_list (pv 4)) (blkOk_by (N := nAr) (sc := defScope sArrows) (by decide +kernel))
          (fun _ _ _ _ _ => pg_tup rfl (pgs_cons (pg_name (i := 6) n rfl (.inl rfl)) (pgs_cons (pg_name (i := 7) n rfl (.inl rfl)) pgs_nil)))
          (fun _ _ _ _ _ => pts_one (PW.pt (pw_and (pt_val (pe_ix ix_list (pe_ix ix_list (pv 3) (pv 6) (fun _ _ => rfl)) (pv 7) (fun _ _ => rfl))) (pw_and1 (pt_val (pe_ix ix_list (pe_ix ix_list (pv 3) (pv 7) (fun _ _ => rfl)) (pv 6) (fun _ _ => rfl)))))))
          (fun _ _ _ _ _ => pe_tup (pa_cons (pv 7) (pa_cons (pv 6) pa_nil)))))))), ?_⟩
    have ul : us.length = rs.length := by rw [dps_len dp, List.length_map]
    have dlt := down_lt ho
    -- there
    refine ⟨_, rfl, _, rfl, g, us, rs, rfl, hg, dp, hl, fun sa su H1 s1 nsa hsa dsa => ?_⟩
    refine ⟨w, sa, su, rs.map down, rfl, hw, SqL.of hsa, dps_same (wo_le sa) _ _ dsa, dlt, fun tp3 M H2 s2 ntp mt hM => ?_⟩
    have s12 : Same H H2 := s1.trans s2
    -- found
    refine ⟨_, rfl, g, rfl, ⟨_, same_l s12 hg⟩, fun D3 n3 => ?_⟩
    refine lc_list (xs := us) (fun i H3 => MadeF prd K H2 D3 i H3 (pk (rs.take i) kk)) MadeF.start (fun i H3 _ z => same_l (s12.trans (z.old n3)) hg) ?_ ?_
    · intro i v H3 hv p
      obtain ⟨r, hr2, dr⟩ := dps_rat dp hv
      have il : i < rs.length := (List.getElem?_eq_some_iff.mp hr2).1
      obtain ⟨t, rfl, ht⟩ := dp_r (dp_same (s12.trans (p.old n3)) _ _ dr)
      refine ⟨t, _, rfl, ht, rfl, _, _, rfl, _, _, rfl, _, _, rfl, rfl, rfl, ?_⟩
      refine ⟨_, rfl, _, rfl, rfl, _, rfl, ?_⟩
      rw [show decide (V.str (kd r.k) = V.str (kd kk)) = decide (r.k = kk) from kd_ne _ _, pk_step hr2]
      by_cases e : r.k = kk
      · rw [decide_eq_true e, if_pos e]
        refine iteT ⟨_, rfl, _, rfl, (by show 2 ≤ sizeLine; decide), fun t2 n2 => ?_⟩
        exact p.push (r := (r.a, r.b)) (by omega) (Nat.lt_succ_self _) (same_new n2) (p_dp (p.tup n2))
      · rw [decide_eq_false e, if_neg e]
        exact iteF (p.up (by omega) (by simp))
    intro H3 p3
    rw [ul, List.take_length] at p3
    have o3 := p3.old n3
    obtain ⟨pu, _, hP, dP, _⟩ := p3
    have dP3 : DpAll K H3 pu ((pk rs kk).map prd) := dps_same (wo_le D3) _ _ dP
    have pl : pu.length = (pk rs kk).length := by rw [dps_len dP3, List.length_map]
    have pkl : (pk rs kk).length ≤ 60 := by
      unfold pk
      rw [List.length_map]
      exact Nat.le_trans (List.length_filter_le _ _) hl
    -- found + [..]
    refine ⟨_, rfl, _, rfl, D3, rfl, ⟨_, SqL.of hP⟩, fun D4 n4 => ?_⟩
    refine lc_list (xs := pu) (fun i H4 => MadeF prd K H3 D4 i H4 (trm M ((pk rs kk).take i))) MadeF.start (fun i H4 _ z => SqL.of (z.old n4 _ _ hP)) ?_ ?_
    · intro i v H4 hv p
      obtain ⟨⟨x, y⟩, hxy, dv⟩ := dps_pat dP3 hv
      have il : i < (pk rs kk).length := (List.getElem?_eq_some_iff.mp hxy).1
      have o4 := p.old n4
      obtain ⟨t, rfl, ht⟩ := dp_p (dp_same o4 _ _ dv)
      have hm := ho _ (pk_mem.mp (List.mem_of_getElem? hxy))
      obtain ⟨rows, R1, R2⟩ := (mt.same (o3.trans o4)).at_
      obtain ⟨rx, x1, x2⟩ := R2 x hm.1
      obtain ⟨ry, y1, y2⟩ := R2 y hm.2.1
      have stp := trm_step (M := M) hxy
      refine ⟨t, _, rfl, ht, rfl, _, _, rfl, _, _, rfl, rfl, rfl, ?_⟩
      refine ⟨_, rfl, _, rfl, tp3, _, _, _, rfl, rfl, R1, atI_nat x1, _, rfl, rx, _, _, _, rfl, rfl, x2, atI_nat (brow_at hm.2.1), _, rfl, ?_⟩
      cases c1 : M x y with
      | false =>
        rw [c1, if_neg (by rw [Bool.false_and]; exact Bool.false_ne_true)] at stp
        rw [stp]
        exact iteF (iteF (p.up (by omega) (by simp)))
      | true =>
        refine iteT ⟨_, rfl, _, rfl, tp3, _, _, _, rfl, rfl, R1, atI_nat y1, _, rfl, ry, _, _, _, rfl, rfl, y2, atI_nat (brow_at hm.1), _, rfl, ?_⟩
        cases c2 : M y x with
        | false =>
          rw [c1, c2, if_neg (by rw [Bool.and_false]; exact Bool.false_ne_true)] at stp
          rw [stp]
          exact iteF (p.up (by omega) (by simp))
        | true =>
          rw [c1, c2, if_pos (show (true && true) = true from rfl)] at stp
          rw [stp]
          refine iteT ⟨_, rfl, _, rfl, (by show 2 ≤ sizeLine; decide), fun t2 n2 => ?_⟩
          exact p.push (r := (y, x)) (by omega) (Nat.lt_succ_self _) (same_new n2) (p_dp (p.tup n2))
    intro H4 p4
    rw [pl, List.take_length] at p4
    have o4 := p4.old n4
    obtain ⟨tu, _, hT, dT, _⟩ := p4
    have trl : (trm M (pk rs kk)).length ≤ 60 := by
      unfold trm
      rw [List.length_map]
      exact Nat.le_trans (List.length_filter_le _ _) pkl
    have tul : tu.length = (trm M (pk rs kk)).length := by rw [dps_len dT, List.length_map]
    refine ⟨D3, D4, pu, tu, rfl, rfl, o4 _ _ hP, hT, Nat.le_of_lt (small1000 (by omega)), fun p5 n5 => ?_⟩
    have m5 : Same H4 (upd H4 p5 (.lst (pu ++ tu))) := same_new n5
    have toV : Same H4 (wo (upd H4 p5 (.lst (pu ++ tu))) p5) := fun b o e => by
      rw [wo_ne (ne_of_none e n5)]
      exact m5 _ _ e
    have sH : Same H H4 := s12.trans (o3.trans o4)
    refine q p5 (pu ++ tu) M (pk rs kk ++ trm M (pk rs kk)) _ (sH.trans m5) (sH.free n5) upd_same ?_ (fun x y => ?_) rfl
    · rw [List.map_append]
      exact dps_app (dps_same (o4.trans toV) _ _ dP3) (dps_same ((wo_le D4).trans toV) _ _ dT)
    · rw [List.mem_append, pk_mem]
      unfold Lk
      refine or_congr Iff.rfl ?_
      simp only [trm, List.mem_map, List.mem_filter, Bool.and_eq_true, Prod.mk.injEq]
      constructor
      · rintro ⟨⟨a, b⟩, ⟨h1, h2, h3⟩, rfl, rfl⟩
        have hm := ho _ (pk_mem.mp h1)
        exact ⟨pk_mem.mp h1, (hM _ _ hm.2.1 hm.1).mp h3, (hM _ _ hm.1 hm.2.1).mp h2⟩
      · rintro ⟨h1, h2, h3⟩
        have hm := ho _ h1
        exact ⟨(y, x), ⟨pk_mem.mpr h1, (hM _ _ hm.1 hm.2.1).mpr h3, (hM _ _ hm.2.1 hm.1).mpr h2⟩, rfl, rfl⟩
theorem ok_arrows {f : Addr} {fd : FuncData} {k : Nat} (F : Fun K "_law_pairs" "_law_pairs" sArrows f fd) (T : Glb K mg kA) (cR : Cal P w K mg base "_law_reach" ["_law_width", "_law_pairs_here"] (spReach K) 1)
 (cD : Cal P w K mg base "_law_steps" ["_law_some"] (spDowns K) 1) : FnOk P w K mg base CX0 (k + 2) f fd ["_law_width", "_law_some", "_law_kind"] (spArrows K) := by
  have z := ok_arrowsM (k := k) F T cR cD
  exact ⟨fun vs H Q E h => z.len vs H Q E (arr_weak h), fun A out s H args us vs Q E hr e0 hb r h => z.run A out s H args us vs Q E hr e0 hb r (arr_weak h)⟩
end
end CC
namespace CC
open PySem L2 TL
/-! ### the law's own least list -/
abbrev sDu4 : Stmt := tp 42
def spDu4 (K : PySem.W.Frag) : Sp := fun vs H Q _ => ∃ (w : Nat) (g : Addr) (us : List V) (rs : List R), vs = [.int (w : Int), .ref g] ∧ SqL K H g us ∧ DpAll K H us (rs.map R.d) ∧ (∀ r ∈ rs, r.ok w) ∧ w ≤ 6 ∧ rs.length ≤ 60 ∧ ∀ (l : Addr) (us' : List V) (H' : Hp), Same H H' → H' l = some (.lst us') → DpAll K H' us' ((leastL rs).map R.d) → Q (.ref l) H'
section
variable {P : Program} {w : World} {K : PySem.W.Frag} {mg : Str → Option Value} {base : Heap} {kA : Addr}
abbrev nDu4 : List Str := ["_law_width", "_law_some", "_law_kept", "_law_rule_here", "_law_rest", "_law_other"]
theorem scDu4 : FnScope nDu4 ["_law_width", "_law_some"] (defScope sDu4) := ⟨rfl, rfl, rfl, by decide +kernel, rfl, by decide +kernel, by decide +kernel⟩
theorem ok_du4 {f : Addr} {fd : FuncData} {k : Nat} (F : Fun K "_law_due" "_law_due" sDu4 f fd) (T : Glb K mg kA) (cR : Cal P w K mg base "_law_reach" ["_law_width", "_law_pairs_here"] (spReach K) 1) (cA : Cal P w K mg base "_law_pairs" ["_law_width", "_law_some", "_law_kind"] (spArrows K) 2) : FnOk P w K mg base CX0 (k + 3) f fd ["_law_width", "_law_some"] (spDu4 K) := by
  have GR := cR.ok (k + 2) (by omega)
  have GA := cA.ok (k + 2) (by omega)
  refine F.ok scDu4 (fun vs H Q E h => ?_) (fun cdv A outer s H vs Q E hr h => ?_)
  · obtain ⟨w, g, us, rs, rfl, _⟩ := h
    rfl
  · obtain ⟨w, g, us, rs, rfl, hg, dp, ho, hw, hl, q⟩ := h
    have n := scDu4.nd
    have hu64 : (A.deeper (PyProof.Rows.envOfC (Str.ofString "_law_due") (defScope sDu4) s.heap.objs.size f cdv)).units + 64 < cLine := by
      have := hr.un
      omega
    refine ⟨_, (pss_cons (ps_set (i := 2) n rfl (.inl rfl) (pe_callTy call_list_of (by rfl) T.lst (by decide +kernel) (pa_cons (pv 1) pa_nil)))
      (pss_cons (ps_for PassesOwn.never rfl (pi_list (pe_revL (pv 1))) (pg_name (i := 3) n rfl (.inr rfl))
        (pss_cons (ps_setLc (i := 4) (own := [("_law_other", 5)]) (g := gName 5) (tt := tTest (tOp (rNeD K) (tVar 5) (tVar 3))) rfl n rfl rfl (sw_true rfl rfl rfl (by decide +kernel)) (pi_list (pv 2)) (blkOk_by (N := nDu4) (sc := defScope sDu4) (by decide +kernel))
        (fun _ _ _ _ _ => (pg_name (i := 5) n rfl (.inl rfl))) (fun _ _ _ _ _ => pts_one (pt_cmpR (op_neD hu64) (pv 5) (pv 3) (nomark _))) (fun _ _ _ _ _ => (pv 5)))
        (pss_one (ps_if (pt_val (pe_ix ix_list (pe_ix ix_list (pe_call GR hr rfl cR.g cR.kp cR.b .nil pass0 (pa_cons (pv 0) (pa_cons (pe_call GA hr rfl cA.g cA.kp cA.b .nil pass0 (pa_cons (pv 0) (pa_cons (pv 4) (pa_cons (pe_ix ix_tup (pv 3) pe_int (fun _ _ => rfl)) pa_nil)))) pa_nil))) (pe_ix ix_tup (pv 3) pe_int (fun _ _ => rfl)) (fun _ _ => rfl)) (pe_ix ix_tup (pv 3) pe_int (fun _ _ => rfl)) (fun _ _ => rfl)))
          (pss_one (ps_set (i := 2) n rfl (.inl rfl) (pv 4)))
          pss_nil))))
      (pss_one (ps_ret (pv 2))))), ?_⟩
    have ul : us.length = rs.length := by rw [dps_len dp, List.length_map]
    refine ⟨_, rfl, g, us, rfl, .inl hg, fun pl npl => ?_⟩
    have s1 : Same H (upd H pl (.lst us)) := same_new npl
    have hpl : (upd H pl (.lst us)) pl = some (.lst us) := upd_same
    generalize upd H pl (.lst us) = H1 at s1 hpl
    have dp1 := dps_same s1 _ _ dp
    refine ⟨_, rfl, g, us, rfl, same_l s1 hg, fun pr npr => ?_⟩
    have s2 : Same H1 (upd H1 pr (.lst us.reverse)) := same_new npr
    have hpr : (upd H1 pr (.lst us.reverse)) pr = some (.lst us.reverse) := upd_same
    generalize upd H1 pr (.lst us.reverse) = H2 at s2 hpr
    have dp2 := dps_same s2 _ _ dp1
    have s02 := s1.trans s2
    refine ⟨pr, rfl, ⟨_, SqL.of hpr⟩, ?_⟩
    refine for_list (xs := us.reverse) (fun i σ H' => ∃ (pl' : Addr) (ul' : List V) (y2 y3 : Option V), σ = [some (.int (w : Int)), some (.ref g), some (.ref pl'), y2, y3, none] ∧ Same H2 H' ∧ H' pl' = some (.lst ul') ∧ DpAll K H' ul' ((lastL rs i).map R.d)) ⟨pl, us, none, none, rfl, Same.refl _, s2 _ _ hpl, dp2⟩ (fun i σ H' _ ⟨_, _, _, _, _, e, _⟩ => SqL.of (e _ _ hpr)) ?_ ?_
    · rintro i v σ H' hv ⟨pl', ul', y2, y3, rfl, e', hpl', dl'⟩
      have hi : i < us.length := by
        have := (List.getElem?_eq_some_iff.mp hv).1
        rw [List.length_reverse] at this
        exact this
      rw [List.getElem?_reverse hi] at hv
      obtain ⟨r, hr2, dr⟩ := dps_rat dp2 hv
      have er : rs.reverse.getD i ⟨true, 0, 0⟩ = r := by
        rw [List.getD_eq_getElem?_getD, List.getElem?_reverse (by omega), show rs.length - 1 - i = us.length - 1 - i by rw [ul], hr2]
        rfl
      have rm := List.mem_of_getElem? hr2
      have okr := ho r rm
      have sub := lastL_sub (rs := rs) i
      have okl : ∀ t ∈ lastL rs i, t.ok w := fun t ht => ho t (sub.subset ht)
      have lenl : (lastL rs i).length ≤ 60 := Nat.le_trans sub.length_le hl
      have ull : ul'.length = (lastL rs i).length := by rw [dps_len dl', List.length_map]
      have dr' := dp_same e' _ _ dr
      refine ⟨_, rfl, pl', rfl, ⟨_, SqL.of hpl'⟩, fun D nD => ?_⟩
      refine lc_list (xs := ul') (fun j H2 => MadeF R.d K H' D j H2 (((lastL rs i).take j).filter fun x => !decide (x = r))) MadeF.start (fun j H2 _ z => SqL.of (z.old nD _ _ hpl')) ?_ ?_
      · rintro j v2 H2 hv2 mo
        obtain ⟨r2, hr3, dr2⟩ := dps_rat dl' hv2
        have il : j < (lastL rs i).length := (List.getElem?_eq_some_iff.mp hr3).1
        have o := mo.old nD
        obtain ⟨uo2, _, hDo2, _⟩ := id mo
        refine ⟨rfl, _, rfl, _, rfl, r2.d, r.d, dp_same o _ _ dr2, dp_same o _ _ dr', rd_shaped _, rd_shaped _, _, rfl, ?_⟩
        rw [rd_eqv, SG.take_one hr3, List.filter_append]
        by_cases e : r2 = r
        · rw [decide_eq_true e, List.filter_cons_of_neg (p := fun x => !decide (x = r)) (by rw [decide_eq_true e]; decide), List.filter_nil, List.append_nil]
          exact iteF (mo.keep (Same.refl _) (by omega) rfl)
        · rw [decide_eq_false e, List.filter_cons_of_pos (p := fun x => !decide (x = r)) (by rw [decide_eq_false e]; rfl), List.filter_nil]
          refine iteT ⟨_, rfl, ?_⟩
          exact mo.push (r := r2) (m := j + 1) (by omega) (Nat.lt_succ_self _) (Same.refl _) (rd_T ((same_T o).trans (wo_T hDo2)) dr2)
      rintro H3 mo
      have o2 := mo.old nD
      rw [ull, List.take_length] at mo
      obtain ⟨uo2, _, hDo2, dDo2, ulo2⟩ := mo
      have e2 := e'.trans o2
      have dD2 : DpAll K H3 uo2 ((noR (lastL rs i) r).map R.d) := dps_same (wo_le D) _ _ dDo2
      have okn : ∀ t ∈ noR (lastL rs i) r, t.ok w := fun t ht => okl t (noR_mem.mp ht).1
      have lenn : (noR (lastL rs i) r).length ≤ 60 := Nat.le_trans noR_sub.length_le lenl
      obtain ⟨tv, rfl, htv⟩ := dp_r (dp_same o2 _ _ dr')
      refine ⟨_, rfl, _, rfl, _, rfl, _, rfl, tv, _, 0, _, rfl, rfl, htv, rfl, ?_⟩
      refine ⟨w, D, uo2, noR (lastL rs i) r, r.k, rfl, SqL.of hDo2, dD2, okn, hw, lenn, fun pa ua ps H4 s4 npa hpa dpa kps => ?_⟩
      have plt : ∀ x ∈ ps, x.1 < w ∧ x.2 < w := fun x hx => by
        obtain ⟨a, b⟩ := x
        exact lk_lt okn ((kps a b).mp hx)
      refine ⟨w, pa, ua, ps, rfl, hw, SqL.of hpa, dps_same (wo_le pa) _ _ dpa, plt, fun ta M1 H5 s5 nta mt1 hM1 => ?_⟩
      have s35 := s4.trans s5
      have e5 := e2.trans s35
      obtain ⟨rows1, R1, R2⟩ := mt1.at_
      obtain ⟨rx, x1, x2⟩ := R2 r.a okr.1
      refine ⟨_, rfl, tv, _, 1, _, rfl, rfl, same_t s35 htv, rfl, ta, _, _, _, rfl, rfl, R1, atI_nat x1, ?_⟩
      refine ⟨_, rfl, tv, _, 2, _, rfl, rfl, same_t s35 htv, rfl, rx, _, _, _, rfl, rfl, x2, atI_nat (brow_at okr.2.1), ?_⟩
      have stp : lastL rs (i + 1) = stepL (lastL rs i) r := by
        show stepL (lastL rs i) (rs.reverse.getD i ⟨true, 0, 0⟩) = _
        rw [er]
      have hb : M1 r.a r.b = true ↔ Fol (noR (lastL rs i) r) r := by
        unfold Fol
        rw [hM1 _ _ okr.1 okr.2.1, rch_rt kps]
      rw [stp]
      refine ⟨_, rfl, ?_⟩
      cases hm : M1 r.a r.b with
      | true =>
        refine iteT ⟨_, rfl, D, uo2, _, _, rfl, e5, s35 _ _ hDo2, ?_⟩
        unfold stepL
        rw [if_pos (hb.mp hm)]
        exact dps_same s35 _ _ dD2
      | false =>
        refine iteF ⟨pl', ul', _, _, rfl, e5, s35 _ _ (o2 _ _ hpl'), ?_⟩
        unfold stepL
        rw [if_neg fun z => by rw [hb.mpr z] at hm; cases hm]
        exact dps_same (o2.trans s35) _ _ dl'
    · rintro σ H' ⟨pl', ul', y2, y3, rfl, e', hpl', dl'⟩
      rw [List.length_reverse, ul] at dl'
      exact ⟨_, rfl, q pl' ul' H' (s02.trans e') hpl' dl'⟩
end
end CC
/-! the end of a law whose defs make lambdas, where nothing is being shown -/
namespace GD
open PySem PySem.Spec PyProof.Rows L2
abbrev tab0 : Obj := { cls := .none, data := .fields #[] }
theorem law_callGT {P : Program} {w : World} {K : PySem.W.Frag} {mg mb : Str → Option Value} {CX : CXT} {k : Nat} {fa a : Addr} {cs : List (Addr × Addr)} {fd : FuncData} {x : Str} {sp : Sp} {s : Shared} {vs : List Value} {ns : List Int}
    (inK : K.In s.heap) (nsM : s.heap.Ns mainGlobals mg) (nsB : s.heap.Ns builtinsNs mb) (boot : ∀ x : Str, x ≠ "__name__" → mb x = bootBuiltins x) (noL : s.heap.NoLimit) (gens : s.gens = #[])
    (tabs : ∀ p ∈ cs, PySem.W.CodeHd s.heap p.1 p.2 ∧ s.heap.get? p.2 = some tab0) (offK : ∀ p ∈ cs, K.lookup p.2 = none)
    (blt : ∃ (bm : Addr) (ob : Obj), mg "__builtins__" = some (.ref bm) ∧ bm ≠ builtinsNs ∧ s.heap.get? bm = some ob ∧ ob.cls = .type "module" ∧ ob.dict = some builtinsNs ∧ ob.data = .plain)
    (ha : s.heap.get? a = some { cls := .type "list", data := .seq vs.toArray }) (hin : IntsAre vs ns) (few : ns.length ≤ sizeLine) (room : Room k callerA)
    (F : ∀ base : Heap, K.In base → base.Ns mainGlobals mg → (∀ p ∈ cs, LamX.TabB base mg p.1 p.2) → FnG P w K mg base CX k fa fd [x] sp) (bind : ∀ (s : Shared) (u : Value), BindsTo s fd ⟨[u], []⟩ [(x, u)])
    (wish : ∀ H : Hp, (∀ p ∈ cs, H p.2 = some (.tbl #[])) → SqL K H a (ns.map V.int) → sp [.ref a] H (fun v _ => v = .bl true) fun _ _ _ => False) (noX : ∀ H e s', CX [] H s (fun _ _ _ => False) e s' → False) :
    codeAny (model P w) callerA (.call (.ref fa) ⟨[.ref a], []⟩) (fun r s' => r = .ok (.ret (.bool true)) ∧ OldK s.heap s'.heap ∧ s'.os = s.os ∧ AllBare s'.gens) s := by
  let tb : Addr → Prop := fun b => ∃ p ∈ cs, p.2 = b
  have tbd : ∀ b, Decidable (tb b) := fun b => Classical.propDecidable _
  have tbo : ∀ {b : Addr}, tb b → s.heap.get? b = some tab0 := fun {b} ⟨p, hp, e⟩ => by
    rw [← e]
    exact (tabs p hp).2
  have atb : ¬ tb a := fun z => by
    have e := tbo z
    rw [ha] at e
    have e2 := congrArg Obj.data (Option.some.inj e)
    cases (show Data.seq vs.toArray _ = Data.fields #[] from e2)
  have go : ∀ H : Hp, (∀ b, tb b → H b = some (.tbl #[])) → (∀ b, b ≠ a → ¬ tb b → H b = none) → (H a = none ∨ ∃ ob xs, H a = some (.frz ob (.lst xs))) → SqL K H a (ns.map V.int) → HOk P w H s.heap → (K.lookup a = none ∨ H a = none) →
      codeAny (model P w) callerA (.call (.ref fa) ⟨[.ref a], []⟩) (fun r s' => r = .ok (.ret (.bool true)) ∧ OldK s.heap s'.heap ∧ s'.os = s.os ∧ AllBare s'.gens) s := by
    intro H tbH off onA sq hok way
    have up : ∀ {b : Addr} {o : Obj}, s.heap.get? b = some o → H b = none → (hidT s.heap H).get? b = some o := fun e n => hidT_get e n
    have plain : ∀ {b : Addr} {o : Obj}, s.heap.get? b = some o → (∀ us n, o.data ≠ .seq us n) → o.data ≠ .fields #[] → H b = none := fun {b o} e n1 n2 => by
      by_cases za : b = a
      · rw [za, ha] at e
        cases e
        exact absurd rfl (n1 _ _)
      · refine off b za fun z => ?_
        rw [tbo z] at e
        cases e
        exact n2 rfl
    have lift : ∀ {b : Addr} {m : Str → Option Value}, s.heap.Ns b m → (hidT s.heap H).Ns b m := fun ⟨o, es, n, e, d, r⟩ => ⟨o, es, n, up e (plain e (fun us n z => by rw [d] at z; cases z) (fun z => by rw [d] at z; cases z)), d, r⟩
    have inB : K.In (hidT s.heap H) := fun b o e => up (inK b o e) (by
      by_cases za : b = a
      · rcases way with z2 | z2
        · rw [za, z2] at e
          cases e
        · rw [za]
          exact z2
      · refine off b za fun ⟨p, hp, z⟩ => ?_
        rw [← z, offK p hp] at e
        cases e)
    have TB : ∀ p ∈ cs, LamX.TabB (hidT s.heap H) mg p.1 p.2 := fun p hp => by
      obtain ⟨cd, tp⟩ := tabs p hp
      refine ⟨?_, ?_, fun z => ?_⟩
      · obtain ⟨o, us, f1, f2, f3, f4, f5, f6, f7, e1, g1, g2, g3, rest⟩ := cd
        refine ⟨o, us, f1, f2, f3, f4, f5, f6, f7, up e1 (plain e1 (fun us n z => by rw [g2] at z; cases z) (fun z => ?_)), g1, g2, g3, rest⟩
        rw [g2] at z
        cases z
        simp at g3
      · obtain ⟨bm, ob, b1, b2, b3, b4, b5, b6⟩ := blt
        refine ⟨bm, ob, b1, b2, fun z => ?_, fun z => ?_, up b3 (plain b3 (fun us n z => by rw [b6] at z; cases z) (fun z => by rw [b6] at z; cases z)), b4, b5, b6⟩
        · obtain ⟨o, es, ep, e, d, _⟩ := nsM
          rw [z, e] at b3
          cases b3
          rw [d] at b6
          cases b6
        · rw [z, tp] at b3
          cases b3
          cases b6
      · obtain ⟨o, es, ep, e, d, _⟩ := nsM
        rw [z, tp] at e
        cases e
        cases d
    obtain ⟨mc, l1, l2⟩ := noL
    have e0 : Env0 P w K mg (hidT s.heap H) callerA [] s H := ⟨rfl, ⟨inB, lift nsM, ⟨mb, lift nsB, boot⟩, ⟨mc, lift l1, l2⟩⟩, fun _ _ e => of_hidT e, Nat.le_of_eq (hidT_size _ _), trivial, fun b z => (nomatch (show b ∈ ([] : List Addr) from z)), hok, .of_eq gens⟩
    refine codeAny_mono ((F _ inB (lift nsM) TB).goes callerA [] s H ⟨[.ref a], []⟩ [.ref a] [.ref a] _ _ rfl room e0 (bind s (.ref a)) (.cons rfl .nil) (wish H (fun p hp => tbH _ ⟨p, hp, rfl⟩) sq)) fun fin s2 z => ?_
    match fin, z with
    | .error err, z => exact (noX H err s2 z).elim
    | .ok .next, z => exact z.elim
    | .ok .brk, z => exact z.elim
    | .ok .cont, z => exact z.elim
    | .ok (.ret u), ⟨v, H2, os, bare, un, hok2, rel, ev⟩ =>
      cases (show v = V.bl true from ev)
      cases (show u = Value.bool true from rel)
      have kept : ∀ b o, ¬ tb b → s.heap.get? b = some o → s2.heap.get? b = some o := fun b o nb e => by
        have free : H b = none → s2.heap.get? b = some o := fun n => un.keep b o e n (fun y => nomatch (show b ∈ ([] : List Addr) from y)) (fun y => nomatch y)
        by_cases za : b = a
        · rcases onA with z | ⟨ob, xs, z⟩
          · exact free (by rw [za]; exact z)
          · obtain ⟨e1, _⟩ := hok a _ z
            obtain ⟨e2, _⟩ := hok2 a _ (un.frzs a ob _ z)
            rw [za, e1] at e
            cases e
            rw [za]
            exact e2
        · exact free (off b za nb)
      have grew : ∀ b, tb b → ∃ more : Array Value, s2.heap.get? b = some { cls := .none, data := .fields more } := fun b hb => by
        obtain ⟨more, z⟩ := un.tbls b #[] (tbH b hb)
        exact ⟨_, hok2 b _ z⟩
      refine ⟨rfl, ⟨fun b o e => ?_, fun b o e => ?_⟩, os, bare⟩
      · by_cases hb : tb b
        · obtain ⟨more, hm⟩ := grew b hb
          have t0 := tbo hb
          rw [t0] at e
          cases e
          obtain ⟨p, hp, ep⟩ := hb
          rw [← ep] at hm t0 ⊢
          exact .inr (.inl ⟨((tabs p hp).1.tab t0).isCodeTable, rfl, #[], more, rfl, by rw [Array.empty_append]; exact hm⟩)
        · exact .inl (kept b o hb e)
      · by_cases hb : tb b
        · obtain ⟨more, hm⟩ := grew b hb
          exact ⟨_, hm⟩
        · exact ⟨o, kept b o hb e⟩
  have rel := vals_ints hin
  have lenV := hin.length
  cases look : K.lookup a with
  | some o =>
    have e := inK a o look
    rw [ha] at e
    cases e
    refine go (fun b => @ite _ (tb b) (tbd b) (some (.tbl #[])) none) (fun b hb => if_pos hb) (fun b _ hb => if_neg hb) (.inl (if_neg atb)) (.inr ⟨_, vs.toArray, _, look, rfl, rfl, rfl, ?_, ?_⟩) (fun b u z => ?_) (.inr (if_neg atb))
    · rw [List.size_toArray, lenV]
      exact few
    · simpa using rel
    · by_cases hb : tb b
      · have z2 := (if_pos hb).symm.trans z
        cases z2
        exact tbo hb
      · have z2 := (if_neg hb).symm.trans z
        cases z2
  | none =>
    have one : (fun b => if b = a then some (HO.frz { cls := .type "list", data := .seq vs.toArray } (.lst (ns.map V.int))) else @ite _ (tb b) (tbd b) (some (.tbl #[])) none) a = some (HO.frz { cls := .type "list", data := .seq vs.toArray } (.lst (ns.map V.int))) := if_pos rfl
    refine go (fun b => if b = a then some (.frz { cls := .type "list", data := .seq vs.toArray } (.lst (ns.map V.int))) else @ite _ (tb b) (tbd b) (some (.tbl #[])) none) (fun b hb => ?_) (fun b na hb => ?_) (.inr ⟨_, _, one⟩) (.inl (.inr ⟨_, one⟩)) (fun b u z => ?_) (.inl look)
    · exact (if_neg fun z => atb (by rw [← z]; exact hb)).trans (if_pos hb)
    · exact (if_neg na).trans (if_neg hb)
    · by_cases za : b = a
      · subst za
        have z2 := one.symm.trans z
        cases z2
        exact ⟨ha, by rw [List.length_map]; exact few, vs, _, rel, ha⟩
      · by_cases hb : tb b
        · have z2 := ((if_neg za).trans (if_pos hb)).symm.trans z
          cases z2
          exact tbo hb
        · have z2 := ((if_neg za).trans (if_neg hb)).symm.trans z
          cases z2
/-- the goal that k_head leaves, from the law's promise; cs: the defs that make lambdas, by their code objects and tables -/
theorem walk_ofGT {l : PySem.W.OpenLaw} {n k : Nat} {q : Program} {loose : List Str} {XP : (Str → Option Value) → Heap → Prop} {YP : World → Heap → Prop} {d : DefRec} {K : Params → PySem.W.Frag} {CX : World → CXT} {x : Str} {xs : List Str}
    (most : l.most = some n) (few : n ≤ sizeLine) (plain : d.params.defaults = []) (room : Room k callerA) (hY : ∀ (w : World) (h : Heap), YP w h → (K w.params).In h)
    (found : ∀ y ∈ xs, ∃ r, (recsOf q).find? (fun e => e.name == y) = some r)
    (F : ∀ (w : World) (mg : Str → Option Value) (fa : Addr) (h : Heap), (K w.params).In h → h.Ns mainGlobals mg → mg d.name = some (.ref fa) → ∃ (fd : FuncData) (cs : List (Addr × Addr)) (sp : Sp), (∀ p ∈ cs, ∃ y ∈ xs, PySem.W.tabIn (K w.params) y = some p) ∧ (∀ p ∈ cs, (K w.params).lookup p.2 = none) ∧
      (∀ (s : Shared) (u : Value), BindsTo s fd ⟨[u], []⟩ [(x, u)]) ∧ (∀ (H : Hp) (a : Addr) (ns : List Int), ns.length ≤ n → (∀ p ∈ cs, H p.2 = some (.tbl #[])) → SqL (K w.params) H a (ns.map V.int) → sp [.ref a] H (fun v _ => v = .bl true) fun _ _ _ => False) ∧
      ∀ base : Heap, (K w.params).In base → base.Ns mainGlobals mg → (∀ p ∈ cs, LamX.TabB base mg p.1 p.2) → FnG l.prog w (K w.params) mg base (CX w) k fa fd [x] sp)
    (noX : ∀ (w : World) (H : Hp) (s : Shared) (e : Value) (s' : Shared), CX w [] H s (fun _ _ _ => False) e s' → False) : PySem.W.WalkO q loose XP YP l.row.toRowW d [] (fun f vs => PySem.call f vs) := by
  refine Att.attach_callB most plain ?_
  intro w s₀ s mg mb fa o pm cd doc a vs ns G Y _ _ _ hmg hobj hin len _ gens
  have inK := hY w _ Y
  obtain ⟨fd, cs, sp, tbs, offK, bind, wish, ok⟩ := F w mg fa _ inK G.T.g hmg
  refine law_callGT inK G.T.g G.T.b G.T.builtins G.T.nolimit gens (fun p hp => ?_) offK G.T.bmain hobj hin (Nat.le_trans len few) room ok bind (fun H h1 h2 => wish H a ns len h1 h2) fun H e s' => noX w H s e s'
  obtain ⟨y, hy, e⟩ := tbs p hp
  obtain ⟨r, hr⟩ := found y hy
  exact PySem.W.tab_of G.T inK hr (by rw [e])
end GD
namespace CC
open PySem L2
/-- the heap without some objects -/
def wos (H : Hp) (l : List Addr) : Hp := fun b => if b ∈ l then none else H b
section
variable {H H' H2 : Hp} {l m : List Addr} {b s : Addr} {o : HO}
theorem wos_in (h : b ∉ l) : wos H l b = H b := if_neg h
theorem wos_at (h : wos H l b = some o) : b ∉ l ∧ H b = some o := by
  by_cases e : b ∈ l
  · unfold wos at h
    rw [if_pos e] at h
    cases h
  · exact ⟨e, (wos_in e).symm.trans h⟩
theorem wos_le (l : List Addr) : Same (wos H l) H := fun b o e => (wos_at e).2
theorem wos_mono (h : ∀ b ∈ l, b ∈ m) : Same (wos H m) (wos H l) := fun b o e => by
  obtain ⟨n, e⟩ := wos_at e
  rw [wos_in fun z => n (h b z)]
  exact e
/-- all that stands, but for l, stays -/
def Kp (l : List Addr) (H H' : Hp) : Prop := ∀ b o, H b = some o → b ∉ l → H' b = some o
theorem Kp.same (k : Kp l H H') : Same (wos H l) (wos H' l) := fun b o e => by
  obtain ⟨n, e⟩ := wos_at e
  rw [wos_in n]
  exact k b o e n
theorem Kp.to (k : Kp l H H') : Same (wos H l) H' := k.same.trans (wos_le l)
theorem Kp.trans (a : Kp l H H') (c : Kp l H' H2) : Kp l H H2 := fun b o e n => c b o (a b o e n) n
theorem Kp.up (k : Kp l H H') (h : ∀ b ∈ l, b ∈ m) : Kp m H H' := fun b o e n => k b o e fun z => n (h b z)
theorem Kp.of (e : Same H H') : Kp l H H' := fun b o q _ => e b o q
theorem Kp.upd (h : s ∈ l) : Kp l H (L2.upd H s o) := fun b u e n => by
  rw [upd_ne (a := s) (b := b) fun z => n (by rw [z]; exact h)]
  exact e
theorem Kp.new (h : H s = none) : Kp l H (L2.upd H s o) := .of (same_new h)
theorem Kp.ran (r : Ran H H' s) (h : s ∈ l) : Kp l H H' := fun b o e n => r.at_ e fun z => n (by rw [z]; exact h)
theorem Same.kp (e : Same H H') (k : Kp l H' H2) : Kp l H H2 := fun b o q n => k b o (e b o q) n
theorem wos_nil : wos H [] = H := by
  funext b
  exact wos_in (by simp)
theorem wo_wos : wo H s = wos H [s] := by
  funext b
  by_cases e : b = s
  · subst e
    rw [wo_at]
    unfold wos
    rw [if_pos (List.mem_singleton.mpr rfl)]
  · rw [wo_ne e, wos_in (by simpa using e)]
end
end CC
/-! ### the texts of rows -/
namespace CC
open PySem L2 TL
def rowS (row : List Nat) : Str := Txt.join " " (row.map num)
def textT (rows : List (List Nat)) : Str := Txt.join "" (rows.map fun r => rowS r ++ "\n")
/-- a row for a width -/
def RowOk (w : Nat) (row : List Nat) : Prop := row.length = w ∧ ∀ v ∈ row, v ≤ 9999
theorem tl_n (n : Nat) : tl (num n) = numL n := tl_num n
theorem joinL_flat (l : List (List Nat)) : joinL (tl ("" : Str)) l = l.flatten := by
  rw [show tl ("" : Str) = [] by decide +kernel]
  induction l with
  | nil => rfl
  | cons x l ih =>
    cases l with
    | nil => simp [joinL]
    | cons y l =>
      show x ++ ([] ++ joinL [] (y :: l)) = _
      rw [ih, List.nil_append]
      simp
theorem joinL_in {sep : List Nat} {c : Nat} : ∀ {l : List (List Nat)}, c ∈ joinL sep l → c ∈ sep ∨ ∃ p ∈ l, c ∈ p
  | [], h => by simp [joinL] at h
  | [x], h => by
    simp [joinL] at h
    exact .inr ⟨x, by simp, h⟩
  | x :: y :: l, h => by
    have h' : c ∈ x ++ (sep ++ joinL sep (y :: l)) := h
    rcases List.mem_append.mp h' with z | z
    · exact .inr ⟨x, by simp, z⟩
    · rcases List.mem_append.mp z with z | z
      · exact .inl z
      · rcases joinL_in z with q | ⟨p, hp, hc⟩
        · exact .inl q
        · exact .inr ⟨p, List.mem_cons_of_mem _ hp, hc⟩
theorem joinL_le {sep : List Nat} {k : Nat} : ∀ {l : List (List Nat)}, (∀ p ∈ l, p.length ≤ k) → (joinL sep l).length ≤ l.length * (k + sep.length)
  | [], _ => by simp [joinL]
  | [x], h => by
    have := h x (by simp)
    simp [joinL]
    omega
  | x :: y :: l, h => by
    have h1 := h x (by simp)
    have h2 := joinL_le (sep := sep) (l := y :: l) fun p hp => h p (List.mem_cons_of_mem _ hp)
    show (x ++ (sep ++ joinL sep (y :: l))).length ≤ _
    rw [List.length_append, List.length_append, List.length_cons (a := x), Nat.succ_mul]
    omega
theorem row_free {row : List Nat} : 10 ∉ tl (rowS row) := fun h => by
  unfold rowS at h
  rw [join_eq, tl_join] at h
  rcases joinL_in h with z | ⟨p, hp, z⟩
  · rw [show tl (" " : Str) = [32] by decide +kernel] at z
    simp at z
  · obtain ⟨q, hq, rfl⟩ := List.mem_map.mp hp
    obtain ⟨n, _, rfl⟩ := List.mem_map.mp hq
    rw [tl_n] at z
    exact numL_free (.inl (by decide)) z
theorem num_len {n : Nat} (h : n ≤ 9999) : (num n).length ≤ 4 := by
  rw [len_tl, tl_n]
  exact numL_len (by decide) (by omega)
theorem rowS_len {w : Nat} {row : List Nat} (h : RowOk w row) (hw : w ≤ 6) : (rowS row).length ≤ 30 := by
  rw [len_tl]
  unfold rowS
  rw [join_eq, tl_join]
  refine Nat.le_trans (joinL_le (k := 4) fun p hp => ?_) ?_
  · obtain ⟨q, hq, rfl⟩ := List.mem_map.mp hp
    obtain ⟨n, hn, rfl⟩ := List.mem_map.mp hq
    rw [← len_tl]
    exact num_len (h.2 n hn)
  · rw [List.length_map, List.length_map, h.1, show tl (" " : Str) = [32] by decide +kernel]
    show w * 5 ≤ 30
    omega
theorem split_row {row : List Nat} (h : row ≠ []) : Txt.split (rowS row) " " = row.map num := by
  refine split_join (s := 32) (S := []) (by decide +kernel) (by decide +kernel) (fun e => h (List.map_eq_nil_iff.mp e)) fun p hp => ?_
  obtain ⟨n, _, rfl⟩ := List.mem_map.mp hp
  rw [tl_n]
  exact numL_free (.inl (by decide))
theorem tl_lines (L : List Str) : tl (Txt.join "" (L.map fun l => l ++ "\n")) = (L.map fun l => tl l ++ [10]).flatten := by
  rw [join_eq, tl_join, joinL_flat, List.map_map]
  congr 1
  refine List.map_congr_left fun l _ => ?_
  show tl (l ++ "\n") = _
  rw [tl_app, show tl ("\n" : Str) = [10] by decide +kernel]
theorem split_lines {L : List Str} (h : ∀ l ∈ L, 10 ∉ tl l) : Txt.split (Txt.join "" (L.map fun l => l ++ "\n")) "\n" = L ++ [Str.empty] := by
  have e : Txt.join "" (L.map fun l => l ++ "\n") = Txt.join "\n" (L ++ [Str.empty]) := by
    refine ext_tl ?_
    show tl _ = tl _
    rw [tl_lines, join_eq, tl_join, show tl ("\n" : Str) = [10] by decide +kernel]
    clear h
    induction L with
    | nil => decide +kernel
    | cons r L ih =>
      rw [List.map_cons, List.flatten_cons, ih]
      cases L with
      | nil =>
        show tl r ++ [10] ++ tl Str.empty = tl r ++ ([10] ++ tl Str.empty)
        rw [List.append_assoc]
      | cons s L =>
        show tl r ++ [10] ++ _ = tl r ++ ([10] ++ _)
        rw [List.append_assoc]
        rfl
  rw [e]
  refine split_join (s := 10) (S := []) (by decide +kernel) (by decide +kernel) (by simp) fun p hp => ?_
  rcases List.mem_append.mp hp with z | z
  · exact h p z
  · rw [List.mem_singleton.mp z]
    decide +kernel
theorem textT_eq (rows : List (List Nat)) : textT rows = Txt.join "" ((rows.map rowS).map fun l => l ++ "\n") := by
  unfold textT
  rw [List.map_map]
  rfl
theorem split_textT (rows : List (List Nat)) : Txt.split (textT rows) "\n" = rows.map rowS ++ [Str.empty] := by
  rw [textT_eq]
  refine split_lines fun l hl => ?_
  obtain ⟨r, _, rfl⟩ := List.mem_map.mp hl
  exact row_free
theorem textT_len {w : Nat} {rows : List (List Nat)} (h : ∀ r ∈ rows, RowOk w r) (hw : w ≤ 6) : (textT rows).length ≤ 31 * rows.length := by
  rw [len_tl, textT_eq, tl_lines, List.map_map]
  induction rows with
  | nil => simp
  | cons r rows ih =>
    have h1 := rowS_len (h r List.mem_cons_self) hw
    rw [len_tl] at h1
    have h3 := ih fun s hs => h s (List.mem_cons_of_mem _ hs)
    rw [List.map_cons, List.flatten_cons, List.length_append, List.length_cons]
    show (tl (rowS r) ++ [10]).length + _ ≤ _
    rw [List.length_append, List.length_singleton]
    omega
theorem dig_ok : ∀ c : Fin 58, 48 ≤ c.1 → Unicode.isDigit c.1 = true := by decide +kernel
theorem num_digit (n : Nat) : Txt.isdigit (num n) = true := by
  unfold Txt.isdigit
  rw [Bool.and_eq_true]
  refine ⟨decide_eq_true ?_, ?_⟩
  · rw [len_tl, tl_n]
    exact List.length_pos_iff.mpr (numL_ne n)
  · rw [Array.all_eq_true_iff_forall_mem]
    intro c hc
    have m : c ∈ numL n := by
      rw [← tl_n]
      exact Array.mem_def.mp hc
    have := numL_digits n c m
    exact dig_ok ⟨c, by omega⟩ this.1
theorem num_ascii (n : Nat) : Txt.isascii (num n) = true := by
  unfold Txt.isascii
  rw [Array.all_eq_true_iff_forall_mem]
  intro c hc
  have m : c ∈ numL n := by
    rw [← tl_n]
    exact Array.mem_def.mp hc
  have := numL_digits n c m
  exact decide_eq_true (by omega)
theorem num_int {n : Nat} (h : n ≤ 9999) : intText? (num n) = some (n : Int) := int_num (Nat.le_trans (numL_len (k := 4) (by decide) (by omega)) (by decide))
theorem small10k {n : Nat} (h : n ≤ 9999) : (n : Int).natAbs.log2 < 1920 := by
  rw [Int.natAbs_natCast]
  have : n.log2 ≤ n := Nat.log2_le_self n
  by_cases e : n = 0
  · subst e
    decide
  · have := (Nat.log2_lt e (k := 14)).mpr (by omega)
    omega
end CC
namespace CC
open PySem L2 TL
structure GlbT (mg : Str → Option Value) : Prop where
  lv : ∃ t, mg "LARGEST_VALUE" = some (.int 9999 t)
  mr : ∃ t, mg "MOST_ROWS" = some (.int 400 t)
def spIsRow (K : PySem.W.Frag) : Sp := fun vs H Q _ => ∃ (w : Nat) (t : Addr) (row : List Nat), vs = [.int (w : Int), .ref t] ∧ SqT K H t (nms row) ∧ RowOk w row ∧ w ≤ 6 ∧ ∀ H', Same H H' → Q (.bl true) H'
def spIsNum : Sp := fun vs H Q _ => ∃ n : Nat, vs = [.str (num n)] ∧ n ≤ 9999 ∧ Q (.bl true) H
theorem all_true (m : Nat) : (List.replicate m true).all id = true := by
  rw [List.all_eq_true]
  intro b hb
  rw [List.eq_of_mem_replicate hb]
  rfl
theorem nms_get? {ns : List Nat} {i : Nat} {x : V} (h : (nms ns)[i]? = some x) : ∃ m, ns[i]? = some m ∧ x = .int (m : Int) := by
  rw [nms, List.getElem?_map] at h
  cases z : ns[i]? with
  | none =>
    rw [z] at h
    cases h
  | some m =>
    rw [z] at h
    exact ⟨m, rfl, (Option.some.inj h).symm⟩
section
variable {P : Program} {w : World} {K : PySem.W.Frag} {mg : Str → Option Value} {base : Heap} {kA : Addr}
abbrev nIRow : List Str := ["width", "thing", "part"]
end
end CC
namespace CC
open PySem L2 TL
/-- words of a line, as data -/
def wd (row : List Nat) : PyData := .list ((row.map num).map PyData.str)
theorem dps_strs {K : PySem.W.Frag} {H : Hp} : ∀ {xs : List Str} {us : List V}, DpAll K H us (xs.map PyData.str) → us = xs.map V.str
  | [], _, h => by
    cases h
    rfl
  | x :: xs, _, h => by
    cases h with
    | cons h1 h2 =>
      rw [dp_str h1, dps_strs h2]
      rfl
theorem strs_dps {K : PySem.W.Frag} {H : Hp} : ∀ xs : List Str, DpAll K H (xs.map V.str) (xs.map PyData.str)
  | [] => .nil
  | x :: xs => .cons (.str x) (strs_dps xs)
theorem wd_at {K : PySem.W.Frag} {H : Hp} {v : V} {row : List Nat} (h : Dp K H v (wd row)) : ∃ l, v = .ref l ∧ SqL K H l ((row.map num).map V.str) := by
  obtain ⟨l, us, rfl, h1, h2⟩ := dp_l h
  rw [dps_strs h2] at h1
  exact ⟨l, rfl, h1⟩
theorem dps_wat {K : PySem.W.Frag} {H : Hp} {gs : List V} {ms : List (List Nat)} {i : Nat} {v : V} (h : DpAll K H gs (ms.map wd)) (e : gs[i]? = some v) : ∃ m, ms[i]? = some m ∧ Dp K H v (wd m) := by
  obtain ⟨d, h1, h2⟩ := dps_at h e
  rw [List.getElem?_map] at h1
  cases q : ms[i]? with
  | none => rw [q] at h1; cases h1
  | some m =>
    rw [q] at h1
    cases h1
    exact ⟨m, rfl, h2⟩
theorem word_at {row : List Nat} {i : Nat} {x : V} (h : ((row.map num).map V.str)[i]? = some x) : ∃ m, row[i]? = some m ∧ x = .str (num m) := by
  rw [List.getElem?_map, List.getElem?_map] at h
  cases z : row[i]? with
  | none =>
    rw [z] at h
    cases h
  | some m =>
    rw [z] at h
    exact ⟨m, rfl, (Option.some.inj h).symm⟩
theorem cut_butlast (xs : List V) (x : V) : cutV (xs ++ [x]) none (some (-1)) = xs := by
  unfold cutV
  have e : HT.sIx (xs ++ [x]).length (xs ++ [x]).length (some (-1)) = xs.length := by
    have := HT.clip_eq (-1) (xs ++ [x]).length (xs ++ [x]).length
    rw [if_pos (by decide)] at this
    have hl : (xs ++ [x]).length = xs.length + 1 := by simp
    omega
  rw [HT.sIx_none, e]
  simp
/-- a comprehension with two for's: the outer one over a list -/
theorem two_list {K : PySem.W.Frag} {a : Addr} {xs : List V} {g : TG} {tt : TT} {vs : List Nat} {σ : L2.St} {H1 : Hp} {D : Addr} {Qd : Hp → Prop} {B : L2.St → Hp → (Hp → Prop) → Prop} (Pv : Nat → Hp → Prop) (h0 : Pv 0 (upd H1 D (.lst []))) (hl : ∀ i H, i ≤ xs.length → Pv i H → SqL K H a xs)
    (hs : ∀ i x H, xs[i]? = some x → Pv i H → g x (wipe σ vs) H fun σ2 H2 => wipe σ2 vs = wipe σ vs ∧ tt σ2 H2 fun b H3 => if b = true then B σ2 H3 (Pv (i + 1)) else Pv (i + 1) H3) (hd : ∀ H, Pv xs.length H → Qd H) :
    ∃ W : Nat → Nat → Hp → Prop, (∃ m, W 0 m (upd H1 D (.lst []))) ∧ ∀ i m H, W i m H → ((Itl K a).stop i H ∧ Qd H) ∨ ((Itl K a).go i H ∧ ∃ Nx : Hp → Prop, (∀ H', Nx H' → ∃ m', m' < m ∧ W (i + 1) m' H') ∧ ∀ x H', (Itl K a).yld i H x H' → g x (wipe σ vs) H' fun σ2 H2 => wipe σ2 vs = wipe σ vs ∧ tt σ2 H2 fun b H3 =>
      if b = true then B σ2 H3 Nx else Nx H3) := by
  refine ⟨fun i m H => m = xs.length - i ∧ i ≤ xs.length ∧ Pv i H, ⟨xs.length, by simp, Nat.zero_le _, h0⟩, ?_⟩
  rintro i m H ⟨rfl, hi, p⟩
  have q := hl i H hi p
  by_cases lt : i < xs.length
  · refine .inr ⟨⟨xs, xs[i], q, by simp [lt]⟩, Pv (i + 1), fun H' p' => ⟨xs.length - (i + 1), by omega, rfl, lt, p'⟩, fun x H' y => ?_⟩
    obtain ⟨e, y⟩ := y
    subst e
    exact hs i x _ (y xs q) p
  · have e : i = xs.length := by omega
    subst e
    exact .inl ⟨⟨xs, q, Nat.le_refl _⟩, hd H p⟩
/-- its inner one over a list -/
theorem in_list {K : PySem.W.Frag} {a : Addr} {xs : List V} {H1 : Hp} {Qd : Hp → Prop} {B : V → Hp → (Hp → Prop) → Prop} (Pv : Nat → Hp → Prop) (h0 : Pv 0 H1) (hl : ∀ i H, i ≤ xs.length → Pv i H → SqL K H a xs) (hs : ∀ i x H, xs[i]? = some x → Pv i H → B x H (Pv (i + 1))) (hd : ∀ H, Pv xs.length H → Qd H) :
    ∃ W : Nat → Nat → Hp → Prop, (∃ m, W 0 m H1) ∧ ∀ i m H, W i m H → ((Itl K a).stop i H ∧ Qd H) ∨ ((Itl K a).go i H ∧ ∃ Nx : Hp → Prop, (∀ H', Nx H' → ∃ m', m' < m ∧ W (i + 1) m' H') ∧ ∀ x H', (Itl K a).yld i H x H' → B x H' Nx) := by
  refine ⟨fun i m H => m = xs.length - i ∧ i ≤ xs.length ∧ Pv i H, ⟨xs.length, by simp, Nat.zero_le _, h0⟩, ?_⟩
  rintro i m H ⟨rfl, hi, p⟩
  have q := hl i H hi p
  by_cases lt : i < xs.length
  · refine .inr ⟨⟨xs, xs[i], q, by simp [lt]⟩, Pv (i + 1), fun H' p' => ⟨xs.length - (i + 1), by omega, rfl, lt, p'⟩, fun x H' y => ?_⟩
    obtain ⟨e, y⟩ := y
    subst e
    exact hs i x _ (y xs q) p
  · have e : i = xs.length := by omega
    subst e
    exact .inl ⟨⟨xs, q, Nat.le_refl _⟩, hd H p⟩
def rIntS : List V → Hp → VK → Prop := fun xs H Q => ∃ a n, xs = [.str a] ∧ PySem.intText? a = some n ∧ a.length ≤ 640 ∧ Q (.int n) H
theorem call_intS {X : Cx} : CallR X (.type "int") rIntS := call_int_str
def rLenSq (K : PySem.W.Frag) : List V → Hp → VK → Prop := fun xs H Q => ∃ p ys, xs = [V.ref p] ∧ (SqL K H p ys ∨ SqT K H p ys) ∧ Q (V.int ((ys.length : Nat) : Int)) H
theorem call_lenSq {X : Cx} : CallR X (.builtin "len") (rLenSq X.K) := call_len_seq
def retVal : Stmt → Expr
  | .Return (some v) _ => v
  | _ => .Constant .none 0 ⟨0, 0, 0, 0⟩
def lcScT : Expr → Scope
  | .ListComp _ _ sc _ => sc
  | _ => { kind := .function, names := [], isGenerator := false, isCoroutine := false }
def spRowsOf (K : PySem.W.Frag) : Sp := fun vs H Q _ => ∃ (w : Nat) (rows : List (List Nat)), vs = [.int (w : Int), .str (textT rows)] ∧ 1 ≤ w ∧ w ≤ 6 ∧ (∀ r ∈ rows, RowOk w r) ∧ rows.length ≤ 400 ∧ NewF gd K H rows Q
section
variable {P : Program} {w : World} {K : PySem.W.Frag} {mg : Str → Option Value} {base : Heap} {kA : Addr}
abbrev nRow : List Str := ["width", "text", "parts", "lines", "part", "words", "word"]
end
end CC
namespace CC
open PySem L2 TL
def flT0 (w : Nat) : List (Str × V) := putF "span" (.int (w : Int)) []
def fldT (w : Nat) (g : Addr) : List (Str × V) := putF "lines" (.ref g) (flT0 w)
theorem slN : ¬ (("span" : Str) = "lines") := by decide +kernel
theorem fldT_span (w : Nat) (g : Addr) : (fldT w g).lookup ("span" : Str) = some (.int (w : Int)) := by
  unfold fldT flT0
  rw [lookup_putF, if_neg slN, lookup_putF, if_pos rfl]
theorem fldT_lines (w : Nat) (g : Addr) : (fldT w g).lookup ("lines" : Str) = some (.ref g) := by
  unfold fldT
  rw [lookup_putF, if_pos rfl]
/-- a table stands at x -/
def TableAt (K : PySem.W.Frag) (C : Addr) (H : Hp) (x : Addr) (w : Nat) (rows : List (List Nat)) : Prop := ∃ dx g us, H x = some (.ins C dx (fldT w g)) ∧ H g = some (.tup us) ∧ DpAll K H us (rows.map gd)
theorem TableAt.same {K : PySem.W.Frag} {C : Addr} {H H' : Hp} {x : Addr} {w : Nat} {rows : List (List Nat)} (h : TableAt K C H x w rows) (e : Same H H') : TableAt K C H' x w rows := by
  obtain ⟨dx, g, us, h1, h2, h3⟩ := h
  exact ⟨dx, g, us, e _ _ h1, e _ _ h2, dps_same e _ _ h3⟩
structure TxtT (K : PySem.W.Frag) (mg : Str → Option Value) (C : Addr) : Prop where
  cl : Cls K C
  nS : NoAttr K C "span"
  nL : NoAttr K C "lines"
  mgC : mg "Table" = some (.ref C)
def spTInit (K : PySem.W.Frag) (C : Addr) : Sp := fun vs H Q _ => ∃ (x dx : Addr) (w : Nat) (p : Addr) (us : List V) (rows : List (List Nat)), vs = [.ref x, .int (w : Int), .ref p] ∧ H x = some (.ins C dx []) ∧ 1 ≤ w ∧ w ≤ 6 ∧ H p = some (.tup us) ∧ DpAll K (wo H x) us (rows.map gd) ∧
  (∀ r ∈ rows, RowOk w r) ∧ rows.length ≤ 400 ∧ ∀ H', (∀ b o, H b = some o → b ≠ x → H' b = some o) → H' x = some (.ins C dx (fldT w p)) → Q .non H'
def spTInitR (K : PySem.W.Frag) (C : Addr) : Sp := fun vs H Q E => ∃ ws rest, vs = ws ++ rest ∧ ws.length = 2 ∧ rest.length ≤ sizeLine ∧ ∀ p, H p = Option.none → spTInit K C (ws ++ [V.ref p]) (upd H p (.tup rest)) Q E
def spTRead (K : PySem.W.Frag) (C : Addr) : Sp := fun vs H Q _ => ∃ (w : Nat) (rows : List (List Nat)), vs = [.ref C, .int (w : Int), .str (textT rows)] ∧ 1 ≤ w ∧ w ≤ 6 ∧ (∀ r ∈ rows, RowOk w r) ∧ rows.length ≤ 400 ∧ ∀ (x : Addr) (H' : Hp), Same H H' → H x = none → TableAt K C H' x w rows → Q (.ref x) H'
structure MakeT (P : Program) (w : World) (K : PySem.W.Frag) (mg : Str → Option Value) (base : Heap) (C : Addr) (l : Nat) where
  fN : Addr
  M : Mk K C fN
  ok : ∀ k, l ≤ k → FnR P w K mg base CX0 k fN (spTInitR K C)
structure ReadT (P : Program) (w : World) (K : PySem.W.Frag) (mg : Str → Option Value) (base : Heap) (C : Addr) (l : Nat) where
  mc : Value
  pD : Addr
  fD : Addr
  rD : ClX.CRead K C mc
  cD : ClX.CMet K C mc "read" pD fD
  ok : ∀ k, l ≤ k → FnR P w K mg base CX0 k fD (spTRead K C)
section
variable {P : Program} {w : World} {K : PySem.W.Frag} {mg : Str → Option Value} {base : Heap} {kA : Addr}
abbrev nTI : List Str := ["self", "width", "rows", "row"]
abbrev nTR : List Str := ["cls", "width", "text", "found"]
end
end CC
namespace GD
open PySem PySem.Spec PyProof.Rows L2
/-- a def of the top whose code object is at c -/
structure FunC (K : PySem.W.Frag) (x q : Str) (st : Stmt) (f : Addr) (fd : FuncData) (c : Addr) : Prop where
  ex : ∃ (oc : Value) (od : Option Addr) (kV doc pm : Value) (an : Option Addr) (ct : Value) (osl : Array (Option Value)),
    fd = PySem.W.fnOf x q (defArgs st) (defBody st) (defScope st) .none kV doc pm an (.ref c) ct ∧ K.lookup f = some ⟨oc, od, .func fd, osl⟩ ∧ PySem.W.codeIn K (.ref c) q = true
  kp : PySem.W.keepIn K (.ref f) = true
section
variable {P : Program} {w : World} {K : PySem.W.Frag} {mg : Str → Option Value} {base : Heap} {k : Nat} {f c : Addr} {fd : FuncData} {ps : List Str} {sp : Sp}
theorem fun_okGC {x q : Str} {st : Stmt} {N : List Str} (F : FunC K x q st f fd c) (S : FnScope N ps (defScope st)) (few : ∀ vs H Q E, sp vs H Q E → vs.length = ps.length)
    (body : ∀ (A : Around) (out : List Env) (s : Shared) (H : Hp) (vs : List V) (Q : VK) (E : XK), Calm (A.deeper (envOfC q (defScope st) s.heap.objs.size f (.ref c))) → Room k (A.deeper (envOfC q (defScope st) s.heap.objs.size f (.ref c))) → sp vs H Q E →
      ∃ t, PSs (cxOf CX0 P w K mg base N q (defScope st) f (.ref c) A out s H E).nox (defBody st) t ∧ t { nx := fun _ H' => Q .non H', rt := Q } (start N vs) H) : FnG P w K mg base CX0 (k + 1) f fd ps sp := by
  obtain ⟨oc, od, kV, doc, pm, an, ct, osl, rfl, look, hcd⟩ := F.ex
  constructor
  · exact few
  intro A out s H args us vs Q E calm room e0 bound rel wish
  have keep : ∀ b o, base.get? b = some o → s.heap.get? b = some o := fun b o e => (e0.bs b o e).1
  have inK := e0.mod.kin.keeps keep
  have noL := e0.mod.nolimit.keeps keep
  have size := few _ _ _ _ wish
  refine codeAny_call_function room.depth (inK _ _ look) rfl S.co S.gen rfl (PySem.W.codeRec_of inK hcd) (bound _ _ _ _ ?_)
  refine wpAny_newFunctionEnv_cells S.kind (fun y hy => ?_) fun env he s1 x => ?_
  · rcases S.par y.1 (List.of_mem_zip hy).1 with z | z
    · exact .inl z
    · exact .inr ⟨z, PySem.W.cellsFrom_some _ _ _ (.inl z)⟩
  subst he
  refine ⟨noL.keeps x.toInCall.keep, codeAny_func ?_⟩
  obtain ⟨t, d, r⟩ := body A out s H vs Q E calm (room.deeper _) wish
  have J := inv_start (CX := CX0) (E := E) S room.hd e0 size rel x
  refine wpAny_mono (d.nox.run [] s1 (start N vs) H _ J r) (fun fl s2 z => ?_) fun _ _ z => z
  cases fl with
  | brk => exact z.elim fun _ z => z.elim fun _ z => z.2.elim
  | cont => exact z.elim fun _ z => z.elim fun _ z => z.2.elim
  | next =>
    obtain ⟨τ, H2, J2, q⟩ := z
    exact ⟨.non, H2, J2.os, J2.bare, J2.base, J2.hok, rfl, q⟩
  | ret u =>
    obtain ⟨v, τ, H2, J2, rv, q⟩ := z
    exact ⟨v, H2, J2.os, J2.bare, J2.base, J2.hok, rv, q⟩
end
end GD
namespace CC
open PySem L2 LamX
/-! the heap without its tables of code objects -/
def isTb : HO → Bool
  | .tbl _ => true
  | _ => false
def nt (H : Hp) : Hp := fun b => (H b).filter fun o => !isTb o
section
variable {H H' : Hp} {K : PySem.W.Frag} {b a : Addr} {o : HO} {xs : List V}
theorem nt_at (e : nt H b = some o) : H b = some o ∧ isTb o = false := by
  unfold nt at e
  rw [Option.filter_eq_some_iff] at e
  exact ⟨e.1, by simpa using e.2⟩
theorem nt_of (e : H b = some o) (n : isTb o = false) : nt H b = some o := by
  unfold nt
  rw [Option.filter_eq_some_iff]
  exact ⟨e, by rw [n]; rfl⟩
theorem nt_le : Same (nt H) H := fun b o e => (nt_at e).1
theorem tb_no (n : isTb o = false) (ps : Array Value) : o ≠ .tbl ps := fun z => by
  rw [z] at n
  cases n
theorem ext_nt (e : ExtN H H') : Same (nt H) (nt H') := fun b o q => by
  obtain ⟨q, n⟩ := nt_at q
  exact nt_of (e b o q (tb_no n)) n
theorem nt_same (e : Same H H') : Same (nt H) (nt H') := ext_nt (ExtN.of e)
theorem sql_nt (h : SqL K H a xs) : SqL K (nt H) a xs := by
  rcases h with (h | ⟨o, h⟩) | h
  · exact .inl (.inl (nt_of h rfl))
  · exact .inl (.inr ⟨o, nt_of h rfl⟩)
  · exact .inr h
theorem sqt_nt (h : SqT K H a xs) : SqT K (nt H) a xs := by
  rcases h with (h | ⟨o, h⟩) | h
  · exact .inl (.inl (nt_of h rfl))
  · exact .inl (.inr ⟨o, nt_of h rfl⟩)
  · exact .inr h
theorem nt_T : SameT H (nt H) := ⟨fun b xs h => nt_of h rfl, fun b o xs h => nt_of h rfl⟩
theorem TableAt.nt {C x : Addr} {w : Nat} {rows : List (List Nat)} (h : TableAt K C H x w rows) : TableAt K C (nt H) x w rows := by
  obtain ⟨dx, g, us, h1, h2, h3⟩ := h
  exact ⟨dx, g, us, nt_of h1 rfl, nt_of h2 rfl, gds_T nt_T h3⟩
theorem TableAt.ext {C x : Addr} {w : Nat} {rows : List (List Nat)} (h : TableAt K C H x w rows) (e : ExtN H H') : TableAt K C H' x w rows := (h.nt.same (ext_nt e)).same nt_le
theorem ext_T (e : ExtN H H') : SameT H H' := ⟨fun b xs h => e _ _ h (tb_no rfl), fun b o xs h => e _ _ h (tb_no rfl)⟩
theorem ext_l (e : ExtN H H') (h : SqL K H a xs) : SqL K H' a xs := same_l ((ext_nt e).trans nt_le) (sql_nt h)
/-- the tables still stand -/
theorem tabs_same {T : List (Addr × Str)} (t : Tabs T H) (e : Same H H') : Tabs T H' := t.ext e
/-- what stands before a lambda's body: a raise leaves it -/
theorem takes_lam {X : Cx} {A : Around} {outer : List Env} {s : Shared} {E : XK} {scope : Scope} {f c' : Addr} : Takes (lamCx X A outer s H E scope f c') (fun cls d _ H' => E cls d H') := takes_of rfl rfl rfl rfl
end
end CC
namespace CC
open PySem L2 LamX
section
variable {H H' : Hp} {K : PySem.W.Frag}
mutual
theorem dp_nt : ∀ (d : PyData) (v : V), Dp K H v d → Dp K (nt H) v d
  | .none, _, h => by cases h; exact .non
  | .bool b, _, h => by cases h; exact .bl b
  | .int i, _, h => by cases h; exact .int i
  | .str x, _, h => by cases h; exact .str x
  | .list ds, _, h => by
    cases h with
    | lst hs ha => exact .lst (sql_nt hs) (dps_nt ds _ ha)
  | .tuple ds, _, h => by
    cases h with
    | tup hs ha => exact .tup (sqt_nt hs) (dps_nt ds _ ha)
  | .dict _, _, h => by cases h
theorem dps_nt : ∀ (ds : List PyData) (vs : List V), DpAll K H vs ds → DpAll K (nt H) vs ds
  | [], _, h => by cases h; exact .nil
  | d :: ds, _, h => by
    cases h with
    | cons h1 h2 => exact .cons (dp_nt d _ h1) (dps_nt ds _ h2)
end
theorem dp_ext (e : ExtN H H') (d : PyData) (v : V) (h : Dp K H v d) : Dp K H' v d := dp_same ((ext_nt e).trans nt_le) d v (dp_nt d v h)
theorem dps_ext (e : ExtN H H') (ds : List PyData) (vs : List V) (h : DpAll K H vs ds) : DpAll K H' vs ds := dps_same ((ext_nt e).trans nt_le) ds vs (dps_nt ds vs h)
theorem ext_lst {b : Addr} {xs : List V} (e : ExtN H H') (h : H b = some (.lst xs)) : H' b = some (.lst xs) := e _ _ h (tb_no rfl)
theorem ext_tup {b : Addr} {xs : List V} (e : ExtN H H') (h : H b = some (.tup xs)) : H' b = some (.tup xs) := e _ _ h (tb_no rfl)
theorem ext_upd {b : Addr} {o : HO} (h : H b = none) : ExtN H (upd H b o) := ExtN.of (same_new h)
end
/-- a def of the top whose code object is known -/
structure DfC (K : PySem.W.Frag) (mg : Str → Option Value) (x : Str) (st : Stmt) (ps : List Str) where
  f : Addr
  fd : FuncData
  c : Addr
  F : GD.FunC K x x st f fd c
  b : Binds K fd ps []
  g : mg x = some (.ref f)
end CC
/-! ### a pen: draws that are counted -/
namespace CC
open PySem L2 TL
abbrev sPen : Stmt := tp 31
abbrev sPDraw : Stmt := tp 32
abbrev sPRule : Stmt := tp 33
def IsPen (c : Nat) (o : HO) : Prop := ∃ (a : Int) (b z : Nat), o = .lst [.int a, .int (b : Int), .int (z : Int)] ∧ b < 2147483648 ∧ z ≤ c
def Pen (H : Hp) (s : Addr) (c : Nat) : Prop := ∃ o, H s = some o ∧ IsPen c o
theorem IsPen.mono {c c' : Nat} {o : HO} (h : IsPen c o) (hc : c ≤ c') : IsPen c' o := by
  obtain ⟨a, b, z, e, h1, h2⟩ := h
  exact ⟨a, b, z, e, h1, Nat.le_trans h2 hc⟩
theorem Pen.mono {H : Hp} {s : Addr} {c c' : Nat} (h : Pen H s c) (hc : c ≤ c') : Pen H s c' := by
  obtain ⟨o, h1, h2⟩ := h
  exact ⟨o, h1, h2.mono hc⟩
theorem Pen.lst {H : Hp} {s : Addr} {c : Nat} (h : Pen H s c) : ∃ us, H s = some (.lst us) := by
  obtain ⟨o, h1, a, b, z, e, _⟩ := h
  exact ⟨_, by rw [h1, e]⟩
theorem Pen.same {H H' : Hp} {s : Addr} {c : Nat} (h : Pen H s c) (e : Same H H') : Pen H' s c := by
  obtain ⟨o, h1, h2⟩ := h
  exact ⟨o, e _ _ h1, h2⟩
structure RanP (H H' : Hp) (s : Addr) (c : Nat) : Prop where
  same : Same (wo H s) (wo H' s)
  src : Pen H' s c
section
variable {H H1 H2 : Hp} {s b : Addr} {c c' : Nat} {o : HO}
theorem RanP.refl (h : Pen H s c) : RanP H H s c := ⟨Same.refl _, h⟩
theorem RanP.one (h : IsPen c o) : RanP H (upd H s o) s c := ⟨by rw [wo_upd]; exact Same.refl _, o, upd_same, h⟩
theorem RanP.trans (a : RanP H H1 s c) (b : RanP H1 H2 s c') : RanP H H2 s c' := ⟨a.same.trans b.same, b.src⟩
theorem RanP.grow (a : RanP H H1 s c) (b : Same H1 H2) : RanP H H2 s c := ⟨a.same.trans (wo_same b), a.src.same b⟩
theorem RanP.mono (a : RanP H H1 s c) (h : c ≤ c') : RanP H H1 s c' := ⟨a.same, a.src.mono h⟩
theorem RanP.at_ (a : RanP H H1 s c) (h : H b = some o) (n : b ≠ s) : H1 b = some o := wo_le s _ _ (a.same b o (by rw [wo_ne n]; exact h))
theorem RanP.free (a : RanP H H1 s c) (h : H1 b = none) : H b = none := by
  by_cases e : b = s
  · obtain ⟨o, h1, _⟩ := a.src
    rw [e, h1] at h
    cases h
  · cases z : H b with
    | none => rfl
    | some o =>
      rw [a.at_ z e] at h
      cases h
theorem RanP.ne (a : RanP H H1 s c) (h : H1 b = none) : b ≠ s := fun e => by
  obtain ⟨o, h1, _⟩ := a.src
  rw [e, h1] at h
  cases h
theorem RanP.T (r : RanP H H1 s c) (h : Pen H s c') : SameT H H1 := by
  obtain ⟨us, hs⟩ := h.lst
  constructor
  · intro b xs e
    exact r.at_ e (ne_of e hs (by intro z; cases z))
  · intro b o xs e
    exact r.at_ e (ne_of e hs (by intro z; cases z))
/-- a list beside the pen changes -/
theorem RanP.put {us : List V} {p : Addr} (r : RanP H H1 s c) (hp : H p = none) (n : p ≠ s) : RanP H (upd H1 p o) s c := by
  refine ⟨fun b u e => ?_, ?_⟩
  · have hb : b ≠ s := fun z => by
      rw [z, wo_at] at e
      cases e
    have bp : b ≠ p := fun z => by
      rw [wo_ne hb, z, hp] at e
      cases e
    have := r.same b u e
    rw [wo_ne hb] at this ⊢
    rw [upd_ne bp]
    exact this
  · obtain ⟨o', h1, h2⟩ := r.src
    exact ⟨o', by rw [upd_ne (Ne.symm n)]; exact h1, h2⟩
end
def spPen : Sp := fun vs H Q _ => ∃ z : Int, vs = [.int z] ∧ ∀ p o, H p = none → IsPen 0 o → Q (.ref p) (upd H p o)
def spPDraw : Sp := fun vs H Q _ => ∃ (s : Addr) (m c : Nat), vs = [.ref s, .int (m : Int)] ∧ Pen H s c ∧ c < 1000000 ∧ 0 < m ∧ m < 1000000 ∧ ∀ (r : Nat) (H' : Hp), r < m → RanP H H' s (c + 1) → Q (.int (r : Int)) H'
def spPRule (K : PySem.W.Frag) : Sp := fun vs H Q _ => ∃ (s : Addr) (w c : Nat), vs = [.ref s, .int (w : Int)] ∧ Pen H s c ∧ c < 900000 ∧ 2 ≤ w ∧ w ≤ 6 ∧ ∀ (t : Addr) (r : R) (H' : Hp), r.ok w → RanP H H' s (c + 3) → H t = none → t ≠ s → Dp K H' (.ref t) r.d → Q (.ref t) H'
section
variable {P : Program} {w : World} {K : PySem.W.Frag} {mg : Str → Option Value} {base : Heap} {kA : Addr}
theorem scPen : FnScope ["_law_cell"] ["_law_cell"] (defScope sPen) := ⟨rfl, rfl, rfl, by decide +kernel, rfl, by decide +kernel, by decide +kernel⟩
theorem ok_pen {f : Addr} {fd : FuncData} {k : Nat} (F : Fun K "_law_pen" "_law_pen" sPen f fd) (T : Glb K mg kA) : FnOk P w K mg base CX0 (k + 1) f fd ["_law_cell"] spPen := by
  refine F.ok scPen (fun vs H Q E h => ?_) (fun cdv A outer s H vs Q E hr h => ?_)
  · obtain ⟨z, rfl, _⟩ := h
    rfl
  · obtain ⟨z, rfl, q⟩ := h
    refine ⟨_, (pss_one (ps_ret (pe_lst (pa_cons (pe_callB (call_max2 rfl) (by rfl) T.max (by decide +kernel) (pa_cons pe_int (pa_cons (pe_op op_sub (pv 0) (pe_op op_pow pe_int pe_int)) pa_nil))) (pa_cons (pe_op op_mod (pv 0) pe_int) (pa_cons pe_int pa_nil)))))), ?_⟩
    refine ⟨_, rfl, _, _, rfl, rfl, ⟨by decide, by decide, by decide⟩, _, _, rfl, rfl, _, _, rfl, _, rfl, _, _, rfl, rfl, (by show (0 : Int) < 1000000007; decide), (by show 3 ≤ sizeLine; decide), fun p hp => ?_⟩
    have e : ((z % 1000000007).toNat : Int) = z % 1000000007 := Int.toNat_of_nonneg (by omega)
    have := q p (.lst [.int (if z - 10 ^ Int.toNat 18 > 0 then z - 10 ^ Int.toNat 18 else 0), .int ((z % 1000000007).toNat : Int), .int ((0 : Nat) : Int)]) hp ⟨_, (z % 1000000007).toNat, 0, rfl, by omega, Nat.le_refl _⟩
    rw [e] at this
    exact this
theorem scPDraw : FnScope ["_law_pen_here", "_law_many", "_law_digit", "_law_stir"] ["_law_pen_here", "_law_many"] (defScope sPDraw) := ⟨rfl, rfl, rfl, by decide +kernel, rfl, by decide +kernel, by decide +kernel⟩
theorem nat_r {Q : V → Prop} {m : Nat} {r : Int} (h0 : 0 ≤ r) (h1 : r < (m : Int)) (q : ∀ n : Nat, n < m → Q (.int (n : Int))) : Q (.int r) := by
  have := q r.toNat (by omega)
  rwa [Int.toNat_of_nonneg h0] at this
theorem ok_pdraw {f : Addr} {fd : FuncData} {k : Nat} (F : Fun K "_law_draw" "_law_draw" sPDraw f fd) : FnOk P w K mg base CX0 (k + 1) f fd ["_law_pen_here", "_law_many"] spPDraw := by
  refine F.ok scPDraw (fun vs H Q E h => ?_) (fun cdv A outer s H vs Q E hr h => ?_)
  · obtain ⟨a, m, c, rfl, _⟩ := h
    rfl
  · obtain ⟨a, m, c, rfl, ⟨o, ho, x, y, z, rfl, hy, hz⟩, hc, m0, m1, q⟩ := h
    have n := scPDraw.nd
    have m0' : (0 : Int) < (m : Int) := by omega
    refine ⟨_, (pss_cons (ps_if (pt_cmpR op_gt (pe_ix ix_list (pv 0) pe_int (fun _ _ => rfl)) pe_int (nomark _))
        (pss_cons (ps_set (i := 2) n rfl (.inl rfl) (pe_op op_mod (pe_ix ix_list (pv 0) pe_int (fun _ _ => rfl)) (pv 1)))
        (pss_cons (ps_asg (pe_op op_fdiv (pe_ix ix_list (pv 0) pe_int (fun _ _ => rfl)) (pv 1)) (pg_sub (pv 0) pe_int set_list))
        (pss_one (ps_ret (pv 2))))) pss_nil)
      (pss_cons (ps_asg (pe_op op_add (pe_ix ix_list (pv 0) pe_int (fun _ _ => rfl)) pe_int) (pg_sub (pv 0) pe_int set_list))
      (pss_cons (ps_set (i := 3) n rfl (.inl rfl) (pe_op op_mod (pe_op op_mul (pe_op op_add (pe_ix ix_list (pv 0) pe_int (fun _ _ => rfl)) (pe_op op_mul pe_int (pe_ix ix_list (pv 0) pe_int (fun _ _ => rfl)))) (pe_op op_add pe_int (pe_op op_mul pe_int (pe_ix ix_list (pv 0) pe_int (fun _ _ => rfl))))) pe_int))
      (pss_cons (ps_set (i := 3) n rfl (.inl rfl) (pe_op op_mod (pe_op op_add (pe_op op_add (pe_op op_mul (pv 3) (pv 3)) (pe_op op_mul pe_int (pe_ix ix_list (pv 0) pe_int (fun _ _ => rfl)))) pe_int) pe_int))
      (pss_one (ps_ret (pe_op op_mod (pe_op op_fdiv (pe_op op_mod (pe_op op_mul (pv 3) pe_int) pe_int) pe_int) (pv 1)))))))), ?_⟩
    have hA : SqL K H a [.int x, .int (y : Int), .int (z : Int)] := SqL.of ho
    refine ⟨_, rfl, a, _, _, _, rfl, rfl, hA, rfl, _, _, rfl, rfl, _, rfl, ite2 (fun e => ?_) (fun e => ?_)⟩
    · refine ⟨_, rfl, a, _, _, _, rfl, rfl, hA, rfl, _, rfl, _, _, rfl, rfl, m0', ?_⟩
      refine ⟨_, rfl, a, _, _, _, rfl, rfl, hA, rfl, _, rfl, _, _, rfl, rfl, ⟨m0', by omega⟩, _, rfl, a, _, _, 0, rfl, rfl, ho, rfl, ?_⟩
      refine ⟨_, rfl, ?_⟩
      exact nat_r (Q := fun v => Q v _) (Int.emod_nonneg _ (by omega)) (Int.emod_lt_of_pos _ m0') fun r hr => q r _ hr (.one ⟨_, y, z, rfl, hy, by omega⟩)
    · refine ⟨_, rfl, a, _, _, _, rfl, rfl, hA, rfl, _, _, rfl, rfl, _, rfl, a, _, _, 2, rfl, rfl, ho, rfl, ?_⟩
      have h1 : (upd H a (.lst [.int x, .int (y : Int), .int ((z : Int) + 1)])) a = some (.lst [.int x, .int (y : Int), .int ((z : Int) + 1)]) := upd_same
      have hB := SqL.of (K := K) h1
      refine ⟨_, rfl, a, _, _, _, rfl, rfl, hB, rfl, _, rfl, a, _, _, _, rfl, rfl, hB, rfl, _, _, rfl, rfl, .inl ⟨by decide, by decide⟩, _, _, rfl, rfl, _, rfl, a, _, _, _, rfl, rfl, hB, rfl, _, _, rfl, rfl, .inl ⟨by decide, by decide⟩, _, _, rfl, rfl, _, _, rfl, rfl, .inl ⟨by omega, by omega⟩, _, _, rfl, rfl, (by show (0 : Int) < 2147483647; decide), ?_⟩
      have b0 : 0 ≤ ((y : Int) + 17 * ((z : Int) + 1)) * (69621 + 2 * ((z : Int) + 1)) % 2147483647 := Int.emod_nonneg _ (by decide)
      have b1 : ((y : Int) + 17 * ((z : Int) + 1)) * (69621 + 2 * ((z : Int) + 1)) % 2147483647 < 2147483647 := Int.emod_lt_of_pos _ (by decide)
      refine ⟨_, rfl, _, rfl, _, _, rfl, rfl, .inl ⟨Int.lt_of_lt_of_le (by decide) b0, Int.lt_trans b1 (by decide)⟩, _, rfl, a, _, _, _, rfl, rfl, hB, rfl, _, _, rfl, rfl, .inl ⟨by decide, by decide⟩, _, _, rfl, rfl, _, _, rfl, rfl, _, _, rfl, rfl, (by show (0 : Int) < 2147483629; decide), ?_⟩
      refine ⟨_, rfl, _, _, rfl, rfl, .inr ⟨by decide, by decide⟩, _, _, rfl, rfl, (by show (0 : Int) < 2147483647; decide), _, _, rfl, rfl, ⟨by decide, by decide⟩, _, rfl, _, _, rfl, rfl, m0', ?_⟩
      exact nat_r (Q := fun v => Q v _) (Int.emod_nonneg _ (by omega)) (Int.emod_lt_of_pos _ m0') fun r hr => q r _ hr (.one ⟨_, y, z + 1, by rw [Int.natCast_add]; rfl, hy, by omega⟩)
abbrev nPR : List Str := ["_law_pen_here", "_law_width", "_law_a", "_law_b"]
theorem scPRule : FnScope nPR ["_law_pen_here", "_law_width"] (defScope sPRule) := ⟨rfl, rfl, rfl, by decide +kernel, rfl, by decide +kernel, by decide +kernel⟩
theorem turn_ne {a d w : Nat} (ha : a < w) (hd : d < w - 1) : (a + 1 + d) % w < w ∧ a ≠ (a + 1 + d) % w := by
  refine ⟨Nat.mod_lt _ (by omega), ?_⟩
  by_cases h : a + 1 + d < w
  · rw [Nat.mod_eq_of_lt h]
    omega
  · rw [Nat.mod_eq_sub_mod (by omega), Nat.mod_eq_of_lt (by omega)]
    omega
theorem ok_prule {f : Addr} {fd : FuncData} {k : Nat} (F : Fun K "_law_rule" "_law_rule" sPRule f fd) (cD : Cal P w K mg base "_law_draw" ["_law_pen_here", "_law_many"] spPDraw 1) : FnOk P w K mg base CX0 (k + 2) f fd ["_law_pen_here", "_law_width"] (spPRule K) := by
  have GD := cD.ok (k + 1) (by omega)
  refine F.ok scPRule (fun vs H Q E h => ?_) (fun cdv A outer s H vs Q E hr h => ?_)
  · obtain ⟨s, w, c, rfl, _⟩ := h
    rfl
  · obtain ⟨s, w, c, rfl, hp, hc, w2, w6, q⟩ := h
    have n := scPRule.nd
    refine ⟨_, (pss_cons (ps_set (i := 2) n rfl (.inl rfl) (pe_call GD hr rfl cD.g cD.kp cD.b .nil pass0 (pa_cons (pv 0) (pa_cons (pv 1) pa_nil))))
      (pss_cons (ps_set (i := 3) n rfl (.inl rfl) (pe_op op_mod (pe_op op_add (pe_op op_add (pv 2) pe_int) (pe_call GD hr rfl cD.g cD.kp cD.b .nil pass0 (pa_cons (pv 0) (pa_cons (pe_op op_sub (pv 1) pe_int) pa_nil)))) (pv 1)))
      (pss_one (ps_ret (pe_tup (pa_cons (pe_ix ix_list (pe_lst (pa_cons pe_str (pa_cons pe_str pa_nil))) (pe_call GD hr rfl cD.g cD.kp cD.b .nil pass0 (pa_cons (pv 0) (pa_cons pe_int pa_nil))) (fun _ _ => rfl)) (pa_cons (pv 2) (pa_cons (pv 3) pa_nil)))))))), ?_⟩
    refine ⟨_, rfl, _, rfl, s, w, c, rfl, hp, by omega, by omega, by omega, fun a H1 ha r1 => ?_⟩
    have e1 : ((w : Int) - 1) = ((w - 1 : Nat) : Int) := by omega
    refine ⟨_, rfl, _, _, rfl, rfl, _, rfl, _, rfl, _, _, rfl, rfl, s, w - 1, c + 1, by rw [← e1]; rfl, r1.src, by omega, by omega, by omega, fun d H2 hd r2 => ?_⟩
    refine ⟨_, _, rfl, rfl, _, rfl, _, _, rfl, rfl, (by show (0 : Int) < (w : Int); omega), ?_⟩
    have eb : ((a : Int) + 1 + (d : Int)) % (w : Int) = (((a + 1 + d) % w : Nat) : Int) := by
      rw [Int.natCast_emod]
      rfl
    dsimp only
    rw [eb]
    obtain ⟨hb1, hb2⟩ := turn_ne ha hd
    generalize (a + 1 + d) % w = b at hb1 hb2
    refine ⟨(by show 2 ≤ sizeLine; decide), fun l nl => ?_⟩
    have s3 : Same H2 (upd H2 l (.lst [.str "settles", .str "within"])) := same_new nl
    have hl : (upd H2 l (.lst [.str "settles", .str "within"])) l = some (.lst [.str "settles", .str "within"]) := upd_same
    generalize upd H2 l (.lst [.str "settles", .str "within"]) = H3 at s3 hl
    have r3 := (r1.trans r2).grow s3
    have ls : l ≠ s := fun e => by
      obtain ⟨us, z⟩ := r2.src.lst
      rw [e, z] at nl
      cases nl
    refine ⟨_, rfl, s, 2, c + 1 + 1, rfl, r3.src, by omega, by decide, by decide, fun e H4 he r4 => ?_⟩
    have hl4 := r4.at_ hl ls
    obtain ⟨kb, hk⟩ : ∃ kb : Bool, ([.str "settles", .str "within"] : List V)[e]? = some (.str (kd kb)) := by
      match e, he with
      | 0, _ => exact ⟨true, rfl⟩
      | 1, _ => exact ⟨false, rfl⟩
    refine ⟨l, _, _, _, rfl, rfl, SqL.of hl4, atI_nat hk, _, rfl, _, rfl, (by show 3 ≤ sizeLine; decide), fun t nt => ?_⟩
    have r5 := (r3.trans r4).grow (same_new (o := .tup [.str (kd kb), .int (a : Int), .int (b : Int)]) nt)
    exact q t ⟨kb, a, b⟩ _ ⟨ha, hb1, hb2⟩ r5 (((r3.trans r4).free nt)) ((r3.trans r4).ne nt) (r_dp (r := ⟨kb, a, b⟩) (.inl (.inl upd_same)))
end
end CC
namespace CC
open PySem L2 TL LamX PyProof.Rows
/-- what a law with a pen and lambdas keeps: its script, the pen, the tables of code objects -/
structure WP (K : PySem.W.Frag) (Ts : List (Addr × Str)) (H : Hp) (a p : Addr) (ns : List Int) (c : Nat) : Prop where
  scr : SqL K (wo H p) a (ns.map V.int)
  src : Pen H p c
  tab : Tabs Ts H
section
variable {K : PySem.W.Frag} {Ts : List (Addr × Str)} {H H' : Hp} {a p l t : Addr} {ns : List Int} {w v c c' : Nat}
theorem tabs_pen (t : Tabs Ts H) (s : Pen H p c) (r : RanP H H' p c') : Tabs Ts H' := fun q hq => by
  obtain ⟨us, ho⟩ := s.lst
  obtain ⟨ps, h1, h2, h3⟩ := t q hq
  refine ⟨ps, r.at_ h1 (fun z => by rw [z, ho] at h1; cases h1), h2, fun pos cv hc => ?_⟩
  obtain ⟨c, e1, e2⟩ := h3 pos cv hc
  exact ⟨c, e1, r.at_ e2 (fun z => by rw [z, ho] at e2; unfold CodeO at e2; cases e2)⟩
theorem Pen.extN (h : Pen H p c) (e : ExtN H H') : Pen H' p c := by
  obtain ⟨o, h1, h2⟩ := h
  obtain ⟨i1, i2, i3, eo, _⟩ := id h2
  exact ⟨o, e _ _ h1 (fun ps q => by rw [eo] at q; cases q), h2⟩
theorem WP.grow (z : WP K Ts H a p ns c) (e : Same H H') : WP K Ts H' a p ns c := ⟨same_l (wo_same e) z.scr, z.src.same e, z.tab.ext e⟩
theorem WP.run (z : WP K Ts H a p ns c) (r : RanP H H' p c') : WP K Ts H' a p ns c' := ⟨same_l r.same z.scr, r.src, tabs_pen z.tab z.src r⟩
theorem WP.mono (z : WP K Ts H a p ns c) (h : c ≤ c') : WP K Ts H a p ns c' := ⟨z.scr, z.src.mono h, z.tab⟩
theorem WP.ext (z : WP K Ts H a p ns c) (e : ExtN H H') (t : Tabs Ts H') : WP K Ts H' a p ns c := by
  refine ⟨same_l (fun b u q => ?_) (sql_nt z.scr), z.src.extN e, t⟩
  obtain ⟨q, n⟩ := nt_at q
  have bp : b ≠ p := fun y => by
    rw [y, wo_at] at q
    cases q
  rw [wo_ne bp] at q ⊢
  exact e _ _ q (tb_no n)
theorem WP.new {o : HO} (ha : SqL K H a (ns.map V.int)) (t : Tabs Ts H) (np : H p = none) (ho : IsPen 0 o) : WP K Ts (upd H p o) a p ns 0 :=
  ⟨same_l (fun b u e => by rw [wo_ne (ne_of_none e np), upd_ne (ne_of_none e np)]; exact e) ha, ⟨o, upd_same, ho⟩, t.ext (same_new np)⟩
theorem WP.back (z : WP K Ts H a p ns c) : SqL K H a (ns.map V.int) := same_l (wo_le p) z.scr
theorem RulesAt.pen {C r : Addr} {rs : List R} (h : RulesAt K C H r w rs) (s : Pen H p c) (e : RanP H H' p c') : RulesAt K C H' r w rs := by
  obtain ⟨us, hp⟩ := id s.lst
  obtain ⟨dr, gr, ur, r1, r2, r3⟩ := h
  exact ⟨dr, gr, ur, e.at_ r1 (ne_of r1 hp (by intro z; cases z)), (e.T s).tup _ _ r2, rds_T (e.T s) r3⟩
end
end CC
namespace CC
open PySem L2 TL
abbrev sTx : Stmt := tp 36
def spTx (K : PySem.W.Frag) : Sp := fun vs H Q _ => ∃ (g : Addr) (us : List V) (rs : List R), vs = [.ref g] ∧ SqL K H g us ∧ DpAll K H us (rs.map R.d) ∧ (∀ r ∈ rs, r.ok 6) ∧ rs.length ≤ 60 ∧ ∀ H', Same H H' → Q (.str (textS rs)) H'
section
variable {P : Program} {w : World} {K : PySem.W.Frag} {mg : Str → Option Value} {base : Heap} {kA : Addr}
abbrev nTx : List Str := ["_law_some", "_law_kind", "_law_a", "_law_b"]
theorem scTx : FnScope nTx ["_law_some"] (defScope sTx) := ⟨rfl, rfl, rfl, by decide +kernel, rfl, by decide +kernel, by decide +kernel⟩
theorem ok_tx {f : Addr} {fd : FuncData} {k : Nat} (F : Fun K "_law_text" "_law_text" sTx f fd) (T : Glb K mg kA) : FnOk P w K mg base CX0 (k + 1) f fd ["_law_some"] (spTx K) := by
  refine F.ok scTx (fun vs H Q E h => ?_) (fun cdv A outer s H vs Q E hr h => ?_)
  · obtain ⟨g, us, rs, rfl, _⟩ := h
    rfl
  · obtain ⟨g, us, rs, rfl, hg, dp, ho6, rl, q⟩ := h
    have n := scTx.nd
    refine ⟨_, (pss_one (ps_ret (pe_join pe_str (pe_lc (own := [("_law_kind", 1), ("_law_a", 2), ("_law_b", 3)]) (g := g3 K 1 2 3) (tt := tYes) rfl n (pi_list (pv 0)) (blkOk_by (N := nTx) (sc := defScope sTx) (by decide +kernel))
        (fun _ _ _ _ _ => (pg_tup rfl (pgs_cons (pg_name (i := 1) n rfl (.inl rfl)) (pgs_cons (pg_name (i := 2) n rfl (.inl rfl)) (pgs_cons (pg_name (i := 3) n rfl (.inl rfl)) pgs_nil))))) (fun _ _ _ _ _ => pts_nil) (fun _ _ _ _ _ => (pe_op op_add_str (pe_op op_add_str (pe_op op_add_str (pe_op op_add_str (pe_op op_add_str (pe_callTy call_str_int (by rfl) T.str (by decide +kernel) (pa_cons (pv 2) pa_nil)) pe_str) (pv 1)) pe_str) (pe_callTy call_str_int (by rfl) T.str (by decide +kernel) (pa_cons (pv 3) pa_nil))) pe_str)))))), ?_⟩
    have ul : us.length = rs.length := by rw [dps_len dp, List.length_map]
    refine ⟨⟨_, rfl⟩, _, rfl, g, rfl, ⟨_, hg⟩, fun D nD => ?_⟩
    refine lc_list (xs := us) (fun i H1 => Same H (wo H1 D) ∧ H1 D = some (.lst (((rs.take i).map fun r => lineS r ++ "\n").map V.str))) ⟨?_, upd_same⟩ (fun i H1 _ z => same_l (z.1.trans (wo_le D)) hg) ?_ ?_
    · rw [wo_upd]
      exact fun b o e => by rw [wo_ne (ne_of_none e nD)]; exact e
    · rintro i v H1 hv ⟨e1, e2⟩
      obtain ⟨r, hr2, dr⟩ := dps_rat dp hv
      have il : i < rs.length := (List.getElem?_eq_some_iff.mp hr2).1
      obtain ⟨t, rfl, ht⟩ := dp_r (dp_same (e1.trans (wo_le D)) _ _ dr)
      have ok := ho6 r (List.mem_of_getElem? hr2)
      have hl := List.all_eq_true.mp lens2_all r (mem_allR.mpr ok)
      simp only [Bool.and_eq_true, decide_eq_true_eq] at hl
      obtain ⟨⟨⟨⟨⟨⟨l1, l2⟩, l3⟩, l4⟩, l5⟩, l6⟩, l7⟩ := hl
      have big : ∀ {a b : Nat}, a ≤ 20 → b ≤ 20 → a + b ≤ sizeLine := fun h1 h2 => Nat.le_trans (Nat.add_le_add h1 h2) (by decide)
      have s1 : (" " : Str).length ≤ 20 := by decide +kernel
      have s2 : ("\n" : Str).length ≤ 20 := by decide +kernel
      refine ⟨t, _, rfl, ht, rfl, _, _, rfl, _, _, rfl, _, _, rfl, rfl, rfl, yes_if ?_⟩
      refine ⟨_, rfl, _, rfl, small6 ok.1, _, _, rfl, rfl, big l1 s1, _, rfl, _, _, rfl, rfl, big l2 l7, _, _, rfl, rfl, big l3 s1, _, rfl, _, rfl, small6 ok.2.1, _, _, rfl, rfl, big l4 l6, _, _, rfl, rfl, big l5 s2, ?_⟩
      refine ⟨_, e2, small1000 (by rw [List.length_map, List.length_map, List.length_take]; omega), ?_, ?_⟩
      · rw [wo_upd]
        exact e1
      · rw [upd_same, SG.take_one hr2, List.map_append, List.map_append]
        show some (HO.lst (_ ++ [V.str (lineP r)])) = some (HO.lst (_ ++ [V.str (lineS r ++ "\n")]))
        rw [lineP_eq]
    rintro H1 ⟨e1, e2⟩
    rw [ul, List.take_length] at e2
    have s1 : Same H H1 := e1.trans (wo_le D)
    refine ⟨_, D, rs.map (fun r => lineS r ++ "\n"), rfl, rfl, .inl (SqL.of e2), ?_, ?_⟩
    · have z : ∀ l : List Nat, (∀ x ∈ l, x ≤ 21) → l.sum ≤ 21 * l.length := by
        intro l
        induction l with
        | nil => intro _; simp
        | cons x l ih =>
          intro h
          have h1 := h x List.mem_cons_self
          have h2 := ih fun y hy => h y (List.mem_cons_of_mem _ hy)
          rw [List.sum_cons, List.length_cons]
          omega
      have z1 := z (((rs.map fun r => lineS r ++ "\n")).map (·.length)) fun x hx => by
        obtain ⟨y, hy, rfl⟩ := List.mem_map.mp hx
        obtain ⟨r, hr2, rfl⟩ := List.mem_map.mp hy
        have := (line_of6 (ho6 r hr2)).1
        rw [len_tl] at this
        rw [len_tl, tl_app, List.length_append]
        have e : (tl ("\n" : Str)).length = 1 := by decide +kernel
        omega
      have e0 : (Str.ofString "").length = 0 := by decide +kernel
      rw [List.length_map, List.length_map] at z1
      rw [e0, Nat.mul_zero]
      omega
    · exact q H1 s1
end
end CC
namespace CC
open PySem L2 TL
abbrev sEv : Stmt := tp 40
abbrev sLF : Stmt := tp 41
def spLFol (K : PySem.W.Frag) : Sp := fun vs H Q _ => ∃ (w : Nat) (g : Addr) (us : List V) (rs : List R), vs = [.int (w : Int), .ref g] ∧ SqL K H g us ∧ DpAll K H us (rs.map R.d) ∧ (∀ r ∈ rs, r.ok w) ∧ w ≤ 6 ∧ rs.length ≤ 60 ∧
  ∀ (p : Addr) (us' : List V) (F : R → Bool) (H' : Hp), Same H H' → H p = none → H' p = some (.lst us') → DpAll K (wo H' p) us' ((folL F w).map R.d) → FIs F w rs → Q (.ref p) H'
section
variable {P : Program} {w : World} {K : PySem.W.Frag} {mg : Str → Option Value} {base : Heap} {kA : Addr}
abbrev nEv : List Str := ["_law_width", "_law_found", "_law_kind", "_law_a", "_law_b"]
theorem scEv : FnScope nEv ["_law_width"] (defScope sEv) := ⟨rfl, rfl, rfl, by decide +kernel, rfl, by decide +kernel, by decide +kernel⟩
theorem ok_ev {f : Addr} {fd : FuncData} {k : Nat} (F : Fun K "_law_every" "_law_every" sEv f fd) (T : Glb K mg kA) : FnOk P w K mg base CX0 (k + 1) f fd ["_law_width"] (spAll K) := by
  refine F.ok scEv (fun vs H Q E h => ?_) (fun cdv A outer s H vs Q E hr h => ?_)
  · obtain ⟨z, rfl, _⟩ := h
    rfl
  · obtain ⟨z, rfl, hz, q⟩ := h
    have n := scEv.nd
    refine ⟨_, pss_cons (ps_set (i := 1) n rfl (.inl rfl) (pe_lst pa_nil))
      (pss_cons (ps_for PassesOwn.never rfl (pi_list (pe_lst (pa_cons pe_str (pa_cons pe_str pa_nil)))) (pg_name (i := 2) n rfl (.inr rfl))
        (pss_one (ps_for PassesOwn.never rfl (pi_range1 (by rfl) T.rng (pa_cons (pv 0) pa_nil)) (pg_name (i := 3) n rfl (.inr rfl))
          (pss_one (ps_expr (pe_bm PySem.F.plainAttrs_list PySem.F.slot_list_extend PySem.F.type_list_extend mt_extend (pv 1)
            (pa_cons (pe_lc (own := [("_law_b", 4)]) (g := gName 4) (tt := tTest (tOp rNe (tVar 3) (tVar 4))) rfl n (pi_range1 (by rfl) T.rng (pa_cons (pv 0) pa_nil)) (blkOk_by (N := nEv) (sc := defScope sEv) (by decide +kernel))
              (fun _ _ _ _ _ => pg_name (i := 4) n rfl (.inl rfl)) (fun _ _ _ _ _ => pts_one (pt_cmpR op_ne (pv 3) (pv 4) (nomark _))) (fun _ _ _ _ _ => pe_tup (pa_cons (pv 2) (pa_cons (pv 3) (pa_cons (pv 4) pa_nil))))) pa_nil)))))))
      (pss_one (ps_ret (pv 1)))), ?_⟩
    have ez : ((z : Nat) : Int).toNat = z := by omega
    refine ⟨Nat.zero_le _, fun fo nfo => ?_⟩
    refine ⟨(by show 2 ≤ sizeLine; decide), fun tp2 ntp => ?_⟩
    have tf : tp2 ≠ fo := fun e => by rw [e, upd_same] at ntp; cases ntp
    have h1t : (upd (upd H fo (.lst [])) tp2 (.lst [.str "settles", .str "within"])) tp2 = some (.lst [.str "settles", .str "within"]) := upd_same
    have m1 : MadeF R.d K (upd H tp2 (.lst [.str "settles", .str "within"])) fo 0 (upd (upd H fo (.lst [])) tp2 (.lst [.str "settles", .str "within"])) [] := by
      refine ⟨[], ?_, by rw [upd_ne tf.symm]; exact upd_same, .nil, Nat.le_refl _⟩
      rw [wo_upd_ne _ tf, wo_upd_ne _ tf, wo_upd]
      exact Same.refl _
    have ntH : H tp2 = none := by
      rw [upd_ne tf] at ntp
      exact ntp
    have sH : Same H (upd H tp2 (.lst [.str "settles", .str "within"])) := same_new ntH
    have nf1 : (upd H tp2 (.lst [.str "settles", .str "within"])) fo = none := by
      rw [upd_ne tf.symm]
      exact nfo
    have t0 : (upd H tp2 (.lst [.str "settles", .str "within"])) tp2 = some (.lst [.str "settles", .str "within"]) := upd_same
    generalize upd H tp2 (.lst [.str "settles", .str "within"]) = H0 at m1 sH nf1 t0
    generalize upd (upd H fo (.lst [])) tp2 (.lst [.str "settles", .str "within"]) = H1 at m1 h1t
    refine ⟨tp2, rfl, ⟨_, SqL.of h1t⟩, ?_⟩
    refine for_list (xs := [.str "settles", .str "within"]) (fun i σ H2 => ∃ y2 y3 y4, σ = [some (.int (z : Int)), some (.ref fo), y2, y3, y4] ∧ MadeF R.d K H0 fo (36 * i) H2 (([true, false].take i).flatMap fun k => (List.range z).flatMap fun a => row z a k)) ⟨none, none, none, rfl, m1⟩
      (fun i σ H2 _ ⟨_, _, _, _, p⟩ => SqL.of (p.old nf1 _ _ t0)) ?_ ?_
    · rintro i x σ H2 hx ⟨y2, y3, y4, rfl, p⟩
      obtain ⟨kk, rfl, hi, tk⟩ : ∃ kk : Bool, x = .str (kd kk) ∧ i < 2 ∧ [true, false].take (i + 1) = [true, false].take i ++ [kk] := by
        match i, hx with
        | 0, hx =>
          simp at hx
          exact ⟨true, hx.symm, by decide, rfl⟩
        | 1, hx =>
          simp at hx
          exact ⟨false, hx.symm, by decide, rfl⟩
        | n + 2, hx => simp at hx
      rw [tk, List.flatMap_append]
      generalize ([true, false].take i).flatMap (fun k => (List.range z).flatMap fun a => row z a k) = pre at p
      refine ⟨_, rfl, _, rfl, by omega, by omega, ?_⟩
      refine for_range (lo := 0) (n := ((z : Nat) : Int).toNat) (fun j σ H3 => ∃ y3 y4, σ = [some (.int (z : Int)), some (.ref fo), some (.str (kd kk)), y3, y4] ∧ MadeF R.d K H0 fo (36 * i + 6 * j) H3 (pre ++ (List.range j).flatMap fun a => row z a kk)) ⟨y3, y4, rfl, p.up (by omega) (by simp)⟩ ?_ ?_
      · rintro j σ H3 hj ⟨y3, y4, rfl, p3⟩
        obtain ⟨us3, _, hfo, _⟩ := id p3
        refine ⟨_, rfl, .inl ⟨rfl, _, SqL.of hfo⟩, _, rfl, _, rfl, by omega, by omega, fun D nD => ?_⟩
        have fD : fo ≠ D := ne_of_none hfo nD
        refine lc_range (lo := 0) (n := ((z : Nat) : Int).toNat) (fun l H4 => MadeF R.d K H3 D l H4 (((List.range l).filter fun b => decide (j ≠ b)).map fun b => ⟨kk, j, b⟩)) MadeF.start ?_ ?_
        · intro l H4 hl p4
          refine ⟨rfl, _, rfl, _, rfl, rfl, _, rfl, ?_⟩
          rw [Int.zero_add, Int.zero_add, row_step z j kk l (by omega), List.map_append]
          rw [show (!decide (V.int (j : Int) = V.int (l : Int))) = decide (j ≠ l) from int_ne _ _]
          by_cases e : j = l
          · have e2 : decide (j ≠ l) = false := by rw [e]; simp
            rw [e2, if_pos e]
            exact iteF (p4.up (by omega) (by simp))
          · have e2 : decide (j ≠ l) = true := decide_eq_true e
            rw [e2, if_neg e]
            refine iteT ⟨_, rfl, _, rfl, _, rfl, (by show 3 ≤ sizeLine; decide), fun t nt => ?_⟩
            exact p4.push (r := ⟨kk, j, l⟩) (by omega) (Nat.lt_succ_self _) (same_new nt) (r_dp (r := ⟨kk, j, l⟩) (p4.tup nt))
        · intro H4 p4
          rw [ez] at p4
          have o4 := p4.old nD
          obtain ⟨zs, _, hD, dz, zl⟩ := p4
          have zl2 : zs.length ≤ 6 := by omega
          refine ⟨fo, D, us3, zs, rfl, rfl, o4 _ _ hfo, hD, ?_, ?_⟩
          · have l1 : us3.length ≤ 36 * i + 6 * j := by
              obtain ⟨us4, _, h4, _, h5⟩ := id p3
              rw [hfo] at h4
              cases h4
              exact h5
            exact Nat.le_of_lt (small1000 (by omega))
          · refine ⟨_, _, rfl, ?_⟩
            rw [List.range_succ, List.flatMap_append, ← List.append_assoc]
            have fin := p3.extend (rs2 := row z j kk) (m := 36 * i + 6 * (j + 1)) hfo o4 (zs := zs) ?_ (by omega)
            · simpa using fin
            · exact rds_T ((same_T (wo_le D)).trans (wo_T (o4 _ _ hfo))) dz
      · rintro σ H3 ⟨y3, y4, rfl, p3⟩
        rw [ez] at p3
        refine ⟨_, y3, y4, rfl, p3.up (by omega) ?_⟩
        simp
    · rintro σ H2 ⟨y2, y3, y4, rfl, p⟩
      exact ⟨_, rfl, p.out nf1 sH q⟩
abbrev nLF : List Str := ["_law_width", "_law_some", "_law_settles", "_law_lies", "_law_rule_here"]
theorem scLF : FnScope nLF ["_law_width", "_law_some"] (defScope sLF) := ⟨rfl, rfl, rfl, by decide +kernel, rfl, by decide +kernel, by decide +kernel⟩
theorem ok_lfol {f : Addr} {fd : FuncData} {k : Nat} (F : Fun K "_law_following" "_law_following" sLF f fd) (T : Glb K mg kA) (cA : Cal P w K mg base "_law_pairs" ["_law_width", "_law_some", "_law_kind"] (spArrows K) 2)
 (cR : Cal P w K mg base "_law_reach" ["_law_width", "_law_pairs_here"] (spReach K) 1)
 (cL : Cal P w K mg base "_law_every" ["_law_width"] (spAll K) 1) : FnOk P w K mg base CX0 (k + 3) f fd ["_law_width", "_law_some"] (spLFol K) := by
  have GA := cA.ok (k + 2) (by omega)
  have GR := cR.ok (k + 2) (by omega)
  have GL := cL.ok (k + 2) (by omega)
  refine F.ok scLF (fun vs H Q E h => ?_) (fun cdv A outer s H vs Q E hr h => ?_)
  · obtain ⟨w, g, us, rs, rfl, _⟩ := h
    rfl
  · obtain ⟨w, g, us, rs, rfl, hg, dp, ho, hw, hl, q⟩ := h
    have n := scLF.nd
    refine ⟨_, pss_cons (ps_set (i := 2) n rfl (.inr rfl) (pe_call GR hr rfl cR.g cR.kp cR.b .nil pass0 (pa_cons (pv 0) (pa_cons (pe_call GA hr rfl cA.g cA.kp cA.b .nil pass0 (pa_cons (pv 0) (pa_cons (pv 1) (pa_cons pe_str pa_nil)))) pa_nil))))
      (pss_cons (ps_set (i := 3) n rfl (.inr rfl) (pe_call GR hr rfl cR.g cR.kp cR.b .nil pass0 (pa_cons (pv 0) (pa_cons (pe_call GA hr rfl cA.g cA.kp cA.b .nil pass0 (pa_cons (pv 0) (pa_cons (pv 1) (pa_cons pe_str pa_nil)))) pa_nil))))
      (pss_one (ps_ret (pe_lc (own := [("_law_rule_here", 4)]) (g := gName 4) (tt := tB (tOp (rIxL K) (tOp (rIxL K) (tIf (tTest (tOp rEq (tOp (rIxT K) (tVar 4) (tC (.int 0))) (tC (.str "settles")))) (tVar 2) (tVar 3)) (tOp (rIxT K) (tVar 4) (tC (.int 1)))) (tOp (rIxT K) (tVar 4) (tC (.int 2))))) rfl n (pi_list (pe_call GL hr rfl cL.g cL.kp cL.b .nil pass0 (pa_cons (pv 0) pa_nil))) (blkOk_by (N := nLF) (sc := defScope sLF) (by decide +kernel))
          (fun _ _ _ _ _ => pg_name (i := 4) n rfl (.inl rfl))
          (fun _ _ _ _ _ => pts_one (pt_val (pe_ix ix_list (pe_ix ix_list (pe_ifExp (pt_cmpR op_eq (pe_ix ix_tup (pv 4) pe_int (fun _ _ => rfl)) pe_str (nomark _)) (pv 2) (pv 3)) (pe_ix ix_tup (pv 4) pe_int (fun _ _ => rfl)) (fun _ _ => rfl)) (pe_ix ix_tup (pv 4) pe_int (fun _ _ => rfl)) (fun _ _ => rfl))))
          (fun _ _ _ _ _ => pv 4))))), ?_⟩
    have plt : ∀ {k : Bool} {ps : List (Nat × Nat)}, (∀ x y, (x, y) ∈ ps ↔ Lk rs k x y) → ∀ x ∈ ps, x.1 < w ∧ x.2 < w := fun {k ps} h x hx => by
      obtain ⟨a, b⟩ := x
      exact lk_lt ho ((h a b).mp hx)
    refine ⟨_, rfl, _, rfl, _, rfl, w, g, us, rs, true, rfl, hg, dp, ho, hw, hl, fun p1 u1 ps1 H1 s1 np1 hp1 d1 k1 => ?_⟩
    refine ⟨w, p1, u1, ps1, rfl, hw, SqL.of hp1, dps_same (wo_le p1) _ _ d1, plt k1, fun ta M1 H2 s2 nta mt1 hM1 => ?_⟩
    have s12 : Same H H2 := s1.trans s2
    refine ⟨_, rfl, _, rfl, _, rfl, w, g, us, rs, false, rfl, same_l s12 hg, dps_same s12 _ _ dp, ho, hw, hl, fun p3 u3 ps3 H3 s3 np3 hp3 d3 k3 => ?_⟩
    refine ⟨w, p3, u3, ps3, rfl, hw, SqL.of hp3, dps_same (wo_le p3) _ _ d3, plt k3, fun tb M2 H4 s4 ntb mt2 hM2 => ?_⟩
    have s24 : Same H2 H4 := s3.trans s4
    refine ⟨_, rfl, w, rfl, hw, fun pa ua H5 s5 npa hpa da => ⟨pa, rfl, ⟨_, SqL.of hpa⟩, fun D nD => ?_⟩⟩
    have da5 : DpAll K H5 ua ((allR w).map R.d) := dps_same (wo_le pa) _ _ da
    have al : (allR w).length ≤ 60 := few_rules hw (fun r h => mem_allR.mp h) (allR_nodup hw)
    have ual : ua.length = (allR w).length := by rw [dps_len da5, List.length_map]
    refine lc_list (xs := ua) (fun i H6 => MadeF R.d K H5 D i H6 (((allR w).take i).filter fun r => (if r.k then M1 else M2) r.a r.b)) MadeF.start (fun i H6 _ z => SqL.of (z.old nD _ _ hpa)) ?_ ?_
    · intro i v H6 hv p
      obtain ⟨r, hr2, dr⟩ := dps_rat da5 hv
      have il : i < (allR w).length := (List.getElem?_eq_some_iff.mp hr2).1
      have o6 := p.old nD
      have hm := mem_allR.mp (List.mem_of_getElem? hr2)
      obtain ⟨t, rfl, ht⟩ := dp_r (dp_same o6 _ _ dr)
      obtain ⟨rows1, R1, R2⟩ := ((mt1.same s24).same (s5.trans o6)).at_
      obtain ⟨rows2, S1, S2⟩ := (mt2.same (s5.trans o6)).at_
      obtain ⟨rx, x1, x2⟩ := R2 r.a hm.1
      obtain ⟨ry, y1, y2⟩ := S2 r.a hm.1
      rw [filter_step hr2]
      have tail : ∀ b : Bool, (if r.k then M1 else M2) r.a r.b = b → (if b = true then (tVar 4) [some (.int (w : Int)), some (.ref g), some (.ref ta), some (.ref tb), some (.ref t)] H6
          (fun y H4 => ∃ acc, H4 D = some (.lst acc) ∧ acc.length < sizeLine ∧ MadeF R.d K H5 D (i + 1) (upd H4 D (.lst (acc ++ [y]))) (((allR w).take i).filter (fun r => (if r.k then M1 else M2) r.a r.b) ++ (if (if r.k then M1 else M2) r.a r.b = true then [r] else [])))
          else MadeF R.d K H5 D (i + 1) H6 (((allR w).take i).filter (fun r => (if r.k then M1 else M2) r.a r.b) ++ (if (if r.k then M1 else M2) r.a r.b = true then [r] else []))) := fun b hb => by
        rw [hb]
        cases b with
        | false => exact iteF (p.up (by omega) (by simp))
        | true =>
          refine iteT ⟨_, rfl, ?_⟩
          exact p.push (r := r) (by omega) (Nat.lt_succ_self _) (Same.refl _) (rd_T (p.woT) (r_dp ht))
      refine ⟨rfl, _, rfl, t, _, 0, _, rfl, rfl, ht, atI_nat (j := 0) rfl, rfl, _, rfl, ?_⟩
      rw [show decide (V.str (kd r.k) = V.str (Str.ofString "settles")) = r.k from kd_eq r.k]
      cases hk : r.k with
      | true =>
        rw [hk] at tail
        refine iteT ⟨_, rfl, _, rfl, t, _, 1, _, rfl, rfl, ht, atI_nat (j := 1) rfl, ta, _, _, _, rfl, rfl, R1, atI_nat x1, _, rfl, t, _, 2, _, rfl, rfl, ht, atI_nat (j := 2) rfl, rx, _, _, _, rfl, rfl, x2, atI_nat (brow_at hm.2.1), _, rfl, ?_⟩
        exact tail _ rfl
      | false =>
        rw [hk] at tail
        refine iteF ⟨_, rfl, _, rfl, t, _, 1, _, rfl, rfl, ht, atI_nat (j := 1) rfl, tb, _, _, _, rfl, rfl, S1, atI_nat y1, _, rfl, t, _, 2, _, rfl, rfl, ht, atI_nat (j := 2) rfl, ry, _, _, _, rfl, rfl, y2, atI_nat (brow_at hm.2.1), _, rfl, ?_⟩
        exact tail _ rfl
    · intro H6 p
      rw [ual, List.take_length] at p
      have o6 := p.old nD
      obtain ⟨uf, _, hf, df, _⟩ := p
      have sH : Same H H5 := s12.trans (s24.trans s5)
      refine q D uf (fun r => (if r.k then M1 else M2) r.a r.b) H6 (sH.trans o6) (sH.free nD) hf df fun r hr2 => ?_
      unfold Fol
      cases hk : r.k with
      | true =>
        rw [← rch_rt k1, ← hM1 _ _ hr2.1 hr2.2.1]
        show ((if r.k = true then M1 else M2) r.a r.b) = true ↔ _
        rw [if_pos hk]
      | false =>
        rw [← rch_rt k3, ← hM2 _ _ hr2.1 hr2.2.1]
        show ((if r.k = true then M1 else M2) r.a r.b) = true ↔ _
        rw [if_neg (by rw [hk]; decide)]
end
end CC
namespace CC
open PySem L2 TL
abbrev sRTxt : Stmt := inClass (tp 25) 9
def spRTxt (K : PySem.W.Frag) (C : Addr) : Sp := fun vs H Q _ => ∃ (x : Addr) (w : Nat) (rs : List R), vs = [.ref x] ∧ RulesAt K C H x w rs ∧ (∀ r ∈ rs, r.ok 6) ∧ rs.length ≤ 60 ∧ ∀ H', Same H H' → Q (.str (textS rs)) H'
/-- rules.text() -/
structure TxtR (P : Program) (w : World) (K : PySem.W.Frag) (mg : Str → Option Value) (base : Heap) (C : Addr) (l : Nat) where
  f : Addr
  fd : FuncData
  m : Meth K C "text" f
  ok : ∀ k, l ≤ k → FnOk P w K mg base CX0 k f fd ["self"] (spRTxt K C)
  b : Binds K fd ["self"] []
def tLn (K : PySem.W.Frag) : TE := fun σ H Q => tJs [tFmt (tCall (spLine K) [] E0 (tCons (tVar 1) tNil)), tC (.str "\n")] Str.empty σ H fun out H1 => Q (V.str out) H1
theorem lineE_all : ((allR 6).all fun r => decide ((Str.empty ++ lineS r).length ≤ 20) && decide ((Str.empty ++ lineS r ++ "\n").length ≤ 21) && decide ((lineS r).length ≤ 20) && ((Str.empty ++ lineS r ++ "\n") == (lineS r ++ "\n"))) = true := by decide +kernel
theorem textS_fits {rs : List R} (ok : ∀ r ∈ rs, r.ok 6) (few : rs.length ≤ 60) : ((rs.map fun r => lineS r ++ "\n").map (·.length)).sum ≤ 2000 := by
  have z : ∀ l : List Nat, (∀ x ∈ l, x ≤ 21) → l.sum ≤ 21 * l.length := by
    intro l
    induction l with
    | nil => intro _; simp
    | cons x l ih =>
      intro h
      have h1 := h x List.mem_cons_self
      have h2 := ih fun y hy => h y (List.mem_cons_of_mem _ hy)
      rw [List.sum_cons, List.length_cons]
      omega
  have := z ((rs.map fun r => lineS r ++ "\n").map (·.length)) fun x hx => by
    obtain ⟨y, hy, rfl⟩ := List.mem_map.mp hx
    obtain ⟨r, hr, rfl⟩ := List.mem_map.mp hy
    have hl := List.all_eq_true.mp lineE_all r (mem_allR.mpr (ok r hr))
    simp only [Bool.and_eq_true, decide_eq_true_eq] at hl
    rw [← eq_of_beq hl.2]
    exact hl.1.1.2
  rw [List.length_map, List.length_map] at this
  omega
section
variable {P : Program} {w : World} {K : PySem.W.Frag} {mg : Str → Option Value} {base : Heap} {kA : Addr}
abbrev nRx : List Str := ["self", "rule"]
theorem scRTxt : FnScope nRx ["self"] (defScope sRTxt) := ⟨rfl, rfl, rfl, by decide +kernel, rfl, by decide +kernel, by decide +kernel⟩
theorem ok_rtxt {f C : Addr} {fd : FuncData} {k : Nat} (F : Fun K "text" "Rules.text" sRTxt f fd) (TC : Txt1 K mg C) (cL : Cal P w K mg base "line_of" ["rule"] (spLine K) 1) : FnOk P w K mg base CX0 (k + 2) f fd ["self"] (spRTxt K C) := by
  have GL := cL.ok (k + 1) (by omega)
  refine F.ok scRTxt (fun vs H Q E h => ?_) (fun cdv A outer s H vs Q E hr h => ?_)
  · obtain ⟨x, m, rs, rfl, _⟩ := h
    rfl
  · obtain ⟨x, m, rs, rfl, ⟨dx, g, us, h1, h2, h3⟩, ok, few, q⟩ := h
    have n := scRTxt.nd
    have ul : us.length = rs.length := by rw [dps_len h3, List.length_map]
    refine ⟨_, (pss_one (ps_ret (pe_join pe_str (pe_lc (own := [("rule", 1)]) (g := gName 1) (tt := tYes) (te := tLn K) rfl n (pi_tup (pe_fld (pv 0) rfl)) (blkOk_by (N := nRx) (sc := defScope sRTxt) (by decide +kernel))
      (fun _ _ _ _ _ => (pg_name (i := 1) n rfl (.inl rfl))) (fun _ _ _ _ _ => pts_nil) (fun _ _ _ _ _ => (pe_joined (.cons (pe_fmt (pe_call GL hr rfl cL.g cL.kp cL.b .nil pass0 (pa_cons (pv 1) pa_nil))) (.cons pe_str .nil)))))))), ?_⟩
    refine ⟨⟨_, rfl⟩, _, rfl, x, C, dx, _, _, rfl, h1, TC.cl, TC.nG, flds_given _ _, g, rfl, ⟨_, .inl (.inl h2)⟩, fun D nD => ?_⟩
    refine lc_tup (xs := us) (fun i H1 => Same H (wo H1 D) ∧ H1 D = some (.lst (((rs.take i).map fun r => lineS r ++ "\n").map V.str))) ⟨?_, upd_same⟩ (fun i H1 _ z => .inl (.inl (wo_le D _ _ (z.1 _ _ h2)))) ?_ ?_
    · rw [wo_upd]
      exact fun b o e => by rw [wo_ne (ne_of_none e nD)]; exact e
    · rintro i v H1 hv ⟨e1, e2⟩
      obtain ⟨r, hr2, dr⟩ := dps_rat h3 hv
      have il : i < rs.length := (List.getElem?_eq_some_iff.mp hr2).1
      have rk := ok r (List.mem_of_getElem? hr2)
      have hl := List.all_eq_true.mp lineE_all r (mem_allR.mpr rk)
      simp only [Bool.and_eq_true, decide_eq_true_eq] at hl
      obtain ⟨⟨⟨l1, l2⟩, l3⟩, l4⟩ := hl
      have l4 := eq_of_beq l4
      have big : ∀ {n : Nat}, n ≤ 21 → n ≤ sizeLine := fun h => Nat.le_trans h (by decide)
      refine ⟨rfl, yes_if ⟨_, rfl, v, r, rfl, dp_same (e1.trans (wo_le D)) _ _ dr, rk, .inl ⟨_, rfl, big (by omega), _, rfl, big (by omega), _, rfl, big l2, ?_⟩⟩⟩
      refine ⟨_, e2, small1000 (by rw [List.length_map, List.length_map, List.length_take]; omega), ?_, ?_⟩
      · rw [wo_upd]
        exact e1
      · rw [upd_same, SG.take_one hr2, List.map_append, List.map_append]
        show some (HO.lst (_ ++ [V.str (Str.empty ++ lineS r ++ "\n")])) = some (HO.lst (_ ++ [V.str (lineS r ++ "\n")]))
        rw [l4]
    rintro H1 ⟨e1, e2⟩
    rw [ul, List.take_length] at e2
    refine ⟨_, D, rs.map (fun r => lineS r ++ "\n"), rfl, rfl, .inl (SqL.of e2), ?_, ?_⟩
    · have := textS_fits ok few
      have e0 : (Str.ofString "").length = 0 := by decide +kernel
      rw [e0, Nat.mul_zero]
      omega
    · exact q H1 (e1.trans (wo_le D))
end
end CC
namespace CC
open PySem L2 TL
abbrev sRing : Stmt := tp 34
theorem perm_pull {α : Type} : ∀ {l : List α} {r : Nat} {x : α}, l[r]? = some x → (x :: l.eraseIdx r).Perm l
  | [], _, _, h => by simp at h
  | y :: l, 0, x, h => by
    simp at h
    subst h
    exact List.Perm.refl _
  | y :: l, r + 1, x, h => by
    have h' : l[r]? = some x := by simpa using h
    show (x :: y :: l.eraseIdx r).Perm (y :: l)
    exact (List.Perm.swap y x _).trans ((perm_pull h').cons y)
theorem map_pull {α β : Type} (f : α → β) : ∀ (l : List α) (r : Nat), (l.map f).eraseIdx r = (l.eraseIdx r).map f
  | [], _ => rfl
  | y :: l, 0 => rfl
  | y :: l, r + 1 => congrArg (f y :: ·) (map_pull f l r)
theorem rot_ne {S : List Nat} (nd : S.Nodup) (h2 : 2 ≤ S.length) {i a b : Nat} (ha : S[i]? = some a) (hb : (S.drop 1 ++ S.take 1)[i]? = some b) : a ≠ b ∧ b ∈ S := by
  match S, h2 with
  | x :: y :: r, _ =>
    have eb : (y :: r ++ [x])[i]? = some b := hb
    refine ⟨fun e => ?_, ?_⟩
    · subst e
      by_cases hi : i < (y :: r).length
      · rw [List.getElem?_append_left hi] at eb
        have h1 : (x :: y :: r)[i + 1]? = some a := by simpa using eb
        obtain ⟨l1, e1⟩ := List.getElem?_eq_some_iff.mp ha
        obtain ⟨l2, e2⟩ := List.getElem?_eq_some_iff.mp h1
        have := (List.getElem_inj nd).mp (e1.trans e2.symm)
        omega
      · have hl := (List.getElem?_eq_some_iff.mp eb).1
        rw [List.length_append, List.length_singleton] at hl
        have ei : i = (y :: r).length := by omega
        rw [List.getElem?_append_right (by omega), ei, Nat.sub_self] at eb
        have ex : x = a := by simpa using eb
        subst ex
        obtain ⟨l1, e1⟩ := List.getElem?_eq_some_iff.mp ha
        have := (List.getElem_inj (j := 0) (h₁ := by simp) nd).mp (e1.trans rfl)
        rw [this] at ei
        simp at ei
    · have := List.mem_of_getElem? eb
      simp at this ⊢
      rcases this with h | h | h
      · exact .inr (.inl h)
      · exact .inr (.inr h)
      · exact .inl h
/-- a list of rules in the making, beside a pen -/
structure LP (K : PySem.W.Frag) (H H' : Hp) (s l : Addr) (w m c : Nat) : Prop where
  ran : RanP H H' s c
  new : H l = none
  nes : l ≠ s
  lst : ∃ (us : List V) (rs : List R), H' l = some (.lst us) ∧ DpAll K H' us (rs.map R.d) ∧ (∀ r ∈ rs, r.ok w) ∧ rs.length ≤ m
section
variable {K : PySem.W.Frag} {H H' H'' : Hp} {s l p : Addr} {w m m' c c' : Nat}
theorem LP.grow (a : LP K H H' s l w m c) (e : Same H' H'') : LP K H H'' s l w m c := by
  obtain ⟨us, rs, h1, h2, h3, h4⟩ := a.lst
  exact ⟨a.ran.grow e, a.new, a.nes, us, rs, e _ _ h1, dps_same e _ _ h2, h3, h4⟩
theorem LP.run (a : LP K H H' s l w m c) (e : RanP H' H'' s c') : LP K H H'' s l w m c' := by
  obtain ⟨us, rs, h1, h2, h3, h4⟩ := a.lst
  exact ⟨a.ran.trans e, a.new, a.nes, us, rs, e.at_ h1 a.nes, rds_T (e.T a.ran.src) h2, h3, h4⟩
theorem LP.up (a : LP K H H' s l w m c) (h : m ≤ m') (h2 : c ≤ c') : LP K H H' s l w m' c' := by
  obtain ⟨us, rs, g1, g2, g3, g4⟩ := a.lst
  exact ⟨a.ran.mono h2, a.new, a.nes, us, rs, g1, g2, g3, Nat.le_trans g4 h⟩
theorem LP.fresh (a : RanP H H' s c) (h : H' l = none) : LP K H (upd H' l (.lst [])) s l w 0 c :=
  ⟨a.grow (same_new h), a.free h, a.ne h, [], [], upd_same, .nil, (fun r hr => nomatch hr), Nat.le_refl _⟩
theorem LP.push (a : LP K H H' s l w m c) {v : V} {r : R} (d : Dp K H' v r.d) (hr : r.ok w) : ∃ acc, H' l = some (.lst acc) ∧ acc.length ≤ m ∧ LP K H (upd H' l (.lst (acc ++ [v]))) s l w (m + 1) c := by
  obtain ⟨us, rs, h1, h2, h3, h4⟩ := a.lst
  have ul : us.length = rs.length := by rw [dps_len h2, List.length_map]
  refine ⟨us, h1, by omega, a.ran.put (us := us) a.new a.nes, a.new, a.nes, us ++ [v], rs ++ [r], upd_same, ?_, ?_, ?_⟩
  · rw [List.map_append]
    exact dps_app (rds_T (upd_T h1) h2) (.cons (rd_T (upd_T h1) d) .nil)
  · intro x hx
    rcases List.mem_append.mp hx with z | z
    · exact h3 x z
    · rw [List.mem_singleton.mp z]
      exact hr
  · rw [List.length_append, List.length_singleton]
    omega
/-- another list of the same heap changes -/
theorem LP.put {o : HO} {us : List V} (a : LP K H H' s l w m c) (hp : H' p = some (.lst us)) (hn : H p = none) (n : p ≠ s) (nl : l ≠ p) : LP K H (upd H' p o) s l w m c := by
  obtain ⟨vs, rs, h1, h2, h3, h4⟩ := a.lst
  exact ⟨a.ran.put (us := us) hn n, a.new, a.nes, vs, rs, by rw [upd_ne nl]; exact h1, rds_T (upd_T hp) h2, h3, h4⟩
end
def NewP (K : PySem.W.Frag) (H : Hp) (s : Addr) (w n c : Nat) (Q : VK) : Prop := ∀ (p : Addr) (H' : Hp), LP K H H' s p w n c → Q (.ref p) H'
def spRing (K : PySem.W.Frag) : Sp := fun vs H Q _ => ∃ (s : Addr) (w c : Nat), vs = [.ref s, .int (w : Int)] ∧ Pen H s c ∧ c < 900000 ∧ 2 ≤ w ∧ w ≤ 6 ∧ NewP K H s w 6 (c + 14) Q
section
variable {P : Program} {w : World} {K : PySem.W.Frag} {mg : Str → Option Value} {base : Heap} {kA : Addr}
abbrev nRg : List Str := ["_law_pen_here", "_law_width", "_law_left", "_law_some", "_law_turn", "_law_found", "_law_a", "_law_b", "_law_kind"]
theorem scRing : FnScope nRg ["_law_pen_here", "_law_width"] (defScope sRing) := ⟨rfl, rfl, rfl, by decide +kernel, rfl, by decide +kernel, by decide +kernel⟩
theorem ok_ring {f : Addr} {fd : FuncData} {k : Nat} (F : Fun K "_law_ring" "_law_ring" sRing f fd) (T : Glb K mg kA) (cD : Cal P w K mg base "_law_draw" ["_law_pen_here", "_law_many"] spPDraw 1) : FnOk P w K mg base CX0 (k + 2) f fd ["_law_pen_here", "_law_width"] (spRing K) := by
  have GD := cD.ok (k + 1) (by omega)
  refine F.ok scRing (fun vs H Q E h => ?_) (fun cdv A outer s H vs Q E hr h => ?_)
  · obtain ⟨s, w, c, rfl, _⟩ := h
    rfl
  · obtain ⟨s, w, c, rfl, hp, hc, w2, w6, q⟩ := h
    have n := scRing.nd
    refine ⟨_, (pss_cons (ps_par (i := 2) (j := 3) rfl n rfl rfl (by decide) rfl rfl (pa_cons (pe_listRg rfl (by rfl) T.lst (prg_1 (by rfl) T.rng (pv 1))) (pa_cons (pe_lst pa_nil) pa_nil)) (by rfl))
      (pss_cons (ps_for PassesOwn.never rfl (pi_range1 (by rfl) T.rng (pa_cons (pe_op op_add pe_int (pe_call GD hr rfl cD.g cD.kp cD.b .nil pass0 (pa_cons (pv 0) (pa_cons (pe_op op_sub (pv 1) pe_int) pa_nil)))) pa_nil)) (pg_name (i := 4) n rfl (.inl rfl))
        (pss_one (ps_expr (pe_bm PySem.F.plainAttrs_list PySem.F.slot_list_append PySem.F.type_list_append mt_append (pv 3) (pa_cons (pe_bm PySem.F.plainAttrs_list PySem.F.slot_list_pop PySem.F.type_list_pop mt_popAt (pv 2) (pa_cons (pe_call GD hr rfl cD.g cD.kp cD.b .nil pass0 (pa_cons (pv 0) (pa_cons (pe_callB call_len_seq (by rfl) T.len PySem.boot_len (pa_cons (pv 2) pa_nil)) pa_nil))) pa_nil)) pa_nil)))))
      (pss_cons (ps_set (i := 5) n rfl (.inl rfl) (pe_lst pa_nil))
      (pss_cons (ps_for PassesOwn.never rfl (pi_zip (by rfl) T.zip (pa_cons (pv 3) (pa_cons (pe_op op_cat (pe_slice sl_list (pv 3) (po_some pe_int) po_none) (pe_slice sl_list (pv 3) po_none (po_some pe_int))) pa_nil))) (pg_tup rfl (pgs_cons (pg_name (i := 6) n rfl (.inl rfl)) (pgs_cons (pg_name (i := 7) n rfl (.inl rfl)) pgs_nil)))
        (pss_one (ps_expr (pe_bm PySem.F.plainAttrs_list PySem.F.slot_list_append PySem.F.type_list_append mt_append (pv 5) (pa_cons (pe_ifExp (pt_cmpR op_eq (pe_call GD hr rfl cD.g cD.kp cD.b .nil pass0 (pa_cons (pv 0) (pa_cons pe_int pa_nil))) pe_int (nomark _)) (pe_tup (pa_cons pe_str (pa_cons (pv 6) (pa_cons (pv 7) pa_nil)))) (pe_tup (pa_cons pe_str (pa_cons (pv 7) (pa_cons (pv 6) pa_nil))))) pa_nil)))))
      (pss_cons (ps_if (pt_cmpR op_eq (pe_call GD hr rfl cD.g cD.kp cD.b .nil pass0 (pa_cons (pv 0) (pa_cons pe_int pa_nil))) pe_int (nomark _))
        (pss_cons (ps_asg (pe_ix ix_list (pv 5) pe_int (fun _ _ => rfl)) (pg_tup rfl (pgs_cons (pg_name (i := 8) n rfl (.inl rfl)) (pgs_cons (pg_name (i := 6) n rfl (.inl rfl)) (pgs_cons (pg_name (i := 7) n rfl (.inl rfl)) pgs_nil)))))
        (pss_one (ps_asg (pe_tup (pa_cons (pv 8) (pa_cons (pv 7) (pa_cons (pv 6) pa_nil)))) (pg_sub (pv 5) pe_int set_list))))
        pss_nil)
      (pss_one (ps_ret (pv 5)))))))), ?_⟩
    refine ⟨_, rfl, _, rfl, RgOk.of_le (by omega) (by omega) (by omega) (by omega), fun l nl => ?_⟩
    rw [cols_rg]
    refine ⟨Nat.zero_le _, fun so nso => ⟨_, _, rfl, ?_⟩⟩
    have s1 : Same H (upd (upd H l (.lst (cols w))) so (.lst [])) := (same_new nl).trans (same_new nso)
    have lso : l ≠ so := fun e => by rw [← e, upd_same] at nso; cases nso
    have hl1 : (upd (upd H l (.lst (cols w))) so (.lst [])) l = some (.lst (nms (List.range w))) := by rw [upd_ne lso]; exact upd_same
    have hso1 : (upd (upd H l (.lst (cols w))) so (.lst [])) so = some (.lst (nms [])) := upd_same
    have nso0 : H so = none := by
      have z := nso
      rw [upd_ne (Ne.symm lso)] at z
      exact z
    generalize upd (upd H l (.lst (cols w))) so (.lst []) = H1 at s1 hl1 hso1
    have r1 : RanP H H1 s c := (RanP.refl hp).grow s1
    obtain ⟨pu, hs0⟩ := hp.lst
    have ls : l ≠ s := (ne_of_none hs0 nl).symm
    have sos : so ≠ s := (ne_of_none hs0 nso0).symm
    have e1 : ((w : Int) - 1) = ((w - 1 : Nat) : Int) := by omega
    refine ⟨_, rfl, _, rfl, _, _, rfl, rfl, s, w - 1, c, by rw [← e1]; rfl, r1.src, by omega, by omega, by omega, fun d H2 hd r2 => ?_⟩
    refine ⟨_, _, rfl, rfl, _, rfl, by omega, by omega, ?_⟩
    have en : (2 + (d : Int)).toNat = d + 2 := by omega
    refine for_range (lo := 0) (n := (2 + (d : Int)).toNat) (fun i σ H' => ∃ (y4 : Option V) (L S : List Nat), σ = [some (.ref s), some (.int (w : Int)), some (.ref l), some (.ref so), y4, none, none, none, none] ∧ RanP H H' s (c + 1 + i) ∧ H' l = some (.lst (nms L)) ∧ H' so = some (.lst (nms S)) ∧ S.length = i ∧ S.length + L.length = w ∧ (S ++ L).Nodup ∧ ∀ x ∈ S ++ L, x < w)
      ⟨none, List.range w, [], rfl, (r1.trans r2).mono (by omega), r2.at_ hl1 ls, r2.at_ hso1 sos, rfl, by simp, by simpa using List.nodup_range, by simp⟩ ?_ ?_
    · rintro i σ H3 hi ⟨y4, L, S, rfl, r3, hl3, hso3, sl, sw, nd, lt⟩
      have iw : i < w := by omega
      have Ll : (nms L).length = L.length := nms_len L
      refine ⟨_, rfl, .inl ⟨rfl, _, SqL.of hso3⟩, _, rfl, .inl ⟨rfl, _, SqL.of hl3⟩, _, rfl, _, rfl, l, _, rfl, .inl (SqL.of hl3), ?_⟩
      refine ⟨s, L.length, c + 1 + i, by rw [Ll]; rfl, r3.src, by omega, by omega, by omega, fun r H4 hr4 r4 => ?_⟩
      have hl4 := r4.at_ hl3 ls
      have hso4 := r4.at_ hso3 sos
      have gx : L[r]? = some L[r] := List.getElem?_eq_getElem hr4
      have gv : (nms L)[r]? = some (.int ((L[r] : Nat) : Int)) := by
        rw [nms, List.getElem?_map, gx]
        rfl
      have ix := (ixN_seq (n := (nms L).length) (i := (r : Int)) (j := r) (by
        unfold ixN
        rw [if_pos (by omega), if_pos (by rw [Ll]; omega)]
        simp)).1
      refine ⟨l, _, _, r, _, rfl, rfl, hl4, by omega, by omega, ix, gv, ?_⟩
      have hso5 : (upd H4 l (.lst ((nms L).eraseIdx r))) so = some (.lst (nms S)) := by rw [upd_ne (Ne.symm lso)]; exact hso4
      refine ⟨so, _, _, rfl, rfl, hso5, small1000 (by rw [nms_len]; omega), ?_⟩
      have pm : ((S ++ [L[r]]) ++ L.eraseIdx r).Perm (S ++ L) := by
        rw [List.append_assoc]
        exact (perm_pull gx).append_left S
      refine ⟨_, L.eraseIdx r, S ++ [L[r]], rfl, ?_, ?_, ?_, ?_, ?_, pm.symm.nodup nd, fun x hx => lt x (pm.mem_iff.mp hx)⟩
      · exact ((((r3.trans r4).put (us := []) nl ls).put (us := []) nso0 sos)).mono (by omega)
      · rw [upd_ne lso, upd_same]
        unfold nms
        rw [map_pull]
      · rw [upd_same, nms_app]
        rfl
      · rw [List.length_append, List.length_singleton, sl]
      · rw [List.length_append, List.length_singleton, List.length_eraseIdx_of_lt hr4]
        omega
    rintro σ H3 ⟨y4, L, S, rfl, r3, hl3, hso3, sl, sw, nd, lt⟩
    rw [en] at r3 sl
    have ndS : S.Nodup := (List.nodup_append.mp nd).1
    have ltS : ∀ x ∈ S, x < w := fun x hx => lt x (List.mem_append_left _ hx)
    clear hl3 nd lt
    refine ⟨Nat.zero_le _, fun fo nfo => ?_⟩
    have p4 : LP K H (upd H3 fo (.lst [])) s fo w 0 (c + 1 + (d + 2)) := .fresh r3 nfo
    have hso4 : (upd H3 fo (.lst [])) so = some (.lst (nms S)) := by rw [upd_ne (ne_of_none hso3 nfo)]; exact hso3
    have hfo4 : (upd H3 fo (.lst [])) fo = some (.lst []) := upd_same
    have sofo : so ≠ fo := ne_of_none hso3 nfo
    generalize upd H3 fo (.lst []) = H4 at p4 hso4 hfo4
    refine ⟨_, rfl, _, rfl, 1, rfl, so, _, rfl, SqL.of hso4, fun c1 n1 => ?_⟩
    have cu1 : cutV (nms S) (some 1) none = nms (S.drop 1) := by
      rw [show (1 : Int) = ((1 : Nat) : Int) from rfl, cut_from]
      unfold nms
      rw [List.map_drop]
    rw [cu1]
    have s5 : Same H4 (upd H4 c1 (.lst (nms (S.drop 1)))) := same_new n1
    have hc5 : (upd H4 c1 (.lst (nms (S.drop 1)))) c1 = some (.lst (nms (S.drop 1))) := upd_same
    generalize upd H4 c1 (.lst (nms (S.drop 1))) = H5 at s5 hc5
    refine ⟨_, rfl, 1, rfl, so, _, rfl, SqL.of (s5 _ _ hso4), fun c2 n2 => ?_⟩
    have cu2 : cutV (nms S) none (some 1) = nms (S.take 1) := by
      rw [show (1 : Int) = ((1 : Nat) : Int) from rfl, cut_to]
      unfold nms
      rw [List.map_take]
    rw [cu2]
    have s6 : Same H5 (upd H5 c2 (.lst (nms (S.take 1)))) := same_new n2
    have hc6 : (upd H5 c2 (.lst (nms (S.take 1)))) c2 = some (.lst (nms (S.take 1))) := upd_same
    generalize upd H5 c2 (.lst (nms (S.take 1))) = H6 at s6 hc6
    have ml : (S.drop 1 ++ S.take 1).length = S.length := by
      rw [List.length_append, List.length_drop, List.length_take]
      omega
    refine ⟨c1, c2, _, _, rfl, rfl, s6 _ _ hc5, hc6, (by rw [← List.length_append, ← nms_app, nms_len, ml]; show S.length ≤ sizeLine; have := line63; rw [sizeLine_eq]; omega), fun c3 n3 => ?_⟩
    rw [← nms_app]
    have s7 : Same H6 (upd H6 c3 (.lst (nms (S.drop 1 ++ S.take 1)))) := same_new n3
    have hc7 : (upd H6 c3 (.lst (nms (S.drop 1 ++ S.take 1)))) c3 = some (.lst (nms (S.drop 1 ++ S.take 1))) := upd_same
    generalize upd H6 c3 (.lst (nms (S.drop 1 ++ S.take 1))) = H7 at s7 hc7
    have s47 := s5.trans (s6.trans s7)
    have p7 := p4.grow s47
    have c3s : c3 ≠ s := (p4.ran.grow (s5.trans s6)).ne n3
    have c3fo : fo ≠ c3 := by
      obtain ⟨us, _, hu, _⟩ := (p4.grow (s5.trans s6)).lst
      exact ne_of_none hu n3
    refine ⟨so, c3, _, _, rfl, SqL.of (s47 _ _ hso4), SqL.of hc7, ?_⟩
    refine RZ.for_zipL (xs := nms S) (ys := nms (S.drop 1 ++ S.take 1)) (by rw [nms_len, nms_len, ml]) (fun i σ H' => ∃ (y6 y7 : Option V), σ = [some (.ref s), some (.int (w : Int)), some (.ref l), some (.ref so), y4, some (.ref fo), y6, y7, none] ∧ LP K H H' s fo w i (c + 1 + (d + 2) + i) ∧ H' so = some (.lst (nms S)) ∧ H' c3 = some (.lst (nms (S.drop 1 ++ S.take 1))) ∧ ∃ us, H' fo = some (.lst us) ∧ us.length = i)
      ⟨none, none, rfl, p7.up (Nat.le_refl _) (by omega), s47 _ _ hso4, hc7, [], s47 _ _ hfo4, rfl⟩ (fun i σ H' ⟨_, _, _, _, e1, e2, _⟩ => ⟨SqL.of e1, SqL.of e2⟩) ?_ ?_
    · rintro i x y T2 σ H8 hx hy ⟨y6, y7, rfl, p8, hso8, hc8, us8, hf8, fl8⟩ nT
      obtain ⟨a, ha, rfl⟩ := nms_at hx
      obtain ⟨b, hb, rfl⟩ := nms_at hy
      obtain ⟨hab, bS⟩ := rot_ne ndS (by omega) ha hb
      have aw := ltS a (List.mem_of_getElem? ha)
      have bw := ltS b bS
      have iS := (List.getElem?_eq_some_iff.mp ha).1
      have s9 : Same H8 (upd H8 T2 (.tup [.int (a : Int), .int (b : Int)])) := same_new nT
      have hT : (upd H8 T2 (.tup [.int (a : Int), .int (b : Int)])) T2 = some (.tup [.int (a : Int), .int (b : Int)]) := upd_same
      generalize upd H8 T2 (.tup [.int (a : Int), .int (b : Int)]) = H9 at s9 hT
      have p9 := p8.grow s9
      have hu9 := s9 _ _ hf8
      refine ⟨T2, _, rfl, .inl (.inl hT), rfl, _, _, rfl, _, _, rfl, rfl, ?_⟩
      refine ⟨_, rfl, .inl ⟨rfl, _, SqL.of hu9⟩, ?_⟩
      refine ⟨_, rfl, s, 2, c + 1 + (d + 2) + i, rfl, p9.ran.src, by omega, by decide, by decide, fun e H10 he r10 => ?_⟩
      have p10 := p9.run r10
      have hso10 := r10.at_ (s9 _ _ hso8) sos
      have hc10 := r10.at_ (s9 _ _ hc8) c3s
      have hf10 := r10.at_ hu9 p9.nes
      have fin : ∀ (r : R) (t : Addr), r.ok w → H10 t = none → rAppend (.ref fo) [.ref t] (upd H10 t (.tup [.str (kd r.k), .int (r.a : Int), .int (r.b : Int)])) fun _ H' => ∃ (y6 y7 : Option V), [some (V.ref s), some (.int (w : Int)), some (.ref l), some (.ref so), y4, some (.ref fo), some (.int (a : Int)), some (.int (b : Int)), none] = [some (.ref s), some (.int (w : Int)), some (.ref l), some (.ref so), y4, some (.ref fo), y6, y7, none] ∧ LP K H H' s fo w (i + 1) (c + 1 + (d + 2) + (i + 1)) ∧ H' so = some (.lst (nms S)) ∧ H' c3 = some (.lst (nms (S.drop 1 ++ S.take 1))) ∧ ∃ us, H' fo = some (.lst us) ∧ us.length = i + 1 := fun r t ok nt => by
        have s11 : Same H10 (upd H10 t (.tup [.str (kd r.k), .int (r.a : Int), .int (r.b : Int)])) := same_new nt
        have ht : (upd H10 t (.tup [.str (kd r.k), .int (r.a : Int), .int (r.b : Int)])) t = some (.tup [.str (kd r.k), .int (r.a : Int), .int (r.b : Int)]) := upd_same
        generalize upd H10 t (.tup [.str (kd r.k), .int (r.a : Int), .int (r.b : Int)]) = H11 at s11 ht
        obtain ⟨acc, a1, a2, a3⟩ := (p10.grow s11).push (v := .ref t) (r := r) (r_dp (.inl (.inl ht))) ok
        refine ⟨fo, acc, _, rfl, rfl, a1, small1000 (by omega), _, _, rfl, a3.up (Nat.le_refl _) (by omega), ?_, ?_, _, upd_same, ?_⟩
        · rw [upd_ne sofo]
          exact s11 _ _ hso10
        · rw [upd_ne (Ne.symm c3fo)]
          exact s11 _ _ hc10
        · have z := a1.symm.trans (s11 _ _ hf10)
          cases z
          rw [List.length_append, List.length_singleton, fl8]
      refine ⟨rfl, _, rfl, ite2 (fun _ => ?_) (fun _ => ?_)⟩
      · refine ⟨_, rfl, _, rfl, (by show 3 ≤ sizeLine; decide), fun t nt => ?_⟩
        exact fin ⟨true, a, b⟩ t ⟨aw, bw, hab⟩ nt
      · refine ⟨_, rfl, _, rfl, (by show 3 ≤ sizeLine; decide), fun t nt => ?_⟩
        exact fin ⟨false, b, a⟩ t ⟨bw, aw, Ne.symm hab⟩ nt
    rintro σ H8 ⟨y6, y7, rfl, p8, hso8, hc8, us8, hf8, fl8⟩
    rw [nms_len, sl] at p8 fl8
    refine ⟨_, rfl, s, 4, _, rfl, p8.ran.src, by omega, by decide, by decide, fun e H9 he r9 => ?_⟩
    have p9 := p8.run r9
    refine ⟨rfl, _, rfl, ite2 (fun _ => ?_) (fun _ => ?_)⟩
    · obtain ⟨us, rs, h1, h2, h3, h4⟩ := id p9.lst
      have z : us8 = us := by
        have z := h1.symm.trans (r9.at_ hf8 p8.nes)
        exact (HO.lst.inj (Option.some.inj z)).symm
      rw [z] at fl8
      match us, rs, h2, h3, h4, fl8, h1 with
      | v :: us, r :: rs, .cons d1 d2, h3, h4, _, h1 =>
        obtain ⟨t, rfl, ht⟩ := dp_r d1
        refine ⟨_, rfl, fo, _, 0, _, rfl, rfl, SqL.of h1, atI_nat (j := 0) rfl, t, _, rfl, ht, rfl, _, _, rfl, _, _, rfl, _, _, rfl, rfl, ?_⟩
        refine ⟨_, rfl, _, rfl, _, rfl, (by show 3 ≤ sizeLine; decide), fun t2 n2 => ?_⟩
        have s10 : Same H9 (upd H9 t2 (.tup [.str (kd r.k), .int (r.b : Int), .int (r.a : Int)])) := same_new n2
        have ht2 : (upd H9 t2 (.tup [.str (kd r.k), .int (r.b : Int), .int (r.a : Int)])) t2 = some (.tup [.str (kd r.k), .int (r.b : Int), .int (r.a : Int)]) := upd_same
        generalize upd H9 t2 (.tup [.str (kd r.k), .int (r.b : Int), .int (r.a : Int)]) = H10 at s10 ht2
        refine ⟨_, rfl, fo, _, 0, 0, rfl, rfl, s10 _ _ h1, (by unfold ixN; rw [if_pos (Int.le_refl _), if_pos (by rw [List.length_cons]; omega)]; rfl), _, rfl, q fo _ ?_⟩
        have o := h3 r List.mem_cons_self
        have tT := upd_T (o := .lst (.ref t2 :: us)) (s10 _ _ h1)
        refine ⟨(p9.ran.grow s10).put (us := []) p9.new p9.nes |>.mono (by omega), p9.new, p9.nes, .ref t2 :: us, ⟨r.k, r.b, r.a⟩ :: rs, upd_same, .cons (rd_T tT (r_dp (r := ⟨r.k, r.b, r.a⟩) (.inl (.inl ht2)))) (rds_T tT (dps_same s10 _ _ d2)), ?_, ?_⟩
        · intro x hx
          rcases List.mem_cons.mp hx with rfl | hx
          · exact ⟨o.2.1, o.1, Ne.symm o.2.2⟩
          · exact h3 x (List.mem_cons_of_mem _ hx)
        · rw [List.length_cons] at h4 ⊢
          omega
    · exact ⟨_, rfl, q fo _ (p9.up (by omega) (by omega))⟩
end
end CC
namespace CC
open PySem L2 TL
abbrev sDrawn : Stmt := tp 35
section
variable {K : PySem.W.Frag} {H H' H'' : Hp} {s l p a b q : Addr} {w m m' n c c' : Nat}
theorem LP.base (r : RanP H H' s c) (a : LP K H' H'' s l w m c') : LP K H H'' s l w m c' := ⟨r.trans a.ran, r.free a.new, a.nes, a.lst⟩
theorem LP.cat {us vs : List V} {rs ts : List R} (r : RanP H H' s c) (h1 : DpAll K H' us (rs.map R.d)) (h2 : ∀ r ∈ rs, r.ok w) (h3 : rs.length ≤ m) (g1 : DpAll K H' vs (ts.map R.d)) (g2 : ∀ r ∈ ts, r.ok w) (g3 : ts.length ≤ n) (hq : H' q = none) :
    LP K H (upd H' q (.lst (us ++ vs))) s q w (m + n) c := by
  refine ⟨r.grow (same_new hq), r.free hq, r.ne hq, us ++ vs, rs ++ ts, upd_same, ?_, ?_, ?_⟩
  · rw [List.map_append]
    exact dps_app (dps_same (same_new hq) _ _ h1) (dps_same (same_new hq) _ _ g1)
  · intro x hx
    rcases List.mem_append.mp hx with z | z
    · exact h2 x z
    · exact g2 x z
  · rw [List.length_append]
    omega
theorem ins_perm {α : Type} (l : List α) (n : Nat) (x : α) : (l.take n ++ [x] ++ l.drop n).Perm (x :: l) := by
  rw [List.append_assoc]
  have := (List.perm_middle (a := x) (l₁ := l.take n) (l₂ := l.drop n))
  rw [List.take_append_drop] at this
  exact this
end
def spDrawn (K : PySem.W.Frag) : Sp := fun vs H Q _ => ∃ (s : Addr) (m c : Nat), vs = [.ref s, .int (m : Int)] ∧ Pen H s c ∧ c < 800000 ∧ 1 ≤ m ∧ m ≤ 6 ∧ ∀ (t p : Addr) (w : Nat) (us : List V) (rs : List R) (H' : Hp), RanP H H' s (c + 140) → H t = none → t ≠ s → H p = none → p ≠ s → 1 ≤ w → w ≤ m →
  H' t = some (.tup [.int (w : Int), .ref p]) → H' p = some (.lst us) → DpAll K H' us (rs.map R.d) → (∀ r ∈ rs, r.ok w) → rs.Nodup → Q (.ref t) H'
section
variable {P : Program} {w : World} {K : PySem.W.Frag} {mg : Str → Option Value} {base : Heap} {kA : Addr}
abbrev nDr : List Str := ["_law_pen_here", "_law_most", "_law_width", "_law_way", "_law_some", "_law_found", "_law_one", "_law_turn", "_law_kind", "_law_a", "_law_b"]
theorem scDrawn : FnScope nDr ["_law_pen_here", "_law_most"] (defScope sDrawn) := ⟨rfl, rfl, rfl, by decide +kernel, rfl, by decide +kernel, by decide +kernel⟩
theorem ok_drawn {f : Addr} {fd : FuncData} {k : Nat} (F : Fun K "_law_drawn" "_law_drawn" sDrawn f fd) (T : Glb K mg kA) (cD : Cal P w K mg base "_law_draw" ["_law_pen_here", "_law_many"] spPDraw 1) (cR : Cal P w K mg base "_law_rule" ["_law_pen_here", "_law_width"] (spPRule K) 2) (cG : Cal P w K mg base "_law_ring" ["_law_pen_here", "_law_width"] (spRing K) 2) : FnOk P w K mg base CX0 (k + 3) f fd ["_law_pen_here", "_law_most"] (spDrawn K) := by
  have GD := cD.ok (k + 2) (by omega)
  have GR := cR.ok (k + 2) (by omega)
  have GG := cG.ok (k + 2) (by omega)
  refine F.ok scDrawn (fun vs H Q E h => ?_) (fun cdv A outer s H vs Q E hr h => ?_)
  · obtain ⟨s, w, c, rfl, _⟩ := h
    rfl
  · obtain ⟨s, m, c, rfl, hp, hc, m1, m6, q⟩ := h
    have n := scDrawn.nd
    have hu65 := Nat.lt_of_le_of_lt (Nat.le_trans (Nat.add_le_add_left (by decide : 65 ≤ 200) _) (Nat.add_le_add_right (Nat.le_add_right _ (16 * (k + 2))) 200)) hr.un
    refine ⟨_, (pss_cons (ps_asg (pe_tup (pa_cons (pe_op op_add pe_int (pe_call GD hr rfl cD.g cD.kp cD.b .nil pass0 (pa_cons (pv 0) (pa_cons (pv 1) pa_nil)))) (pa_cons (pe_call GD hr rfl cD.g cD.kp cD.b .nil pass0 (pa_cons (pv 0) (pa_cons pe_int pa_nil))) pa_nil))) (pg_tup rfl (pgs_cons (pg_name (i := 2) n rfl (.inr rfl)) (pgs_cons (pg_name (i := 3) n rfl (.inl rfl)) pgs_nil))))
      (pss_cons (ps_set (i := 4) n rfl (.inl rfl) (pe_lst pa_nil))
      (C8.pss_cut (ps_if (PW.pt (pw_and (pt_cmpR op_gt (pv 2) pe_int (nomark _)) (pw_and1 (pt_cmpR op_in_seq (pv 3) (pe_tup (pa_cons pe_int (pa_cons pe_int (pa_cons pe_int pa_nil)))) (by rfl)))))
        (pss_one (ps_setLc (i := 4) (own := [("_law_turn", 7)]) (g := gName 7) (tt := tYes) (te := tCall (spPRule K) [] E0 (tCons (tVar 0) (tCons (tVar 2) tNil))) rfl n rfl rfl (sw_true rfl rfl rfl (by decide +kernel)) (pi_range1 (by rfl) T.rng (pa_cons (pe_op op_add pe_int (pe_call GD hr rfl cD.g cD.kp cD.b .nil pass0 (pa_cons (pv 0) (pa_cons (pe_op op_mul pe_int (pv 3)) pa_nil)))) pa_nil)) (blkOk_by (N := nDr) (sc := defScope sDrawn) (by decide +kernel))
          (fun _ _ _ _ _ => (pg_name (i := 7) n rfl (.inl rfl))) (fun _ _ _ _ _ => pts_nil) (fun _ _ _ _ _ => (pe_call GR hr rfl cR.g cR.kp cR.b .nil pass0 (pa_cons (pv 0) (pa_cons (pv 2) pa_nil))))))
        pss_nil)
      (C8.pss_cut (ps_if (PW.pt (pw_and (pt_cmpR op_gt (pv 2) pe_int (nomark _)) (pw_and1 (pt_cmpR op_eq (pv 3) pe_int (nomark _)))))
        (pss_one (ps_setLc (i := 4) (own := [("_law_kind", 8), ("_law_a", 9), ("_law_b", 10)]) (g := g3 K 8 9 10) (tt := tYes) rfl n rfl rfl (sw_true rfl rfl rfl (by decide +kernel)) (pi_list (pv 4)) (blkOk_by (N := nDr) (sc := defScope sDrawn) (by decide +kernel))
          (fun _ _ _ _ _ => (pg_tup rfl (pgs_cons (pg_name (i := 8) n rfl (.inl rfl)) (pgs_cons (pg_name (i := 9) n rfl (.inl rfl)) (pgs_cons (pg_name (i := 10) n rfl (.inl rfl)) pgs_nil))))) (fun _ _ _ _ _ => pts_nil) (fun _ _ _ _ _ => (pe_tup (pa_cons pe_str (pa_cons (pv 9) (pa_cons (pv 10) pa_nil)))))))
        pss_nil)
      (C8.pss_cut (ps_if (PW.pt (pw_and (pt_cmpR op_gt (pv 2) pe_int (nomark _)) (pw_and1 (pt_cmpR op_gt (pv 3) pe_int (nomark _)))))
        (pss_one (ps_set (i := 4) n rfl (.inl rfl) (pe_op op_cat (pe_call GG hr rfl cG.g cG.kp cG.b .nil pass0 (pa_cons (pv 0) (pa_cons (pv 2) pa_nil))) (pe_lc (own := [("_law_turn", 7)]) (g := gName 7) (tt := tYes) (te := tCall (spPRule K) [] E0 (tCons (tVar 0) (tCons (tVar 2) tNil))) rfl n (pi_range1 (by rfl) T.rng (pa_cons (pe_call GD hr rfl cD.g cD.kp cD.b .nil pass0 (pa_cons (pv 0) (pa_cons pe_int pa_nil))) pa_nil)) (blkOk_by (N := nDr) (sc := defScope sDrawn) (by decide +kernel))
          (fun _ _ _ _ _ => (pg_name (i := 7) n rfl (.inl rfl))) (fun _ _ _ _ _ => pts_nil) (fun _ _ _ _ _ => (pe_call GR hr rfl cR.g cR.kp cR.b .nil pass0 (pa_cons (pv 0) (pa_cons (pv 2) pa_nil))))))))
        pss_nil)
      (C8.pss_cut (ps_if (PW.pt (pw_and (pt_cmpR op_gt (pv 2) pe_int (nomark _)) (pw_and1 (pt_cmpR op_eq (pv 3) pe_int (nomark _)))))
        (pss_one (ps_set (i := 4) n rfl (.inl rfl) (pe_op op_cat (pv 4) (pe_call GG hr rfl cG.g cG.kp cG.b .nil pass0 (pa_cons (pv 0) (pa_cons (pv 2) pa_nil))))))
        pss_nil)
      (pss_cons (ps_set (i := 5) n rfl (.inl rfl) (pe_lst pa_nil))
      (pss_cons (ps_for PassesOwn.never rfl (pi_list (pv 4)) (pg_name (i := 6) n rfl (.inl rfl))
        (pss_one (ps_if (pt_cmpR (op_notInD hu65) (pv 6) (pv 5) (by rfl))
          (pss_one (ps_expr (pe_bm PySem.F.plainAttrs_list PySem.F.slot_list_insert PySem.F.type_list_insert mt_insert (pv 5) (pa_cons (pe_call GD hr rfl cD.g cD.kp cD.b .nil pass0 (pa_cons (pv 0) (pa_cons (pe_op op_add (pe_callB call_len_seq (by rfl) T.len PySem.boot_len (pa_cons (pv 5) pa_nil)) pe_int) pa_nil))) (pa_cons (pv 6) pa_nil)))))
          pss_nil)))
      (pss_one (ps_ret (pe_tup (pa_cons (pv 2) (pa_cons (pv 5) pa_nil))))))))))))), ?_⟩
    refine ⟨_, rfl, _, rfl, s, m, c, rfl, hp, by omega, by omega, by omega, fun d H1 hd r1 => ⟨_, _, rfl, rfl, ?_⟩⟩
    refine ⟨_, rfl, s, 7, c + 1, rfl, r1.src, by omega, by decide, by decide, fun way H2 hway r2 => ?_⟩
    dsimp only
    have ew : (1 + (d : Int)) = ((d + 1 : Nat) : Int) := by omega
    rw [ew]
    have w1 : 1 ≤ d + 1 := by omega
    have wm : d + 1 ≤ m := by omega
    generalize d + 1 = w at w1 wm
    refine ⟨(by show 2 ≤ sizeLine; decide), fun t nt => ?_⟩
    have s3 : Same H2 (upd H2 t (.tup [.int (w : Int), .int (way : Int)])) := same_new nt
    have ht3 : (upd H2 t (.tup [.int (w : Int), .int (way : Int)])) t = some (.tup [.int (w : Int), .int (way : Int)]) := upd_same
    generalize upd H2 t (.tup [.int (w : Int), .int (way : Int)]) = H3 at s3 ht3
    refine ⟨t, _, rfl, .inl (.inl ht3), rfl, _, _, rfl, _, _, rfl, rfl, ?_⟩
    have r3 : RanP H H3 s (c + 2) := (r1.trans r2).grow s3
    refine ⟨Nat.zero_le _, fun so nso => ?_⟩
    have p4 : LP K H (upd H3 so (.lst [])) s so w 0 (c + 2) := .fresh r3 nso
    generalize upd H3 so (.lst []) = H4 at p4
    clear s3 ht3 r3 nso
    let Mid : Nat → Nat → L2.St → Hp → Prop := fun a b σ H' => ∃ (so : Addr) (y5 y6 y7 y8 y9 y10 : Option V), σ = [some (.ref s), some (.int (m : Int)), some (.int (w : Int)), some (.int (way : Int)), some (.ref so), y5, y6, y7, y8, y9, y10] ∧ LP K H H' s so w a b
    -- if width > 1 and way in (1, 2, 3)
    refine ⟨Mid 20 (c + 70), ?_, ?_⟩
    · refine ⟨_, rfl, _, _, rfl, rfl, _, rfl, ite2 (fun e => ?_) (fun _ => iteF ⟨so, _, _, _, _, _, _, rfl, p4.up (by omega) (by omega)⟩)⟩
      have w2 : 2 ≤ w := by
        have := of_decide_eq_true e
        omega
      refine ⟨_, rfl, (by show 3 ≤ sizeLine; decide), fun t2 nt2 => ⟨t2, _, rfl, .inr (.inl (.inl upd_same)), rfl, rfl, _, rfl, ?_⟩⟩
      have p5 := p4.grow (same_new (o := .tup [.int 1, .int 2, .int 3]) nt2)
      generalize upd H4 t2 (.tup [.int 1, .int 2, .int 3]) = H5 at p5
      refine ite2 (fun e2 => ?_) (fun _ => ⟨so, _, _, _, _, _, _, rfl, p5.up (by omega) (by omega)⟩)
      have wy : 1 ≤ way ∧ way ≤ 3 := by
        have z : inV (.int (way : Int)) [.int 1, .int 2, .int 3] = true := e2
        have z2 : inV (.int (way : Int)) (nms [1, 2, 3]) = true := z
        rw [nms_in] at z2
        have := of_decide_eq_true z2
        simp at this
        omega
      refine ⟨_, rfl, _, rfl, _, _, rfl, rfl, .inl ⟨by decide, by decide⟩, s, 3 * way, c + 2, rfl, p5.ran.src, by omega, by omega, by omega, fun d H6 hd r6 => ⟨_, _, rfl, rfl, _, rfl, by omega, by omega, fun D nD => ?_⟩⟩
      have p6 : RanP H H6 s (c + 2 + 1) := p5.ran.trans r6
      refine lc_range (lo := 0) (n := (1 + (d : Int)).toNat) (fun i H' => LP K H H' s D w i (c + 3 + 3 * i)) ((LP.fresh p6 nD).up (Nat.le_refl _) (by omega)) ?_ ?_
      · intro i H7 hi p7
        have i9 : i < 9 := by omega
        refine ⟨rfl, yes_if ?_⟩
        refine ⟨_, rfl, _, rfl, s, w, c + 3 + 3 * i, rfl, p7.ran.src, by omega, w2, by omega, fun t r H8 ok r8 nt ts dt => ?_⟩
        obtain ⟨acc, a1, a2, a3⟩ := (p7.run r8).push dt ok
        exact ⟨acc, a1, small1000 (by omega), a3.up (Nat.le_refl _) (by omega)⟩
      · intro H7 p7
        exact ⟨D, _, _, _, _, _, _, rfl, p7.up (by omega) (by omega)⟩
    rintro σ1 H5 ⟨so, y5, y6, y7, y8, y9, y10, rfl, p5⟩
    -- if width > 1 and way == 3
    refine ⟨Mid 20 (c + 70), ?_, ?_⟩
    · refine ⟨_, rfl, _, _, rfl, rfl, _, rfl, ite2 (fun e => ?_) (fun _ => iteF ⟨so, _, _, _, _, _, _, rfl, p5⟩)⟩
      refine ⟨_, rfl, rfl, _, rfl, ite2 (fun e2 => ?_) (fun _ => ⟨so, _, _, _, _, _, _, rfl, p5⟩)⟩
      obtain ⟨us, rs, h1, h2, h3, h4⟩ := id p5.lst
      have ul : us.length = rs.length := by rw [dps_len h2, List.length_map]
      refine ⟨_, rfl, so, rfl, ⟨_, SqL.of h1⟩, fun D nD => ?_⟩
      have nDs : so ≠ D := ne_of_none h1 nD
      refine lc_list (xs := us) (fun i H' => LP K H H' s D w i (c + 70) ∧ H' so = some (.lst us) ∧ SameT H5 H') ⟨.fresh p5.ran nD, by rw [upd_ne nDs]; exact h1, same_T (same_new nD)⟩ (fun i H' _ z => SqL.of z.2.1) ?_ ?_
      · rintro i v H6 hv ⟨p6, hso, sT⟩
        obtain ⟨r, hr2, dr⟩ := dps_rat (rds_T sT h2) hv
        obtain ⟨t, rfl, ht⟩ := dp_r dr
        have il : i < rs.length := (List.getElem?_eq_some_iff.mp hr2).1
        refine ⟨t, _, rfl, ht, rfl, _, _, rfl, _, _, rfl, _, _, rfl, rfl, rfl, yes_if ?_⟩
        refine ⟨_, rfl, _, rfl, (by show 3 ≤ sizeLine; decide), fun t2 n2 => ?_⟩
        have s7 : Same H6 (upd H6 t2 (.tup [.str "within", .int (r.a : Int), .int (r.b : Int)])) := same_new n2
        have ht2 : (upd H6 t2 (.tup [.str "within", .int (r.a : Int), .int (r.b : Int)])) t2 = some (.tup [.str "within", .int (r.a : Int), .int (r.b : Int)]) := upd_same
        generalize upd H6 t2 (.tup [.str "within", .int (r.a : Int), .int (r.b : Int)]) = H7 at s7 ht2
        obtain ⟨acc, a1, a2, a3⟩ := (p6.grow s7).push (v := .ref t2) (r := ⟨false, r.a, r.b⟩) (r_dp (.inl (.inl ht2))) (h3 r (List.mem_of_getElem? hr2))
        refine ⟨acc, a1, small1000 (by omega), a3, ?_, sT.trans ((same_T s7).trans (upd_T a1))⟩
        rw [upd_ne nDs]
        exact s7 _ _ hso
      · rintro H6 ⟨p6, _, _⟩
        exact ⟨D, _, _, _, _, _, _, rfl, p6.up (by omega) (by omega)⟩
    rintro σ1 H6 ⟨so, y5, y6, y7, y8, y9, y10, rfl, p6⟩
    -- if width > 1 and way > 3
    refine ⟨Mid 20 (c + 70 + 14 + 1 + 6), ?_, ?_⟩
    · refine ⟨_, rfl, _, _, rfl, rfl, _, rfl, ite2 (fun e => ?_) (fun _ => iteF ⟨so, _, _, _, _, _, _, rfl, p6.up (by omega) (by omega)⟩)⟩
      have w2 : 2 ≤ w := by
        have := of_decide_eq_true e
        omega
      refine ⟨_, rfl, _, _, rfl, rfl, _, rfl, ite2 (fun e2 => ?_) (fun _ => ⟨so, _, _, _, _, _, _, rfl, p6.up (by omega) (by omega)⟩)⟩
      refine ⟨_, rfl, _, rfl, s, w, c + 70, rfl, p6.ran.src, by omega, w2, by omega, fun g H7 p7' => ?_⟩
      have p7 := LP.base p6.ran p7'
      refine ⟨_, rfl, s, 3, _, rfl, p7.ran.src, by omega, by decide, by decide, fun d H8 hd r8 => ⟨_, rfl, by omega, by omega, fun D nD => ?_⟩⟩
      have p8 := p7.run r8
      obtain ⟨us, rs, h1, h2, h3, h4⟩ := id p8.lst
      have gD : g ≠ D := ne_of_none h1 nD
      refine lc_range (lo := 0) (n := ((d : Nat) : Int).toNat) (fun i H' => LP K H H' s D w i (c + 70 + 14 + 1 + 3 * i) ∧ H' g = some (.lst us) ∧ SameT H8 H') ⟨.fresh p8.ran nD, by rw [upd_ne gD]; exact h1, same_T (same_new nD)⟩ ?_ ?_
      · rintro i H9 hi ⟨p9, hg, sT⟩
        have i9 : i < 2 := by omega
        refine ⟨rfl, yes_if ?_⟩
        refine ⟨_, rfl, _, rfl, s, w, _, rfl, p9.ran.src, by omega, w2, by omega, fun t r H10 ok r10 nt ts dt => ?_⟩
        obtain ⟨acc, a1, a2, a3⟩ := (p9.run r10).push dt ok
        refine ⟨acc, a1, small1000 (by omega), a3.up (Nat.le_refl _) (by omega), ?_, sT.trans ((r10.T p9.ran.src).trans (upd_T a1))⟩
        rw [upd_ne gD]
        exact r10.at_ hg p8.nes
      · rintro H9 ⟨p9, hg, sT⟩
        obtain ⟨vs, ts, g1, g2, g3, g4⟩ := id p9.lst
        have h2' := rds_T sT h2
        have ul : us.length = rs.length := by rw [dps_len h2, List.length_map]
        have vl : vs.length = ts.length := by rw [dps_len g2, List.length_map]
        refine ⟨g, D, _, _, rfl, rfl, hg, g1, (by rw [sizeLine_eq]; omega), fun z nz => ?_⟩
        exact ⟨z, _, _, _, _, _, _, rfl, (LP.cat p9.ran h2' h3 h4 g2 g3 g4 nz).up (by omega) (by omega)⟩
    rintro σ1 H7 ⟨so, y5, y6, y7, y8, y9, y10, rfl, p7⟩
    -- if width > 1 and way == 6
    refine ⟨Mid 26 (c + 70 + 14 + 1 + 6 + 14), ?_, ?_⟩
    · refine ⟨_, rfl, _, _, rfl, rfl, _, rfl, ite2 (fun e => ?_) (fun _ => iteF ⟨so, _, _, _, _, _, _, rfl, p7.up (by omega) (by omega)⟩)⟩
      have w2 : 2 ≤ w := by
        have := of_decide_eq_true e
        omega
      refine ⟨_, rfl, rfl, _, rfl, ite2 (fun e2 => ?_) (fun _ => ⟨so, _, _, _, _, _, _, rfl, p7.up (by omega) (by omega)⟩)⟩
      refine ⟨_, rfl, _, rfl, _, rfl, s, w, _, rfl, p7.ran.src, by omega, w2, by omega, fun g H8 p8' => ?_⟩
      have p8 := LP.base p7.ran p8'
      obtain ⟨us, rs, h1, h2, h3, h4⟩ := id p7.lst
      have h1' := p8'.ran.at_ h1 p7.nes
      have h2' := rds_T (p8'.ran.T p7.ran.src) h2
      obtain ⟨vs, ts, g1, g2, g3, g4⟩ := id p8.lst
      have ul : us.length = rs.length := by rw [dps_len h2, List.length_map]
      have vl : vs.length = ts.length := by rw [dps_len g2, List.length_map]
      refine ⟨so, g, _, _, rfl, rfl, h1', g1, (by rw [sizeLine_eq]; omega), fun z nz => ?_⟩
      exact ⟨z, _, _, _, _, _, _, rfl, (LP.cat p8.ran h2' h3 h4 g2 g3 g4 nz).up (by omega) (by omega)⟩
    rintro σ1 H8 ⟨so, y5, y6, y7, y8, y9, y10, rfl, p8⟩
    obtain ⟨us, rs, h1, h2, h3, h4⟩ := id p8.lst
    have ul : us.length = rs.length := by rw [dps_len h2, List.length_map]
    refine ⟨Nat.zero_le _, fun fo nfo => ?_⟩
    have sofo : so ≠ fo := ne_of_none h1 nfo
    have s9 : Same H8 (upd H8 fo (.lst [])) := same_new nfo
    have hf9 : (upd H8 fo (.lst [])) fo = some (.lst []) := upd_same
    have nfo0 : H fo = none := p8.ran.free nfo
    have fos : fo ≠ s := p8.ran.ne nfo
    generalize upd H8 fo (.lst []) = H9 at s9 hf9
    refine ⟨_, rfl, so, rfl, ⟨_, SqL.of (s9 _ _ h1)⟩, ?_⟩
    refine for_list (xs := us) (fun i σ H' => ∃ (y6 : Option V) (fu : List V) (fr : List R), σ = [some (.ref s), some (.int (m : Int)), some (.int (w : Int)), some (.int (way : Int)), some (.ref so), some (.ref fo), y6, y7, y8, y9, y10] ∧ RanP H H' s (c + 70 + 14 + 1 + 6 + 14 + i) ∧ H' so = some (.lst us) ∧ SameT H8 H' ∧ H' fo = some (.lst fu) ∧ DpAll K H' fu (fr.map R.d) ∧ (∀ r ∈ fr, r.ok w) ∧ fr.Nodup ∧ fr.length ≤ i)
      ⟨_, [], [], rfl, (p8.ran.grow s9).mono (by omega), s9 _ _ h1, same_T s9, hf9, .nil, (fun r hr => nomatch hr), List.nodup_nil, Nat.le_refl _⟩ (fun i σ H' _ ⟨_, _, _, _, _, z, _⟩ => SqL.of z) ?_ ?_
    · rintro i v σ H10 hv ⟨y6, fu, fr, rfl, r10, hso, sT, hfo, df, okf, ndf, lf⟩
      obtain ⟨r, hr2, dr⟩ := dps_rat (rds_T sT h2) hv
      have il : i < rs.length := (List.getElem?_eq_some_iff.mp hr2).1
      have fl : fu.length = fr.length := by rw [dps_len df, List.length_map]
      refine ⟨_, rfl, _, rfl, r.d, fr.map R.d, dr, .lst (SqL.of hfo) df, rd_shaped r, rds_shaped fr, _, rfl, ?_⟩
      rw [rds_any]
      by_cases e : r ∈ fr
      · rw [decide_eq_true e]
        exact iteF ⟨_, fu, fr, rfl, r10.mono (by omega), hso, sT, hfo, df, okf, ndf, by omega⟩
      · rw [decide_eq_false e]
        refine iteT ?_
        have em : ((fu.length : Int) + 1) = ((fu.length + 1 : Nat) : Int) := by omega
        refine ⟨_, rfl, .inl ⟨rfl, _, SqL.of hfo⟩, _, rfl, _, rfl, fo, _, rfl, .inl (SqL.of hfo), _, _, rfl, rfl, s, fu.length + 1, _, rfl, r10.src, by omega, by omega, by omega, fun j H11 hj r11 => ?_⟩
        have hfo' := r11.at_ hfo fos
        refine ⟨_, rfl, fo, fu, _, _, rfl, rfl, hfo', small1000 (by omega), by omega, by omega, ?_⟩
        have ej : ((j : Nat) : Int).toNat = j := by omega
        have tT : SameT H10 (upd H11 fo (.lst (fu.take (((j : Nat) : Int).toNat) ++ [v] ++ fu.drop (((j : Nat) : Int).toNat)))) := (r11.T r10.src).trans (upd_T hfo')
        have pm := ins_perm fr (((j : Nat) : Int).toNat) r
        refine ⟨_, _, fr.take (((j : Nat) : Int).toNat) ++ [r] ++ fr.drop (((j : Nat) : Int).toNat), rfl, ((r10.trans r11).put (us := []) nfo0 fos).mono (by omega), ?_, sT.trans tT, upd_same, ?_, ?_, ?_, ?_⟩
        · rw [upd_ne sofo]
          exact r11.at_ hso p8.nes
        · have h := rds_T tT df
          rw [List.map_append, List.map_append, List.map_take, List.map_drop]
          exact dps_app (dps_app (dps_take _ h) (.cons (rd_T tT dr) .nil)) (dps_drop _ h)
        · intro x hx
          rcases List.mem_cons.mp (pm.mem_iff.mp hx) with rfl | z
          · exact h3 _ (List.mem_of_getElem? hr2)
          · exact okf x z
        · exact pm.symm.nodup (List.nodup_cons.mpr ⟨e, ndf⟩)
        · rw [pm.length_eq, List.length_cons]
          omega
    rintro σ H10 ⟨y6, fu, fr, rfl, r10, hso, sT, hfo, df, okf, ndf, lf⟩
    refine ⟨_, rfl, _, rfl, (by show 2 ≤ sizeLine; decide), fun t nt => ?_⟩
    have s11 : Same H10 (upd H10 t (.tup [.int (w : Int), .ref fo])) := same_new nt
    exact q t fo w fu fr _ ((r10.grow s11).mono (by omega)) (r10.free nt) (r10.ne nt) nfo0 fos w1 wm upd_same (s11 _ _ hfo) (dps_same s11 _ _ df) okf ndf
end
end CC
namespace CC
open PySem L2 TL LamX PyProof.Rows
abbrev sNa : Stmt := tp 43
abbrev sLaw : Stmt := tp 44
def spLaw (K : PySem.W.Frag) : Sp := fun vs H Q _ => ∃ (a : Addr) (ns : List Int), vs = [.ref a] ∧ SqL K H a (ns.map V.int) ∧ ns.length ≤ 63 ∧ ∀ H', Q (.bl true) H'
theorem flds_txt (w : Nat) (g : Addr) : (flds w g).lookup ("text" : Str) = none := by
  unfold flds fl0
  rw [lookup_putF, if_neg (by decide +kernel), lookup_putF, if_neg (by decide +kernel)]
  rfl
/-- what a drawing gives -/
def Drw (K : PySem.W.Frag) (H : Hp) (s : Addr) (c : Nat) (Q : VK) : Prop := ∀ (t p : Addr) (w : Nat) (us : List V) (rs : List R) (H' : Hp), RanP H H' s (c + 140) → H t = none → t ≠ s → H p = none → p ≠ s → 1 ≤ w → w ≤ 6 →
  H' t = some (.tup [.int (w : Int), .ref p]) → H' p = some (.lst us) → DpAll K H' us (rs.map R.d) → (∀ r ∈ rs, r.ok w) → rs.Nodup → Q (.ref t) H'
def spNa (K : PySem.W.Frag) : Sp := fun vs H Q _ => ∃ (s : Addr) (c : Nat), vs = [.ref s] ∧ Pen H s c ∧ c < 800000 ∧ Drw K H s c Q
theorem dps_erase {K : PySem.W.Frag} {H : Hp} : ∀ {us : List V} {ds : List PyData}, DpAll K H us ds → ∀ i, DpAll K H (us.eraseIdx i) (ds.eraseIdx i)
  | _, _, .nil, _ => .nil
  | _, _, .cons _ t, 0 => t
  | _, _, .cons d t, i + 1 => .cons d (dps_erase t i)
theorem dr_if {K : PySem.W.Frag} {s : Addr} {c : Nat} {b : Bool} {σ : List (Option V)} {H : Hp} {Q : VK} (h : σ[2]? = some (some (.ref s))) (hp : Pen H s c) (hc : c < 800000) (q : Drw K H s c Q) : if b = true then tCall (spDrawn K) [] E0 (tCons (tVar 2) (tCons (tC (.int 5)) tNil)) σ H Q else tCall (spNa K) [] E0 (tCons (tVar 2) tNil) σ H Q := by
  split
  · exact ⟨_, h, s, 5, c, rfl, hp, hc, by decide, by decide, fun t p w us rs H' a b c d e f g => q t p w us rs H' a b c d e f (by omega)⟩
  · exact ⟨_, h, s, c, rfl, hp, hc, q⟩
theorem allR6_len : (allR 6).length = 60 := by decide +kernel
section
variable {P : Program} {w : World} {K : PySem.W.Frag} {mg : Str → Option Value} {base : Heap} {kA : Addr}
abbrev nNa : List Str := ["_law_pen_here", "_law_some", "_law_turn"]
theorem scNa : FnScope nNa ["_law_pen_here"] (defScope sNa) := ⟨rfl, rfl, rfl, by decide +kernel, rfl, by decide +kernel, by decide +kernel⟩
theorem ok_na {f : Addr} {fd : FuncData} {k : Nat} (F : Fun K "_law_nearly_all" "_law_nearly_all" sNa f fd) (T : Glb K mg kA) (cD : Cal P w K mg base "_law_draw" ["_law_pen_here", "_law_many"] spPDraw 1) (cE : Cal P w K mg base "_law_every" ["_law_width"] (spAll K) 1) : FnOk P w K mg base CX0 (k + 2) f fd ["_law_pen_here"] (spNa K) := by
  have GD := cD.ok (k + 1) (by omega)
  have GE := cE.ok (k + 1) (by omega)
  refine F.ok scNa (fun vs H Q E h => ?_) (fun cdv A outer s H vs Q E hr h => ?_)
  · obtain ⟨s, c, rfl, _⟩ := h
    rfl
  · obtain ⟨s, c, rfl, hp, hc, q⟩ := h
    have n := scNa.nd
    refine ⟨_, (pss_cons (ps_set (i := 1) n rfl (.inl rfl) (pe_call GE hr rfl cE.g cE.kp cE.b .nil pass0 (pa_cons pe_int pa_nil)))
      (pss_cons (ps_for PassesOwn.never rfl (pi_range1 (by rfl) T.rng (pa_cons (pe_call GD hr rfl cD.g cD.kp cD.b .nil pass0 (pa_cons (pv 0) (pa_cons pe_int pa_nil))) pa_nil)) (pg_name (i := 2) n rfl (.inl rfl))
        (pss_one (ps_expr (pe_bm PySem.F.plainAttrs_list PySem.F.slot_list_pop PySem.F.type_list_pop mt_popAt (pv 1) (pa_cons (pe_call GD hr rfl cD.g cD.kp cD.b .nil pass0 (pa_cons (pv 0) (pa_cons (pe_callB call_len_seq (by rfl) T.len PySem.boot_len (pa_cons (pv 1) pa_nil)) pa_nil))) pa_nil)))))
      (pss_one (ps_ret (pe_tup (pa_cons pe_int (pa_cons (pv 1) pa_nil))))))), ?_⟩
    refine ⟨6, rfl, by decide, fun l us H1 s1 nl hl ds => ?_⟩
    have ds1 := dps_same (wo_le l) _ _ ds
    have r1 : RanP H H1 s c := (RanP.refl hp).grow s1
    obtain ⟨pu, hs0⟩ := hp.lst
    have ls : l ≠ s := (ne_of_none hs0 nl).symm
    refine ⟨_, rfl, s, 3, c, rfl, r1.src, by omega, by decide, by decide, fun d H2 hd r2 => ?_⟩
    refine ⟨_, rfl, by omega, by omega, ?_⟩
    refine for_range (lo := 0) (n := (d : Int).toNat) (fun i σ H' => ∃ (y2 : Option V) (us : List V) (rs : List R), σ = [some (.ref s), some (.ref l), y2] ∧ RanP H H' s (c + 1 + i) ∧ H' l = some (.lst us) ∧ DpAll K H' us (rs.map R.d) ∧ (∀ r ∈ rs, r.ok 6) ∧ rs.Nodup ∧ rs.length + i = 60)
      ⟨none, us, allR 6, rfl, (r1.trans r2).mono (by omega), r2.at_ hl ls, rds_T (r2.T r1.src) ds1, fun r h => mem_allR.mp h, allR_nodup (by decide), by rw [allR6_len]⟩ ?_ ?_
    · rintro i σ H3 hi ⟨y2, us, rs, rfl, r3, hl3, ds3, ok, nd, len⟩
      have iw : i < 2 := by omega
      have ul : us.length = rs.length := by rw [dps_len ds3, List.length_map]
      refine ⟨_, rfl, .inl ⟨rfl, _, SqL.of hl3⟩, _, rfl, _, rfl, l, _, rfl, .inl (SqL.of hl3), ?_⟩
      refine ⟨s, us.length, c + 1 + i, rfl, r3.src, by omega, by omega, by omega, fun r H4 hr4 r4 => ?_⟩
      have hl4 := r4.at_ hl3 ls
      have ds4 := rds_T (r4.T r3.src) ds3
      have gv : us[r]? = some us[r] := List.getElem?_eq_getElem hr4
      have ix := (ixN_seq (n := us.length) (i := (r : Int)) (j := r) (by
        unfold ixN
        rw [if_pos (by omega), if_pos (by omega)]
        simp)).1
      refine ⟨l, _, _, r, _, rfl, rfl, hl4, by omega, by omega, ix, gv, ?_⟩
      refine ⟨_, us.eraseIdx r, rs.eraseIdx r, rfl, ((r3.trans r4).put (us := []) nl ls).mono (by omega), upd_same, ?_, ?_, ?_, ?_⟩
      · have e : List.map R.d (rs.eraseIdx r) = (List.map R.d rs).eraseIdx r := (map_pull ..).symm
        have := dps_erase (rds_T (upd_T (o := .lst (us.eraseIdx r)) hl4) ds4) r
        rw [e]
        exact this
      · exact fun x hx => ok x (List.mem_of_mem_eraseIdx hx)
      · exact nd.eraseIdx _
      · rw [List.length_eraseIdx_of_lt (by omega)]
        omega
    rintro σ H3 ⟨y2, us, rs, rfl, r3, hl3, ds3, ok, nd, len⟩
    refine ⟨_, rfl, by show 2 ≤ sizeLine; decide, fun t nt => ?_⟩
    have st : Same H3 (upd H3 t (.tup [.int 6, .ref l])) := same_new nt
    have r5 := r3.grow st
    exact q t l 6 us rs _ (r5.mono (by omega)) (r3.free nt) (r3.ne nt) nl ls (by decide) (by decide) upd_same (st _ _ hl3) (dps_same st _ _ ds3) ok nd
abbrev nLw : List Str := ["_law_script", "_law_k", "_law_pen_here", "_law_lap", "_law_width", "_law_some", "_law_made", "_law_due_here", "_law_told"]
theorem scLaw : FnScope nLw ["_law_script"] (defScope sLaw) := ⟨rfl, rfl, rfl, by decide +kernel, rfl, by decide +kernel, by decide +kernel⟩
theorem ok_law {k : Nat} {C f : Addr} {fd : FuncData} (F : Fun K "law" "law" sLaw f fd) (T : Glb K mg kA) (TC : Txt1 K mg C) (rd : ReadR P w K mg base C 6) (txR : TxtR P w K mg base C 2) (pW : Prp P w K mg base C "width" "span") (cP : Cal P w K mg base "_law_pen" ["_law_cell"] spPen 1) (cK : Cal P w K mg base "_law_cell_at" ["_law_script", "_law_k"] (spCell K) 1)
    (cD : Cal P w K mg base "_law_drawn" ["_law_pen_here", "_law_most"] (spDrawn K) 3) (cN : Cal P w K mg base "_law_nearly_all" ["_law_pen_here"] (spNa K) 2) (cX : Cal P w K mg base "_law_text" ["_law_some"] (spTx K) 1) (cU : Cal P w K mg base "_law_due" ["_law_width", "_law_some"] (spDu4 K) 3) (cM : Cal P w K mg base "least" ["rules"] (spLea K C) 6) : GD.FnG P w K mg base CX0 (k + 8) f fd ["_law_script"] (spLaw K) := by
  have GR := rd.ok (k + 7) (by omega)
  have GXR := txR.ok (k + 7) (by omega)
  have GP := cP.ok (k + 7) (by omega)
  have GK := cK.ok (k + 7) (by omega)
  have GD1 := cD.ok (k + 7) (by omega)
  have GN := cN.ok (k + 7) (by omega)
  have GX := cX.ok (k + 7) (by omega)
  have GU := cU.ok (k + 7) (by omega)
  have GM := cM.ok (k + 7) (by omega)
  refine GD.fun_okG F scLaw (fun vs H Q E h => ?_) (fun cdv A outer s H vs Q E calm hr h => ?_)
  · obtain ⟨a, ns, rfl, _⟩ := h
    rfl
  · obtain ⟨a, ns, rfl, ha, hl, q⟩ := h
    have n := scLaw.nd
    refine ⟨_, (pss_cons (ps_for PassesOwn.never rfl (pi_range1 (by rfl) T.rng (pa_cons (pe_callB (call_max2 rfl) (by rfl) T.max (by decide +kernel) (pa_cons pe_int (pa_cons (pe_callB (call_min2 rfl) (by rfl) T.min (by decide +kernel) (pa_cons (pe_callB call_len_seq (by rfl) T.len PySem.boot_len (pa_cons (pv 0) pa_nil)) (pa_cons pe_int pa_nil))) pa_nil))) pa_nil)) (pg_name (i := 1) n rfl (.inl rfl))
      (pss_cons (ps_set (i := 2) n rfl (.inl rfl) (pe_call GP hr rfl cP.g cP.kp cP.b .nil pass0 (pa_cons (pe_call GK hr rfl cK.g cK.kp cK.b .nil pass0 (pa_cons (pv 0) (pa_cons (pv 1) pa_nil))) pa_nil)))
      (pss_one (ps_for PassesOwn.never rfl (pi_range1 (by rfl) T.rng (pa_cons pe_int pa_nil)) (pg_name (i := 3) n rfl (.inl rfl))
      (pss_cons (ps_asg (pe_ifExp (pt_cmpR op_lt (pv 3) pe_int (nomark _)) (pe_call GD1 hr rfl cD.g cD.kp cD.b .nil pass0 (pa_cons (pv 2) (pa_cons pe_int pa_nil))) (pe_call GN hr rfl cN.g cN.kp cN.b .nil pass0 (pa_cons (pv 2) pa_nil))) (pg_tup rfl (pgs_cons (pg_name (i := 4) n rfl (.inl rfl)) (pgs_cons (pg_name (i := 5) n rfl (.inl rfl)) pgs_nil))))
      (pss_cons (ps_par (i := 6) (j := 7) (by rfl) n rfl rfl (by decide) rfl rfl (pa_cons (ClX.pe_cmeth (pe_glob (v := .ref C) rfl TC.mgC rfl) rd.rD rd.cD GR hr pass0 (pa_cons (pv 4) (pa_cons (pe_call GX hr rfl cX.g cX.kp cX.b .nil pass0 (pa_cons (pv 5) pa_nil)) pa_nil))) (pa_cons (pe_call GX hr rfl cX.g cX.kp cX.b .nil pass0 (pa_cons (pe_call GU hr rfl cU.g cU.kp cU.b .nil pass0 (pa_cons (pv 4) (pa_cons (pv 5) pa_nil))) pa_nil)) pa_nil)) (by rfl))
      (pss_cons (ps_set (i := 8) n rfl (.inl rfl) (pe_call GM hr rfl cM.g cM.kp cM.b .nil pass0 (pa_cons (pv 6) pa_nil)))
      (pss_cons (ps_if (PW.pt (pw_or (pt_cmpR op_ne (pe_meth0 (pv 8) TC.cl txR.m GXR hr txR.b .nil pass0) (pv 7) (nomark _)) (pw_or1 (pt_cmpR op_ne (pe_meth0 (pe_call GM hr rfl cM.g cM.kp cM.b .nil pass0 (pa_cons (pv 6) pa_nil)) TC.cl txR.m GXR hr txR.b .nil pass0) (pv 7) (nomark _)))))
        (pss_one (ps_ret pe_bl)) pss_nil)
      (pss_one (ps_if (PW.pt (pw_or (pt_cmpR op_ne (pe_meth0 (pv 6) TC.cl txR.m GXR hr txR.b .nil pass0) (pe_call GX hr rfl cX.g cX.kp cX.b .nil pass0 (pa_cons (pv 5) pa_nil)) (nomark _)) (pw_or1 (pt_cmpR op_ne (pe_prop (pv 8) TC.cl pW.hp (pW.ok (k + 6) (by omega)) hr pW.b .nil pass0 rfl) (pv 4) (nomark _))))) (pss_one (ps_ret pe_bl)) pss_nil))))))))))
      (pss_one (ps_ret pe_bl))), ?_⟩
    refine ⟨_, rfl, a, _, rfl, .inl ha, _, _, rfl, _, _, rfl, _, rfl, ?_, ?_, ?_⟩
    · split <;> split <;> omega
    · rw [List.length_map]
      split <;> split <;> omega
    generalize (if (if (3 : Int) < (((ns.map V.int).length : Nat) : Int) then (3 : Int) else (((ns.map V.int).length : Nat) : Int)) > 1 then (if (3 : Int) < (((ns.map V.int).length : Nat) : Int) then (3 : Int) else (((ns.map V.int).length : Nat) : Int)) else (1 : Int)) = top
    have t0 : ∀ H' : Hp, Tabs [] H' := fun H' p hp => nomatch hp
    refine for_range (lo := 0) (n := top.toNat) (fun i σ H1 => ∃ y1 y2 y3 y4 y5 y6 y7 y8, σ = [some (.ref a), y1, y2, y3, y4, y5, y6, y7, y8] ∧ SqL K H1 a (ns.map V.int)) ⟨none, none, none, none, none, none, none, none, rfl, ha⟩ ?_ ?_
    · rintro i σ H1 hi ⟨y1, y2, y3, y4, y5, y6, y7, y8, rfl, ha1⟩
      refine ⟨_, rfl, _, rfl, a, ns, i, by rw [Int.zero_add]; rfl, ha1, fun z => ?_⟩
      refine ⟨z, rfl, fun p o np ho => ?_⟩
      have W2 : WP K [] (upd H1 p o) a p ns (140 * 0) := WP.new ha1 (t0 _) np ho
      generalize upd H1 p o = H2 at W2 ⊢
      refine ⟨_, rfl, by decide, by decide, ?_⟩
      refine for_range (lo := 0) (n := ((5 : Int)).toNat) (fun j σ H3 => ∃ y1 y3 y4 y5 y6 y7 y8, σ = [some (.ref a), y1, some (.ref p), y3, y4, y5, y6, y7, y8] ∧ WP K [] H3 a p ns (140 * j)) ⟨_, _, _, _, _, _, _, rfl, W2⟩ ?_ ?_
      · rintro j σ H3 hj ⟨y1, y3, y4, y5, y6, y7, y8, rfl, W3⟩
        have j3 : j < 5 := hj
        refine ⟨_, rfl, _, _, rfl, rfl, _, rfl, ?_⟩
        refine dr_if rfl W3.src (by omega) fun t so w us rs H4 r4 nt ts nso sos w1 w6 ht hso ds ok nd => ?_
        have W4 := W3.run r4
        have ok6 : ∀ r ∈ rs, r.ok 6 := fun r h => (ok r h).up w6
        have rl := few_rules w6 ok nd
        have subl := least_sub (rs := rs)
        have okl : ∀ r ∈ leastL rs, r.ok 6 := fun r h => ok6 r (subl.subset h)
        have rll : (leastL rs).length ≤ 60 := Nat.le_trans subl.length_le rl
        refine ⟨t, _, rfl, .inl (.inl ht), rfl, _, _, rfl, _, _, rfl, rfl, ?_⟩
        refine ⟨rfl, _, rfl, _, rfl, so, us, rs, rfl, SqL.of hso, ds, ok6, rl, fun H5 s5 => ?_⟩
        refine ⟨w, rs, rfl, w1, w6, ok, nd, fun x H6 s6 nx ra => ?_⟩
        have s46 := s5.trans s6
        have W6 := W4.grow s46
        refine ⟨_, rfl, _, rfl, w, so, us, rs, rfl, SqL.of (s46 _ _ hso), dps_same s46 _ _ ds, ok, w6, rl, fun ld ud H7 s7 hld dd => ?_⟩
        refine ⟨ld, ud, leastL rs, rfl, SqL.of hld, dd, okl, rll, fun H8 s8 => ⟨_, _, rfl, ?_⟩⟩
        have s68 := s7.trans s8
        have ra8 := ra.same s68
        refine ⟨_, rfl, x, w, rs, rfl, ra8, ok, nd, w1, w6, fun z1 H9 s9 nz1 rz1 => ?_⟩
        obtain ⟨d1, g1, u1, e1, e2, e3⟩ := id rz1
        refine ⟨_, rfl, z1, d1, _, rfl, e1, flds_txt _ _, z1, w, leastL rs, rfl, rz1, okl, rll, fun HA sA => ?_⟩
        refine ⟨_, rfl, rfl, _, rfl, iteF' (by show (!decide (V.str _ = V.str _)) = false; simp) ?_⟩
        have s6A := s68.trans (s9.trans sA)
        refine ⟨_, rfl, x, w, rs, rfl, ra.same s6A, ok, nd, w1, w6, fun z2 HB sB nz2 rz2 => ?_⟩
        obtain ⟨d2, g2, u2, f1, f2, f3⟩ := id rz2
        refine ⟨z2, d2, _, rfl, f1, flds_txt _ _, z2, w, leastL rs, rfl, rz2, okl, rll, fun HC sC => ?_⟩
        refine ⟨_, rfl, rfl, _, rfl, iteF' (by show (!decide (V.str _ = V.str _)) = false; simp) ?_⟩
        have sAC := sB.trans sC
        have s6C := s6A.trans sAC
        have raC := ra.same s6C
        obtain ⟨d3, g3, u3, h1, h2, h3⟩ := id raC
        refine ⟨_, rfl, x, d3, _, rfl, h1, flds_txt _ _, x, w, rs, rfl, raC, ok6, rl, fun HD sD => ?_⟩
        have s4D := s46.trans (s6C.trans sD)
        refine ⟨_, rfl, so, us, rs, rfl, SqL.of (s4D _ _ hso), dps_same s4D _ _ ds, ok6, rl, fun HE sE => ?_⟩
        refine ⟨rfl, _, rfl, iteF' (by show (!decide (V.str _ = V.str _)) = false; simp) ?_⟩
        have s9E := sA.trans (sAC.trans (sD.trans sE))
        have e1' := s9E _ _ e1
        refine ⟨_, rfl, z1, d1, _, rfl, e1', z1, d1, _, _, rfl, e1', flds_span _ _, _, rfl, rfl, _, rfl, iteF' (by show (!decide (V.int _ = V.int _)) = false; simp) ?_⟩
        exact ⟨_, _, _, _, _, _, _, rfl, (W4.grow (s4D.trans sE)).mono (by omega)⟩
      · rintro σ H3 ⟨y1, y3, y4, y5, y6, y7, y8, rfl, W3⟩
        exact ⟨_, _, _, _, _, _, _, _, rfl, W3.back⟩
    · rintro σ H1 ⟨y1, y2, y3, y4, y5, y6, y7, y8, rfl, ha1⟩
      exact q H1
end
end CC
namespace CC
open PySem L2 TL
theorem df_mk {K : PySem.W.Frag} {h : Heap} {mg : Str → Option Value} {x : Str} {st : Stmt} {ps : List Str} {f : Addr} {fd : FuncData} (X : K.In h) (G : h.Ns mainGlobals mg) (a : PySem.W.nsIn K mainGlobals x = some (some (.ref f))) (F : Fun K x x st f fd) (b : Binds K fd ps []) : Nonempty (Df K mg x st ps) := ⟨⟨f, fd, F, b, PySem.W.mg_of X G a⟩⟩
theorem kit_self {K : PySem.W.Frag} {C : Addr} : PySem.W.kitOne K (.ref C) (.ref C) = some true := by
  unfold PySem.W.kitOne
  exact if_pos (by simp)
theorem raw0 {P : Program} {w : World} {K : PySem.W.Frag} {mg : Str → Option Value} {base : Heap} {CX : CXT} {k : Nat} {f : Addr} {fd : FuncData} {ps : List Str} {sp : Sp} (F : FnOk P w K mg base CX k f fd ps sp) (b : Binds K fd ps []) : FnR P w K mg base CX k f sp :=
  (F.raw b .nil).imp fun vs H Q E h => by
    show sp (vs ++ []) H Q E
    rw [List.append_nil]
    exact h
theorem mk_is_an_integer {K : PySem.W.Frag} {h : Heap} {mg : Str → Option Value} {f : Addr} {od an : Option Addr} {sl : Array (Option Value)} {oc kV dc pm cd ct : Value} (X : K.In h) (G : h.Ns mainGlobals mg) (a : PySem.W.nsIn K mainGlobals "is_an_integer" = some (some (.ref f)))
    (l : K.lookup f = some ⟨oc, od, .func (PySem.W.fnOf "is_an_integer" "is_an_integer" (defArgs sIsInt) (defBody sIsInt) (defScope sIsInt) .none kV dc pm an cd ct), sl⟩) (c : PySem.W.codeIn K cd "is_an_integer" = true) (k : PySem.W.keepIn K (.ref f) = true) : Nonempty (Df K mg "is_an_integer" sIsInt ["thing"]) :=
  have F := fun_mk (st := sIsInt) l c k
  df_mk X G a F (F.binds (ps := ["thing"]) fun _ _ _ _ _ _ us hl => match us, hl with | [_], _ => rfl)
theorem mk_is_width {K : PySem.W.Frag} {h : Heap} {mg : Str → Option Value} {f : Addr} {od an : Option Addr} {sl : Array (Option Value)} {oc kV dc pm cd ct : Value} (X : K.In h) (G : h.Ns mainGlobals mg) (a : PySem.W.nsIn K mainGlobals "is_width" = some (some (.ref f)))
    (l : K.lookup f = some ⟨oc, od, .func (PySem.W.fnOf "is_width" "is_width" (defArgs sIsWidth) (defBody sIsWidth) (defScope sIsWidth) .none kV dc pm an cd ct), sl⟩) (c : PySem.W.codeIn K cd "is_width" = true) (k : PySem.W.keepIn K (.ref f) = true) : Nonempty (Df K mg "is_width" sIsWidth ["thing"]) :=
  have F := fun_mk (st := sIsWidth) l c k
  df_mk X G a F (F.binds (ps := ["thing"]) fun _ _ _ _ _ _ us hl => match us, hl with | [_], _ => rfl)
theorem mk_is_column {K : PySem.W.Frag} {h : Heap} {mg : Str → Option Value} {f : Addr} {od an : Option Addr} {sl : Array (Option Value)} {oc kV dc pm cd ct : Value} (X : K.In h) (G : h.Ns mainGlobals mg) (a : PySem.W.nsIn K mainGlobals "is_column" = some (some (.ref f)))
    (l : K.lookup f = some ⟨oc, od, .func (PySem.W.fnOf "is_column" "is_column" (defArgs sIsCol) (defBody sIsCol) (defScope sIsCol) .none kV dc pm an cd ct), sl⟩) (c : PySem.W.codeIn K cd "is_column" = true) (k : PySem.W.keepIn K (.ref f) = true) : Nonempty (Df K mg "is_column" sIsCol ["width", "thing"]) :=
  have F := fun_mk (st := sIsCol) l c k
  df_mk X G a F (F.binds (ps := ["width", "thing"]) fun _ _ _ _ _ _ us hl => match us, hl with | [_, _], _ => rfl)
theorem mk_is_rule {K : PySem.W.Frag} {h : Heap} {mg : Str → Option Value} {f : Addr} {od an : Option Addr} {sl : Array (Option Value)} {oc kV dc pm cd ct : Value} (X : K.In h) (G : h.Ns mainGlobals mg) (a : PySem.W.nsIn K mainGlobals "is_rule" = some (some (.ref f)))
    (l : K.lookup f = some ⟨oc, od, .func (PySem.W.fnOf "is_rule" "is_rule" (defArgs sIsRule) (defBody sIsRule) (defScope sIsRule) .none kV dc pm an cd ct), sl⟩) (c : PySem.W.codeIn K cd "is_rule" = true) (k : PySem.W.keepIn K (.ref f) = true) : Nonempty (Df K mg "is_rule" sIsRule ["width", "thing"]) :=
  have F := fun_mk (st := sIsRule) l c k
  df_mk X G a F (F.binds (ps := ["width", "thing"]) fun _ _ _ _ _ _ us hl => match us, hl with | [_, _], _ => rfl)
theorem mk_every_rule {K : PySem.W.Frag} {h : Heap} {mg : Str → Option Value} {f : Addr} {od an : Option Addr} {sl : Array (Option Value)} {oc kV dc pm cd ct : Value} (X : K.In h) (G : h.Ns mainGlobals mg) (a : PySem.W.nsIn K mainGlobals "every_rule" = some (some (.ref f)))
    (l : K.lookup f = some ⟨oc, od, .func (PySem.W.fnOf "every_rule" "every_rule" (defArgs sEvery) (defBody sEvery) (defScope sEvery) .none kV dc pm an cd ct), sl⟩) (c : PySem.W.codeIn K cd "every_rule" = true) (k : PySem.W.keepIn K (.ref f) = true) : Nonempty (Df K mg "every_rule" sEvery ["width"]) :=
  have F := fun_mk (st := sEvery) l c k
  df_mk X G a F (F.binds (ps := ["width"]) fun _ _ _ _ _ _ us hl => match us, hl with | [_], _ => rfl)
theorem mk_line_of {K : PySem.W.Frag} {h : Heap} {mg : Str → Option Value} {f : Addr} {od an : Option Addr} {sl : Array (Option Value)} {oc kV dc pm cd ct : Value} (X : K.In h) (G : h.Ns mainGlobals mg) (a : PySem.W.nsIn K mainGlobals "line_of" = some (some (.ref f)))
    (l : K.lookup f = some ⟨oc, od, .func (PySem.W.fnOf "line_of" "line_of" (defArgs sLine) (defBody sLine) (defScope sLine) .none kV dc pm an cd ct), sl⟩) (c : PySem.W.codeIn K cd "line_of" = true) (k : PySem.W.keepIn K (.ref f) = true) : Nonempty (Df K mg "line_of" sLine ["rule"]) :=
  have F := fun_mk (st := sLine) l c k
  df_mk X G a F (F.binds (ps := ["rule"]) fun _ _ _ _ _ _ us hl => match us, hl with | [_], _ => rfl)
theorem mk_rules_of {K : PySem.W.Frag} {h : Heap} {mg : Str → Option Value} {f : Addr} {od an : Option Addr} {sl : Array (Option Value)} {oc kV dc pm cd ct : Value} (X : K.In h) (G : h.Ns mainGlobals mg) (a : PySem.W.nsIn K mainGlobals "rules_of" = some (some (.ref f)))
    (l : K.lookup f = some ⟨oc, od, .func (PySem.W.fnOf "rules_of" "rules_of" (defArgs sRulesOf) (defBody sRulesOf) (defScope sRulesOf) .none kV dc pm an cd ct), sl⟩) (c : PySem.W.codeIn K cd "rules_of" = true) (k : PySem.W.keepIn K (.ref f) = true) : Nonempty (Df K mg "rules_of" sRulesOf ["width", "text"]) :=
  have F := fun_mk (st := sRulesOf) l c k
  df_mk X G a F (F.binds (ps := ["width", "text"]) fun _ _ _ _ _ _ us hl => match us, hl with | [_, _], _ => rfl)
theorem mk_l_pen {K : PySem.W.Frag} {h : Heap} {mg : Str → Option Value} {f : Addr} {od an : Option Addr} {sl : Array (Option Value)} {oc kV dc pm cd ct : Value} (X : K.In h) (G : h.Ns mainGlobals mg) (a : PySem.W.nsIn K mainGlobals "_law_pen" = some (some (.ref f)))
    (l : K.lookup f = some ⟨oc, od, .func (PySem.W.fnOf "_law_pen" "_law_pen" (defArgs sPen) (defBody sPen) (defScope sPen) .none kV dc pm an cd ct), sl⟩) (c : PySem.W.codeIn K cd "_law_pen" = true) (k : PySem.W.keepIn K (.ref f) = true) : Nonempty (Df K mg "_law_pen" sPen ["_law_cell"]) :=
  have F := fun_mk (st := sPen) l c k
  df_mk X G a F (F.binds (ps := ["_law_cell"]) fun _ _ _ _ _ _ us hl => match us, hl with | [_], _ => rfl)
theorem mk_l_cell_at {K : PySem.W.Frag} {h : Heap} {mg : Str → Option Value} {f : Addr} {od an : Option Addr} {sl : Array (Option Value)} {oc kV dc pm cd ct : Value} (X : K.In h) (G : h.Ns mainGlobals mg) (a : PySem.W.nsIn K mainGlobals "_law_cell_at" = some (some (.ref f)))
    (l : K.lookup f = some ⟨oc, od, .func (PySem.W.fnOf "_law_cell_at" "_law_cell_at" (defArgs sCell) (defBody sCell) (defScope sCell) .none kV dc pm an cd ct), sl⟩) (c : PySem.W.codeIn K cd "_law_cell_at" = true) (k : PySem.W.keepIn K (.ref f) = true) : Nonempty (Df K mg "_law_cell_at" sCell ["_law_script", "_law_k"]) :=
  have F := fun_mk (st := sCell) l c k
  df_mk X G a F (F.binds (ps := ["_law_script", "_law_k"]) fun _ _ _ _ _ _ us hl => match us, hl with | [_, _], _ => rfl)
theorem mk_l_draw {K : PySem.W.Frag} {h : Heap} {mg : Str → Option Value} {f : Addr} {od an : Option Addr} {sl : Array (Option Value)} {oc kV dc pm cd ct : Value} (X : K.In h) (G : h.Ns mainGlobals mg) (a : PySem.W.nsIn K mainGlobals "_law_draw" = some (some (.ref f)))
    (l : K.lookup f = some ⟨oc, od, .func (PySem.W.fnOf "_law_draw" "_law_draw" (defArgs sPDraw) (defBody sPDraw) (defScope sPDraw) .none kV dc pm an cd ct), sl⟩) (c : PySem.W.codeIn K cd "_law_draw" = true) (k : PySem.W.keepIn K (.ref f) = true) : Nonempty (Df K mg "_law_draw" sPDraw ["_law_pen_here", "_law_many"]) :=
  have F := fun_mk (st := sPDraw) l c k
  df_mk X G a F (F.binds (ps := ["_law_pen_here", "_law_many"]) fun _ _ _ _ _ _ us hl => match us, hl with | [_, _], _ => rfl)
theorem mk_l_rule {K : PySem.W.Frag} {h : Heap} {mg : Str → Option Value} {f : Addr} {od an : Option Addr} {sl : Array (Option Value)} {oc kV dc pm cd ct : Value} (X : K.In h) (G : h.Ns mainGlobals mg) (a : PySem.W.nsIn K mainGlobals "_law_rule" = some (some (.ref f)))
    (l : K.lookup f = some ⟨oc, od, .func (PySem.W.fnOf "_law_rule" "_law_rule" (defArgs sPRule) (defBody sPRule) (defScope sPRule) .none kV dc pm an cd ct), sl⟩) (c : PySem.W.codeIn K cd "_law_rule" = true) (k : PySem.W.keepIn K (.ref f) = true) : Nonempty (Df K mg "_law_rule" sPRule ["_law_pen_here", "_law_width"]) :=
  have F := fun_mk (st := sPRule) l c k
  df_mk X G a F (F.binds (ps := ["_law_pen_here", "_law_width"]) fun _ _ _ _ _ _ us hl => match us, hl with | [_, _], _ => rfl)
theorem mk_l_ring {K : PySem.W.Frag} {h : Heap} {mg : Str → Option Value} {f : Addr} {od an : Option Addr} {sl : Array (Option Value)} {oc kV dc pm cd ct : Value} (X : K.In h) (G : h.Ns mainGlobals mg) (a : PySem.W.nsIn K mainGlobals "_law_ring" = some (some (.ref f)))
    (l : K.lookup f = some ⟨oc, od, .func (PySem.W.fnOf "_law_ring" "_law_ring" (defArgs sRing) (defBody sRing) (defScope sRing) .none kV dc pm an cd ct), sl⟩) (c : PySem.W.codeIn K cd "_law_ring" = true) (k : PySem.W.keepIn K (.ref f) = true) : Nonempty (Df K mg "_law_ring" sRing ["_law_pen_here", "_law_width"]) :=
  have F := fun_mk (st := sRing) l c k
  df_mk X G a F (F.binds (ps := ["_law_pen_here", "_law_width"]) fun _ _ _ _ _ _ us hl => match us, hl with | [_, _], _ => rfl)
theorem mk_l_drawn {K : PySem.W.Frag} {h : Heap} {mg : Str → Option Value} {f : Addr} {od an : Option Addr} {sl : Array (Option Value)} {oc kV dc pm cd ct : Value} (X : K.In h) (G : h.Ns mainGlobals mg) (a : PySem.W.nsIn K mainGlobals "_law_drawn" = some (some (.ref f)))
    (l : K.lookup f = some ⟨oc, od, .func (PySem.W.fnOf "_law_drawn" "_law_drawn" (defArgs sDrawn) (defBody sDrawn) (defScope sDrawn) .none kV dc pm an cd ct), sl⟩) (c : PySem.W.codeIn K cd "_law_drawn" = true) (k : PySem.W.keepIn K (.ref f) = true) : Nonempty (Df K mg "_law_drawn" sDrawn ["_law_pen_here", "_law_most"]) :=
  have F := fun_mk (st := sDrawn) l c k
  df_mk X G a F (F.binds (ps := ["_law_pen_here", "_law_most"]) fun _ _ _ _ _ _ us hl => match us, hl with | [_, _], _ => rfl)
theorem mk_l_every {K : PySem.W.Frag} {h : Heap} {mg : Str → Option Value} {f : Addr} {od an : Option Addr} {sl : Array (Option Value)} {oc kV dc pm cd ct : Value} (X : K.In h) (G : h.Ns mainGlobals mg) (a : PySem.W.nsIn K mainGlobals "_law_every" = some (some (.ref f)))
    (l : K.lookup f = some ⟨oc, od, .func (PySem.W.fnOf "_law_every" "_law_every" (defArgs sEv) (defBody sEv) (defScope sEv) .none kV dc pm an cd ct), sl⟩) (c : PySem.W.codeIn K cd "_law_every" = true) (k : PySem.W.keepIn K (.ref f) = true) : Nonempty (Df K mg "_law_every" sEv ["_law_width"]) :=
  have F := fun_mk (st := sEv) l c k
  df_mk X G a F (F.binds (ps := ["_law_width"]) fun _ _ _ _ _ _ us hl => match us, hl with | [_], _ => rfl)
theorem mk_l_nearly_all {K : PySem.W.Frag} {h : Heap} {mg : Str → Option Value} {f : Addr} {od an : Option Addr} {sl : Array (Option Value)} {oc kV dc pm cd ct : Value} (X : K.In h) (G : h.Ns mainGlobals mg) (a : PySem.W.nsIn K mainGlobals "_law_nearly_all" = some (some (.ref f)))
    (l : K.lookup f = some ⟨oc, od, .func (PySem.W.fnOf "_law_nearly_all" "_law_nearly_all" (defArgs sNa) (defBody sNa) (defScope sNa) .none kV dc pm an cd ct), sl⟩) (c : PySem.W.codeIn K cd "_law_nearly_all" = true) (k : PySem.W.keepIn K (.ref f) = true) : Nonempty (Df K mg "_law_nearly_all" sNa ["_law_pen_here"]) :=
  have F := fun_mk (st := sNa) l c k
  df_mk X G a F (F.binds (ps := ["_law_pen_here"]) fun _ _ _ _ _ _ us hl => match us, hl with | [_], _ => rfl)
theorem mk_l_text {K : PySem.W.Frag} {h : Heap} {mg : Str → Option Value} {f : Addr} {od an : Option Addr} {sl : Array (Option Value)} {oc kV dc pm cd ct : Value} (X : K.In h) (G : h.Ns mainGlobals mg) (a : PySem.W.nsIn K mainGlobals "_law_text" = some (some (.ref f)))
    (l : K.lookup f = some ⟨oc, od, .func (PySem.W.fnOf "_law_text" "_law_text" (defArgs sTx) (defBody sTx) (defScope sTx) .none kV dc pm an cd ct), sl⟩) (c : PySem.W.codeIn K cd "_law_text" = true) (k : PySem.W.keepIn K (.ref f) = true) : Nonempty (Df K mg "_law_text" sTx ["_law_some"]) :=
  have F := fun_mk (st := sTx) l c k
  df_mk X G a F (F.binds (ps := ["_law_some"]) fun _ _ _ _ _ _ us hl => match us, hl with | [_], _ => rfl)
theorem mk_l_reach {K : PySem.W.Frag} {h : Heap} {mg : Str → Option Value} {f : Addr} {od an : Option Addr} {sl : Array (Option Value)} {oc kV dc pm cd ct : Value} (X : K.In h) (G : h.Ns mainGlobals mg) (a : PySem.W.nsIn K mainGlobals "_law_reach" = some (some (.ref f)))
    (l : K.lookup f = some ⟨oc, od, .func (PySem.W.fnOf "_law_reach" "_law_reach" (defArgs sReach) (defBody sReach) (defScope sReach) .none kV dc pm an cd ct), sl⟩) (c : PySem.W.codeIn K cd "_law_reach" = true) (k : PySem.W.keepIn K (.ref f) = true) : Nonempty (Df K mg "_law_reach" sReach ["_law_width", "_law_pairs_here"]) :=
  have F := fun_mk (st := sReach) l c k
  df_mk X G a F (F.binds (ps := ["_law_width", "_law_pairs_here"]) fun _ _ _ _ _ _ us hl => match us, hl with | [_, _], _ => rfl)
theorem mk_l_steps {K : PySem.W.Frag} {h : Heap} {mg : Str → Option Value} {f : Addr} {od an : Option Addr} {sl : Array (Option Value)} {oc kV dc pm cd ct : Value} (X : K.In h) (G : h.Ns mainGlobals mg) (a : PySem.W.nsIn K mainGlobals "_law_steps" = some (some (.ref f)))
    (l : K.lookup f = some ⟨oc, od, .func (PySem.W.fnOf "_law_steps" "_law_steps" (defArgs sDowns) (defBody sDowns) (defScope sDowns) .none kV dc pm an cd ct), sl⟩) (c : PySem.W.codeIn K cd "_law_steps" = true) (k : PySem.W.keepIn K (.ref f) = true) : Nonempty (Df K mg "_law_steps" sDowns ["_law_some"]) :=
  have F := fun_mk (st := sDowns) l c k
  df_mk X G a F (F.binds (ps := ["_law_some"]) fun _ _ _ _ _ _ us hl => match us, hl with | [_], _ => rfl)
theorem mk_l_pairs {K : PySem.W.Frag} {h : Heap} {mg : Str → Option Value} {f : Addr} {od an : Option Addr} {sl : Array (Option Value)} {oc kV dc pm cd ct : Value} (X : K.In h) (G : h.Ns mainGlobals mg) (a : PySem.W.nsIn K mainGlobals "_law_pairs" = some (some (.ref f)))
    (l : K.lookup f = some ⟨oc, od, .func (PySem.W.fnOf "_law_pairs" "_law_pairs" (defArgs sArrows) (defBody sArrows) (defScope sArrows) .none kV dc pm an cd ct), sl⟩) (c : PySem.W.codeIn K cd "_law_pairs" = true) (k : PySem.W.keepIn K (.ref f) = true) : Nonempty (Df K mg "_law_pairs" sArrows ["_law_width", "_law_some", "_law_kind"]) :=
  have F := fun_mk (st := sArrows) l c k
  df_mk X G a F (F.binds (ps := ["_law_width", "_law_some", "_law_kind"]) fun _ _ _ _ _ _ us hl => match us, hl with | [_, _, _], _ => rfl)
theorem mk_l_due {K : PySem.W.Frag} {h : Heap} {mg : Str → Option Value} {f : Addr} {od an : Option Addr} {sl : Array (Option Value)} {oc kV dc pm cd ct : Value} (X : K.In h) (G : h.Ns mainGlobals mg) (a : PySem.W.nsIn K mainGlobals "_law_due" = some (some (.ref f)))
    (l : K.lookup f = some ⟨oc, od, .func (PySem.W.fnOf "_law_due" "_law_due" (defArgs sDu4) (defBody sDu4) (defScope sDu4) .none kV dc pm an cd ct), sl⟩) (c : PySem.W.codeIn K cd "_law_due" = true) (k : PySem.W.keepIn K (.ref f) = true) : Nonempty (Df K mg "_law_due" sDu4 ["_law_width", "_law_some"]) :=
  have F := fun_mk (st := sDu4) l c k
  df_mk X G a F (F.binds (ps := ["_law_width", "_law_some"]) fun _ _ _ _ _ _ us hl => match us, hl with | [_, _], _ => rfl)
theorem mk_check_rules {K : PySem.W.Frag} {h : Heap} {mg : Str → Option Value} {f : Addr} {od an : Option Addr} {sl : Array (Option Value)} {oc kV dc pm cd ct : Value} (X : K.In h) (G : h.Ns mainGlobals mg) (a : PySem.W.nsIn K mainGlobals "check_rules" = some (some (.ref f)))
    (l : K.lookup f = some ⟨oc, od, .func (PySem.W.fnOf "check_rules" "check_rules" (defArgs sChk) (defBody sChk) (defScope sChk) .none kV dc pm an cd ct), sl⟩) (c : PySem.W.codeIn K cd "check_rules" = true) (k : PySem.W.keepIn K (.ref f) = true) : Nonempty (Df K mg "check_rules" sChk ["rules"]) :=
  have F := fun_mk (st := sChk) l c k
  df_mk X G a F (F.binds (ps := ["rules"]) fun _ _ _ _ _ _ us hl => match us, hl with | [_], _ => rfl)
theorem mk_steps_down {K : PySem.W.Frag} {h : Heap} {mg : Str → Option Value} {f : Addr} {od an : Option Addr} {sl : Array (Option Value)} {oc kV dc pm cd ct : Value} (X : K.In h) (G : h.Ns mainGlobals mg) (a : PySem.W.nsIn K mainGlobals "steps_down" = some (some (.ref f)))
    (l : K.lookup f = some ⟨oc, od, .func (PySem.W.fnOf "steps_down" "steps_down" (defArgs sDown) (defBody sDown) (defScope sDown) .none kV dc pm an cd ct), sl⟩) (c : PySem.W.codeIn K cd "steps_down" = true) (k : PySem.W.keepIn K (.ref f) = true) : Nonempty (Df K mg "steps_down" sDown ["rules"]) :=
  have F := fun_mk (st := sDown) l c k
  df_mk X G a F (F.binds (ps := ["rules"]) fun _ _ _ _ _ _ us hl => match us, hl with | [_], _ => rfl)
theorem mk_first_ways {K : PySem.W.Frag} {h : Heap} {mg : Str → Option Value} {f : Addr} {od an : Option Addr} {sl : Array (Option Value)} {oc kV dc pm cd ct : Value} (X : K.In h) (G : h.Ns mainGlobals mg) (a : PySem.W.nsIn K mainGlobals "first_ways" = some (some (.ref f)))
    (l : K.lookup f = some ⟨oc, od, .func (PySem.W.fnOf "first_ways" "first_ways" (defArgs sFw) (defBody sFw) (defScope sFw) .none kV dc pm an cd ct), sl⟩) (c : PySem.W.codeIn K cd "first_ways" = true) (k : PySem.W.keepIn K (.ref f) = true) : Nonempty (Df K mg "first_ways" sFw ["pairs", "start"]) :=
  have F := fun_mk (st := sFw) l c k
  df_mk X G a F (F.binds (ps := ["pairs", "start"]) fun _ _ _ _ _ _ us hl => match us, hl with | [_, _], _ => rfl)
theorem mk_reached {K : PySem.W.Frag} {h : Heap} {mg : Str → Option Value} {f : Addr} {od an : Option Addr} {sl : Array (Option Value)} {oc kV dc pm cd ct : Value} (X : K.In h) (G : h.Ns mainGlobals mg) (a : PySem.W.nsIn K mainGlobals "reached" = some (some (.ref f)))
    (l : K.lookup f = some ⟨oc, od, .func (PySem.W.fnOf "reached" "reached" (defArgs sReached) (defBody sReached) (defScope sReached) .none kV dc pm an cd ct), sl⟩) (c : PySem.W.codeIn K cd "reached" = true) (k : PySem.W.keepIn K (.ref f) = true) : Nonempty (Df K mg "reached" sReached ["pairs", "start"]) :=
  have F := fun_mk (st := sReached) l c k
  df_mk X G a F (F.binds (ps := ["pairs", "start"]) fun _ _ _ _ _ _ us hl => match us, hl with | [_, _], _ => rfl)
theorem mk_links {K : PySem.W.Frag} {h : Heap} {mg : Str → Option Value} {f : Addr} {od an : Option Addr} {sl : Array (Option Value)} {oc kV dc pm cd ct : Value} (X : K.In h) (G : h.Ns mainGlobals mg) (a : PySem.W.nsIn K mainGlobals "links" = some (some (.ref f)))
    (l : K.lookup f = some ⟨oc, od, .func (PySem.W.fnOf "links" "links" (defArgs sLinks) (defBody sLinks) (defScope sLinks) .none kV dc pm an cd ct), sl⟩) (c : PySem.W.codeIn K cd "links" = true) (k : PySem.W.keepIn K (.ref f) = true) : Nonempty (Df K mg "links" sLinks ["width", "rules", "kind"]) :=
  have F := fun_mk (st := sLinks) l c k
  df_mk X G a F (F.binds (ps := ["width", "rules", "kind"]) fun _ _ _ _ _ _ us hl => match us, hl with | [_, _, _], _ => rfl)
theorem mk_follows {K : PySem.W.Frag} {h : Heap} {mg : Str → Option Value} {f : Addr} {od an : Option Addr} {sl : Array (Option Value)} {oc kV dc pm cd ct : Value} (X : K.In h) (G : h.Ns mainGlobals mg) (a : PySem.W.nsIn K mainGlobals "follows" = some (some (.ref f)))
    (l : K.lookup f = some ⟨oc, od, .func (PySem.W.fnOf "follows" "follows" (defArgs sFollows) (defBody sFollows) (defScope sFollows) .none kV dc pm an cd ct), sl⟩) (c : PySem.W.codeIn K cd "follows" = true) (k : PySem.W.keepIn K (.ref f) = true) : Nonempty (Df K mg "follows" sFollows ["width", "rules", "rule"]) :=
  have F := fun_mk (st := sFollows) l c k
  df_mk X G a F (F.binds (ps := ["width", "rules", "rule"]) fun _ _ _ _ _ _ us hl => match us, hl with | [_, _, _], _ => rfl)
theorem mk_least {K : PySem.W.Frag} {h : Heap} {mg : Str → Option Value} {f : Addr} {od an : Option Addr} {sl : Array (Option Value)} {oc kV dc pm cd ct : Value} (X : K.In h) (G : h.Ns mainGlobals mg) (a : PySem.W.nsIn K mainGlobals "least" = some (some (.ref f)))
    (l : K.lookup f = some ⟨oc, od, .func (PySem.W.fnOf "least" "least" (defArgs sLea) (defBody sLea) (defScope sLea) .none kV dc pm an cd ct), sl⟩) (c : PySem.W.codeIn K cd "least" = true) (k : PySem.W.keepIn K (.ref f) = true) : Nonempty (Df K mg "least" sLea ["rules"]) :=
  have F := fun_mk (st := sLea) l c k
  df_mk X G a F (F.binds (ps := ["rules"]) fun _ _ _ _ _ _ us hl => match us, hl with | [_], _ => rfl)
theorem mk_glb {K : PySem.W.Frag} {h : Heap} {mg : Str → Option Value} {kA : Addr} {t t1 t2 : Tok} {od : Option Addr} {n : Nat} {sl : Array (Option Value)} (X : K.In h) (G : h.Ns mainGlobals mg) (len : PySem.W.nsIn K mainGlobals "len" = some none) (max : PySem.W.nsIn K mainGlobals "max" = some none) (min : PySem.W.nsIn K mainGlobals "min" = some none) (isi : PySem.W.nsIn K mainGlobals "isinstance" = some none) (int : PySem.W.nsIn K mainGlobals "int" = some none) (bool : PySem.W.nsIn K mainGlobals "bool" = some none) (str : PySem.W.nsIn K mainGlobals "str" = some none) (tup : PySem.W.nsIn K mainGlobals "tuple" = some none) (rng : PySem.W.nsIn K mainGlobals "range" = some none) (lst : PySem.W.nsIn K mainGlobals "list" = some none) (all : PySem.W.nsIn K mainGlobals "all" = some none) (set : PySem.W.nsIn K mainGlobals "set" = some none) (enu : PySem.W.nsIn K mainGlobals "enumerate" = some none) (rep : PySem.W.nsIn K mainGlobals "repr" = some none) (srt : PySem.W.nsIn K mainGlobals "sorted" = some none) (zip : PySem.W.nsIn K mainGlobals "zip" = some none) (any : PySem.W.nsIn K mainGlobals "any" = some none) (sum : PySem.W.nsIn K mainGlobals "sum" = some none) (rev : PySem.W.nsIn K mainGlobals "reversed" = some none) (dic : PySem.W.nsIn K mainGlobals "dict" = some none) (typ : PySem.W.nsIn K mainGlobals "type" = some none)
    (wid : PySem.W.nsIn K mainGlobals "WIDEST" = some (some (.int 6 t))) (knd : PySem.W.nsIn K mainGlobals "KINDS" = some (some (.ref kA))) (kl : K.lookup kA = some ⟨.type "tuple", od, .seq #[.str "settles" t1, .str "within" t2] n, sl⟩) : Nonempty { z : Unit // ∃ kA, Glb K mg kA } :=
  ⟨⟨(), kA, ⟨PySem.W.mg_none_of X G len, PySem.W.mg_none_of X G max, PySem.W.mg_none_of X G min, PySem.W.mg_none_of X G isi, PySem.W.mg_none_of X G int, PySem.W.mg_none_of X G bool, PySem.W.mg_none_of X G str, PySem.W.mg_none_of X G tup, PySem.W.mg_none_of X G rng, PySem.W.mg_none_of X G lst, PySem.W.mg_none_of X G all, PySem.W.mg_none_of X G set, PySem.W.mg_none_of X G enu, PySem.W.mg_none_of X G rep, PySem.W.mg_none_of X G srt, PySem.W.mg_none_of X G zip, PySem.W.mg_none_of X G any, PySem.W.mg_none_of X G sum, PySem.W.mg_none_of X G rev, PySem.W.mg_none_of X G dic, PySem.W.mg_none_of X G typ, ⟨t, PySem.W.mg_of X G wid⟩, PySem.W.mg_of X G knd, ⟨_, _, _, kl, rfl, rfl, by show 2 ≤ sizeLine; decide, .cons ⟨t1, rfl⟩ (.cons ⟨t2, rfl⟩ .nil)⟩⟩⟩⟩
structure Kls (K : PySem.W.Frag) (mg : Str → Option Value) where
  C : Addr
  TC : Txt1 K mg C
  fN : Addr
  dN : FuncData
  FN : Fun K "__init__" "Rules.__init__" sInit fN dN
  M : Mk K C fN
  fD : Addr
  dD : FuncData
  FD : Fun K "read" "Rules.read" sRead fD dD
  bD : Binds K dD ["cls", "width", "text"] []
  mc : Value
  pD : Addr
  rD : ClX.CRead K C mc
  cD : ClX.CMet K C mc "read" pD fD
  ic : C8.InsC K C
  fW : Addr
  dW : FuncData
  FW : Fun K "width" "Rules.width" sPW fW dW
  bW : Binds K dW ["self"] []
  pW : Addr
  qW : PropOf K C "width" pW fW
  fR : Addr
  dR : FuncData
  FR : Fun K "rules" "Rules.rules" sPR fR dR
  bR : Binds K dR ["self"] []
  pR : Addr
  qR : PropOf K C "rules" pR fR
  fX : Addr
  dX : FuncData
  FX : Fun K "text" "Rules.text" sRTxt fX dX
  bX : Binds K dX ["self"] []
  mX : Meth K C "text" fX
theorem mk_cls {K : PySem.W.Frag} {h : Heap} {mg : Str → Option Value} {C fN fD fW fR fX : Addr} {odN anN : Option Addr} {slN : Array (Option Value)} {ocN kVN dcN pmN cdN ctN : Value} {pD : Addr} {rest : List Value} {odD anD : Option Addr} {slD : Array (Option Value)} {ocD kVD dcD pmD cdD ctD : Value} {pW : Addr} {restW : List Value} {odW anW : Option Addr} {slW : Array (Option Value)} {ocW kVW dcW pmW cdW ctW : Value} {pR : Addr} {restR : List Value} {odR anR : Option Addr} {slR : Array (Option Value)} {ocR kVR dcR pmR cdR ctR : Value} {odX anX : Option Addr} {slX : Array (Option Value)} {ocX kVX dcX pmX cdX ctX : Value} (X : K.In h) (G : h.Ns mainGlobals mg)
    (aC : PySem.W.nsIn K mainGlobals "Rules" = some (some (.ref C))) (pg : PySem.W.plainGet K C Str.empty = true) (hd : PySem.W.hasDictIn K C = true) (po : PySem.W.plainOver K C = true) (sa : PySem.W.findIn K (.ref C) "__setattr__" = some (some (.builtin "object.__setattr__"))) (kc : PySem.W.keepIn K (.ref C) = true) (nS : PySem.W.findIn K (.ref C) "span" = some none) (nG : PySem.W.findIn K (.ref C) "given" = some none) (mk : PySem.W.makesIn K C = true) (aN : PySem.W.findIn K (.ref C) "__init__" = some (some (.ref fN))) (iN : PySem.W.isFn K (.ref fN) = true) (lN : K.lookup fN = some ⟨ocN, odN, .func (PySem.W.fnOf "__init__" "Rules.__init__" (defArgs sInit) (defBody sInit) (defScope sInit) .none kVN dcN pmN anN cdN ctN), slN⟩) (cN : PySem.W.codeIn K cdN "Rules.__init__" = true) (kN : PySem.W.keepIn K (.ref fN) = true) (rd : PySem.W.readsIn K C (.type "type") = true) (ga : PySem.W.specialIn K (.ref C) "__getattribute__" = some (some (.builtin "type.__getattribute__"))) (aD : PySem.W.findCls K (.ref C) (.type "type") "read" = some (.get (.builtin "classmethod.__get__") (.ref pD) .none (.ref C))) (rD : PySem.W.recIn K pD "classmethod" = some (.ref fD :: rest)) (iD : PySem.W.fnIn K fD = true) (lD : K.lookup fD = some ⟨ocD, odD, .func (PySem.W.fnOf "read" "Rules.read" (defArgs sRead) (defBody sRead) (defScope sRead) .none kVD dcD pmD anD cdD ctD), slD⟩) (cD : PySem.W.codeIn K cdD "Rules.read" = true) (kD : PySem.W.keepIn K (.ref fD) = true) (i1 : PySem.W.findIn K (.ref C) "__class__" = some (some (.builtin "object.__class__"))) (i2 : PySem.W.specialIn K (.builtin "object.__class__") "__get__" = some (some (.builtin "getset_descriptor.__get__"))) (i3 : PySem.W.takesIn K (.builtin "object.__class__") = some true) (i4 : PySem.W.mroIn K C (.type "object") = some true) (q1W : PySem.W.findIn K (.ref C) "width" = some (some (.ref pW))) (q2W : PySem.W.specialIn K (.ref pW) "__get__" = some (some (.builtin "property.__get__"))) (q3W : PySem.W.takesIn K (.ref pW) = some true) (q4W : PySem.W.recIn K pW "property" = some (.ref fW :: restW)) (lW : K.lookup fW = some ⟨ocW, odW, .func (PySem.W.fnOf "width" "Rules.width" (defArgs sPW) (defBody sPW) (defScope sPW) .none kVW dcW pmW anW cdW ctW), slW⟩) (cW : PySem.W.codeIn K cdW "Rules.width" = true) (kW : PySem.W.keepIn K (.ref fW) = true) (q1R : PySem.W.findIn K (.ref C) "rules" = some (some (.ref pR))) (q2R : PySem.W.specialIn K (.ref pR) "__get__" = some (some (.builtin "property.__get__"))) (q3R : PySem.W.takesIn K (.ref pR) = some true) (q4R : PySem.W.recIn K pR "property" = some (.ref fR :: restR)) (lR : K.lookup fR = some ⟨ocR, odR, .func (PySem.W.fnOf "rules" "Rules.rules" (defArgs sPR) (defBody sPR) (defScope sPR) .none kVR dcR pmR anR cdR ctR), slR⟩) (cR : PySem.W.codeIn K cdR "Rules.rules" = true) (kR : PySem.W.keepIn K (.ref fR) = true) (aX : PySem.W.findIn K (.ref C) "text" = some (some (.ref fX))) (iX : PySem.W.isFn K (.ref fX) = true) (lX : K.lookup fX = some ⟨ocX, odX, .func (PySem.W.fnOf "text" "Rules.text" (defArgs sRTxt) (defBody sRTxt) (defScope sRTxt) .none kVX dcX pmX anX cdX ctX), slX⟩) (cX : PySem.W.codeIn K cdX "Rules.text" = true) (kX : PySem.W.keepIn K (.ref fX) = true) : Nonempty (Kls K mg) :=
  have FN := fun_mk (st := sInit) lN cN kN
  have FD := fun_mk (st := sRead) lD cD kD
  have FW := fun_mk (st := sPW) lW cW kW
  have FR := fun_mk (st := sPR) lR cR kR
  have FX := fun_mk (st := sRTxt) lX cX kX
  ⟨⟨C, ⟨⟨pg, hd, po, sa⟩, nS, nG, PySem.W.mg_of X G aC⟩, fN, _, FN, ⟨mk, aN, iN, kc⟩, fD, _, FD, FD.binds (ps := ["cls", "width", "text"]) (fun _ _ _ _ _ _ us hl => match us, hl with | [_, _, _], _ => rfl), .type "type", pD, ⟨rd, ga⟩, ⟨aD, ⟨rest, rD⟩, iD⟩, ⟨⟨pg, hd, po, sa⟩, i1, i2, i3, i4, kit_self⟩, fW, _, FW, FW.binds (ps := ["self"]) (fun _ _ _ _ _ _ us hl => match us, hl with | [_], _ => rfl), pW, ⟨q1W, q2W, q3W, ⟨restW, q4W⟩⟩, fR, _, FR, FR.binds (ps := ["self"]) (fun _ _ _ _ _ _ us hl => match us, hl with | [_], _ => rfl), pR, ⟨q1R, q2R, q3R, ⟨restR, q4R⟩⟩, fX, _, FX, FX.binds (ps := ["self"]) (fun _ _ _ _ _ _ us hl => match us, hl with | [_], _ => rfl), ⟨aX, iX, kX⟩⟩⟩
theorem all_mk {l : PySem.W.OpenLaw} {w : World} {K : PySem.W.Frag} {h : Heap} {mg : Str → Option Value} {fa f : Addr} {od an : Option Addr} {sl : Array (Option Value)} {oc kV dc pm cd ct : Value} (X : K.In h) (G : h.Ns mainGlobals mg) (hfa : mg "law" = some (.ref fa))
    (a : PySem.W.nsIn K mainGlobals "law" = some (some (.ref f))) (l1 : K.lookup f = some ⟨oc, od, .func (PySem.W.fnOf "law" "law" (defArgs sLaw) (defBody sLaw) (defScope sLaw) .none kV dc pm an cd ct), sl⟩) (c : PySem.W.codeIn K cd "law" = true) (k : PySem.W.keepIn K (.ref f) = true)
    (gb : Nonempty { z : Unit // ∃ kA, Glb K mg kA }) (kl : Nonempty (Kls K mg))   (m_is_an_integer : Nonempty (Df K mg "is_an_integer" sIsInt ["thing"])) (m_is_width : Nonempty (Df K mg "is_width" sIsWidth ["thing"])) (m_is_column : Nonempty (Df K mg "is_column" sIsCol ["width", "thing"])) (m_is_rule : Nonempty (Df K mg "is_rule" sIsRule ["width", "thing"])) (m_every_rule : Nonempty (Df K mg "every_rule" sEvery ["width"])) (m_line_of : Nonempty (Df K mg "line_of" sLine ["rule"])) (m_rules_of : Nonempty (Df K mg "rules_of" sRulesOf ["width", "text"])) (m_l_pen : Nonempty (Df K mg "_law_pen" sPen ["_law_cell"])) (m_l_cell_at : Nonempty (Df K mg "_law_cell_at" sCell ["_law_script", "_law_k"])) (m_l_draw : Nonempty (Df K mg "_law_draw" sPDraw ["_law_pen_here", "_law_many"])) (m_l_rule : Nonempty (Df K mg "_law_rule" sPRule ["_law_pen_here", "_law_width"])) (m_l_ring : Nonempty (Df K mg "_law_ring" sRing ["_law_pen_here", "_law_width"])) (m_l_drawn : Nonempty (Df K mg "_law_drawn" sDrawn ["_law_pen_here", "_law_most"])) (m_l_every : Nonempty (Df K mg "_law_every" sEv ["_law_width"])) (m_l_nearly_all : Nonempty (Df K mg "_law_nearly_all" sNa ["_law_pen_here"])) (m_l_text : Nonempty (Df K mg "_law_text" sTx ["_law_some"])) (m_l_reach : Nonempty (Df K mg "_law_reach" sReach ["_law_width", "_law_pairs_here"])) (m_l_steps : Nonempty (Df K mg "_law_steps" sDowns ["_law_some"])) (m_l_pairs : Nonempty (Df K mg "_law_pairs" sArrows ["_law_width", "_law_some", "_law_kind"])) (m_l_due : Nonempty (Df K mg "_law_due" sDu4 ["_law_width", "_law_some"])) (m_check_rules : Nonempty (Df K mg "check_rules" sChk ["rules"])) (m_steps_down : Nonempty (Df K mg "steps_down" sDown ["rules"])) (m_first_ways : Nonempty (Df K mg "first_ways" sFw ["pairs", "start"])) (m_reached : Nonempty (Df K mg "reached" sReached ["pairs", "start"])) (m_links : Nonempty (Df K mg "links" sLinks ["width", "rules", "kind"])) (m_follows : Nonempty (Df K mg "follows" sFollows ["width", "rules", "rule"])) (m_least : Nonempty (Df K mg "least" sLea ["rules"])) :
    ∃ fd : FuncData, (∀ (s : Shared) (v : Value), BindsTo s fd ⟨[v], []⟩ [("_law_script", v)]) ∧ ∀ base : Heap, K.In base → base.Ns mainGlobals mg → GD.FnG l.prog w K mg base CX0 8 fa fd ["_law_script"] (spLaw K) := by
  have e := hfa.symm.trans (PySem.W.mg_of X G a)
  cases e
  obtain ⟨⟨_, kA, T⟩⟩ := gb
  obtain ⟨Y⟩ := kl
  obtain ⟨x_is_an_integer⟩ := m_is_an_integer
  obtain ⟨x_is_width⟩ := m_is_width
  obtain ⟨x_is_column⟩ := m_is_column
  obtain ⟨x_is_rule⟩ := m_is_rule
  obtain ⟨x_every_rule⟩ := m_every_rule
  obtain ⟨x_line_of⟩ := m_line_of
  obtain ⟨x_rules_of⟩ := m_rules_of
  obtain ⟨x_l_pen⟩ := m_l_pen
  obtain ⟨x_l_cell_at⟩ := m_l_cell_at
  obtain ⟨x_l_draw⟩ := m_l_draw
  obtain ⟨x_l_rule⟩ := m_l_rule
  obtain ⟨x_l_ring⟩ := m_l_ring
  obtain ⟨x_l_drawn⟩ := m_l_drawn
  obtain ⟨x_l_every⟩ := m_l_every
  obtain ⟨x_l_nearly_all⟩ := m_l_nearly_all
  obtain ⟨x_l_text⟩ := m_l_text
  obtain ⟨x_l_reach⟩ := m_l_reach
  obtain ⟨x_l_steps⟩ := m_l_steps
  obtain ⟨x_l_pairs⟩ := m_l_pairs
  obtain ⟨x_l_due⟩ := m_l_due
  obtain ⟨x_check_rules⟩ := m_check_rules
  obtain ⟨x_steps_down⟩ := m_steps_down
  obtain ⟨x_first_ways⟩ := m_first_ways
  obtain ⟨x_reached⟩ := m_reached
  obtain ⟨x_links⟩ := m_links
  obtain ⟨x_follows⟩ := m_follows
  obtain ⟨x_least⟩ := m_least
  refine ⟨PySem.W.fnOf "law" "law" (defArgs sLaw) (defBody sLaw) (defScope sLaw) .none kV dc pm an cd ct, fun s v => .of_eq rfl, fun base _ _ => ?_⟩
  have c_is_an_integer : Cal l.prog w K mg base "is_an_integer" ["thing"] spIsInt 1 := Df.cal x_is_an_integer fun k => ok_isint (k := k) x_is_an_integer.F T
  have c_is_width : Cal l.prog w K mg base "is_width" ["thing"] spIsWidth 2 := Df.cal x_is_width fun k => ok_iswidth (k := k) x_is_width.F T c_is_an_integer
  have c_is_column : Cal l.prog w K mg base "is_column" ["width", "thing"] spIsCol 2 := Df.cal x_is_column fun k => ok_iscol (k := k) x_is_column.F T c_is_an_integer
  have c_is_rule : Cal l.prog w K mg base "is_rule" ["width", "thing"] (spIsRule K) 3 := Df.cal x_is_rule fun k => ok_isrule (k := k) x_is_rule.F T c_is_column
  have mkR : MakeR l.prog w K mg base Y.C 4 := ⟨Y.fN, Y.M, from_le fun k => ok_init (k := k) Y.FN T Y.TC c_is_width c_is_rule⟩
  have c_every_rule : Cal l.prog w K mg base "every_rule" ["width"] (spEvery K) 1 := Df.cal x_every_rule fun k => ok_every (k := k) x_every_rule.F T
  have c_line_of : Cal l.prog w K mg base "line_of" ["rule"] (spLine K) 1 := Df.cal x_line_of fun k => ok_line (k := k) x_line_of.F
  have c_rules_of : Cal l.prog w K mg base "rules_of" ["width", "text"] (spRulesOf K) 2 := Df.cal x_rules_of fun k => ok_rulesof (k := k) x_rules_of.F T c_every_rule c_line_of
  have rd : ReadR l.prog w K mg base Y.C 6 := ⟨Y.mc, Y.pD, Y.fD, Y.rD, Y.cD, from_le fun k => raw0 (ok_read (k := k) Y.FD T mkR c_is_width c_rules_of) Y.bD⟩
  have txR : TxtR l.prog w K mg base Y.C 2 := ⟨Y.fX, Y.dX, Y.mX, from_le fun k => ok_rtxt (k := k) Y.FX Y.TC c_line_of, Y.bX⟩
  have pW : Prp l.prog w K mg base Y.C "width" "span" := ⟨Y.pW, Y.fW, Y.dW, Y.qW, from_le fun k => ok_pw (k := k) Y.FW Y.TC, Y.bW⟩
  have c__law_pen : Cal l.prog w K mg base "_law_pen" ["_law_cell"] spPen 1 := Df.cal x_l_pen fun k => ok_pen (k := k) x_l_pen.F T
  have c__law_cell_at : Cal l.prog w K mg base "_law_cell_at" ["_law_script", "_law_k"] (spCell K) 1 := Df.cal x_l_cell_at fun k => ok_cell (k := k) x_l_cell_at.F T.len
  have c__law_draw : Cal l.prog w K mg base "_law_draw" ["_law_pen_here", "_law_many"] spPDraw 1 := Df.cal x_l_draw fun k => ok_pdraw (k := k) x_l_draw.F
  have c__law_rule : Cal l.prog w K mg base "_law_rule" ["_law_pen_here", "_law_width"] (spPRule K) 2 := Df.cal x_l_rule fun k => ok_prule (k := k) x_l_rule.F c__law_draw
  have c__law_ring : Cal l.prog w K mg base "_law_ring" ["_law_pen_here", "_law_width"] (spRing K) 2 := Df.cal x_l_ring fun k => ok_ring (k := k) x_l_ring.F T c__law_draw
  have c__law_drawn : Cal l.prog w K mg base "_law_drawn" ["_law_pen_here", "_law_most"] (spDrawn K) 3 := Df.cal x_l_drawn fun k => ok_drawn (k := k) x_l_drawn.F T c__law_draw c__law_rule c__law_ring
  have c__law_every : Cal l.prog w K mg base "_law_every" ["_law_width"] (spAll K) 1 := Df.cal x_l_every fun k => ok_ev (k := k) x_l_every.F T
  have c__law_nearly_all : Cal l.prog w K mg base "_law_nearly_all" ["_law_pen_here"] (spNa K) 2 := Df.cal x_l_nearly_all fun k => ok_na (k := k) x_l_nearly_all.F T c__law_draw c__law_every
  have c__law_text : Cal l.prog w K mg base "_law_text" ["_law_some"] (spTx K) 1 := Df.cal x_l_text fun k => ok_tx (k := k) x_l_text.F T
  have c__law_reach : Cal l.prog w K mg base "_law_reach" ["_law_width", "_law_pairs_here"] (spReach K) 1 := Df.cal x_l_reach fun k => ok_reach (k := k) x_l_reach.F T
  have c__law_steps : Cal l.prog w K mg base "_law_steps" ["_law_some"] (spDowns K) 1 := Df.cal x_l_steps fun k => ok_downs (k := k) x_l_steps.F
  have c__law_pairs : Cal l.prog w K mg base "_law_pairs" ["_law_width", "_law_some", "_law_kind"] (spArrows K) 2 := Df.cal x_l_pairs fun k => ok_arrows (k := k) x_l_pairs.F T c__law_reach c__law_steps
  have c__law_due : Cal l.prog w K mg base "_law_due" ["_law_width", "_law_some"] (spDu4 K) 3 := Df.cal x_l_due fun k => ok_du4 (k := k) x_l_due.F T c__law_reach c__law_pairs
  have pR : Prp l.prog w K mg base Y.C "rules" "given" := ⟨Y.pR, Y.fR, Y.dR, Y.qR, from_le fun k => ok_pr (k := k) Y.FR Y.TC, Y.bR⟩
  have ic : C8.InsC K Y.C := Y.ic
  have c_check_rules : Cal l.prog w K mg base "check_rules" ["rules"] (spChk K Y.C) 1 := Df.cal x_check_rules fun k => ok_chk (k := k) x_check_rules.F T Y.TC ic
  have c_steps_down : Cal l.prog w K mg base "steps_down" ["rules"] (spDown2 K) 1 := Df.cal x_steps_down fun k => ok_down2 (k := k) x_steps_down.F
  have c_first_ways : Cal l.prog w K mg base "first_ways" ["pairs", "start"] (spFw K) 1 := Df.cal x_first_ways fun k => ok_fw (k := k) x_first_ways.F T
  have c_reached : Cal l.prog w K mg base "reached" ["pairs", "start"] (spReached K) 2 := Df.cal x_reached fun k => ok_reached (k := k) x_reached.F T c_first_ways
  have c_links : Cal l.prog w K mg base "links" ["width", "rules", "kind"] (spLinks2 K) 3 := Df.cal x_links fun k => ok_links2 (k := k) x_links.F T c_steps_down c_reached
  have c_follows : Cal l.prog w K mg base "follows" ["width", "rules", "rule"] (spFollows2 K) 4 := Df.cal x_follows fun k => ok_follows2 (k := k) x_follows.F T c_links c_reached
  have c_least : Cal l.prog w K mg base "least" ["rules"] (spLea K Y.C) 6 := Df.cal x_least fun k => ok_lea (k := k) x_least.F T Y.TC pW pR mkR c_check_rules c_follows
  exact ok_law (k := 0) (fun_mk (st := sLaw) l1 c k) T Y.TC rd txR pW c__law_pen c__law_cell_at c__law_drawn c__law_nearly_all c__law_text c__law_due c_least
end CC
open PySem PySem.W PyProof.Rows
set_option maxHeartbeats 0 in
theorem PySem.Challenge.cw_countcycles_k44_needless_rules_left_out_holds : PySem.Challenge.rw_countcycles_k44_needless_rules_left_out.Holds := by
  w_on; o_law; k_head; (case hw => w_witness2)
  k_fill
  refine GD.walk_ofG (l := PySem.Challenge.rw_countcycles_k44_needless_rules_left_out) (n := 63) (k := 8) (x := "_law_script") (CX := fun _ => L2.CX0) (sp := fun w => CC.spLaw _) rfl (by decide) rfl ⟨rfl, by decide, by decide⟩ (fun w h Y => PySem.W.kIn_of Y) ?F (fun _ _ a ns hl _ hS => ⟨a, ns, rfl, hS, hl, fun _ => rfl⟩) (fun _ _ _ _ _ h => h)
  case F =>
    intro w mg fa h KX G hmg
    refine' CC.all_mk KX G hmg ?a ?l ?c ?k ?gb ?kl ?m_is_an_integer ?m_is_width ?m_is_column ?m_is_rule ?m_every_rule ?m_line_of ?m_rules_of ?m_l_pen ?m_l_cell_at ?m_l_draw ?m_l_rule ?m_l_ring ?m_l_drawn ?m_l_every ?m_l_nearly_all ?m_l_text ?m_l_reach ?m_l_steps ?m_l_pairs ?m_l_due ?m_check_rules ?m_steps_down ?m_first_ways ?m_reached ?m_links ?m_follows ?m_least
    (case a => k_is); (case l => k_is); (case c => k_is); (case k => k_is)
    case gb =>
      refine' CC.mk_glb KX G ?z_len ?z_max ?z_min ?z_isi ?z_int ?z_bool ?z_str ?z_tup ?z_rng ?z_lst ?z_all ?z_set ?z_enu ?z_rep ?z_srt ?z_zip ?z_any ?z_sum ?z_rev ?z_dic ?z_typ ?z1 ?z2 ?z3
      (case z_len => k_is); (case z_max => k_is); (case z_min => k_is); (case z_isi => k_is); (case z_int => k_is); (case z_bool => k_is); (case z_str => k_is); (case z_tup => k_is); (case z_rng => k_is); (case z_lst => k_is); (case z_all => k_is); (case z_set => k_is); (case z_enu => k_is); (case z_rep => k_is); (case z_srt => k_is); (case z_zip => k_is); (case z_any => k_is); (case z_sum => k_is); (case z_rev => k_is); (case z_dic => k_is); (case z_typ => k_is); (case z1 => k_is); (case z2 => k_is); (case z3 => k_is)
    case kl =>
      refine' CC.mk_cls KX G ?y_aC ?y_pg ?y_hd ?y_po ?y_sa ?y_kc ?y_nS ?y_nG ?y_mk ?y_aN ?y_iN ?y_lN ?y_cN ?y_kN ?y_rd ?y_ga ?y_aD ?y_rD ?y_iD ?y_lD ?y_cD ?y_kD ?y_i1 ?y_i2 ?y_i3 ?y_i4 ?y_q1W ?y_q2W ?y_q3W ?y_q4W ?y_lW ?y_cW ?y_kW ?y_q1R ?y_q2R ?y_q3R ?y_q4R ?y_lR ?y_cR ?y_kR ?y_aX ?y_iX ?y_lX ?y_cX ?y_kX
      (case y_aC => k_is)
      (case y_pg => k_is)
      (case y_hd => k_is)
      (case y_po => k_is)
      (case y_sa => k_is)
      (case y_kc => k_is)
      (case y_nS => k_is)
      (case y_nG => k_is)
      (case y_mk => k_is)
      (case y_aN => k_is)
      (case y_iN => k_is)
      (case y_lN => k_is)
      (case y_cN => k_is)
      (case y_kN => k_is)
      (case y_rd => k_is)
      (case y_ga => k_is)
      (case y_aD => k_is)
      (case y_rD => k_is)
      (case y_iD => k_is)
      (case y_lD => k_is)
      (case y_cD => k_is)
      (case y_kD => k_is)
      (case y_i1 => k_is)
      (case y_i2 => k_is)
      (case y_i3 => k_is)
      (case y_i4 => k_is)
      (case y_q1W => k_is)
      (case y_q2W => k_is)
      (case y_q3W => k_is)
      (case y_q4W => k_is)
      (case y_lW => k_is)
      (case y_cW => k_is)
      (case y_kW => k_is)
      (case y_q1R => k_is)
      (case y_q2R => k_is)
      (case y_q3R => k_is)
      (case y_q4R => k_is)
      (case y_lR => k_is)
      (case y_cR => k_is)
      (case y_kR => k_is)
      (case y_aX => k_is)
      (case y_iX => k_is)
      (case y_lX => k_is)
      (case y_cX => k_is)
      (case y_kX => k_is)
    (case m_is_an_integer => (refine' CC.mk_is_an_integer KX G ?a ?l ?c ?k; (case a => k_is); (case l => k_is); (case c => k_is); (case k => k_is)))
    (case m_is_width => (refine' CC.mk_is_width KX G ?a ?l ?c ?k; (case a => k_is); (case l => k_is); (case c => k_is); (case k => k_is)))
    (case m_is_column => (refine' CC.mk_is_column KX G ?a ?l ?c ?k; (case a => k_is); (case l => k_is); (case c => k_is); (case k => k_is)))
    (case m_is_rule => (refine' CC.mk_is_rule KX G ?a ?l ?c ?k; (case a => k_is); (case l => k_is); (case c => k_is); (case k => k_is)))
    (case m_every_rule => (refine' CC.mk_every_rule KX G ?a ?l ?c ?k; (case a => k_is); (case l => k_is); (case c => k_is); (case k => k_is)))
    (case m_line_of => (refine' CC.mk_line_of KX G ?a ?l ?c ?k; (case a => k_is); (case l => k_is); (case c => k_is); (case k => k_is)))
    (case m_rules_of => (refine' CC.mk_rules_of KX G ?a ?l ?c ?k; (case a => k_is); (case l => k_is); (case c => k_is); (case k => k_is)))
    (case m_l_pen => (refine' CC.mk_l_pen KX G ?a ?l ?c ?k; (case a => k_is); (case l => k_is); (case c => k_is); (case k => k_is)))
    (case m_l_cell_at => (refine' CC.mk_l_cell_at KX G ?a ?l ?c ?k; (case a => k_is); (case l => k_is); (case c => k_is); (case k => k_is)))
    (case m_l_draw => (refine' CC.mk_l_draw KX G ?a ?l ?c ?k; (case a => k_is); (case l => k_is); (case c => k_is); (case k => k_is)))
    (case m_l_rule => (refine' CC.mk_l_rule KX G ?a ?l ?c ?k; (case a => k_is); (case l => k_is); (case c => k_is); (case k => k_is)))
    (case m_l_ring => (refine' CC.mk_l_ring KX G ?a ?l ?c ?k; (case a => k_is); (case l => k_is); (case c => k_is); (case k => k_is)))
    (case m_l_drawn => (refine' CC.mk_l_drawn KX G ?a ?l ?c ?k; (case a => k_is); (case l => k_is); (case c => k_is); (case k => k_is)))
    (case m_l_every => (refine' CC.mk_l_every KX G ?a ?l ?c ?k; (case a => k_is); (case l => k_is); (case c => k_is); (case k => k_is)))
    (case m_l_nearly_all => (refine' CC.mk_l_nearly_all KX G ?a ?l ?c ?k; (case a => k_is); (case l => k_is); (case c => k_is); (case k => k_is)))
    (case m_l_text => (refine' CC.mk_l_text KX G ?a ?l ?c ?k; (case a => k_is); (case l => k_is); (case c => k_is); (case k => k_is)))
    (case m_l_reach => (refine' CC.mk_l_reach KX G ?a ?l ?c ?k; (case a => k_is); (case l => k_is); (case c => k_is); (case k => k_is)))
    (case m_l_steps => (refine' CC.mk_l_steps KX G ?a ?l ?c ?k; (case a => k_is); (case l => k_is); (case c => k_is); (case k => k_is)))
    (case m_l_pairs => (refine' CC.mk_l_pairs KX G ?a ?l ?c ?k; (case a => k_is); (case l => k_is); (case c => k_is); (case k => k_is)))
    (case m_l_due => (refine' CC.mk_l_due KX G ?a ?l ?c ?k; (case a => k_is); (case l => k_is); (case c => k_is); (case k => k_is)))
    (case m_check_rules => (refine' CC.mk_check_rules KX G ?a ?l ?c ?k; (case a => k_is); (case l => k_is); (case c => k_is); (case k => k_is)))
    (case m_steps_down => (refine' CC.mk_steps_down KX G ?a ?l ?c ?k; (case a => k_is); (case l => k_is); (case c => k_is); (case k => k_is)))
    (case m_first_ways => (refine' CC.mk_first_ways KX G ?a ?l ?c ?k; (case a => k_is); (case l => k_is); (case c => k_is); (case k => k_is)))
    (case m_reached => (refine' CC.mk_reached KX G ?a ?l ?c ?k; (case a => k_is); (case l => k_is); (case c => k_is); (case k => k_is)))
    (case m_links => (refine' CC.mk_links KX G ?a ?l ?c ?k; (case a => k_is); (case l => k_is); (case c => k_is); (case k => k_is)))
    (case m_follows => (refine' CC.mk_follows KX G ?a ?l ?c ?k; (case a => k_is); (case l => k_is); (case c => k_is); (case k => k_is)))
    (case m_least => (refine' CC.mk_least KX G ?a ?l ?c ?k; (case a => k_is); (case l => k_is); (case c => k_is); (case k => k_is)))
