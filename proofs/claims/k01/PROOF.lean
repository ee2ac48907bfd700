import PyProof.Rows.All
import Wide.All
import OpenK.AllK
import Wide.FinOn
import HandS.ForMost
import HandS.Deep
import HandS.IsInst
import HandS.FStr
import HandS.Zip
import HandS.Conv
import HandS.Strs
import HandS.SetFor
import HandS.TupSets
import HandS.DictComp
import HandS.Star
import HandS.ClsMeth
import HandS.StrMore
import HandS.Property
import HandS.SlotsOwn
import HandS.SetBool
import HandS.Set
import PyProof.FactsAll.set_2
import HandS.WordsExc
import HandS.ExcOwn
import HandS.Codes
import PyProof.ReprRoads
import HandS.More
import HandS.Lambda
import HandS.EndBits
import KE.KNestM
import PyProof.FactsAll.object_2
import KE.KSuper
import HandS.Defaults
import HandS.MakeKw
import HandS.SortInts
import HandS.TupAny
import KE.SortKeyed
import HandS.SortRule
import KE.SortData
import PyProof.ReprLen
import PyProof.ReprNest
import HandS.TryMany
import HandS.Style
import HandS.TupMul
import HandS.List
import PyProof.EqKinds
import HandS.OwnEq
import HandS.TryOnly
import PySem.Challenge.RW_countcycles_k01_tables_made
set_option Elab.async false
set_option linter.all false
set_option maxRecDepth 100000
set_option maxHeartbeats 16000000
namespace CC
open PySem L2
def tp (i : Nat) : Stmt := PySem.Challenge.pw_countcycles_k01_tables_made.main.body.getD i (.Pass ⟨0, 0, 0, 0⟩)
abbrev sCell : Stmt := tp 29
/-- a source of draws: three numbers -/
def IsSrc (o : HO) : Prop := ∃ a b c : Int, o = .lst [.int a, .int b, .int c] ∧ 0 ≤ b ∧ b < 2147483648
def spCell (K : PySem.W.Frag) : Sp := fun vs H Q _ => ∃ (a : Addr) (ns : List Int) (k : Nat), vs = [.ref a, .int (k : Int)] ∧ SqL K H a (ns.map V.int) ∧ ∀ z : Int, Q (.int z) H
def spSource : Sp := fun vs H Q _ => ∃ z : Int, vs = [.int z] ∧ ∀ p o, H p = none → IsSrc o → Q (.ref p) (upd H p o)
def spDraw : Sp := fun vs H Q _ => ∃ (s : Addr) (m : Int) (o : HO), vs = [.ref s, .int m] ∧ H s = some o ∧ IsSrc o ∧ 0 < m ∧ m < 1000000 ∧ ∀ (r : Int) (o' : HO), 0 ≤ r → r < m → IsSrc o' → Q (.int r) (upd H s o')
section
variable {P : Program} {w : World} {K : PySem.W.Frag} {mg : Str → Option Value} {base : Heap}
theorem scCell : FnScope ["_law_script", "_law_index"] ["_law_script", "_law_index"] (defScope sCell) := ⟨rfl, rfl, rfl, by decide +kernel, rfl, by decide +kernel, by decide +kernel⟩
theorem ok_cell {f : Addr} {fd : FuncData} {k : Nat} (F : Fun K "_law_cell" "_law_cell" sCell f fd) (ml : mg "len" = none) : FnOk P w K mg base CX0 (k + 1) f fd ["_law_script", "_law_index"] (spCell K) := by
  refine F.ok scCell (fun vs H Q E h => ?_) (fun cdv A outer s H vs Q E hr h => ?_)
  · obtain ⟨a, ns, k, rfl, _⟩ := h
    rfl
  · obtain ⟨a, ns, k, rfl, hS, q⟩ := h
    refine ⟨_, pss_cons (ps_if (pt_cmpR op_lt (pv 1) (pe_callB call_len_seq (by rfl) ml PySem.boot_len (pa_cons (pv 0) pa_nil)) (nomark _)) (pss_one (ps_ret (pe_ix ix_list (pv 0) (pv 1) (fun _ _ => rfl)))) pss_nil) (pss_one (ps_ret pe_int)), ?_⟩
    refine ⟨_, rfl, _, rfl, a, _, rfl, .inl hS, _, _, rfl, rfl, _, rfl, ite2 (fun e => ?_) (fun e => ?_)⟩
    · have e1 : (k : Int) < ((ns.map V.int).length : Int) := of_decide_eq_true e
      have e2 : k < ns.length := by
        rw [List.length_map] at e1
        omega
      have e3 : (ns.map V.int)[k]? = some (.int ns[k]) := by
        rw [List.getElem?_map, List.getElem?_eq_getElem e2]
        rfl
      exact ⟨_, rfl, _, rfl, a, _, _, _, rfl, rfl, hS, atI_nat e3, q _⟩
    · exact q 0
end
end CC
namespace CC
open PySem L2
/-! ### data in the heap -/
section
variable {K : PySem.W.Frag} {H H' : Hp}
theorem same_rd {a : Addr} {u : HO} (e : Same H H') (h : Rd H a u) : Rd H' a u := by
  rcases h with h | ⟨o, h⟩
  · exact .inl (e a _ h)
  · exact .inr ⟨o, e a _ h⟩
theorem same_l {a : Addr} {xs : List V} (e : Same H H') (h : SqL K H a xs) : SqL K H' a xs := by
  rcases h with h | h
  · exact .inl (same_rd e h)
  · exact .inr h
theorem same_t {a : Addr} {xs : List V} (e : Same H H') (h : SqT K H a xs) : SqT K H' a xs := by
  rcases h with h | h
  · exact .inl (same_rd e h)
  · exact .inr h
mutual
theorem dp_same (e : Same H H') : ∀ (d : PyData) (v : V), Dp K H v d → Dp K H' v d
  | .none, _, h => by cases h; exact .non
  | .bool b, _, h => by cases h; exact .bl b
  | .int i, _, h => by cases h; exact .int i
  | .str x, _, h => by cases h; exact .str x
  | .list ds, _, h => by
    cases h with
    | lst hs ha => exact .lst (same_l e hs) (dps_same e ds _ ha)
  | .tuple ds, _, h => by
    cases h with
    | tup hs ha => exact .tup (same_t e hs) (dps_same e ds _ ha)
  | .dict _, _, h => by cases h
theorem dps_same (e : Same H H') : ∀ (ds : List PyData) (vs : List V), DpAll K H vs ds → DpAll K H' vs ds
  | [], _, h => by cases h; exact .nil
  | d :: ds, _, h => by
    cases h with
    | cons h1 h2 => exact .cons (dp_same e d _ h1) (dps_same e ds _ h2)
end
theorem dps_len : ∀ {ds : List PyData} {vs : List V}, DpAll K H vs ds → vs.length = ds.length
  | [], _, h => by cases h; rfl
  | d :: ds, _, h => by
    cases h with
    | cons h1 h2 => exact congrArg (· + 1) (dps_len h2)
theorem dps_at : ∀ {ds : List PyData} {vs : List V} {i : Nat} {v : V}, DpAll K H vs ds → vs[i]? = some v → ∃ d, ds[i]? = some d ∧ Dp K H v d
  | [], _, i, v, h, e => by
    cases h
    simp at e
  | d :: ds, _, 0, v, h, e => by
    cases h with
    | cons h1 h2 => exact ⟨d, rfl, by simp at e; subst e; exact h1⟩
  | d :: ds, _, i + 1, v, h, e => by
    cases h with
    | cons h1 h2 => exact dps_at (i := i) h2 (by simpa using e)
theorem dps_to : ∀ {ds : List PyData} {vs : List V} {i : Nat} {d : PyData}, DpAll K H vs ds → ds[i]? = some d → ∃ v, vs[i]? = some v ∧ Dp K H v d
  | [], _, i, v, h, e => by
    cases h
    simp at e
  | d :: ds, _, 0, v, h, e => by
    cases h with
    | cons h1 h2 => exact ⟨_, rfl, by simp at e; subst e; exact h1⟩
  | d :: ds, _, i + 1, v, h, e => by
    cases h with
    | cons h1 h2 => exact dps_to (i := i) h2 (by simpa using e)
theorem dps_app : ∀ {ds es : List PyData} {vs us : List V}, DpAll K H vs ds → DpAll K H us es → DpAll K H (vs ++ us) (ds ++ es)
  | [], _, _, _, h, g => by
    cases h
    exact g
  | d :: ds, _, _, _, h, g => by
    cases h with
    | cons h1 h2 => exact .cons h1 (dps_app h2 g)
theorem dps_take : ∀ {ds : List PyData} {vs : List V} (n : Nat), DpAll K H vs ds → DpAll K H (vs.take n) (ds.take n)
  | _, _, 0, _ => .nil
  | [], _, n + 1, h => by
    cases h
    exact .nil
  | d :: ds, _, n + 1, h => by
    cases h with
    | cons h1 h2 => exact .cons h1 (dps_take n h2)
theorem dps_drop : ∀ {ds : List PyData} {vs : List V} (n : Nat), DpAll K H vs ds → DpAll K H (vs.drop n) (ds.drop n)
  | _, _, 0, h => h
  | [], _, n + 1, h => by
    cases h
    exact .nil
  | d :: ds, _, n + 1, h => by
    cases h with
    | cons h1 h2 => exact dps_drop n h2
theorem dps_one {v : V} {d : PyData} (h : Dp K H v d) : DpAll K H [v] [d] := .cons h .nil
theorem dps_ints : ∀ ns : List Int, DpAll K H (ns.map V.int) (ns.map PyData.int)
  | [] => .nil
  | n :: ns => .cons (.int n) (dps_ints ns)
theorem dps_bls : ∀ ns : List Bool, DpAll K H (ns.map V.bl) (ns.map PyData.bool)
  | [] => .nil
  | n :: ns => .cons (.bl n) (dps_bls ns)
theorem dp_l {v : V} {ds : List PyData} (h : Dp K H v (.list ds)) : ∃ p vs, v = .ref p ∧ SqL K H p vs ∧ DpAll K H vs ds := by
  cases h with
  | lst hs ha => exact ⟨_, _, rfl, hs, ha⟩
theorem dp_t {v : V} {ds : List PyData} (h : Dp K H v (.tuple ds)) : ∃ p vs, v = .ref p ∧ SqT K H p vs ∧ DpAll K H vs ds := by
  cases h with
  | tup hs ha => exact ⟨_, _, rfl, hs, ha⟩
theorem dp_int {v : V} {i : Int} (h : Dp K H v (.int i)) : v = .int i := by
  cases h
  rfl
theorem dp_str {v : V} {i : Str} (h : Dp K H v (.str i)) : v = .str i := by
  cases h
  rfl
theorem same_new {p : Addr} {o : HO} (h : H p = none) : Same H (upd H p o) := fun b x e => by
  rw [upd_ne (ne_of_none e h)]
  exact e
theorem same_mut {p : Addr} {o : HO} (e : Same H H') (h : H p = none) : Same H (upd H' p o) := fun b x q => by
  rw [upd_ne (ne_of_none q h)]
  exact e b x q
/-- the heap without one object -/
def wo (H : Hp) (s : Addr) : Hp := fun b => if b = s then none else H b
theorem wo_at (s : Addr) : wo H s s = none := by
  unfold wo
  rw [if_pos rfl]
theorem wo_ne {s b : Addr} (h : b ≠ s) : wo H s b = H b := by
  unfold wo
  rw [if_neg h]
theorem wo_le (s : Addr) : Same (wo H s) H := fun b o e => by
  by_cases h : b = s
  · subst h
    rw [wo_at] at e
    cases e
  · rw [wo_ne h] at e
    exact e
theorem wo_upd (s : Addr) (o : HO) : wo (upd H s o) s = wo H s := by
  funext b
  by_cases h : b = s
  · subst h
    rw [wo_at, wo_at]
  · rw [wo_ne h, wo_ne h, upd_ne h]
theorem wo_upd_ne {s p : Addr} (o : HO) (h : p ≠ s) : wo (upd H p o) s = upd (wo H s) p o := by
  funext b
  by_cases hb : b = s
  · subst hb
    rw [wo_at, upd_ne (Ne.symm h), wo_at]
  · rw [wo_ne hb]
    by_cases hp : b = p
    · subst hp
      rw [upd_same, upd_same]
    · rw [upd_ne hp, upd_ne hp, wo_ne hb]
theorem wo_same {s : Addr} (e : Same H H') : Same (wo H s) (wo H' s) := fun b o q => by
  by_cases h : b = s
  · subst h
    rw [wo_at] at q
    cases q
  · rw [wo_ne h] at q ⊢
    exact e b o q
theorem wo_ext {s : Addr} {o : HO} (e : Same (wo H s) (wo H' s)) (h' : H' s = some o) (h : H s = some o) : Same H H' := fun b u q => by
  by_cases hb : b = s
  · subst hb
    rw [h] at q
    rw [h', q]
  · have := e b u (by rw [wo_ne hb]; exact q)
    rw [wo_ne hb] at this
    exact this
end
/-! ### rules and pairs as data -/
structure R where
  k : Bool
  a : Nat
  b : Nat
  deriving DecidableEq
def kd (k : Bool) : Str := if k then "settles" else "within"
def R.d (r : R) : PyData := .tuple [.str (kd r.k), .int (r.a : Int), .int (r.b : Int)]
def prd (p : Nat × Nat) : PyData := .tuple [.int (p.1 : Int), .int (p.2 : Int)]
theorem kd_inj {j k : Bool} (h : kd j = kd k) : j = k := by
  revert h
  cases j <;> cases k <;> decide +kernel
theorem kd_ok (k : Bool) : PyData.strOk (kd k) = true := by
  cases k <;> decide +kernel
theorem rd_shaped (r : R) : SeqAt.shaped r.d = true := by
  show (r.d.canLay0 && decide (r.d.depth ≤ 64)) = true
  simp [R.d, PyData.canLay0, PyData.canLayAll0, PyData.depth, PyData.depthAll, kd_ok]
theorem prd_shaped (r : Nat × Nat) : SeqAt.shaped (prd r) = true := by
  show ((prd r).canLay0 && decide ((prd r).depth ≤ 64)) = true
  simp [prd, PyData.canLay0, PyData.canLayAll0, PyData.depth, PyData.depthAll]
theorem lay_all : ∀ {ds : List PyData}, (∀ d ∈ ds, SeqAt.shaped d = true) → PyData.canLayAll0 ds = true ∧ PyData.depthAll ds ≤ 64
  | [], _ => by simp [PyData.canLayAll0, PyData.depthAll]
  | d :: ds, h => by
    have h1 := h d (List.mem_cons_self)
    have h2 := lay_all (ds := ds) fun e he => h e (List.mem_cons_of_mem _ he)
    have h1 : (d.canLay0 && decide (d.depth ≤ 64)) = true := h1
    rw [Bool.and_eq_true, decide_eq_true_eq] at h1
    simp only [PyData.canLayAll0, PyData.depthAll, Bool.and_eq_true]
    refine ⟨⟨h1.1, h2.1⟩, ?_⟩
    omega
theorem rds_shaped (rs : List R) : SeqAt.shaped (.list (rs.map R.d)) = true := by
  have h : PyData.canLayAll0 (rs.map R.d) = true ∧ PyData.depthAll (rs.map R.d) ≤ 2 := by
    induction rs with
    | nil => simp [PyData.canLayAll0, PyData.depthAll]
    | cons r rs ih =>
      simp only [List.map_cons, PyData.canLayAll0, PyData.depthAll, R.d, PyData.canLay0, PyData.depth, Bool.and_eq_true]
      refine ⟨⟨by simp [kd_ok], ih.1⟩, ?_⟩
      have := ih.2
      omega
  show ((PyData.list (rs.map R.d)).canLay0 && decide ((PyData.list (rs.map R.d)).depth ≤ 64)) = true
  simp only [PyData.canLay0, PyData.depth, h.1, Bool.true_and]
  exact decide_eq_true (by have := h.2; omega)
theorem prds_shaped (rs : List (Nat × Nat)) : SeqAt.shaped (.list (rs.map prd)) = true := by
  have h : PyData.canLayAll0 (rs.map prd) = true ∧ PyData.depthAll (rs.map prd) ≤ 2 := by
    induction rs with
    | nil => simp [PyData.canLayAll0, PyData.depthAll]
    | cons r rs ih =>
      simp only [List.map_cons, PyData.canLayAll0, PyData.depthAll, prd, PyData.canLay0, PyData.depth, Bool.and_eq_true]
      refine ⟨⟨by simp, ih.1⟩, ?_⟩
      have := ih.2
      omega
  show ((PyData.list (rs.map prd)).canLay0 && decide ((PyData.list (rs.map prd)).depth ≤ 64)) = true
  simp only [PyData.canLay0, PyData.depth, h.1, Bool.true_and]
  exact decide_eq_true (by have := h.2; omega)
theorem rd_eqv (r s : R) : PyData.eqv r.d s.d = decide (r = s) := by
  obtain ⟨k, a, b⟩ := r
  obtain ⟨k', a', b'⟩ := s
  simp only [R.d, PyData.eqv, PyData.eqvAll, Bool.and_true]
  by_cases h : (⟨k, a, b⟩ : R) = ⟨k', a', b'⟩
  · rw [decide_eq_true h]
    cases h
    simp
  · rw [decide_eq_false h]
    by_cases hk : k = k'
    · subst hk
      have : ¬ (a = a' ∧ b = b') := fun z => h (by rw [z.1, z.2])
      simp
      intro z
      omega
    · have : ¬ kd k = kd k' := fun z => hk (kd_inj z)
      simp [this]
theorem prd_eqv (r s : Nat × Nat) : PyData.eqv (prd r) (prd s) = decide (r = s) := by
  obtain ⟨a, b⟩ := r
  obtain ⟨a', b'⟩ := s
  simp only [prd, PyData.eqv, PyData.eqvAll, Bool.and_true]
  by_cases h : (a, b) = (a', b')
  · rw [decide_eq_true h]
    cases h
    simp
  · rw [decide_eq_false h]
    have : ¬ (a = a' ∧ b = b') := fun z => h (by rw [z.1, z.2])
    simp
    intro z
    omega
theorem rds_any (rs : List R) (r : R) : ((rs.map R.d).any fun z => PyData.eqv z r.d) = decide (r ∈ rs) := by
  induction rs with
  | nil => simp
  | cons x rs ih =>
    rw [List.map_cons, List.any_cons, ih, rd_eqv]
    by_cases h : x = r
    · simp [h]
    · have : ¬ r = x := fun z => h z.symm
      simp [h, this]
theorem prds_any (rs : List (Nat × Nat)) (r : Nat × Nat) : ((rs.map prd).any fun z => PyData.eqv z (prd r)) = decide (r ∈ rs) := by
  induction rs with
  | nil => simp
  | cons x rs ih =>
    rw [List.map_cons, List.any_cons, ih, prd_eqv]
    by_cases h : x = r
    · simp [h]
    · have : ¬ r = x := fun z => h z.symm
      simp [h, this]
section
variable {K : PySem.W.Frag} {H H' : Hp}
theorem dp_r {v : V} {r : R} (h : Dp K H v r.d) : ∃ p, v = .ref p ∧ SqT K H p [.str (kd r.k), .int (r.a : Int), .int (r.b : Int)] := by
  obtain ⟨p, vs, rfl, hs, ha⟩ := dp_t h
  cases ha with
  | cons h1 h2 =>
    cases h2 with
    | cons h2 h3 =>
      cases h3 with
      | cons h3 h4 =>
        cases h4
        cases dp_str h1
        cases dp_int h2
        cases dp_int h3
        exact ⟨p, rfl, hs⟩
theorem r_dp {p : Addr} {r : R} (h : SqT K H p [.str (kd r.k), .int (r.a : Int), .int (r.b : Int)]) : Dp K H (.ref p) r.d := .tup h (.cons (.str _) (.cons (.int _) (.cons (.int _) .nil)))
theorem dp_p {v : V} {r : Nat × Nat} (h : Dp K H v (prd r)) : ∃ p, v = .ref p ∧ SqT K H p [.int (r.1 : Int), .int (r.2 : Int)] := by
  obtain ⟨p, vs, rfl, hs, ha⟩ := dp_t h
  cases ha with
  | cons h1 h2 =>
    cases h2 with
    | cons h2 h3 =>
      cases h3
      cases dp_int h1
      cases dp_int h2
      exact ⟨p, rfl, hs⟩
theorem p_dp {p : Addr} {r : Nat × Nat} (h : SqT K H p [.int (r.1 : Int), .int (r.2 : Int)]) : Dp K H (.ref p) (prd r) := .tup h (.cons (.int _) (.cons (.int _) .nil))
theorem dps_rat {rs : List R} {vs : List V} {i : Nat} {v : V} (h : DpAll K H vs (rs.map R.d)) (e : vs[i]? = some v) : ∃ r, rs[i]? = some r ∧ Dp K H v r.d := by
  obtain ⟨d, h1, h2⟩ := dps_at h e
  rw [List.getElem?_map] at h1
  cases q : rs[i]? with
  | none =>
    rw [q] at h1
    cases h1
  | some r =>
    rw [q] at h1
    cases h1
    exact ⟨r, rfl, h2⟩
theorem dps_pat {rs : List (Nat × Nat)} {vs : List V} {i : Nat} {v : V} (h : DpAll K H vs (rs.map prd)) (e : vs[i]? = some v) : ∃ r, rs[i]? = some r ∧ Dp K H v (prd r) := by
  obtain ⟨d, h1, h2⟩ := dps_at h e
  rw [List.getElem?_map] at h1
  cases q : rs[i]? with
  | none =>
    rw [q] at h1
    cases h1
  | some r =>
    rw [q] at h1
    cases h1
    exact ⟨r, rfl, h2⟩
end
end CC
namespace CC
open PySem L2
/-- what the top has left: the built-ins' names are free, the two constants -/
structure Glb (K : PySem.W.Frag) (mg : Str → Option Value) (kA : Addr) : Prop where
  len : mg "len" = none
  max : mg "max" = none
  min : mg "min" = none
  isi : mg "isinstance" = none
  int : mg "int" = none
  bool : mg "bool" = none
  str : mg "str" = none
  tup : mg "tuple" = none
  rng : mg "range" = none
  lst : mg "list" = none
  all : mg "all" = none
  set : mg "set" = none
  enu : mg "enumerate" = none
  rep : mg "repr" = none
  srt : mg "sorted" = none
  zip : mg "zip" = none
  any : mg "any" = none
  sum : mg "sum" = none
  rev : mg "reversed" = none
  dic : mg "dict" = none
  typ : mg "type" = none
  wid : ∃ t, mg "WIDEST" = some (.int 6 t)
  knd : mg "KINDS" = some (.ref kA)
  kseq : ∃ (o : Obj) (its : Array Value) (n : Nat), K.lookup kA = some o ∧ o.cls = .type "tuple" ∧ o.data = .seq its n ∧ its.size ≤ sizeLine ∧ Vals [.str "settles", .str "within"] its.toList
/-- a def of the top, as it stands -/
structure Df (K : PySem.W.Frag) (mg : Str → Option Value) (x : Str) (st : Stmt) (ps : List Str) where
  f : Addr
  fd : FuncData
  F : Fun K x x st f fd
  b : Binds K fd ps []
  g : mg x = some (.ref f)
/-- a def that keeps a promise -/
structure Cal (P : Program) (w : World) (K : PySem.W.Frag) (mg : Str → Option Value) (base : Heap) (x : Str) (ps : List Str) (sp : Sp) (l : Nat) where
  f : Addr
  fd : FuncData
  ok : ∀ k, l ≤ k → FnOk P w K mg base CX0 k f fd ps sp
  kp : PySem.W.keepIn K (.ref f) = true
  b : Binds K fd ps []
  g : mg x = some (.ref f)
def Df.cal {P : Program} {w : World} {K : PySem.W.Frag} {mg : Str → Option Value} {base : Heap} {x : Str} {st : Stmt} {ps : List Str} {sp : Sp} {l : Nat} (d : Df K mg x st ps) (h : ∀ k, FnOk P w K mg base CX0 (k + l) d.f d.fd ps sp) : Cal P w K mg base x ps sp l :=
  ⟨d.f, d.fd, fun k hk => (Nat.sub_add_cancel hk) ▸ h (k - l), d.F.kp, d.b, d.g⟩
abbrev sIsInt : Stmt := tp 6
abbrev sIsWidth : Stmt := tp 7
abbrev sIsCol : Stmt := tp 8
abbrev sIsRule : Stmt := tp 10
def spIsInt : Sp := fun vs H Q _ => ∃ z : Int, vs = [.int z] ∧ Q (.bl true) H
def spIsWidth : Sp := fun vs H Q _ => ∃ z : Nat, vs = [.int (z : Int)] ∧ 1 ≤ z ∧ z ≤ 6 ∧ Q (.bl true) H
def spIsCol : Sp := fun vs H Q _ => ∃ w z : Nat, vs = [.int (w : Int), .int (z : Int)] ∧ z < w ∧ Q (.bl true) H
/-- a rule for the width -/
def R.ok (w : Nat) (r : R) : Prop := r.a < w ∧ r.b < w ∧ r.a ≠ r.b
def spIsRule (K : PySem.W.Frag) : Sp := fun vs H Q _ => ∃ (w : Nat) (v : V) (r : R), vs = [.int (w : Int), v] ∧ Dp K H v r.d ∧ r.ok w ∧ Q (.bl true) H
section
variable {P : Program} {w : World} {K : PySem.W.Frag} {mg : Str → Option Value} {base : Heap} {kA : Addr}
theorem ty_tup {H : Hp} {p : Addr} {xs : List V} (h : SqT K H p xs) : TyX K H (.ref p) (.type "tuple") := by
  rcases h with (h | ⟨o, h⟩) | ⟨o, its, n, h, c, _⟩
  · exact .base (.tup h)
  · exact .fTuple h
  · exact .kTuple h c
theorem scIsInt : FnScope ["thing"] ["thing"] (defScope sIsInt) := ⟨rfl, rfl, rfl, by decide +kernel, rfl, by decide +kernel, by decide +kernel⟩
theorem ok_isint {f : Addr} {fd : FuncData} {k : Nat} (F : Fun K "is_an_integer" "is_an_integer" sIsInt f fd) (T : Glb K mg kA) : FnOk P w K mg base CX0 (k + 1) f fd ["thing"] spIsInt := by
  refine F.ok scIsInt (fun vs H Q E h => ?_) (fun cdv A outer s H vs Q E hr h => ?_)
  · obtain ⟨z, rfl, _⟩ := h
    rfl
  · obtain ⟨z, rfl, q⟩ := h
    refine ⟨_, pss_one (ps_ret (pe_and (pe_callB call_isi (by rfl) T.isi (by decide +kernel) (pa_cons (pv 0) (pa_cons (pe_bltn (v := .ty "int") (by rfl) T.int (by decide +kernel) rfl) pa_nil)))
      (pe_one (pe_not (pe_callB call_isi (by rfl) T.isi (by decide +kernel) (pa_cons (pv 0) (pa_cons (pe_bltn (v := .ty "bool") (by rfl) T.bool (by decide +kernel) rfl) pa_nil))))))), ?_⟩
    refine ⟨_, rfl, _, _, _, _, true, rfl, .ty _, .base (.int z), kit_ty (by decide +kernel), _, rfl, iteT ?_⟩
    exact ⟨_, rfl, _, _, _, _, false, rfl, .ty _, .base (.int z), kit_ty (by decide +kernel), _, rfl, q⟩
theorem scIsWidth : FnScope ["thing"] ["thing"] (defScope sIsWidth) := ⟨rfl, rfl, rfl, by decide +kernel, rfl, by decide +kernel, by decide +kernel⟩
theorem ok_iswidth {f : Addr} {fd : FuncData} {k : Nat} (F : Fun K "is_width" "is_width" sIsWidth f fd) (T : Glb K mg kA) (cI : Cal P w K mg base "is_an_integer" ["thing"] spIsInt 1) : FnOk P w K mg base CX0 (k + 2) f fd ["thing"] spIsWidth := by
  have GI := cI.ok (k + 1) (by omega)
  refine F.ok scIsWidth (fun vs H Q E h => ?_) (fun cdv A outer s H vs Q E hr h => ?_)
  · obtain ⟨z, rfl, _⟩ := h
    rfl
  · obtain ⟨z, rfl, h1, h2, q⟩ := h
    obtain ⟨tw, hw⟩ := T.wid
    refine ⟨_, pss_one (ps_ret (pe_and (pe_call GI hr rfl cI.g cI.kp cI.b .nil pass0 (pa_cons (pv 0) pa_nil))
      (pe_one (pe_chain op_le op_le pe_int (pv 0) (pe_glob (v := .int 6) rfl hw ⟨_, rfl⟩))))), ?_⟩
    refine ⟨_, rfl, _, rfl, _, rfl, iteT ?_⟩
    have e1 : decide ((1 : Int) ≤ (z : Int)) = true := decide_eq_true (by omega)
    have e2 : decide ((z : Int) ≤ (6 : Int)) = true := decide_eq_true (by omega)
    refine ⟨_, rfl, _, _, rfl, rfl, _, rfl, ?_⟩
    rw [e1]
    refine iteT ⟨_, _, rfl, rfl, ?_⟩
    show Q (.bl (decide ((z : Int) ≤ (6 : Int)))) H
    rw [e2]
    exact q
theorem scIsCol : FnScope ["width", "thing"] ["width", "thing"] (defScope sIsCol) := ⟨rfl, rfl, rfl, by decide +kernel, rfl, by decide +kernel, by decide +kernel⟩
theorem ok_iscol {f : Addr} {fd : FuncData} {k : Nat} (F : Fun K "is_column" "is_column" sIsCol f fd) (T : Glb K mg kA) (cI : Cal P w K mg base "is_an_integer" ["thing"] spIsInt 1) : FnOk P w K mg base CX0 (k + 2) f fd ["width", "thing"] spIsCol := by
  have GI := cI.ok (k + 1) (by omega)
  refine F.ok scIsCol (fun vs H Q E h => ?_) (fun cdv A outer s H vs Q E hr h => ?_)
  · obtain ⟨w, z, rfl, _⟩ := h
    rfl
  · obtain ⟨w, z, rfl, h1, q⟩ := h
    refine ⟨_, pss_one (ps_ret (pe_and (pe_call GI hr rfl cI.g cI.kp cI.b .nil pass0 (pa_cons (pv 1) pa_nil))
      (pe_one (pe_chain op_le op_lt pe_int (pv 1) (pv 0))))), ?_⟩
    refine ⟨_, rfl, _, rfl, _, rfl, iteT ?_⟩
    have e1 : decide ((0 : Int) ≤ (z : Int)) = true := decide_eq_true (by omega)
    have e2 : decide ((z : Int) < (w : Int)) = true := decide_eq_true (by omega)
    refine ⟨_, rfl, _, _, rfl, rfl, _, rfl, ?_⟩
    rw [e1]
    refine iteT ⟨_, rfl, _, _, rfl, rfl, ?_⟩
    show Q (.bl (decide ((z : Int) < (w : Int)))) H
    rw [e2]
    exact q
theorem scIsRule : FnScope ["width", "thing", "kind", "first", "second"] ["width", "thing"] (defScope sIsRule) := ⟨rfl, rfl, rfl, by decide +kernel, rfl, by decide +kernel, by decide +kernel⟩
theorem ok_isrule {f : Addr} {fd : FuncData} {k : Nat} (F : Fun K "is_rule" "is_rule" sIsRule f fd) (T : Glb K mg kA) 
 (cC : Cal P w K mg base "is_column" ["width", "thing"] spIsCol 2) : FnOk P w K mg base CX0 (k + 3) f fd ["width", "thing"] (spIsRule K) := by
  have GC := cC.ok (k + 2) (by omega)
  refine F.ok scIsRule (fun vs H Q E h => ?_) (fun cdv A outer s H vs Q E hr h => ?_)
  · obtain ⟨w, v, r, rfl, _⟩ := h
    rfl
  · obtain ⟨w, v, r, rfl, hd, ⟨h1, h2, h3⟩, q⟩ := h
    obtain ⟨p, rfl, hp⟩ := dp_r hd
    have hk : SqT K H kA [.str "settles", .str "within"] := .inr T.kseq
    have nd := scIsRule.nd
    refine ⟨_, pss_cons (ps_if (PW.pt (pw_or (pt_not (pt_val (pe_callB call_isi (by rfl) T.isi (by decide +kernel) (pa_cons (pv 1) (pa_cons (pe_bltn (v := .ty "tuple") (by rfl) T.tup (by decide +kernel) rfl) pa_nil)))))
          (pw_or1 (pt_cmpR op_ne (pe_callB call_len_seq (by rfl) T.len PySem.boot_len (pa_cons (pv 1) pa_nil)) pe_int (nomark _))))) (pss_one (ps_ret pe_bl)) pss_nil)
      (pss_cons (ps_asg (pv 1) (pg_tup rfl (pgs_cons (pg_name (i := 2) nd rfl (.inl rfl)) (pgs_cons (pg_name (i := 3) nd rfl (.inl rfl)) (pgs_cons (pg_name (i := 4) nd rfl (.inl rfl)) pgs_nil)))))
      (pss_cons (ps_if (PW.pt (pw_or (pt_not (pt_val (pe_callB call_isi (by rfl) T.isi (by decide +kernel) (pa_cons (pv 2) (pa_cons (pe_bltn (v := .ty "str") (by rfl) T.str (by decide +kernel) rfl) pa_nil)))))
          (pw_or1 (pt_cmpR op_notIn_seq (pv 2) (pe_glob (v := .ref kA) rfl T.knd rfl) (by rfl))))) (pss_one (ps_ret pe_bl)) pss_nil)
      (pss_one (ps_ret (pe_and (pe_call GC hr rfl cC.g cC.kp cC.b .nil pass0 (pa_cons (pv 0) (pa_cons (pv 3) pa_nil)))
        (pe_and (pe_call GC hr rfl cC.g cC.kp cC.b .nil pass0 (pa_cons (pv 0) (pa_cons (pv 4) pa_nil))) (pe_one (pe_cmpR op_ne (pv 3) (pv 4) (nomark _))))))))), ?_⟩
    refine ⟨_, rfl, _, _, _, _, true, rfl, .ty _, ty_tup hp, kit_ty (by decide +kernel), _, rfl, iteF ?_⟩
    refine ⟨_, rfl, p, _, rfl, .inr hp, rfl, _, rfl, iteF ?_⟩
    refine ⟨_, rfl, p, _, rfl, hp, rfl, _, _, rfl, _, _, rfl, _, _, rfl, rfl, ?_⟩
    refine ⟨_, rfl, _, _, _, _, true, rfl, .ty _, .base (.str _), kit_ty (by decide +kernel), _, rfl, iteF ?_⟩
    have ek : inV (.str (kd r.k)) [.str "settles", .str "within"] = true := by
      cases r.k <;> decide +kernel
    refine ⟨_, rfl, kA, _, rfl, .inr hk, rfl, rfl, _, rfl, ?_⟩
    rw [ek]
    refine iteF ?_
    refine ⟨_, rfl, _, rfl, w, r.a, rfl, h1, _, rfl, iteT ?_⟩
    refine ⟨_, rfl, _, rfl, w, r.b, rfl, h2, _, rfl, iteT ?_⟩
    refine ⟨_, rfl, _, rfl, rfl, ?_⟩
    have e3 : (!decide (V.int (r.a : Int) = V.int (r.b : Int))) = true := by
      rw [decide_eq_false (fun z => h3 (by injection z with z; omega))]
      rfl
    show Q (.bl (!decide (V.int (r.a : Int) = V.int (r.b : Int)))) H
    rw [e3]
    exact q
end
end CC
namespace CC
open PySem L2 TL
theorem lc_zipT {K : PySem.W.Frag} {a b : Addr} {xs ys : List V} {g : TG} {tt : TT} {te : TE} {vs : List Nat} {σ : L2.St} {H1 : Hp} {D : Addr} {Qd : Hp → Prop} (hn : ys.length ≤ xs.length) (Pv : Nat → Hp → Prop) (h0 : Pv 0 (upd H1 D (.lst []))) (hl : ∀ i H, Pv i H → SqT K H a xs ∧ SqT K H b ys)
    (hs : ∀ i x y T H, xs[i]? = some x → ys[i]? = some y → Pv i H → H T = none → g (.ref T) (wipe σ vs) (upd H T (.tup [x, y])) fun σ2 H2 => wipe σ2 vs = wipe σ vs ∧ tt σ2 H2 fun b H3 =>
      if b = true then te σ2 H3 fun y H4 => ∃ acc, H4 D = some (.lst acc) ∧ acc.length < sizeLine ∧ Pv (i + 1) (upd H4 D (.lst (acc ++ [y]))) else Pv (i + 1) H3) (hd : ∀ H, Pv ys.length H → Qd H) :
    ∃ W : Nat → Nat → Hp → Prop, (∃ m, W 0 m (upd H1 D (.lst []))) ∧ ∀ i m H, W i m H →
      ((RZ.ItzT K a b).stop i H ∧ Qd H) ∨ ((RZ.ItzT K a b).go i H ∧ ∃ Nx : Hp → Prop, (∀ H', Nx H' → ∃ m', m' < m ∧ W (i + 1) m' H') ∧ ∀ x H', (RZ.ItzT K a b).yld i H x H' → g x (wipe σ vs) H' fun σ2 H2 => wipe σ2 vs = wipe σ vs ∧ tt σ2 H2 fun b H3 =>
        if b = true then te σ2 H3 fun y H4 => ∃ acc, H4 D = some (.lst acc) ∧ acc.length < sizeLine ∧ Nx (upd H4 D (.lst (acc ++ [y]))) else Nx H3) := by
  refine ⟨fun i m H => m = ys.length - i ∧ i ≤ ys.length ∧ Pv i H, ⟨ys.length, by simp, Nat.zero_le _, h0⟩, ?_⟩
  rintro i m H ⟨rfl, hi, p⟩
  obtain ⟨q1, q2⟩ := hl i H p
  by_cases lt : i < ys.length
  · have g1 : xs[i]? = some xs[i] := List.getElem?_eq_getElem (by omega)
    have g2 : ys[i]? = some ys[i] := List.getElem?_eq_getElem lt
    refine .inr ⟨⟨xs, ys, _, _, q1, q2, g1, g2⟩, Pv (i + 1), fun H' p' => ⟨ys.length - (i + 1), by omega, rfl, lt, p'⟩, fun v H' y => ?_⟩
    obtain ⟨T, x, y, rfl, nT, rfl, h1, h2⟩ := y
    exact hs i x y T H (h1 xs q1) (h2 ys q2) p nT
  · have e : i = ys.length := by omega
    subst e
    exact .inl ⟨⟨xs, ys, q1, q2, .inr (Nat.le_refl _)⟩, hd H p⟩
theorem iteT' {p q : Prop} {b : Bool} (h : b = true) (x : p) : if b = true then p else q := by
  rw [if_pos h]
  exact x
theorem iteF' {p q : Prop} {b : Bool} (h : b = false) (x : q) : if b = true then p else q := by
  rw [if_neg (by rw [h]; decide)]
  exact x
end CC
namespace CC
open PySem L2 TL
/-! ### what is no width and no text (k05/Ro, Rd, Ir have the same) -/
theorem fn_or {P : Program} {w : World} {K : PySem.W.Frag} {mg : Str → Option Value} {base : Heap} {CX : CXT} {k : Nat} {f : Addr} {fd : FuncData} {ps : List Str} {sp sp' : Sp} (F : FnOk P w K mg base CX k f fd ps sp) (G : FnOk P w K mg base CX k f fd ps sp') :
    FnOk P w K mg base CX k f fd ps (fun vs H Q E => sp vs H Q E ∨ sp' vs H Q E) :=
  ⟨fun vs H Q E h => h.elim (F.len vs H Q E) (G.len vs H Q E), fun A outer s H args us vs Q E hr e0 b r h => h.elim (F.run A outer s H args us vs Q E hr e0 b r) (G.run A outer s H args us vs Q E hr e0 b r)⟩
def noInts : List String := ["NoneType", "bool", "str", "tuple", "list", "dict"]
def noStrs : List String := ["NoneType", "bool", "int", "tuple", "list", "dict"]
def NoInt (K : PySem.W.Frag) (H : Hp) (v : V) : Prop := ∃ n, TyX K H v (.type n) ∧ n ∈ noInts
def NoStr (K : PySem.W.Frag) (H : Hp) (v : V) : Prop := ∃ n, TyX K H v (.type n) ∧ n ∈ noStrs
/-- no width -/
def NoWid (K : PySem.W.Frag) (H : Hp) (v : V) : Prop := NoInt K H v ∨ ∃ z : Int, v = .int z ∧ ¬ (1 ≤ z ∧ z ≤ 6)
def spIsIntX (K : PySem.W.Frag) : Sp := fun vs H Q E => spIsInt vs H Q E ∨ ∃ v, vs = [v] ∧ NoInt K H v ∧ Q (.bl false) H
def spIsWidthX (K : PySem.W.Frag) : Sp := fun vs H Q E => spIsWidth vs H Q E ∨ ∃ v, vs = [v] ∧ NoWid K H v ∧ Q (.bl false) H
def Cal.imp {P : Program} {w : World} {K : PySem.W.Frag} {mg : Str → Option Value} {base : Heap} {x : Str} {ps : List Str} {sp sp' : Sp} {l : Nat} (c : Cal P w K mg base x ps sp l) (h : ∀ vs H Q E, sp' vs H Q E → sp vs H Q E) : Cal P w K mg base x ps sp' l :=
  ⟨c.f, c.fd, fun k hk => (c.ok k hk).imp h, c.kp, c.b, c.g⟩
section
variable {P : Program} {w : World} {K : PySem.W.Frag} {mg : Str → Option Value} {base : Heap} {kA : Addr}
theorem ok_isintX {f : Addr} {fd : FuncData} {k : Nat} (F : Fun K "is_an_integer" "is_an_integer" sIsInt f fd) (T : Glb K mg kA) : FnOk P w K mg base CX0 (k + 1) f fd ["thing"] (spIsIntX K) := by
  refine fn_or (ok_isint F T) ?_
  refine F.ok scIsInt (fun vs H Q E h => ?_) (fun cdv A outer s H vs Q E hr h => ?_)
  · obtain ⟨v, rfl, _⟩ := h
    rfl
  · obtain ⟨v, rfl, ⟨n, ty, hn⟩, q⟩ := h
    refine ⟨_, pss_one (ps_ret (pe_and (pe_callB call_isi (by rfl) T.isi (by decide +kernel) (pa_cons (pv 0) (pa_cons (pe_bltn (v := .ty "int") (by rfl) T.int (by decide +kernel) rfl) pa_nil)))
      (pe_one (pe_not (pe_callB call_isi (by rfl) T.isi (by decide +kernel) (pa_cons (pv 0) (pa_cons (pe_bltn (v := .ty "bool") (by rfl) T.bool (by decide +kernel) rfl) pa_nil))))))), ?_⟩
    by_cases hb : n = "bool"
    · subst hb
      refine ⟨_, rfl, _, _, _, _, true, rfl, .ty _, ty, kit_ty (by decide +kernel), _, rfl, iteT ?_⟩
      exact ⟨_, rfl, _, _, _, _, true, rfl, .ty _, ty, kit_ty (by decide +kernel), _, rfl, q⟩
    · have kb : kitB n "int" = some false := by
        simp only [noInts, List.mem_cons, List.not_mem_nil, or_false] at hn
        rcases hn with rfl | rfl | rfl | rfl | rfl | rfl <;> first | exact (hb rfl).elim | decide +kernel
      exact ⟨_, rfl, _, _, _, _, false, rfl, .ty _, ty, kit_ty kb, _, rfl, iteF q⟩
theorem ok_iswidthX {f : Addr} {fd : FuncData} {k : Nat} (F : Fun K "is_width" "is_width" sIsWidth f fd) (T : Glb K mg kA) (cI : Cal P w K mg base "is_an_integer" ["thing"] (spIsIntX K) 1) : FnOk P w K mg base CX0 (k + 2) f fd ["thing"] (spIsWidthX K) := by
  have GI := cI.ok (k + 1) (by omega)
  refine fn_or (ok_iswidth F T (cI.imp fun _ _ _ _ h => .inl h)) ?_
  refine F.ok scIsWidth (fun vs H Q E h => ?_) (fun cdv A outer s H vs Q E hr h => ?_)
  · obtain ⟨v, rfl, _⟩ := h
    rfl
  · obtain ⟨v, rfl, hv, q⟩ := h
    obtain ⟨tw, hw⟩ := T.wid
    refine ⟨_, pss_one (ps_ret (pe_and (pe_call GI hr rfl cI.g cI.kp cI.b .nil pass0 (pa_cons (pv 0) pa_nil))
      (pe_one (pe_chain op_le op_le pe_int (pv 0) (pe_glob (v := .int 6) rfl hw ⟨_, rfl⟩))))), ?_⟩
    rcases hv with no | ⟨z, rfl, hz⟩
    · exact ⟨_, rfl, .inr ⟨v, rfl, no, _, rfl, iteF q⟩⟩
    · refine ⟨_, rfl, .inl ⟨z, rfl, _, rfl, iteT ?_⟩⟩
      refine ⟨_, rfl, _, _, rfl, rfl, _, rfl, ?_⟩
      by_cases h1 : (1 : Int) ≤ z
      · refine iteT' (decide_eq_true h1) ⟨_, _, rfl, rfl, ?_⟩
        show Q (.bl (decide (z ≤ (6 : Int)))) H
        rw [decide_eq_false (show ¬ z ≤ (6 : Int) from fun h => hz ⟨h1, h⟩)]
        exact q
      · exact iteF' (decide_eq_false h1) q
end
theorem ty_same {K : PySem.W.Frag} {H H' : Hp} {v : V} {t : Value} (e : Same H H') (h : TyX K H v t) : TyX K H' v t := by
  cases h with
  | base b =>
    refine .base ?_
    cases b with
    | non => exact .non
    | bl x => exact .bl x
    | int i => exact .int i
    | str x => exact .str x
    | flt x => exact .flt x
    | lst z => exact .lst (e _ _ z)
    | frz z => exact .frz (e _ _ z)
    | tup z => exact .tup (e _ _ z)
    | dK z => exact .dK (e _ _ z)
    | dT z => exact .dT (e _ _ z)
    | ins z a b c d f => exact .ins (e _ _ z) a b c d f
  | byt b => exact .byt b
  | set z => exact .set (e _ _ z)
  | kList z c => exact .kList z c
  | kTuple z c => exact .kTuple z c
  | kDict z c => exact .kDict z c
  | fTuple z => exact .fTuple (e _ _ z)
  | fDict z => exact .fDict (e _ _ z)
theorem NoStr.same {K : PySem.W.Frag} {H H' : Hp} {v : V} (h : NoStr K H v) (e : Same H H') : NoStr K H' v := by
  obtain ⟨n, ty, hn⟩ := h
  exact ⟨n, ty_same e ty, hn⟩
end CC
namespace CC
open PySem L2 TL
/-! ### no integer, no tuple, by the type (also of instances) -/
/-- no integer, by its type -/
def NoIntT (K : PySem.W.Frag) (H : Hp) (v : V) : Prop := (∃ b, v = .bl b) ∨ ∃ t, TyX K H v t ∧ PySem.W.kitOne K t (.type "int") = some false
def NoTupT (K : PySem.W.Frag) (H : Hp) (v : V) : Prop := ∃ t, TyX K H v t ∧ PySem.W.kitOne K t (.type "tuple") = some false
def spIsIntT (K : PySem.W.Frag) : Sp := fun vs H Q E => spIsInt vs H Q E ∨ ∃ v, vs = [v] ∧ NoIntT K H v ∧ Q (.bl false) H
section
variable {P : Program} {w : World} {K : PySem.W.Frag} {mg : Str → Option Value} {base : Heap} {kA : Addr}
theorem ok_isintT {f : Addr} {fd : FuncData} {k : Nat} (F : Fun K "is_an_integer" "is_an_integer" sIsInt f fd) (T : Glb K mg kA) : FnOk P w K mg base CX0 (k + 1) f fd ["thing"] (spIsIntT K) := by
  refine fn_or (ok_isint F T) ?_
  refine F.ok scIsInt (fun vs H Q E h => ?_) (fun cdv A outer s H vs Q E hr h => ?_)
  · obtain ⟨v, rfl, _⟩ := h
    rfl
  · obtain ⟨v, rfl, hv, q⟩ := h
    refine ⟨_, pss_one (ps_ret (pe_and (pe_callB call_isi (by rfl) T.isi (by decide +kernel) (pa_cons (pv 0) (pa_cons (pe_bltn (v := .ty "int") (by rfl) T.int (by decide +kernel) rfl) pa_nil)))
      (pe_one (pe_not (pe_callB call_isi (by rfl) T.isi (by decide +kernel) (pa_cons (pv 0) (pa_cons (pe_bltn (v := .ty "bool") (by rfl) T.bool (by decide +kernel) rfl) pa_nil))))))), ?_⟩
    rcases hv with ⟨b, rfl⟩ | ⟨t, ty, hk⟩
    · refine ⟨_, rfl, _, _, _, _, true, rfl, .ty _, .base (.bl b), kit_ty (by decide +kernel), _, rfl, iteT ?_⟩
      exact ⟨_, rfl, _, _, _, _, true, rfl, .ty _, .base (.bl b), kit_ty (by decide +kernel), _, rfl, q⟩
    · exact ⟨_, rfl, _, _, _, _, false, rfl, .ty _, ty, hk, _, rfl, iteF q⟩
end
/-- no text -/
def NoStrT (K : PySem.W.Frag) (H : Hp) (v : V) : Prop := ∃ t, TyX K H v t ∧ PySem.W.kitOne K t (.type "str") = some false
end CC
/-! A list comprehension of three clauses. -/
namespace C3
open PySem PySem.Spec PyProof.Rows L2
abbrev no : Value → Shared → Prop := fun _ _ => False
def turnOf (c : Expr) (k : Nat) (tg : Expr) (ps : Pos) (fs : List Expr) (env : Env) (acc : Value) (body : Sem Unit) (it : Value) : Sem Fin := do
  standAt ps
  match ← pyNext it with
  | none => pure (.done .next)
  | some v =>
    letOwnedTupleGo tg it v
    assign tg env v
    let mut ok := true
    for cd in fs do
      if ok then ok ← isTrue cd env (eval cd env)
    if ok then body
    again (.compLoop c k it acc env)
def nextOf (c : Expr) (k : Nat) (ix : Expr) (env : Env) (acc : Value) : Sem Unit := do
  let x ← eval ix env
  standAt ix.pos
  let x ← foldedSetIterable ix env x
  let _ ← runOwn (.compStart c k (← holding [x] (pyIter x)) acc env) env
def pushOf (ex : Expr) (env : Env) (acc : Value) : Sem Unit := do
  let _ ← call (.builtin "list.append") [acc, ← eval ex env]
section
variable {ex t0 i0 t1 i1 t2 i2 : Expr} {f0 f1 f2 : List Expr} {sc : Scope} {pos : Pos} {it acc : Value} {env : Env}
abbrev lc3 (ex t0 i0 t1 i1 t2 i2 : Expr) (f0 f1 f2 : List Expr) (sc : Scope) (pos : Pos) : Expr := .ListComp ex [⟨t0, i0, f0, 0⟩, ⟨t1, i1, f1, 0⟩, ⟨t2, i2, f2, 0⟩] sc pos
theorem turn0 : compTurn (lc3 ex t0 i0 t1 i1 t2 i2 f0 f1 f2 sc pos) 0 it acc env = turnOf (lc3 ex t0 i0 t1 i1 t2 i2 f0 f1 f2 sc pos) 0 t0 i0.pos f0 env acc (nextOf (lc3 ex t0 i0 t1 i1 t2 i2 f0 f1 f2 sc pos) 1 i1 env acc) it := by
  unfold turnOf
  refine congrArg (standAt i0.pos >>= ·) (funext fun _ => congrArg (pyNext it >>= ·) (funext fun r => ?_))
  cases r with
  | none => rfl
  | some v =>
    refine congrArg (letOwnedTupleGo t0 it v >>= ·) (funext fun _ => congrArg (assign t0 env v >>= ·) (funext fun _ => ?_))
    refine congrArg (fun k => forIn f0 true (fun c r => if r = true then do let ok ← isTrue c env (eval c env); pure (ForInStep.yield ok) else pure (ForInStep.yield r)) >>= k) (funext fun ok => ?_)
    cases ok with
    | false => rfl
    | true =>
      unfold nextOf
      simp only [bind_assoc, pure_bind, if_true]
      rfl
theorem turn1 : compTurn (lc3 ex t0 i0 t1 i1 t2 i2 f0 f1 f2 sc pos) 1 it acc env = turnOf (lc3 ex t0 i0 t1 i1 t2 i2 f0 f1 f2 sc pos) 1 t1 i1.pos f1 env acc (nextOf (lc3 ex t0 i0 t1 i1 t2 i2 f0 f1 f2 sc pos) 2 i2 env acc) it := by
  unfold turnOf
  refine congrArg (standAt i1.pos >>= ·) (funext fun _ => congrArg (pyNext it >>= ·) (funext fun r => ?_))
  cases r with
  | none => rfl
  | some v =>
    refine congrArg (letOwnedTupleGo t1 it v >>= ·) (funext fun _ => congrArg (assign t1 env v >>= ·) (funext fun _ => ?_))
    refine congrArg (fun k => forIn f1 true (fun c r => if r = true then do let ok ← isTrue c env (eval c env); pure (ForInStep.yield ok) else pure (ForInStep.yield r)) >>= k) (funext fun ok => ?_)
    cases ok with
    | false => rfl
    | true =>
      unfold nextOf
      simp only [bind_assoc, pure_bind, if_true]
      rfl
theorem turn2 : compTurn (lc3 ex t0 i0 t1 i1 t2 i2 f0 f1 f2 sc pos) 2 it acc env = turnOf (lc3 ex t0 i0 t1 i1 t2 i2 f0 f1 f2 sc pos) 2 t2 i2.pos f2 env acc (pushOf ex env acc) it := by rfl
end
section
variable {P : Program} {w : World} {A : Around} {R : Result → Shared → Prop} {s : Shared} {ex : Expr} {gs : List Comprehension} {sc : Scope} {pos : Pos} {k : Nat} {tg : Expr} {ps : Pos} {fs : List Expr} {it acc : Value} {env : Env} {body : Sem Unit}
theorem loopAny (e : compTurn (.ListComp ex gs sc pos) k it acc env = turnOf (.ListComp ex gs sc pos) k tg ps fs env acc body it) (J : Nat → Shared → Prop)
    (turn : ∀ n s, J n s → wpAny (model P w) A (pyNext it) (fun r s1 => match r with
      | none => R (.ok .next) s1
      | some v => wpAny (model P w) A (letOwnedTupleGo tg it v) (fun _ s2 => wpAny (model P w) A (assign tg env v) (fun _ s3 =>
          wpAny (model P w) A (forIn fs true fun c r => if r = true then do let ok ← isTrue c env (eval c env); pure (ForInStep.yield ok) else pure (ForInStep.yield r)) (fun ok s4 =>
            if ok = true then wpAny (model P w) A body (fun _ s5 => ∃ m, m < n ∧ J m s5) no s4 else ∃ m, m < n ∧ J m s4) no s3) no s2) no s1) no s)
    (n : Nat) (h : J n s) : codeAny (model P w) A (.compLoop (.ListComp ex gs sc pos) k it acc env) R s := by
  refine codeAny_loop rfl J (fun n s j => ?_) n h
  show wpAny _ A ((compTurn (.ListComp ex gs sc pos) k it acc env).onRaise (fun x => do noteFrame x env; theTreesLotGoes x)) _ _ s
  refine wpAny_noted ?_
  rw [e]
  unfold turnOf
  refine wpAny_bind (wpAny_standAt (wpAny_bind (thnF (turn n s j) fun r s1 h1 => ?_)))
  cases r with
  | none => exact wpAny_pure h1
  | some v =>
    refine wpAny_bind (thnF h1 fun _ s2 h2 => ?_)
    refine wpAny_bind (thnF h2 fun _ s3 h3 => wpAny_bind (thnF h3 fun ok s4 h4 => ?_))
    cases ok with
    | false => exact wpAny_pure ⟨rfl, h4⟩
    | true =>
      first
        | exact wpAny_bind (thnF h4 fun _ s5 h5 => wpAny_pure ⟨rfl, h5⟩)
        | exact wpAny_bind (wpAny_bind (thnF h4 fun _ s5 h5 => wpAny_pure (wpAny_pure ⟨rfl, h5⟩)))
end
/-! ### a clause within the block -/
abbrev TB := L2.St → Hp → (Hp → Prop) → Prop
def tPush (te : TE) (D : Addr) : TB := fun σ H N => te σ H fun y H1 => ∃ l, H1 D = some (.lst l) ∧ l.length < sizeLine ∧ N (upd H1 D (.lst (l ++ [y])))
def tTurn (J : It) (g : TG) (tt : TT) (vs : List Nat) (b : TB) (σ : L2.St) (W : Nat → Nat → Hp → Prop) (N : Hp → Prop) : Prop := ∀ i m H, W i m H →
  (J.stop i H ∧ N H) ∨ (J.go i H ∧ ∃ M : Hp → Prop, (∀ H', M H' → ∃ m', m' < m ∧ W (i + 1) m' H') ∧ ∀ x H', J.yld i H x H' → g x (wipe σ vs) H' fun τ H1 => wipe τ vs = wipe σ vs ∧ tt τ H1 fun y H2 => if y = true then b τ H2 M else M H2)
def tCl (wi : TI) (g : TG) (tt : TT) (vs : List Nat) (b : TB) : TB := fun σ H N => wi σ H fun J H1 => ∃ W : Nat → Nat → Hp → Prop, (∃ m, W 0 m H1) ∧ tTurn J g tt vs b σ W N
section
variable {X : Cx} {s0 : Shared} {H0 : Hp} {sc : Scope} {ce : Env} {fp : List Addr}
abbrev Bk (X : Cx) (s0 : Shared) (H0 : Hp) (sc : Scope) (ce : Env) (fp : List Addr) : Cx := X.blk s0 H0 sc ce fp
/-- what the body of a clause does, and which slots it forgets -/
def Does (X : Cx) (s0 : Shared) (H0 : Hp) (sc : Scope) (ce : Env) (fp : List Addr) (body : Sem Unit) (t : TB) (us : List Nat) : Prop :=
  ∀ (pins : List (Addr × Obj)) (s : Shared) (σ : L2.St) (H : Hp) (N : Hp → Prop), Inv (Bk X s0 H0 sc ce fp) pins σ H s → t σ H N →
    wpAny (model X.prog X.w) X.A body (fun _ s' => ∃ H', Inv (Bk X s0 H0 sc ce fp) pins (wipe σ us) H' s' ∧ N H') no s
theorem does_push {ex : Expr} {te : TE} {D : Addr} (pe : PE (Bk X s0 H0 sc ce fp) ex te) : Does X s0 H0 sc ce fp (pushOf ex ce (.ref D)) (tPush te D) [] := by
  intro pins s σ H N I h
  unfold pushOf
  refine wpAny_bind (thnF (pe.run pins s σ H _ I h) fun z s1 ⟨y, H1, I1, r, l, hl, hz, n⟩ => ?_)
  exact wpAny_bind (thnF (app_ok (E := no) (X := Bk X s0 H0 sc ce fp) (Q := fun _ s' => ∃ H', Inv (Bk X s0 H0 sc ce fp) pins (wipe σ []) H' s' ∧ N H') I1 hl hz r fun s2 I2 => ⟨_, I2, n⟩) fun _ s2 q => wpAny_pure q)
theorem level {ex : Expr} {gs : List Comprehension} {sb : Scope} {pos : Pos} {k : Nat} {tg : Expr} {ps : Pos} {fs : List Expr} {acc : Value} {body : Sem Unit} {g : TG} {tt : TT} {b : TB} {vs us : List Nat} (hc : X.calm = true) (te : ∀ it, compTurn (.ListComp ex gs sb pos) k it acc ce = turnOf (.ListComp ex gs sb pos) k tg ps fs ce acc body it)
    (pg : PG (Bk X s0 H0 sc ce fp) tg g) (pt : PTs (Bk X s0 H0 sc ce fp) fs tt) (bd : Does X s0 H0 sc ce fp body b us) (sub : ∀ i ∈ us, i ∈ vs)
    {pins : List (Addr × Obj)} {s : Shared} {σ : L2.St} {H : Hp} {N : Hp → Prop} {it : Addr} {fq : List Addr} {tn : Nat → Heap → Prop} {J : It} {W : Nat → Nat → Hp → Prop} {m : Nat} {R : Result → Shared → Prop}
    (I : Inv (Bk X s0 H0 sc ce fp) pins σ H s) (T : Turn X.prog X.w X.K tg J fq it tn) (st : tn 0 s.heap) (fo : ∀ b ∈ fq, FpOk (Bk X s0 H0 sc ce fp) pins H b) (w0 : W 0 m H) (tu : tTurn J g tt vs b σ W N)
    (fin : ∀ s' H', Inv (Bk X s0 H0 sc ce fp) pins (wipe σ vs) H' s' → N H' → R (.ok .next) s') :
    codeAny (model X.prog X.w) X.A (.compLoop (.ListComp ex gs sb pos) k (.ref it) acc ce) R s := by
  have fok : ∀ {H' : Hp}, (∀ b ∈ fq, H' b = none) → ∀ b ∈ fq, FpOk (Bk X s0 H0 sc ce fp) pins H' b := fun hn b hb => ⟨hn b hb, (fo b hb).2⟩
  refine loopAny (te _) (fun n s' => ∃ i H', Inv (Bk X s0 H0 sc ce fp) pins (wipe σ vs) H' s' ∧ tn i s'.heap ∧ (∀ b ∈ fq, H' b = none) ∧ W i n H') ?_ m ⟨0, H, I.weak (wipe_length _ _) (fun j v e => (wipe_some e).1), st, fun b hb => (fo b hb).1, w0⟩
  rintro n s1 ⟨i, H1, I1, st1, n1, w1⟩
  rcases tu i n H1 w1 with ⟨stop, nn⟩ | ⟨go, M, hM, step⟩
  · refine thnF (T.done (Bk X s0 H0 sc ce fp) rfl rfl rfl hc i _ s1 _ H1 no I1 (fok n1) st1 stop) fun r s2 ⟨hr, I2⟩ => ?_
    subst hr
    exact fin s2 H1 I2 nn
  · refine thnF (T.item (Bk X s0 H0 sc ce fp) rfl rfl rfl hc i _ s1 _ H1 no I1 (fok n1) st1 go) fun r s2 ⟨u, hr, h2⟩ => ?_
    subst hr
    refine thnF h2 fun _ s3 ⟨x, H3, I3, r3, y3, st3, n3⟩ => ?_
    have I3' := I3.pinned (fok n3) (T.obj _ _ st3)
    refine thnF (pg.run _ s3 _ H3 x u _ I3' r3 (step x H3 y3)) fun _ s4 ⟨τ, H4, I4, hw, q4⟩ => ?_
    refine thnF (pt.run _ s4 τ H4 _ I4 q4) fun ok s5 ⟨H5, I5, q5⟩ => ?_
    have ended : ∀ {s' : Shared} {H' : Hp}, Inv (Bk X s0 H0 sc ce fp) (pins ++ pinsAt fq s3.heap) (wipe τ us) H' s' → M H' → ∃ m, m < n ∧ ∃ i H', Inv (Bk X s0 H0 sc ce fp) pins (wipe σ vs) H' s' ∧ tn i s'.heap ∧ (∀ b ∈ fq, H' b = none) ∧ W i m H' := fun {s' H'} I' mm => by
      obtain ⟨m', hm, w'⟩ := hM H' mm
      have kp : ∀ b ∈ fq, ∀ o, s3.heap.get? b = some o → s'.heap.get? b = some o ∧ H' b = none := fun b hb o e =>
        have z := I'.pin (b, o) (List.mem_append_right _ (List.mem_append_right _ (mem_pinsAt hb e)))
        ⟨z.1, z.2.1⟩
      refine ⟨m', hm, i + 1, H', I'.unpinned.weak (by rw [wipe_length, wipe_length, ← wipe_length τ vs, hw, wipe_length]) (fun j v e => ?_), T.keep _ _ _ st3 fun b hb o e => (kp b hb o e).1, fun b hb => ?_, w'⟩
      · rw [← hw] at e
        obtain ⟨e1, e2⟩ := wipe_some e
        rw [wipe_out fun z => e2 (sub j z)]
        exact e1
      · obtain ⟨o, e, _⟩ := T.obj _ _ st3 b hb
        exact (kp b hb o e).2
    cases ok with
    | false =>
      simp only [Bool.false_eq_true, if_false] at q5 ⊢
      exact ended (I5.weak (wipe_length _ _) fun j v e => (wipe_some e).1) q5
    | true =>
      simp only [if_true] at q5 ⊢
      exact thnF (bd _ s5 τ H5 _ I5 q5) fun _ s6 ⟨H6, I6, q6⟩ => ended I6 q6
theorem does_next {ex : Expr} {gs : List Comprehension} {sb : Scope} {pos : Pos} {k : Nat} {tg ix : Expr} {ps : Pos} {fs : List Expr} {D : Addr} {body : Sem Unit} {wi : TI} {g : TG} {tt : TT} {b : TB} {vs us : List Nat} (hc : X.calm = true) (hce : (Bk X s0 H0 sc ce fp).env = ce)
    (te : ∀ it, compTurn (.ListComp ex gs sb pos) k it (.ref D) ce = turnOf (.ListComp ex gs sb pos) k tg ps fs ce (.ref D) body it)
    (cs : ∀ {it : Value} {R : Result → Shared → Prop} {s : Shared}, codeAny (model X.prog X.w) X.A (.compLoop (.ListComp ex gs sb pos) k it (.ref D) ce) R s → wpAny (model X.prog X.w) X.A (pyIter it) (fun it' s' => codeAny (model X.prog X.w) X.A (.compLoop (.ListComp ex gs sb pos) k it' (.ref D) ce) R s') no s → codeAny (model X.prog X.w) X.A (.compStart (.ListComp ex gs sb pos) k it (.ref D) ce) R s)
    (fo : ∀ x, foldedSetIterable ix ce x = pure x) (pi : PI (Bk X s0 H0 sc ce fp) tg ix wi) (pg : PG (Bk X s0 H0 sc ce fp) tg g) (pt : PTs (Bk X s0 H0 sc ce fp) fs tt) (bd : Does X s0 H0 sc ce fp body b us) (sub : ∀ i ∈ us, i ∈ vs) :
    Does X s0 H0 sc ce fp (nextOf (.ListComp ex gs sb pos) k ix ce (.ref D)) (tCl wi g tt vs b) vs := by
  intro pins s σ H N I h
  unfold nextOf
  refine wpAny_bind (thnF (pi.run pins s σ H _ I h) fun xv s1 hx => ?_)
  refine wpAny_bind (wpAny_standAt (wpAny_bind (wpAny_of_eq (fo xv) (wpAny_bind (wpAny_holding (thnF hx fun itv s2 h2 => ?_))))))
  obtain ⟨it, fq, tn, J, H2, rfl, I2, T, st2, f2, W, ⟨m, w0⟩, tu⟩ := h2
  refine wpAny_bind (wpAny_runOwn ?_)
  rw [Around.mark_none]
  have lp : codeAny (model X.prog X.w) X.A (.compLoop (.ListComp ex gs sb pos) k (.ref it) (.ref D) ce) (fun r s' => match r with
      | .ok _ => ∃ H', Inv (Bk X s0 H0 sc ce fp) pins (wipe σ vs) H' s' ∧ N H'
      | .error _ => False) s2 := level hc te pg pt bd sub I2 T st2 f2 w0 tu fun s' H' I' n => ⟨H', I', n⟩
  refine codeAny_mono (cs lp (T.self X.A 0 _ _ _ st2 lp)) fun r s' hr => ?_
  cases r with
  | ok f => exact wpAny_pure hr
  | error e => exact hr.elim
end
section
variable {P : Program} {w : World} {A : Around} {R : Result → Shared → Prop} {s : Shared} {ex t0 i0 t1 i1 t2 i2 : Expr} {f0 f1 f2 : List Expr} {sc : Scope} {pos : Pos} {it acc : Value} {env : Env}
theorem start1 (h0 : codeAny (model P w) A (.compLoop (lc3 ex t0 i0 t1 i1 t2 i2 f0 f1 f2 sc pos) 1 it acc env) R s)
    (h : wpAny (model P w) A (pyIter it) (fun it' s' => codeAny (model P w) A (.compLoop (lc3 ex t0 i0 t1 i1 t2 i2 f0 f1 f2 sc pos) 1 it' acc env) R s') no s) :
    codeAny (model P w) A (.compStart (lc3 ex t0 i0 t1 i1 t2 i2 f0 f1 f2 sc pos) 1 it acc env) R s := by
  refine codeAny_of_tree ?_
  show wpAny _ _ ((compStart (lc3 ex t0 i0 t1 i1 t2 i2 f0 f1 f2 sc pos) 1 it acc env).onRaise (fun x => do noteFrame x env; standAt theWindowsPlace)) _ _ s
  refine wpAny_notedAt ?_
  unfold compStart
  show wpAny _ _ (ask >>= _) _ _ s
  refine wpAny_bind (wpAny_askSetting (wpAny_ite ?_))
  split
  · first
      | exact wpAny_bind (wpAny_pure (wpAny_pure ⟨rfl, h0⟩))
      | exact wpAny_pure ⟨rfl, h0⟩
  · refine wpAny_bind (wpAny_rule ?_)
    show wpAny _ _ (standAt i1.pos >>= _) _ _ s
    exact wpAny_bind (wpAny_standAt (wpAny_bind (thnF h fun it' s' h' => wpAny_pure ⟨rfl, h'⟩)))
theorem start2 (h0 : codeAny (model P w) A (.compLoop (lc3 ex t0 i0 t1 i1 t2 i2 f0 f1 f2 sc pos) 2 it acc env) R s)
    (h : wpAny (model P w) A (pyIter it) (fun it' s' => codeAny (model P w) A (.compLoop (lc3 ex t0 i0 t1 i1 t2 i2 f0 f1 f2 sc pos) 2 it' acc env) R s') no s) :
    codeAny (model P w) A (.compStart (lc3 ex t0 i0 t1 i1 t2 i2 f0 f1 f2 sc pos) 2 it acc env) R s := by
  refine codeAny_of_tree ?_
  show wpAny _ _ ((compStart (lc3 ex t0 i0 t1 i1 t2 i2 f0 f1 f2 sc pos) 2 it acc env).onRaise (fun x => do noteFrame x env; standAt theWindowsPlace)) _ _ s
  refine wpAny_notedAt ?_
  unfold compStart
  show wpAny _ _ (ask >>= _) _ _ s
  refine wpAny_bind (wpAny_askSetting (wpAny_ite ?_))
  split
  · first
      | exact wpAny_bind (wpAny_pure (wpAny_pure ⟨rfl, h0⟩))
      | exact wpAny_pure ⟨rfl, h0⟩
  · refine wpAny_bind (wpAny_rule ?_)
    show wpAny _ _ (standAt i2.pos >>= _) _ _ s
    exact wpAny_bind (wpAny_standAt (wpAny_bind (thnF h fun it' s' h' => wpAny_pure ⟨rfl, h'⟩)))
end
section
variable {X : Cx}
def tLc3 (wi : TI) (g : TG) (tt : TT) (b : Addr → TB) (ws : List Nat) : TE := fun σ H Q => wi σ H fun J H1 => ∀ D, H1 D = none → ∃ W : Nat → Nat → Hp → Prop, (∃ m, W 0 m (upd H1 D (.lst []))) ∧ tTurn J g tt ws (b D) (wipe σ ws) W fun H' => Q (.ref D) H'
theorem pe_lc3 {ex t0 i0 t1 i1 t2 i2 : Expr} {f0 f1 f2 : List Expr} {scope : Scope} {pos : Pos} {own : List (Str × Nat)} {v1 v2 : List Nat} {w0 w1 w2 : TI} {g0 g1 g2 : TG} {e0 e1 e2 : TT} {te : TE} (hc : X.calm = true) (hN : X.N.Nodup) (hi : PI X t0 i0 w0)
    (ok : BlkOk X.N X.env.scope scope own) (sub1 : ∀ i ∈ v1, i ∈ own.map (·.2)) (sub2 : ∀ i ∈ v2, i ∈ v1)
    (hg : ∀ (s : Shared) (H : Hp) (C : Addr) (cl : List (Str × Addr)) (fp : List Addr), PG (X.blk s H scope (compEnvC scope cl C X.env) fp) t0 g0) (ht : ∀ (s : Shared) (H : Hp) (C : Addr) (cl : List (Str × Addr)) (fp : List Addr), PTs (X.blk s H scope (compEnvC scope cl C X.env) fp) f0 e0) (hi1 : ∀ (s : Shared) (H : Hp) (C : Addr) (cl : List (Str × Addr)) (fp : List Addr), PI (X.blk s H scope (compEnvC scope cl C X.env) fp) t1 i1 w1) (hg1 : ∀ (s : Shared) (H : Hp) (C : Addr) (cl : List (Str × Addr)) (fp : List Addr), PG (X.blk s H scope (compEnvC scope cl C X.env) fp) t1 g1) (ht1 : ∀ (s : Shared) (H : Hp) (C : Addr) (cl : List (Str × Addr)) (fp : List Addr), PTs (X.blk s H scope (compEnvC scope cl C X.env) fp) f1 e1)
    (hi2 : ∀ (s : Shared) (H : Hp) (C : Addr) (cl : List (Str × Addr)) (fp : List Addr), PI (X.blk s H scope (compEnvC scope cl C X.env) fp) t2 i2 w2) (hg2 : ∀ (s : Shared) (H : Hp) (C : Addr) (cl : List (Str × Addr)) (fp : List Addr), PG (X.blk s H scope (compEnvC scope cl C X.env) fp) t2 g2) (ht2 : ∀ (s : Shared) (H : Hp) (C : Addr) (cl : List (Str × Addr)) (fp : List Addr), PTs (X.blk s H scope (compEnvC scope cl C X.env) fp) f2 e2) (he : ∀ (s : Shared) (H : Hp) (C : Addr) (cl : List (Str × Addr)) (fp : List Addr), PE (X.blk s H scope (compEnvC scope cl C X.env) fp) ex te)
    (fs0 : ∀ x, foldedSetIterable i0 X.env x = pure x := by intro _; rfl) (fs1 : ∀ env x, foldedSetIterable i1 env x = pure x := by intro _ _; rfl) (fs2 : ∀ env x, foldedSetIterable i2 env x = pure x := by intro _ _; rfl) :
    PE X (lc3 ex t0 i0 t1 i1 t2 i2 f0 f1 f2 scope pos) (tLc3 w0 g0 e0 (fun D => tCl w1 g1 e1 v1 (tCl w2 g2 e2 v2 (tPush te D))) (own.map (·.2))) := by
  refine ⟨fun pins s σ H Q I h => ?_⟩
  rw [eval_ListComp]
  have fre : ∀ y ∈ scope.names, y.2 = .free → ∃ c, X.env.cells.lookup y.1 = some c := fun y hy e => by
    rcases ok.free y hy e with z | z
    · exact I.ok.has _ (.inl z)
    · exact I.ok.has _ (.inr z)
  refine wpAny_comprehension_free (use := none) rfl fs0 (closure_ok fre) ok.kind (fun y hy e => by rw [ok.uniq y hy, e]) (thn (hi.run pins s σ H _ I h) fun xv s1 hx => thn hx fun itv s2 h2 => ?_)
  obtain ⟨it, fp, tn, J, H2, rfl, I2, T, st2, f2', q⟩ := h2
  refine wpAny_newObj_type (newEnv_comp ?_) (by show 0 ≤ sizeLine; decide)
  obtain ⟨D, hD⟩ : ∃ D, D = s2.heap.objs.size := ⟨_, rfl⟩
  rw [← hD]
  obtain ⟨W, ⟨m0, wz⟩, turn⟩ := q D (I2.hok.fresh (by rw [hD]; exact Nat.le_refl _))
  obtain ⟨nl, hnl⟩ : ∃ nl : Obj, nl = { cls := .type "list", data := .seq ([] : List Value).toArray } := ⟨_, rfl⟩
  rw [← hnl]
  obtain ⟨s3, hs3⟩ : ∃ s3 : Shared, s3 = { s2 with heap := s2.heap.push nl } := ⟨_, rfl⟩
  have I3 : Inv X pins σ (upd H2 D (.lst [])) s3 := by
    rw [hs3]
    refine I2.laid (t' := s2.toks) (fun b o e => Heap.get?_push_of_some _ e) (by rw [hD]; exact Nat.le_refl _) ⟨Nat.zero_le _, [], 0, .nil, ?_⟩
    rw [hD, hnl]
    exact Heap.get?_push_size _ rfl
  have lt2 : ∀ b ∈ fp, b < s2.heap.objs.size := fun b hb => by
    obtain ⟨o, e, _⟩ := T.obj _ _ st2 b hb
    exact Heap.lt_size e
  have f3 : ∀ b ∈ fp, FpOk X pins (upd H2 D (.lst [])) b ∧ b < s3.heap.objs.size := fun b hb => by
    have z := lt2 b hb
    refine ⟨⟨?_, (f2' b hb).2⟩, by rw [hs3]; show b < (s2.heap.push nl).objs.size; rw [Heap.size_push]; exact Nat.lt_succ_of_lt z⟩
    rw [upd_ne (by rw [hD]; exact Nat.ne_of_lt z)]
    exact (f2' b hb).1
  have st3 : tn 0 s3.heap := T.keep _ _ _ st2 fun b _ o e => by
    rw [hs3]
    exact Heap.get?_push_of_some _ e
  have I4 := block_start I3 ok hN f3
  obtain ⟨cl, hcl⟩ : ∃ cl, cl = cellsFrom (s3.heap.objs.size + 1) scope.names (cloFrom X.env.cells scope.names []) := ⟨_, rfl⟩
  obtain ⟨H3, hH3⟩ : ∃ H3, H3 = upd H2 D (.lst []) := ⟨_, rfl⟩
  obtain ⟨ce, hce⟩ : ∃ ce, ce = compEnvC scope cl s3.heap.objs.size X.env := ⟨_, rfl⟩
  obtain ⟨s4, hs4⟩ : ∃ s4 : Shared, s4 = { s3 with heap := pushCells (s3.heap.push { cls := .type "dict", data := .dict #[] }) scope.names } := ⟨_, rfl⟩
  have cL : ce.locals = s3.heap.objs.size := by
    rw [hce]
    rfl
  have st4 : tn 0 s4.heap := T.keep _ _ _ st3 fun b _ o e => by
    rw [hs4]
    exact pushCells_keeps _ _ _ _ (Heap.get?_push_of_some _ e)
  have p0 := hg s3 H3 s3.heap.objs.size cl fp
  have p1 := ht s3 H3 s3.heap.objs.size cl fp
  have p2 := hi1 s3 H3 s3.heap.objs.size cl fp
  have p3 := hg1 s3 H3 s3.heap.objs.size cl fp
  have p4 := ht1 s3 H3 s3.heap.objs.size cl fp
  have p5 := hi2 s3 H3 s3.heap.objs.size cl fp
  have p6 := hg2 s3 H3 s3.heap.objs.size cl fp
  have p7 := ht2 s3 H3 s3.heap.objs.size cl fp
  have p8 := he s3 H3 s3.heap.objs.size cl fp
  rw [← hcl, ← hH3, ← hce, ← hs4] at I4
  rw [← hce] at p0 p1 p2 p3 p4 p5 p6 p7 p8
  rw [← hH3] at I3 f3 wz
  have stat : ∀ b ∈ fp, FpOk (Bk X s3 H3 scope ce fp) [] H3 b := fun b hb =>
    ⟨(f3 b hb).1.1, (I4.ok.exf b hb).1, I4.ok.exfs b hb, .inl hb, fun x c e => (I4.ok.exf b hb).2 x c e, fun p hp => absurd (show p ∈ ([] : List (Addr × Obj)) ++ [] from hp) (by simp)⟩
  have d2 := does_push (D := D) p8
  have d1 := does_next (D := D) (body := pushOf ex ce (.ref D)) hc rfl (fun it => turn2 (ex := ex) (t0 := t0) (i0 := i0) (t1 := t1) (i1 := i1) (t2 := t2) (i2 := i2) (f2 := f2) (f0 := f0) (f1 := f1) (sc := scope) (pos := pos)) start2 (fs2 ce) p5 p6 p7 d2 (vs := v2) (fun i hi => nomatch hi)
  have d0 := does_next (D := D) hc rfl (fun it => turn1 (ex := ex) (t0 := t0) (i0 := i0) (t1 := t1) (i1 := i1) (f1 := f1) (t2 := t2) (i2 := i2) (f0 := f0) (f2 := f2) (sc := scope) (pos := pos)) start1 (fs1 ce) p2 p3 p4 d1 (vs := v1) sub2
  have loop : codeAny (model X.prog X.w) X.A (.compLoop (lc3 ex t0 i0 t1 i1 t2 i2 f0 f1 f2 scope pos) 0 (.ref it) (.ref D) ce) (compPost (model X.prog X.w) X.A X.xe none (EP X pins σ Q) (.ref D) s3.heap.objs.size) s4 := by
    refine level hc (fun it => turn0) p0 p1 d0 sub1 I4 T st4 stat wz turn fun s6 H6 I6 nn => ?_
    have I7 : Inv X pins σ H6 s6 := I3.call' (ch := fp) I6.os I6.base I6.hok I6.bare fun b hb => ⟨(f3 b hb).1.2.2.2.1, (f3 b hb).1.2.1, (f3 b hb).1.2.2.2.2.1, (f3 b hb).1.2.2.2.2.2⟩
    have nC : H6 s3.heap.objs.size = none := by
      rw [← cL]
      exact I6.free
    obtain ⟨m, hn, _⟩ := I6.loc
    have hn : s6.heap.Ns ce.locals m := hn
    rw [cL] at hn
    refine ⟨m, hn, fun h'' sb => ?_⟩
    obtain ⟨y0, y1, y2, y3, y4, y5⟩ := I3.fpOk (Nat.le_refl _) nC
    exact ⟨.ref D, H6, I7.turned (t' := s6.toks) (fun b o hb e => (sb.2 b hb).trans e) y0 y1 y3 y4 y5, rfl, nn⟩
  have done := codeAny_compStart_list loop (T.self X.A 0 _ _ _ st4 loop)
  rw [hce, hcl, hs4, hs3] at done
  exact done
end
end C3
namespace CC
open PySem L2
/-! ### a list that is being made at D, its items seen through a view of the heap that D is not part of -/
section
variable {K : PySem.W.Frag} {D : Addr} {H0 H H' : Hp} {Vw : Hp → Hp} {G : Hp → Prop} {P : Nat → List PyData → Prop} {i : Nat} {us : List V} {ds : List PyData}
structure Made (K : PySem.W.Frag) (Vw : Hp → Hp) (G : Hp → Prop) (P : Nat → List PyData → Prop) (H0 : Hp) (D : Addr) (i : Nat) (H : Hp) (us : List V) (ds : List PyData) : Prop where
  same : Same (Vw H0) (Vw H)
  more : G H
  lst : H D = some (.lst us)
  dat : DpAll K (Vw H) us ds
  inv : P i ds
  len : us.length ≤ i
def MadeI (K : PySem.W.Frag) (Vw : Hp → Hp) (G : Hp → Prop) (P : Nat → List PyData → Prop) (H0 : Hp) (D : Addr) (i : Nat) (H : Hp) : Prop := ∃ us ds, Made K Vw G P H0 D i H us ds
theorem Made.start (v1 : ∀ H o, Vw (upd H D o) = Vw H) (v3 : ∀ H o, G H → G (upd H D o)) (g0 : G H0) (p0 : P 0 []) : MadeI K Vw G P H0 D 0 (upd H0 D (.lst [])) :=
  ⟨[], [], by rw [v1]; exact Same.refl _, v3 _ _ g0, upd_same, .nil, p0, Nat.le_refl _⟩
theorem Made.push (p : Made K Vw G P H0 D i H us ds) (h9 : i < 100000) (v1 : ∀ H o, Vw (upd H D o) = Vw H) (v3 : ∀ H o, G H → G (upd H D o)) {y : V} {d : PyData} {j : Nat} (hj : i < j) (q1 : Dp K (Vw H') y d) (q2 : P j (ds ++ [d])) (q3 : Same (Vw H) (Vw H')) (q4 : H' D = H D) (q5 : G H') :
    ∃ acc, H' D = some (.lst acc) ∧ acc.length < sizeLine ∧ MadeI K Vw G P H0 D j (upd H' D (.lst (acc ++ [y]))) := by
  refine ⟨us, q4.trans p.lst, Nat.lt_of_le_of_lt p.len (Nat.lt_of_lt_of_le h9 (by decide)), us ++ [y], ds ++ [d], ?_, v3 _ _ q5, upd_same, ?_, q2, by rw [List.length_append]; exact Nat.le_trans (Nat.succ_le_succ p.len) hj⟩
  · rw [v1]
    exact p.same.trans q3
  · rw [v1]
    exact dps_app (dps_same q3 _ _ p.dat) (dps_one q1)
theorem Made.skip (p : Made K Vw G P H0 D i H us ds) {j : Nat} (hj : i ≤ j) (q2 : P j ds) (q3 : Same (Vw H) (Vw H')) (q4 : H' D = H D) (q5 : G H') : MadeI K Vw G P H0 D j H' :=
  ⟨us, ds, p.same.trans q3, q5, q4.trans p.lst, dps_same q3 _ _ p.dat, q2, Nat.le_trans p.len hj⟩
end
/-! the plain view: the heap without D -/
abbrev Tr : Hp → Prop := fun _ => True
abbrev MadeP (K : PySem.W.Frag) (P : Nat → List PyData → Prop) (H0 : Hp) (D : Addr) (i : Nat) (H : Hp) : Prop := MadeI K (fun H => wo H D) Tr P H0 D i H
section
variable {K : PySem.W.Frag} {D : Addr} {H0 H H' : Hp} {P : Nat → List PyData → Prop} {i : Nat} {us : List V} {ds : List PyData}
theorem madeP_start (p0 : P 0 []) : MadeP K P H0 D 0 (upd H0 D (.lst [])) := Made.start (fun H o => wo_upd D o) (fun _ _ z => z) trivial p0
theorem madeP_push (p : Made K (fun H => wo H D) Tr P H0 D i H us ds) (h9 : i < 100000) {y : V} {d : PyData} {j : Nat} (hj : i < j) (q3 : Same H H') (q1 : Dp K (wo H' D) y d) (q2 : P j (ds ++ [d])) :
    ∃ acc, H' D = some (.lst acc) ∧ acc.length < sizeLine ∧ MadeP K P H0 D j (upd H' D (.lst (acc ++ [y]))) :=
  p.push h9 (fun H o => wo_upd D o) (fun _ _ z => z) hj q1 q2 (wo_same q3) ((q3 _ _ p.lst).trans p.lst.symm) trivial
theorem madeP_skip (p : Made K (fun H => wo H D) Tr P H0 D i H us ds) {j : Nat} (hj : i ≤ j) (q3 : Same H H') (q2 : P j ds) : MadeP K P H0 D j H' :=
  p.skip hj q2 (wo_same q3) ((q3 _ _ p.lst).trans p.lst.symm) trivial
/-- what stood before the list, still stands -/
theorem Made.old (p : Made K (fun H => wo H D) Tr P H0 D i H us ds) (n : H0 D = none) : Same H0 H := fun b o e => wo_le D _ _ (p.same b o (by rw [wo_ne (ne_of_none e n)]; exact e))
/-- a new tuple in the view -/
theorem tup_new {t : Addr} {xs : List V} {u : HO} (hD : H D = some u) (n : H t = none) : SqT K (wo (upd H t (.tup xs)) D) t xs := by
  have ne : t ≠ D := (ne_of_none hD n).symm
  rw [wo_upd_ne _ ne]
  exact .inl (.inl upd_same)
/-- the made list, whole -/
theorem Made.dp (p : Made K (fun H => wo H D) Tr P H0 D i H us ds) : Dp K H (.ref D) (.list ds) := .lst (.inl (.inl p.lst)) (dps_same (wo_le D) _ _ p.dat)
end
theorem yes_if {σ : L2.St} {H : Hp} {A B : Hp → Prop} (h : A H) : tYes σ H fun y H3 => if y = true then A H3 else B H3 := by
  show if true = true then A H else B H
  exact iteT h
/-! ### the columns 0 .. z - 1 as values -/
def cols (z : Nat) : List V := (List.range z).map fun (i : Nat) => V.int (i : Int)
theorem cols_len (z : Nat) : (cols z).length = z := by rw [cols, List.length_map, List.length_range]
theorem cols_at {z i : Nat} {x : V} (h : (cols z)[i]? = some x) : i < z ∧ x = .int (i : Int) := by
  rw [cols, List.getElem?_map] at h
  by_cases hi : i < z
  · rw [List.getElem?_range hi] at h
    exact ⟨hi, (Option.some.inj h).symm⟩
  · rw [List.getElem?_eq_none (by rw [List.length_range]; omega)] at h
    cases h
theorem cols_rg (z : Nat) : rgV 0 (z : Int) = cols z := by
  unfold rgV cols
  rw [show ((z : Int) - 0).toNat = z by omega]
  refine List.map_congr_left fun i _ => ?_
  rw [Int.zero_add]
/-! ### all rules for a width -/
def row (w a : Nat) (k : Bool) : List R := ((List.range w).filter fun b => decide (a ≠ b)).map fun b => ⟨k, a, b⟩
def allR (w : Nat) : List R := [true, false].flatMap fun k => (List.range w).flatMap fun a => row w a k
end CC
namespace CC
open PySem L2
def spEvery (K : PySem.W.Frag) : Sp := fun vs H Q _ => ∃ w : Nat, vs = [.int (w : Int)] ∧ w ≤ 6 ∧ ∀ (p : Addr) (us : List V) (H' : Hp), Same H H' → H p = none → H' p = some (.lst us) → DpAll K (wo H' p) us ((allR w).map R.d) → Q (.ref p) H'
theorem row_step (w a : Nat) (k : Bool) (j : Nat) (hj : j < w) : ((List.range (j + 1)).filter fun b => decide (a ≠ b)) = ((List.range j).filter fun b => decide (a ≠ b)) ++ (if a = j then [] else [j]) := by
  rw [List.range_succ, List.filter_append]
  by_cases h : a = j
  · simp [h]
  · simp [h]
/-- a list of rules that is being made at D -/
def MadeR (K : PySem.W.Frag) (H0 : Hp) (D : Addr) (n : Nat) (H : Hp) (rs : List R) : Prop := ∃ us, Made K (fun H => wo H D) Tr (fun _ _ => True) H0 D n H us (rs.map R.d)
theorem MadeR.up {K : PySem.W.Frag} {H0 H : Hp} {D : Addr} {n m : Nat} {rs rs' : List R} (p : MadeR K H0 D n H rs) (h : n ≤ m) (e : rs = rs') : MadeR K H0 D m H rs' := by
  obtain ⟨us, p⟩ := p
  subst e
  exact ⟨us, p.same, trivial, p.lst, p.dat, trivial, Nat.le_trans p.len h⟩
theorem MadeR.start {K : PySem.W.Frag} {H0 : Hp} {D : Addr} : MadeR K H0 D 0 (upd H0 D (.lst [])) [] := by
  refine ⟨[], ?_, trivial, upd_same, .nil, trivial, Nat.le_refl _⟩
  show Same (wo H0 D) (wo (upd H0 D (.lst [])) D)
  rw [wo_upd]
  exact Same.refl _
theorem MadeR.push {K : PySem.W.Frag} {H0 H H' : Hp} {D : Addr} {n m : Nat} {rs : List R} {r : R} {y : V} (p : MadeR K H0 D n H rs) (h9 : n < 100000) (hm : n < m) (q3 : Same H H') (q1 : Dp K (wo H' D) y r.d) :
    ∃ acc, H' D = some (.lst acc) ∧ acc.length < sizeLine ∧ MadeR K H0 D m (upd H' D (.lst (acc ++ [y]))) (rs ++ [r]) := by
  obtain ⟨us, p⟩ := p
  obtain ⟨acc, a1, a2, us', ds', p'⟩ := madeP_push (j := m) p h9 hm q3 q1 trivial
  refine ⟨acc, a1, a2, us ++ [y], ?_, trivial, ?_, ?_, trivial, ?_⟩
  · show Same (wo H0 D) (wo (upd H' D (.lst (acc ++ [y]))) D)
    rw [wo_upd]
    exact p.same.trans (wo_same q3)
  · have e : some (HO.lst acc) = some (HO.lst us) := a1.symm.trans (q3 _ _ p.lst)
    cases e
    exact upd_same
  · show DpAll K (wo (upd H' D (.lst (acc ++ [y]))) D) _ _
    rw [wo_upd, List.map_append]
    exact dps_app (dps_same (wo_same q3) _ _ p.dat) (dps_one q1)
  · rw [List.length_append]
    exact Nat.le_trans (Nat.succ_le_succ p.len) hm
theorem MadeR.old {K : PySem.W.Frag} {H0 H : Hp} {D : Addr} {n : Nat} {rs : List R} (p : MadeR K H0 D n H rs) (h : H0 D = none) : Same H0 H := by
  obtain ⟨us, p⟩ := p
  exact p.old h
section
variable {P : Program} {w : World} {K : PySem.W.Frag} {mg : Str → Option Value} {base : Heap} {kA : Addr}
/-- a walk over a list, a clause of a comprehension -/
theorem turn_list {a : Addr} {xs : List V} {g : TG} {tt : TT} {vs : List Nat} {b : C3.TB} {σ : L2.St} {N : Hp → Prop} {H1 : Hp} (Pv : Nat → Hp → Prop) (h0 : Pv 0 H1) (hl : ∀ i H, i ≤ xs.length → Pv i H → SqL K H a xs)
    (hs : ∀ i x H, xs[i]? = some x → Pv i H → g x (wipe σ vs) H fun τ H2 => wipe τ vs = wipe σ vs ∧ tt τ H2 fun y H3 => if y = true then b τ H3 (Pv (i + 1)) else Pv (i + 1) H3) (hd : ∀ H, Pv xs.length H → N H) :
    ∃ W : Nat → Nat → Hp → Prop, (∃ m, W 0 m H1) ∧ C3.tTurn (Itl K a) g tt vs b σ W N := by
  refine ⟨fun i m H => m = xs.length - i ∧ i ≤ xs.length ∧ Pv i H, ⟨xs.length, by simp, Nat.zero_le _, h0⟩, ?_⟩
  rintro i m H ⟨rfl, hi, p⟩
  have q := hl i H hi p
  by_cases lt : i < xs.length
  · refine .inr ⟨⟨xs, xs[i], q, by simp [lt]⟩, Pv (i + 1), fun H' p' => ⟨xs.length - (i + 1), by omega, rfl, lt, p'⟩, fun x H' y => ?_⟩
    obtain ⟨e, y⟩ := y
    subst e
    exact hs i x _ (y xs q) p
  · have e : i = xs.length := by omega
    subst e
    exact .inl ⟨⟨xs, q, Nat.le_refl _⟩, hd H p⟩
theorem turn_tup {a : Addr} {xs : List V} {g : TG} {tt : TT} {vs : List Nat} {b : C3.TB} {σ : L2.St} {N : Hp → Prop} {H1 : Hp} (Pv : Nat → Hp → Prop) (h0 : Pv 0 H1) (hl : ∀ i H, i ≤ xs.length → Pv i H → SqT K H a xs)
    (hs : ∀ i x H, xs[i]? = some x → Pv i H → g x (wipe σ vs) H fun τ H2 => wipe τ vs = wipe σ vs ∧ tt τ H2 fun y H3 => if y = true then b τ H3 (Pv (i + 1)) else Pv (i + 1) H3) (hd : ∀ H, Pv xs.length H → N H) :
    ∃ W : Nat → Nat → Hp → Prop, (∃ m, W 0 m H1) ∧ C3.tTurn (Itt K a) g tt vs b σ W N := by
  refine ⟨fun i m H => m = xs.length - i ∧ i ≤ xs.length ∧ Pv i H, ⟨xs.length, by simp, Nat.zero_le _, h0⟩, ?_⟩
  rintro i m H ⟨rfl, hi, p⟩
  have q := hl i H hi p
  by_cases lt : i < xs.length
  · refine .inr ⟨⟨xs, xs[i], q, by simp [lt]⟩, Pv (i + 1), fun H' p' => ⟨xs.length - (i + 1), by omega, rfl, lt, p'⟩, fun x H' y => ?_⟩
    obtain ⟨e, y⟩ := y
    subst e
    exact hs i x _ (y xs q) p
  · have e : i = xs.length := by omega
    subst e
    exact .inl ⟨⟨xs, q, Nat.le_refl _⟩, hd H p⟩
end
end CC
namespace CC
open PySem L2 TL
def num (n : Nat) : Str := Str.ofString (toString (n : Int))
theorem tl_app (a b : Str) : tl (a ++ b) = tl a ++ tl b := tl_append a b
end CC
namespace CC
open PySem L2 TL
/-! ### lines -/
def lineS (r : R) : Str := Str.empty ++ num r.a ++ " " ++ kd r.k ++ " " ++ num r.b
def textS (rs : List R) : Str := Txt.join "" (rs.map fun r => lineS r ++ "\n")
theorem lines_nodup : ((allR 6).map lineS).Nodup := by decide +kernel
theorem mem_row {w a : Nat} {k : Bool} {r : R} : r ∈ row w a k ↔ r.k = k ∧ r.a = a ∧ r.b < w ∧ a ≠ r.b := by
  obtain ⟨k', a', b'⟩ := r
  simp only [row, List.mem_map, List.mem_filter, List.mem_range, decide_eq_true_eq, R.mk.injEq]
  constructor
  · rintro ⟨b, ⟨h1, h2⟩, rfl, rfl, rfl⟩
    exact ⟨rfl, rfl, h1, h2⟩
  · rintro ⟨rfl, rfl, h1, h2⟩
    exact ⟨b', ⟨h1, h2⟩, rfl, rfl, rfl⟩
theorem mem_allR {w : Nat} {r : R} : r ∈ allR w ↔ r.ok w := by
  simp only [allR, List.mem_flatMap, List.mem_range, mem_row, R.ok, List.mem_cons, List.not_mem_nil, or_false]
  constructor
  · rintro ⟨k, _, a, h1, rfl, rfl, h2, h3⟩
    exact ⟨h1, h2, h3⟩
  · rintro ⟨h1, h2, h3⟩
    refine ⟨r.k, ?_, r.a, h1, rfl, rfl, h2, h3⟩
    cases r.k
    · exact .inr rfl
    · exact .inl rfl
theorem R.ok.up {w : Nat} {r : R} (h : r.ok w) (hw : w ≤ 6) : r.ok 6 := ⟨Nat.lt_of_lt_of_le h.1 hw, Nat.lt_of_lt_of_le h.2.1 hw, h.2.2⟩
theorem inj_of {α β : Type} {f : α → β} : ∀ {l : List α}, (l.map f).Nodup → ∀ {x y : α}, x ∈ l → y ∈ l → f x = f y → x = y
  | [], _, _, _, h, _, _ => nomatch h
  | z :: l, nd, x, y, hx, hy, e => by
    rw [List.map_cons, List.nodup_cons] at nd
    rcases List.mem_cons.mp hx with e1 | h1
    · rcases List.mem_cons.mp hy with e2 | h2
      · rw [e1, e2]
      · exact absurd (List.mem_map.mpr ⟨y, h2, by rw [← e, e1]⟩) nd.1
    · rcases List.mem_cons.mp hy with e2 | h2
      · exact absurd (List.mem_map.mpr ⟨x, h1, by rw [e, e2]⟩) nd.1
      · exact inj_of nd.2 h1 h2 e
theorem line_inj {r s : R} (hr : r.ok 6) (hs : s.ok 6) (e : lineS r = lineS s) : r = s := inj_of lines_nodup (mem_allR.mpr hr) (mem_allR.mpr hs) e
theorem lines_all : ((allR 6).all fun r => (lineS r).length ≤ 20 && !(tl (lineS r)).contains 10) = true := by decide +kernel
theorem line_of6 {r : R} (hr : r.ok 6) : (lineS r).length ≤ 20 ∧ 10 ∉ tl (lineS r) := by
  have h := List.all_eq_true.mp lines_all r (mem_allR.mpr hr)
  simp only [Bool.and_eq_true, decide_eq_true_eq, Bool.not_eq_true'] at h
  refine ⟨h.1, fun z => ?_⟩
  have := List.contains_iff_mem.mpr z
  rw [h.2] at this
  cases this
theorem allR_nodup {w : Nat} (hw : w ≤ 6) : (allR w).Nodup := by
  have h : ∀ w : Fin 7, (allR w.1).Nodup := by decide +kernel
  exact h ⟨w, by omega⟩
/-- a text of lines, and its lines -/
theorem tl_text : ∀ rs : List R, tl (textS rs) = (rs.map fun r => tl (lineS r) ++ [10]).flatten
  | [] => by decide +kernel
  | r :: rs => by
    unfold textS
    rw [join_eq, tl_join]
    have e : ∀ l : List (List Nat), joinL (tl ("" : Str)) l = l.flatten := by
      intro l
      rw [show tl ("" : Str) = [] by decide +kernel]
      induction l with
      | nil => rfl
      | cons x l ih =>
        cases l with
        | nil => simp [joinL]
        | cons y l =>
          show x ++ ([] ++ joinL [] (y :: l)) = _
          rw [ih, List.nil_append]
          simp
    rw [e, List.map_map]
    congr 1
    refine List.map_congr_left fun r _ => ?_
    show tl (lineS r ++ "\n") = _
    rw [tl_app, show tl ("\n" : Str) = [10] by decide +kernel]
theorem split_text {rs : List R} (h : ∀ r ∈ rs, r.ok 6) : Txt.split (textS rs) "\n" = rs.map lineS ++ [Str.empty] := by
  have e : textS rs = Txt.join "\n" (rs.map lineS ++ [Str.empty]) := by
    refine ext_tl ?_
    show tl (textS rs) = tl (Txt.join "\n" (rs.map lineS ++ [Str.empty]))
    rw [tl_text, join_eq, tl_join, show tl ("\n" : Str) = [10] by decide +kernel]
    induction rs with
    | nil => decide +kernel
    | cons r rs ih =>
      rw [List.map_cons, List.flatten_cons, ih fun s hs => h s (List.mem_cons_of_mem _ hs)]
      cases rs with
      | nil =>
        show tl (lineS r) ++ [10] ++ joinL [10] [tl Str.empty] = joinL [10] [tl (lineS r), tl Str.empty]
        show tl (lineS r) ++ [10] ++ tl Str.empty = tl (lineS r) ++ ([10] ++ tl Str.empty)
        rw [List.append_assoc]
      | cons s rs =>
        show tl (lineS r) ++ [10] ++ _ = tl (lineS r) ++ ([10] ++ _)
        rw [List.append_assoc]
        rfl
  rw [e]
  refine split_join (s := 10) (S := []) (by decide +kernel) (by decide +kernel) (by simp) fun p hp => ?_
  rcases List.mem_append.mp hp with z | z
  · obtain ⟨r, hr, rfl⟩ := List.mem_map.mp z
    exact (line_of6 (h r hr)).2
  · rw [List.mem_singleton.mp z]
    decide +kernel
theorem text_len {rs : List R} (h : ∀ r ∈ rs, r.ok 6) : (textS rs).length ≤ 21 * rs.length := by
  rw [len_tl, tl_text]
  induction rs with
  | nil => simp
  | cons r rs ih =>
    have h1 := (line_of6 (h r List.mem_cons_self)).1
    rw [len_tl] at h1
    have h2 : (tl (lineS r)).length ≤ 20 := h1
    have h3 := ih fun s hs => h s (List.mem_cons_of_mem _ hs)
    simp only [List.map_cons, List.flatten_cons, List.length_append, List.length_cons, List.length_nil]
    omega
def spLine (K : PySem.W.Frag) : Sp := fun vs H Q _ => ∃ (v : V) (r : R), vs = [v] ∧ Dp K H v r.d ∧ r.ok 6 ∧ Q (.str (lineS r)) H
section
variable {P : Program} {w : World} {K : PySem.W.Frag} {mg : Str → Option Value} {base : Heap} {kA : Addr}
theorem small6 {n : Nat} (h : n < 6) : (n : Int).natAbs.log2 < 1920 := by
  have : ∀ n : Fin 6, ((n.1 : Nat) : Int).natAbs.log2 < 1920 := by decide +kernel
  exact this ⟨n, h⟩
theorem lens_all : ((allR 6).all fun r => decide ((Str.empty ++ num r.a).length ≤ 20) && decide ((Str.empty ++ num r.a ++ " ").length ≤ 20) && decide ((Str.empty ++ num r.a ++ " " ++ kd r.k).length ≤ 20) && decide ((Str.empty ++ num r.a ++ " " ++ kd r.k ++ " ").length ≤ 20)) = true := by decide +kernel
end
end CC
/-! A set made of a list or tuple of things of one kind, and how many members it has. -/
namespace SG
open PySem PySem.Spec PyProof.Rows L2
section kinds
variable {P : Program} {w : World} {κ : Type} [DecidableEq κ] {kn : KeyKind P w κ} {A : Around} {E : Value → Shared → Prop} {s : Shared}
/-- things of the kind come from no class statement, and hash by their value -/
structure Tame (kn : KeyKind P w κ) : Prop where
  cls : ∀ (n : Nat) (k : κ) (v : Value), kn.is k v = true → ofAClassStatement n v = pure false
  byv : ∀ (n : Nat) (k : κ) (v : Value), kn.is k v = true → ∃ b, hashByValue n v = pure b
theorem tame_mix : Tame (mixKind P w) := by
  constructor
  · intro n k v h
    rcases keyIs_shape h with ⟨i, t, _, rfl⟩ | ⟨x, t, _, rfl⟩ <;> cases n <;> rfl
  · intro n k v h
    rcases keyIs_shape h with ⟨i, t, _, rfl⟩ | ⟨x, t, _, rfl⟩ <;> exact ⟨_, hashByValue_scannable n rfl⟩
theorem each_is {ks : List κ} {us : List Value} (h : ItemsAre kn ks us) : ∀ u ∈ us, ∃ k, kn.is k u = true := by
  induction h with
  | nil => exact fun u hu => nomatch hu
  | @cons k v _ _ q _ ih =>
    intro u hu
    cases hu with
    | head => exact ⟨k, q⟩
    | tail _ hu => exact ih u hu
theorem tup_cls (Tm : Tame kn) {ks : List κ} {b : Addr} {Q : Bool → Shared → Prop} (hb : IsTupleKey kn s.heap ks b) (q : Q false s) : wpAny (model P w) A (ofAClassStatement 8 (.ref b)) Q E s := by
  have ty := hb.typeIs
  obtain ⟨ob, its, m, g1, _, g2, g3⟩ := hb
  unfold ofAClassStatement
  refine wpAny_bind (wpAny_typeOf ty ?_)
  dsimp only
  have e0 : (("tuple" : String) == "tuple") = true := by decide
  simp only [e0, if_true, Bool.not_true, Bool.false_eq_true, if_false]
  try refine wpAny_bind (wpAny_pure ?_)
  try simp only [Bool.not_true, Bool.false_eq_true, if_false]
  show wpAny _ _ (seqItems? (.ref b) >>= _) _ _ s
  refine wpAny_bind (wpAny_seqItems g1 g2 ?_)
  dsimp only
  refine wpAny_bind ?_
  show wpAny _ _ (forIn its _ _) _ _ s
  rw [← Array.forIn_toList]
  refine wpAny_forIn_list _ (fun left r s' => r.1 = none ∧ s' = s ∧ ∀ u ∈ left, ∃ k, kn.is k u = true) _ ?_ ?_ _ _ ⟨rfl, rfl, each_is g3⟩
  · rintro u left r s' ⟨hr, rfl, al⟩
    obtain ⟨k, hk⟩ := al u List.mem_cons_self
    rw [Tm.cls _ k u hk]
    refine wpAny_bind (wpAny_pure ?_)
    simp only [Bool.false_eq_true, if_false]
    exact wpAny_pure ⟨rfl, rfl, fun x hx => al x (List.mem_cons_of_mem _ hx)⟩
  · rintro ⟨r1, r2⟩ s' ⟨hr, rfl, _⟩
    simp only at hr
    subst hr
    exact wpAny_pure q
theorem tup_byv (Tm : Tame kn) {ks : List κ} {b : Addr} {Q : Bool → Shared → Prop} (hb : IsTupleKey kn s.heap ks b) (q : ∀ y, Q y s) : wpAny (model P w) A (hashByValue 8 (.ref b)) Q E s := by
  have ty := hb.typeIs
  obtain ⟨ob, its, m, g1, _, g2, g3⟩ := hb
  unfold hashByValue
  refine wpAny_bind (wpAny_specialOf ty F.slot_tuple_hash.lookup ?_)
  show wpAny _ _ (seqItems? (.ref b) >>= _) _ _ s
  refine wpAny_bind (wpAny_seqItems g1 g2 ?_)
  refine wpAny_bind ?_
  show wpAny _ _ (forIn its _ _) _ _ s
  rw [← Array.forIn_toList]
  refine wpAny_forIn_list _ (fun left r s' => s' = s ∧ ∀ u ∈ left, ∃ k, kn.is k u = true) _ ?_ ?_ _ _ ⟨rfl, each_is g3⟩
  · rintro u left r s' ⟨rfl, al⟩
    obtain ⟨k, hk⟩ := al u List.mem_cons_self
    obtain ⟨y, hy⟩ := Tm.byv 7 k u hk
    rw [hy]
    refine wpAny_bind (wpAny_pure ?_)
    cases y with
    | true =>
      simp only [Bool.not_true, Bool.false_eq_true, if_false]
      exact wpAny_pure ⟨rfl, fun x hx => al x (List.mem_cons_of_mem _ hx)⟩
    | false =>
      simp only [Bool.not_false, if_true]
      exact wpAny_pure (wpAny_pure (q _))
  · rintro ⟨r1, r2⟩ s' ⟨rfl, _⟩
    cases r1 with
    | none => exact wpAny_pure (q _)
    | some y => exact wpAny_pure (q _)
theorem tup_unseen (Tm : Tame kn) {ks : List κ} {b : Addr} {Q : Bool → Shared → Prop} (hb : IsTupleKey kn s.heap ks b) {us : List Value} (hus : ∀ u ∈ us, ∃ js c, u = Value.ref c ∧ IsTupleKey kn s.heap js c) (q : Q false s) :
    wpAny (model P w) A (searchCouldBeSeen (.ref b) us) Q E s := by
  unfold searchCouldBeSeen
  refine wpAny_bind ?_
  refine wpAny_forIn_list _ (fun left r s' => r.1 = none ∧ s' = s ∧ ∀ u ∈ left, ∃ js c, u = Value.ref c ∧ IsTupleKey kn s.heap js c) _ ?_ ?_ _ _ ⟨rfl, rfl, hus⟩
  · rintro u left r s' ⟨hr, rfl, al⟩
    obtain ⟨js, c, rfl, hc⟩ := al u List.mem_cons_self
    have al2 : ∀ x ∈ left, ∃ js c, x = Value.ref c ∧ IsTupleKey kn s'.heap js c := fun x hx => al x (List.mem_cons_of_mem _ hx)
    dsimp only
    by_cases hv : (b == c || (carriedByValue (.ref b) && carriedByValue (.ref c))) = true
    · exact wp_if_pos hv (wpAny_pure ⟨rfl, rfl, al2⟩)
    · refine wp_if_neg hv (wpAny_bind (wpAny_eqIsQuiet_tuple hb ?_))
      simp only [Bool.not_true, Bool.false_eq_true, if_false]
      refine wpAny_bind (wpAny_eqIsQuiet_tuple hc ?_)
      simp only [Bool.not_true, Bool.false_eq_true, if_false]
      refine wpAny_bind (tup_cls Tm hb ?_)
      simp only [Bool.false_eq_true, if_false]
      refine wpAny_bind (tup_cls Tm hc ?_)
      simp only [Bool.false_eq_true, if_false]
      exact wpAny_pure ⟨rfl, rfl, al2⟩
  · rintro ⟨r1, r2⟩ s' ⟨hr, rfl, _⟩
    simp only at hr
    subst hr
    exact wpAny_pure q
/-! ### a set of tuples of the kind -/
abbrev hs (kn : KeyKind P w κ) (k : List κ) : Int := tupleKeyHash kn k
abbrev Mem (κ : Type) := Addr × List κ
def ents (kn : KeyKind P w κ) (M : List (Mem κ)) : List (Int × Value) := M.map fun m => (hs kn m.2, Value.ref m.1)
structure TSet (kn : KeyKind P w κ) (h : Heap) (a : Addr) (M : List (Mem κ)) (es : Array (Int × Value)) (ep : Nat) (t : SetTable) : Prop where
  obj : ∃ o, h.get? a = some o ∧ o.ExactSet ∧ o.data = .set es ep t
  ent : es.toList = ents kn M
  tok : TabOk t (M.map fun m => hs kn m.2)
  uni : (M.map (·.2)).Nodup
  mem : ∀ m ∈ M, IsTupleKey kn h m.2 m.1
  led : w.params.followText "set-order" = true ∨ t.led = true
  rom : M.length * 5 < t.mask * 3
  few : M.length < 64
variable {a : Addr} {M : List (Mem κ)} {es : Array (Int × Value)} {ep : Nat} {t : SetTable}
theorem ents_len (e : es.toList = ents kn M) : es.size = M.length := by
  have q := congrArg List.length e
  rw [ents, List.length_map, Array.length_toList] at q
  exact q
theorem ents_at (e : es.toList = ents kn M) {i : Nat} {m : Mem κ} (h : M[i]? = some m) : es[i]? = some (hs kn m.2, Value.ref m.1) := by
  rw [← Array.getElem?_toList, e, ents, List.getElem?_map, h]
  rfl
theorem fits_of (T : TabOk t (M.map fun m => hs kn m.2)) (n : es.size = M.length) (r : M.length ≤ t.mask) : t.fits es.size = true := by
  have z := T.sz
  rw [List.length_map] at z
  unfold SetTable.fits SetTable.fill
  rw [T.dm, Bool.and_eq_true, beq_iff_eq, decide_eq_true_eq]
  show t.place.size = es.size ∧ t.place.size + 0 ≤ t.mask
  omega
theorem TSet.fit (S : TSet kn s.heap a M es ep t) : t.fits es.size = true := fits_of S.tok (ents_len S.ent) (by have := S.rom; omega)
theorem nodummy (m : Nat) : ∀ (n : Nat) (p : SetTable.Probe), p.dummy = none → (nth m p n).dummy = none
  | 0, _, h => h
  | n + 1, p, h => nodummy m n (adv m p) (by unfold adv; split <;> exact h)
abbrev st0 (m : Nat) (h : Int) : SetTable.Probe := runAt m (SetTable.bits h % (m + 1)) (SetTable.bits h)
/-- the search along the way, from its c-th step -/
theorem look (Tm : Tame kn) (S : TSet kn s.heap a M es ep t) {x : Addr} {k : List κ} (hx : IsTupleKey kn s.heap k x) (hu : A.units < cLine) {N : Nat} (hN : N < 10 * SetTable.turns t.mask)
    (fr : way t.mask (hs kn k) N ∉ t.place.toList) (oc : ∀ c, c < N → way t.mask (hs kn k) c ∈ t.place.toList) {Q : SetFound → Shared → Prop}
    (yes : k ∈ M.map (·.2) → Q (.there none) s) (no : k ∉ M.map (·.2) → Q (.free (way t.mask (hs kn k) N) false) s) :
    ∀ (f c : Nat) (sd : Option SetTable.Probe), sd.getD (t.probeStart (hs kn k)) = nth t.mask (st0 t.mask (hs kn k)) c → c ≤ N → N - c < f →
      (∀ (i : Nat) m, M[i]? = some m → m.2 = k → ∃ d, c ≤ d ∧ d < N ∧ t.place.toList[i]? = some (way t.mask (hs kn k) d)) →
      wpAny (model P w) A (setSearchFrom a (.ref x) (hs kn k) true f sd) Q E s
  | 0, _, _, _, _, z, _ => absurd z (Nat.not_lt_zero _)
  | f + 1, c, sd, hsd, hc, hf, ahead => by
    obtain ⟨ob, g1, g2, g3⟩ := S.obj
    rw [setSearchFrom_succ]
    refine wpAny_bind (wpAny_setState_of g1 g3 S.fit ?_)
    dsimp only
    have gw : ¬ t.gaveWay = true := by
      unfold SetTable.gaveWay
      rw [mask_odd S.tok.mok]
      decide
    refine wp_if_neg gw ?_
    try refine wpAny_bind (wpAny_pure ?_)
    have shift : ∀ q, nth t.mask (nth t.mask (st0 t.mask (hs kn k)) c) q = nth t.mask (st0 t.mask (hs kn k)) (c + q) := fun q => (nth_add t.mask c _ q).symm
    have at_ : ∀ q, (nth t.mask (nth t.mask (st0 t.mask (hs kn k)) c) q).j = way t.mask (hs kn k) (c + q) := fun q => congrArg SetTable.Probe.j (shift q)
    have last : c + (N - c) = N := by omega
    have told := go_spec t S.tok.ris S.tok.dm (fun i => (es[i]?.map (·.1)).getD 0) (hs kn k) (10 * SetTable.turns t.mask) (N - c) _ (nodummy t.mask c (st0 t.mask (hs kn k)) rfl) (by omega)
      (fun q hq => by rw [at_]; exact oc _ (by omega)) (by rw [at_, last]; exact fr)
    have hsh : ∀ (i : Nat) m, M[i]? = some m → (fun i => (es[i]?.map (·.1)).getD 0) i = hs kn m.2 := fun i m hm => by
      show (es[i]?.map (·.1)).getD 0 = _
      rw [ents_at S.ent hm]
      rfl
    rcases told with ⟨q, i, hq, hi, _, before, ans⟩ | ⟨before, ans⟩
    · have ans' : t.probe (fun i => (es[i]?.map (·.1)).getD 0) (hs kn k) (sd.getD (t.probeStart (hs kn k))) = some (.candidate (way t.mask (hs kn k) (c + q)) i (nth t.mask (st0 t.mask (hs kn k)) (c + (q + 1)))) := by
        rw [hsd, ← at_, ← shift]
        exact ans
      rw [ans']
      dsimp only
      rw [at_] at hi
      have il : i < M.length := by
        have z1 := (List.getElem?_eq_some_iff.mp hi).1
        have z2 := S.tok.sz
        rw [List.length_map] at z2
        rw [Array.length_toList] at z1
        omega
      obtain ⟨m, hm⟩ : ∃ m, M[i]? = some m := ⟨_, List.getElem?_eq_getElem il⟩
      have mm : m ∈ M := List.mem_of_getElem? hm
      have go : wpAny (model P w) A (searchRest a (.ref x) (hs kn k) true f es t (way t.mask (hs kn k) (c + q)) i (nth t.mask (st0 t.mask (hs kn k)) (c + (q + 1)))) Q E s := by
        unfold searchRest
        rw [ents_at S.ent hm]
        dsimp only
        refine wpAny_bind (wpAny_holding (wpAny_eqBool_tuple hu (S.mem m mm) hx ?_))
        refine wpAny_bind (wpAny_setState_of g1 g3 S.fit ?_)
        dsimp only
        by_cases same : m.2 = k
        · exact wp_if_pos (by simp [same]) (wpAny_pure (yes (List.mem_map.mpr ⟨m, mm, same⟩)))
        · refine wp_if_neg (by simp [same]) ?_
          try refine wpAny_bind (wpAny_pure ?_)
          rw [sameMem]
          dsimp only
          have live : t.slot (way t.mask (hs kn k) (c + q)) = .live i := slot_live S.tok.ris hi
          simp only [if_true, live, ents_at S.ent hm]
          refine wpAny_bind (wpAny_isSame_ref_self (wpAny_bind (wpAny_pure ?_)))
          simp only [if_true]
          refine wp_if_neg (by simp [same]) ?_
          refine look Tm S hx hu hN fr oc yes no f (c + (q + 1)) _ rfl (by omega) (by omega) fun j n hj hn => ?_
          obtain ⟨d, d1, d2, d3⟩ := ahead j n hj hn
          refine ⟨d, ?_, d2, d3⟩
          rcases Nat.lt_trichotomy d (c + q) with z | z | z
          · have z0 : c + (d - c) = d := by omega
            refine absurd ((hsh j n hj).trans (congrArg (hs kn) hn)) (before (d - c) j (by omega) ?_)
            rw [at_, z0]
            exact d3
          · rw [z] at d3
            have z1 := slot_live S.tok.ris d3
            rw [live] at z1
            injection z1 with z1
            rw [← z1, hm] at hj
            exact absurd ((congrArg Prod.snd (Option.some.inj hj)).trans hn) same
          · omega
      by_cases hl : t.led = true
      · refine wp_if_neg (by simp [hl]) ?_
        try refine wpAny_bind (wpAny_pure ?_)
        exact go
      · refine wp_if_pos (by simp [hl]) ?_
        refine wpAny_bind (tup_unseen Tm hx (fun u hu2 => ?_) ?_)
        · obtain ⟨e, he, ee⟩ := List.mem_map.mp hu2
          have he1 : e ∈ es ∧ e.1 = hs kn k := by simpa using he
          have he2 : e ∈ es.toList := by simpa using he1.1
          rw [S.ent] at he2
          obtain ⟨n, hn, rfl⟩ := List.mem_map.mp he2
          exact ⟨n.2, n.1, ee.symm, S.mem n hn⟩
        · refine wp_if_neg (by decide) ?_
          try refine wpAny_bind (wpAny_pure ?_)
          exact go
    · have ans' : t.probe (fun i => (es[i]?.map (·.1)).getD 0) (hs kn k) (sd.getD (t.probeStart (hs kn k))) = some (.empty (way t.mask (hs kn k) N) none) := by
        have z : way t.mask (hs kn k) N = (nth t.mask (nth t.mask (st0 t.mask (hs kn k)) c) (N - c)).j := by rw [at_, last]
        rw [hsd, z]
        exact ans
      rw [ans']
      dsimp only
      refine wpAny_pure (no fun hm => ?_)
      obtain ⟨m, mm, ek⟩ := List.mem_map.mp hm
      obtain ⟨j, hj⟩ := List.mem_iff_getElem?.mp mm
      obtain ⟨d, d1, d2, d3⟩ := ahead j m hj ek
      have z0 : c + (d - c) = d := by omega
      refine absurd ((hsh j m hj).trans (congrArg (hs kn) ek)) (before (d - c) j (by omega) ?_)
      rw [at_, z0]
      exact d3
theorem look0 (Tm : Tame kn) (S : TSet kn s.heap a M es ep t) {x : Addr} {k : List κ} (hx : IsTupleKey kn s.heap k x) (hu : A.units < cLine) {Q : SetFound → Shared → Prop} (yes : k ∈ M.map (·.2) → Q (.there none) s)
    (no : ∀ N, k ∉ M.map (·.2) → way t.mask (hs kn k) N ∉ t.place.toList → (∀ c, c < N → way t.mask (hs kn k) c ∈ t.place.toList) → Q (.free (way t.mask (hs kn k) N) false) s) :
    wpAny (model P w) A (setSearch a (.ref x) (hs kn k) true) Q E s := by
  have rm := S.rom
  obtain ⟨N, n1, n2, n3⟩ := S.tok.first (by rw [List.length_map]; omega) (hs kn k)
  have big : N < 100000 := by
    have : 10 * SetTable.turns t.mask ≤ 1420 := by
      unfold SetTable.turns
      rcases S.tok.mok with e | e | e <;> omega
    omega
  unfold setSearch
  refine look Tm S hx hu n1 n2 n3 yes (fun z => no N z n2 n3) 100000 0 none rfl (Nat.zero_le _) (by omega) fun i m hm ek => ?_
  have z1 : (M.map fun m => hs kn m.2)[i]? = some (hs kn k) := by
    rw [List.getElem?_map, hm, ← ek]
    rfl
  have z2 : i < t.place.toList.length := by
    have y1 : i < M.length := (List.getElem?_eq_some_iff.mp hm).1
    have y2 := S.tok.sz
    rw [List.length_map] at y2
    rw [Array.length_toList]
    omega
  obtain ⟨d, d1, d2⟩ := S.tok.before n2 z1 (List.getElem?_eq_getElem z2)
  exact ⟨d, Nat.zero_le _, d1, by rw [List.getElem?_eq_getElem z2, d2]⟩
/-! ### laid anew, and added to -/
theorem key_else {h h' : Heap} {k : List κ} {b : Addr} {o : Obj} (hb : IsTupleKey kn h k b) (ho : h.get? a = some o) (hd : o.data = .set es ep t) (sb : Heap.SameBut a h h') : IsTupleKey kn h' k b := by
  obtain ⟨o2, its, n, g1, g2, g3, g4⟩ := hb
  have ne : b ≠ a := fun z => by
    rw [z, ho] at g1
    rw [← Option.some.inj g1, hd] at g3
    exact nomatch g3
  exact ⟨o2, its, n, (sb.2 b ne).trans g1, g2, g3, g4⟩
theorem pick_len {α : Type} (l : List α) : ∀ n, n ≤ l.length → (List.range n).filterMap (fun i => l[i]?) = l.take n
  | 0, _ => by simp
  | n + 1, h => by
    rw [List.range_succ, List.filterMap_append, pick_len l n (by omega), List.take_succ, List.getElem?_eq_getElem h]
    simp [List.filterMap, List.getElem?_eq_getElem h]
theorem pick (e : es.toList = ents kn M) : ∀ js : List Nat, (∀ j ∈ js, j < M.length) →
    js.filterMap (fun j => es[j]?) = ents kn (js.filterMap fun j => M[j]?) ∧ ((js.filterMap fun j => M[j]?).map fun m => hs kn m.2) = js.map fun j => (es.map (·.1)).getD j 0
  | [], _ => ⟨rfl, rfl⟩
  | j :: js, h => by
    have hj : j < M.length := h j List.mem_cons_self
    obtain ⟨i1, i2⟩ := pick e js fun i hi => h i (List.mem_cons_of_mem _ hi)
    have g := List.getElem?_eq_getElem hj
    have z : (es.map (·.1)).getD j 0 = hs kn M[j].2 := by
      have z1 : (es.map (·.1))[j]? = some (hs kn M[j].2) := by
        rw [Array.getElem?_map, ents_at e g]
        rfl
      simp [Array.getD_eq_getD_getElem?, z1]
    constructor
    · rw [List.filterMap_cons_some (ents_at e g), List.filterMap_cons_some g, i1]
      rfl
    · rw [List.filterMap_cons_some g, List.map_cons, List.map_cons, i2, z]
theorem grow {o : Obj} (g1 : s.heap.get? a = some o) (g2 : o.ExactSet) (g3 : o.data = .set es ep t) (en : es.toList = ents kn M) (T : TabOk t (M.map fun m => hs kn m.2)) (fl : M.length ≤ t.mask)
    (un : (M.map (·.2)).Nodup) (me : ∀ m ∈ M, IsTupleKey kn s.heap m.2 m.1) (ld : w.params.followText "set-order" = true ∨ t.led = true) (fw : M.length < 64) {want B : Nat}
    (w1 : SetTable.sizeAbove want - 1 = B) (w2 : MaskOk B) (w3 : SetTable.sizeAbove want ≤ 128) (w4 : M.length * 5 < B * 3) {Q : Unit → Shared → Prop}
    (q : ∀ h' M' es' ep' t', Heap.SameBut a s.heap h' → TSet kn h' a M' es' ep' t' → M'.Perm M → Q () { s with heap := h' }) : wpAny (model P w) A (setRelay a want) Q E s := by
  have n := ents_len en
  obtain ⟨t', order, e1, pm, T', e2, e3, _, _⟩ := relaid_ok t (hs := es.map (·.1)) (wanted := want) w1 w2 (by rw [Array.size_map, n]; omega)
  rw [Array.size_map, n] at pm
  obtain ⟨p1, p2⟩ := pick en order.toList fun j hj => List.mem_range.mp (pm.mem_iff.mp hj)
  have pm2 : (order.toList.filterMap fun j => M[j]?).Perm M := by
    have z := pm.filterMap fun j => M[j]?
    rw [pick_len M M.length (Nat.le_refl _), List.take_length] at z
    exact z
  generalize order.toList.filterMap (fun j => M[j]?) = M' at p1 p2 pm2
  rw [← p2] at T'
  have p3 : (order.filterMap (es[·]?)).toList = ents kn M' := by
    first
      | (rw [Array.toList_filterMap]; exact p1)
      | simpa using p1
  have n2 := ents_len p3
  have n3 := pm2.length_eq
  rw [setRelay_eq]
  refine wpAny_bind (wpAny_setState_of g1 g3 (fits_of T n fl) ?_)
  dsimp only
  refine wp_if_neg (by rw [sizeLine_eq]; omega) ?_
  try refine wpAny_bind (wpAny_pure ?_)
  rw [e1]
  dsimp only
  refine wpAny_bind (wp_if_neg (by rw [n2, n3, n]; simp) ?_)
  try refine wpAny_bind (wpAny_pure ?_)
  refine wpAny_pure ?_
  dsimp only
  refine wpAny_storeSet_of g1 g3 ?_ (by rw [n2, n3, sizeLine_eq]; omega)
  have sb : Heap.SameBut a s.heap (s.heap.update a (Obj.putSet (order.filterMap (es[·]?)) t')) := Heap.SameBut.update ..
  refine q _ M' _ (ep + 1) t' sb ⟨⟨_, store_at g1 g3, ⟨g2.1, g2.2.1, g2.2.2⟩, rfl⟩, p3, T', (pm2.map (·.2)).nodup_iff.mpr un, fun m hm => key_else (me m (pm2.mem_iff.mp hm)) g1 g3 sb, by rw [e3]; exact ld, by rw [n3, e2]; exact w4, by rw [n3]; exact fw⟩ pm2
theorem more (Tm : Tame kn) (S : TSet kn s.heap a M es ep t) {x : Addr} {k : List κ} (hx : IsTupleKey kn s.heap k x) (hu : A.units < cLine) (fw : M.length + 1 < 64) {Q : Bool → Shared → Prop}
    (q : ∀ b h' M' es' ep' t', Heap.SameBut a s.heap h' → TSet kn h' a M' es' ep' t' → (k ∈ M.map (·.2) → M' = M) → (k ∉ M.map (·.2) → M'.Perm ((x, k) :: M)) → Q b { s with heap := h' }) :
    wpAny (model P w) A (setAddHashed a (.ref x) (hs kn k)) Q E s := by
  obtain ⟨o, g1, g2, g3⟩ := S.obj
  have n := ents_len S.ent
  have rm := S.rom
  unfold setAddHashed
  refine wpAny_holding ?_
  rw [show (100000 : Nat) = 99999 + 1 from rfl, setAddHashedIn_succ]
  refine wpAny_bind (wpAny_setState_of g1 g3 S.fit ?_)
  dsimp only
  refine wp_if_neg (by simp [byScan, Value.scannable]) ?_
  try refine wpAny_bind (wpAny_pure ?_)
  refine wpAny_bind (look0 Tm S hx hu (fun hm => ?_) fun N hm f1 f2 => ?_)
  · exact wpAny_pure (q false s.heap M es ep t (Heap.SameBut.refl a s.heap) S (fun _ => rfl) fun z => absurd hm z)
  · dsimp only
    refine wpAny_bind (wpAny_setState_of g1 g3 S.fit ?_)
    dsimp only
    obtain ⟨q1, q2, q3, q4, q5, q6, q7, q8, q9⟩ := S.tok.put f1 f2
    generalize t.put (way t.mask (hs kn k) N) = pt at q1 q3 q4 q5 q6 q7 q8 q9 ⊢
    obtain ⟨t1, p⟩ := pt
    dsimp only at q1 q3 q4 q5 q6 q7 q8 q9 ⊢
    subst q1
    have hin : (SetTable.insertAt es (SetTable.below t.place (way t.mask (hs kn k) N)) (hs kn k, Value.ref x)).toList = ents kn (M.take (SetTable.below t.place (way t.mask (hs kn k) N)) ++ (x, k) :: M.drop (SetTable.below t.place (way t.mask (hs kn k) N))) := by
      rw [SetTable.toList_insertAt, S.ent, ents, ents, List.map_append, List.map_cons, List.map_take, List.map_drop]
    generalize SetTable.below t.place (way t.mask (hs kn k) N) = b at q2 q3 hin ⊢
    have pm := put_perm M b (x, k)
    have ln : (M.take b ++ (x, k) :: M.drop b).length = M.length + 1 := pm.length_eq
    have hh : (M.take b ++ (x, k) :: M.drop b).map (fun m => hs kn m.2) = (M.map fun m => hs kn m.2).take b ++ hs kn k :: (M.map fun m => hs kn m.2).drop b := by
      rw [List.map_append, List.map_cons, List.map_take, List.map_drop]
    rw [← hh] at q3
    have un1 : ((M.take b ++ (x, k) :: M.drop b).map (·.2)).Nodup := by
      refine (pm.map (·.2)).nodup_iff.mpr ?_
      rw [List.map_cons]
      exact List.nodup_cons.mpr ⟨hm, S.uni⟩
    have n1 := ents_len hin
    rw [ln] at n1
    generalize SetTable.insertAt es b (hs kn k, Value.ref x) = es1 at hin n1 ⊢
    generalize M.take b ++ (x, k) :: M.drop b = M1 at pm ln q3 un1 hin
    have tail : ∀ t2 : SetTable, TabOk t2 (M1.map fun m => hs kn m.2) → t2.mask = t.mask → t2.led = t1.led → t2.tooFull = t1.tooFull →
        wpAny (model P w) A (do
          storeSet a es1 t2
          if !false && t2.tooFull then setRelay a (SetTable.grown (es.size + 1))
          return true) Q E s := by
      intro t2 T2 mk ldd tf
      refine wpAny_bind (wpAny_storeSet_of g1 g3 ?_ (by rw [n1, sizeLine_eq]; omega))
      have sb : Heap.SameBut a s.heap (s.heap.update a (Obj.putSet es1 t2)) := Heap.SameBut.update ..
      have so := store_at (es' := es1) (t' := t2) g1 g3
      generalize s.heap.update a (Obj.putSet es1 t2) = h1 at sb so ⊢
      have me1 : ∀ m ∈ M1, IsTupleKey kn h1 m.2 m.1 := fun m hm1 => by
        rcases List.mem_cons.mp (pm.mem_iff.mp hm1) with z | z
        · rw [z]
          exact key_else hx g1 g3 sb
        · exact key_else (S.mem m z) g1 g3 sb
      have ld1 : w.params.followText "set-order" = true ∨ t2.led = true := by
        rw [ldd, q5]
        exact S.led
      by_cases hf : t1.tooFull = true
      · have hf2 : t2.tooFull = true := tf.trans hf
        first
          | (refine wpAny_bind ?_; refine wp_if_pos (by simp [hf2]) ?_)
          | (refine wp_if_pos (by simp [hf2]) ?_; refine wpAny_bind ?_)
        have full : (M.length + 1) * 5 ≥ t1.mask * 3 := by
          have z := hf
          unfold SetTable.tooFull at z
          rw [decide_eq_true_eq, q9, List.length_map] at z
          exact z
        rw [n]
        have two : (t.mask = 7 ∧ M.length = 4) ∨ (t.mask = 31 ∧ M.length = 18) := by
          rcases S.tok.mok with e | e | e
          · left
            rw [q4, e] at full
            rw [e] at rm
            exact ⟨e, by omega⟩
          · right
            rw [q4, e] at full
            rw [e] at rm
            exact ⟨e, by omega⟩
          · exfalso
            rw [q4, e] at full
            omega
        have go : ∀ B, SetTable.sizeAbove (SetTable.grown (M.length + 1)) - 1 = B → MaskOk B → SetTable.sizeAbove (SetTable.grown (M.length + 1)) ≤ 128 → (M.length + 1) * 5 < B * 3 →
            wpAny (model P w) A (setRelay a (SetTable.grown (M.length + 1))) (fun _ s' => wpAny (model P w) A (pure true) Q E s') E { s with heap := h1 } := fun B b1 b2 b3 b4 => by
          refine grow (s := { s with heap := h1 }) so ⟨g2.1, g2.2.1, g2.2.2⟩ rfl hin T2 (by rw [ln, mk]; rcases two with ⟨z, z2⟩ | ⟨z, z2⟩ <;> omega) un1 me1 ld1 (by rw [ln]; exact fw) b1 b2 b3 (by rw [ln]; exact b4) ?_
          intro h2 M2 es2 ep2 t3 sb2 S2 pm2
          exact wpAny_pure (q true h2 M2 es2 ep2 t3 (sb.trans sb2) S2 (fun z => absurd z hm) fun _ => pm2.trans pm)
        rcases two with ⟨_, z⟩ | ⟨_, z⟩
        · exact go 31 (by rw [z, size_20]) (.inr (.inl rfl)) (by rw [z, size_20]; decide) (by omega)
        · exact go 127 (by rw [z, size_76]) (.inr (.inr rfl)) (by rw [z, size_76]; decide) (by omega)
      · have hf2 : ¬ t2.tooFull = true := by
          rw [tf]
          exact hf
        first
          | refine wp_if_neg (by simp [hf2]) ?_
          | (refine wpAny_bind ?_; refine wp_if_neg (by simp [hf2]) ?_; refine wpAny_pure ?_)
        refine wpAny_pure (q true h1 M1 es1 (ep + 1) t2 sb ⟨⟨_, so, ⟨g2.1, g2.2.1, g2.2.2⟩, rfl⟩, hin, T2, un1, me1, ld1, ?_, by rw [ln]; exact fw⟩ (fun z => absurd z hm) fun _ => pm)
        have z := hf
        unfold SetTable.tooFull at z
        rw [decide_eq_true_eq, q9, List.length_map, q4] at z
        rw [ln, mk]
        omega
    have both : ∀ y : Bool, wpAny (model P w) A (do
        storeSet a es1 (if y then t1 else { t1 with plain := false })
        if !false && (if y then t1 else { t1 with plain := false } : SetTable).tooFull then setRelay a (SetTable.grown (es.size + 1))
        return true) Q E s := by
      intro y
      cases y with
      | true => exact tail t1 q3 q4 rfl rfl
      | false => exact tail { t1 with plain := false } ⟨q3.ris, q3.dm, q3.sz, q3.mok, q3.bd, q3.reach⟩ q4 rfl rfl
    by_cases pl : t1.plain = true
    · first
        | (refine wpAny_bind ?_; refine wp_if_pos pl ?_; refine tup_byv Tm hx fun y => ?_)
        | refine wp_if_pos pl (wpAny_bind (tup_byv Tm hx fun y => ?_))
      exact both y
    · first
        | (refine wpAny_bind ?_; refine wp_if_neg pl ?_; refine wpAny_pure ?_)
        | refine wp_if_neg pl (wpAny_bind (wpAny_pure ?_))
      exact both true
end kinds
end SG
namespace SG
open PySem PySem.Spec PyProof.Rows L2
/-- what a set at S, filled one by one, is known to be behind i things; base: what stood before it -/
structure Fills (P : Program) (w : World) (A : Around) (S : Addr) (base : Heap) (n : Nat) (Pv : Nat → Value → Prop) (J : Nat → Heap → Prop) : Prop where
  stay : ∀ (i : Nat) (h h' : Heap), J i h → (∀ b o, (b = S ∨ ∃ x, base.get? b = some x) → h.get? b = some o → h'.get? b = some o) → J i h'
  adds : ∀ (i : Nat) (v : Value) (s : Shared) (Q : Shared → Prop) (E : Value → Shared → Prop), i < n → Pv i v → J i s.heap →
    (∀ (h' : Heap) (tk : Nat), s.toks ≤ tk → Heap.SameBut S s.heap h' → J (i + 1) h' → Q { s with heap := h', toks := tk }) → wpAny (model P w) A (setAdd S v) (fun _ s' => Q s') E s
section
variable {P : Program} {w : World} {A : Around} {s : Shared}
theorem fill {I S : Addr} {fp wr : List Addr} {G : Array GenState → Array GenState → Prop} {n : Nat} {Pv : Nat → Value → Prop} {St : Nat → Shared → Prop} {R : Result → Shared → Prop} {base : Heap} {J : Nat → Heap → Prop}
    (W : WalksS P w A.in1 I fp wr G n Pv St) (Fi : Fills P w A.in1 S base n Pv J) (off : S ∉ fp) (old : ∀ b ∈ wr, base.get? b = none) : ∀ (d i : Nat) (s : Shared), n - i = d → i ≤ n → St i s → J i s.heap →
      (∀ s', Moved (S :: wr) G s s' → J n s'.heap → R (.ok (.ret .none)) s') → codeAny (model P w) A (.builtin "set.update.loop" ⟨[.ref S, .ref I], []⟩) R s := by
  have up : ∀ b ∈ wr, b ∈ S :: wr := fun b hb => List.mem_cons_of_mem _ hb
  have still : ∀ {i : Nat} {s s' : Shared}, Moved wr G s s' → J i s.heap → J i s'.heap := fun {i s s'} mv j => Fi.stay i _ _ j fun b o hb e => mv.heap b o (fun hw => by
    rcases hb with z | ⟨x, z⟩
    · exact off (W.sub _ (z ▸ hw))
    · rw [old b hw] at z
      cases z) e
  intro d
  induction d with
  | zero =>
    intro i s hd hi st j fin
    have e : i = n := by omega
    subst e
    refine codeAny_builtin F.entry_set_update_loop ?_
    rw [Around.under_plainId F.plain_set_update_loop _]
    show wpAny _ A.in1 (pyNext (.ref I) >>= _) _ _ s
    refine wpAny_bind (W.done s _ _ st fun s' mv => ?_)
    exact wpAny_pure (fin s' (mv.mono up) (still mv j))
  | succ d ih =>
    intro i s hd hi st j fin
    have lt : i < n := by omega
    refine codeAny_builtin F.entry_set_update_loop ?_
    rw [Around.under_plainId F.plain_set_update_loop _]
    show wpAny _ A.in1 (pyNext (.ref I) >>= _) _ _ s
    refine wpAny_bind (W.item i s _ _ lt st fun v s' pv st' mv => ?_)
    show wpAny _ A.in1 (holding [v] (setAdd S v) >>= _) _ _ s'
    refine wpAny_bind (wpAny_holding (Fi.adds i v s' _ _ lt pv (still mv j) fun h' tk ht sb j' => ?_))
    have out : ∀ b o, b ∉ S :: wr → s'.heap.get? b = some o → h'.get? b = some o := fun b o hb e => by
      rw [sb.2 b fun z => hb (by rw [z]; exact List.mem_cons_self)]
      exact e
    refine wpAny_pure ⟨plainId_quiet F.plain_set_update_loop _, ih (i + 1) _ (by omega) lt (W.frame _ s' _ _ st' ht fun b hb o e => ?_) j' fun s2 mv2 j2 => ?_⟩
    · rw [sb.2 b fun z => off (z ▸ hb)]
      exact e
    · exact fin s2 (Moved.trans W.gtrans ((mv.mono up).then_heap ht out) mv2) j2
end
abbrev bare (w : World) : Obj := { cls := .type "set", dict := none, data := .set #[] 0 (.fresh 0 0 (!w.params.followText "set-order")) }
section
variable {P : Program} {w : World} {A : Around} {E : Value → Shared → Prop} {s : Shared}
theorem make {l : Addr} {its : Array Value} {J : Nat → Heap → Prop} {Q : Value → Shared → Prop} (hh : A.handled = none) (hl : s.heap.IsList l its ∨ s.heap.IsTuple l its)
    (Fi : Fills P w A.in1.in1.in1 s.heap.objs.size s.heap its.size (fun i v => its[i]? = some v) J)
    (j0 : ∀ h : Heap, h.get? s.heap.objs.size = some (bare w) → (∀ b o, s.heap.get? b = some o → h.get? b = some o) → J 0 h)
    (q : ∀ (h' : Heap) (tk : Nat), J its.size h' → (∀ b o, s.heap.get? b = some o → h'.get? b = some o) → Q (.ref s.heap.objs.size) { s with heap := h', toks := tk }) :
    wpAny (model P w) A (call (.type "set") [.ref l]) Q E s := by
  obtain ⟨c, tl, hmro⟩ := F.called_set.mro
  have hmade := F.called_set.made
  have hsub := F.called_set.sub
  refine wpAny_call (codeAny_of_tree ?_)
  show wpAny _ _ (callAny (.type "set") _) _ _ _
  refine wpAny_pure ⟨Code.quiet_builtin _ (by decide +kernel), codeAny_builtin F.entry_type_call ?_⟩
  rw [Around.under_plain (weight_type_call_type "set" [.ref l] []) rfl]
  have h1 := F.called_set.notType
  have h2 := F.called_set.canCreate
  have h3 := F.typeCall_set_1 (.ref l)
  repeat (any_goals (first | assumption | wp_step))
  refine codeAny_mono (code_set_led1 (.ref l) (E := E) (Q₁ := fun ob s1 => ob = .ref s.heap.objs.size ∧ s1 = { s with heap := s.heap.push (bare w) }) ⟨rfl, rfl⟩) fun r s1 hr => ?_
  cases r with
  | error e => exact hr
  | ok fl =>
    cases fl with
    | ret ob =>
      obtain ⟨rfl, rfl⟩ := hr
      have g0 : (s.heap.push (bare w)).get? s.heap.objs.size = some (bare w) := Heap.get?_push_size _ rfl
      have ty : Shared.TypeIs { s with heap := s.heap.push (bare w) } (.ref s.heap.objs.size) "set" := ⟨_, g0, rfl⟩
      have h4 := F.called_set.init.lookup
      have h5 := F.called_set.init.bind (.ref s.heap.objs.size)
      repeat (any_goals (first | assumption | wp_step))
      refine codeAny_mono (codeAny_call_builtin (R := wants (fun r s2 => r = .none ∧ ∃ h' tk, s2 = { s with heap := h', toks := tk } ∧ J its.size h' ∧ ∀ b o, s.heap.get? b = some o → h'.get? b = some o) E) F.called_set.init.plain F.entry_set_init (check_set_init_1 ty ?_)) fun r2 s2 hr2 => ?_
      · have lt : ∀ {b o}, s.heap.get? b = some o → b < s.heap.objs.size := fun e => Heap.lt_size e
        have nw : ∀ b, s.heap.objs.size ≤ b → s.heap.get? b = none := fun b hb => by
          cases z : s.heap.get? b with
          | none => rfl
          | some o => exact absurd (Nat.lt_of_lt_of_le (lt z) hb) (Nat.lt_irrefl _)
        have hh3 : A.in1.in1.in1.handled = none := by simp [hh]
        have z1 : (s.heap.push (bare w)).objs.size = s.heap.objs.size + 1 := Heap.size_push ..
        have ends : ∀ (s' : Shared), Moved [s.heap.objs.size, (s.heap.push (bare w)).objs.size] (fun a b => b = a) { s with heap := (s.heap.push (bare w)) } s' → J its.size s'.heap →
            ∃ h' tk, s' = { s with heap := h', toks := tk } ∧ J its.size h' ∧ ∀ b o, s.heap.get? b = some o → h'.get? b = some o := fun s' mv j => by
          obtain ⟨h', g', d', tk, os'⟩ := s'
          have e1 : g' = s.gens := mv.gens
          have e2 : d' = s.drawn := mv.drawn
          have e3 : os' = s.os := mv.os
          subst e1 e2 e3
          refine ⟨h', tk, rfl, j, fun b o e => mv.heap b o (fun hb => ?_) (Heap.get?_push_of_some _ e)⟩
          have hb2 := lt e
          simp only [List.mem_cons, List.not_mem_nil, or_false] at hb
          rcases hb with z | z
          · rw [z] at hb2
            exact Nat.lt_irrefl _ hb2
          · rw [z, z1] at hb2
            exact absurd hb2 (Nat.not_lt.mpr (Nat.le_succ _))
        rcases hl with hl | hl
        · obtain ⟨⟨ocls, odict, odata, oslots⟩, hol, hcl, nl, hdl⟩ := hl
          simp only at hcl hdl
          subst hcl hdl
          have hol' := Heap.get?_push_of_some (bare w) hol
          have hl1 : (s.heap.push (bare w)).IsList l its := ⟨_, hol', rfl, nl, rfl⟩
          have h6 := F.sub_list_set
          have h7 := F.sub_list_frozenset
          have h8 : (Value.type "list" == Value.type "dict") = false := by decide
          unfold Builtin.«set.__init__» noKeywords Builtin.Frozenset.updateFrom
          generalize hPI : pyIter = PI
          wp_walk
          subst hPI
          refine wpAny_pyIter_list hl1 (wpAny_bind (wpAny_runValue ?_))
          have hls := lt hol
          refine fill ((Walks.list hh3 _ l (by rw [z1]; exact Nat.ne_of_lt (Nat.lt_succ_of_lt hls)) its).toS) Fi (by rw [z1]; simp only [List.mem_cons, List.not_mem_nil, or_false, not_or]; exact ⟨Nat.ne_of_lt (Nat.lt_succ_self _), (Nat.ne_of_lt hls).symm⟩) (fun b hb => nw b (by rw [List.mem_singleton.mp hb, z1]; exact Nat.le_succ _)) (its.size - 0) 0 _ (by omega) (Nat.zero_le _)
            ⟨⟨_, Heap.get?_push_size _ rfl, rfl, rfl⟩, hl1.push _⟩ (j0 _ (Heap.get?_push_of_some _ g0) fun b o e => Heap.get?_push_of_some _ (Heap.get?_push_of_some _ e)) fun s' mv j => ?_
          refine wpAny_pure ?_
          obtain ⟨h', tk, e1, e2, e3⟩ := ends s' ⟨fun b o hb e => mv.heap b o hb (Heap.get?_push_of_some _ e), mv.gens, mv.drawn, mv.os, mv.toks⟩ j
          exact wpAny_pure ⟨rfl, h', tk, e1, e2, e3⟩
        · obtain ⟨⟨ocls, odict, odata, oslots⟩, hol, hcl, nl, hdl⟩ := hl
          simp only at hcl hdl
          subst hcl hdl
          have hol' := Heap.get?_push_of_some (bare w) hol
          have hl1 : (s.heap.push (bare w)).IsTuple l its := ⟨_, hol', rfl, nl, rfl⟩
          have h6 := F.sub_tuple_set
          have h7 := F.sub_tuple_frozenset
          have h8 : (Value.type "tuple" == Value.type "dict") = false := by decide
          unfold Builtin.«set.__init__» noKeywords Builtin.Frozenset.updateFrom
          generalize hPI : pyIter = PI
          wp_walk
          subst hPI
          refine wpAny_pyIter_tuple hl1 (wpAny_bind (wpAny_runValue ?_))
          have hls := lt hol
          refine fill ((Walks.tuple hh3 _ l (by rw [z1]; exact Nat.ne_of_lt (Nat.lt_succ_of_lt hls)) its).toS) Fi (by rw [z1]; simp only [List.mem_cons, List.not_mem_nil, or_false, not_or]; exact ⟨Nat.ne_of_lt (Nat.lt_succ_self _), (Nat.ne_of_lt hls).symm⟩) (fun b hb => nw b (by rw [List.mem_singleton.mp hb, z1]; exact Nat.le_succ _)) (its.size - 0) 0 _ (by omega) (Nat.zero_le _)
            ⟨⟨_, Heap.get?_push_size _ rfl, rfl, rfl⟩, hl1.push _⟩ (j0 _ (Heap.get?_push_of_some _ g0) fun b o e => Heap.get?_push_of_some _ (Heap.get?_push_of_some _ e)) fun s' mv j => ?_
          refine wpAny_pure ?_
          obtain ⟨h', tk, e1, e2, e3⟩ := ends s' ⟨fun b o hb e => mv.heap b o hb (Heap.get?_push_of_some _ e), mv.gens, mv.drawn, mv.os, mv.toks⟩ j
          exact wpAny_pure ⟨rfl, h', tk, e1, e2, e3⟩
      · cases r2 with
        | error e => exact hr2
        | ok fl2 =>
          cases fl2 with
          | ret r =>
            obtain ⟨rfl, h', tk, rfl, j, kp⟩ := hr2
            repeat (any_goals (first | assumption | wp_step))
            exact q _ _ j kp
          | _ => exact hr2.elim
    | _ => exact hr.elim
end
end SG
namespace SG
open PySem PySem.Spec PyProof.Rows L2
/-! ### how many different ones -/
section
variable {α : Type} [DecidableEq α]
theorem sub_len : ∀ {l r : List α}, l.Nodup → (∀ x ∈ l, x ∈ r) → l.length ≤ r.length
  | [], _, _, _ => Nat.zero_le _
  | x :: l, r, nd, h => by
    have h1 := List.nodup_cons.mp nd
    have hx := h x List.mem_cons_self
    have h2 : ∀ y ∈ l, y ∈ r.erase x := fun y hy => (List.mem_erase_of_ne (a := y) (b := x) fun e => h1.1 (by rw [← e]; exact hy)).mpr (h y (List.mem_cons_of_mem _ hy))
    have h3 := sub_len h1.2 h2
    rw [List.length_erase_of_mem hx] at h3
    have h4 : 0 < r.length := List.length_pos_of_mem hx
    rw [List.length_cons]
    omega
theorem less : ∀ {r : List α}, ¬ r.Nodup → ∃ l : List α, l.length < r.length ∧ ∀ x ∈ r, x ∈ l
  | [], h => absurd List.nodup_nil h
  | x :: r, h => by
    by_cases hx : x ∈ r
    · refine ⟨r, by simp, fun y hy => ?_⟩
      rcases List.mem_cons.mp hy with e | e
      · rw [e]
        exact hx
      · exact e
    · obtain ⟨l, h1, h2⟩ := less fun nd => h (List.nodup_cons.mpr ⟨hx, nd⟩)
      refine ⟨x :: l, by simpa using h1, fun y hy => ?_⟩
      rcases List.mem_cons.mp hy with e | e
      · rw [e]
        exact List.mem_cons_self
      · exact List.mem_cons_of_mem _ (h2 y e)
theorem as_many {l r : List α} (nd : l.Nodup) (h1 : ∀ x ∈ l, x ∈ r) (h2 : ∀ x ∈ r, x ∈ l) : l.length ≤ r.length ∧ (l.length = r.length ↔ r.Nodup) := by
  refine ⟨sub_len nd h1, fun e => ?_, fun nr => Nat.le_antisymm (sub_len nd h1) (sub_len nr h2)⟩
  rcases Classical.em r.Nodup with z | z
  · exact z
  · obtain ⟨l', q1, q2⟩ := less z
    have := sub_len nd fun x hx => q2 x (h1 x hx)
    omega
theorem take_one {l : List α} {i : Nat} {x : α} (h : l[i]? = some x) : l.take (i + 1) = l.take i ++ [x] := by
  rw [List.take_succ, h]
  rfl
end
section
variable {P : Program} {w : World} {A : Around} {E : Value → Shared → Prop} {s : Shared}
/-! ### tuples of texts and ints -/
theorem fills_tup {ks : List (Mem Key)} {its : Array Value} (e : its.toList = ks.map fun m => Value.ref m.1) (hk : ∀ m ∈ ks, IsTupleKey (mixKind P w) s.heap m.2 m.1) (few : ks.length < 64) (hu : A.units < cLine) :
    Fills P w A s.heap.objs.size s.heap its.size (fun i v => its[i]? = some v) fun i h => (∀ b o, s.heap.get? b = some o → h.get? b = some o) ∧
      ∃ M es ep t, TSet (mixKind P w) h s.heap.objs.size M es ep t ∧ (∀ m ∈ M, m ∈ ks.take i) ∧ (∀ m ∈ ks.take i, m.2 ∈ M.map (·.2)) ∧ M.length ≤ i := by
  have nw : s.heap.get? s.heap.objs.size = none := by
    cases z : s.heap.get? s.heap.objs.size with
    | none => rfl
    | some o => exact absurd (Heap.lt_size z) (Nat.lt_irrefl _)
  have up : ∀ {h : Heap} {m : Mem Key}, (∀ b o, s.heap.get? b = some o → h.get? b = some o) → m ∈ ks → IsTupleKey (mixKind P w) h m.2 m.1 := fun {h m} k hm => by
    obtain ⟨o, items, n, g, r⟩ := hk m hm
    exact ⟨o, items, n, k _ _ g, r⟩
  constructor
  · rintro i h h' ⟨k0, M, es, ep, t, S, m1, m2, m3⟩ kp
    have k1 : ∀ b o, s.heap.get? b = some o → h'.get? b = some o := fun b o q => kp b o (.inr ⟨o, q⟩) (k0 b o q)
    obtain ⟨o, g1, g2⟩ := S.obj
    exact ⟨k1, M, es, ep, t, ⟨⟨o, kp _ _ (.inl rfl) g1, g2⟩, S.ent, S.tok, S.uni, fun m hm => up k1 (List.mem_of_mem_take (m1 m hm)), S.led, S.rom, S.few⟩, m1, m2, m3⟩
  · rintro i v s' Q E' lt pv ⟨k0, M, es, ep, t, S, m1, m2, m3⟩ q
    have z : its.toList[i]? = some v := by
      rw [Array.getElem?_toList]
      exact pv
    rw [e, List.getElem?_map] at z
    obtain ⟨m, hm, rfl⟩ : ∃ m, ks[i]? = some m ∧ v = .ref m.1 := by
      cases y : ks[i]? with
      | none =>
        rw [y] at z
        cases z
      | some m =>
        rw [y] at z
        exact ⟨m, rfl, (Option.some.inj z).symm⟩
    have mm := List.mem_of_getElem? hm
    have il : i < ks.length := (List.getElem?_eq_some_iff.mp hm).1
    have hx := up k0 mm
    unfold setAdd
    refine wpAny_holding (wpAny_bind (wpAny_pyHash_tuple hu hx ?_))
    refine more (s := { s' with toks := s'.toks + (m.2.length + 1) }) tame_mix S hx hu (by omega) fun b h' M' es' ep' t' sb S' c1 c2 => ?_
    refine q h' _ (Nat.le_add_right _ _) sb ⟨fun b o g => (sb.2 b fun y => by rw [y, nw] at g; cases g).trans (k0 b o g), M', es', ep', t', S', ?_⟩
    rw [take_one hm]
    by_cases hin : m.2 ∈ M.map (·.2)
    · rw [c1 hin]
      refine ⟨fun n hn => List.mem_append_left _ (m1 n hn), fun n hn => ?_, by omega⟩
      rcases List.mem_append.mp hn with y | y
      · exact m2 n y
      · rw [List.mem_singleton.mp y]
        exact hin
    · have pm := c2 hin
      refine ⟨fun n hn => ?_, fun n hn => ?_, by rw [pm.length_eq, List.length_cons]; omega⟩
      · rcases List.mem_cons.mp (pm.mem_iff.mp hn) with y | y
        · rw [y]
          exact List.mem_append_right _ (List.mem_singleton.mpr rfl)
        · exact List.mem_append_left _ (m1 n y)
      · rw [(pm.map (·.2)).mem_iff, List.map_cons]
        rcases List.mem_append.mp hn with y | y
        · exact List.mem_cons_of_mem _ (m2 n y)
        · rw [List.mem_singleton.mp y]
          exact List.mem_cons_self
theorem fresh_tup {h : Heap} {a : Addr} (g : h.get? a = some (bare w)) : TSet (mixKind P w) h a [] #[] 0 (.fresh 0 0 (!w.params.followText "set-order")) where
  obj := ⟨_, g, ⟨rfl, rfl, rfl⟩, rfl⟩
  ent := rfl
  tok := ⟨List.Pairwise.nil, rfl, rfl, .inl rfl, (fun x hx => nomatch hx), (fun i h j hi => by simp at hi)⟩
  uni := List.nodup_nil
  mem := fun m hm => nomatch hm
  led := by
    show _ ∨ (!w.params.followText "set-order") = true
    cases w.params.followText "set-order"
    · exact .inr rfl
    · exact .inl rfl
  rom := by
    show 0 * 5 < 7 * 3
    decide
  few := by
    show 0 < 64
    decide
/-! ### texts -/
theorem fills_str {xs : List Str} {its : Array Value} (e : ∀ (i : Nat) v, its[i]? = some v → ∃ x t, xs[i]? = some x ∧ v = Value.str x t) (few : xs.length < 64) :
    Fills P w A s.heap.objs.size s.heap its.size (fun i v => its[i]? = some v) fun i h => (∀ b o, s.heap.get? b = some o → h.get? b = some o) ∧
      ∃ (Sf : Str → Bool) (l : List Str), h.SetOf (PySem.strKind P w) s.heap.objs.size Sf l.length ∧ (∀ k, Sf k = true ↔ k ∈ xs.take i) ∧ l.Nodup ∧ (∀ k, k ∈ l ↔ k ∈ xs.take i) ∧ l.length ≤ i := by
  have nw : s.heap.get? s.heap.objs.size = none := by
    cases z : s.heap.get? s.heap.objs.size with
    | none => rfl
    | some o => exact absurd (Heap.lt_size z) (Nat.lt_irrefl _)
  constructor
  · rintro i h h' ⟨k0, Sf, l, ⟨o, es, ep, t, g, r⟩, m⟩ kp
    exact ⟨fun b o q => kp b o (.inr ⟨o, q⟩) (k0 b o q), Sf, l, ⟨o, es, ep, t, kp _ _ (.inl rfl) g, r⟩, m⟩
  · rintro i v s' Q E' lt pv ⟨k0, Sf, l, S, m1, m2, m3, m4⟩ q
    obtain ⟨x, t, hx, rfl⟩ := e i v pv
    have il : i < xs.length := (List.getElem?_eq_some_iff.mp hx).1
    unfold setAdd
    refine wpAny_holding (wpAny_bind ((PySem.strKind P w).pyHash (k := x) (strKind_is _ _ _ _) ?_))
    refine wpAny_setAddHashed_of (knd := PySem.strKind P w) (s := { s' with toks := s'.toks + 1 }) (strKind_is _ _ _ _) rfl S (by unfold scanBound; omega) fun h' sb S' => ?_
    refine q h' _ (Nat.le_add_right _ _) sb ⟨fun b o g => (sb.2 b fun y => by rw [y, nw] at g; cases g).trans (k0 b o g), ?_⟩
    rw [take_one hx]
    have mem : ∀ k, (Sf k || decide (k = x)) = true ↔ k ∈ xs.take i ++ [x] := fun k => by
      rw [Bool.or_eq_true, decide_eq_true_eq, m1, List.mem_append, List.mem_singleton]
    by_cases hin : Sf x = true
    · rw [hin, if_pos rfl] at S'
      refine ⟨_, l, S', mem, m2, fun k => ?_, by omega⟩
      rw [m3, List.mem_append, List.mem_singleton]
      exact ⟨.inl, fun y => y.elim id fun y => by rw [y]; exact (m1 x).mp hin⟩
    · rw [if_neg hin] at S'
      have hn : x ∉ l := fun y => hin ((m1 x).mpr ((m3 x).mp y))
      refine ⟨_, x :: l, S', mem, List.nodup_cons.mpr ⟨hn, m2⟩, fun k => ?_, by rw [List.length_cons]; omega⟩
      rw [List.mem_cons, m3, List.mem_append, List.mem_singleton]
      exact ⟨fun y => y.elim .inr .inl, fun y => y.elim .inr .inl⟩
end
/-! ### len(set(e)) -/
section
variable {X : Cx}
def tLenSetD (K : PySem.W.Frag) (ta : TE) : TE := fun σ H Q => ta σ H fun x H1 => ∃ l : Addr, x = .ref l ∧
  ((∃ xs : List Str, (SqL K H1 l (xs.map V.str) ∨ SqT K H1 l (xs.map V.str)) ∧ xs.length < 64 ∧ ∀ n : Nat, n ≤ xs.length → (n = xs.length ↔ xs.Nodup) → Q (.int n) H1) ∨
  ∃ ks : List (Mem Key), (SqL K H1 l (ks.map fun m => V.ref m.1) ∨ SqT K H1 l (ks.map fun m => V.ref m.1)) ∧ (∀ m ∈ ks, SqT K H1 m.1 (m.2.map kV)) ∧ ks.length < 64 ∧
    ∀ n : Nat, n ≤ ks.length → (n = ks.length ↔ (ks.map (·.2)).Nodup) → Q (.int n) H1)
theorem its_keys {P : Program} {w : World} : ∀ {k : List Key} {us : List Value}, Vals (k.map kV) us → ItemsAre (mixKind P w) k us
  | [], _, .nil => .nil
  | .inl i :: ks, _, .cons r t => by
    obtain ⟨tk, rfl⟩ := r
    exact .cons (mixKind_int P w i tk) (its_keys t)
  | .inr x :: ks, _, .cons r t => by
    obtain ⟨tk, rfl⟩ := r
    exact .cons (mixKind_str P w x tk) (its_keys t)
theorem its_refs : ∀ {ks : List (Mem Key)} {us : List Value}, Vals (ks.map fun m => V.ref m.1) us → us = ks.map fun m => Value.ref m.1
  | [], _, .nil => rfl
  | m :: ks, _, .cons r t => by
    cases r
    rw [its_refs t]
    rfl
theorem its_strs {xs : List Str} {us : List Value} (r : Vals (xs.map V.str) us) (i : Nat) (v : Value) (h : us[i]? = some v) : ∃ x t, xs[i]? = some x ∧ v = Value.str x t := by
  induction xs generalizing us i with
  | nil =>
    cases r
    simp at h
  | cons y ys ih =>
    cases r with
    | cons r t =>
      obtain ⟨tk, rfl⟩ := r
      cases i with
      | zero =>
        simp at h
        exact ⟨y, tk, rfl, h.symm⟩
      | succ i => exact ih t i (by simpa using h)
theorem pe_lenSetD {a : Expr} {ta : TE} {p p2 q pos : Pos} (hc : X.calm = true) (hu : X.A.units + 3 < cLine) (hg : Gl X "len") (hm : X.mg "len" = none) (hg2 : Gl X "set") (hm2 : X.mg "set" = none) (ha : PE X a ta)
    (na : starEach [a] X.env = (false, eval a X.env) :: starEach [] X.env := by rfl) : PE X (.Call (.Name "len" p) [.Call (.Name "set" p2) [a] [] q] [] pos) (tLenSetD X.K ta) := by
  refine ⟨fun pins s σ H Q I h => ?_⟩
  refine Call_ (ld_blt I hg hm boot_len ?_)
  refine PyProof.Rows.callWith_builtin1 (PyProof.Rows.args_cons ?_ rfl) rfl rfl
  refine Call_ (ld_blt I hg2 hm2 boot_set ?_)
  refine PyProof.Rows.callWith_type1 (PyProof.Rows.args_cons (thn (ha.run pins s σ H _ I h) fun v s1 ⟨x, H1, I1, r1, q1⟩ => PyProof.Rows.args_nil ?_) na) na rfl
  obtain ⟨l, rfl, q1⟩ := q1
  cases r1
  have seq : ∀ {vs : List V}, (SqL X.K H1 l vs ∨ SqT X.K H1 l vs) → ∃ its : Array Value, Vals vs its.toList ∧ (s1.heap.IsList l its ∨ s1.heap.IsTuple l its) := fun {vs} hq => by
    rcases hq with hq | hq
    · obtain ⟨its, r, pl, _⟩ := I1.list hq
      exact ⟨its.toArray, by simpa using r, .inl pl.isList⟩
    · obtain ⟨its, r, pl, _⟩ := I1.tuple hq
      exact ⟨its.toArray, by simpa using r, .inr pl⟩
  have fin : ∀ (h' : Heap) (tk : Nat) (o : Obj) (es : Array (Int × Value)) (ep : Nat) (t : SetTable), h'.get? s1.heap.objs.size = some o → o.ExactSet → o.data = .set es ep t → t.fits es.size = true → (es.size : Int) < 2 ^ 63 →
      (∀ b o, s1.heap.get? b = some o → h'.get? b = some o) → Q (.int es.size) H1 →
      wpAny (model X.prog X.w) X.A (spliced (backTo pos (starEach [] X.env))) (fun vs s2 => wpAny (model X.prog X.w) X.A (call (.builtin "len") (Value.ref s1.heap.objs.size :: vs)) (EP X pins σ Q) X.xe s2) X.xe { s1 with heap := h', toks := tk } := fun h' tk o es ep t g1 g2 g3 g4 g5 kp qq => by
    have I2 : Inv X pins σ H1 { s1 with heap := h', toks := tk } := I1.kept fun b o e => kp b o e
    exact PyProof.Rows.args_nil (call_len_set g1 g2 g3 g4 g5 ⟨.int es.size, H1, I2.tok _, ⟨_, rfl⟩, qq⟩)
  rcases q1 with ⟨xs, hq, few, q1⟩ | ⟨ks, hq, hk, few, q1⟩
  · obtain ⟨its, r, hl⟩ := seq hq
    refine make (I1.ok.hd hc) hl (fills_str (xs := xs) (fun i v hv => its_strs r i v (by rw [Array.getElem?_toList]; exact hv)) few)
      (fun h g kp => ⟨kp, fun _ => false, [], ?_, fun k => by simp, List.nodup_nil, fun k => by simp, Nat.le_refl _⟩) fun h' tk ⟨_, Sf, ls, S, _, m2, m3, m4⟩ kp => ?_
    · exact SetOf_congr ((setObjOf_fresh (knd := PySem.strKind X.prog X.w) (!X.w.params.followText "set-order")).setOf g (by unfold scanBound; omega)) (fun _ => rfl) rfl
    · have n : its.size = xs.length := by
        have z := r.length
        rw [List.length_map, Array.length_toList] at z
        exact z.symm
      rw [n, List.take_length] at m3
      obtain ⟨a1, a2⟩ := as_many m2 (fun x hx => (m3 x).mp hx) fun x hx => (m3 x).mpr hx
      obtain ⟨o, es, ep, t, g1, g2, g3, _, _, _, g4, g5⟩ := S
      refine fin h' tk o es ep t g1 g2 g3 g4 (by rw [g5]; omega) kp ?_
      rw [g5]
      exact q1 _ a1 a2
  · obtain ⟨its, r, hl⟩ := seq hq
    have hx : ∀ m ∈ ks, IsTupleKey (mixKind X.prog X.w) s1.heap m.2 m.1 := fun m hm => by
      obtain ⟨us, ru, ⟨o, g1, g2, n, g3⟩, _⟩ := I1.tuple (hk m hm)
      exact ⟨o, _, n, g1, g2, g3, by simpa using its_keys ru⟩
    refine make (I1.ok.hd hc) hl (fills_tup (its_refs r) hx few hu) (fun h g kp => ⟨kp, [], #[], 0, _, fresh_tup g, (fun m hm => nomatch hm), (fun m hm => by simp at hm), Nat.le_refl _⟩) fun h' tk ⟨_, M, es, ep, t, S, m1, m2, m3⟩ kp => ?_
    have n : its.size = ks.length := by
      have z := r.length
      rw [List.length_map, Array.length_toList] at z
      exact z.symm
    rw [n, List.take_length] at m1 m2
    have zz : (M.map (·.2)).length ≤ (ks.map (·.2)).length ∧ ((M.map (·.2)).length = (ks.map (·.2)).length ↔ (ks.map (·.2)).Nodup) := as_many S.uni (fun x hx2 => by
        obtain ⟨m, hm, rfl⟩ := List.mem_map.mp hx2
        exact List.mem_map.mpr ⟨m, m1 m hm, rfl⟩) fun x hx2 => by
        obtain ⟨m, hm, rfl⟩ := List.mem_map.mp hx2
        exact m2 m hm
    rw [List.length_map, List.length_map] at zz
    obtain ⟨o, g1, g2, g3⟩ := S.obj
    have sz := ents_len S.ent
    refine fin h' tk o es ep t g1 g2 g3 (fits_of S.tok sz (by have := S.rom; omega)) (by rw [sz]; have := S.few; omega) kp ?_
    rw [sz]
    exact q1 _ zz.1 zz.2
end
end SG
namespace CC
open PySem L2 TL
/-! ### lines by their rules: the dict -/
def prs (rs : List R) (us : List V) : List (Key × V) := List.zipWith (fun (r : R) (v : V) => ((Sum.inr (lineS r) : Key), v)) rs us
theorem prs_get {K : PySem.W.Frag} {H : Hp} : ∀ {rs : List R} {us : List V}, (∀ r ∈ rs, r.ok 6) → DpAll K H us (rs.map R.d) → ∀ {r : R}, r ∈ rs → ∃ v, valV (prs rs us) (Sum.inr (lineS r)) = some v ∧ Dp K H v r.d
  | [], _, _, _, _, h => nomatch h
  | s :: rs, _, ho, .cons (v := v) (vs := vs) h1 h2, r, hr => by
    by_cases e : s = r
    · subst e
      exact ⟨v, valV_pos rfl, h1⟩
    · have ne : ¬ (Sum.inr (lineS s) : Key) = Sum.inr (lineS r) := fun z => e (line_inj (ho s List.mem_cons_self) (ho r hr) (Sum.inr.inj z))
      have hr' : r ∈ rs := by
        rcases List.mem_cons.mp hr with z | z
        · exact absurd z.symm e
        · exact z
      obtain ⟨u, u1, u2⟩ := prs_get (fun x hx => ho x (List.mem_cons_of_mem _ hx)) h2 hr'
      exact ⟨u, (valV_neg (p := (Sum.inr (lineS s), v)) ne).trans u1, u2⟩
theorem val_none {kvs : List (Key × V)} {k : Key} (h : ∀ p ∈ kvs, p.1 ≠ k) : valV kvs k = none := by
  induction kvs with
  | nil => rfl
  | cons p r ih => rw [valV_neg (h p List.mem_cons_self)]; exact ih fun q hq => h q (List.mem_cons_of_mem _ hq)
theorem prs_len {rs : List R} {us : List V} (h : us.length = rs.length) : (prs rs us).length = rs.length := by
  rw [prs, List.length_zipWith, h, Nat.min_self]
theorem prs_step {rs : List R} {us : List V} {i : Nat} {r : R} {v : V} (hr : rs[i]? = some r) (hv : us[i]? = some v) : (prs rs us).take (i + 1) = (prs rs us).take i ++ [(Sum.inr (lineS r), v)] := by
  rw [List.take_succ]
  have : (prs rs us)[i]? = some (Sum.inr (lineS r), v) := by
    rw [prs, List.getElem?_zipWith, hr, hv]
  rw [this]
  rfl
theorem prs_new {rs : List R} {us : List V} {i : Nat} {r : R} (ho : ∀ r ∈ rs, r.ok 6) (nd : rs.Nodup) (hr : rs[i]? = some r) : valV ((prs rs us).take i) (Sum.inr (lineS r)) = none := by
  refine val_none fun p hp e => ?_
  obtain ⟨j, hj⟩ := List.mem_iff_getElem?.mp hp
  have hji : j < i := by
    have := (List.getElem?_eq_some_iff.mp hj).1
    rw [List.length_take] at this
    omega
  rw [List.getElem?_take_of_lt hji, prs, List.getElem?_zipWith] at hj
  cases hs : rs[j]? with
  | none => rw [hs] at hj; cases us[j]? <;> cases hj
  | some s =>
    cases hu : us[j]? with
    | none => rw [hs, hu] at hj; cases hj
    | some u =>
      rw [hs, hu] at hj
      cases hj
      have e2 := line_inj (ho s (List.mem_of_getElem? hs)) (ho r (List.mem_of_getElem? hr)) (Sum.inr.inj e)
      subst e2
      exact absurd (nd_ix nd hs hr) (by omega)
theorem cut_last (xs : List V) (x : V) : cutV (xs ++ [x]) none (some (-1)) = xs := by
  unfold cutV
  have e : HT.sIx (xs ++ [x]).length (xs ++ [x]).length (some (-1)) = xs.length := by
    have := HT.clip_eq (-1) (xs ++ [x]).length (xs ++ [x]).length
    rw [if_pos (by decide)] at this
    have hl : (xs ++ [x]).length = xs.length + 1 := by simp
    omega
  rw [HT.sIx_none, e]
  simp
/-- a dict comprehension over a list -/
theorem dc_list {K : PySem.W.Frag} {a : Addr} {xs : List V} {g : TG} {tt : TT} {tk tv : TE} {vs : List Nat} {σ : L2.St} {H1 : Hp} {D : Addr} {N : Hp → Prop} (Pv : Nat → Hp → Prop) (h0 : Pv 0 (upd H1 D (.dK []))) (hl : ∀ i H, i ≤ xs.length → Pv i H → SqL K H a xs)
    (hs : ∀ i x H, xs[i]? = some x → Pv i H → g x (wipe σ vs) H fun τ H2 => wipe τ vs = wipe σ vs ∧ tt τ H2 fun b H3 => if b = true then tk τ H3 fun y H4 => tv τ H4 fun z H5 => ∃ kvs k, y = kV k ∧ H5 D = some (.dK kvs) ∧ kvs.length < sizeLine ∧ Pv (i + 1) (upd H5 D (.dK (putK kvs k z))) else Pv (i + 1) H3)
    (hd : ∀ H, Pv xs.length H → N H) :
    ∃ W : Nat → Nat → Hp → Prop, (∃ m, W 0 m (upd H1 D (.dK []))) ∧ ∀ i m H, W i m H → ((Itl K a).stop i H ∧ N H) ∨ ((Itl K a).go i H ∧ ∃ Nx : Hp → Prop, (∀ H', Nx H' → ∃ m', m' < m ∧ W (i + 1) m' H') ∧ ∀ x H', (Itl K a).yld i H x H' →
      g x (wipe σ vs) H' fun τ H2 => wipe τ vs = wipe σ vs ∧ tt τ H2 fun b H3 => if b = true then tk τ H3 fun y H4 => tv τ H4 fun z H5 => ∃ kvs k, y = kV k ∧ H5 D = some (.dK kvs) ∧ kvs.length < sizeLine ∧ Nx (upd H5 D (.dK (putK kvs k z))) else Nx H3) := by
  refine ⟨fun i m H => m = xs.length - i ∧ i ≤ xs.length ∧ Pv i H, ⟨xs.length, by simp, Nat.zero_le _, h0⟩, ?_⟩
  rintro i m H ⟨rfl, hi, p⟩
  have q := hl i H hi p
  by_cases lt : i < xs.length
  · refine .inr ⟨⟨xs, xs[i], q, by simp [lt]⟩, Pv (i + 1), fun H' p' => ⟨xs.length - (i + 1), by omega, rfl, lt, p'⟩, fun x H' y => ?_⟩
    obtain ⟨e, y⟩ := y
    subst e
    exact hs i x _ (y xs q) p
  · have e : i = xs.length := by omega
    subst e
    exact .inl ⟨⟨xs, q, Nat.le_refl _⟩, hd H p⟩
def spRulesOf (K : PySem.W.Frag) : Sp := fun vs H Q _ => ∃ (w : Nat) (rs : List R), vs = [.int (w : Int), .str (textS rs)] ∧ w ≤ 6 ∧ (∀ r ∈ rs, r.ok w) ∧ rs.Nodup ∧
  ∀ (p : Addr) (us : List V) (H' : Hp), Same H H' → H p = none → H' p = some (.lst us) → DpAll K (wo H' p) us (rs.map R.d) → Q (.ref p) H'
theorem few_rules {w : Nat} {rs : List R} (hw : w ≤ 6) (ho : ∀ r ∈ rs, r.ok w) (nd : rs.Nodup) : rs.length ≤ 60 := by
  have h := SG.sub_len nd fun r hr => mem_allR.mpr ((ho r hr).up hw)
  have e : (allR 6).length = 60 := by decide +kernel
  omega
section
variable {P : Program} {w : World} {K : PySem.W.Frag} {mg : Str → Option Value} {base : Heap} {kA : Addr}
abbrev nRO : List Str := ["width", "text", "known", "parts", "lines", "rule", "line"]
end
end CC
namespace CC
open PySem L2 TL
section
variable {X : Cx} {CX : CXT} {k i : Nat} {f C : Addr} {sp : Sp} {E : XK} {x : Str} {e : Expr} {es : List Expr} {t : TA} {p pos : Pos}
/-- c(e, *y), c a local that holds the class at C -/
theorem pe_makeLS (M : Mk X.K C f) (F : FnR X.prog X.w X.K X.mg X.base CX k f sp) (hr : Room (k + 1) X.A) (hN : X.N[i]? = some x) (hv : Vis X.env.scope x) (hx : Passes CX X E) (ha : PA X (e :: es) t) (hdb : (x == ("__debug__" : Str)) = false := by decide)
    (hcd : (x == ("__classdict__" : Str)) = false := by decide) (he : starEach (e :: es) X.env = (false, eval e X.env) :: starEach es X.env := by rfl) (hst : (backTo pos (starEach es X.env)).any (·.1) = true := by rfl) :
    PE X (.Call (.Name x p) (e :: es) [] pos) (fun σ H Q => σ[i]? = some (some (.ref C)) ∧ StX.tMakeR C sp E t σ H Q) := by
  refine ⟨fun pins s σ H Q I ⟨h1, h2⟩ => ?_⟩
  refine wpAny_Call_Name_kw (thn ((pe_var (pos := p) hN hv hdb hcd).run pins s σ H (fun v H1 => v = .ref C ∧ H1 = H) I ⟨.ref C, h1, rfl, rfl⟩) fun u s1 ⟨v, H1, I1, r1, q1⟩ => ?_)
  obtain ⟨rfl, rfl⟩ := q1
  cases r1
  refine PySem.W.callWith_S2 (h₀ := X.base) I.ok.mod.kin M.kp (thn (ha.run pos pins s1 σ _ _ I1 h2) fun us s2 ⟨vs, H2, I2, r, q⟩ => ⟨I2.kIn, ?_⟩) he hst
  exact StX.run_makeR M F hr hx I2 r q
end
theorem from_le {p : Nat → Prop} {l : Nat} (h : ∀ k, p (k + l)) : ∀ k, l ≤ k → p k := fun k hk => by
  have := h (k - l)
  rwa [Nat.sub_add_cancel hk] at this
end CC
namespace CC
open PySem L2 TL
/-! ### the object -/
def fl0 (w : Nat) : List (Str × V) := putF "span" (.int (w : Int)) []
def flds (w : Nat) (g : Addr) : List (Str × V) := putF "given" (.ref g) (fl0 w)
theorem sg : ¬ (("span" : Str) = "given") := by decide +kernel
theorem flds_eq (w : Nat) (g : Addr) : flds w g = ([("span", V.int (w : Int)), ("given", V.ref g)] : List (Str × V)) := by
  show (if ("span" : Str) = "given" then [(("span" : Str), V.ref g)] else (("span" : Str), V.int (w : Int)) :: putF "given" (V.ref g) []) = _
  rw [if_neg sg]
  rfl
theorem flds_span (w : Nat) (g : Addr) : (flds w g).lookup ("span" : Str) = some (.int (w : Int)) := by
  unfold flds fl0
  rw [lookup_putF, if_neg sg, lookup_putF, if_pos rfl]
theorem flds_given (w : Nat) (g : Addr) : (flds w g).lookup ("given" : Str) = some (.ref g) := by
  unfold flds
  rw [lookup_putF, if_pos rfl]
theorem flds_no (w : Nat) (g : Addr) {m : Str} (h1 : ¬ m = "given") (h2 : ¬ m = "span") : (flds w g).lookup m = none := by
  unfold flds fl0
  rw [lookup_putF, if_neg h1, lookup_putF, if_neg h2]
  rfl
/-- a list of rules stands at x -/
def RulesAt (K : PySem.W.Frag) (C : Addr) (H : Hp) (x : Addr) (w : Nat) (rs : List R) : Prop := ∃ dx g us, H x = some (.ins C dx (flds w g)) ∧ H g = some (.tup us) ∧ DpAll K H us (rs.map R.d)
theorem RulesAt.same {K : PySem.W.Frag} {C : Addr} {H H' : Hp} {x : Addr} {w : Nat} {rs : List R} (h : RulesAt K C H x w rs) (e : Same H H') : RulesAt K C H' x w rs := by
  obtain ⟨dx, g, us, h1, h2, h3⟩ := h
  exact ⟨dx, g, us, e _ _ h1, e _ _ h2, dps_same e _ _ h3⟩
/-- what is asked of the class as the top has made it -/
structure Txt1 (K : PySem.W.Frag) (mg : Str → Option Value) (C : Addr) : Prop where
  cl : Cls K C
  nS : NoAttr K C "span"
  nG : NoAttr K C "given"
  mgC : mg "Rules" = some (.ref C)
/-! ### keys -/
def R.key (r : R) : List Key := [.inr (kd r.k), .inl (r.a : Int), .inl (r.b : Int)]
theorem key_inj {r s : R} (h : r.key = s.key) : r = s := by
  obtain ⟨k, a, b⟩ := r
  obtain ⟨k', a', b'⟩ := s
  simp only [R.key, List.cons.injEq, Sum.inr.injEq, Sum.inl.injEq, and_true] at h
  obtain ⟨h1, h2, h3⟩ := h
  have e1 := kd_inj h1
  have e2 : a = a' := by omega
  have e3 : b = b' := by omega
  rw [e1, e2, e3]
theorem keys_nodup {rs : List R} (h : rs.Nodup) : (rs.map R.key).Nodup := List.Pairwise.map _ (fun a b hab e => hab (key_inj e)) h
theorem dps_keys {K : PySem.W.Frag} {H : Hp} : ∀ {rs : List R} {us : List V}, DpAll K H us (rs.map R.d) → ∃ ks : List (SG.Mem Key), us = ks.map (fun m => V.ref m.1) ∧ ks.map (·.2) = rs.map R.key ∧ ∀ m ∈ ks, SqT K H m.1 (m.2.map kV)
  | [], _, h => by
    cases h
    exact ⟨[], rfl, rfl, fun m hm => nomatch hm⟩
  | r :: rs, _, h => by
    cases h with
    | cons h1 h2 =>
      obtain ⟨p, rfl, hp⟩ := dp_r h1
      obtain ⟨ks, e1, e2, e3⟩ := dps_keys h2
      refine ⟨(p, r.key) :: ks, by rw [e1]; rfl, by rw [List.map_cons, e2]; rfl, fun m hm => ?_⟩
      rcases List.mem_cons.mp hm with z | z
      · rw [z]
        exact hp
      · exact e3 m z
def spInit (K : PySem.W.Frag) (C : Addr) : Sp := fun vs H Q _ => ∃ (x dx : Addr) (w : Nat) (p : Addr) (us : List V) (rs : List R), vs = [.ref x, .int (w : Int), .ref p] ∧ H x = some (.ins C dx []) ∧ 1 ≤ w ∧ w ≤ 6 ∧ H p = some (.tup us) ∧ DpAll K (wo H x) us (rs.map R.d) ∧
  (∀ r ∈ rs, r.ok w) ∧ rs.Nodup ∧ ∀ H', (∀ b o, H b = some o → b ≠ x → H' b = some o) → H' x = some (.ins C dx (flds w p)) → Q .non H'
def spInitR (K : PySem.W.Frag) (C : Addr) : Sp := fun vs H Q E => ∃ ws rest, vs = ws ++ rest ∧ ws.length = 2 ∧ rest.length ≤ sizeLine ∧ ∀ p, H p = Option.none → spInit K C (ws ++ [V.ref p]) (upd H p (.tup rest)) Q E
def spRead (K : PySem.W.Frag) (C : Addr) : Sp := fun vs H Q _ => ∃ (w : Nat) (rs : List R), vs = [.ref C, .int (w : Int), .str (textS rs)] ∧ 1 ≤ w ∧ w ≤ 6 ∧ (∀ r ∈ rs, r.ok w) ∧ rs.Nodup ∧ ∀ (x : Addr) (H' : Hp), Same H H' → H x = none → RulesAt K C H' x w rs → Q (.ref x) H'
/-- C(width, *rules), C.read(width, text) -/
structure MakeR (P : Program) (w : World) (K : PySem.W.Frag) (mg : Str → Option Value) (base : Heap) (C : Addr) (l : Nat) where
  fN : Addr
  M : Mk K C fN
  ok : ∀ k, l ≤ k → FnR P w K mg base CX0 k fN (spInitR K C)
structure ReadR (P : Program) (w : World) (K : PySem.W.Frag) (mg : Str → Option Value) (base : Heap) (C : Addr) (l : Nat) where
  mc : Value
  pD : Addr
  fD : Addr
  rD : ClX.CRead K C mc
  cD : ClX.CMet K C mc "read" pD fD
  ok : ∀ k, l ≤ k → FnR P w K mg base CX0 k fD (spRead K C)
section
variable {P : Program} {w : World} {K : PySem.W.Frag} {mg : Str → Option Value} {base : Heap} {kA : Addr}
abbrev nIn : List Str := ["self", "width", "rules", "rule"]
abbrev nRd : List Str := ["cls", "width", "text", "found"]
end
end CC
/-! ### the texts of rows -/
namespace CC
open PySem L2 TL
def rowS (row : List Nat) : Str := Txt.join " " (row.map num)
def textT (rows : List (List Nat)) : Str := Txt.join "" (rows.map fun r => rowS r ++ "\n")
/-- a row for a width -/
def RowOk (w : Nat) (row : List Nat) : Prop := row.length = w ∧ ∀ v ∈ row, v ≤ 9999
theorem tl_n (n : Nat) : tl (num n) = numL n := tl_num n
theorem joinL_flat (l : List (List Nat)) : joinL (tl ("" : Str)) l = l.flatten := by
  rw [show tl ("" : Str) = [] by decide +kernel]
  induction l with
  | nil => rfl
  | cons x l ih =>
    cases l with
    | nil => simp [joinL]
    | cons y l =>
      show x ++ ([] ++ joinL [] (y :: l)) = _
      rw [ih, List.nil_append]
      simp
theorem joinL_in {sep : List Nat} {c : Nat} : ∀ {l : List (List Nat)}, c ∈ joinL sep l → c ∈ sep ∨ ∃ p ∈ l, c ∈ p
  | [], h => by simp [joinL] at h
  | [x], h => by
    simp [joinL] at h
    exact .inr ⟨x, by simp, h⟩
  | x :: y :: l, h => by
    have h' : c ∈ x ++ (sep ++ joinL sep (y :: l)) := h
    rcases List.mem_append.mp h' with z | z
    · exact .inr ⟨x, by simp, z⟩
    · rcases List.mem_append.mp z with z | z
      · exact .inl z
      · rcases joinL_in z with q | ⟨p, hp, hc⟩
        · exact .inl q
        · exact .inr ⟨p, List.mem_cons_of_mem _ hp, hc⟩
theorem joinL_le {sep : List Nat} {k : Nat} : ∀ {l : List (List Nat)}, (∀ p ∈ l, p.length ≤ k) → (joinL sep l).length ≤ l.length * (k + sep.length)
  | [], _ => by simp [joinL]
  | [x], h => by
    have := h x (by simp)
    simp [joinL]
    omega
  | x :: y :: l, h => by
    have h1 := h x (by simp)
    have h2 := joinL_le (sep := sep) (l := y :: l) fun p hp => h p (List.mem_cons_of_mem _ hp)
    show (x ++ (sep ++ joinL sep (y :: l))).length ≤ _
    rw [List.length_append, List.length_append, List.length_cons (a := x), Nat.succ_mul]
    omega
theorem row_free {row : List Nat} : 10 ∉ tl (rowS row) := fun h => by
  unfold rowS at h
  rw [join_eq, tl_join] at h
  rcases joinL_in h with z | ⟨p, hp, z⟩
  · rw [show tl (" " : Str) = [32] by decide +kernel] at z
    simp at z
  · obtain ⟨q, hq, rfl⟩ := List.mem_map.mp hp
    obtain ⟨n, _, rfl⟩ := List.mem_map.mp hq
    rw [tl_n] at z
    exact numL_free (.inl (by decide)) z
theorem num_len {n : Nat} (h : n ≤ 9999) : (num n).length ≤ 4 := by
  rw [len_tl, tl_n]
  exact numL_len (by decide) (by omega)
theorem rowS_len {w : Nat} {row : List Nat} (h : RowOk w row) (hw : w ≤ 6) : (rowS row).length ≤ 30 := by
  rw [len_tl]
  unfold rowS
  rw [join_eq, tl_join]
  refine Nat.le_trans (joinL_le (k := 4) fun p hp => ?_) ?_
  · obtain ⟨q, hq, rfl⟩ := List.mem_map.mp hp
    obtain ⟨n, hn, rfl⟩ := List.mem_map.mp hq
    rw [← len_tl]
    exact num_len (h.2 n hn)
  · rw [List.length_map, List.length_map, h.1, show tl (" " : Str) = [32] by decide +kernel]
    show w * 5 ≤ 30
    omega
theorem split_row {row : List Nat} (h : row ≠ []) : Txt.split (rowS row) " " = row.map num := by
  refine split_join (s := 32) (S := []) (by decide +kernel) (by decide +kernel) (fun e => h (List.map_eq_nil_iff.mp e)) fun p hp => ?_
  obtain ⟨n, _, rfl⟩ := List.mem_map.mp hp
  rw [tl_n]
  exact numL_free (.inl (by decide))
theorem tl_lines (L : List Str) : tl (Txt.join "" (L.map fun l => l ++ "\n")) = (L.map fun l => tl l ++ [10]).flatten := by
  rw [join_eq, tl_join, joinL_flat, List.map_map]
  congr 1
  refine List.map_congr_left fun l _ => ?_
  show tl (l ++ "\n") = _
  rw [tl_app, show tl ("\n" : Str) = [10] by decide +kernel]
theorem split_lines {L : List Str} (h : ∀ l ∈ L, 10 ∉ tl l) : Txt.split (Txt.join "" (L.map fun l => l ++ "\n")) "\n" = L ++ [Str.empty] := by
  have e : Txt.join "" (L.map fun l => l ++ "\n") = Txt.join "\n" (L ++ [Str.empty]) := by
    refine ext_tl ?_
    show tl _ = tl _
    rw [tl_lines, join_eq, tl_join, show tl ("\n" : Str) = [10] by decide +kernel]
    clear h
    induction L with
    | nil => decide +kernel
    | cons r L ih =>
      rw [List.map_cons, List.flatten_cons, ih]
      cases L with
      | nil =>
        show tl r ++ [10] ++ tl Str.empty = tl r ++ ([10] ++ tl Str.empty)
        rw [List.append_assoc]
      | cons s L =>
        show tl r ++ [10] ++ _ = tl r ++ ([10] ++ _)
        rw [List.append_assoc]
        rfl
  rw [e]
  refine split_join (s := 10) (S := []) (by decide +kernel) (by decide +kernel) (by simp) fun p hp => ?_
  rcases List.mem_append.mp hp with z | z
  · exact h p z
  · rw [List.mem_singleton.mp z]
    decide +kernel
theorem textT_eq (rows : List (List Nat)) : textT rows = Txt.join "" ((rows.map rowS).map fun l => l ++ "\n") := by
  unfold textT
  rw [List.map_map]
  rfl
theorem split_textT (rows : List (List Nat)) : Txt.split (textT rows) "\n" = rows.map rowS ++ [Str.empty] := by
  rw [textT_eq]
  refine split_lines fun l hl => ?_
  obtain ⟨r, _, rfl⟩ := List.mem_map.mp hl
  exact row_free
theorem textT_len {w : Nat} {rows : List (List Nat)} (h : ∀ r ∈ rows, RowOk w r) (hw : w ≤ 6) : (textT rows).length ≤ 31 * rows.length := by
  rw [len_tl, textT_eq, tl_lines, List.map_map]
  induction rows with
  | nil => simp
  | cons r rows ih =>
    have h1 := rowS_len (h r List.mem_cons_self) hw
    rw [len_tl] at h1
    have h3 := ih fun s hs => h s (List.mem_cons_of_mem _ hs)
    rw [List.map_cons, List.flatten_cons, List.length_append, List.length_cons]
    show (tl (rowS r) ++ [10]).length + _ ≤ _
    rw [List.length_append, List.length_singleton]
    omega
theorem dig_ok : ∀ c : Fin 58, 48 ≤ c.1 → Unicode.isDigit c.1 = true := by decide +kernel
theorem num_digit (n : Nat) : Txt.isdigit (num n) = true := by
  unfold Txt.isdigit
  rw [Bool.and_eq_true]
  refine ⟨decide_eq_true ?_, ?_⟩
  · rw [len_tl, tl_n]
    exact List.length_pos_iff.mpr (numL_ne n)
  · rw [Array.all_eq_true_iff_forall_mem]
    intro c hc
    have m : c ∈ numL n := by
      rw [← tl_n]
      exact Array.mem_def.mp hc
    have := numL_digits n c m
    exact dig_ok ⟨c, by omega⟩ this.1
theorem num_ascii (n : Nat) : Txt.isascii (num n) = true := by
  unfold Txt.isascii
  rw [Array.all_eq_true_iff_forall_mem]
  intro c hc
  have m : c ∈ numL n := by
    rw [← tl_n]
    exact Array.mem_def.mp hc
  have := numL_digits n c m
  exact decide_eq_true (by omega)
theorem num_int {n : Nat} (h : n ≤ 9999) : intText? (num n) = some (n : Int) := int_num (Nat.le_trans (numL_len (k := 4) (by decide) (by omega)) (by decide))
theorem small10k {n : Nat} (h : n ≤ 9999) : (n : Int).natAbs.log2 < 1920 := by
  rw [Int.natAbs_natCast]
  have : n.log2 ≤ n := Nat.log2_le_self n
  by_cases e : n = 0
  · subst e
    decide
  · have := (Nat.log2_lt e (k := 14)).mpr (by omega)
    omega
end CC
namespace CC
open PySem L2
/-! ### a list of things of one shape that is being made at D -/
section
variable {α : Type} {f : α → PyData} {K : PySem.W.Frag} {H0 H H' : Hp} {D : Addr} {n m : Nat} {rs rs' : List α}
def MadeF (f : α → PyData) (K : PySem.W.Frag) (H0 : Hp) (D : Addr) (n : Nat) (H : Hp) (rs : List α) : Prop := ∃ us, Same (wo H0 D) (wo H D) ∧ H D = some (.lst us) ∧ DpAll K (wo H D) us (rs.map f) ∧ us.length ≤ n
theorem MadeF.start : MadeF f K H0 D 0 (upd H0 D (.lst [])) [] := by
  refine ⟨[], ?_, upd_same, .nil, Nat.le_refl _⟩
  rw [wo_upd]
  exact Same.refl _
theorem MadeF.up (p : MadeF f K H0 D n H rs) (h : n ≤ m) (e : rs = rs') : MadeF f K H0 D m H rs' := by
  obtain ⟨us, p1, p2, p3, p4⟩ := p
  subst e
  exact ⟨us, p1, p2, p3, Nat.le_trans p4 h⟩
theorem MadeF.push {r : α} {y : V} (p : MadeF f K H0 D n H rs) (h9 : n < 100000) (hm : n < m) (q3 : Same H H') (q1 : Dp K (wo H' D) y (f r)) :
    ∃ acc, H' D = some (.lst acc) ∧ acc.length < sizeLine ∧ MadeF f K H0 D m (upd H' D (.lst (acc ++ [y]))) (rs ++ [r]) := by
  obtain ⟨us, p1, p2, p3, p4⟩ := p
  refine ⟨us, q3 _ _ p2, Nat.lt_of_le_of_lt p4 (Nat.lt_of_lt_of_le h9 (by decide)), us ++ [y], ?_, upd_same, ?_, ?_⟩
  · rw [wo_upd]
    exact p1.trans (wo_same q3)
  · rw [wo_upd, List.map_append]
    exact dps_app (dps_same (wo_same q3) _ _ p3) (dps_one q1)
  · rw [List.length_append]
    exact Nat.le_trans (Nat.succ_le_succ p4) hm
theorem MadeF.keep (p : MadeF f K H0 D n H rs) (q3 : Same H H') (h : n ≤ m) (e : rs = rs') : MadeF f K H0 D m H' rs' := by
  obtain ⟨us, p1, p2, p3, p4⟩ := p
  subst e
  exact ⟨us, p1.trans (wo_same q3), q3 _ _ p2, dps_same (wo_same q3) _ _ p3, Nat.le_trans p4 h⟩
theorem MadeF.old (p : MadeF f K H0 D n H rs) (h : H0 D = none) : Same H0 H := fun b o e => by
  obtain ⟨us, p1, _⟩ := p
  exact wo_le D _ _ (p1 b o (by rw [wo_ne (ne_of_none e h)]; exact e))
theorem MadeF.tup {t : Addr} {xs : List V} (p : MadeF f K H0 D n H rs) (nt : H t = none) : SqT K (wo (upd H t (.tup xs)) D) t xs := by
  obtain ⟨us, _, p2, _⟩ := p
  exact tup_new p2 nt
theorem free_back (e : Same H H') {a : Addr} (h : H' a = none) : H a = none := e.free h
end
/-- what a def that hands back a new list of such things promises -/
def NewF {α : Type} (f : α → PyData) (K : PySem.W.Frag) (H : Hp) (rs : List α) (Q : VK) : Prop := ∀ (p : Addr) (us : List V) (H' : Hp), Same H H' → H p = none → H' p = some (.lst us) → DpAll K (wo H' p) us (rs.map f) → Q (.ref p) H'
theorem MadeF.out {α : Type} {f : α → PyData} {K : PySem.W.Frag} {H H0 H' : Hp} {D : Addr} {n : Nat} {rs : List α} {Q : VK} (p : MadeF f K H0 D n H' rs) (h : H0 D = none) (s : Same H H0) (q : NewF f K H rs Q) : Q (.ref D) H' := by
  have o := p.old h
  obtain ⟨us, p1, p2, p3, p4⟩ := p
  exact q D us H' (s.trans o) (s.free h) p2 p3
abbrev g3 (K : PySem.W.Frag) (i j k : Nat) : TG := gTup K 3 (gCons (gName i) (gCons (gName j) (gCons (gName k) gNil)))
abbrev g2 (K : PySem.W.Frag) (i j : Nat) : TG := gTup K 2 (gCons (gName i) (gCons (gName j) gNil))
end CC
namespace CC
open PySem L2
/-! ### where pairs lead -/
inductive Rch (ps : List (Nat × Nat)) (a : Nat) : Nat → Prop
  | refl : Rch ps a a
  | step {b c : Nat} : Rch ps a b → (b, c) ∈ ps → Rch ps a c
theorem Rch.trans {ps : List (Nat × Nat)} {a b c : Nat} (h1 : Rch ps a b) (h2 : Rch ps b c) : Rch ps a c := by
  induction h2 with
  | refl => exact h1
  | step _ h ih => exact ih.step h
theorem Rch.mono {ps qs : List (Nat × Nat)} (h : ∀ x ∈ ps, x ∈ qs) {a b : Nat} (r : Rch ps a b) : Rch qs a b := by
  induction r with
  | refl => exact .refl
  | step _ q ih => exact ih.step (h _ q)
theorem Rch.lt {ps : List (Nat × Nat)} {w a b : Nat} (h : ∀ x ∈ ps, x.1 < w ∧ x.2 < w) (ha : a < w) (r : Rch ps a b) : b < w := by
  cases r with
  | refl => exact ha
  | step _ q => exact (h _ q).2
/-- a set that is closed under the pairs holds all that is reached -/
theorem Rch.within {ps : List (Nat × Nat)} {a b : Nat} {S : Nat → Prop} (ha : S a) (hc : ∀ x y, S x → (x, y) ∈ ps → S y) (r : Rch ps a b) : S b := by
  induction r with
  | refl => exact ha
  | step _ q ih => exact hc _ _ ih q
def nms (ns : List Nat) : List V := ns.map fun (n : Nat) => V.int (n : Int)
theorem nms_len (ns : List Nat) : (nms ns).length = ns.length := List.length_map _
theorem nms_app (ns ms : List Nat) : nms (ns ++ ms) = nms ns ++ nms ms := List.map_append
theorem nms_flat (ns : List Nat) : (nms ns).all flatV = true := by
  rw [List.all_eq_true]
  intro v hv
  obtain ⟨n, _, rfl⟩ := List.mem_map.mp hv
  rfl
theorem nms_in (ns : List Nat) (n : Nat) : inV (.int (n : Int)) (nms ns) = decide (n ∈ ns) := by
  induction ns with
  | nil => simp [inV, nms]
  | cons m ns ih =>
    have e : inV (.int (n : Int)) (nms (m :: ns)) = (((m : Int) == (n : Int)) || inV (.int (n : Int)) (nms ns)) := rfl
    rw [e, ih]
    by_cases h : m = n
    · subst h
      simp
    · have h2 : ¬ n = m := fun z => h z.symm
      have h3 : ((m : Int) == (n : Int)) = false := by
        rw [beq_eq_false_iff_ne]
        omega
      rw [h3]
      simp [h2]
theorem few6 {fs : List Nat} (nd : fs.Nodup) (h : ∀ x ∈ fs, x < 6) : fs.length ≤ 6 := by
  have := SG.sub_len (r := List.range 6) nd fun x hx => List.mem_range.mpr (h x hx)
  rw [List.length_range] at this
  exact this
end CC
namespace CC
open PySem L2 TL
abbrev sIsRow : Stmt := tp 9
abbrev sIsNum : Stmt := tp 23
structure GlbT (mg : Str → Option Value) : Prop where
  lv : ∃ t, mg "LARGEST_VALUE" = some (.int 9999 t)
  mr : ∃ t, mg "MOST_ROWS" = some (.int 400 t)
def spIsRow (K : PySem.W.Frag) : Sp := fun vs H Q _ => ∃ (w : Nat) (t : Addr) (row : List Nat), vs = [.int (w : Int), .ref t] ∧ SqT K H t (nms row) ∧ RowOk w row ∧ w ≤ 6 ∧ ∀ H', Same H H' → Q (.bl true) H'
def spIsNum : Sp := fun vs H Q _ => ∃ n : Nat, vs = [.str (num n)] ∧ n ≤ 9999 ∧ Q (.bl true) H
theorem all_true (m : Nat) : (List.replicate m true).all id = true := by
  rw [List.all_eq_true]
  intro b hb
  rw [List.eq_of_mem_replicate hb]
  rfl
theorem nms_get? {ns : List Nat} {i : Nat} {x : V} (h : (nms ns)[i]? = some x) : ∃ m, ns[i]? = some m ∧ x = .int (m : Int) := by
  rw [nms, List.getElem?_map] at h
  cases z : ns[i]? with
  | none =>
    rw [z] at h
    cases h
  | some m =>
    rw [z] at h
    exact ⟨m, rfl, (Option.some.inj h).symm⟩
section
variable {P : Program} {w : World} {K : PySem.W.Frag} {mg : Str → Option Value} {base : Heap} {kA : Addr}
abbrev nIRow : List Str := ["width", "thing", "part"]
theorem scIsRow : FnScope nIRow ["width", "thing"] (defScope sIsRow) := ⟨rfl, rfl, rfl, by decide +kernel, rfl, by decide +kernel, by decide +kernel⟩
theorem ok_isrow {f : Addr} {fd : FuncData} {k : Nat} (F : Fun K "is_row" "is_row" sIsRow f fd) (T : Glb K mg kA) (TT : GlbT mg) (cI : Cal P w K mg base "is_an_integer" ["thing"] spIsInt 1) : FnOk P w K mg base CX0 (k + 2) f fd ["width", "thing"] (spIsRow K) := by
  have GI := cI.ok (k + 1) (by omega)
  refine F.ok scIsRow (fun vs H Q E h => ?_) (fun cdv A outer s H vs Q E hr h => ?_)
  · obtain ⟨w, t, row, rfl, _⟩ := h
    rfl
  · obtain ⟨w, t, row, rfl, ht, ⟨rl, rv⟩, w6, q⟩ := h
    obtain ⟨tl, hlv⟩ := TT.lv
    have n := scIsRow.nd
    refine ⟨_, (pss_cons (ps_if (PW.pt (pw_or (pt_not (pt_val (pe_callB call_isi (by rfl) T.isi (by decide +kernel) (pa_cons (pv 1) (pa_cons (pe_bltn (v := .ty "tuple") (by rfl) T.tup (by decide +kernel) rfl) pa_nil))))) (pw_or1 (pt_cmpR op_ne (pe_callB call_len_seq (by rfl) T.len PySem.boot_len (pa_cons (pv 1) pa_nil)) (pv 0) (nomark _))))) (pss_one (ps_ret pe_bl)) pss_nil)
      (pss_one (ps_ret (pe_callB (cr_all rfl) (by rfl) T.all (by decide +kernel) (pa_cons (pe_lc (own := [("part", 2)]) (g := gName 2) (tt := tYes) rfl n (pi_tup (pv 1)) (blkOk_by (N := nIRow) (sc := defScope sIsRow) (by decide +kernel))
        (fun _ _ _ _ _ => (pg_name (i := 2) n rfl (.inl rfl))) (fun _ _ _ _ _ => pts_nil) (fun _ _ _ _ _ => (pe_and (pe_call GI hr rfl cI.g cI.kp cI.b .nil pass0 (pa_cons (pv 2) pa_nil)) (pe_one (pe_chain op_le op_le pe_int (pv 2) (pe_glob (v := .int 9999) rfl hlv ⟨_, rfl⟩)))))) pa_nil))))), ?_⟩
    refine ⟨_, rfl, _, _, _, _, true, rfl, .ty _, ty_tup ht, kit_ty (by decide +kernel), _, rfl, iteF ?_⟩
    refine ⟨_, rfl, t, _, rfl, .inr ht, _, rfl, rfl, _, rfl, ?_⟩
    have e0 : (!decide (V.int (((nms row).length : Nat) : Int) = V.int (w : Int))) = false := by
      rw [nms_len, rl]
      simp
    rw [e0]
    refine iteF ?_
    refine ⟨_, rfl, t, rfl, ⟨_, ht⟩, fun D nD => ?_⟩
    refine lc_tup (xs := nms row) (fun i H1 => Same H (wo H1 D) ∧ H1 D = some (.lst ((List.replicate i true).map V.bl)) ∧ i ≤ 6) ⟨?_, upd_same, by omega⟩ (fun i H1 _ z => same_t (z.1.trans (wo_le D)) ht) ?_ ?_
    · rw [wo_upd]
      exact fun b o e => by rw [wo_ne (ne_of_none e nD)]; exact e
    · rintro i v H1 hv ⟨e1, e2, e3⟩
      obtain ⟨y, hy, rfl⟩ := nms_get? hv
      have il := (List.getElem?_eq_some_iff.mp hy).1
      have yv := rv y (List.mem_of_getElem? hy)
      have c1 : decide ((0 : Int) ≤ (y : Int)) = true := decide_eq_true (by omega)
      have c2 : decide ((y : Int) ≤ (9999 : Int)) = true := decide_eq_true (by omega)
      refine ⟨rfl, yes_if ⟨_, rfl, _, rfl, _, rfl, iteT ⟨_, rfl, _, _, rfl, rfl, _, rfl, ?_⟩⟩⟩
      rw [c1]
      refine iteT ⟨_, _, rfl, rfl, ?_⟩
      dsimp only
      rw [c2]
      refine ⟨_, e2, small1000 (by simp; omega), ?_, ?_, by omega⟩
      · rw [wo_upd]
        exact e1
      · rw [upd_same, List.replicate_succ', List.map_append]
        rfl
    rintro H1 ⟨e1, e2, _⟩
    refine ⟨D, _, rfl, SqL.of e2, ?_⟩
    rw [all_true]
    exact q H1 (e1.trans (wo_le D))
theorem scIsNum : FnScope ["word"] ["word"] (defScope sIsNum) := ⟨rfl, rfl, rfl, by decide +kernel, rfl, by decide +kernel, by decide +kernel⟩
theorem ok_isnum {f : Addr} {fd : FuncData} {k : Nat} (F : Fun K "is_numeral" "is_numeral" sIsNum f fd) (T : Glb K mg kA) (TT : GlbT mg) : FnOk P w K mg base CX0 (k + 1) f fd ["word"] spIsNum := by
  refine F.ok scIsNum (fun vs H Q E h => ?_) (fun cdv A outer s H vs Q E hr h => ?_)
  · obtain ⟨m, rfl, _⟩ := h
    rfl
  · obtain ⟨m, rfl, hm, q⟩ := h
    obtain ⟨tl, hlv⟩ := TT.lv
    refine ⟨_, (pss_cons (ps_if (PW.pt (pw_or (pt_cmpR op_gt (pe_callB call_len_str (by rfl) T.len PySem.boot_len (pa_cons (pv 0) pa_nil)) (pe_callB call_len_str (by rfl) T.len PySem.boot_len (pa_cons (pe_callTy call_str_int (by rfl) T.str (by decide +kernel) (pa_cons (pe_glob (v := .int 9999) rfl hlv ⟨_, rfl⟩) pa_nil)) pa_nil)) (nomark _))
        (pw_or (pt_not (pt_val (pe_m0 PySem.F.slot_str_isascii PySem.F.type_str_isascii mt_isascii (pv 0)))) (pw_or1 (pt_not (pt_val (pe_m0 PySem.F.slot_str_isdigit PySem.F.type_str_isdigit mt_isdigit (pv 0)))))))) (pss_one (ps_ret pe_bl)) pss_nil)
      (pss_one (ps_ret (pe_cmpR op_eq (pe_callTy call_str_int (by rfl) T.str (by decide +kernel) (pa_cons (pe_callTy call_int_str (by rfl) T.int (by decide +kernel) (pa_cons (pv 0) pa_nil)) pa_nil)) (pv 0) (nomark _))))), ?_⟩
    have ln := num_len hm
    have l4 : (Str.ofString (toString (9999 : Int))).length = 4 := by decide +kernel
    have big : ∀ {a : Nat}, a ≤ 4 → a ≤ sizeLine := fun h => Nat.le_trans h (by decide)
    refine ⟨_, rfl, _, rfl, big ln, _, rfl, (by decide +kernel), _, rfl, big (Nat.le_of_eq l4), _, _, rfl, rfl, _, rfl, ?_⟩
    have g1 : decide ((((num m).length : Nat) : Int) > (((Str.ofString (toString (9999 : Int))).length : Nat) : Int)) = false := decide_eq_false (by rw [l4]; omega)
    rw [g1]
    refine iteF ⟨_, rfl, ⟨_, rfl⟩, _, rfl, rfl, trivial, _, rfl, ?_⟩
    rw [num_ascii]
    refine iteF ⟨_, rfl, ⟨_, rfl⟩, _, rfl, rfl, trivial, _, rfl, ?_⟩
    rw [num_digit]
    refine iteF ?_
    refine ⟨_, rfl, _, _, rfl, num_int hm, Nat.le_trans ln (by decide), _, rfl, small10k hm, _, rfl, rfl, ?_⟩
    show Q (.bl (decide (V.str (num m) = V.str (num m)))) H
    rw [decide_eq_true rfl]
    exact q
end
end CC
namespace CC
open PySem L2 TL
/-- the source at s is one again, all else that stood still stands -/
structure Ran (H H' : Hp) (s : Addr) : Prop where
  same : Same (wo H s) (wo H' s)
  src : ∃ o, H' s = some o ∧ IsSrc o
theorem Ran.one {H : Hp} {s : Addr} {o : HO} (h : IsSrc o) : Ran H (upd H s o) s := ⟨by rw [wo_upd]; exact Same.refl _, o, upd_same, h⟩
theorem Ran.trans {H H1 H2 : Hp} {s : Addr} (a : Ran H H1 s) (b : Ran H1 H2 s) : Ran H H2 s := ⟨a.same.trans b.same, b.src⟩
theorem Ran.grow {H H1 H2 : Hp} {s : Addr} (a : Ran H H1 s) (b : Same H1 H2) : Ran H H2 s := by
  obtain ⟨o, h1, h2⟩ := a.src
  exact ⟨a.same.trans (wo_same b), o, b _ _ h1, h2⟩
theorem Ran.at_ {H H1 : Hp} {s b : Addr} {o : HO} (a : Ran H H1 s) (h : H b = some o) (n : b ≠ s) : H1 b = some o := wo_le s _ _ (a.same b o (by rw [wo_ne n]; exact h))
theorem Ran.free {H H1 : Hp} {s b : Addr} (a : Ran H H1 s) (h : H1 b = none) : H b = none := by
  by_cases e : b = s
  · obtain ⟨o, h1, _⟩ := a.src
    rw [e, h1] at h
    cases h
  · cases z : H b with
    | none => rfl
    | some o =>
      rw [a.at_ z e] at h
      cases h
theorem Ran.ne {H H1 : Hp} {s b : Addr} (a : Ran H H1 s) (h : H1 b = none) : b ≠ s := fun e => by
  obtain ⟨o, h1, _⟩ := a.src
  rw [e, h1] at h
  cases h
def Src (H : Hp) (s : Addr) : Prop := ∃ o, H s = some o ∧ IsSrc o
def spDraw2 : Sp := fun vs H Q _ => ∃ (s : Addr) (m : Nat), vs = [.ref s, .int (m : Int)] ∧ Src H s ∧ 0 < m ∧ m < 1000000 ∧ ∀ (r : Nat) (H' : Hp), r < m → Ran H H' s → Q (.int (r : Int)) H'
def spChoose (K : PySem.W.Frag) : Sp := fun vs H Q _ => ∃ (s : Addr) (v : V), vs = [.ref s, v] ∧ Src H s ∧
  ((∃ (a : Addr) (xs : List V), v = .ref a ∧ SqL K (wo H s) a xs ∧ 0 < xs.length ∧ xs.length < 1000 ∧ ∀ (i : Nat) (x : V) (H' : Hp), xs[i]? = some x → Ran H H' s → Q x H') ∨
  ∃ z : Str, v = .str z ∧ 0 < z.length ∧ z.length < 1000 ∧ ∀ (c : Nat) (H' : Hp), Ran H H' s → Q (.str ⟨#[c]⟩) H')
def spIsEq : Sp := fun vs H Q _ => ∃ b c : Bool, vs = [.bl b, .bl c] ∧ Q (.bl (b == c)) H
def spMixed (K : PySem.W.Frag) : Sp := fun vs H Q _ => ∃ (s : Addr) (m : Nat), vs = [.ref s, .int (m : Int)] ∧ Src H s ∧ m ≤ 900 ∧
  ∀ (p : Addr) (ns : List Nat) (H' : Hp), Ran H H' s → H p = none → p ≠ s → H' p = some (.lst (nms ns)) → ns.length = m → ns.Nodup → (∀ x ∈ ns, x < m) → Q (.ref p) H'
def spStep (K : PySem.W.Frag) : Sp := fun vs H Q _ => ∃ (s : Addr) (a b : Nat) (z : Str), vs = [.ref s, .int (a : Int), .int (b : Int), .str z] ∧ Src H s ∧ 0 < z.length ∧ z.length < 1000 ∧
  ∀ (t : Addr) (r : R) (H' : Hp), (r = ⟨true, a, b⟩ ∨ r = ⟨false, b, a⟩) → Ran H H' s → H t = none → t ≠ s → Dp K (wo H' s) (.ref t) r.d → Q (.ref t) H'
section
variable {X : Cx}
theorem call_repr_bl : CallR X (.builtin "repr") (fun xs H Q => ∃ b, xs = [.bl b] ∧ Q (.str (if b then "True" else "False")) H) := by
  intro pins s σ H xs us Q I r h
  obtain ⟨b, rfl, q⟩ := h
  obtain ⟨u, rfl, rfl⟩ := vals1 r
  exact PySem.P.repr_of_bool ⟨.str _, H, I.tok _, ⟨_, by cases b <;> rfl⟩, q⟩
end
theorem nms_at {ns : List Nat} {i : Nat} {x : V} (h : (nms ns)[i]? = some x) : ∃ m, ns[i]? = some m ∧ x = .int (m : Int) := by
  rw [nms, List.getElem?_map] at h
  cases z : ns[i]? with
  | none =>
    rw [z] at h
    cases h
  | some m =>
    rw [z] at h
    exact ⟨m, rfl, (Option.some.inj h).symm⟩
theorem int_ne (a b : Nat) : (!decide (V.int (a : Int) = V.int (b : Int))) = decide (a ≠ b) := by
  by_cases e : a = b
  · subst e
    simp
  · rw [decide_eq_false (fun z => e (by injection z with z; omega)), decide_eq_true e]
    rfl
end CC
namespace CC
open PySem L2
def spAll (K : PySem.W.Frag) : Sp := fun vs H Q _ => ∃ w : Nat, vs = [.int (w : Int)] ∧ w ≤ 6 ∧ NewF R.d K H (allR w) Q
theorem MadeF.extend {α : Type} {f : α → PyData} {K : PySem.W.Frag} {H0 H H' : Hp} {D : Addr} {n m : Nat} {rs rs2 : List α} {us zs : List V} (p : MadeF f K H0 D n H rs) (hD : H D = some (.lst us)) (q3 : Same H H') (q1 : DpAll K (wo H' D) zs (rs2.map f)) (hm : n + zs.length ≤ m) :
    MadeF f K H0 D m (upd H' D (.lst (us ++ zs))) (rs ++ rs2) := by
  obtain ⟨us', p1, p2, p3, p4⟩ := p
  rw [hD] at p2
  cases p2
  refine ⟨us ++ zs, ?_, upd_same, ?_, ?_⟩
  · rw [wo_upd]
    exact p1.trans (wo_same q3)
  · rw [wo_upd, List.map_append]
    exact dps_app (dps_same (wo_same q3) _ _ p3) q1
  · rw [List.length_append]
    omega
/-! tuples never change -/
structure SameT (H H' : Hp) : Prop where
  tup : ∀ b xs, H b = some (.tup xs) → H' b = some (.tup xs)
  frz : ∀ b o xs, H b = some (.frz o (.tup xs)) → H' b = some (.frz o (.tup xs))
theorem sqt_T {K : PySem.W.Frag} {H H' : Hp} {a : Addr} {xs : List V} (e : SameT H H') (h : SqT K H a xs) : SqT K H' a xs := by
  rcases h with (h | ⟨o, h⟩) | h
  · exact .inl (.inl (e.tup _ _ h))
  · exact .inl (.inr ⟨o, e.frz _ _ _ h⟩)
  · exact .inr h
theorem rd_T {K : PySem.W.Frag} {H H' : Hp} {v : V} {r : R} (e : SameT H H') (h : Dp K H v r.d) : Dp K H' v r.d := by
  obtain ⟨p, rfl, hp⟩ := dp_r h
  exact r_dp (sqt_T e hp)
theorem rds_T {K : PySem.W.Frag} {H H' : Hp} (e : SameT H H') : ∀ {rs : List R} {us : List V}, DpAll K H us (rs.map R.d) → DpAll K H' us (rs.map R.d)
  | [], _, h => by
    cases h
    exact .nil
  | r :: rs, _, h => by
    cases h with
    | cons h1 h2 => exact .cons (rd_T e h1) (rds_T e h2)
theorem prd_T {K : PySem.W.Frag} {H H' : Hp} {v : V} {r : Nat × Nat} (e : SameT H H') (h : Dp K H v (prd r)) : Dp K H' v (prd r) := by
  obtain ⟨p, rfl, hp⟩ := dp_p h
  exact p_dp (sqt_T e hp)
theorem prds_T {K : PySem.W.Frag} {H H' : Hp} (e : SameT H H') : ∀ {rs : List (Nat × Nat)} {us : List V}, DpAll K H us (rs.map prd) → DpAll K H' us (rs.map prd)
  | [], _, h => by
    cases h
    exact .nil
  | r :: rs, _, h => by
    cases h with
    | cons h1 h2 => exact .cons (prd_T e h1) (prds_T e h2)
theorem same_T {H H' : Hp} (e : Same H H') : SameT H H' := ⟨fun b xs h => e _ _ h, fun b o xs h => e _ _ h⟩
theorem SameT.trans {H H1 H2 : Hp} (a : SameT H H1) (b : SameT H1 H2) : SameT H H2 := ⟨fun c xs h => b.tup _ _ (a.tup _ _ h), fun c o xs h => b.frz _ _ _ (a.frz _ _ _ h)⟩
/-- a list that is left out, or changed, is no tuple -/
theorem wo_T {H : Hp} {l : Addr} {us : List V} (h : H l = some (.lst us)) : SameT H (wo H l) := by
  constructor
  · intro b xs e
    rw [wo_ne (ne_of e h (by intro z; cases z))]
    exact e
  · intro b o xs e
    rw [wo_ne (ne_of e h (by intro z; cases z))]
    exact e
theorem upd_T {H : Hp} {l : Addr} {us : List V} {o : HO} (h : H l = some (.lst us)) : SameT H (upd H l o) := by
  constructor
  · intro b xs e
    rw [upd_ne (ne_of e h (by intro z; cases z))]
    exact e
  · intro b o xs e
    rw [upd_ne (ne_of e h (by intro z; cases z))]
    exact e
theorem row_len (w a : Nat) (k : Bool) : (row w a k).length ≤ w := by
  unfold row
  rw [List.length_map]
  have := List.length_filter_le (fun b => decide (a ≠ b)) (List.range w)
  rw [List.length_range] at this
  exact this
end CC
namespace CC
open PySem L2 TL
def gd (m : List Nat) : PyData := .tuple (m.map fun (n : Nat) => PyData.int (n : Int))
theorem dps_nms {K : PySem.W.Frag} {H : Hp} : ∀ fs : List Nat, DpAll K H (nms fs) (fs.map fun (n : Nat) => PyData.int (n : Int))
  | [] => .nil
  | n :: fs => .cons (.int _) (dps_nms fs)
theorem nms_dps {K : PySem.W.Frag} {H : Hp} : ∀ {fs : List Nat} {us : List V}, DpAll K H us (fs.map fun (n : Nat) => PyData.int (n : Int)) → us = nms fs
  | [], _, h => by
    cases h
    rfl
  | n :: fs, _, h => by
    cases h with
    | cons h1 h2 =>
      rw [dp_int h1, nms_dps h2]
      rfl
theorem dp_gd {K : PySem.W.Frag} {H : Hp} {t : Addr} {m : List Nat} (h : SqT K H t (nms m)) : Dp K H (.ref t) (gd m) := .tup h (dps_nms m)
theorem gd_at {K : PySem.W.Frag} {H : Hp} {v : V} {m : List Nat} (h : Dp K H v (gd m)) : ∃ t, v = .ref t ∧ SqT K H t (nms m) := by
  obtain ⟨p, us, rfl, h1, h2⟩ := dp_t h
  rw [nms_dps h2] at h1
  exact ⟨p, rfl, h1⟩
theorem gd_T {K : PySem.W.Frag} {H H' : Hp} {v : V} {m : List Nat} (e : SameT H H') (h : Dp K H v (gd m)) : Dp K H' v (gd m) := by
  obtain ⟨t, rfl, ht⟩ := gd_at h
  exact dp_gd (sqt_T e ht)
theorem gds_T {K : PySem.W.Frag} {H H' : Hp} (e : SameT H H') : ∀ {ms : List (List Nat)} {us : List V}, DpAll K H us (ms.map gd) → DpAll K H' us (ms.map gd)
  | [], _, h => by
    cases h
    exact .nil
  | m :: ms, _, h => by
    cases h with
    | cons h1 h2 => exact .cons (gd_T e h1) (gds_T e h2)
theorem dps_gat {K : PySem.W.Frag} {H : Hp} {gs : List V} {ms : List (List Nat)} {i : Nat} {v : V} (h : DpAll K H gs (ms.map gd)) (e : gs[i]? = some v) : ∃ m, ms[i]? = some m ∧ Dp K H v (gd m) := by
  obtain ⟨d, h1, h2⟩ := dps_at h e
  rw [List.getElem?_map] at h1
  cases q : ms[i]? with
  | none => rw [q] at h1; cases h1
  | some m =>
    rw [q] at h1
    cases h1
    exact ⟨m, rfl, h2⟩
def rTupOf (K : PySem.W.Frag) : List V → Hp → VK → Prop := fun xs H Q => ∃ p ys, xs = [.ref p] ∧ ((SqL K H p ys ∧ ∀ l, H l = none → Q (.ref l) (upd H l (.tup ys))) ∨ (SqT K H p ys ∧ Q (.ref p) H))
end CC
namespace CC
open PySem L2 TL
theorem Ran.T {H H' : Hp} {s : Addr} (r : Ran H H' s) (h : Src H s) : SameT H H' := by
  obtain ⟨o, h1, a, b, c, rfl, _⟩ := h
  constructor
  · intro x xs e
    exact r.at_ e (ne_of e h1 (by intro z; cases z))
  · intro x o xs e
    exact r.at_ e (ne_of e h1 (by intro z; cases z))
theorem cut_from (xs : List V) (n : Nat) : cutV xs (some (n : Int)) none = xs.drop n := by
  unfold cutV
  rw [HT.sIx_nat, HT.sIx_none]
  by_cases h : n ≤ xs.length
  · rw [Nat.min_eq_left h]
    exact List.take_of_length_le (by rw [List.length_drop]; exact Nat.le_refl _)
  · rw [Nat.min_eq_right (by omega), List.drop_eq_nil_of_le (Nat.le_refl _), List.drop_eq_nil_of_le (by omega)]
    simp
theorem cut_to (xs : List V) (n : Nat) : cutV xs none (some (n : Int)) = xs.take n := by
  unfold cutV
  rw [HT.sIx_nat, HT.sIx_none, List.drop_zero, Nat.sub_zero]
  by_cases h : n ≤ xs.length
  · rw [Nat.min_eq_left h]
  · rw [Nat.min_eq_right (by omega), List.take_of_length_le (Nat.le_refl _), List.take_of_length_le (by omega)]
theorem rot_nodup {α : Type} {l : List α} (h : l.Nodup) (n : Nat) : (l.drop n ++ l.take n).Nodup := by
  have p : (l.drop n ++ l.take n).Perm l := by
    have := (List.perm_append_comm : (l.drop n ++ l.take n).Perm (l.take n ++ l.drop n))
    rw [List.take_append_drop] at this
    exact this
  exact p.nodup_iff.mpr h
theorem rot_mem {α : Type} {l : List α} {n : Nat} {x : α} (h : x ∈ l.drop n ++ l.take n) : x ∈ l := by
  rcases List.mem_append.mp h with z | z
  · exact List.mem_of_mem_drop z
  · exact List.mem_of_mem_take z
theorem MadeF.woT {α : Type} {f : α → PyData} {K : PySem.W.Frag} {H0 H : Hp} {D : Addr} {n : Nat} {rs : List α} (p : MadeF f K H0 D n H rs) : SameT H (wo H D) := by
  obtain ⟨us, _, h, _⟩ := p
  exact wo_T h
end CC
namespace CC
/-! ### words in their order: shorter ones first, then by their signs -/
def lx : List Nat → List Nat → Prop
  | [], [] => False
  | [], _ :: _ => True
  | _ :: _, [] => False
  | a :: p, b :: q => a < b ∨ (a = b ∧ lx p q)
theorem lx_irr : ∀ p, ¬ lx p p
  | [], h => h
  | a :: p, h => by
    rcases h with h | ⟨_, h⟩
    · omega
    · exact lx_irr p h
theorem lx_trans : ∀ {p q r : List Nat}, lx p q → lx q r → lx p r
  | [], [], _, h, _ => False.elim h
  | [], _ :: _, [], _, h => False.elim h
  | [], _ :: _, _ :: _, _, _ => trivial
  | _ :: _, [], _, h, _ => False.elim h
  | _ :: _, _ :: _, [], _, h => False.elim h
  | a :: p, b :: q, c :: r, h1, h2 => by
    rcases h1 with h1 | ⟨rfl, h1⟩ <;> rcases h2 with h2 | ⟨rfl, h2⟩
    · exact .inl (by omega)
    · exact .inl h1
    · exact .inl h2
    · exact .inr ⟨rfl, lx_trans h1 h2⟩
theorem lx_tri : ∀ p q : List Nat, lx p q ∨ p = q ∨ lx q p
  | [], [] => .inr (.inl rfl)
  | [], _ :: _ => .inl trivial
  | _ :: _, [] => .inr (.inr trivial)
  | a :: p, b :: q => by
    rcases Nat.lt_trichotomy a b with h | h | h
    · exact .inl (.inl h)
    · subst h
      rcases lx_tri p q with z | z | z
      · exact .inl (.inr ⟨rfl, z⟩)
      · exact .inr (.inl (by rw [z]))
      · exact .inr (.inr (.inr ⟨rfl, z⟩))
    · exact .inr (.inr (.inl h))
theorem lx_app : ∀ {p q : List Nat} (r s : List Nat), p.length = q.length → lx p q → lx (p ++ r) (q ++ s)
  | [], [], _, _, _, h => False.elim h
  | [], _ :: _, _, _, e, _ => by simp at e
  | _ :: _, [], _, _, e, _ => by simp at e
  | a :: p, b :: q, r, s, e, h => by
    rcases h with h | ⟨h1, h⟩
    · exact .inl h
    · exact .inr ⟨h1, lx_app r s (by simpa using e) h⟩
theorem lx_last : ∀ (p : List Nat) {a b : Nat}, a < b → lx (p ++ [a]) (p ++ [b])
  | [], _, _, h => .inl h
  | _ :: p, _, _, h => .inr ⟨rfl, lx_last p h⟩
def SS (p q : List Nat) : Prop := p.length < q.length ∨ (p.length = q.length ∧ lx p q)
theorem SS.irr {p : List Nat} (h : SS p p) : False := by
  rcases h with h | ⟨_, h⟩
  · omega
  · exact lx_irr p h
theorem SS.trans {p q r : List Nat} (h1 : SS p q) (h2 : SS q r) : SS p r := by
  rcases h1 with h1 | ⟨e1, h1⟩ <;> rcases h2 with h2 | ⟨e2, h2⟩
  · exact .inl (by omega)
  · exact .inl (by omega)
  · exact .inl (by omega)
  · exact .inr ⟨by omega, lx_trans h1 h2⟩
theorem SS.tri (p q : List Nat) : SS p q ∨ p = q ∨ SS q p := by
  rcases Nat.lt_trichotomy p.length q.length with h | h | h
  · exact .inl (.inl h)
  · rcases lx_tri p q with z | z | z
    · exact .inl (.inr ⟨h, z⟩)
    · exact .inr (.inl z)
    · exact .inr (.inr (.inr ⟨h.symm, z⟩))
  · exact .inr (.inr (.inl h))
theorem SS.app {p q : List Nat} (x y : Nat) (h : SS p q) : SS (p ++ [x]) (q ++ [y]) := by
  rcases h with h | ⟨e, h⟩
  · exact .inl (by simp; omega)
  · exact .inr ⟨by simp [e], lx_app _ _ e h⟩
theorem SS.last (p : List Nat) {x y : Nat} (h : x < y) : SS (p ++ [x]) (p ++ [y]) := .inr ⟨by simp, lx_last p h⟩
theorem SS.snoc (p : List Nat) (x : Nat) : SS p (p ++ [x]) := .inl (by simp)
/-- a walk -/
inductive Wk (ps : List (Nat × Nat)) (a : Nat) : Nat → List Nat → Prop
  | one : Wk ps a a [a]
  | step {b c : Nat} {w : List Nat} : Wk ps a b w → (b, c) ∈ ps → Wk ps a c (w ++ [c])
theorem Wk.ne {ps : List (Nat × Nat)} {a b : Nat} {w : List Nat} (h : Wk ps a b w) : w ≠ [] := by
  cases h <;> simp
/-- what is found: each column that is reached, with the first of the shortest walks -/
structure FW (ps : List (Nat × Nat)) (st : Nat) (ws : List (Nat × List Nat)) : Prop where
  nd : (ws.map (·.1)).Nodup
  lt : ∀ e ∈ ws, e.1 < 6
  wk : ∀ e ∈ ws, Wk ps st e.1 e.2
  fst : ∀ c q, Wk ps st c q → ∃ v, (c, v) ∈ ws ∧ (v = q ∨ SS v q)
  len : ∀ e ∈ ws, e.2.length ≤ ws.length
/-- between two turns: n columns are through -/
structure BI (ps : List (Nat × Nat)) (st : Nat) (ws : List (Nat × List Nat)) (n : Nat) : Prop where
  nd : (ws.map (·.1)).Nodup
  lt : ∀ e ∈ ws, e.1 < 6
  wk : ∀ e ∈ ws, Wk ps st e.1 e.2
  ord : ∀ (i j : Nat) (e f : Nat × List Nat), i < j → ws[i]? = some e → ws[j]? = some f → SS e.2 f.2
  beg : (st, [st]) ∈ ws
  le : n ≤ ws.length
  len : ∀ (i : Nat) (e : Nat × List Nat), ws[i]? = some e → e.2.length ≤ i + 1
  don : ∀ (i : Nat) (e : Nat × List Nat), i < n → ws[i]? = some e → ∀ b, (e.1, b) ∈ ps → ∃ v, (b, v) ∈ ws ∧ (v = e.2 ++ [b] ∨ SS v (e.2 ++ [b]))
  low : ∀ e ∈ ws, ∀ (j : Nat) (f : Nat × List Nat), n ≤ j → ws[j]? = some f → ∀ x, SS e.2 (f.2 ++ [x])
theorem BI.start {ps : List (Nat × Nat)} {st : Nat} (h : st < 6) : BI ps st [(st, [st])] 0 where
  nd := by simp
  lt := fun e he => by rw [List.mem_singleton.mp he]; exact h
  wk := fun e he => by rw [List.mem_singleton.mp he]; exact .one
  ord := fun i j e f hij h1 h2 => by
    have := (List.getElem?_eq_some_iff.mp h2).1
    simp at this
    omega
  beg := List.mem_singleton.mpr rfl
  le := Nat.zero_le _
  len := fun i e h => by
    have : e ∈ [(st, [st])] := List.mem_of_getElem? h
    rw [List.mem_singleton.mp this]
    simp
  don := fun i e hi => absurd hi (Nat.not_lt_zero _)
  low := fun e he j f _ hf x => by
    have : f ∈ [(st, [st])] := List.mem_of_getElem? hf
    rw [List.mem_singleton.mp he, List.mem_singleton.mp this]
    exact SS.snoc _ _
theorem BI.out {ps : List (Nat × Nat)} {st : Nat} {ws : List (Nat × List Nat)} {n : Nat} (h : BI ps st ws n) (hn : ws.length ≤ n) : FW ps st ws where
  nd := h.nd
  lt := h.lt
  wk := h.wk
  fst := fun c q w => by
    induction w with
    | one => exact ⟨_, h.beg, .inl rfl⟩
    | @step b c w w1 hb ih =>
      obtain ⟨v, hv, e⟩ := ih
      obtain ⟨i, hi⟩ := List.mem_iff_getElem?.mp hv
      have il := (List.getElem?_eq_some_iff.mp hi).1
      obtain ⟨u, hu, e2⟩ := h.don i _ (by omega) hi c hb
      refine ⟨u, hu, ?_⟩
      rcases e with rfl | e
      · exact e2
      · rcases e2 with rfl | e2
        · exact .inr (e.app _ _)
        · exact .inr (e2.trans (e.app _ _))
  len := fun e he => by
    obtain ⟨i, hi⟩ := List.mem_iff_getElem?.mp he
    have := h.len i e hi
    have := (List.getElem?_eq_some_iff.mp hi).1
    omega
/-- within a turn, the column c with the way w: the new ones -/
def nws (w : List Nat) (nb : List Nat) : List (Nat × List Nat) := nb.map fun b => (b, w ++ [b])
structure TI (ps : List (Nat × Nat)) (ws : List (Nat × List Nat)) (c : Nat) (w : List Nat) (bs : List Nat) (i : Nat) (nb : List Nat) : Prop where
  inc : nb.Pairwise (· < ·)
  sub : ∀ b ∈ nb, b ∈ bs.take i
  new : ∀ b ∈ nb, b ∉ ws.map (·.1)
  all : ∀ b ∈ bs.take i, b ∈ ws.map (·.1) ∨ b ∈ nb
theorem TI.start {ps : List (Nat × Nat)} {ws : List (Nat × List Nat)} {c : Nat} {w bs : List Nat} : TI ps ws c w bs 0 [] where
  inc := .nil
  sub := fun _ h => nomatch h
  new := fun _ h => nomatch h
  all := fun _ h => by simp at h
theorem take1 {α : Type} {l : List α} {i : Nat} {x : α} (h : l[i]? = some x) : l.take (i + 1) = l.take i ++ [x] := by
  rw [List.take_succ, h]
  rfl
theorem nws_keys (w nb : List Nat) : (nws w nb).map (·.1) = nb := by
  unfold nws
  rw [List.map_map]
  exact List.map_id' nb
theorem TI.old {ps : List (Nat × Nat)} {ws : List (Nat × List Nat)} {c : Nat} {w bs nb : List Nat} {i b : Nat} (h : TI ps ws c w bs i nb) (hb : bs[i]? = some b) (hm : b ∈ (ws ++ nws w nb).map (·.1)) : TI ps ws c w bs (i + 1) nb where
  inc := h.inc
  sub := fun x hx => by
    rw [take1 hb]
    exact List.mem_append_left _ (h.sub x hx)
  new := h.new
  all := fun x hx => by
    rw [take1 hb] at hx
    rcases List.mem_append.mp hx with z | z
    · exact h.all x z
    · rw [List.mem_singleton.mp z]
      rw [List.map_append, nws_keys] at hm
      exact List.mem_append.mp hm
theorem TI.add {ps : List (Nat × Nat)} {ws : List (Nat × List Nat)} {c : Nat} {w bs nb : List Nat} {i b : Nat} (h : TI ps ws c w bs i nb) (hs : bs.Pairwise (· ≤ ·)) (hb : bs[i]? = some b) (hm : b ∉ (ws ++ nws w nb).map (·.1)) : TI ps ws c w bs (i + 1) (nb ++ [b]) where
  inc := by
    rw [List.pairwise_append]
    refine ⟨h.inc, by simp, fun x hx y hy => ?_⟩
    rw [List.mem_singleton.mp hy]
    have hx2 := h.sub x hx
    obtain ⟨j, hj⟩ := List.mem_iff_getElem?.mp hx2
    have jl := (List.getElem?_eq_some_iff.mp hj).1
    rw [List.length_take] at jl
    have ji : j < i := by omega
    rw [List.getElem?_take_of_lt ji] at hj
    have le : x ≤ b := by
      obtain ⟨l1, e1⟩ := List.getElem?_eq_some_iff.mp hj
      obtain ⟨l2, e2⟩ := List.getElem?_eq_some_iff.mp hb
      have := List.pairwise_iff_getElem.mp hs j i l1 l2 ji
      rw [e1, e2] at this
      exact this
    have ne : x ≠ b := fun e => hm (by rw [List.map_append, nws_keys, ← e]; exact List.mem_append_right _ hx)
    omega
  sub := fun x hx => by
    rw [take1 hb]
    rcases List.mem_append.mp hx with z | z
    · exact List.mem_append_left _ (h.sub x z)
    · exact List.mem_append_right _ z
  new := fun x hx => by
    rcases List.mem_append.mp hx with z | z
    · exact h.new x z
    · rw [List.mem_singleton.mp z]
      intro q
      exact hm (by rw [List.map_append]; exact List.mem_append_left _ q)
  all := fun x hx => by
    rw [take1 hb] at hx
    rcases List.mem_append.mp hx with z | z
    · rcases h.all x z with y | y
      · exact .inl y
      · exact .inr (List.mem_append_left _ y)
    · exact .inr (List.mem_append_right _ z)
theorem nws_mem {w nb : List Nat} {e : Nat × List Nat} : e ∈ nws w nb ↔ e.1 ∈ nb ∧ e.2 = w ++ [e.1] := by
  unfold nws
  rw [List.mem_map]
  constructor
  · rintro ⟨b, hb, rfl⟩
    exact ⟨hb, rfl⟩
  · rintro ⟨h1, h2⟩
    exact ⟨e.1, h1, by rw [← h2]⟩
/-- the turn's end -/
theorem BI.turn {ps : List (Nat × Nat)} {st : Nat} {ws : List (Nat × List Nat)} {n : Nat} (h : BI ps st ws n) {c : Nat} {w bs nb : List Nat} (hc : ws[n]? = some (c, w)) (hbs : ∀ b, b ∈ bs ↔ (c, b) ∈ ps) (hlt : ∀ x ∈ ps, x.1 < 6 ∧ x.2 < 6) (t : TI ps ws c w bs bs.length nb) : BI ps st (ws ++ nws w nb) (n + 1) := by
  have all : ∀ b ∈ bs, b ∈ ws.map (·.1) ∨ b ∈ nb := fun b hb => t.all b (by rw [List.take_length]; exact hb)
  have sub : ∀ b ∈ nb, (c, b) ∈ ps := fun b hb => (hbs b).mp (by have := t.sub b hb; rw [List.take_length] at this; exact this)
  have hw := h.wk _ (List.mem_of_getElem? hc)
  have nl := (List.getElem?_eq_some_iff.mp hc).1
  have at_ : ∀ {j : Nat} {f : Nat × List Nat}, (ws ++ nws w nb)[j]? = some f → (j < ws.length ∧ ws[j]? = some f) ∨ (ws.length ≤ j ∧ (nws w nb)[j - ws.length]? = some f) := fun {j f} hf => by
    by_cases lt : j < ws.length
    · rw [List.getElem?_append_left lt] at hf
      exact .inl ⟨lt, hf⟩
    · rw [List.getElem?_append_right (by omega)] at hf
      exact .inr ⟨by omega, hf⟩
  constructor
  · rw [List.map_append, nws_keys]
    refine List.nodup_append.mpr ⟨h.nd, t.inc.imp (fun h => by omega), fun x hx y hy e => ?_⟩
    subst e
    exact t.new x hy hx
  · intro e he
    rcases List.mem_append.mp he with z | z
    · exact h.lt e z
    · exact (hlt _ (sub _ (nws_mem.mp z).1)).2
  · intro e he
    rcases List.mem_append.mp he with z | z
    · exact h.wk e z
    · obtain ⟨z1, z2⟩ := nws_mem.mp z
      rw [z2]
      exact hw.step (sub _ z1)
  · intro i j e f hij hi hj
    rcases at_ hi with ⟨i1, i2⟩ | ⟨i1, i2⟩ <;> rcases at_ hj with ⟨j1, j2⟩ | ⟨j1, j2⟩
    · exact h.ord i j e f hij i2 j2
    · rw [(nws_mem.mp (List.mem_of_getElem? j2)).2]
      exact h.low e (List.mem_of_getElem? i2) n _ (Nat.le_refl _) hc _
    · omega
    · rw [(nws_mem.mp (List.mem_of_getElem? j2)).2, (nws_mem.mp (List.mem_of_getElem? i2)).2]
      refine SS.last _ ?_
      unfold nws at i2 j2
      rw [List.getElem?_map] at i2 j2
      cases hi3 : nb[i - ws.length]? with
      | none => rw [hi3] at i2; cases i2
      | some x =>
        cases hj3 : nb[j - ws.length]? with
        | none => rw [hj3] at j2; cases j2
        | some y =>
          rw [hi3] at i2
          rw [hj3] at j2
          cases i2
          cases j2
          obtain ⟨l1, e1⟩ := List.getElem?_eq_some_iff.mp hi3
          obtain ⟨l2, e2⟩ := List.getElem?_eq_some_iff.mp hj3
          have := List.pairwise_iff_getElem.mp t.inc _ _ l1 l2 (by omega)
          rw [e1, e2] at this
          exact this
  · exact List.mem_append_left _ h.beg
  · rw [List.length_append]
    omega
  · intro i e hi
    rcases at_ hi with ⟨i1, i2⟩ | ⟨i1, i2⟩
    · exact h.len i e i2
    · rw [(nws_mem.mp (List.mem_of_getElem? i2)).2, List.length_append]
      have := h.len n _ hc
      simp only [List.length_singleton] at this ⊢
      omega
  · intro i e hi he b hb
    rcases at_ he with ⟨i1, i2⟩ | ⟨i1, i2⟩
    · by_cases lt : i < n
      · obtain ⟨v, hv, q⟩ := h.don i e lt i2 b hb
        exact ⟨v, List.mem_append_left _ hv, q⟩
      · have : i = n := by omega
        subst this
        rw [hc] at i2
        cases i2
        rcases all b ((hbs b).mpr hb) with z | z
        · obtain ⟨⟨b', v⟩, hv, rfl⟩ := List.mem_map.mp z
          exact ⟨v, List.mem_append_left _ hv, .inr (h.low _ hv i _ (Nat.le_refl _) hc _)⟩
        · exact ⟨w ++ [b], List.mem_append_right _ (nws_mem.mpr ⟨z, rfl⟩), .inl rfl⟩
    · omega
  · intro e he j f hj hf x
    have old : ∀ e ∈ ws, ∀ b, SS e.2 (w ++ [b]) := fun e he b => h.low e he n _ (Nat.le_refl _) hc b
    rcases List.mem_append.mp he with z | z
    · rcases at_ hf with ⟨j1, j2⟩ | ⟨j1, j2⟩
      · exact h.low e z j f (by omega) j2 x
      · rw [(nws_mem.mp (List.mem_of_getElem? j2)).2]
        exact (old e z _).trans (SS.snoc _ _)
    · rw [(nws_mem.mp z).2]
      rcases at_ hf with ⟨j1, j2⟩ | ⟨j1, j2⟩
      · exact (h.ord n j _ _ (by omega) hc j2).app _ _
      · rw [(nws_mem.mp (List.mem_of_getElem? j2)).2]
        exact .inl (by simp)
end CC
namespace CC
open PySem L2 TL
abbrev sRowsOf : Stmt := tp 24
/-- words of a line, as data -/
def wd (row : List Nat) : PyData := .list ((row.map num).map PyData.str)
theorem dps_strs {K : PySem.W.Frag} {H : Hp} : ∀ {xs : List Str} {us : List V}, DpAll K H us (xs.map PyData.str) → us = xs.map V.str
  | [], _, h => by
    cases h
    rfl
  | x :: xs, _, h => by
    cases h with
    | cons h1 h2 =>
      rw [dp_str h1, dps_strs h2]
      rfl
theorem strs_dps {K : PySem.W.Frag} {H : Hp} : ∀ xs : List Str, DpAll K H (xs.map V.str) (xs.map PyData.str)
  | [] => .nil
  | x :: xs => .cons (.str x) (strs_dps xs)
theorem wd_at {K : PySem.W.Frag} {H : Hp} {v : V} {row : List Nat} (h : Dp K H v (wd row)) : ∃ l, v = .ref l ∧ SqL K H l ((row.map num).map V.str) := by
  obtain ⟨l, us, rfl, h1, h2⟩ := dp_l h
  rw [dps_strs h2] at h1
  exact ⟨l, rfl, h1⟩
theorem dps_wat {K : PySem.W.Frag} {H : Hp} {gs : List V} {ms : List (List Nat)} {i : Nat} {v : V} (h : DpAll K H gs (ms.map wd)) (e : gs[i]? = some v) : ∃ m, ms[i]? = some m ∧ Dp K H v (wd m) := by
  obtain ⟨d, h1, h2⟩ := dps_at h e
  rw [List.getElem?_map] at h1
  cases q : ms[i]? with
  | none => rw [q] at h1; cases h1
  | some m =>
    rw [q] at h1
    cases h1
    exact ⟨m, rfl, h2⟩
theorem word_at {row : List Nat} {i : Nat} {x : V} (h : ((row.map num).map V.str)[i]? = some x) : ∃ m, row[i]? = some m ∧ x = .str (num m) := by
  rw [List.getElem?_map, List.getElem?_map] at h
  cases z : row[i]? with
  | none =>
    rw [z] at h
    cases h
  | some m =>
    rw [z] at h
    exact ⟨m, rfl, (Option.some.inj h).symm⟩
theorem cut_butlast (xs : List V) (x : V) : cutV (xs ++ [x]) none (some (-1)) = xs := by
  unfold cutV
  have e : HT.sIx (xs ++ [x]).length (xs ++ [x]).length (some (-1)) = xs.length := by
    have := HT.clip_eq (-1) (xs ++ [x]).length (xs ++ [x]).length
    rw [if_pos (by decide)] at this
    have hl : (xs ++ [x]).length = xs.length + 1 := by simp
    omega
  rw [HT.sIx_none, e]
  simp
/-- a comprehension with two for's: the outer one over a list -/
theorem two_list {K : PySem.W.Frag} {a : Addr} {xs : List V} {g : TG} {tt : TT} {vs : List Nat} {σ : L2.St} {H1 : Hp} {D : Addr} {Qd : Hp → Prop} {B : L2.St → Hp → (Hp → Prop) → Prop} (Pv : Nat → Hp → Prop) (h0 : Pv 0 (upd H1 D (.lst []))) (hl : ∀ i H, i ≤ xs.length → Pv i H → SqL K H a xs)
    (hs : ∀ i x H, xs[i]? = some x → Pv i H → g x (wipe σ vs) H fun σ2 H2 => wipe σ2 vs = wipe σ vs ∧ tt σ2 H2 fun b H3 => if b = true then B σ2 H3 (Pv (i + 1)) else Pv (i + 1) H3) (hd : ∀ H, Pv xs.length H → Qd H) :
    ∃ W : Nat → Nat → Hp → Prop, (∃ m, W 0 m (upd H1 D (.lst []))) ∧ ∀ i m H, W i m H → ((Itl K a).stop i H ∧ Qd H) ∨ ((Itl K a).go i H ∧ ∃ Nx : Hp → Prop, (∀ H', Nx H' → ∃ m', m' < m ∧ W (i + 1) m' H') ∧ ∀ x H', (Itl K a).yld i H x H' → g x (wipe σ vs) H' fun σ2 H2 => wipe σ2 vs = wipe σ vs ∧ tt σ2 H2 fun b H3 =>
      if b = true then B σ2 H3 Nx else Nx H3) := by
  refine ⟨fun i m H => m = xs.length - i ∧ i ≤ xs.length ∧ Pv i H, ⟨xs.length, by simp, Nat.zero_le _, h0⟩, ?_⟩
  rintro i m H ⟨rfl, hi, p⟩
  have q := hl i H hi p
  by_cases lt : i < xs.length
  · refine .inr ⟨⟨xs, xs[i], q, by simp [lt]⟩, Pv (i + 1), fun H' p' => ⟨xs.length - (i + 1), by omega, rfl, lt, p'⟩, fun x H' y => ?_⟩
    obtain ⟨e, y⟩ := y
    subst e
    exact hs i x _ (y xs q) p
  · have e : i = xs.length := by omega
    subst e
    exact .inl ⟨⟨xs, q, Nat.le_refl _⟩, hd H p⟩
/-- its inner one over a list -/
theorem in_list {K : PySem.W.Frag} {a : Addr} {xs : List V} {H1 : Hp} {Qd : Hp → Prop} {B : V → Hp → (Hp → Prop) → Prop} (Pv : Nat → Hp → Prop) (h0 : Pv 0 H1) (hl : ∀ i H, i ≤ xs.length → Pv i H → SqL K H a xs) (hs : ∀ i x H, xs[i]? = some x → Pv i H → B x H (Pv (i + 1))) (hd : ∀ H, Pv xs.length H → Qd H) :
    ∃ W : Nat → Nat → Hp → Prop, (∃ m, W 0 m H1) ∧ ∀ i m H, W i m H → ((Itl K a).stop i H ∧ Qd H) ∨ ((Itl K a).go i H ∧ ∃ Nx : Hp → Prop, (∀ H', Nx H' → ∃ m', m' < m ∧ W (i + 1) m' H') ∧ ∀ x H', (Itl K a).yld i H x H' → B x H' Nx) := by
  refine ⟨fun i m H => m = xs.length - i ∧ i ≤ xs.length ∧ Pv i H, ⟨xs.length, by simp, Nat.zero_le _, h0⟩, ?_⟩
  rintro i m H ⟨rfl, hi, p⟩
  have q := hl i H hi p
  by_cases lt : i < xs.length
  · refine .inr ⟨⟨xs, xs[i], q, by simp [lt]⟩, Pv (i + 1), fun H' p' => ⟨xs.length - (i + 1), by omega, rfl, lt, p'⟩, fun x H' y => ?_⟩
    obtain ⟨e, y⟩ := y
    subst e
    exact hs i x _ (y xs q) p
  · have e : i = xs.length := by omega
    subst e
    exact .inl ⟨⟨xs, q, Nat.le_refl _⟩, hd H p⟩
def rIntS : List V → Hp → VK → Prop := fun xs H Q => ∃ a n, xs = [.str a] ∧ PySem.intText? a = some n ∧ a.length ≤ 640 ∧ Q (.int n) H
theorem call_intS {X : Cx} : CallR X (.type "int") rIntS := call_int_str
def rLenSq (K : PySem.W.Frag) : List V → Hp → VK → Prop := fun xs H Q => ∃ p ys, xs = [V.ref p] ∧ (SqL K H p ys ∨ SqT K H p ys) ∧ Q (V.int ((ys.length : Nat) : Int)) H
theorem call_lenSq {X : Cx} : CallR X (.builtin "len") (rLenSq X.K) := call_len_seq
def retVal : Stmt → Expr
  | .Return (some v) _ => v
  | _ => .Constant .none 0 ⟨0, 0, 0, 0⟩
def lcScT : Expr → Scope
  | .ListComp _ _ sc _ => sc
  | _ => { kind := .function, names := [], isGenerator := false, isCoroutine := false }
abbrev scRows5 : Scope := lcScT (retVal ((defBody sRowsOf).getD 5 (.Pass ⟨0, 0, 0, 0⟩)))
def spRowsOf (K : PySem.W.Frag) : Sp := fun vs H Q _ => ∃ (w : Nat) (rows : List (List Nat)), vs = [.int (w : Int), .str (textT rows)] ∧ 1 ≤ w ∧ w ≤ 6 ∧ (∀ r ∈ rows, RowOk w r) ∧ rows.length ≤ 400 ∧ NewF gd K H rows Q
section
variable {P : Program} {w : World} {K : PySem.W.Frag} {mg : Str → Option Value} {base : Heap} {kA : Addr}
abbrev nRow : List Str := ["width", "text", "parts", "lines", "part", "words", "word"]
theorem scRowsOf : FnScope nRow ["width", "text"] (defScope sRowsOf) := ⟨rfl, rfl, rfl, by decide +kernel, rfl, by decide +kernel, by decide +kernel⟩
theorem ok_rowsof {f : Addr} {fd : FuncData} {k : Nat} (F : Fun K "rows_of" "rows_of" sRowsOf f fd) (T : Glb K mg kA) (TT : GlbT mg) (cN : Cal P w K mg base "is_numeral" ["word"] spIsNum 1) : FnOk P w K mg base CX0 (k + 2) f fd ["width", "text"] (spRowsOf K) := by
  have GN := cN.ok (k + 1) (by omega)
  refine F.ok scRowsOf (fun vs H Q E h => ?_) (fun cdv A outer s H vs Q E hr h => ?_)
  · obtain ⟨w, rows, rfl, _⟩ := h
    rfl
  · obtain ⟨w, rows, rfl, w1, w6, ok, few, q⟩ := h
    obtain ⟨tm, hmr⟩ := TT.mr
    have n := scRowsOf.nd
    refine ⟨_, (pss_cons (ps_set (i := 2) n rfl (.inl rfl) (pe_split (pv 1) pe_str))
      (pss_cons (ps_setLc (i := 3) (own := [("part", 4)]) (g := gName 4) (tt := tYes) rfl n rfl rfl (sw_true rfl rfl rfl (by decide +kernel)) (pi_list (pe_slice sl_list (pv 2) po_none (po_some (pe_un un_neg pe_int)))) (blkOk_by (N := nRow) (sc := defScope sRowsOf) (by decide +kernel))
        (fun _ _ _ _ _ => (pg_name (i := 4) n rfl (.inl rfl))) (fun _ _ _ _ _ => pts_nil) (fun _ _ _ _ _ => (pe_split (pv 4) pe_str)))
      (pss_cons (ps_if (PW.pt (pw_or (pt_cmpR op_ne (pe_ix ix_list (pv 2) (pe_un un_neg pe_int) (fun _ _ => rfl)) pe_str (nomark _)) (pw_or1 (pt_cmpR op_gt (pe_callB call_len_seq (by rfl) T.len PySem.boot_len (pa_cons (pv 3) pa_nil)) (pe_glob (v := .int 400) rfl hmr ⟨_, rfl⟩) (nomark _))))) (pss_one (ps_ret pe_non)) pss_nil)
      (pss_cons (ps_if (pt_not (pt_val (pe_callB (cr_all rfl) (by rfl) T.all (by decide +kernel) (pa_cons (pe_lc (own := [("words", 5)]) (g := gName 5) (tt := tYes) (te := tOp rEq (tCB (rLenSq K) (tCons (tVar 5) tNil)) (tVar 0)) rfl n (pi_list (pv 3)) (blkOk_by (N := nRow) (sc := defScope sRowsOf) (by decide +kernel))
        (fun _ _ _ _ _ => (pg_name (i := 5) n rfl (.inl rfl))) (fun _ _ _ _ _ => pts_nil) (fun _ _ _ _ _ => (pe_cmpR op_eq (pe_callB call_lenSq (by rfl) T.len PySem.boot_len (pa_cons (pv 5) pa_nil)) (pv 0) (nomark _)))) pa_nil)))) (pss_one (ps_ret pe_non)) pss_nil)
      (pss_cons (ps_if (pt_not (pt_val (pe_callB (cr_all rfl) (by rfl) T.all (by decide +kernel) (pa_cons (pe_lc2 (own := [("words", 5), ("word", 6)]) (vs1 := [6]) (g := gName 5) (g1 := gName 6) (tt := tYes) (tt1 := tYes) (wi1 := iList K (tVar 5)) (te := tCall spIsNum [] E0 (tCons (tVar 6) tNil)) rfl n (pi_list (pv 3)) (blkOk_by (N := nRow) (sc := defScope sRowsOf) (by decide +kernel)) (by decide)
        (fun _ _ _ _ _ => (pg_name (i := 5) n rfl (.inl rfl))) (fun _ _ _ _ _ => pts_nil) (fun _ _ _ _ _ => (pi_list (pv 5))) (fun _ _ _ _ _ => (pg_name (i := 6) n rfl (.inl rfl))) (fun _ _ _ _ _ => pts_nil) (fun _ _ _ _ _ => (pe_call GN hr rfl cN.g cN.kp cN.b .nil pass0 (pa_cons (pv 6) pa_nil)))) pa_nil)))) (pss_one (ps_ret pe_non)) pss_nil)
      (pss_one (ps_ret (pe_lc (own := [("words", 5)]) (g := gName 5) (tt := tYes) (te := tCB (rTupOf K) (tCons (tLc (iList K (tVar 5)) (gName 6) tYes (tCB rIntS (tCons (tVar 6) tNil)) [6]) tNil)) rfl n (pi_list (pv 3)) (blkOk_by (N := nRow) (sc := defScope sRowsOf) (by decide +kernel))
        (fun _ _ _ _ _ => (pg_name (i := 5) n rfl (.inl rfl))) (fun _ _ _ _ _ => pts_nil) (fun _ _ _ _ _ => (pe_callTy call_tuple_of (by rfl) T.tup (by decide +kernel) (pa_cons (pe_lc (own := [("word", 6)]) (g := gName 6) (tt := tYes) rfl n (pi_list (pv 5)) (blkOk_by (N := nRow) (sc := relS scRows5 (defScope sRowsOf)) (by decide +kernel))
        (fun _ _ _ _ _ => (pg_name (i := 6) n rfl (.inl rfl))) (fun _ _ _ _ _ => pts_nil) (fun _ _ _ _ _ => (pe_callTy call_intS (by rfl) T.int (by decide +kernel) (pa_cons (pv 6) pa_nil)))) pa_nil))))))))))), ?_⟩
    have tlen := textT_len ok w6
    have rne : ∀ r ∈ rows, r ≠ [] := fun r hr e => by
      have := (ok r hr).1
      rw [e] at this
      simp at this
      omega
    refine ⟨_, rfl, ⟨_, rfl⟩, _, _, rfl, rfl, by decide +kernel, Nat.le_trans (show (textT rows).length + 2 ≤ 100000 by omega) (by decide), fun p3 n3 => ?_⟩
    rw [split_textT, List.map_append]
    have m3 : Same H (upd H p3 (.lst ((rows.map rowS).map V.str ++ [Str.empty].map V.str))) := same_new n3
    have h3 : (upd H p3 (.lst ((rows.map rowS).map V.str ++ [Str.empty].map V.str))) p3 = some (.lst ((rows.map rowS).map V.str ++ [V.str Str.empty])) := upd_same
    generalize upd H p3 (.lst ((rows.map rowS).map V.str ++ [Str.empty].map V.str)) = H3 at m3 h3
    -- lines
    refine ⟨_, rfl, _, rfl, _, rfl, p3, _, rfl, SqL.of h3, fun p4 n4 => ?_⟩
    rw [cut_butlast]
    have m4 : Same H3 (upd H3 p4 (.lst ((rows.map rowS).map V.str))) := same_new n4
    have h4 : (upd H3 p4 (.lst ((rows.map rowS).map V.str))) p4 = some (.lst ((rows.map rowS).map V.str)) := upd_same
    generalize upd H3 p4 (.lst ((rows.map rowS).map V.str)) = H4 at m4 h4
    refine ⟨p4, rfl, ⟨_, SqL.of h4⟩, fun D nD => ?_⟩
    refine lc_list (xs := (rows.map rowS).map V.str) (fun i H5 => MadeF wd K H4 D i H5 (rows.take i)) MadeF.start (fun i H5 _ z => SqL.of (z.old nD _ _ h4)) ?_ ?_
    · intro i v H5 hv p5
      obtain ⟨r, hr2, rfl⟩ : ∃ r, rows[i]? = some r ∧ v = .str (rowS r) := by
        rw [List.getElem?_map, List.getElem?_map] at hv
        cases z : rows[i]? with
        | none => rw [z] at hv; cases hv
        | some r => rw [z] at hv; exact ⟨r, rfl, (Option.some.inj hv).symm⟩
      have rm := List.mem_of_getElem? hr2
      have il := (List.getElem?_eq_some_iff.mp hr2).1
      have rl := rowS_len (ok r rm) w6
      refine ⟨rfl, yes_if ⟨_, rfl, ⟨_, rfl⟩, _, _, rfl, rfl, by decide +kernel, Nat.le_trans (show (rowS r).length + 2 ≤ 100000 by omega) (by decide), fun l nl => ?_⟩⟩
      rw [split_row (rne r rm), take1 hr2]
      obtain ⟨us5, _, hD5, _⟩ := id p5
      have lD : l ≠ D := (ne_of_none hD5 nl).symm
      exact p5.push (r := r) (by omega) (Nat.lt_succ_self _) (same_new nl) (.lst (.inl (.inl (by rw [wo_ne lD]; exact upd_same))) (strs_dps _))
    intro H5 p5
    rw [List.length_map, List.length_map, List.take_length] at p5
    have o5 := p5.old nD
    obtain ⟨ul, _, hD5, dl0, _⟩ := id p5
    have dl : DpAll K H5 ul (rows.map wd) := dps_same (wo_le D) _ _ dl0
    have ull : ul.length = rows.length := by rw [dps_len dl, List.length_map]
    have s05 : Same H H5 := m3.trans (m4.trans o5)
    have nD0 : H D = none := (m3.trans m4).free nD
    clear p5 dl0
    -- if parts[-1] != "" or len(lines) > 400
    refine ⟨_, rfl, _, rfl, p3, _, -1, _, rfl, rfl, SqL.of (o5 _ _ (m4 _ _ h3)), atI_last _ _, rfl, _, rfl, ?_⟩
    rw [show (!decide (V.str Str.empty = V.str (Str.ofString ""))) = false by decide +kernel]
    refine iteF ⟨_, rfl, D, _, rfl, .inl (SqL.of hD5), _, _, rfl, rfl, _, rfl, ?_⟩
    rw [show decide (((ul.length : Nat) : Int) > (400 : Int)) = false from decide_eq_false (by omega)]
    refine iteF ?_
    -- len(words) == width
    refine ⟨_, rfl, D, rfl, ⟨_, SqL.of hD5⟩, fun D2 nD2 => ?_⟩
    refine lc_list (xs := ul) (fun i H6 => Same H5 (wo H6 D2) ∧ H6 D2 = some (.lst ((List.replicate i true).map V.bl)) ∧ i ≤ 400) ⟨?_, upd_same, by omega⟩ (fun i H6 _ z => SqL.of (wo_le D2 _ _ (z.1 _ _ hD5))) ?_ ?_
    · rw [wo_upd]
      exact fun b o e => by rw [wo_ne (ne_of_none e nD2)]; exact e
    · rintro i v H6 hv ⟨e1, e2, e3⟩
      obtain ⟨r, hr2, dr⟩ := dps_wat dl hv
      have il := (List.getElem?_eq_some_iff.mp hr2).1
      obtain ⟨l, rfl, hl⟩ := wd_at (dp_same (e1.trans (wo_le D2)) _ _ dr)
      refine ⟨rfl, yes_if ⟨_, rfl, l, _, rfl, .inl hl, _, rfl, rfl, ?_⟩⟩
      have ew : decide (V.int (((((r.map num).map V.str).length : Nat)) : Int) = V.int (w : Int)) = true := decide_eq_true (by rw [List.length_map, List.length_map, (ok r (List.mem_of_getElem? hr2)).1])
      rw [ew]
      refine ⟨_, e2, small1000 (by simp; omega), ?_, ?_, by omega⟩
      · rw [wo_upd]
        exact e1
      · rw [upd_same, List.replicate_succ', List.map_append]
        rfl
    rintro H6 ⟨e1, e2, _⟩
    refine ⟨D2, _, rfl, SqL.of e2, _, rfl, ?_⟩
    rw [all_true]
    refine iteF ?_
    have s56 : Same H5 H6 := e1.trans (wo_le D2)
    clear e1 e2
    -- is_numeral(word)
    refine ⟨_, rfl, D, rfl, ⟨_, SqL.of (s56 _ _ hD5)⟩, fun D3 nD3 => ?_⟩
    refine two_list (xs := ul) (fun i H7 => Same H6 (wo H7 D3) ∧ (∃ m, H7 D3 = some (.lst ((List.replicate m true).map V.bl)) ∧ m ≤ 6 * i) ∧ i ≤ 400) ⟨?_, ⟨0, upd_same, by omega⟩, by omega⟩ (fun i H7 _ z => SqL.of (wo_le D3 _ _ (z.1 _ _ (s56 _ _ hD5)))) ?_ ?_
    · rw [wo_upd]
      exact fun b o e => by rw [wo_ne (ne_of_none e nD3)]; exact e
    · rintro i v H7 hv ⟨e1, ⟨m, e2, e3⟩, e4⟩
      obtain ⟨r, hr2, dr⟩ := dps_wat dl hv
      have il := (List.getElem?_eq_some_iff.mp hr2).1
      have rok := ok r (List.mem_of_getElem? hr2)
      obtain ⟨l, rfl, hl5⟩ := wd_at dr
      have wl : ((r.map num).map V.str).length = w := by rw [List.length_map, List.length_map, rok.1]
      refine ⟨rfl, yes_if ⟨_, rfl, l, rfl, ⟨_, same_l (s56.trans (e1.trans (wo_le D3))) hl5⟩, ?_⟩⟩
      refine in_list (xs := (r.map num).map V.str) (fun j H8 => Same H6 (wo H8 D3) ∧ (∃ m, H8 D3 = some (.lst ((List.replicate m true).map V.bl)) ∧ m ≤ 6 * i + j) ∧ j ≤ 6) ⟨e1, ⟨m, e2, by omega⟩, by omega⟩ (fun j H8 _ z => same_l (s56.trans (z.1.trans (wo_le D3))) hl5) ?_ ?_
      · rintro j y H8 hy ⟨f1, ⟨m', f2, f3⟩, f4⟩
        obtain ⟨c, hc, rfl⟩ := word_at hy
        have jl := (List.getElem?_eq_some_iff.mp hc).1
        have r1 := rok.1
        refine ⟨rfl, yes_if ⟨_, rfl, c, rfl, rok.2 c (List.mem_of_getElem? hc), _, f2, Nat.lt_of_lt_of_le (show _ < 10000 by rw [List.length_map, List.length_replicate]; omega) (by decide), ?_, ⟨m' + 1, ?_, by omega⟩, by omega⟩⟩
        · rw [wo_upd]
          exact f1
        · rw [upd_same, List.replicate_succ', List.map_append]
          rfl
      · rintro H8 ⟨f1, ⟨m', f2, f3⟩, _⟩
        rw [wl] at f3
        exact ⟨f1, ⟨m', f2, by omega⟩, by omega⟩
    rintro H7 ⟨e1, ⟨m, e2, e3⟩, _⟩
    refine ⟨D3, _, rfl, SqL.of e2, _, rfl, ?_⟩
    rw [all_true]
    refine iteF ?_
    have s57 : Same H5 H7 := s56.trans (e1.trans (wo_le D3))
    clear e1 e2
    -- the rows
    refine ⟨_, rfl, D, rfl, ⟨_, SqL.of (s57 _ _ hD5)⟩, fun D4 nD4 => ?_⟩
    refine lc_list (xs := ul) (fun i H8 => MadeF gd K H7 D4 i H8 (rows.take i)) MadeF.start (fun i H8 _ z => SqL.of (z.old nD4 _ _ (s57 _ _ hD5))) ?_ ?_
    · intro i v H8 hv p8
      obtain ⟨r, hr2, dr⟩ := dps_wat dl hv
      have il := (List.getElem?_eq_some_iff.mp hr2).1
      have rok := ok r (List.mem_of_getElem? hr2)
      obtain ⟨l, rfl, hl5⟩ := wd_at dr
      have o8 := p8.old nD4
      have wl : ((r.map num).map V.str).length = r.length := by rw [List.length_map, List.length_map]
      refine ⟨rfl, yes_if ⟨_, rfl, l, rfl, ⟨_, same_l (s57.trans o8) hl5⟩, fun D5 nD5 => ?_⟩⟩
      refine lc_list (xs := (r.map num).map V.str) (fun j H9 => Same H8 (wo H9 D5) ∧ H9 D5 = some (.lst (nms (r.take j)))) ⟨?_, upd_same⟩ (fun j H9 _ z => same_l (s57.trans (o8.trans (z.1.trans (wo_le D5)))) hl5) ?_ ?_
      · rw [wo_upd]
        exact fun b o e => by rw [wo_ne (ne_of_none e nD5)]; exact e
      · rintro j y H9 hy ⟨f1, f2⟩
        obtain ⟨c, hc, rfl⟩ := word_at hy
        have jl := (List.getElem?_eq_some_iff.mp hc).1
        have cv := rok.2 c (List.mem_of_getElem? hc)
        have r1 := rok.1
        refine ⟨rfl, yes_if ⟨_, rfl, _, _, rfl, num_int cv, Nat.le_trans (num_len cv) (by decide), _, f2, small1000 (by rw [nms_len, List.length_take]; omega), ?_, ?_⟩⟩
        · rw [wo_upd]
          exact f1
        · rw [upd_same, take1 hc, nms_app]
          rfl
      rintro H9 ⟨f1, f2⟩
      rw [wl, List.take_length] at f2
      have s89 : Same H8 H9 := f1.trans (wo_le D5)
      refine ⟨D5, _, rfl, .inl ⟨SqL.of f2, fun t nt => ?_⟩⟩
      obtain ⟨us8, _, hD8, _⟩ := id p8
      have tD : t ≠ D4 := (ne_of_none (s89 _ _ hD8) nt).symm
      rw [take1 hr2]
      exact p8.push (r := r) (by omega) (Nat.lt_succ_self _) (s89.trans (same_new nt)) (dp_gd (.inl (.inl (by rw [wo_ne tD]; exact upd_same))))
    intro H8 p8
    rw [ull, List.take_length] at p8
    exact p8.out nD4 (s05.trans s57) q
end
end CC
namespace CC
open PySem L2 TL
abbrev sTInit : Stmt := inClass (tp 27) 0
abbrev sTRead : Stmt := inClass (tp 27) 12
def flT0 (w : Nat) : List (Str × V) := putF "span" (.int (w : Int)) []
def fldT (w : Nat) (g : Addr) : List (Str × V) := putF "lines" (.ref g) (flT0 w)
theorem slN : ¬ (("span" : Str) = "lines") := by decide +kernel
theorem fldT_span (w : Nat) (g : Addr) : (fldT w g).lookup ("span" : Str) = some (.int (w : Int)) := by
  unfold fldT flT0
  rw [lookup_putF, if_neg slN, lookup_putF, if_pos rfl]
theorem fldT_lines (w : Nat) (g : Addr) : (fldT w g).lookup ("lines" : Str) = some (.ref g) := by
  unfold fldT
  rw [lookup_putF, if_pos rfl]
/-- a table stands at x -/
def TableAt (K : PySem.W.Frag) (C : Addr) (H : Hp) (x : Addr) (w : Nat) (rows : List (List Nat)) : Prop := ∃ dx g us, H x = some (.ins C dx (fldT w g)) ∧ H g = some (.tup us) ∧ DpAll K H us (rows.map gd)
theorem TableAt.same {K : PySem.W.Frag} {C : Addr} {H H' : Hp} {x : Addr} {w : Nat} {rows : List (List Nat)} (h : TableAt K C H x w rows) (e : Same H H') : TableAt K C H' x w rows := by
  obtain ⟨dx, g, us, h1, h2, h3⟩ := h
  exact ⟨dx, g, us, e _ _ h1, e _ _ h2, dps_same e _ _ h3⟩
structure TxtT (K : PySem.W.Frag) (mg : Str → Option Value) (C : Addr) : Prop where
  cl : Cls K C
  nS : NoAttr K C "span"
  nL : NoAttr K C "lines"
  mgC : mg "Table" = some (.ref C)
def spTInit (K : PySem.W.Frag) (C : Addr) : Sp := fun vs H Q _ => ∃ (x dx : Addr) (w : Nat) (p : Addr) (us : List V) (rows : List (List Nat)), vs = [.ref x, .int (w : Int), .ref p] ∧ H x = some (.ins C dx []) ∧ 1 ≤ w ∧ w ≤ 6 ∧ H p = some (.tup us) ∧ DpAll K (wo H x) us (rows.map gd) ∧
  (∀ r ∈ rows, RowOk w r) ∧ rows.length ≤ 400 ∧ ∀ H', (∀ b o, H b = some o → b ≠ x → H' b = some o) → H' x = some (.ins C dx (fldT w p)) → Q .non H'
def spTInitR (K : PySem.W.Frag) (C : Addr) : Sp := fun vs H Q E => ∃ ws rest, vs = ws ++ rest ∧ ws.length = 2 ∧ rest.length ≤ sizeLine ∧ ∀ p, H p = Option.none → spTInit K C (ws ++ [V.ref p]) (upd H p (.tup rest)) Q E
def spTRead (K : PySem.W.Frag) (C : Addr) : Sp := fun vs H Q _ => ∃ (w : Nat) (rows : List (List Nat)), vs = [.ref C, .int (w : Int), .str (textT rows)] ∧ 1 ≤ w ∧ w ≤ 6 ∧ (∀ r ∈ rows, RowOk w r) ∧ rows.length ≤ 400 ∧ ∀ (x : Addr) (H' : Hp), Same H H' → H x = none → TableAt K C H' x w rows → Q (.ref x) H'
structure MakeT (P : Program) (w : World) (K : PySem.W.Frag) (mg : Str → Option Value) (base : Heap) (C : Addr) (l : Nat) where
  fN : Addr
  M : Mk K C fN
  ok : ∀ k, l ≤ k → FnR P w K mg base CX0 k fN (spTInitR K C)
structure ReadT (P : Program) (w : World) (K : PySem.W.Frag) (mg : Str → Option Value) (base : Heap) (C : Addr) (l : Nat) where
  mc : Value
  pD : Addr
  fD : Addr
  rD : ClX.CRead K C mc
  cD : ClX.CMet K C mc "read" pD fD
  ok : ∀ k, l ≤ k → FnR P w K mg base CX0 k fD (spTRead K C)
section
variable {P : Program} {w : World} {K : PySem.W.Frag} {mg : Str → Option Value} {base : Heap} {kA : Addr}
abbrev nTI : List Str := ["self", "width", "rows", "row"]
theorem scTInit : FnScope nTI ((["self", "width"] : List Str) ++ ([("rows" : Str)] : List Str)) (defScope sTInit) := ⟨rfl, rfl, rfl, by decide +kernel, rfl, by decide +kernel, by decide +kernel⟩
theorem ok_tinit {f C : Addr} {fd : FuncData} {k : Nat} (F : Fun K "__init__" "Table.__init__" sTInit f fd) (T : Glb K mg kA) (TT : GlbT mg) (TC : TxtT K mg C) (cW : Cal P w K mg base "is_width" ["thing"] spIsWidth 2) (cR : Cal P w K mg base "is_row" ["width", "thing"] (spIsRow K) 2) :
    FnR P w K mg base CX0 (k + 3) f (spTInitR K C) := by
  have GW := cW.ok (k + 2) (by omega)
  have GR := cR.ok (k + 2) (by omega)
  obtain ⟨oc, od, kV, doc, pm, an, cdv, ct, osl, rfl, lk, hcd⟩ := F.ex
  refine StX.fn_star (ps := ["self", "width"]) (pv := "rows") lk hcd scTInit StX.cxUp_none (fun us rest hl => ?_) (fun A outer s H vs Q E hr h => ?_)
  · match us, hl with
    | [a, b], _ =>
      cases rest with
      | nil => rfl
      | cons c r => rfl
  · obtain ⟨x, dx, w, p, us, rows, rfl, hx, w1, w6, hp, dp, ok, few, q⟩ := h
    obtain ⟨tm, hmr⟩ := TT.mr
    have n := scTInit.nd
    refine ⟨_, PSs.nox (pss_cons (ps_if (pt_not (pt_val (pe_call GW hr rfl cW.g cW.kp cW.b .nil pass0 (pa_cons (pv 1) pa_nil)))) (pss_one ps_never) pss_nil)
      (pss_cons (ps_if (pt_cmpR op_gt (pe_callB call_len_seq (by rfl) T.len PySem.boot_len (pa_cons (pv 2) pa_nil)) (pe_glob (v := .int 400) rfl hmr ⟨_, rfl⟩) (nomark _)) (pss_one ps_never) pss_nil)
      (pss_cons (ps_if (pt_not (pt_val (pe_callB (cr_all rfl) (by rfl) T.all (by decide +kernel) (pa_cons (pe_lc (own := [("row", 3)]) (g := gName 3) (tt := tYes) (te := tCall (spIsRow K) [] E0 (tCons (tVar 1) (tCons (tVar 3) tNil))) rfl n (pi_tup (pv 2)) (blkOk_by (N := nTI) (sc := defScope sTInit) (by decide +kernel))
        (fun _ _ _ _ _ => (pg_name (i := 3) n rfl (.inl rfl))) (fun _ _ _ _ _ => pts_nil) (fun _ _ _ _ _ => (pe_call GR hr rfl cR.g cR.kp cR.b .nil pass0 (pa_cons (pv 1) (pa_cons (pv 3) pa_nil))))) pa_nil)))) (pss_one ps_never) pss_nil)
      (pss_cons (ps_fld (pv 0) (pv 1) rfl) (pss_one (ps_fld (pv 0) (pv 2) rfl)))))), ?_⟩
    have ul : us.length = rows.length := by rw [dps_len dp, List.length_map]
    refine ⟨_, rfl, w, rfl, w1, w6, _, rfl, iteF ?_⟩
    refine ⟨_, rfl, p, us, rfl, .inr (.inl (.inl hp)), _, _, rfl, rfl, _, rfl, ?_⟩
    rw [show decide (((us.length : Nat) : Int) > (400 : Int)) = false from decide_eq_false (by omega)]
    refine iteF ?_
    refine ⟨_, rfl, p, rfl, ⟨_, .inl (.inl hp)⟩, fun D nD => ?_⟩
    refine lc_tup (xs := us) (fun i H1 => Same H (wo H1 D) ∧ H1 D = some (.lst ((List.replicate i true).map V.bl)) ∧ i ≤ 400) ⟨?_, upd_same, by omega⟩ (fun i H1 _ z => .inl (.inl (wo_le D _ _ (z.1 _ _ hp)))) ?_ ?_
    · rw [wo_upd]
      exact fun b o e => by rw [wo_ne (ne_of_none e nD)]; exact e
    · rintro i v H1 hv ⟨e1, e2, e3⟩
      obtain ⟨r, hr2, dr⟩ := dps_gat dp hv
      have il := (List.getElem?_eq_some_iff.mp hr2).1
      obtain ⟨t, rfl, ht⟩ := gd_at dr
      have sx : Same (wo H x) H1 := (wo_le x).trans (e1.trans (wo_le D))
      refine ⟨rfl, yes_if ⟨_, rfl, _, rfl, w, t, r, rfl, same_t sx ht, ok r (List.mem_of_getElem? hr2), w6, fun H2 s2 => ?_⟩⟩
      refine ⟨_, s2 _ _ e2, small1000 (by simp; omega), ?_, ?_, by omega⟩
      · rw [wo_upd]
        exact e1.trans (wo_same s2)
      · rw [upd_same, List.replicate_succ', List.map_append]
        rfl
    rintro H1 ⟨e1, e2, _⟩
    refine ⟨D, _, rfl, SqL.of e2, _, rfl, ?_⟩
    rw [all_true]
    refine iteF ?_
    have m1 : Same H H1 := e1.trans (wo_le D)
    have hx1 := m1 _ _ hx
    refine ⟨_, rfl, _, rfl, x, C, dx, _, rfl, hx1, TC.cl, TC.nS, (by show 0 < 1000; decide), ?_⟩
    refine ⟨_, rfl, _, rfl, x, C, dx, _, rfl, upd_same, TC.cl, TC.nL, (by show 1 < 1000; decide), ?_⟩
    refine q _ (fun b o e hb => ?_) upd_same
    rw [upd_ne hb, upd_ne hb]
    exact m1 _ _ e
abbrev nTR : List Str := ["cls", "width", "text", "found"]
theorem scTRead : FnScope nTR ["cls", "width", "text"] (defScope sTRead) := ⟨rfl, rfl, rfl, by decide +kernel, rfl, by decide +kernel, by decide +kernel⟩
theorem ok_tread {f C : Addr} {fd : FuncData} {k : Nat} (F : Fun K "read" "Table.read" sTRead f fd) (T : Glb K mg kA) (m : MakeT P w K mg base C 3) (cW : Cal P w K mg base "is_width" ["thing"] spIsWidth 2) (cO : Cal P w K mg base "rows_of" ["width", "text"] (spRowsOf K) 2) : FnOk P w K mg base CX0 (k + 5) f fd ["cls", "width", "text"] (spTRead K C) := by
  have GW := cW.ok (k + 4) (by omega)
  have GO := cO.ok (k + 4) (by omega)
  have GN := m.ok (k + 3) (by omega)
  refine F.ok scTRead (fun vs H Q E h => ?_) (fun cdv A outer s H vs Q E hr h => ?_)
  · obtain ⟨w, rows, rfl, _⟩ := h
    rfl
  · obtain ⟨w, rows, rfl, w1, w6, ok, few, q⟩ := h
    have n := scTRead.nd
    refine ⟨_, pss_cons (ps_if (pt_not (pt_val (pe_call GW hr rfl cW.g cW.kp cW.b .nil pass0 (pa_cons (pv 1) pa_nil)))) (pss_one ps_never) pss_nil)
      (pss_cons (ps_if (pt_not (pt_val (pe_callB call_isi (by rfl) T.isi (by decide +kernel) (pa_cons (pv 2) (pa_cons (pe_bltn (v := .ty "str") (by rfl) T.str (by decide +kernel) rfl) pa_nil))))) (pss_one ps_never) pss_nil)
      (pss_cons (ps_set (i := 3) n rfl (.inl rfl) (pe_call GO hr rfl cO.g cO.kp cO.b .nil pass0 (pa_cons (pv 1) (pa_cons (pv 2) pa_nil))))
      (pss_cons (ps_if (pt_cmpR op_isN (pv 3) pe_non (nomark _)) (pss_one ps_never) pss_nil)
      (pss_one (ps_ret (pe_makeLS (i := 0) m.M GN hr rfl (.inl rfl) pass0 (pa_cons (pv 1) (StX.pa_star (pv 3) pa_nil)))))))), ?_⟩
    refine ⟨_, rfl, w, rfl, w1, w6, _, rfl, iteF ?_⟩
    refine ⟨_, rfl, _, _, _, _, true, rfl, .ty _, .base (.str _), kit_ty (by decide +kernel), _, rfl, iteF ?_⟩
    refine ⟨_, rfl, _, rfl, w, rows, rfl, w1, w6, ok, few, fun p us H1 s1 np hp dp => ?_⟩
    refine ⟨_, rfl, rfl, _, rfl, iteF ?_⟩
    have ul : us.length = rows.length := by rw [dps_len dp, List.length_map]
    refine ⟨rfl, _, rfl, _, rfl, p, us, rfl, .inr (SqL.of hp), fun x dx nx ndx ne => ?_⟩
    rw [List.append_nil]
    refine ⟨[.ref x, .int (w : Int)], us, rfl, rfl, Nat.le_of_lt (small1000 (by omega)), fun g ng => ?_⟩
    have gx : x ≠ g := fun z => by rw [← z, upd_same] at ng; cases ng
    have gdx : dx ≠ g := fun z => by rw [← z, upd_ne ne, upd_same] at ng; cases ng
    have ng1 : H1 g = none := by
      rw [upd_ne gx.symm, upd_ne gdx.symm] at ng
      exact ng
    have keep : ∀ b o, H1 b = some o → (upd (upd (upd H1 dx (.own x)) x (.ins C dx [])) g (.tup us)) b = some o := fun b o e => by
      rw [upd_ne (ne_of_none e ng1), upd_ne (ne_of_none e nx), upd_ne (ne_of_none e ndx)]
      exact e
    refine ⟨x, dx, w, g, us, rows, rfl, by rw [upd_ne gx]; exact upd_same, w1, w6, upd_same, dps_same ?_ _ _ dp, ok, few, fun H' k1 k2 => ⟨rfl, q x H' ?_ ?_ ⟨dx, g, us, k2, ?_, ?_⟩⟩⟩
    · exact fun b o e => by
        have e1 := wo_le p _ _ e
        rw [wo_ne (ne_of_none e1 nx)]
        exact keep b o e1
    · exact fun b o e => k1 b o (keep b o (s1 _ _ e)) (ne_of_none (s1 _ _ e) nx)
    · cases z : H x with
      | none => rfl
      | some o => rw [s1 _ _ z] at nx; cases nx
    · exact k1 g _ upd_same gx.symm
    · refine dps_same (fun b o e => ?_) _ _ dp
      have e1 := wo_le p _ _ e
      exact k1 b o (keep b o e1) (ne_of_none e1 nx)
end
end CC
namespace CC
open PySem L2 TL
/-- Table(width, *rows), the rows good ones -/
theorem mkT_go {K : PySem.W.Frag} {C : Addr} {H : Hp} {w : Nat} {us : List V} {rows : List (List Nat)} {x dx : Addr} {Q : VK} {E : XK} (w1 : 1 ≤ w) (w6 : w ≤ 6) (ok : ∀ r ∈ rows, RowOk w r) (few : rows.length ≤ 400) (dp : DpAll K H us (rows.map gd)) (nx : H x = none) (ndx : H dx = none) (ne : dx ≠ x)
    (q : ∀ H', Same H H' → TableAt K C H' x w rows → Q .non H') : spTInitR K C (V.ref x :: V.int (w : Int) :: (us ++ [])) (upd (upd H dx (.own x)) x (.ins C dx [])) Q E := by
  have ul : us.length = rows.length := by rw [dps_len dp, List.length_map]
  rw [List.append_nil]
  refine ⟨[.ref x, .int (w : Int)], us, rfl, rfl, Nat.le_of_lt (small1000 (by omega)), fun g ng => ?_⟩
  have gx : x ≠ g := fun z => by rw [← z, upd_same] at ng; cases ng
  have gdx : dx ≠ g := fun z => by rw [← z, upd_ne ne, upd_same] at ng; cases ng
  have ng1 : H g = none := by
    rw [upd_ne gx.symm, upd_ne gdx.symm] at ng
    exact ng
  have keep : ∀ b o, H b = some o → (upd (upd (upd H dx (.own x)) x (.ins C dx [])) g (.tup us)) b = some o := fun b o e => by
    rw [upd_ne (ne_of_none e ng1), upd_ne (ne_of_none e nx), upd_ne (ne_of_none e ndx)]
    exact e
  refine ⟨x, dx, w, g, us, rows, rfl, by rw [upd_ne gx]; exact upd_same, w1, w6, upd_same, dps_same ?_ _ _ dp, ok, few, fun H' k1 k2 => q H' ?_ ⟨dx, g, us, k2, ?_, ?_⟩⟩
  · exact fun b o e => by
      rw [wo_ne (ne_of_none e nx)]
      exact keep b o e
  · exact fun b o e => k1 b o (keep b o e) (ne_of_none e nx)
  · exact k1 g _ upd_same gx.symm
  · exact dps_same (fun b o e => k1 b o (keep b o e) (ne_of_none e nx)) _ _ dp
end CC
namespace CC
open PySem L2
/-- the heap without some objects -/
def wos (H : Hp) (l : List Addr) : Hp := fun b => if b ∈ l then none else H b
section
variable {H H' H2 : Hp} {l m : List Addr} {b s : Addr} {o : HO}
theorem wos_in (h : b ∉ l) : wos H l b = H b := if_neg h
theorem wos_at (h : wos H l b = some o) : b ∉ l ∧ H b = some o := by
  by_cases e : b ∈ l
  · unfold wos at h
    rw [if_pos e] at h
    cases h
  · exact ⟨e, (wos_in e).symm.trans h⟩
theorem wos_le (l : List Addr) : Same (wos H l) H := fun b o e => (wos_at e).2
theorem wos_mono (h : ∀ b ∈ l, b ∈ m) : Same (wos H m) (wos H l) := fun b o e => by
  obtain ⟨n, e⟩ := wos_at e
  rw [wos_in fun z => n (h b z)]
  exact e
/-- all that stands, but for l, stays -/
def Kp (l : List Addr) (H H' : Hp) : Prop := ∀ b o, H b = some o → b ∉ l → H' b = some o
theorem Kp.same (k : Kp l H H') : Same (wos H l) (wos H' l) := fun b o e => by
  obtain ⟨n, e⟩ := wos_at e
  rw [wos_in n]
  exact k b o e n
theorem Kp.to (k : Kp l H H') : Same (wos H l) H' := k.same.trans (wos_le l)
theorem Kp.trans (a : Kp l H H') (c : Kp l H' H2) : Kp l H H2 := fun b o e n => c b o (a b o e n) n
theorem Kp.up (k : Kp l H H') (h : ∀ b ∈ l, b ∈ m) : Kp m H H' := fun b o e n => k b o e fun z => n (h b z)
theorem Kp.of (e : Same H H') : Kp l H H' := fun b o q _ => e b o q
theorem Kp.upd (h : s ∈ l) : Kp l H (L2.upd H s o) := fun b u e n => by
  rw [upd_ne (a := s) (b := b) fun z => n (by rw [z]; exact h)]
  exact e
theorem Kp.new (h : H s = none) : Kp l H (L2.upd H s o) := .of (same_new h)
theorem Kp.ran (r : Ran H H' s) (h : s ∈ l) : Kp l H H' := fun b o e n => r.at_ e fun z => n (by rw [z]; exact h)
theorem Same.kp (e : Same H H') (k : Kp l H' H2) : Kp l H H2 := fun b o q n => k b o (e b o q) n
theorem wos_nil : wos H [] = H := by
  funext b
  exact wos_in (by simp)
theorem wo_wos : wo H s = wos H [s] := by
  funext b
  by_cases e : b = s
  · subst e
    rw [wo_at]
    unfold wos
    rw [if_pos (List.mem_singleton.mpr rfl)]
  · rw [wo_ne e, wos_in (by simpa using e)]
end
end CC
namespace CC
open PySem L2 TL
/-- a property of an own class: a field's value -/
structure Prp (P : Program) (w : World) (K : PySem.W.Frag) (mg : Str → Option Value) (base : Heap) (C : Addr) (f fld : Str) where
  p : Addr
  g : Addr
  fd : FuncData
  hp : PropOf K C f p g
  ok : ∀ k, 1 ≤ k → FnOk P w K mg base CX0 k g fd ["self"] (getSp C fld)
  b : Binds K fd ["self"] []
/-- a property, by its promise -/
structure PrpG (P : Program) (w : World) (K : PySem.W.Frag) (mg : Str → Option Value) (base : Heap) (C : Addr) (f : Str) (sp : Sp) where
  p : Addr
  g : Addr
  fd : FuncData
  hp : PropOf K C f p g
  ok : ∀ k, 1 ≤ k → FnOk P w K mg base CX0 k g fd ["self"] sp
  b : Binds K fd ["self"] []
end CC
namespace CC
open PySem L2 TL
/-! ### a log: its rules, its table, the tables that were -/
def fldL (b h p : Addr) : List (Str × V) := [("book", .ref b), ("held", .ref h), ("past", .ref p)]
theorem putF_at (f : Str) (v u : V) (r : List (Str × V)) : putF f v ((f, u) :: r) = (f, v) :: r := if_pos rfl
theorem putF_on {f g : Str} (n : ¬ g = f) (v u : V) (r : List (Str × V)) : putF f v ((g, u) :: r) = (g, u) :: putF f v r := if_neg n
theorem putF_len (f : Str) (v : V) : ∀ fs : List (Str × V), (putF f v fs).length ≤ fs.length + 1
  | [] => Nat.le_refl _
  | (g, x) :: r => by
    show (if g = f then (g, v) :: r else (g, x) :: putF f v r).length ≤ _
    split
    · exact Nat.le_succ _
    · exact Nat.succ_le_succ (putF_len f v r)
theorem n_bh : ¬ (("book" : Str) = "held") := by decide +kernel
theorem n_bp : ¬ (("book" : Str) = "past") := by decide +kernel
theorem n_hp : ¬ (("held" : Str) = "past") := by decide +kernel
theorem fldL_put (b h p : Addr) : putF "past" (.ref p) (putF "held" (.ref h) (putF "book" (.ref b) [])) = fldL b h p := by
  show putF "past" (.ref p) (putF "held" (.ref h) [("book", .ref b)]) = _
  rw [putF_on n_bh]
  show putF "past" (.ref p) [("book", .ref b), ("held", .ref h)] = _
  rw [putF_on n_bp, putF_on n_hp]
  rfl
theorem fldL_held (b h p t : Addr) : putF "held" (.ref t) (fldL b h p) = fldL b t p := by
  unfold fldL
  rw [putF_on n_bh, putF_at]
theorem fldL_at (b h p : Addr) (m : Str) : (fldL b h p).lookup m = if m = "past" then some (.ref p) else if m = "held" then some (.ref h) else if m = "book" then some (.ref b) else none := by
  rw [← fldL_put, lookup_putF, lookup_putF, lookup_putF]
  rfl
theorem fldL_b (b h p : Addr) : (fldL b h p).lookup ("book" : Str) = some (.ref b) := by
  rw [fldL_at, if_neg n_bp, if_neg n_bh, if_pos rfl]
theorem fldL_h (b h p : Addr) : (fldL b h p).lookup ("held" : Str) = some (.ref h) := by
  rw [fldL_at, if_neg n_hp, if_pos rfl]
theorem fldL_p (b h p : Addr) : (fldL b h p).lookup ("past" : Str) = some (.ref p) := by
  rw [fldL_at, if_pos rfl]
theorem fldL_no (b h p : Addr) {m : Str} (h1 : ¬ m = "past") (h2 : ¬ m = "held") (h3 : ¬ m = "book") : (fldL b h p).lookup m = none := by
  rw [fldL_at, if_neg h1, if_neg h2, if_neg h3]
/-- a log at x: r its rules, t its table, q the list of the tables that were -/
structure LogAt (K : PySem.W.Frag) (C CR CT : Addr) (H : Hp) (x r q : Addr) (w : Nat) (rs : List R) (rows : List (List Nat)) (n : Nat) : Prop where
  at_ : ∃ dx t, H x = some (.ins C dx (fldL r t q)) ∧ TableAt K CT (wos H [x, q]) t w rows
  book : RulesAt K CR (wos H [x, q]) r w rs
  past : ∃ hs, H q = some (.lst hs) ∧ hs.length = n
theorem LogAt.ne {K : PySem.W.Frag} {C CR CT : Addr} {H : Hp} {x r q : Addr} {w n : Nat} {rs : List R} {rows : List (List Nat)} (h : LogAt K C CR CT H x r q w rs rows n) : x ≠ q := by
  obtain ⟨dx, t, h1, _⟩ := h.at_
  obtain ⟨hs, h2, _⟩ := h.past
  exact ne_of h1 h2 (by intro z; cases z)
theorem LogAt.keep {K : PySem.W.Frag} {C CR CT : Addr} {H H' : Hp} {x r q : Addr} {w n : Nat} {rs : List R} {rows : List (List Nat)} (h : LogAt K C CR CT H x r q w rs rows n) (e : Same H H') : LogAt K C CR CT H' x r q w rs rows n := by
  obtain ⟨⟨dx, t, h1, h2⟩, h3, ⟨hs, h4, h5⟩⟩ := h
  have k : Same (wos H [x, q]) (wos H' [x, q]) := (Kp.of e).same
  exact ⟨⟨dx, t, e _ _ h1, h2.same k⟩, h3.same k, ⟨hs, e _ _ h4, h5⟩⟩
/-- a change elsewhere, s say -/
theorem LogAt.kp {K : PySem.W.Frag} {C CR CT : Addr} {H H' : Hp} {x r q : Addr} {w n : Nat} {rs : List R} {rows : List (List Nat)} {l : List Addr} (k : Kp l H H') (nx : x ∉ l) (nq : q ∉ l) (at_ : ∃ dx t, H x = some (.ins C dx (fldL r t q)) ∧ TableAt K CT (wos H (x :: q :: l)) t w rows) (book : RulesAt K CR (wos H (x :: q :: l)) r w rs) (past : ∃ hs, H q = some (.lst hs) ∧ hs.length = n) : LogAt K C CR CT H' x r q w rs rows n := by
  obtain ⟨dx, t, h1, h2⟩ := at_
  obtain ⟨hs, h4, h5⟩ := past
  have k2 : Same (wos H (x :: q :: l)) (wos H' [x, q]) := fun b o e => by
    obtain ⟨nb, e⟩ := wos_at e
    rw [wos_in fun z => nb (by simp only [List.mem_cons, List.not_mem_nil, or_false] at z ⊢; rcases z with z | z; exact .inl z; exact .inr (.inl z))]
    exact k b o e fun z => nb (List.mem_cons_of_mem _ (List.mem_cons_of_mem _ z))
  exact ⟨⟨dx, t, k _ _ h1 nx, h2.same k2⟩, book.same k2, ⟨hs, k _ _ h4 nq, h5⟩⟩
structure TxtL (K : PySem.W.Frag) (mg : Str → Option Value) (C : Addr) : Prop where
  cl : Cls K C
  nB : NoAttr K C "book"
  nH : NoAttr K C "held"
  nP : NoAttr K C "past"
  mgC : mg "Log" = some (.ref C)
/-- a class of logs: Log, or one below it -/
structure TxtC (K : PySem.W.Frag) (C : Addr) : Prop where
  cl : Cls K C
  nB : NoAttr K C "book"
  nH : NoAttr K C "held"
  nP : NoAttr K C "past"
theorem TxtL.c {K : PySem.W.Frag} {mg : Str → Option Value} {C : Addr} (h : TxtL K mg C) : TxtC K C := ⟨h.cl, h.nB, h.nH, h.nP⟩
/-- a method of an own class, by its promise -/
structure MthG (P : Program) (w : World) (K : PySem.W.Frag) (mg : Str → Option Value) (base : Heap) (C : Addr) (n : Str) (ps : List Str) (sp : Sp) (l : Nat) where
  f : Addr
  fd : FuncData
  m : Meth K C n f
  ok : ∀ k, l ≤ k → FnOk P w K mg base CX0 k f fd ps sp
  b : Binds K fd ps []
/-- a property of an own class, by its promise, from a level on -/
structure PrpL (P : Program) (w : World) (K : PySem.W.Frag) (mg : Str → Option Value) (base : Heap) (C : Addr) (f : Str) (sp : Sp) (l : Nat) where
  p : Addr
  g : Addr
  fd : FuncData
  hp : PropOf K C f p g
  ok : ∀ k, l ≤ k → FnOk P w K mg base CX0 k g fd ["self"] sp
  b : Binds K fd ["self"] []
/-- C(a) -/
structure MakeG (P : Program) (w : World) (K : PySem.W.Frag) (mg : Str → Option Value) (base : Heap) (C : Addr) (ps : List Str) (sp : Sp) (l : Nat) where
  f : Addr
  fd : FuncData
  M : Mk K C f
  ok : ∀ k, l ≤ k → FnOk P w K mg base CX0 k f fd ps sp
  b : Binds K fd ps []
end CC
namespace CC
open PySem L2 TL
def spLChk (K : PySem.W.Frag) : Sp := fun vs H Q _ => ∃ (x p : Addr) (us : List V), vs = [.ref x, .ref p] ∧ (SqL K H p us ∨ SqT K H p us) ∧ us.length ≤ 400 ∧ Q .non H
def spLChg (K : PySem.W.Frag) (C : Addr) : Sp := fun vs H Q _ => ∃ (x dx r t q t' : Addr) (hs : List V), vs = [.ref x, .ref t'] ∧ H x = some (.ins C dx (fldL r t q)) ∧ H q = some (.lst hs) ∧ hs.length < 1000 ∧ Q .non (upd (upd H q (.lst (hs ++ [.ref t]))) x (.ins C dx (fldL r t' q)))
section
variable {P : Program} {w : World} {K : PySem.W.Frag} {mg : Str → Option Value} {base : Heap} {kA : Addr}
end
end CC
namespace CC
open PySem L2
section
variable {P : Program} {w : World} {K : PySem.W.Frag} {mg : Str → Option Value} {base : Heap} {kA : Addr}
end
end CC
namespace CC
open PySem PySem.Spec PyProof.Rows L2
def rInDT (K : PySem.W.Frag) : R2 := fun x y H Q => ∃ d ds, Dp K H x d ∧ Dp K H y (.tuple ds) ∧ SeqAt.shaped d = true ∧ SeqAt.shaped (.list ds) = true ∧ Q (.bl (ds.any fun z => PyData.eqv z d)) H
def rNotInDT (K : PySem.W.Frag) : R2 := fun x y H Q => ∃ d ds, Dp K H x d ∧ Dp K H y (.tuple ds) ∧ SeqAt.shaped d = true ∧ SeqAt.shaped (.list ds) = true ∧ Q (.bl (!ds.any fun z => PyData.eqv z d)) H
section
variable {X : Cx}
theorem op_inDT (hu : X.A.units + 65 < cLine) : OpR X (compareOp .In) (rInDT X.K) := by
  intro pins s σ H x y v u Q I rx ry h
  obtain ⟨d, ds, hd, he, sd, se, q⟩ := h
  obtain ⟨as, r1⟩ := Dp.reads I d x v hd rx
  obtain ⟨bs, r2⟩ := Dp.reads I (.tuple ds) y u he ry
  exact SeqAt.in_tuple_reads r2 r1 (SeqAt.canLay_of_shaped se) (SeqAt.canLay_of_shaped sd) (room_in_shaped sd hu) ⟨.bl _, H, I, rfl, q⟩
theorem op_notInDT (hu : X.A.units + 65 < cLine) : OpR X (compareOp .NotIn) (rNotInDT X.K) := by
  intro pins s σ H x y v u Q I rx ry h
  obtain ⟨d, ds, hd, he, sd, se, q⟩ := h
  obtain ⟨as, r1⟩ := Dp.reads I d x v hd rx
  obtain ⟨bs, r2⟩ := Dp.reads I (.tuple ds) y u he ry
  exact SeqAt.notIn_tuple_reads r2 r1 (SeqAt.canLay_of_shaped se) (SeqAt.canLay_of_shaped sd) (room_in_shaped sd hu) ⟨.bl _, H, I, rfl, q⟩
end
end CC
namespace CC
open PySem PySem.Spec PyProof.Rows L2
/-! ### x in a tuple of data, C(e, *y), an own + -/
section
variable {X : Cx}
variable {CX : CXT} {k : Nat} {f C : Addr} {sp : Sp} {E : XK} {x : Str} {e : Expr} {es : List Expr} {t : TA} {p pos : Pos}
theorem pe_makeRS (M : Mk X.K C f) (F : FnR X.prog X.w X.K X.mg X.base CX k f sp) (hr : Room (k + 1) X.A) (hg : Gl X x) (hm : X.mg x = some (.ref C)) (hx : Passes CX X E) (ha : PA X (e :: es) t) (hdb : (x == ("__debug__" : Str)) = false := by decide)
    (he : starEach (e :: es) X.env = (false, eval e X.env) :: starEach es X.env := by rfl) (hst : (backTo pos (starEach es X.env)).any (·.1) = true := by rfl) : PE X (.Call (.Name x p) (e :: es) [] pos) (StX.tMakeR C sp E t) := by
  refine ⟨fun pins s σ H Q I h => ?_⟩
  refine wpAny_Call_Name_kw (ld_glob I hg hm ?_ hdb)
  refine PySem.W.callWith_S2 (h₀ := X.base) I.ok.mod.kin M.kp (thn (ha.run pos pins s σ H _ I h) fun us s1 ⟨vs, H1, I1, r, q⟩ => ⟨I1.kIn, ?_⟩) he hst
  exact StX.run_makeR M F hr hx I1 r q
def rOwnB (C : Addr) (sp : Sp) (E : XK) : R2 := fun x y H Q => ∃ a dx fs b dy gs, x = .ref a ∧ y = .ref b ∧ H a = some (.ins C dx fs) ∧ H b = some (.ins C dy gs) ∧ sp [x, y] H Q E
theorem op_ownB {op : Operator} {g : Addr} (hc : PySem.W.selfFirst X.K C = true) (hs : PySem.W.findIn X.K (.ref C) (PySem.dunder op.info.2) = some (some (.ref g))) (hf : PySem.W.isFn X.K (.ref g) = true) (F : FnR X.prog X.w X.K X.mg X.base CX k g sp)
    (hr : Room k X.A) (hx : Passes CX X E) : OpR X (binaryOp op) (rOwnB C sp E) := by
  intro pins s σ H x y v u Q I rx ry h
  obtain ⟨a, dx, fs, b, dy, gs, rfl, rfl, ha, hb, q⟩ := h
  cases (show v = Value.ref a from rx)
  cases (show u = Value.ref b from ry)
  obtain ⟨mA, J, _⟩ := ins_get I.hok ha
  obtain ⟨mB, J', _⟩ := ins_get I.hok hb
  obtain ⟨od, J, _⟩ := J.look
  obtain ⟨od', J', _⟩ := J'.look
  obtain ⟨m, hF⟩ := I.fr
  refine PySem.W.binop_K (op := op) hF I.ok.mod.kin J J'.type hc hs hf ?_
  refine wpAny_mono (wpAny_call (run_fnR (us := [.ref a, .ref b]) (vs := [.ref a, .ref b]) F hr hx I (.cons rfl (.cons rfl .nil)) q)) (fun w s' z => ?_) fun _ _ x => x
  obtain ⟨z', H', I', rz, qz⟩ := z
  exact SlX.cmpback rz ⟨z', H', I', rz, qz⟩
end
def addR (rs ts : List R) : List R := rs ++ ts.filter fun t => !decide (t ∈ rs)
theorem addR_ok {w : Nat} {rs ts : List R} (h1 : ∀ r ∈ rs, r.ok w) (h2 : ∀ r ∈ ts, r.ok w) : ∀ r ∈ addR rs ts, r.ok w := fun r hr => by
  rcases List.mem_append.mp hr with z | z
  · exact h1 r z
  · exact h2 r (List.mem_filter.mp z).1
theorem addR_nodup {rs ts : List R} (h1 : rs.Nodup) (h2 : ts.Nodup) : (addR rs ts).Nodup := by
  refine List.nodup_append.mpr ⟨h1, h2.filter _, fun a ha b hb e => ?_⟩
  subst e
  have := (List.mem_filter.mp hb).2
  rw [decide_eq_true ha] at this
  cases this
theorem addR_mem {rs ts : List R} {r : R} : r ∈ addR rs ts ↔ r ∈ rs ∨ r ∈ ts := by
  unfold addR
  rw [List.mem_append, List.mem_filter]
  constructor
  · rintro (h | h)
    · exact .inl h
    · exact .inr h.1
  · rintro (h | h)
    · exact .inl h
    · by_cases e : r ∈ rs
      · exact .inl e
      · exact .inr ⟨h, by rw [decide_eq_false e]; rfl⟩
end CC
namespace CC
open PySem L2 TL
/-- the log at x has changed: another table, the old one behind the others -/
def LogTo (K : PySem.W.Frag) (C CR CT : Addr) (H : Hp) (x r q : Addr) (w : Nat) (rs : List R) (rows : List (List Nat)) (n : Nat) (Q : VK) : Prop := ∀ H', Kp [x, q] H H' → LogAt K C CR CT H' x r q w rs rows n → Q .non H'
def spLAdd (K : PySem.W.Frag) (C CR CT : Addr) : Sp := fun vs H Q _ => ∃ (x r q tr : Addr) (w : Nat) (rs : List R) (rows : List (List Nat)) (row : List Nat) (n : Nat), vs = [.ref x, .ref tr] ∧ LogAt K C CR CT H x r q w rs rows n ∧ 1 ≤ w ∧ w ≤ 6 ∧ SqT K (wos H [x, q]) tr (nms row) ∧ RowOk w row ∧ (∀ x ∈ rows, RowOk w x) ∧ rows.length < 400 ∧ n < 1000 ∧
  LogTo K C CR CT H x r q w rs (rows ++ [row]) (n + 1) Q
/-- an own object and a list are no tuples -/
theorem wos2_T {H : Hp} {x q C dx : Addr} {fs : List (Str × V)} {hs : List V} (hx : H x = some (.ins C dx fs)) (hq : H q = some (.lst hs)) : SameT H (wos H [x, q]) := by
  have key : ∀ b o, H b = some o → o ≠ .ins C dx fs → o ≠ .lst hs → wos H [x, q] b = some o := fun b o e n1 n2 => by
    have bx : b ≠ x := fun z => by rw [z, hx] at e; exact n1 (Option.some.inj e).symm
    have bq : b ≠ q := fun z => by rw [z, hq] at e; exact n2 (Option.some.inj e).symm
    rw [wos_in (by simp [bx, bq])]
    exact e
  exact ⟨fun b xs e => key b _ e (by intro z; cases z) (by intro z; cases z), fun b o xs e => key b _ e (by intro z; cases z) (by intro z; cases z)⟩
/-- what change leaves -/
theorem changed {K : PySem.W.Frag} {C CR CT : Addr} {H H1 H2 : Hp} {x r q dx t t' : Addr} {w n : Nat} {rs : List R} {rows rows' : List (List Nat)} {hs : List V} {Q : VK} (L : LogAt K C CR CT H x r q w rs rows n) (s1 : Same H H1) (s2 : Same H1 H2) (hx : H x = some (.ins C dx (fldL r t q))) (hq : H q = some (.lst hs)) (hl : hs.length = n) (nt : H1 t' = none) (tt : TableAt K CT H2 t' w rows') (to : LogTo K C CR CT H x r q w rs rows' (n + 1) Q) : Q .non (upd (upd H2 q (.lst (hs ++ [.ref t]))) x (.ins C dx (fldL r t' q))) := by
  have xq := L.ne
  have s02 := s1.trans s2
  have key : Same (wos H2 [x, q]) (wos (upd (upd H2 q (.lst (hs ++ [.ref t]))) x (.ins C dx (fldL r t' q))) [x, q]) := fun b o e => by
    obtain ⟨n1, e⟩ := wos_at e
    have bx : b ≠ x := fun z => n1 (by simp [z])
    have bq : b ≠ q := fun z => n1 (by simp [z])
    rw [wos_in n1, upd_ne bx, upd_ne bq]
    exact e
  refine to _ (fun b o e n1 => ?_) ⟨⟨dx, t', upd_same, ?_⟩, L.book.same (((Kp.of s02).same).trans key), hs ++ [.ref t], ?_, by rw [List.length_append, hl]; rfl⟩
  · have bx : b ≠ x := fun z => n1 (by simp [z])
    have bq : b ≠ q := fun z => n1 (by simp [z])
    rw [upd_ne bx, upd_ne bq]
    exact s02 _ _ e
  · obtain ⟨dt, g, us, h1, h2, h3⟩ := tt
    have a1 : t' ≠ x := fun z => by rw [z, s1 _ _ hx] at nt; cases nt
    have a2 : t' ≠ q := fun z => by rw [z, s1 _ _ hq] at nt; cases nt
    have a3 : g ≠ x := ne_of h2 (s02 _ _ hx) (by intro z; cases z)
    have a4 : g ≠ q := ne_of h2 (s02 _ _ hq) (by intro z; cases z)
    refine TableAt.same ⟨dt, g, us, ?_, ?_, gds_T (wos2_T (s02 _ _ hx) (s02 _ _ hq)) h3⟩ key
    · rw [wos_in (by simp [a1, a2])]
      exact h1
    · rw [wos_in (by simp [a3, a4])]
      exact h2
  · rw [upd_ne xq.symm]
    exact upd_same
section
variable {P : Program} {w : World} {K : PySem.W.Frag} {mg : Str → Option Value} {base : Heap} {kA : Addr}
abbrev nLAdd : List Str := ["self", "row", "rows"]
end
end CC
/-! ### set comprehensions, by a kind of sets -/
namespace SC
open PySem PySem.Spec PyProof.Rows L2
abbrev bareS (w : World) : Obj := { cls := .type "set", dict := none, data := .set #[] 0 (.fresh 0 0 (!w.params.followText "set-order")) }
/-- what stands at the place of a set while it is filled, and what one more member makes of it -/
structure Fam (α : Type) where
  ob : Program → World → Addr → α → HO
  ini : α
  new : ∀ (P : Program) (w : World) (H : Hp) (h : Heap), ObjOk P w H (h.push (bareS w)) h.objs.size (ob P w h.objs.size ini)
  put : PySem.W.Frag → Around → Hp → α → V → α → Prop
  add : ∀ {X : Cx} {pins : List (Addr × Obj)} {σ : L2.St} {H : Hp} {s : Shared} {E : Value → Shared → Prop} {D : Addr} {a b : α} {y : V} {v : Value} {Q : Value → Shared → Prop}, Inv X pins σ H s → H D = some (ob X.prog X.w D a) → put X.K X.A H a y b → RelV y v →
    (∀ s', Inv X pins σ (upd H D (ob X.prog X.w D b)) s' → Q .none s') → wpAny (model X.prog X.w) X.A (call (.builtin "set.add") [.ref D, v]) Q E s
section
variable {X : Cx} {α : Type}
def tSF (F : Fam α) (P : Program) (w : World) (K : PySem.W.Frag) (A : Around) (wi : TI) (g : TG) (tt : TT) (te : TE) (vs : List Nat) : TE := fun σ H Q => wi σ H fun J H1 => ∀ D, H1 D = none → ∃ W : Nat → Nat → Hp → Prop, (∃ m, W 0 m (upd H1 D (F.ob P w D F.ini))) ∧
  ∀ i m H, W i m H → (J.stop i H ∧ Q (.ref D) H) ∨ (J.go i H ∧ ∃ Nx : Hp → Prop, (∀ H', Nx H' → ∃ m', m' < m ∧ W (i + 1) m' H') ∧ ∀ x H', J.yld i H x H' → g x (wipe σ vs) H' fun σ2 H2 => wipe σ2 vs = wipe σ vs ∧ tt σ2 H2 fun b H3 =>
    if b = true then te σ2 H3 fun y H4 => ∃ c c' : α, H4 D = some (F.ob P w D c) ∧ F.put K A H4 c y c' ∧ Nx (upd H4 D (F.ob P w D c')) else Nx H3)
theorem core (F : Fam α) {pins : List (Addr × Obj)} {s : Shared} {σ : L2.St} {H : Hp} {Q : VK} {elt tg iter : Expr} {ifs : List Expr} {scope : Scope} {own : List (PySem.Str × Nat)} {pos pos' : Pos} {wi : TI} {g : TG} {tt : TT} {te : TE} {Qf : Value → Shared → Prop} {use : Option (Value → Sem Unit)}
    (calm : X.calm = true) (nd : X.N.Nodup) (I0 : Inv X pins σ H s) (walk : PI X tg iter wi) (bo : BlkOk X.N X.env.scope scope own)
    (aim : ∀ s H C cl fp, PG (X.blk s H scope (compEnvC scope cl C X.env) fp) tg g) (tst : ∀ s H C cl fp, PTs (X.blk s H scope (compEnvC scope cl C X.env) fp) ifs tt)
    (val : ∀ s H C cl fp, PE (X.blk s H scope (compEnvC scope cl C X.env) fp) elt te) (plain : ∀ x, foldedSetIterable iter X.env x = pure x)
    (ask : tSF F X.prog X.w X.K X.A wi g tt te (own.map (·.2)) σ H Q)
    (out : ∀ D C s' m H', Inv X pins σ H' s' → Q (.ref D) H' → s'.heap.Ns C m → FpOk X pins H' C → compPost (model X.prog X.w) X.A X.xe use Qf (.ref D) C (.ok .next) s') :
    wpAny (model X.prog X.w) X.A (comprehension (.SetComp elt [⟨tg, iter, ifs, 0⟩] scope pos) scope X.env pos' (newSet (.type "set")) false (eval iter X.env) use) Qf X.xe s := by
  have clo : ∀ y ∈ scope.names, y.2 = .free → ∃ c, X.env.cells.lookup y.1 = some c := fun y my ey => by
    rcases bo.free y my ey with z | z
    · exact I0.ok.has _ (.inl z)
    · exact I0.ok.has _ (.inr z)
  refine wpAny_comprehension_free (use := use) rfl plain (closure_ok clo) bo.kind (fun y my ey => by rw [bo.uniq y my, ey]) (thn (walk.run pins s σ H _ I0 ask) fun v0 sa ha => thn ha fun v1 sb hb => ?_)
  obtain ⟨itA, fp, tn, J, Hb, rfl, Ib, Tn, stb, fpb, qb⟩ := hb
  refine PpSet.newSet_ok (newEnv_comp ?_)
  obtain ⟨D, eD⟩ : ∃ D, D = sb.heap.objs.size := ⟨_, rfl⟩
  have freeD : Hb D = none := Ib.hok.fresh (Nat.le_of_eq eD.symm)
  obtain ⟨W, ⟨m0, w0⟩, turn⟩ := qb D freeD
  obtain ⟨sc, esc⟩ : ∃ sc : Shared, sc = { sb with heap := sb.heap.push (bareS X.w) } := ⟨_, rfl⟩
  have Ic : Inv X pins σ (upd Hb D (F.ob X.prog X.w D F.ini)) sc := by
    rw [esc]
    refine Ib.laid (t' := sb.toks) (fun b o e => Heap.get?_push_of_some _ e) (Nat.le_of_eq eD.symm) ?_
    rw [eD]
    exact F.new _ _ _ _
  have hc : sc.heap = sb.heap.push (bareS X.w) := by rw [esc]
  have below : ∀ b ∈ fp, b < sb.heap.objs.size := fun b mb => by
    obtain ⟨o, e, _⟩ := Tn.obj _ _ stb b mb
    exact Heap.lt_size e
  have fpc : ∀ b ∈ fp, FpOk X pins (upd Hb D (F.ob X.prog X.w D F.ini)) b ∧ b < sc.heap.objs.size := fun b mb => by
    have lt := below b mb
    refine ⟨⟨?_, (fpb b mb).2⟩, by rw [hc, Heap.size_push]; exact Nat.lt_succ_of_lt lt⟩
    rw [upd_ne (by rw [eD]; exact Nat.ne_of_lt lt)]
    exact (fpb b mb).1
  have stc : tn 0 sc.heap := Tn.keep _ _ _ stb fun b _ o e => by rw [hc]; exact Heap.get?_push_of_some _ e
  have Id := block_start Ic bo nd fpc
  have hereG := aim sc (upd Hb D (F.ob X.prog X.w D F.ini)) sc.heap.objs.size (cellsFrom (sc.heap.objs.size + 1) scope.names (cloFrom X.env.cells scope.names [])) fp
  have hereT := tst sc (upd Hb D (F.ob X.prog X.w D F.ini)) sc.heap.objs.size (cellsFrom (sc.heap.objs.size + 1) scope.names (cloFrom X.env.cells scope.names [])) fp
  have hereE := val sc (upd Hb D (F.ob X.prog X.w D F.ini)) sc.heap.objs.size (cellsFrom (sc.heap.objs.size + 1) scope.names (cloFrom X.env.cells scope.names [])) fp
  rw [← eD, ← esc]
  have offH : ∀ b ∈ fp, (upd Hb D (F.ob X.prog X.w D F.ini)) b = none := fun b mb => (fpc b mb).1.1
  show codeAny _ _ (.compStart (.SetComp elt [⟨tg, iter, ifs, 0⟩] scope pos) 0 (.ref itA) (.ref D) (compEnvC scope (cellsFrom (sc.heap.objs.size + 1) scope.names (cloFrom X.env.cells scope.names [])) sc.heap.objs.size X.env)) _ { sc with heap := pushCells (sc.heap.push { cls := .type "dict", data := .dict #[] }) scope.names }
  generalize hce : compEnvC scope (cellsFrom (sc.heap.objs.size + 1) scope.names (cloFrom X.env.cells scope.names [])) sc.heap.objs.size X.env = ce at Id hereG hereT hereE ⊢
  have locs : ce.locals = sc.heap.objs.size := by subst hce; rfl
  generalize upd Hb D (F.ob X.prog X.w D F.ini) = Hc at Ic Id hereG hereT hereE w0 offH fpc
  generalize hsd : ({ sc with heap := pushCells (sc.heap.push { cls := .type "dict", data := .dict #[] }) scope.names } : Shared) = sd at Id ⊢
  have std : tn 0 sd.heap := Tn.keep _ _ _ stc fun b _ o e => by rw [← hsd]; exact pushCells_keeps _ _ _ _ (Heap.get?_push_of_some _ e)
  have own1 : ∀ {σ' : L2.St} {H' : Hp} {s' : Shared}, Inv (X.blk sc Hc scope ce fp) [] σ' H' s' → (∀ b ∈ fp, H' b = none) → ∀ b ∈ fp, FpOk (X.blk sc Hc scope ce fp) [] H' b := fun {_ H' _} Ie off b mb =>
    ⟨off b mb, (Ie.ok.exf b mb).1, Ie.ok.exfs b mb, .inl mb, fun x c e => (Ie.ok.exf b mb).2 x c e, fun p hp => absurd (show p ∈ ([] : List (Addr × Obj)) ++ [] from hp) (by simp)⟩
  have loop : codeAny (model X.prog X.w) X.A (.compLoop (.SetComp elt [⟨tg, iter, ifs, 0⟩] scope pos) 0 (.ref itA) (.ref D) ce) (compPost (model X.prog X.w) X.A X.xe use Qf (.ref D) sc.heap.objs.size) sd := by
    refine PpSet.compLoopS_any (fun k st => ∃ i He, Inv (X.blk sc Hc scope ce fp) [] (wipe σ (own.map (·.2))) He st ∧ tn i st.heap ∧ (∀ b ∈ fp, He b = none) ∧ W i k He) ?_ m0 ⟨0, Hc, Id, std, offH, w0⟩
    rintro k se ⟨i, He, Ie, ste, offe, we⟩
    rcases turn i k He we with ⟨atEnd, fin⟩ | ⟨onward, Nx, back, next⟩
    · refine thnF (Tn.done (X.blk sc Hc scope ce fp) rfl rfl rfl calm i [] se _ He (fun _ _ => False) Ie (own1 Ie offe) ste atEnd) fun r sf ⟨er, If⟩ => ?_
      subst er
      have Ig : Inv X pins σ He sf := Ic.call' (ch := fp) If.os If.base If.hok If.bare fun b mb => ⟨(fpc b mb).1.2.2.2.1, (fpc b mb).1.2.1, (fpc b mb).1.2.2.2.2.1, (fpc b mb).1.2.2.2.2.2⟩
      have noC : He sc.heap.objs.size = none := locs ▸ (show He ce.locals = none from If.free)
      obtain ⟨nm, nsf, _⟩ := If.loc
      have nsf : sf.heap.Ns sc.heap.objs.size nm := locs ▸ (show sf.heap.Ns ce.locals nm from nsf)
      exact out D sc.heap.objs.size sf nm He Ig fin nsf (Ic.fpOk (Nat.le_refl _) noC)
    · refine thnF (Tn.item (X.blk sc Hc scope ce fp) rfl rfl rfl calm i [] se _ He (fun _ _ => False) Ie (own1 Ie offe) ste onward) fun r sf ⟨u, er, hf⟩ => ?_
      subst er
      refine thnF hf fun _ sg ⟨x, Hg, Ig, rg, yg, stg, offg⟩ => ?_
      refine thnF (hereG.run _ sg _ Hg x u _ (Ig.pinned (own1 Ig offg) (Tn.obj _ _ stg)) rg (next x Hg yg)) fun _ sh ⟨σh, Hh, Ih, wh, qh⟩ => ?_
      refine thnF (hereT.run _ sh σh Hh _ Ih qh) fun b si ⟨Hi, Ii, qi⟩ => ?_
      have over : ∀ {st : Shared} {Ht : Hp}, Inv (X.blk sc Hc scope ce fp) ([] ++ pinsAt fp sg.heap) σh Ht st → Nx Ht → ∃ m, m < k ∧ ∃ i He, Inv (X.blk sc Hc scope ce fp) [] (wipe σ (own.map (·.2))) He st ∧ tn i st.heap ∧ (∀ b ∈ fp, He b = none) ∧ W i m He := fun {st Ht} It nx => by
        obtain ⟨m1, lt1, w1⟩ := back Ht nx
        have held : ∀ b ∈ fp, ∀ o, sg.heap.get? b = some o → st.heap.get? b = some o ∧ Ht b = none := fun b mb o e =>
          have z := It.pin (b, o) (List.mem_append_right _ (List.mem_append_right _ (mem_pinsAt mb e)))
          ⟨z.1, z.2.1⟩
        have ln : (wipe σ (own.map (·.2))).length = σh.length := by rw [← wh, wipe_length]
        refine ⟨m1, lt1, i + 1, Ht, (It.unpinned (pins := [])).weak ln (fun j v e => ?_), Tn.keep _ _ _ stg fun b mb o e => (held b mb o e).1, fun b mb => ?_, w1⟩
        · rw [← wh] at e
          exact (wipe_some e).1
        · obtain ⟨o, e, _⟩ := Tn.obj _ _ stg b mb
          exact (held b mb o e).2
      cases b with
      | false =>
        rw [if_neg (by decide)] at qi ⊢
        exact over Ii qi
      | true =>
        rw [if_pos rfl] at qi ⊢
        refine thnF (hereE.run _ si σh Hi _ Ii qi) fun z sj ⟨yv, Hj, Ij, rj, c, c', atD, pt, nx⟩ => ?_
        exact F.add (X := X.blk sc Hc scope ce fp) Ij atD pt rj fun sk Ik => over Ik nx
  exact PpSet.codeAny_compStart_set loop (Tn.self X.A 0 _ _ _ std loop)
/-- {elt for target in iter if ..} -/
theorem pe_setc (F : Fam α) {elt tg iter : Expr} {ifs : List Expr} {scope : Scope} {own : List (PySem.Str × Nat)} {pos : Pos} {wi : TI} {g : TG} {tt : TT} {te : TE} (calm : X.calm = true) (nd : X.N.Nodup) (walk : PI X tg iter wi) (bo : BlkOk X.N X.env.scope scope own)
    (aim : ∀ s H C cl fp, PG (X.blk s H scope (compEnvC scope cl C X.env) fp) tg g) (tst : ∀ s H C cl fp, PTs (X.blk s H scope (compEnvC scope cl C X.env) fp) ifs tt)
    (val : ∀ s H C cl fp, PE (X.blk s H scope (compEnvC scope cl C X.env) fp) elt te) (plain : ∀ x, foldedSetIterable iter X.env x = pure x := by intro _; rfl) :
    PE X (.SetComp elt [⟨tg, iter, ifs, 0⟩] scope pos) (tSF F X.prog X.w X.K X.A wi g tt te (own.map (·.2))) := by
  refine ⟨fun pins s σ H Q I0 ask => ?_⟩
  rw [PpSet.eval_SetComp]
  refine core F calm nd I0 walk bo aim tst val plain ask fun D C s1 m H1 I1 q hn fpC => ⟨m, hn, fun h2 sb => ?_⟩
  exact ⟨.ref D, H1, I1.turned (t' := s1.toks) (fun b o hb e => (sb.2 b hb).trans e) fpC.1 fpC.2.1 fpC.2.2.2.1 fpC.2.2.2.2.1 fpC.2.2.2.2.2, rfl, q⟩
end
/-- sets of ints -/
def famI : Fam ((Int → Bool) × Nat) where
  ob := fun _ w a c => SetO w a c.1 c.2
  ini := (fun _ => false, 0)
  new := fun P w H h => setO_new (setR_fresh w)
  put := fun _ _ _ c y c' => ∃ k : Int, y = .int k ∧ c.2 + 1 < scanBound ∧ c' = (fun j => c.1 j || decide (j = k), if c.1 k = true then c.2 else c.2 + 1)
  add := by
    intro X pins σ H s E D a b y v Q I hD pt rv q
    obtain ⟨k, rfl, room, rfl⟩ := pt
    obtain ⟨tk, rfl⟩ := rv
    refine setR_add (setO_get I hD) room fun h' sb new => q _ ?_
    have ⟨o, _, _, _, ho, _⟩ := new
    exact I.write (e := D) (t' := s.toks + 1) (by rw [hD]; trivial) (.inl rfl) (fun b u hb hu => (sb.2 b hb).trans hu) ⟨o, ho⟩ (setO_new new)
/-- {elt for target in iter if ..}, elt an int -/
def tSI (w : World) (wi : TI) (g : TG) (tt : TT) (te : TE) (vs : List Nat) : TE := fun σ H Q => wi σ H fun J H1 => ∀ D, H1 D = none → ∃ W : Nat → Nat → Hp → Prop, (∃ m, W 0 m (upd H1 D (SetO w D (fun _ => false) 0))) ∧
  ∀ i m H, W i m H → (J.stop i H ∧ Q (.ref D) H) ∨ (J.go i H ∧ ∃ Nx : Hp → Prop, (∀ H', Nx H' → ∃ m', m' < m ∧ W (i + 1) m' H') ∧ ∀ x H', J.yld i H x H' → g x (wipe σ vs) H' fun σ2 H2 => wipe σ2 vs = wipe σ vs ∧ tt σ2 H2 fun b H3 =>
    if b = true then te σ2 H3 fun y H4 => ∃ c c' : (Int → Bool) × Nat, H4 D = some (SetO w D c.1 c.2) ∧ (∃ k : Int, y = .int k ∧ c.2 + 1 < scanBound ∧ c' = (fun j => c.1 j || decide (j = k), if c.1 k = true then c.2 else c.2 + 1)) ∧ Nx (upd H4 D (SetO w D c'.1 c'.2)) else Nx H3)
theorem pe_setI {X : Cx} {elt tg iter : Expr} {ifs : List Expr} {scope : Scope} {own : List (PySem.Str × Nat)} {pos : Pos} {wi : TI} {g : TG} {tt : TT} {te : TE} (calm : X.calm = true) (nd : X.N.Nodup) (walk : PI X tg iter wi) (bo : BlkOk X.N X.env.scope scope own)
    (aim : ∀ s H C cl fp, PG (X.blk s H scope (compEnvC scope cl C X.env) fp) tg g) (tst : ∀ s H C cl fp, PTs (X.blk s H scope (compEnvC scope cl C X.env) fp) ifs tt)
    (val : ∀ s H C cl fp, PE (X.blk s H scope (compEnvC scope cl C X.env) fp) elt te) (plain : ∀ x, foldedSetIterable iter X.env x = pure x := by intro _; rfl) :
    PE X (.SetComp elt [⟨tg, iter, ifs, 0⟩] scope pos) (tSI X.w wi g tt te (own.map (·.2))) := ⟨fun pins s σ H Q I h => (pe_setc famI calm nd walk bo aim tst val plain).run pins s σ H Q I h⟩
end SC
namespace CC
open PySem L2 TL
/-- the different ones, in the order in which they come -/
def firsts : List Nat → List Nat
  | l => l.foldl (fun acc x => if x ∈ acc then acc else acc ++ [x]) []
def dn (l : List Nat) : Nat := (firsts l).length
def colN (rows : List (List Nat)) (c : Nat) : List Nat := rows.map fun r => r.getD c 0
theorem firsts_snoc (l : List Nat) (x : Nat) : firsts (l ++ [x]) = if x ∈ firsts l then firsts l else firsts l ++ [x] := by
  unfold firsts
  rw [List.foldl_append]
  rfl
theorem firsts_mem : ∀ (n : Nat) (l : List Nat), l.length = n → ∀ y, y ∈ firsts l ↔ y ∈ l
  | 0, l, h, y => by
    rw [List.length_eq_zero_iff.mp h]
    simp [firsts]
  | n + 1, l, h, y => by
    have ne : l ≠ [] := fun e => by rw [e] at h; cases h
    obtain ⟨u, x, rfl⟩ : ∃ u x, l = u ++ [x] := ⟨_, _, (List.dropLast_concat_getLast ne).symm⟩
    have hu : u.length = n := by
      rw [List.length_append, List.length_singleton] at h
      omega
    have ih := firsts_mem n u hu
    rw [firsts_snoc, List.mem_append, List.mem_singleton]
    by_cases e : x ∈ firsts u
    · rw [if_pos e, ih y]
      constructor
      · exact .inl
      · rintro (z | rfl)
        · exact z
        · exact (ih _).mp e
    · rw [if_neg e, List.mem_append, List.mem_singleton, ih y]
theorem mem_firsts {l : List Nat} {y : Nat} : y ∈ firsts l ↔ y ∈ l := firsts_mem _ l rfl y
theorem dn_snoc (l : List Nat) (x : Nat) : dn (l ++ [x]) = if x ∈ l then dn l else dn l + 1 := by
  unfold dn
  rw [firsts_snoc]
  by_cases e : x ∈ l
  · rw [if_pos e, if_pos (mem_firsts.mpr e)]
  · rw [if_neg e, if_neg (fun z => e (mem_firsts.mp z)), List.length_append, List.length_singleton]
theorem dn_le (l : List Nat) : ∀ n, dn (l.take n) ≤ n
  | 0 => by simp [dn, firsts]
  | n + 1 => by
    cases h : l[n]? with
    | none =>
      rw [List.take_of_length_le (by have := List.getElem?_eq_none_iff.mp h; omega), ← List.take_of_length_le (i := n) (l := l) (by have := List.getElem?_eq_none_iff.mp h; omega)]
      exact Nat.le_succ_of_le (dn_le l n)
    | some x =>
      rw [List.take_succ, h]
      show dn (l.take n ++ [x]) ≤ _
      rw [dn_snoc]
      have := dn_le l n
      split <;> omega
/-- the members of a set of such numbers -/
def memI (l : List Nat) : Int → Bool := fun k => decide (∃ n ∈ l, (n : Int) = k)
theorem memI_at (l : List Nat) (x : Nat) : memI l (x : Int) = decide (x ∈ l) := by
  unfold memI
  rw [Bool.eq_iff_iff, decide_eq_true_eq, decide_eq_true_eq]
  constructor
  · rintro ⟨n, hn, e⟩
    have : n = x := by omega
    exact this ▸ hn
  · exact fun h => ⟨x, h, rfl⟩
theorem memI_snoc (l : List Nat) (x : Nat) : (fun j => memI l j || decide (j = (x : Int))) = memI (l ++ [x]) := by
  funext j
  unfold memI
  rw [Bool.eq_iff_iff, Bool.or_eq_true, decide_eq_true_eq, decide_eq_true_eq, decide_eq_true_eq]
  constructor
  · rintro (⟨n, hn, e⟩ | e)
    · exact ⟨n, List.mem_append_left _ hn, e⟩
    · exact ⟨x, List.mem_append_right _ (List.mem_singleton.mpr rfl), e.symm⟩
  · rintro ⟨n, hn, e⟩
    rcases List.mem_append.mp hn with z | z
    · exact .inl ⟨n, z, e⟩
    · rw [List.mem_singleton.mp z] at e
      exact .inr e.symm
theorem colN_take {rows : List (List Nat)} {c i : Nat} {r : List Nat} (h : rows[i]? = some r) : colN (rows.take (i + 1)) c = colN (rows.take i) c ++ [r.getD c 0] := by
  unfold colN
  rw [take1 h, List.map_append]
  rfl
/-- over a tuple -/
theorem si_tup {w : World} {K : PySem.W.Frag} {a : Addr} {xs : List V} {g : TG} {tt : TT} {te : TE} {vs : List Nat} {σ : L2.St} {H1 : Hp} {D : Addr} {Qd : Hp → Prop} (Pv : Nat → Hp → Prop) (h0 : Pv 0 (upd H1 D (SetO w D (fun _ => false) 0))) (hl : ∀ i H, i ≤ xs.length → Pv i H → SqT K H a xs)
    (hs : ∀ i x H, xs[i]? = some x → Pv i H → g x (wipe σ vs) H fun σ2 H2 => wipe σ2 vs = wipe σ vs ∧ tt σ2 H2 fun b H3 => if b = true then te σ2 H3 fun y H4 => ∃ c c' : (Int → Bool) × Nat, H4 D = some (SetO w D c.1 c.2) ∧ (∃ k : Int, y = .int k ∧ c.2 + 1 < scanBound ∧ c' = (fun j => c.1 j || decide (j = k), if c.1 k = true then c.2 else c.2 + 1)) ∧ Pv (i + 1) (upd H4 D (SetO w D c'.1 c'.2)) else Pv (i + 1) H3) (hd : ∀ H, Pv xs.length H → Qd H) :
    ∃ W : Nat → Nat → Hp → Prop, (∃ m, W 0 m (upd H1 D (SetO w D (fun _ => false) 0))) ∧ ∀ i m H, W i m H → ((Itt K a).stop i H ∧ Qd H) ∨ ((Itt K a).go i H ∧ ∃ Nx : Hp → Prop, (∀ H', Nx H' → ∃ m', m' < m ∧ W (i + 1) m' H') ∧ ∀ x H', (Itt K a).yld i H x H' → g x (wipe σ vs) H' fun σ2 H2 => wipe σ2 vs = wipe σ vs ∧ tt σ2 H2 fun b H3 =>
      if b = true then te σ2 H3 fun y H4 => ∃ c c' : (Int → Bool) × Nat, H4 D = some (SetO w D c.1 c.2) ∧ (∃ k : Int, y = .int k ∧ c.2 + 1 < scanBound ∧ c' = (fun j => c.1 j || decide (j = k), if c.1 k = true then c.2 else c.2 + 1)) ∧ Nx (upd H4 D (SetO w D c'.1 c'.2)) else Nx H3) := by
  refine ⟨fun i m H => m = xs.length - i ∧ i ≤ xs.length ∧ Pv i H, ⟨xs.length, by simp, Nat.zero_le _, h0⟩, ?_⟩
  rintro i m H ⟨rfl, hi, p⟩
  have q := hl i H hi p
  by_cases lt : i < xs.length
  · refine .inr ⟨⟨xs, xs[i], q, by simp [lt]⟩, Pv (i + 1), fun H' p' => ⟨xs.length - (i + 1), by omega, rfl, lt, p'⟩, fun x H' y => ?_⟩
    obtain ⟨e, y⟩ := y
    subst e
    exact hs i x _ (y xs q) p
  · have e : i = xs.length := by omega
    subst e
    exact .inl ⟨⟨xs, q, Nat.le_refl _⟩, hd H p⟩
/-- len of a set of ints -/
def rLenI (w : World) : List V → Hp → VK → Prop := fun xs H Q => ∃ (a : Addr) (S : Int → Bool) (n : Nat), xs = [.ref a] ∧ H a = some (SetO w a S n) ∧ n ≤ 1000 ∧ Q (.int (n : Int)) H
theorem call_lenI {X : Cx} : CallR X (.builtin "len") (rLenI X.w) := by
  intro pins s σ H xs us Q I r h
  obtain ⟨a, S, n, rfl, ha, hn, q⟩ := h
  rw [Vals.ref1 r]
  obtain ⟨o, es, ep, t, ho, hex, hd, _, _, _, hb, hf, e, _⟩ := setO_get I ha
  exact PySem.call_len_set ho hex hd hf (by rw [e]; omega) ⟨.int (n : Int), H, I.tok _, ⟨_, by rw [e]⟩, q⟩
end CC
namespace CC
open PySem L2
/-! ### steps down -/
def down (r : R) : Nat × Nat := if r.k then (r.a, r.b) else (r.b, r.a)
def spDown (K : PySem.W.Frag) : Sp := fun vs H Q _ => ∃ (g : Addr) (us : List V) (rs : List R), vs = [.ref g] ∧ SqT K H g us ∧ DpAll K H us (rs.map R.d) ∧ rs.length ≤ 60 ∧ NewF prd K H (rs.map down) Q
theorem kd_eq (k : Bool) : decide (V.str (kd k) = V.str "settles") = k := by
  cases k <;> decide +kernel
section
variable {P : Program} {w : World} {K : PySem.W.Frag} {mg : Str → Option Value} {base : Heap} {kA : Addr}
abbrev nDn : List Str := ["rules", "kind", "a", "b"]
end
end CC
namespace CC
/-- what law and document say of a rule and rows -/
def HoldsR (rows : List (List Nat)) (r : R) : Prop :=
  if r.k then ∀ x ∈ rows, ∀ y ∈ rows, y.getD r.a 0 = x.getD r.a 0 → y.getD r.b 0 = x.getD r.b 0
  else ∀ x ∈ rows, ∃ y ∈ rows, y.getD r.b 0 = x.getD r.a 0
theorem firsts_nodup : ∀ (n : Nat) (l : List Nat), l.length = n → (firsts l).Nodup
  | 0, l, h => by
    rw [List.length_eq_zero_iff.mp h]
    simp [firsts]
  | n + 1, l, h => by
    have ne : l ≠ [] := fun e => by rw [e] at h; cases h
    obtain ⟨u, x, rfl⟩ : ∃ u x, l = u ++ [x] := ⟨_, _, (List.dropLast_concat_getLast ne).symm⟩
    have hu : u.length = n := by
      rw [List.length_append, List.length_singleton] at h
      omega
    have ih := firsts_nodup n u hu
    rw [firsts_snoc]
    by_cases e : x ∈ firsts u
    · rw [if_pos e]
      exact ih
    · rw [if_neg e]
      refine List.nodup_append.mpr ⟨ih, by simp, fun y hy z hz ez => ?_⟩
      rw [List.mem_singleton.mp hz] at ez
      exact e (ez ▸ hy)
theorem nodup_firsts (l : List Nat) : (firsts l).Nodup := firsts_nodup _ l rfl
theorem sub_len : ∀ {u v : List Nat}, u.Nodup → (∀ x ∈ u, x ∈ v) → u.length ≤ v.length
  | [], _, _, _ => Nat.zero_le _
  | x :: u, v, h, s => by
    obtain ⟨h1, h2⟩ := List.nodup_cons.mp h
    have hx := s x List.mem_cons_self
    have := sub_len (u := u) (v := v.erase x) h2 fun y hy => (List.mem_erase_of_ne (a := y) (b := x) fun e => h1 (by rw [← e]; exact hy)).mpr (s y (List.mem_cons_of_mem _ hy))
    have l := List.length_erase_of_mem hx
    have : 0 < v.length := List.length_pos_of_mem hx
    rw [List.length_cons]
    omega
theorem dn_sub {u v : List Nat} (s : ∀ x ∈ u, x ∈ v) : dn u ≤ dn v := sub_len (nodup_firsts u) fun x hx => mem_firsts.mpr (s x (mem_firsts.mp hx))
theorem dn_img {u v : List Nat} (g : Nat → Nat) (s : ∀ x ∈ u, ∃ y ∈ v, g y = x) : dn u ≤ dn v := by
  have : (firsts u).length ≤ ((firsts v).map g).length := sub_len (nodup_firsts u) fun x hx => by
    obtain ⟨y, hy, e⟩ := s x (mem_firsts.mp hx)
    exact List.mem_map.mpr ⟨y, mem_firsts.mpr hy, e⟩
  rwa [List.length_map] at this
theorem holds_dn {rows : List (List Nat)} {r : R} (h : HoldsR rows r) : dn (colN rows (down r).2) ≤ dn (colN rows (down r).1) := by
  obtain ⟨k, a, b⟩ := r
  cases k
  · show dn (colN rows a) ≤ dn (colN rows b)
    refine dn_sub fun x hx => ?_
    obtain ⟨r, hr, rfl⟩ := List.mem_map.mp hx
    obtain ⟨y, hy, e⟩ := (h : ∀ x ∈ rows, ∃ y ∈ rows, y.getD b 0 = x.getD a 0) r hr
    exact List.mem_map.mpr ⟨y, hy, e⟩
  · show dn (colN rows b) ≤ dn (colN rows a)
    have h' : ∀ x ∈ rows, ∀ y ∈ rows, y.getD a 0 = x.getD a 0 → y.getD b 0 = x.getD b 0 := h
    refine dn_img (fun v => ((rows.find? fun r => r.getD a 0 == v).map fun r => r.getD b 0).getD 0) fun x hx => ?_
    obtain ⟨r, hr, rfl⟩ := List.mem_map.mp hx
    refine ⟨r.getD a 0, List.mem_map.mpr ⟨r, hr, rfl⟩, ?_⟩
    cases e : rows.find? (fun s => s.getD a 0 == r.getD a 0) with
    | none =>
      have := List.find?_eq_none.mp e r hr
      simp at this
    | some y =>
      have e1 := List.find?_some e
      have e2 := List.mem_of_find?_eq_some e
      exact h' r hr y e2 (eq_of_beq e1)
/-- columns a walk leads to have no more values -/
theorem rch_dn {rows : List (List Nat)} {rs : List R} (h : ∀ r ∈ rs, HoldsR rows r) : ∀ {a b : Nat}, (a, b) ∈ rs.map down → dn (colN rows b) ≤ dn (colN rows a) := by
  intro a b hab
  obtain ⟨r, hr, e⟩ := List.mem_map.mp hab
  have := holds_dn (h r hr)
  rw [e] at this
  exact this
end CC
/-! the walk over a set that set - set takes -/
namespace SD
open PySem PySem.Spec PyProof.Rows L2
section
variable {P : Program} {w : World} {A : Around} {E : Value → Shared → Prop} {s : Shared} {a : Addr} {o : Obj} {es : Array (Int × Value)} {ep : Nat} {t : SetTable}
theorem walk_any {Q : Array (Int × Value) → Shared → Prop} (ho : s.heap.get? a = some o) (hd : o.data = .set es ep t) (hf : t.fits es.size = true) (hl : w.params.followText "set-order" = true ∨ t.led = true)
    (h : ∀ out d, out.toList.Perm es.toList → Q out { s with drawn := d }) : wpAny (model P w) A (setWalk a) Q E s := by
  have stay : ∀ out : Array (Int × Value), out.toList.Perm es.toList → Q out s := fun out q => h out s.drawn q
  unfold setWalk
  refine wpAny_bind (wpAny_setState_of ho hd hf ?_)
  dsimp only
  refine wpAny_bind (wpAny_byText ?_)
  by_cases bt : w.params.followText "set-order" = true
  · refine wp_if_pos bt ?_
    refine wpAny_bind (wpAny_askSetting ?_)
    exact wpAny_pure (stay _ (pick_perm _ _))
  · refine wp_if_neg bt ?_
    have led := hl.resolve_left bt
    split
    · refine wpAny_bind (drawOrder_at _ _ _ _ (by simp) fun ys d q => ?_)
      exact wpAny_pure (h _ d (by simpa using q))
    · refine wpAny_bind (m := (if (!t.led && decide (es.size > 1)) = true then unsupported "set:maker-not-led" else pure ())) (wp_if_neg (by rw [led]; simp) (wpAny_pure ?_))
      exact wpAny_pure (stay _ (List.Perm.refl _))
theorem forIn_pure {α : Type} {f : α → Option Bool × Unit → Sem (ForInStep (Option Bool × Unit))} : ∀ {l : List α}, (∀ e ∈ l, f e (none, ()) = pure (.yield (none, ()))) → (forIn l (none, ()) f : Sem (Option Bool × Unit)) = pure (none, ())
  | [], _ => rfl
  | e :: l, h => by
    rw [List.forIn_cons, h e List.mem_cons_self, pure_bind]
    exact forIn_pure fun x hx => h x (List.mem_cons_of_mem _ hx)
theorem forIn_still {M : Model} {F : Addr → Option Bool × Unit → Sem (ForInStep (Option Bool × Unit))} : ∀ {sets : List Addr} {Q : Option Bool × Unit → Shared → Prop}, (∀ a ∈ sets, ∀ Q' : ForInStep (Option Bool × Unit) → Shared → Prop, Q' (.yield (none, ())) s → wpAny M A (F a (none, ())) Q' E s) → Q (none, ()) s → wpAny M A (forIn sets (none, ()) F) Q E s
  | [], _, _, h => wpAny_pure h
  | a :: l, Q, hs, h => by
    rw [List.forIn_cons]
    exact wpAny_bind (hs a List.mem_cons_self _ (forIn_still (fun b hb => hs b (List.mem_cons_of_mem _ hb)) h))
theorem quiet_sets {Q : Bool → Shared → Prop} {sets : List Addr} (hs : ∀ a ∈ sets, ∃ S n, SetR w s.heap a S n) (h : Q true s) : wpAny (model P w) A (setsQuiet sets) Q E s := by
  unfold setsQuiet
  refine wpAny_bind (forIn_still (fun a ha Q' h' => ?_) (wpAny_pure h))
  obtain ⟨S, n, o, es, ep, t, ho, hex, hd, g, nd, m, hb, hf, hn, hr, hl⟩ := hs a ha
  refine wpAny_bind (wpAny_setEntries_of ho hd hf ?_)
  rw [← Array.forIn_toList, forIn_pure fun e he => ?_]
  · exact wpAny_bind (wpAny_pure (wpAny_pure h'))
  · obtain ⟨k, tk, e2, _⟩ := g e he
    obtain ⟨e1, v⟩ := e
    dsimp only at e2
    subst e2
    rfl
/-- what a walk gives: the members, each once -/
def Outs (S : Int → Bool) (out : Array (Int × Value)) : Prop := (∀ e ∈ out.toList, GoodE e) ∧ (out.toList.map keyOf).Nodup ∧ ∀ k, S k = true ↔ k ∈ out.toList.map keyOf
theorem Outs.perm {S : Int → Bool} {out es : Array (Int × Value)} (h : Outs S es) (p : out.toList.Perm es.toList) : Outs S out :=
  ⟨fun e he => h.1 e (p.mem_iff.mp he), (p.map keyOf).nodup_iff.mpr h.2.1, fun k => (h.2.2 k).trans (p.map keyOf).mem_iff.symm⟩
theorem walk_unseen {b r : Addr} {S Sb Sr : Int → Bool} {n nb nr : Nat} {Q : Array (Int × Value) → Shared → Prop} (Ra : SetR w s.heap a S n) (Rb : SetR w s.heap b Sb nb) (Rr : SetR w s.heap r Sr nr)
    (h : ∀ out h' d, Outs S out → Heap.SameBut r s.heap h' → SetR w h' r Sr nr → Q out { s with heap := h', drawn := d }) : wpAny (model P w) A (setWalkUnseen a [b, r] (some r)) Q E s := by
  obtain ⟨o, es, ep, t, ho, hex, hd, g, nd, m, hb, hf, hn, hr, hl⟩ := id Ra
  have oe : Outs S es := ⟨g, nd, m⟩
  unfold setWalkUnseen
  refine wpAny_bind (wpAny_setState_of ho hd hf ?_)
  dsimp only
  refine wpAny_bind (wpAny_byText ?_)
  split
  · exact walk_any ho hd hf hl fun out d p => h out s.heap d (oe.perm p) (Heap.SameBut.refl _ _) Rr
  · rename_i nb
    refine wpAny_bind (quiet_sets (fun c hc => ?_) ?_)
    · have e' : c = a ∨ c = b ∨ c = r := by simpa using hc
      rcases e' with rfl | rfl | rfl
      · exact ⟨_, _, Ra⟩
      · exact ⟨_, _, Rb⟩
      · exact ⟨_, _, Rr⟩
    refine wp_if_neg (by decide) ?_
    refine wpAny_bind (wpAny_rule ?_)
    obtain ⟨o2, es2, ep2, t2, ho2, hex2, hd2, g2, nd2, m2, hb2, hf2, hn2, hr2, hl2⟩ := id Rr
    refine wpAny_bind (wpAny_setState_of ho2 hd2 hf2 ?_)
    try dsimp only
    split
    · refine wpAny_bind (wpAny_storeSet_of ho2 hd2 ?_ (fits_of_scanBound hb2))
      refine wpAny_pure (h es _ s.drawn oe (Heap.SameBut.update _ _ _) ?_)
      refine ⟨_, es2, ep2 + 1, _, store_at ho2 hd2, hex2, rfl, g2, nd2, m2, hb2, hf2, hn2, hr2, ?_⟩
      by_cases bt : w.params.followText "set-order" = true
      · exact .inl bt
      · refine .inr ?_
        show (t2.led && t.led) = true
        rw [hl.resolve_left bt, hl2.resolve_left bt]
        rfl
    · exact wpAny_pure (h es s.heap s.drawn oe (Heap.SameBut.refl _ _) Rr)
end
end SD
namespace SD
open PySem PySem.Spec PyProof.Rows L2
section
variable {P : Program} {w : World} {A : Around} {E : Value → Shared → Prop} {s : Shared} {a : Addr}
theorem sub_set : isSubtype (.type "set") (.type "set") = pure true := by rw [isSubtype_type]; kernel_rfl
theorem type_set {S : Int → Bool} {n : Nat} (R : SetR w s.heap a S n) : s.TypeIs (.ref a) "set" := by
  obtain ⟨o, es, ep, t, ho, hex, _⟩ := R
  exact ⟨o, ho, hex.1⟩
theorem any_set {S : Int → Bool} {n : Nat} {Q : Bool → Shared → Prop} (R : SetR w s.heap a S n) (h : Q true s) : wpAny (model P w) A (Builtin.Frozenset.isAnySet (.ref a)) Q E s := by
  unfold Builtin.Frozenset.isAnySet
  refine wpAny_bind (wpAny_isInstance (T := "set") (b := true) (type_set R) sub_set ?_)
  exact wpAny_pure h
theorem size_set {S : Int → Bool} {n : Nat} {Q : Nat → Shared → Prop} (R : SetR w s.heap a S n) (h : Q n s) : wpAny (model P w) A (Builtin.Frozenset.sizeOf a) Q E s := by
  obtain ⟨o, es, ep, t, ho, hex, hd, g, nd, m, hb, hf, hn, hr, hl⟩ := R
  unfold Builtin.Frozenset.sizeOf
  refine wpAny_bind (wpAny_setEntries_of ho hd hf (wpAny_pure ?_))
  rw [hn]
  exact h
theorem base_set {S : Int → Bool} {n : Nat} {Q : Value → Shared → Prop} (R : SetR w s.heap a S n) (h : Q (.type "set") s) : wpAny (model P w) A (Builtin.Frozenset.baseOf a) Q E s := by
  unfold Builtin.Frozenset.baseOf
  exact wpAny_bind (wpAny_isInstance (T := "set") (b := true) (type_set R) sub_set (wpAny_pure h))
theorem SetR.cong {h : Heap} {S S' : Int → Bool} {n : Nat} (R : SetR w h a S n) (e : ∀ k, S k = S' k) : SetR w h a S' n := by
  have : S = S' := funext e
  rw [← this]
  exact R
theorem forIn_sub {M : Model} {r : Addr} {Sb : Int → Bool} {F : Int × Value → PUnit → Sem (ForInStep PUnit)} {B : Heap → Prop} (hB : ∀ h h', B h → Heap.SameBut r h h' → B h')
    (hF : ∀ (e : Int × Value) (s : Shared) (S0 : Int → Bool) (n0 : Nat) (Q' : ForInStep PUnit → Shared → Prop), GoodE e → B s.heap → SetR w s.heap r S0 n0 → n0 + 1 < scanBound →
      (∀ h' n1, Heap.SameBut r s.heap h' → n1 ≤ n0 + 1 → SetR w h' r (fun k => S0 k || (decide (k = keyOf e) && !Sb k)) n1 → Q' (.yield PUnit.unit) { s with heap := h' }) → wpAny M A (F e PUnit.unit) Q' E s) :
    ∀ (l : List (Int × Value)) (s : Shared) (S0 : Int → Bool) (n0 : Nat) (Q : PUnit → Shared → Prop), (∀ e ∈ l, GoodE e) → B s.heap → SetR w s.heap r S0 n0 → n0 + l.length < scanBound →
      (∀ h' n1, Heap.SameBut r s.heap h' → n1 ≤ n0 + l.length → SetR w h' r (fun k => S0 k || (decide (k ∈ l.map keyOf) && !Sb k)) n1 → Q PUnit.unit { s with heap := h' }) → wpAny M A (forIn l PUnit.unit F) Q E s
  | [], s, S0, n0, Q, _, _, R, _, h => by
    refine wpAny_pure (h s.heap n0 (Heap.SameBut.refl _ _) (Nat.le_refl _) (SetR.cong R fun k => ?_))
    simp
  | e :: l, s, S0, n0, Q, hg, hb, R, hn, h => by
    rw [List.length_cons] at hn
    rw [List.forIn_cons]
    refine wpAny_bind (hF e s S0 n0 _ (hg e List.mem_cons_self) hb R (by omega) fun h1 n1 sb1 le1 R1 => ?_)
    refine forIn_sub hB hF l _ _ n1 Q (fun x hx => hg x (List.mem_cons_of_mem _ hx)) (hB _ _ hb sb1) R1 (by omega) fun h2 n2 sb2 le2 R2 => ?_
    refine h h2 n2 (sb1.trans sb2) (by rw [List.length_cons]; omega) (SetR.cong R2 fun k => ?_)
    cases S0 k <;> cases Sb k <;> by_cases z1 : k = keyOf e <;> by_cases z2 : k ∈ l.map keyOf <;> simp [z1, z2]
theorem diff_any {b : Addr} {S Sb : Int → Bool} {n nb : Nat} {nm : String} {Q : Value → Shared → Prop} (Ra : SetR w s.heap a S n) (Rb : SetR w s.heap b Sb nb) (small : n / 4 ≤ nb)
    (h : ∀ h' d n1, (∀ c o, s.heap.get? c = some o → h'.get? c = some o) → n1 ≤ n → SetR w h' s.heap.objs.size (fun k => S k && !Sb k) n1 → Q (.ref s.heap.objs.size) { s with heap := h', drawn := d }) :
    wpAny (model P w) A (Builtin.Frozenset.difference nm a (.ref b)) Q E s := by
  unfold Builtin.Frozenset.difference
  refine wpAny_bind (any_set Rb ?_)
  simp only [Bool.not_true, Bool.false_eq_true, if_false, Bool.false_and, if_true]
  refine wpAny_bind (wpAny_of_eq (a := b) rfl ?_)
  refine wpAny_bind (size_set Rb ?_)
  refine wpAny_bind (size_set Ra ?_)
  refine wp_if_neg (by omega) ?_
  refine wpAny_bind (base_set Ra ?_)
  refine wpAny_bind (PpSet.newSet_ok ?_)
  refine wpAny_bind (wpAny_of_eq (a := s.heap.objs.size) rfl ?_)
  have kp : ∀ c o, s.heap.get? c = some o → (s.heap.push { cls := .type "set", dict := none, data := .set #[] 0 (.fresh 0 0 (!w.params.followText "set-order")) }).get? c = some o := fun c o e => Heap.get?_push_of_some _ e
  have ar : a ≠ s.heap.objs.size := Nat.ne_of_lt Ra.lt
  have br : b ≠ s.heap.objs.size := Nat.ne_of_lt Rb.lt
  have Ra1 := Ra.at (h' := s.heap.push { cls := .type "set", dict := none, data := .set #[] 0 (.fresh 0 0 (!w.params.followText "set-order")) }) fun o e => kp _ o e
  have Rb1 := Rb.at (h' := s.heap.push { cls := .type "set", dict := none, data := .set #[] 0 (.fresh 0 0 (!w.params.followText "set-order")) }) fun o e => kp _ o e
  have Rr := setR_fresh (h := s.heap) w
  generalize s.heap.push { cls := .type "set", dict := none, data := .set #[] 0 (.fresh 0 0 (!w.params.followText "set-order")) } = h0 at kp Ra1 Rb1 Rr
  obtain ⟨o, es, ep, t, ho, hex, hd, g, nd, m, hb, hf, hn, hr, hl⟩ := (show SetR w _ a S n from Ra1)
  refine wpAny_bind ?_
  unfold setEpoch
  refine wpAny_bind (wpAny_setState_of ho hd hf (wpAny_pure ?_))
  refine wpAny_bind (wpAny_holding ?_)
  refine wpAny_bind (walk_unseen Ra1 Rb1 Rr fun out h1 d oo sb1 Rr1 => ?_)
  have ol : out.toList.length = n := by
    have p : (out.toList.map keyOf).Perm (es.toList.map keyOf) := (List.perm_ext_iff_of_nodup oo.2.1 nd).mpr fun k => (oo.2.2 k).symm.trans (m k)
    have := p.length_eq
    rw [List.length_map, List.length_map, Array.length_toList, Array.length_toList] at this
    rw [Array.length_toList, this, hn]
  refine wpAny_bind ?_
  rw [← Array.forIn_toList]
  refine forIn_sub (r := s.heap.objs.size) (Sb := Sb) (B := fun hh => hh.get? a = some o ∧ SetR w hh b Sb nb) (fun x y hx sb => ⟨(sb.2 a ar).trans hx.1, hx.2.at fun o e => (sb.2 b br).trans e⟩) ?_ out.toList _ (fun _ => false) 0 _ oo.1 ⟨(sb1.2 a ar).trans ho, Rb1.at fun o e => (sb1.2 b br).trans e⟩ Rr1 (by rw [ol]; omega) fun h2 n1 sb2 le2 R2 => ?_
  · intro e s' S0 n0 Q' ge hB Rr0 room hQ
    obtain ⟨k, tk, e2, e1⟩ := ge
    obtain ⟨eh, ev⟩ := e
    dsimp only at e1 e2
    subst e1
    subst e2
    have ek : keyOf (hashInt k, Value.int k tk) = k := rfl
    rw [ek] at hQ
    have same : ∀ h', Heap.SameBut s.heap.objs.size s'.heap h' → h'.get? a = some o := fun h' sb => (sb.2 a ar).trans hB.1
    refine wpAny_bind (wpAny_holding ?_)
    refine wpAny_bind (wpAny_setFind_of (knd := intKind P w) (k := k) (intKind_is P w k tk) rfl (SetR.setOf hB.2) fun rr hrr => ?_)
    refine wpAny_bind (wpAny_pure ?_)
    have tail : ∀ {h' : Heap}, Heap.SameBut s.heap.objs.size s'.heap h' → Q' (.yield PUnit.unit) { s' with heap := h' } → wpAny (model P w) A (do Builtin.Frozenset.unchanged nm a ep; pure (ForInStep.yield PUnit.unit)) Q' E { s' with heap := h' } := fun {h'} sb q => by
      unfold Builtin.Frozenset.unchanged setEpoch
      refine wpAny_bind (wpAny_bind (wpAny_bind (wpAny_setState_of (same h' sb) hd hf (wpAny_pure ?_))))
      exact wp_if_neg (by simp) (wpAny_pure (wpAny_pure q))
    cases z : Sb k with
    | true =>
      rw [z] at hrr
      refine wp_if_neg (by rw [hrr]; decide) (wpAny_pure ?_)
      refine tail (Heap.SameBut.refl _ _) (hQ _ n0 (Heap.SameBut.refl _ _) (by omega) (SetR.cong Rr0 fun j => ?_))
      by_cases zj : j = k
      · subst zj
        rw [z]
        simp
      · rw [decide_eq_false zj]
        simp
    | false =>
      rw [z] at hrr
      refine wp_if_pos (by rw [hrr]; decide) ?_
      refine wpAny_bind (setR_add_hashed Rr0 room fun h' sb R' => wpAny_pure ?_)
      refine tail sb (hQ _ _ sb (by split <;> omega) (SetR.cong R' fun j => ?_))
      by_cases zj : j = k
      · subst zj
        rw [z]
        simp
      · rw [decide_eq_false zj]
        simp
  · refine wpAny_pure (wpAny_pure (h h2 d n1 (fun c oc ec => ?_) (by omega) (SetR.cong R2 fun k => ?_)))
    · have cr : c ≠ s.heap.objs.size := Nat.ne_of_lt (Heap.lt_size ec)
      exact (sb2.2 c cr).trans ((sb1.2 c cr).trans (kp c oc ec))
    · have := oo.2.2 k
      by_cases z : k ∈ out.toList.map keyOf
      · rw [this.mpr z, decide_eq_true z]
        simp
      · have sk : S k = false := by
          cases y : S k with
          | false => rfl
          | true => exact (z (this.mp y)).elim
        rw [sk, decide_eq_false z]
        simp
end
end SD
/-! ### set - set by a copy: the first from 8 to 15 elements, the other fewer than a fourth -/
namespace SD
open PySem PySem.Spec PyProof.Rows L2
theorem range_all {α : Type} : ∀ l : List α, (List.range l.length).filterMap (fun i => l[i]?) = l
  | [] => rfl
  | x :: l => by
    rw [List.length_cons, List.range_succ_eq_map, List.filterMap_cons]
    simp only [List.getElem?_cons_zero]
    rw [List.filterMap_map]
    congr 1
    have : ((fun i => (x :: l)[i]?) ∘ Nat.succ) = fun i => l[i]? := by
      funext i
      simp
    rw [this]
    exact range_all l
theorem order_perm {es : Array (Int × Value)} {order : Array Nat} (h : order.toList.Perm (List.range es.size)) : (order.filterMap (es[·]?)).toList.Perm es.toList := by
  rw [Array.toList_filterMap]
  have e : (fun i : Nat => es[i]?) = fun i : Nat => es.toList[i]? := by
    funext i
    rw [Array.getElem?_toList]
  rw [e]
  have := h.filterMap (fun i : Nat => es.toList[i]?)
  rw [show es.size = es.toList.length from rfl, range_all] at this
  exact this
theorem laid_ok {M f mv : Nat} {led plain : Bool} {hs : Array Int} (hM : MaskOk M) (hn : hs.size ≤ M) : ∃ t order, SetTable.laid M f mv led plain hs = some (t, order) ∧ order.toList.Perm (List.range hs.size) ∧ Ris t.place.toList ∧ t.place.size = hs.size ∧ t.mask = M ∧ t.led = led ∧ t.dummies = #[] := by
  obtain ⟨wanted, hw⟩ : ∃ wanted, SetTable.sizeAbove wanted - 1 = M := by
    rcases hM with rfl | rfl | rfl
    · exact ⟨0, by decide⟩
    · exact ⟨16, by decide⟩
    · exact ⟨64, by decide⟩
  obtain ⟨t', order, e, hp, T, em, el, epl, ed⟩ := relaid_ok ⟨0, #[], #[], f, led, mv, plain⟩ (hs := hs) (wanted := wanted) hw hM hn
  rw [relaid_eq, hw] at e
  obtain ⟨owner, e1, e2⟩ := Option.bind_eq_some_iff.mp e
  have e3 := Prod.mk.inj (Option.some.inj e2)
  have sz : t'.place.size = hs.size := by
    have h1 := T.sz
    rw [List.length_map] at h1
    rw [h1, hp.length_eq, List.length_range]
  have ri := T.ris
  rw [← e3.1] at sz ri
  refine ⟨{ mask := M, place := ((liveOf M owner).map (·.1)).toArray, dummies := #[], finger := f, led := led, moves := mv, plain := plain }, order, ?_, hp, ri, sz, rfl, rfl, rfl⟩
  show (SetTable.layClean M hs >>= fun owner => _) = _
  rw [e1, ← e3.2]
  rfl
/-- a set of ints whose table has 32 places, few of them of discarded ones -/
def SetD (w : World) (h : Heap) (a : Addr) (S : Int → Bool) (n d : Nat) : Prop :=
  ∃ o es ep t, h.get? a = some o ∧ o.ExactSet ∧ o.data = .set es ep t ∧ (∀ e ∈ es.toList, GoodE e) ∧ (es.toList.map keyOf).Nodup ∧ (∀ k, S k = true ↔ k ∈ es.toList.map keyOf) ∧
    es.size < scanBound ∧ t.fits es.size = true ∧ es.size = n ∧ Ris t.place.toList ∧ (w.params.followText "set-order" = true ∨ t.led = true) ∧ t.mask = 31 ∧ t.dummies.size ≤ d
theorem SetD.R {w : World} {h : Heap} {a : Addr} {S : Int → Bool} {n d : Nat} (D : SetD w h a S n d) : SetR w h a S n := by
  obtain ⟨o, es, ep, t, h1, h2, h3, h4, h5, h6, h7, h8, h9, h10, h11, _⟩ := D
  exact ⟨o, es, ep, t, h1, h2, h3, h4, h5, h6, h7, h8, h9, h10, h11⟩
theorem SetD.cong {w : World} {h : Heap} {a : Addr} {S S' : Int → Bool} {n d : Nat} (R : SetD w h a S n d) (e : ∀ k, S k = S' k) : SetD w h a S' n d := by
  have : S = S' := funext e
  rw [← this]
  exact R
theorem setMerge_eq (s o : Addr) (each : Sem Unit) : setMerge s o each = (do
    if s == o then return
    let (eo, epoch, to) ← setState o
    if eo.isEmpty then return
    setRoomFor s eo.size
    let (_, _, ts) ← setState s
    match ts.road to with
    | .slotForSlot => storeSet s eo { to with finger := ts.finger, led := ts.led && to.led, moves := ts.moves, plain := ts.plain && to.plain }
    | .clean =>
      let (es, t) ← (do
        let some (t, order) := SetTable.laid ts.mask ts.finger ts.moves (led := ts.led && to.led) (plain := ts.plain && to.plain) (eo.map (·.1)) | unsupported "internal:set-table-without-room"
        let es' := order.filterMap (eo[·]?)
        if es'.size != eo.size then unsupported "internal:set-table-lost-an-element"
        pure (es', t) : Sem (Array (Int × Value) × SetTable))
      storeSet s es t
    | .oneByOne =>
      for (h, x) in ← setWalkUnseen o [s] (some s) do
        let _ ← holding [x] (setAddHashed s x h)
        each
        if (← setState o).2.1 != epoch then unsupported "set.changed-during-merge") := by rfl
section
variable {P : Program} {w : World} {A : Around} {E : Value → Shared → Prop} {s : Shared} {a : Addr}
theorem road_free {ts to : SetTable} (h : ts.place = #[]) (d : ts.dummies = #[]) : ts.road to = .slotForSlot ∧ ts.mask = to.mask ∧ to.dummies = #[] ∨ ts.road to = .clean := by
  unfold SetTable.road SetTable.fill
  rw [h, d]
  by_cases e : (ts.mask == to.mask && to.dummies.isEmpty) = true
  · refine .inl ⟨by simp [e], ?_⟩
    rw [Bool.and_eq_true, beq_iff_eq] at e
    exact ⟨e.1, by simpa using e.2⟩
  · exact .inr (by simp [e])
/-- an empty set takes over another one's elements -/
theorem merge_into {r : Addr} {S : Int → Bool} {n : Nat} {o : Obj} {ep : Nat} {t : SetTable} {each : Sem Unit} {Q : Unit → Shared → Prop} (Ra : SetR w s.heap a S n) (ne : r ≠ a) (n8 : 8 ≤ n) (n15 : n ≤ 15)
    (ho : s.heap.get? r = some o) (hex : o.ExactSet) (hd : o.data = .set #[] ep t) (hm : t.mask = 7) (hp : t.place = #[]) (hdm : t.dummies = #[]) (hl : w.params.followText "set-order" = true ∨ t.led = true)
    (h : ∀ h', Heap.SameBut r s.heap h' → SetD w h' r S n 0 → Q () { s with heap := h' }) : wpAny (model P w) A (setMerge r a each) Q E s := by
  obtain ⟨oa, es, epa, ta, hoa, hexa, hda, g, nd, m, hb, hf, hn, hr, hla⟩ := id Ra
  have hft : t.fits (#[] : Array (Int × Value)).size = true := by
    unfold SetTable.fits SetTable.fill
    rw [hp, hdm, hm]
    rfl
  rw [setMerge_eq]
  refine wp_if_neg (by simpa using ne) ?_
  refine wpAny_bind (wpAny_setState_of hoa hda hf ?_)
  dsimp only
  refine wp_if_neg (by rw [Array.isEmpty_iff_size_eq_zero]; omega) ?_
  refine wpAny_bind ?_
  unfold setRoomFor
  refine wpAny_bind (wpAny_setState_of ho hd hft ?_)
  have rf : t.roomFor es.size = some (es.size * 2) := by
    unfold SetTable.roomFor SetTable.fill
    rw [hp, hdm, hm]
    rw [if_pos (by show (0 + 0 + es.size) * 5 ≥ 7 * 3; omega)]
    simp
  dsimp only
  rw [rf]
  dsimp only
  have sa : SetTable.sizeAbove (es.size * 2) = 32 := by
    have : ∀ n : Fin 16, 8 ≤ n.1 → SetTable.sizeAbove (n.1 * 2) = 32 := by decide
    exact this ⟨es.size, by omega⟩ (by show 8 ≤ es.size; omega)
  rw [setRelay_eq]
  refine wpAny_bind (wpAny_setState_of ho hd hft ?_)
  dsimp only
  refine wp_if_neg (by rw [sa, sizeLine_eq]; omega) ?_
  try refine wpAny_bind (wpAny_pure ?_)
  obtain ⟨t', order, e, hpm, T, em, el, epl, ed⟩ := relaid_ok t (hs := (#[] : Array (Int × Value)).map (·.1)) (wanted := es.size * 2) (M := 31) (by rw [sa]) (.inr (.inl rfl)) (by simp)
  rw [e]
  dsimp only
  have o0 : order = #[] := by
    have := hpm.length_eq
    simp at this
    exact this
  subst o0
  refine wpAny_bind ?_
  refine wp_if_neg (by simp) ?_
  try refine wpAny_bind (wpAny_pure ?_)
  refine wpAny_pure ?_
  dsimp only
  refine wpAny_storeSet_of ho hd ?_ (by simp)
  have tp : t'.place = #[] := by
    have := T.sz
    simp at this
    exact this
  have ho1 := store_at (es' := (#[] : Array Nat).filterMap (fun i : Nat => (#[] : Array (Int × Value))[i]?)) (t' := t') ho hd
  have sb1 : Heap.SameBut r s.heap (s.heap.update r (Obj.putSet ((#[] : Array Nat).filterMap (fun i : Nat => (#[] : Array (Int × Value))[i]?)) t')) := Heap.SameBut.update ..
  generalize s.heap.update r (Obj.putSet ((#[] : Array Nat).filterMap (fun i : Nat => (#[] : Array (Int × Value))[i]?)) t') = h1 at ho1 sb1
  have hf1 : t'.fits ((#[] : Array Nat).filterMap (fun i : Nat => (#[] : Array (Int × Value))[i]?)).size = true := by
    unfold SetTable.fits SetTable.fill
    rw [tp, ed, em]
    rfl
  refine wpAny_bind (wpAny_setState_of (s := { s with heap := h1 }) ho1 rfl hf1 ?_)
  dsimp only
  have led' : w.params.followText "set-order" = true ∨ (t'.led && ta.led) = true := by
    rcases hl with z | z
    · exact .inl z
    · rcases hla with y | y
      · exact .inl y
      · exact .inr (by rw [el, z, y]; rfl)
  have fin : ∀ (es2 : Array (Int × Value)) (t2 : SetTable), es2.toList.Perm es.toList → t2.fits es2.size = true → Ris t2.place.toList → (w.params.followText "set-order" = true ∨ t2.led = true) → t2.mask = 31 → t2.dummies = #[] → wpAny (model P w) A (storeSet r es2 t2) Q E { s with heap := h1 } := by
    intro es2 t2 p2 f2 r2 l2 m2 d2
    have sz2 : es2.size = es.size := by
      have := p2.length_eq
      rwa [Array.length_toList, Array.length_toList] at this
    refine wpAny_storeSet_of (s := { s with heap := h1 }) ho1 rfl ?_ (by rw [sz2]; exact fits_of_scanBound hb)
    refine h _ (sb1.trans (Heap.SameBut.update ..)) ?_
    refine ⟨_, es2, _, t2, store_at ho1 rfl, hex, rfl, fun e he => g e (p2.mem_iff.mp he), (p2.map keyOf).nodup_iff.mpr nd, fun k => (m k).trans (p2.map keyOf).mem_iff.symm, by rw [sz2]; exact hb, f2, by rw [sz2]; exact hn, r2, l2, m2, by rw [d2]; exact Nat.le_refl _⟩
  rcases road_free (to := ta) tp ed with ⟨rd, rm, rdm⟩ | rd
  · rw [rd]
    dsimp only
    exact fin es _ (List.Perm.refl _) hf hr led' (by show ta.mask = 31; rw [← rm, em]) rdm
  · rw [rd]
    dsimp only
    obtain ⟨t2, order, e2, hp2, ri2, sz2, m2, l2, d2⟩ := laid_ok (M := 31) (f := t'.finger) (mv := t'.moves) (led := t'.led && ta.led) (plain := t'.plain && ta.plain) (hs := es.map (·.1)) (.inr (.inl rfl)) (by rw [Array.size_map]; omega)
    rw [em, e2]
    rw [Array.size_map] at hp2 sz2
    have pm := order_perm hp2
    have szE : (order.filterMap (es[·]?)).size = es.size := by
      have := pm.length_eq
      rwa [Array.length_toList, Array.length_toList] at this
    try refine wpAny_bind (wpAny_pure ?_)
    dsimp only
    refine wpAny_bind ?_
    refine wp_if_neg (by rw [szE]; simp) ?_
    try refine wpAny_bind (wpAny_pure ?_)
    refine wpAny_pure ?_
    dsimp only
    refine fin _ t2 pm ?_ ri2 (by rw [l2]; exact led') m2 d2
    unfold SetTable.fits SetTable.fill
    rw [sz2, szE, m2, d2]
    simp
    omega
theorem erase_list {α : Type} (xs : Array α) (p : Nat) : (SetTable.eraseAt xs p).toList = xs.toList.eraseIdx p := by
  unfold SetTable.eraseAt
  rw [Array.toList_append, Array.toList_extract, Array.toList_extract, List.eraseIdx_eq_take_drop_succ]
  congr 1
  simp
  exact List.take_of_length_le (by rw [List.length_drop, Array.length_toList]; exact Nat.le_refl _)
theorem erase_size {α : Type} (xs : Array α) {p : Nat} (h : p < xs.size) : (SetTable.eraseAt xs p).size = xs.size - 1 := by
  rw [← Array.length_toList, erase_list, List.length_eraseIdx, if_pos (by rw [Array.length_toList]; exact h), Array.length_toList]
theorem insert_size {α : Type} (xs : Array α) (p : Nat) (x : α) : (SetTable.insertAt xs p x).size = xs.size + 1 := by
  unfold SetTable.insertAt
  rw [Array.size_append, Array.size_push, Array.size_extract, Array.size_extract]
  omega
theorem mem_out {L : List (Int × Value)} {i : Nat} {k : Int} (nd : (L.map keyOf).Nodup) (hi : i < L.length) (e : keyOf L[i] = k) {j : Int} : j ∈ (L.eraseIdx i).map keyOf ↔ j ∈ L.map keyOf ∧ j ≠ k := by
  have sp : L = L.take i ++ L[i] :: L.drop (i + 1) := by rw [List.getElem_cons_drop, List.take_append_drop]
  rw [List.eraseIdx_eq_take_drop_succ]
  have nd' := nd
  rw [sp, List.map_append, List.map_cons, e] at nd'
  have h1 := List.nodup_append.mp nd'
  have h2 := List.nodup_cons.mp h1.2.1
  constructor
  · intro h
    rw [List.map_append] at h
    refine ⟨?_, fun z => ?_⟩
    · rw [sp, List.map_append, List.map_cons]
      rcases List.mem_append.mp h with y | y
      · exact List.mem_append_left _ y
      · exact List.mem_append_right _ (List.mem_cons_of_mem _ y)
    · subst z
      rcases List.mem_append.mp h with y | y
      · exact h1.2.2 _ y _ List.mem_cons_self rfl
      · exact h2.1 y
  · rintro ⟨h, z⟩
    rw [sp, List.map_append, List.map_cons, e] at h
    rw [List.map_append]
    rcases List.mem_append.mp h with y | y
    · exact List.mem_append_left _ y
    · rcases List.mem_cons.mp y with y | y
      · exact (z y).elim
      · exact List.mem_append_right _ y
theorem disc_at {r : Addr} {S : Int → Bool} {n d : Nat} {k : Int} {tk : Tok} {Q : Bool → Shared → Prop} (D : SetD w s.heap r S n d)
    (hQ : ∀ b h' n', Heap.SameBut r s.heap h' → n' ≤ n → SetD w h' r (fun j => S j && !decide (j = k)) n' (d + 1) → Q b { s with heap := h' }) :
    wpAny (model P w) A (setDiscardHashed r (.int k tk) ((intKind P w).hash k)) Q E s := by
  obtain ⟨o, es, ep, t, ho, hex, hd, g, nd, hm, hb, hf, hn, hr, hl, mk, dm⟩ := id D
  have hkey : (intKind P w).is k (.int k tk) = true := intKind_is P w k tk
  have hsc : (Value.int k tk).scannable = true := rfl
  have hel : ElemsOf (intKind P w) es.toList := good_elems g
  unfold setDiscardHashed setFind setFindIn
  refine wpAny_bind (wpAny_bind (wpAny_setState_of ho hd hf ?_))
  dsimp only
  rw [byScan_of hsc hb hel]
  simp only [↓reduceIte]
  refine wpAny_bind (wpAny_rule ?_)
  refine wpAny_bind (wpAny_setScan_of hkey ho hd hf hel ?_)
  cases hfi : List.findIdx? (fun e => (intKind P w).is k e.2) es.toList with
  | none =>
    dsimp only
    have hnk : k ∉ es.toList.map keyOf := fun z => by
      obtain ⟨e, he, q⟩ := (good_mem (P := P) (w := w) g k).1 z
      have c := List.findIdx?_eq_none_iff.mp hfi e he
      rw [q] at c
      cases c
    have hSk : S k = false := by
      cases q : S k with
      | false => rfl
      | true => exact absurd ((hm k).1 q) hnk
    refine wpAny_pure (wpAny_pure (hQ false s.heap n (Heap.SameBut.refl _ _) (Nat.le_refl _) ?_))
    have D' : SetD w s.heap r S n (d + 1) := ⟨o, es, ep, t, ho, hex, hd, g, nd, hm, hb, hf, hn, hr, hl, mk, Nat.le_succ_of_le dm⟩
    refine D'.cong fun j => ?_
    by_cases e : j = k
    · subst e
      rw [hSk]
      rfl
    · rw [decide_eq_false e]
      simp
  | some i =>
    dsimp only
    obtain ⟨hj, pj, _⟩ := List.findIdx?_eq_some_iff_getElem.mp hfi
    refine wpAny_pure ?_
    rw [Nat.zero_add]
    refine wpAny_bind (wpAny_setState_of ho hd hf ?_)
    dsimp only
    have hi : i < es.size := by rwa [Array.length_toList] at hj
    have ek : keyOf es.toList[i] = k := by
      obtain ⟨k', tk', e2, _⟩ := g _ (List.getElem_mem hj)
      have z : k' = k := by
        have := (good_mem (P := P) (w := w) (l := [es.toList[i]]) (fun e he => by rw [List.mem_singleton.mp he]; exact g _ (List.getElem_mem hj)) k).2 ⟨es.toList[i], List.mem_singleton.mpr rfl, pj⟩
        rw [List.map_cons, List.map_nil, List.mem_singleton] at this
        unfold keyOf at this
        rw [e2] at this
        exact this.symm
      unfold keyOf
      rw [e2]
      exact z
    have fs : t.place.size = es.size ∧ t.fill ≤ t.mask := by
      unfold SetTable.fits at hf
      simpa using hf
    have pl : t.place[i]? = some (t.place[i]'(by omega)) := Array.getElem?_eq_getElem (by omega)
    refine wpAny_bind (wpAny_storeSet_of ho hd ?_ (by rw [erase_size es hi]; have := fits_of_scanBound hb; omega))
    refine wpAny_bind (wpAny_point ?_)
    refine wpAny_pure (hQ true _ (n - 1) (Heap.SameBut.update ..) (Nat.sub_le _ _) ?_)
    refine ⟨_, _, _, _, store_at ho hd, hex, rfl, ?_, ?_, ?_, ?_, ?_, ?_, ?_, ?_, ?_, ?_⟩
    · intro e he
      rw [erase_list] at he
      exact g e ((List.eraseIdx_sublist _ _).subset he)
    · rw [erase_list]
      exact nd.sublist ((List.eraseIdx_sublist _ _).map keyOf)
    · intro j
      rw [erase_list, mem_out nd hj ek, ← hm j]
      simp
    · rw [erase_size es hi]
      omega
    · unfold SetTable.fits SetTable.fill SetTable.drop
      rw [pl]
      dsimp only
      rw [erase_size es hi, erase_size t.place (by omega), insert_size]
      have f2 := fs.2
      unfold SetTable.fill at f2
      simp
      omega
    · rw [erase_size es hi, hn]
    · unfold SetTable.drop
      rw [pl]
      dsimp only
      rw [erase_list]
      exact List.Pairwise.sublist (List.eraseIdx_sublist _ _) hr
    · unfold SetTable.drop
      rw [pl]
      exact hl
    · unfold SetTable.drop
      rw [pl]
      exact mk
    · unfold SetTable.drop
      rw [pl]
      dsimp only
      rw [insert_size]
      omega
end
end SD
namespace SD
open PySem PySem.Spec PyProof.Rows L2
theorem entry_sub : entryFor table "set.__sub__" = some Builtin.«frozenset.__sub__» :=
  entryFor_alias (id' := "frozenset.__sub__") (by kernel_rfl) (by first | rfl | decide +kernel | (unfold String.splitOn; simp +decide [String.splitOnAux])) (by decide +kernel) (by kernel_rfl)
/-- how many are left out of a set: none exactly if all are in the other -/
theorem none_left {w : World} {h : Heap} {r : Addr} {S : Int → Bool} {n : Nat} (R : SetR w h r S n) : n = 0 ↔ ∀ k, S k = false := by
  obtain ⟨o, es, ep, t, ho, hex, hd, g, nd, m, hb, hf, hn, hr, hl⟩ := R
  constructor
  · intro e k
    cases z : S k with
    | false => rfl
    | true =>
      have q := (m k).mp z
      have : es.toList = [] := List.length_eq_zero_iff.mp (by rw [Array.length_toList]; omega)
      rw [this] at q
      cases q
  · intro e
    rw [← hn, ← Array.length_toList]
    cases z : es.toList with
    | nil => rfl
    | cons x l =>
      have := (m (keyOf x)).mpr (by rw [z]; simp)
      rw [e] at this
      cases this
/-- set - set, of ints, the first not more than four times as large -/
def rSubI (w : World) : R2 := fun x y H Q => ∃ (a b : Addr) (S Sb : Int → Bool) (n nb : Nat), x = .ref a ∧ y = .ref b ∧ H a = some (SetO w a S n) ∧ H b = some (SetO w b Sb nb) ∧ n / 4 ≤ nb ∧
  ∀ (p : Addr) (n1 : Nat), H p = none → n1 ≤ n → (n1 = 0 ↔ ∀ k, (S k && !Sb k) = false) → Q (.ref p) (upd H p (SetO w p (fun k => S k && !Sb k) n1))
theorem inv_drawn {X : Cx} {pins : List (Addr × Obj)} {σ : L2.St} {H : Hp} {s : Shared} (I : Inv X pins σ H s) (d : Drawn) : Inv X pins σ H { s with drawn := d } :=
  I.step (h' := s.heap) (H' := H) (g' := s.gens) (t' := s.toks) (d' := d) (ch := []) (fun _ z => nomatch z) (fun b o _ _ _ e _ => e) (fun b o _ _ _ e _ => ⟨o.slots, e⟩) (fun _ _ _ _ n => n) (fun b o _ e => ⟨o, e⟩) (fun _ _ e => e) (fun _ _ _ e => e) (fun b ps e => ⟨#[], by rw [e]; simp⟩) (fun m h => h) I.hok I.bare
theorem op_subI {X : Cx} : OpR X (binaryOp .Sub) (rSubI X.w) := by
  intro pins s σ H x y v u Q I rx ry h
  obtain ⟨a, b, S, Sb, n, nb, rfl, rfl, ha, hb, small, q⟩ := h
  cases rx
  cases ry
  have Ra := setO_get I ha
  have Rb := setO_get I hb
  refine wpAny_binaryOp_same (type_set Ra) (type_set Rb) F.fills_set_sub F.slot_set_sub ?_
  refine wpAny_call_entry F.slot_set_sub (type_set Ra) entry_sub ?_ (F.args_set_sub_2 _ _)
  refine wpAny_bind (m := Builtin.Frozenset.slot1 "__sub__" ⟨[.ref a, .ref b], []⟩) (wpAny_of_eq (a := (Value.ref a, Value.ref b)) rfl ?_)
  refine wpAny_bind (wpAny_bind (any_set Ra (any_set Rb ?_)))
  refine wp_if_neg (by decide) ?_
  refine wpAny_bind (wpAny_of_eq (a := a) rfl ?_)
  refine wpAny_bind (diff_any Ra Rb small fun h' d n1 kp le R' => ?_)
  refine wpAny_pure ⟨_, rfl, (by simp), ?_⟩
  have J : Inv X pins σ (upd H s.heap.objs.size (SetO X.w s.heap.objs.size (fun k => S k && !Sb k) n1)) { s with heap := h' } := I.laid (t' := s.toks) kp (Nat.le_refl _) (setO_new R')
  exact ⟨.ref s.heap.objs.size, _, inv_drawn J d, rfl, q _ n1 (I.hok.fresh (Nat.le_refl _)) le (none_left R')⟩
end SD
namespace SD
open PySem PySem.Spec PyProof.Rows L2
section
variable {P : Program} {w : World} {A : Around} {E : Value → Shared → Prop} {s : Shared} {a : Addr}
theorem walk_unseen1 {b r : Addr} {Sb Sr : Int → Bool} {nb nr : Nat} {Q : Array (Int × Value) → Shared → Prop} (Rb : SetR w s.heap b Sb nb) (Rr : SetR w s.heap r Sr nr)
    (h : ∀ out d, Outs Sb out → Q out { s with drawn := d }) : wpAny (model P w) A (setWalkUnseen b [r] none) Q E s := by
  obtain ⟨o, es, ep, t, ho, hex, hd, g, nd, m, hb, hf, hn, hr, hl⟩ := id Rb
  have oe : Outs Sb es := ⟨g, nd, m⟩
  unfold setWalkUnseen
  refine wpAny_bind (wpAny_setState_of ho hd hf ?_)
  dsimp only
  refine wpAny_bind (wpAny_byText ?_)
  split
  · exact walk_any ho hd hf hl fun out d p => h out d (oe.perm p)
  · refine wpAny_bind (quiet_sets (fun c hc => ?_) ?_)
    · have e' : c = b ∨ c = r := by simpa using hc
      rcases e' with rfl | rfl
      · exact ⟨_, _, Rb⟩
      · exact ⟨_, _, Rr⟩
    refine wp_if_neg (by decide) ?_
    refine wpAny_bind (wpAny_rule ?_)
    exact wpAny_pure (h es s.drawn oe)
theorem SetD.at {h h' : Heap} {S : Int → Bool} {n d : Nat} (R : SetD w h a S n d) (k : ∀ o, h.get? a = some o → h'.get? a = some o) : SetD w h' a S n d := by
  obtain ⟨o, es, ep, t, ho, r⟩ := R
  exact ⟨o, es, ep, t, k o ho, r⟩
theorem forIn_disc {M : Model} {r : Addr} {F : Int × Value → PUnit → Sem (ForInStep PUnit)} {B : Heap → Prop} (hB : ∀ h h', B h → Heap.SameBut r h h' → B h')
    (hF : ∀ (e : Int × Value) (s : Shared) (S0 : Int → Bool) (n0 d0 : Nat) (Q' : ForInStep PUnit → Shared → Prop), GoodE e → B s.heap → SetD w s.heap r S0 n0 d0 →
      (∀ h' n1, Heap.SameBut r s.heap h' → n1 ≤ n0 → SetD w h' r (fun k => S0 k && !decide (k = keyOf e)) n1 (d0 + 1) → Q' (.yield PUnit.unit) { s with heap := h' }) → wpAny M A (F e PUnit.unit) Q' E s) :
    ∀ (l : List (Int × Value)) (s : Shared) (S0 : Int → Bool) (n0 d0 : Nat) (Q : PUnit → Shared → Prop), (∀ e ∈ l, GoodE e) → B s.heap → SetD w s.heap r S0 n0 d0 →
      (∀ h' n1, Heap.SameBut r s.heap h' → n1 ≤ n0 → SetD w h' r (fun k => S0 k && !decide (k ∈ l.map keyOf)) n1 (d0 + l.length) → Q PUnit.unit { s with heap := h' }) → wpAny M A (forIn l PUnit.unit F) Q E s
  | [], s, S0, n0, d0, Q, _, _, R, h => by
    refine wpAny_pure (h s.heap n0 (Heap.SameBut.refl _ _) (Nat.le_refl _) (SetD.cong R fun k => ?_))
    simp
  | e :: l, s, S0, n0, d0, Q, hg, hb, R, h => by
    rw [List.forIn_cons]
    refine wpAny_bind (hF e s S0 n0 d0 _ (hg e List.mem_cons_self) hb R fun h1 n1 sb1 le1 R1 => ?_)
    refine forIn_disc hB hF l _ _ n1 (d0 + 1) Q (fun x hx => hg x (List.mem_cons_of_mem _ hx)) (hB _ _ hb sb1) R1 fun h2 n2 sb2 le2 R2 => ?_
    refine h h2 n2 (sb1.trans sb2) (by omega) ?_
    rw [List.length_cons, show d0 + (l.length + 1) = d0 + 1 + l.length by omega]
    refine SetD.cong R2 fun k => ?_
    cases S0 k <;> by_cases z1 : k = keyOf e <;> by_cases z2 : k ∈ l.map keyOf <;> simp [z1, z2]
theorem diff_copy {b : Addr} {S Sb : Int → Bool} {n nb : Nat} {nm : String} {Q : Value → Shared → Prop} (Ra : SetR w s.heap a S n) (Rb : SetR w s.heap b Sb nb) (big : nb < n / 4) (n8 : 8 ≤ n) (n15 : n ≤ 15)
    (h : ∀ h' d n1, (∀ c o, s.heap.get? c = some o → h'.get? c = some o) → n1 ≤ n → SetR w h' s.heap.objs.size (fun k => S k && !Sb k) n1 → Q (.ref s.heap.objs.size) { s with heap := h', drawn := d }) :
    wpAny (model P w) A (Builtin.Frozenset.difference nm a (.ref b)) Q E s := by
  unfold Builtin.Frozenset.difference
  refine wpAny_bind (any_set Rb ?_)
  simp only [Bool.not_true, Bool.false_eq_true, if_false, Bool.false_and, if_true]
  refine wpAny_bind (wpAny_of_eq (a := b) rfl ?_)
  refine wpAny_bind (size_set Rb ?_)
  refine wpAny_bind (size_set Ra ?_)
  refine wp_if_pos (by omega) ?_
  refine wpAny_bind (wpAny_rule ?_)
  refine wpAny_bind ?_
  unfold Builtin.Frozenset.copyOf
  refine wpAny_bind (base_set Ra ?_)
  refine wpAny_bind (PpSet.newSet_ok ?_)
  refine wpAny_bind (wpAny_of_eq (a := s.heap.objs.size) rfl ?_)
  have kp : ∀ c o, s.heap.get? c = some o → (s.heap.push { cls := .type "set", dict := none, data := .set #[] 0 (.fresh 0 0 (!w.params.followText "set-order")) }).get? c = some o := fun c o e => Heap.get?_push_of_some _ e
  have hr0 : (s.heap.push { cls := .type "set", dict := none, data := .set #[] 0 (.fresh 0 0 (!w.params.followText "set-order")) }).get? s.heap.objs.size = some { cls := .type "set", dict := none, data := .set #[] 0 (.fresh 0 0 (!w.params.followText "set-order")) } := by
    obtain ⟨o, es, ep, t, ho, hex, hd, _⟩ := setR_fresh (h := s.heap) w
    first | exact Heap.get?_push_self _ _ | simp [Heap.get?, Heap.push]
  have ar : a ≠ s.heap.objs.size := Nat.ne_of_lt Ra.lt
  have br : b ≠ s.heap.objs.size := Nat.ne_of_lt Rb.lt
  have Ra1 := Ra.at (h' := s.heap.push { cls := .type "set", dict := none, data := .set #[] 0 (.fresh 0 0 (!w.params.followText "set-order")) }) fun o e => kp _ o e
  have Rb1 := Rb.at (h' := s.heap.push { cls := .type "set", dict := none, data := .set #[] 0 (.fresh 0 0 (!w.params.followText "set-order")) }) fun o e => kp _ o e
  generalize s.heap.push { cls := .type "set", dict := none, data := .set #[] 0 (.fresh 0 0 (!w.params.followText "set-order")) } = h0 at kp Ra1 Rb1 hr0
  refine wpAny_bind (merge_into (s := { s with heap := h0 }) Ra1 ar.symm n8 n15 hr0 ⟨rfl, rfl, rfl⟩ rfl rfl rfl rfl ?_ fun h1 sb1 D1 => ?_)
  · show _ ∨ (!w.params.followText "set-order") = true
    cases w.params.followText "set-order"
    · exact .inr rfl
    · exact .inl rfl
  refine wpAny_pure ?_
  refine wpAny_bind (wpAny_of_eq (a := s.heap.objs.size) rfl ?_)
  have Rb2 : SetR w h1 b Sb nb := Rb1.at fun o e => (sb1.2 b br).trans e
  refine wpAny_bind (wpAny_holding ?_)
  unfold Builtin.Frozenset.differenceUpdate
  refine wp_if_neg (by simpa using br) ?_
  refine wpAny_bind (any_set (s := { s with heap := h1 }) Rb2 ?_)
  simp only [if_true]
  refine wpAny_bind (wpAny_of_eq (a := b) rfl ?_)
  refine wpAny_bind (size_set (s := { s with heap := h1 }) Rb2 ?_)
  refine wpAny_bind (size_set (s := { s with heap := h1 }) D1.R ?_)
  refine wp_if_neg (by omega) ?_
  obtain ⟨ob, eb, epb, tb, hob, hexb, hdb, gb, ndb, mb, hbb, hfb, hnb, hrb, hlb⟩ := id Rb2
  refine wpAny_bind ?_
  unfold setEpoch
  refine wpAny_bind (wpAny_setState_of (s := { s with heap := h1 }) hob hdb hfb (wpAny_pure ?_))
  refine wpAny_bind (wpAny_holding ?_)
  refine wpAny_bind (walk_unseen1 (s := { s with heap := h1 }) Rb2 D1.R fun out d oo => ?_)
  have ol : out.toList.length = nb := by
    have p : (out.toList.map keyOf).Perm (eb.toList.map keyOf) := (List.perm_ext_iff_of_nodup oo.2.1 ndb).mpr fun k => (oo.2.2 k).symm.trans (mb k)
    have := p.length_eq
    rw [List.length_map, List.length_map, Array.length_toList, Array.length_toList] at this
    rw [Array.length_toList, this, hnb]
  refine wpAny_bind ?_
  rw [← Array.forIn_toList]
  refine forIn_disc (r := s.heap.objs.size) (B := fun hh => hh.get? b = some ob) (fun x y hx sb => (sb.2 b br).trans hx) ?_ out.toList _ S n 0 _ oo.1 hob D1 fun h2 n1 sb2 le2 D2 => ?_
  · intro e s' S0 n0 d0 Q' ge hB D0 hQ
    obtain ⟨k, tk, e2, e1⟩ := ge
    obtain ⟨eh, ev⟩ := e
    dsimp only at e1 e2
    subst e1
    subst e2
    have ek : keyOf (hashInt k, Value.int k tk) = k := rfl
    rw [ek] at hQ
    refine wpAny_bind (wpAny_holding ?_)
    refine disc_at D0 fun bb h' n' sb le D' => ?_
    unfold Builtin.Frozenset.unchanged setEpoch
    refine wpAny_bind (wpAny_bind (wpAny_bind (wpAny_setState_of (s := { s' with heap := h' }) ((sb.2 b br).trans hB) hdb hfb (wpAny_pure ?_))))
    exact wp_if_neg (by simp) (wpAny_pure (wpAny_pure (hQ h' n' sb le D')))
  · refine wpAny_pure ?_
    obtain ⟨o, es, ep, t, ho, hex, hd, g, nd, m, hb, hf, hn, hr, hl, mk, dm⟩ := id D2
    unfold setTidy
    refine wpAny_bind (wpAny_setState_of (s := { s with heap := h2, drawn := d }) ho hd hf ?_)
    dsimp only
    refine wp_if_neg ?_ (wpAny_pure (wpAny_pure ?_))
    · unfold SetTable.tooManyDummies
      rw [mk]
      simp
      omega
    refine h h2 d n1 (fun c oc ec => ?_) le2 (SetR.cong D2.R fun k => ?_)
    · have cr : c ≠ s.heap.objs.size := Nat.ne_of_lt (Heap.lt_size ec)
      exact (sb2.2 c cr).trans ((sb1.2 c cr).trans (kp c oc ec))
    · have := oo.2.2 k
      by_cases z : k ∈ out.toList.map keyOf
      · rw [this.mpr z, decide_eq_true z]
      · have sk : Sb k = false := by
          cases y : Sb k with
          | false => rfl
          | true => exact (z (this.mp y)).elim
        rw [sk, decide_eq_false z]
end
/-- set - set, of ints, the first not more than four times as large, or with at most 15 and the other not empty -/
def rSubJ (w : World) : R2 := fun x y H Q => ∃ (a b : Addr) (S Sb : Int → Bool) (n nb : Nat), x = .ref a ∧ y = .ref b ∧ H a = some (SetO w a S n) ∧ H b = some (SetO w b Sb nb) ∧ (n / 4 ≤ nb ∨ 1 ≤ nb ∧ n ≤ 15) ∧
  ∀ (p : Addr) (n1 : Nat), H p = none → n1 ≤ n → (n1 = 0 ↔ ∀ k, (S k && !Sb k) = false) → Q (.ref p) (upd H p (SetO w p (fun k => S k && !Sb k) n1))
theorem op_subJ {X : Cx} : OpR X (binaryOp .Sub) (rSubJ X.w) := by
  intro pins s σ H x y v u Q I rx ry h
  obtain ⟨a, b, S, Sb, n, nb, rfl, rfl, ha, hb, few, q⟩ := h
  cases rx
  cases ry
  have Ra := setO_get I ha
  have Rb := setO_get I hb
  refine wpAny_binaryOp_same (type_set Ra) (type_set Rb) F.fills_set_sub F.slot_set_sub ?_
  refine wpAny_call_entry F.slot_set_sub (type_set Ra) entry_sub ?_ (F.args_set_sub_2 _ _)
  refine wpAny_bind (m := Builtin.Frozenset.slot1 "__sub__" ⟨[.ref a, .ref b], []⟩) (wpAny_of_eq (a := (Value.ref a, Value.ref b)) rfl ?_)
  refine wpAny_bind (wpAny_bind (any_set Ra (any_set Rb ?_)))
  refine wp_if_neg (by decide) ?_
  refine wpAny_bind (wpAny_of_eq (a := a) rfl ?_)
  have fin : ∀ h' d n1, (∀ c o, s.heap.get? c = some o → h'.get? c = some o) → n1 ≤ n → SetR X.w h' s.heap.objs.size (fun k => S k && !Sb k) n1 → _ := fun h' d n1 kp le R' => by
    have J : Inv X pins σ (upd H s.heap.objs.size (SetO X.w s.heap.objs.size (fun k => S k && !Sb k) n1)) { s with heap := h' } := I.laid (t' := s.toks) kp (Nat.le_refl _) (setO_new R')
    exact (⟨.ref s.heap.objs.size, _, inv_drawn J d, rfl, q _ n1 (I.hok.fresh (Nat.le_refl _)) le (none_left R')⟩ : ∃ z H', Inv X pins σ H' { s with heap := h', drawn := d } ∧ RelV z (.ref s.heap.objs.size) ∧ Q z H')
  by_cases sm : n / 4 ≤ nb
  · refine wpAny_bind (diff_any Ra Rb sm fun h' d n1 kp le R' => ?_)
    exact wpAny_pure ⟨_, rfl, (by simp), fin h' d n1 kp le R'⟩
  · have f2 := few.resolve_left sm
    refine wpAny_bind (diff_copy Ra Rb (by omega) (by omega) f2.2 fun h' d n1 kp le R' => ?_)
    exact wpAny_pure ⟨_, rfl, (by simp), fin h' d n1 kp le R'⟩
end SD
/-! ### tables of sets with 64 places, by a copy or laid anew -/
namespace SD
open PySem PySem.Spec PyProof.Rows L2
def hit63 : Bool := (List.range 64).all fun place => (List.range 64).any fun turn => lcgN 63 turn == place
theorem hit63_yes : hit63 = true := by decide +kernel
theorem hit_from0 {place : Nat} (h : place ≤ 63) : ∃ turn, turn ≤ 63 ∧ lcgN 63 turn = place := by
  obtain ⟨turn, ht, e⟩ := List.any_eq_true.mp (List.all_eq_true.mp hit63_yes place (List.mem_range.mpr (by omega)))
  have := List.mem_range.mp ht
  exact ⟨turn, by omega, beq_iff_eq.mp e⟩
theorem round63 : ∀ turn, lcgN 63 (64 + turn) = lcgN 63 turn := by
  intro turn
  induction turn with
  | zero => decide +kernel
  | succ turn ih =>
    have s1 : lcgN 63 (64 + (turn + 1)) = (lcgN 63 (64 + turn) * 5 + 1) % 64 := rfl
    have s2 : lcgN 63 (turn + 1) = (lcgN 63 turn * 5 + 1) % 64 := rfl
    rw [s1, s2, ih]
/-- of 64 places each begins a run early enough -/
theorem meets63 (hash : Int) {place : Nat} (h : place ≤ 63) : ∃ n, n ≤ 75 ∧ runI 63 (SetTable.bits hash) n = place := by
  obtain ⟨from_, f1, f2⟩ := hit_from0 (runI_le 63 (SetTable.bits hash) 12)
  obtain ⟨to_, t1, t2⟩ := hit_from0 h
  have tail : ∀ k, runI 63 (SetTable.bits hash) (12 + k) = lcgN 63 (from_ + k) := fun k => by
    rw [runI_tail (bits_lt hash), ← f2, lcgN_add]
  by_cases le : from_ ≤ to_
  · refine ⟨12 + (to_ - from_), by omega, ?_⟩
    rw [tail, show from_ + (to_ - from_) = to_ by omega, t2]
  · refine ⟨12 + (64 + to_ - from_), by omega, ?_⟩
    rw [tail, show from_ + (64 + to_ - from_) = 64 + to_ by omega, round63, t2]
theorem in63 (hash : Int) (k : Nat) : way 63 hash k ≤ 63 := by
  have lt : SetTable.bits hash % 64 < 64 := Nat.mod_lt _ (by decide)
  have bd := runEnd_bd (m := 63) (i := SetTable.bits hash % 64) (by omega)
  have all := nth_in (m := 63) k (runAt 63 (SetTable.bits hash % 64) (SetTable.bits hash)) (by
    have e : (runAt 63 (SetTable.bits hash % 64) (SetTable.bits hash)).j + (runAt 63 (SetTable.bits hash % 64) (SetTable.bits hash)).more = SetTable.bits hash % 64 + (SetTable.runEnd 63 (SetTable.bits hash % 64) - SetTable.bits hash % 64) := rfl
    omega)
  have e : way 63 hash k = (nth 63 (runAt 63 (SetTable.bits hash % 64) (SetTable.bits hash)) k).j := rfl
  omega
/-- a free place is found -/
theorem free63 (owner : Array (Option Nat)) (hash : Int) {place : Nat} (h : place ≤ 63) (none_ : oAt owner place = none) :
    ∃ k, SetTable.layClean.free 63 owner (SetTable.turns 63) (SetTable.bits hash % 64) (SetTable.bits hash) = some (way 63 hash k) ∧ oAt owner (way 63 hash k) = none := by
  obtain ⟨n, n75, en⟩ := meets63 hash h
  have there : way 63 hash (off 63 (SetTable.bits hash % 64) (SetTable.bits hash) n) = place := by
    have e : way 63 hash (off 63 (SetTable.bits hash % 64) (SetTable.bits hash) n) = (nth 63 (runAt 63 (SetTable.bits hash % 64) (SetTable.bits hash)) (off 63 (SetTable.bits hash % 64) (SetTable.bits hash) n)).j := rfl
    rw [e, nth_off, show (64 : Nat) = 63 + 1 from rfl, itL_run]
    exact en
  obtain ⟨k, k1, k2, k3⟩ := st_least (p := fun k => oAt owner (way 63 hash k) = none) _ (there ▸ none_ : oAt owner (way 63 hash (off 63 (SetTable.bits hash % 64) (SetTable.bits hash) n)) = none)
  refine ⟨k, free_spec 63 owner (SetTable.turns 63) n _ _ k (by unfold SetTable.turns; omega) k1 (fun i hi => ?_) ?_, k2⟩
  · have := k3 i hi
    rw [Option.isNone_eq_false_iff, Option.isSome_iff_ne_none]
    exact this
  · rw [Option.isNone_iff_eq_none]
    exact k2
/-- n elements have their places -/
structure Sits (n : Nat) (owner : Array (Option Nat)) : Prop where
  size : owner.size = 64
  each : ∀ k, k < n → ∃ j, j ≤ 63 ∧ oAt owner j = some k
  few : ∃ ps : List Nat, ps.length = n ∧ ∀ j, j ≤ 63 → oAt owner j ≠ none → j ∈ ps
theorem Sits.start : Sits 0 (Array.replicate 64 none) := ⟨by simp, fun k hk => absurd hk (Nat.not_lt_zero _), [], rfl, fun j hj e => (e (oAt_init (m := 63) hj)).elim⟩
theorem Sits.next {n : Nat} {owner : Array (Option Nat)} (S : Sits n owner) (room : n ≤ 63) (hash : Int) :
    ∃ j, SetTable.layClean.free 63 owner (SetTable.turns 63) (SetTable.bits hash % 64) (SetTable.bits hash) = some j ∧ Sits (n + 1) (owner.setIfInBounds j (some n)) := by
  obtain ⟨ps, pl, pin⟩ := S.few
  obtain ⟨p0, p1, p2⟩ := st_missing ps 64 (by omega)
  have free0 : oAt owner p0 = none := by
    by_cases z : oAt owner p0 = none
    · exact z
    · exact (p2 (pin p0 (by omega) z)).elim
  obtain ⟨k, e1, e2⟩ := free63 owner hash (place := p0) (by omega) free0
  have bd := in63 hash k
  have self := oAt_set_self (owner := owner) (j := way 63 hash k) (some n) (by rw [S.size]; omega)
  refine ⟨way 63 hash k, e1, by rw [Array.size_setIfInBounds, S.size], fun i hi => ?_, way 63 hash k :: ps, by rw [List.length_cons, pl], fun j hj ne => ?_⟩
  · by_cases last : i = n
    · exact ⟨_, bd, by rw [last]; exact self⟩
    · obtain ⟨j, hj, ej⟩ := S.each i (by omega)
      have other : j ≠ way 63 hash k := fun z => by
        rw [z, e2] at ej
        cases ej
      exact ⟨j, hj, by rw [oAt_set_ne _ other]; exact ej⟩
  · by_cases z : j = way 63 hash k
    · rw [z]
      exact List.mem_cons_self
    · rw [oAt_set_ne _ z] at ne
      exact List.mem_cons_of_mem _ (pin j hj ne)
theorem Sits.all : ∀ (rest : List Int) (n : Nat) (owner : Array (Option Nat)), Sits n owner → n + rest.length ≤ 63 → ∃ owner', rest.foldl (stepF 63) (some (owner, n)) = some (owner', n + rest.length) ∧ Sits (n + rest.length) owner' := by
  intro rest
  induction rest with
  | nil => exact fun n owner S _ => ⟨owner, rfl, S⟩
  | cons hash rest ih =>
    intro n owner S le
    rw [List.length_cons] at le ⊢
    obtain ⟨j, e, S'⟩ := S.next (by omega) hash
    obtain ⟨owner', f, S2⟩ := ih (n + 1) _ S' (by omega)
    rw [show n + 1 + rest.length = n + (rest.length + 1) by omega] at f S2
    refine ⟨owner', ?_, S2⟩
    rw [List.foldl_cons, stepF_some (m := 63) e]
    exact f
theorem lay63 {hs : Array Int} (le : hs.size ≤ 63) : ∃ owner, SetTable.layClean 63 hs = some owner ∧ Sits hs.size owner := by
  obtain ⟨owner, f, S⟩ := Sits.all hs.toList 0 _ Sits.start (by rw [Array.length_toList]; omega)
  rw [Nat.zero_add, Array.length_toList] at f S
  refine ⟨owner, ?_, S⟩
  rw [layClean_eq, show (63 + 1 : Nat) = 64 from rfl, f]
  rfl
theorem Sits.live {n : Nat} {owner : Array (Option Nat)} (S : Sits n owner) : (liveOf 63 owner).length = n ∧ (((liveOf 63 owner).map (·.2)).Perm (List.range n)) ∧ Ris ((liveOf 63 owner).map (·.1)) := by
  have sz : owner.size = 63 + 1 := S.size
  have up : Ris ((liveOf 63 owner).map (·.1)) := (ris_live (fun j => owner.getD j none) (List.range (63 + 1)) (by unfold Ris; exact List.pairwise_lt_range)).1
  have has : ∀ k, k < n → k ∈ (liveOf 63 owner).map (·.2) := fun k hk => by
    obtain ⟨j, hj, e⟩ := S.each k hk
    exact List.mem_map.mpr ⟨(j, k), (mem_live sz).2 ⟨hj, e⟩, rfl⟩
  have len : (liveOf 63 owner).length = n := by
    obtain ⟨ps, pl, pin⟩ := S.few
    have apart : ((liveOf 63 owner).map (·.1)).Nodup := up.imp fun lt => Nat.ne_of_lt lt
    have a := nat_nodup_len ((liveOf 63 owner).map (·.1)) ps apart fun j hj => by
      obtain ⟨⟨j', k⟩, hm, rfl⟩ := List.mem_map.mp hj
      obtain ⟨b1, b2⟩ := (mem_live sz).1 hm
      exact pin _ b1 (by rw [b2]; exact fun z => nomatch z)
    have b := nat_nodup_len (List.range n) ((liveOf 63 owner).map (·.2)) List.nodup_range fun k hk => has k (List.mem_range.mp hk)
    rw [List.length_map] at a b
    rw [List.length_range] at b
    omega
  exact ⟨len, perm_range n _ (by rw [List.length_map]; exact len) has, up⟩
theorem laid63 {f mv : Nat} {led plain : Bool} {hs : Array Int} (le : hs.size ≤ 63) : ∃ t order, SetTable.laid 63 f mv led plain hs = some (t, order) ∧ order.toList.Perm (List.range hs.size) ∧ Ris t.place.toList ∧ t.place.size = hs.size ∧ t.mask = 63 ∧ t.led = led ∧ t.dummies = #[] := by
  obtain ⟨owner, e, S⟩ := lay63 le
  obtain ⟨l1, l2, l3⟩ := S.live
  refine ⟨{ mask := 63, place := ((liveOf 63 owner).map (·.1)).toArray, dummies := #[], finger := f, led := led, moves := mv, plain := plain }, ((liveOf 63 owner).map (·.2)).toArray, ?_, l2, l3, by rw [List.size_toArray, List.length_map, l1], rfl, rfl, rfl⟩
  have d : SetTable.laid 63 f mv led plain hs = (SetTable.layClean 63 hs).bind fun owner => some ({ mask := 63, place := ((liveOf 63 owner).map (·.1)).toArray, dummies := #[], finger := f, led := led, moves := mv, plain := plain }, ((liveOf 63 owner).map (·.2)).toArray) := rfl
  rw [d, e]
  rfl
theorem relaid63 (t : SetTable) {wanted : Nat} (hw : SetTable.sizeAbove wanted = 64) : ∃ t', t.relaid #[] wanted = some (t', #[]) ∧ t'.place = #[] ∧ t'.mask = 63 ∧ t'.led = t.led ∧ t'.plain = t.plain ∧ t'.dummies = #[] := by
  obtain ⟨owner, e, S⟩ := lay63 (hs := #[]) (by decide)
  obtain ⟨l1, l2, l3⟩ := S.live
  have nil : liveOf 63 owner = [] := List.length_eq_zero_iff.mp l1
  refine ⟨tabOf t 63 owner, ?_, ?_, rfl, rfl, rfl, rfl⟩
  · rw [relaid_eq, hw, show 64 - 1 = 63 from rfl, e]
    simp [nil]
  · unfold tabOf
    rw [nil]
    rfl
end SD
/-! ### set - set by a copy: the first from 16 to 31 elements, the other fewer than a fourth -/
namespace SD
open PySem PySem.Spec PyProof.Rows L2
/-- a set of ints whose table has 64 places, few of them of discarded ones -/
def SetE (w : World) (h : Heap) (a : Addr) (S : Int → Bool) (n d : Nat) : Prop :=
  ∃ o es ep t, h.get? a = some o ∧ o.ExactSet ∧ o.data = .set es ep t ∧ (∀ e ∈ es.toList, GoodE e) ∧ (es.toList.map keyOf).Nodup ∧ (∀ k, S k = true ↔ k ∈ es.toList.map keyOf) ∧
    es.size < scanBound ∧ t.fits es.size = true ∧ es.size = n ∧ Ris t.place.toList ∧ (w.params.followText "set-order" = true ∨ t.led = true) ∧ t.mask = 63 ∧ t.dummies.size ≤ d
theorem SetE.R {w : World} {h : Heap} {a : Addr} {S : Int → Bool} {n d : Nat} (D : SetE w h a S n d) : SetR w h a S n := by
  obtain ⟨o, es, ep, t, h1, h2, h3, h4, h5, h6, h7, h8, h9, h10, h11, _⟩ := D
  exact ⟨o, es, ep, t, h1, h2, h3, h4, h5, h6, h7, h8, h9, h10, h11⟩
theorem SetE.cong {w : World} {h : Heap} {a : Addr} {S S' : Int → Bool} {n d : Nat} (R : SetE w h a S n d) (e : ∀ k, S k = S' k) : SetE w h a S' n d := by
  have : S = S' := funext e
  rw [← this]
  exact R
section
variable {P : Program} {w : World} {A : Around} {E : Value → Shared → Prop} {s : Shared} {a : Addr}
/-- an empty set takes over another one's elements -/
theorem merge_into6 {r : Addr} {S : Int → Bool} {n : Nat} {o : Obj} {ep : Nat} {t : SetTable} {each : Sem Unit} {Q : Unit → Shared → Prop} (Ra : SetR w s.heap a S n) (ne : r ≠ a) (n8 : 16 ≤ n) (n15 : n ≤ 31)
    (ho : s.heap.get? r = some o) (hex : o.ExactSet) (hd : o.data = .set #[] ep t) (hm : t.mask = 7) (hp : t.place = #[]) (hdm : t.dummies = #[]) (hl : w.params.followText "set-order" = true ∨ t.led = true)
    (h : ∀ h', Heap.SameBut r s.heap h' → SetE w h' r S n 0 → Q () { s with heap := h' }) : wpAny (model P w) A (setMerge r a each) Q E s := by
  obtain ⟨oa, es, epa, ta, hoa, hexa, hda, g, nd, m, hb, hf, hn, hr, hla⟩ := id Ra
  have hft : t.fits (#[] : Array (Int × Value)).size = true := by
    unfold SetTable.fits SetTable.fill
    rw [hp, hdm, hm]
    rfl
  rw [setMerge_eq]
  refine wp_if_neg (by simpa using ne) ?_
  refine wpAny_bind (wpAny_setState_of hoa hda hf ?_)
  dsimp only
  refine wp_if_neg (by rw [Array.isEmpty_iff_size_eq_zero]; omega) ?_
  refine wpAny_bind ?_
  unfold setRoomFor
  refine wpAny_bind (wpAny_setState_of ho hd hft ?_)
  have rf : t.roomFor es.size = some (es.size * 2) := by
    unfold SetTable.roomFor SetTable.fill
    rw [hp, hdm, hm]
    rw [if_pos (by show (0 + 0 + es.size) * 5 ≥ 7 * 3; omega)]
    simp
  dsimp only
  rw [rf]
  dsimp only
  have sa : SetTable.sizeAbove (es.size * 2) = 64 := by
    have : ∀ n : Fin 32, 16 ≤ n.1 → SetTable.sizeAbove (n.1 * 2) = 64 := by decide
    exact this ⟨es.size, by omega⟩ (by show 16 ≤ es.size; omega)
  rw [setRelay_eq]
  refine wpAny_bind (wpAny_setState_of ho hd hft ?_)
  dsimp only
  refine wp_if_neg (by rw [sa, sizeLine_eq]; omega) ?_
  try refine wpAny_bind (wpAny_pure ?_)
  obtain ⟨t', e, tp, em, el, epl, ed⟩ := relaid63 t (wanted := es.size * 2) sa
  rw [show (#[] : Array (Int × Value)).map (·.1) = #[] by simp, e]
  dsimp only
  refine wpAny_bind ?_
  refine wp_if_neg (by simp) ?_
  try refine wpAny_bind (wpAny_pure ?_)
  refine wpAny_pure ?_
  dsimp only
  refine wpAny_storeSet_of ho hd ?_ (by simp)
  have ho1 := store_at (es' := (#[] : Array Nat).filterMap (fun i : Nat => (#[] : Array (Int × Value))[i]?)) (t' := t') ho hd
  have sb1 : Heap.SameBut r s.heap (s.heap.update r (Obj.putSet ((#[] : Array Nat).filterMap (fun i : Nat => (#[] : Array (Int × Value))[i]?)) t')) := Heap.SameBut.update ..
  generalize s.heap.update r (Obj.putSet ((#[] : Array Nat).filterMap (fun i : Nat => (#[] : Array (Int × Value))[i]?)) t') = h1 at ho1 sb1
  have hf1 : t'.fits ((#[] : Array Nat).filterMap (fun i : Nat => (#[] : Array (Int × Value))[i]?)).size = true := by
    unfold SetTable.fits SetTable.fill
    rw [tp, ed, em]
    rfl
  refine wpAny_bind (wpAny_setState_of (s := { s with heap := h1 }) ho1 rfl hf1 ?_)
  dsimp only
  have led' : w.params.followText "set-order" = true ∨ (t'.led && ta.led) = true := by
    rcases hl with z | z
    · exact .inl z
    · rcases hla with y | y
      · exact .inl y
      · exact .inr (by rw [el, z, y]; rfl)
  have fin : ∀ (es2 : Array (Int × Value)) (t2 : SetTable), es2.toList.Perm es.toList → t2.fits es2.size = true → Ris t2.place.toList → (w.params.followText "set-order" = true ∨ t2.led = true) → t2.mask = 63 → t2.dummies = #[] → wpAny (model P w) A (storeSet r es2 t2) Q E { s with heap := h1 } := by
    intro es2 t2 p2 f2 r2 l2 m2 d2
    have sz2 : es2.size = es.size := by
      have := p2.length_eq
      rwa [Array.length_toList, Array.length_toList] at this
    refine wpAny_storeSet_of (s := { s with heap := h1 }) ho1 rfl ?_ (by rw [sz2]; exact fits_of_scanBound hb)
    refine h _ (sb1.trans (Heap.SameBut.update ..)) ?_
    refine ⟨_, es2, _, t2, store_at ho1 rfl, hex, rfl, fun e he => g e (p2.mem_iff.mp he), (p2.map keyOf).nodup_iff.mpr nd, fun k => (m k).trans (p2.map keyOf).mem_iff.symm, by rw [sz2]; exact hb, f2, by rw [sz2]; exact hn, r2, l2, m2, by rw [d2]; exact Nat.le_refl _⟩
  rcases road_free (to := ta) tp ed with ⟨rd, rm, rdm⟩ | rd
  · rw [rd]
    dsimp only
    exact fin es _ (List.Perm.refl _) hf hr led' (by show ta.mask = 63; rw [← rm, em]) rdm
  · rw [rd]
    dsimp only
    obtain ⟨t2, order, e2, hp2, ri2, sz2, m2, l2, d2⟩ := laid63 (f := t'.finger) (mv := t'.moves) (led := t'.led && ta.led) (plain := t'.plain && ta.plain) (hs := es.map (·.1)) (by rw [Array.size_map]; omega)
    rw [em, e2]
    rw [Array.size_map] at hp2 sz2
    have pm := order_perm hp2
    have szE : (order.filterMap (es[·]?)).size = es.size := by
      have := pm.length_eq
      rwa [Array.length_toList, Array.length_toList] at this
    try refine wpAny_bind (wpAny_pure ?_)
    dsimp only
    refine wpAny_bind ?_
    refine wp_if_neg (by rw [szE]; simp) ?_
    try refine wpAny_bind (wpAny_pure ?_)
    refine wpAny_pure ?_
    dsimp only
    refine fin _ t2 pm ?_ ri2 (by rw [l2]; exact led') m2 d2
    unfold SetTable.fits SetTable.fill
    rw [sz2, szE, m2, d2]
    simp
    omega
theorem disc_at6 {r : Addr} {S : Int → Bool} {n d : Nat} {k : Int} {tk : Tok} {Q : Bool → Shared → Prop} (D : SetE w s.heap r S n d)
    (hQ : ∀ b h' n', Heap.SameBut r s.heap h' → n' ≤ n → SetE w h' r (fun j => S j && !decide (j = k)) n' (d + 1) → Q b { s with heap := h' }) :
    wpAny (model P w) A (setDiscardHashed r (.int k tk) ((intKind P w).hash k)) Q E s := by
  obtain ⟨o, es, ep, t, ho, hex, hd, g, nd, hm, hb, hf, hn, hr, hl, mk, dm⟩ := id D
  have hkey : (intKind P w).is k (.int k tk) = true := intKind_is P w k tk
  have hsc : (Value.int k tk).scannable = true := rfl
  have hel : ElemsOf (intKind P w) es.toList := good_elems g
  unfold setDiscardHashed setFind setFindIn
  refine wpAny_bind (wpAny_bind (wpAny_setState_of ho hd hf ?_))
  dsimp only
  rw [byScan_of hsc hb hel]
  simp only [↓reduceIte]
  refine wpAny_bind (wpAny_rule ?_)
  refine wpAny_bind (wpAny_setScan_of hkey ho hd hf hel ?_)
  cases hfi : List.findIdx? (fun e => (intKind P w).is k e.2) es.toList with
  | none =>
    dsimp only
    have hnk : k ∉ es.toList.map keyOf := fun z => by
      obtain ⟨e, he, q⟩ := (good_mem (P := P) (w := w) g k).1 z
      have c := List.findIdx?_eq_none_iff.mp hfi e he
      rw [q] at c
      cases c
    have hSk : S k = false := by
      cases q : S k with
      | false => rfl
      | true => exact absurd ((hm k).1 q) hnk
    refine wpAny_pure (wpAny_pure (hQ false s.heap n (Heap.SameBut.refl _ _) (Nat.le_refl _) ?_))
    have D' : SetE w s.heap r S n (d + 1) := ⟨o, es, ep, t, ho, hex, hd, g, nd, hm, hb, hf, hn, hr, hl, mk, Nat.le_succ_of_le dm⟩
    refine D'.cong fun j => ?_
    by_cases e : j = k
    · subst e
      rw [hSk]
      rfl
    · rw [decide_eq_false e]
      simp
  | some i =>
    dsimp only
    obtain ⟨hj, pj, _⟩ := List.findIdx?_eq_some_iff_getElem.mp hfi
    refine wpAny_pure ?_
    rw [Nat.zero_add]
    refine wpAny_bind (wpAny_setState_of ho hd hf ?_)
    dsimp only
    have hi : i < es.size := by rwa [Array.length_toList] at hj
    have ek : keyOf es.toList[i] = k := by
      obtain ⟨k', tk', e2, _⟩ := g _ (List.getElem_mem hj)
      have z : k' = k := by
        have := (good_mem (P := P) (w := w) (l := [es.toList[i]]) (fun e he => by rw [List.mem_singleton.mp he]; exact g _ (List.getElem_mem hj)) k).2 ⟨es.toList[i], List.mem_singleton.mpr rfl, pj⟩
        rw [List.map_cons, List.map_nil, List.mem_singleton] at this
        unfold keyOf at this
        rw [e2] at this
        exact this.symm
      unfold keyOf
      rw [e2]
      exact z
    have fs : t.place.size = es.size ∧ t.fill ≤ t.mask := by
      unfold SetTable.fits at hf
      simpa using hf
    have pl : t.place[i]? = some (t.place[i]'(by omega)) := Array.getElem?_eq_getElem (by omega)
    refine wpAny_bind (wpAny_storeSet_of ho hd ?_ (by rw [erase_size es hi]; have := fits_of_scanBound hb; omega))
    refine wpAny_bind (wpAny_point ?_)
    refine wpAny_pure (hQ true _ (n - 1) (Heap.SameBut.update ..) (Nat.sub_le _ _) ?_)
    refine ⟨_, _, _, _, store_at ho hd, hex, rfl, ?_, ?_, ?_, ?_, ?_, ?_, ?_, ?_, ?_, ?_⟩
    · intro e he
      rw [erase_list] at he
      exact g e ((List.eraseIdx_sublist _ _).subset he)
    · rw [erase_list]
      exact nd.sublist ((List.eraseIdx_sublist _ _).map keyOf)
    · intro j
      rw [erase_list, mem_out nd hj ek, ← hm j]
      simp
    · rw [erase_size es hi]
      omega
    · unfold SetTable.fits SetTable.fill SetTable.drop
      rw [pl]
      dsimp only
      rw [erase_size es hi, erase_size t.place (by omega), insert_size]
      have f2 := fs.2
      unfold SetTable.fill at f2
      simp
      omega
    · rw [erase_size es hi, hn]
    · unfold SetTable.drop
      rw [pl]
      dsimp only
      rw [erase_list]
      exact List.Pairwise.sublist (List.eraseIdx_sublist _ _) hr
    · unfold SetTable.drop
      rw [pl]
      exact hl
    · unfold SetTable.drop
      rw [pl]
      exact mk
    · unfold SetTable.drop
      rw [pl]
      dsimp only
      rw [insert_size]
      omega
theorem SetE.at {h h' : Heap} {S : Int → Bool} {n d : Nat} (R : SetE w h a S n d) (k : ∀ o, h.get? a = some o → h'.get? a = some o) : SetE w h' a S n d := by
  obtain ⟨o, es, ep, t, ho, r⟩ := R
  exact ⟨o, es, ep, t, k o ho, r⟩
theorem forIn_disc6 {M : Model} {r : Addr} {F : Int × Value → PUnit → Sem (ForInStep PUnit)} {B : Heap → Prop} (hB : ∀ h h', B h → Heap.SameBut r h h' → B h')
    (hF : ∀ (e : Int × Value) (s : Shared) (S0 : Int → Bool) (n0 d0 : Nat) (Q' : ForInStep PUnit → Shared → Prop), GoodE e → B s.heap → SetE w s.heap r S0 n0 d0 →
      (∀ h' n1, Heap.SameBut r s.heap h' → n1 ≤ n0 → SetE w h' r (fun k => S0 k && !decide (k = keyOf e)) n1 (d0 + 1) → Q' (.yield PUnit.unit) { s with heap := h' }) → wpAny M A (F e PUnit.unit) Q' E s) :
    ∀ (l : List (Int × Value)) (s : Shared) (S0 : Int → Bool) (n0 d0 : Nat) (Q : PUnit → Shared → Prop), (∀ e ∈ l, GoodE e) → B s.heap → SetE w s.heap r S0 n0 d0 →
      (∀ h' n1, Heap.SameBut r s.heap h' → n1 ≤ n0 → SetE w h' r (fun k => S0 k && !decide (k ∈ l.map keyOf)) n1 (d0 + l.length) → Q PUnit.unit { s with heap := h' }) → wpAny M A (forIn l PUnit.unit F) Q E s
  | [], s, S0, n0, d0, Q, _, _, R, h => by
    refine wpAny_pure (h s.heap n0 (Heap.SameBut.refl _ _) (Nat.le_refl _) (SetE.cong R fun k => ?_))
    simp
  | e :: l, s, S0, n0, d0, Q, hg, hb, R, h => by
    rw [List.forIn_cons]
    refine wpAny_bind (hF e s S0 n0 d0 _ (hg e List.mem_cons_self) hb R fun h1 n1 sb1 le1 R1 => ?_)
    refine forIn_disc6 hB hF l _ _ n1 (d0 + 1) Q (fun x hx => hg x (List.mem_cons_of_mem _ hx)) (hB _ _ hb sb1) R1 fun h2 n2 sb2 le2 R2 => ?_
    refine h h2 n2 (sb1.trans sb2) (by omega) ?_
    rw [List.length_cons, show d0 + (l.length + 1) = d0 + 1 + l.length by omega]
    refine SetE.cong R2 fun k => ?_
    cases S0 k <;> by_cases z1 : k = keyOf e <;> by_cases z2 : k ∈ l.map keyOf <;> simp [z1, z2]
theorem diff_copy6 {b : Addr} {S Sb : Int → Bool} {n nb : Nat} {nm : String} {Q : Value → Shared → Prop} (Ra : SetR w s.heap a S n) (Rb : SetR w s.heap b Sb nb) (big : nb < n / 4) (n8 : 16 ≤ n) (n15 : n ≤ 31)
    (h : ∀ h' d n1, (∀ c o, s.heap.get? c = some o → h'.get? c = some o) → n1 ≤ n → SetR w h' s.heap.objs.size (fun k => S k && !Sb k) n1 → Q (.ref s.heap.objs.size) { s with heap := h', drawn := d }) :
    wpAny (model P w) A (Builtin.Frozenset.difference nm a (.ref b)) Q E s := by
  unfold Builtin.Frozenset.difference
  refine wpAny_bind (any_set Rb ?_)
  simp only [Bool.not_true, Bool.false_eq_true, if_false, Bool.false_and, if_true]
  refine wpAny_bind (wpAny_of_eq (a := b) rfl ?_)
  refine wpAny_bind (size_set Rb ?_)
  refine wpAny_bind (size_set Ra ?_)
  refine wp_if_pos (by omega) ?_
  refine wpAny_bind (wpAny_rule ?_)
  refine wpAny_bind ?_
  unfold Builtin.Frozenset.copyOf
  refine wpAny_bind (base_set Ra ?_)
  refine wpAny_bind (PpSet.newSet_ok ?_)
  refine wpAny_bind (wpAny_of_eq (a := s.heap.objs.size) rfl ?_)
  have kp : ∀ c o, s.heap.get? c = some o → (s.heap.push { cls := .type "set", dict := none, data := .set #[] 0 (.fresh 0 0 (!w.params.followText "set-order")) }).get? c = some o := fun c o e => Heap.get?_push_of_some _ e
  have hr0 : (s.heap.push { cls := .type "set", dict := none, data := .set #[] 0 (.fresh 0 0 (!w.params.followText "set-order")) }).get? s.heap.objs.size = some { cls := .type "set", dict := none, data := .set #[] 0 (.fresh 0 0 (!w.params.followText "set-order")) } := by
    obtain ⟨o, es, ep, t, ho, hex, hd, _⟩ := setR_fresh (h := s.heap) w
    first | exact Heap.get?_push_self _ _ | simp [Heap.get?, Heap.push]
  have ar : a ≠ s.heap.objs.size := Nat.ne_of_lt Ra.lt
  have br : b ≠ s.heap.objs.size := Nat.ne_of_lt Rb.lt
  have Ra1 := Ra.at (h' := s.heap.push { cls := .type "set", dict := none, data := .set #[] 0 (.fresh 0 0 (!w.params.followText "set-order")) }) fun o e => kp _ o e
  have Rb1 := Rb.at (h' := s.heap.push { cls := .type "set", dict := none, data := .set #[] 0 (.fresh 0 0 (!w.params.followText "set-order")) }) fun o e => kp _ o e
  generalize s.heap.push { cls := .type "set", dict := none, data := .set #[] 0 (.fresh 0 0 (!w.params.followText "set-order")) } = h0 at kp Ra1 Rb1 hr0
  refine wpAny_bind (merge_into6 (s := { s with heap := h0 }) Ra1 ar.symm n8 n15 hr0 ⟨rfl, rfl, rfl⟩ rfl rfl rfl rfl ?_ fun h1 sb1 D1 => ?_)
  · show _ ∨ (!w.params.followText "set-order") = true
    cases w.params.followText "set-order"
    · exact .inr rfl
    · exact .inl rfl
  refine wpAny_pure ?_
  refine wpAny_bind (wpAny_of_eq (a := s.heap.objs.size) rfl ?_)
  have Rb2 : SetR w h1 b Sb nb := Rb1.at fun o e => (sb1.2 b br).trans e
  refine wpAny_bind (wpAny_holding ?_)
  unfold Builtin.Frozenset.differenceUpdate
  refine wp_if_neg (by simpa using br) ?_
  refine wpAny_bind (any_set (s := { s with heap := h1 }) Rb2 ?_)
  simp only [if_true]
  refine wpAny_bind (wpAny_of_eq (a := b) rfl ?_)
  refine wpAny_bind (size_set (s := { s with heap := h1 }) Rb2 ?_)
  refine wpAny_bind (size_set (s := { s with heap := h1 }) D1.R ?_)
  refine wp_if_neg (by omega) ?_
  obtain ⟨ob, eb, epb, tb, hob, hexb, hdb, gb, ndb, mb, hbb, hfb, hnb, hrb, hlb⟩ := id Rb2
  refine wpAny_bind ?_
  unfold setEpoch
  refine wpAny_bind (wpAny_setState_of (s := { s with heap := h1 }) hob hdb hfb (wpAny_pure ?_))
  refine wpAny_bind (wpAny_holding ?_)
  refine wpAny_bind (walk_unseen1 (s := { s with heap := h1 }) Rb2 D1.R fun out d oo => ?_)
  have ol : out.toList.length = nb := by
    have p : (out.toList.map keyOf).Perm (eb.toList.map keyOf) := (List.perm_ext_iff_of_nodup oo.2.1 ndb).mpr fun k => (oo.2.2 k).symm.trans (mb k)
    have := p.length_eq
    rw [List.length_map, List.length_map, Array.length_toList, Array.length_toList] at this
    rw [Array.length_toList, this, hnb]
  refine wpAny_bind ?_
  rw [← Array.forIn_toList]
  refine forIn_disc6 (r := s.heap.objs.size) (B := fun hh => hh.get? b = some ob) (fun x y hx sb => (sb.2 b br).trans hx) ?_ out.toList _ S n 0 _ oo.1 hob D1 fun h2 n1 sb2 le2 D2 => ?_
  · intro e s' S0 n0 d0 Q' ge hB D0 hQ
    obtain ⟨k, tk, e2, e1⟩ := ge
    obtain ⟨eh, ev⟩ := e
    dsimp only at e1 e2
    subst e1
    subst e2
    have ek : keyOf (hashInt k, Value.int k tk) = k := rfl
    rw [ek] at hQ
    refine wpAny_bind (wpAny_holding ?_)
    refine disc_at6 D0 fun bb h' n' sb le D' => ?_
    unfold Builtin.Frozenset.unchanged setEpoch
    refine wpAny_bind (wpAny_bind (wpAny_bind (wpAny_setState_of (s := { s' with heap := h' }) ((sb.2 b br).trans hB) hdb hfb (wpAny_pure ?_))))
    exact wp_if_neg (by simp) (wpAny_pure (wpAny_pure (hQ h' n' sb le D')))
  · refine wpAny_pure ?_
    obtain ⟨o, es, ep, t, ho, hex, hd, g, nd, m, hb, hf, hn, hr, hl, mk, dm⟩ := id D2
    unfold setTidy
    refine wpAny_bind (wpAny_setState_of (s := { s with heap := h2, drawn := d }) ho hd hf ?_)
    dsimp only
    refine wp_if_neg ?_ (wpAny_pure (wpAny_pure ?_))
    · unfold SetTable.tooManyDummies
      rw [mk]
      simp
      omega
    refine h h2 d n1 (fun c oc ec => ?_) le2 (SetR.cong D2.R fun k => ?_)
    · have cr : c ≠ s.heap.objs.size := Nat.ne_of_lt (Heap.lt_size ec)
      exact (sb2.2 c cr).trans ((sb1.2 c cr).trans (kp c oc ec))
    · have := oo.2.2 k
      by_cases z : k ∈ out.toList.map keyOf
      · rw [this.mpr z, decide_eq_true z]
      · have sk : Sb k = false := by
          cases y : Sb k with
          | false => rfl
          | true => exact (z (this.mp y)).elim
        rw [sk, decide_eq_false z]
end
/-- set - set, of ints, the first not more than four times as large, or with at most 31 and the other not empty -/
def rSubK (w : World) : R2 := fun x y H Q => ∃ (a b : Addr) (S Sb : Int → Bool) (n nb : Nat), x = .ref a ∧ y = .ref b ∧ H a = some (SetO w a S n) ∧ H b = some (SetO w b Sb nb) ∧ (n / 4 ≤ nb ∨ 1 ≤ nb ∧ n ≤ 31) ∧
  ∀ (p : Addr) (n1 : Nat), H p = none → n1 ≤ n → (n1 = 0 ↔ ∀ k, (S k && !Sb k) = false) → Q (.ref p) (upd H p (SetO w p (fun k => S k && !Sb k) n1))
theorem op_subK {X : Cx} : OpR X (binaryOp .Sub) (rSubK X.w) := by
  intro pins s σ H x y v u Q I rx ry h
  obtain ⟨a, b, S, Sb, n, nb, rfl, rfl, ha, hb, few, q⟩ := h
  cases rx
  cases ry
  have Ra := setO_get I ha
  have Rb := setO_get I hb
  refine wpAny_binaryOp_same (type_set Ra) (type_set Rb) F.fills_set_sub F.slot_set_sub ?_
  refine wpAny_call_entry F.slot_set_sub (type_set Ra) entry_sub ?_ (F.args_set_sub_2 _ _)
  refine wpAny_bind (m := Builtin.Frozenset.slot1 "__sub__" ⟨[.ref a, .ref b], []⟩) (wpAny_of_eq (a := (Value.ref a, Value.ref b)) rfl ?_)
  refine wpAny_bind (wpAny_bind (any_set Ra (any_set Rb ?_)))
  refine wp_if_neg (by decide) ?_
  refine wpAny_bind (wpAny_of_eq (a := a) rfl ?_)
  have fin : ∀ h' d n1, (∀ c o, s.heap.get? c = some o → h'.get? c = some o) → n1 ≤ n → SetR X.w h' s.heap.objs.size (fun k => S k && !Sb k) n1 → _ := fun h' d n1 kp le R' => by
    have J : Inv X pins σ (upd H s.heap.objs.size (SetO X.w s.heap.objs.size (fun k => S k && !Sb k) n1)) { s with heap := h' } := I.laid (t' := s.toks) kp (Nat.le_refl _) (setO_new R')
    exact (⟨.ref s.heap.objs.size, _, inv_drawn J d, rfl, q _ n1 (I.hok.fresh (Nat.le_refl _)) le (none_left R')⟩ : ∃ z H', Inv X pins σ H' { s with heap := h', drawn := d } ∧ RelV z (.ref s.heap.objs.size) ∧ Q z H')
  by_cases sm : n / 4 ≤ nb
  · refine wpAny_bind (diff_any Ra Rb sm fun h' d n1 kp le R' => ?_)
    exact wpAny_pure ⟨_, rfl, (by simp), fin h' d n1 kp le R'⟩
  · have f2 := few.resolve_left sm
    by_cases sm2 : n ≤ 15
    · refine wpAny_bind (diff_copy Ra Rb (by omega) (by omega) sm2 fun h' d n1 kp le R' => ?_)
      exact wpAny_pure ⟨_, rfl, (by simp), fin h' d n1 kp le R'⟩
    · refine wpAny_bind (diff_copy6 Ra Rb (by omega) (by omega) f2.2 fun h' d n1 kp le R' => ?_)
      exact wpAny_pure ⟨_, rfl, (by simp), fin h' d n1 kp le R'⟩
end SD
namespace SC
open PySem PySem.Spec PyProof.Rows L2
theorem addT {P : Program} {w : World} {A : Around} {E : Value → Shared → Prop} {s : Shared} {a : Addr} {L : List (Addr × List Int)} {es : Array (Int × Value)} {ep : Nat} {t : SetTable} (R : SetTR P w s.heap a L es ep t) {x : Addr} {k : List Int} (hx : IsT P w s.heap k x) (hu : A.units + 64 < cLine) (hfew : L.length + 1 < 64) {Q : Value → Shared → Prop}
    (hQ : ∀ h' tk L' es' ep' t', Heap.SameBut a s.heap h' → SetTR P w h' a L' es' ep' t' → (k ∈ L.map (·.2) → L' = L) → (k ∉ L.map (·.2) → L'.Perm ((x, k) :: L)) → Q .none { s with heap := h', toks := tk }) :
    wpAny (model P w) A (call (.builtin "set.add") [.ref a, .ref x]) Q E s := by
  obtain ⟨o, ho, hex, hd⟩ := R.ob
  refine wpAny_call_entry F.slot_set_add ⟨o, ho, hex.1⟩ F.entry_set_add ?_ (F.args_set_add_2 _ _)
  unfold Builtin.«set.add» Builtin.Frozenset.oneOther
  simp only [List.isEmpty_nil, bind_assoc]
  unfold Builtin.Frozenset.addrOf setAdd
  refine wpAny_bind (wpAny_pure ?_)
  try dsimp only
  refine wpAny_bind (wpAny_pure ?_)
  try dsimp only
  refine wpAny_bind ?_
  refine wpAny_holding ?_
  refine wpAny_bind (wpAny_pyHash_tuple (by show A.units + 1 < _; omega) hx ?_)
  refine add_at (s := { s with toks := s.toks + (k.length + 1) }) R hx (by show A.units + 1 < _; omega) hfew fun b h' L' es' ep' t' sb R' c1 c2 => ?_
  show wpAny _ _ (ret Value.none) _ _ _
  exact wpAny_pure ⟨_, rfl, hQ h' _ L' es' ep' t' sb R' c1 c2⟩
/-- what stands at the place of a set while it is filled, and what one more member makes of it -/
structure FamP (α κ : Type) where
  ob : Program → World → Addr → α → HO
  ini : α
  new : ∀ (P : Program) (w : World) (H : Hp) (h : Heap), ObjOk P w H (h.push (bareS w)) h.objs.size (ob P w h.objs.size ini)
  pre : PySem.W.Frag → Around → Hp → α → V → κ → Prop
  post : α → V → κ → α → Prop
  add : ∀ {X : Cx} {pins : List (Addr × Obj)} {σ : L2.St} {H : Hp} {s : Shared} {E : Value → Shared → Prop} {D : Addr} {a : α} {y : V} {z : κ} {v : Value} {Q : Value → Shared → Prop}, Inv X pins σ H s → H D = some (ob X.prog X.w D a) → pre X.K X.A H a y z → RelV y v →
    (∀ b s', post a y z b → Inv X pins σ (upd H D (ob X.prog X.w D b)) s' → Q .none s') → wpAny (model X.prog X.w) X.A (call (.builtin "set.add") [.ref D, v]) Q E s
section
variable {X : Cx} {α κ : Type}
def tSP (F : FamP α κ) (P : Program) (w : World) (K : PySem.W.Frag) (A : Around) (wi : TI) (g : TG) (tt : TT) (te : TE) (vs : List Nat) : TE := fun σ H Q => wi σ H fun J H1 => ∀ D, H1 D = none → ∃ W : Nat → Nat → Hp → Prop, (∃ m, W 0 m (upd H1 D (F.ob P w D F.ini))) ∧
  ∀ i m H, W i m H → (J.stop i H ∧ Q (.ref D) H) ∨ (J.go i H ∧ ∃ Nx : Hp → Prop, (∀ H', Nx H' → ∃ m', m' < m ∧ W (i + 1) m' H') ∧ ∀ x H', J.yld i H x H' → g x (wipe σ vs) H' fun σ2 H2 => wipe σ2 vs = wipe σ vs ∧ tt σ2 H2 fun b H3 =>
    if b = true then te σ2 H3 fun y H4 => ∃ (c : α) (z : κ), H4 D = some (F.ob P w D c) ∧ F.pre K A H4 c y z ∧ ∀ c', F.post c y z c' → Nx (upd H4 D (F.ob P w D c')) else Nx H3)
theorem coreP (F : FamP α κ) {pins : List (Addr × Obj)} {s : Shared} {σ : L2.St} {H : Hp} {Q : VK} {elt tg iter : Expr} {ifs : List Expr} {scope : Scope} {own : List (PySem.Str × Nat)} {pos pos' : Pos} {wi : TI} {g : TG} {tt : TT} {te : TE} {Qf : Value → Shared → Prop} {use : Option (Value → Sem Unit)}
    (calm : X.calm = true) (nd : X.N.Nodup) (I0 : Inv X pins σ H s) (walk : PI X tg iter wi) (bo : BlkOk X.N X.env.scope scope own)
    (aim : ∀ s H C cl fp, PG (X.blk s H scope (compEnvC scope cl C X.env) fp) tg g) (tst : ∀ s H C cl fp, PTs (X.blk s H scope (compEnvC scope cl C X.env) fp) ifs tt)
    (val : ∀ s H C cl fp, PE (X.blk s H scope (compEnvC scope cl C X.env) fp) elt te) (plain : ∀ x, foldedSetIterable iter X.env x = pure x)
    (ask : tSP F X.prog X.w X.K X.A wi g tt te (own.map (·.2)) σ H Q)
    (out : ∀ D C s' m H', Inv X pins σ H' s' → Q (.ref D) H' → s'.heap.Ns C m → FpOk X pins H' C → compPost (model X.prog X.w) X.A X.xe use Qf (.ref D) C (.ok .next) s') :
    wpAny (model X.prog X.w) X.A (comprehension (.SetComp elt [⟨tg, iter, ifs, 0⟩] scope pos) scope X.env pos' (newSet (.type "set")) false (eval iter X.env) use) Qf X.xe s := by
  have clo : ∀ y ∈ scope.names, y.2 = .free → ∃ c, X.env.cells.lookup y.1 = some c := fun y my ey => by
    rcases bo.free y my ey with z | z
    · exact I0.ok.has _ (.inl z)
    · exact I0.ok.has _ (.inr z)
  refine wpAny_comprehension_free (use := use) rfl plain (closure_ok clo) bo.kind (fun y my ey => by rw [bo.uniq y my, ey]) (thn (walk.run pins s σ H _ I0 ask) fun v0 sa ha => thn ha fun v1 sb hb => ?_)
  obtain ⟨itA, fp, tn, J, Hb, rfl, Ib, Tn, stb, fpb, qb⟩ := hb
  refine PpSet.newSet_ok (newEnv_comp ?_)
  obtain ⟨D, eD⟩ : ∃ D, D = sb.heap.objs.size := ⟨_, rfl⟩
  have freeD : Hb D = none := Ib.hok.fresh (Nat.le_of_eq eD.symm)
  obtain ⟨W, ⟨m0, w0⟩, turn⟩ := qb D freeD
  obtain ⟨sc, esc⟩ : ∃ sc : Shared, sc = { sb with heap := sb.heap.push (bareS X.w) } := ⟨_, rfl⟩
  have Ic : Inv X pins σ (upd Hb D (F.ob X.prog X.w D F.ini)) sc := by
    rw [esc]
    refine Ib.laid (t' := sb.toks) (fun b o e => Heap.get?_push_of_some _ e) (Nat.le_of_eq eD.symm) ?_
    rw [eD]
    exact F.new _ _ _ _
  have hc : sc.heap = sb.heap.push (bareS X.w) := by rw [esc]
  have below : ∀ b ∈ fp, b < sb.heap.objs.size := fun b mb => by
    obtain ⟨o, e, _⟩ := Tn.obj _ _ stb b mb
    exact Heap.lt_size e
  have fpc : ∀ b ∈ fp, FpOk X pins (upd Hb D (F.ob X.prog X.w D F.ini)) b ∧ b < sc.heap.objs.size := fun b mb => by
    have lt := below b mb
    refine ⟨⟨?_, (fpb b mb).2⟩, by rw [hc, Heap.size_push]; exact Nat.lt_succ_of_lt lt⟩
    rw [upd_ne (by rw [eD]; exact Nat.ne_of_lt lt)]
    exact (fpb b mb).1
  have stc : tn 0 sc.heap := Tn.keep _ _ _ stb fun b _ o e => by rw [hc]; exact Heap.get?_push_of_some _ e
  have Id := block_start Ic bo nd fpc
  have hereG := aim sc (upd Hb D (F.ob X.prog X.w D F.ini)) sc.heap.objs.size (cellsFrom (sc.heap.objs.size + 1) scope.names (cloFrom X.env.cells scope.names [])) fp
  have hereT := tst sc (upd Hb D (F.ob X.prog X.w D F.ini)) sc.heap.objs.size (cellsFrom (sc.heap.objs.size + 1) scope.names (cloFrom X.env.cells scope.names [])) fp
  have hereE := val sc (upd Hb D (F.ob X.prog X.w D F.ini)) sc.heap.objs.size (cellsFrom (sc.heap.objs.size + 1) scope.names (cloFrom X.env.cells scope.names [])) fp
  rw [← eD, ← esc]
  have offH : ∀ b ∈ fp, (upd Hb D (F.ob X.prog X.w D F.ini)) b = none := fun b mb => (fpc b mb).1.1
  show codeAny _ _ (.compStart (.SetComp elt [⟨tg, iter, ifs, 0⟩] scope pos) 0 (.ref itA) (.ref D) (compEnvC scope (cellsFrom (sc.heap.objs.size + 1) scope.names (cloFrom X.env.cells scope.names [])) sc.heap.objs.size X.env)) _ { sc with heap := pushCells (sc.heap.push { cls := .type "dict", data := .dict #[] }) scope.names }
  generalize hce : compEnvC scope (cellsFrom (sc.heap.objs.size + 1) scope.names (cloFrom X.env.cells scope.names [])) sc.heap.objs.size X.env = ce at Id hereG hereT hereE ⊢
  have locs : ce.locals = sc.heap.objs.size := by subst hce; rfl
  generalize upd Hb D (F.ob X.prog X.w D F.ini) = Hc at Ic Id hereG hereT hereE w0 offH fpc
  generalize hsd : ({ sc with heap := pushCells (sc.heap.push { cls := .type "dict", data := .dict #[] }) scope.names } : Shared) = sd at Id ⊢
  have std : tn 0 sd.heap := Tn.keep _ _ _ stc fun b _ o e => by rw [← hsd]; exact pushCells_keeps _ _ _ _ (Heap.get?_push_of_some _ e)
  have own1 : ∀ {σ' : L2.St} {H' : Hp} {s' : Shared}, Inv (X.blk sc Hc scope ce fp) [] σ' H' s' → (∀ b ∈ fp, H' b = none) → ∀ b ∈ fp, FpOk (X.blk sc Hc scope ce fp) [] H' b := fun {_ H' _} Ie off b mb =>
    ⟨off b mb, (Ie.ok.exf b mb).1, Ie.ok.exfs b mb, .inl mb, fun x c e => (Ie.ok.exf b mb).2 x c e, fun p hp => absurd (show p ∈ ([] : List (Addr × Obj)) ++ [] from hp) (by simp)⟩
  have loop : codeAny (model X.prog X.w) X.A (.compLoop (.SetComp elt [⟨tg, iter, ifs, 0⟩] scope pos) 0 (.ref itA) (.ref D) ce) (compPost (model X.prog X.w) X.A X.xe use Qf (.ref D) sc.heap.objs.size) sd := by
    refine PpSet.compLoopS_any (fun k st => ∃ i He, Inv (X.blk sc Hc scope ce fp) [] (wipe σ (own.map (·.2))) He st ∧ tn i st.heap ∧ (∀ b ∈ fp, He b = none) ∧ W i k He) ?_ m0 ⟨0, Hc, Id, std, offH, w0⟩
    rintro k se ⟨i, He, Ie, ste, offe, we⟩
    rcases turn i k He we with ⟨atEnd, fin⟩ | ⟨onward, Nx, back, next⟩
    · refine thnF (Tn.done (X.blk sc Hc scope ce fp) rfl rfl rfl calm i [] se _ He (fun _ _ => False) Ie (own1 Ie offe) ste atEnd) fun r sf ⟨er, If⟩ => ?_
      subst er
      have Ig : Inv X pins σ He sf := Ic.call' (ch := fp) If.os If.base If.hok If.bare fun b mb => ⟨(fpc b mb).1.2.2.2.1, (fpc b mb).1.2.1, (fpc b mb).1.2.2.2.2.1, (fpc b mb).1.2.2.2.2.2⟩
      have noC : He sc.heap.objs.size = none := locs ▸ (show He ce.locals = none from If.free)
      obtain ⟨nm, nsf, _⟩ := If.loc
      have nsf : sf.heap.Ns sc.heap.objs.size nm := locs ▸ (show sf.heap.Ns ce.locals nm from nsf)
      exact out D sc.heap.objs.size sf nm He Ig fin nsf (Ic.fpOk (Nat.le_refl _) noC)
    · refine thnF (Tn.item (X.blk sc Hc scope ce fp) rfl rfl rfl calm i [] se _ He (fun _ _ => False) Ie (own1 Ie offe) ste onward) fun r sf ⟨u, er, hf⟩ => ?_
      subst er
      refine thnF hf fun _ sg ⟨x, Hg, Ig, rg, yg, stg, offg⟩ => ?_
      refine thnF (hereG.run _ sg _ Hg x u _ (Ig.pinned (own1 Ig offg) (Tn.obj _ _ stg)) rg (next x Hg yg)) fun _ sh ⟨σh, Hh, Ih, wh, qh⟩ => ?_
      refine thnF (hereT.run _ sh σh Hh _ Ih qh) fun b si ⟨Hi, Ii, qi⟩ => ?_
      have over : ∀ {st : Shared} {Ht : Hp}, Inv (X.blk sc Hc scope ce fp) ([] ++ pinsAt fp sg.heap) σh Ht st → Nx Ht → ∃ m, m < k ∧ ∃ i He, Inv (X.blk sc Hc scope ce fp) [] (wipe σ (own.map (·.2))) He st ∧ tn i st.heap ∧ (∀ b ∈ fp, He b = none) ∧ W i m He := fun {st Ht} It nx => by
        obtain ⟨m1, lt1, w1⟩ := back Ht nx
        have held : ∀ b ∈ fp, ∀ o, sg.heap.get? b = some o → st.heap.get? b = some o ∧ Ht b = none := fun b mb o e =>
          have z := It.pin (b, o) (List.mem_append_right _ (List.mem_append_right _ (mem_pinsAt mb e)))
          ⟨z.1, z.2.1⟩
        have ln : (wipe σ (own.map (·.2))).length = σh.length := by rw [← wh, wipe_length]
        refine ⟨m1, lt1, i + 1, Ht, (It.unpinned (pins := [])).weak ln (fun j v e => ?_), Tn.keep _ _ _ stg fun b mb o e => (held b mb o e).1, fun b mb => ?_, w1⟩
        · rw [← wh] at e
          exact (wipe_some e).1
        · obtain ⟨o, e, _⟩ := Tn.obj _ _ stg b mb
          exact (held b mb o e).2
      cases b with
      | false =>
        rw [if_neg (by decide)] at qi ⊢
        exact over Ii qi
      | true =>
        rw [if_pos rfl] at qi ⊢
        refine thnF (hereE.run _ si σh Hi _ Ii qi) fun z sj ⟨yv, Hj, Ij, rj, c, zz, atD, pt, nx⟩ => ?_
        exact F.add (X := X.blk sc Hc scope ce fp) Ij atD pt rj fun c' sk pc Ik => over Ik (nx c' pc)
  exact PpSet.codeAny_compStart_set loop (Tn.self X.A 0 _ _ _ std loop)
/-- {elt for target in iter if ..} -/
theorem pe_setP (F : FamP α κ) {elt tg iter : Expr} {ifs : List Expr} {scope : Scope} {own : List (PySem.Str × Nat)} {pos : Pos} {wi : TI} {g : TG} {tt : TT} {te : TE} (calm : X.calm = true) (nd : X.N.Nodup) (walk : PI X tg iter wi) (bo : BlkOk X.N X.env.scope scope own)
    (aim : ∀ s H C cl fp, PG (X.blk s H scope (compEnvC scope cl C X.env) fp) tg g) (tst : ∀ s H C cl fp, PTs (X.blk s H scope (compEnvC scope cl C X.env) fp) ifs tt)
    (val : ∀ s H C cl fp, PE (X.blk s H scope (compEnvC scope cl C X.env) fp) elt te) (plain : ∀ x, foldedSetIterable iter X.env x = pure x := by intro _; rfl) :
    PE X (.SetComp elt [⟨tg, iter, ifs, 0⟩] scope pos) (tSP F X.prog X.w X.K X.A wi g tt te (own.map (·.2))) := by
  refine ⟨fun pins s σ H Q I0 ask => ?_⟩
  rw [PpSet.eval_SetComp]
  refine coreP F calm nd I0 walk bo aim tst val plain ask fun D C s1 m H1 I1 q hn fpC => ⟨m, hn, fun h2 sb => ?_⟩
  exact ⟨.ref D, H1, I1.turned (t' := s1.toks) (fun b o hb e => (sb.2 b hb).trans e) fpC.1 fpC.2.1 fpC.2.2.2.1 fpC.2.2.2.2.1 fpC.2.2.2.2.2, rfl, q⟩
end
/-- sets of tuples of ints, the tuples by their places -/
def famT : FamP (List (Addr × List Int)) (List Int) where
  ob := fun P w a L => SetTO P w a L
  ini := []
  new := fun P w H h => setTO_new (setTR_fresh (Heap.get?_push_size _ rfl)).t0
  pre := fun K A H L y k => ∃ x : Addr, y = .ref x ∧ SqT K H x (k.map V.int) ∧ (∀ p ∈ L, SqT K H p.1 (p.2.map V.int)) ∧ A.units + 64 < cLine ∧ L.length + 1 < 64
  post := fun L y k L' => ∃ x : Addr, y = .ref x ∧ (k ∈ L.map (·.2) → L' = L) ∧ (k ∉ L.map (·.2) → L'.Perm ((x, k) :: L))
  add := by
    intro X pins σ H s E D a y k v Q I hD pt rv q
    obtain ⟨x, rfl, hx, ht, hu, few⟩ := pt
    cases rv
    have R0 : SetT0 X.prog X.w s.heap D a := (I.hok D _ hD).1
    obtain ⟨es, ep, t, R⟩ := R0.full fun p hp => I.isT (ht p hp)
    refine addT R (I.isT hx) hu few fun h' tk L' es' ep' t' sb R' c1 c2 => q L' _ ⟨x, rfl, c1, c2⟩ ?_
    obtain ⟨o', ho', _⟩ := R'.ob
    exact I.write (e := D) (t' := tk) (by rw [hD]; trivial) (.inl rfl) (fun b u hb hu => (sb.2 b hb).trans hu) ⟨o', ho'⟩ (setTO_new R'.t0)
/-- len of a set of tuples -/
def rLenT (P : Program) (w : World) : List V → Hp → VK → Prop := fun xs H Q => ∃ (a : Addr) (L : List (Addr × List Int)), xs = [.ref a] ∧ H a = some (SetTO P w a L) ∧ Q (.int (L.length : Int)) H
theorem call_lenT {X : Cx} : CallR X (.builtin "len") (rLenT X.prog X.w) := by
  intro pins s σ H xs us Q I r h
  obtain ⟨a, L, rfl, ha, q⟩ := h
  rw [Vals.ref1 r]
  have R0 : SetT0 X.prog X.w s.heap a L := (I.hok a _ ha).1
  obtain ⟨es, ep, t, ⟨o, ho, hex, hd⟩, rows, tab, nd, pl, led, room, few⟩ := R0.ex
  have sz : es.size = L.length := by
    rw [← Array.length_toList, rows]
    simp [rowsOf]
  have hf : t.fits es.size = true := by
    have h1 := tab.sz
    rw [List.length_map] at h1
    unfold SetTable.fits SetTable.fill
    rw [tab.dm, Bool.and_eq_true, beq_iff_eq, decide_eq_true_eq]
    show t.place.size = es.size ∧ t.place.size + 0 ≤ t.mask
    omega
  exact PySem.call_len_set ho hex hd hf (by rw [sz]; omega) ⟨.int (L.length : Int), H, I.tok _, ⟨_, by rw [sz]⟩, q⟩
end SC
namespace CC
open PySem L2 TL
/-- {row[c] for row in rows} -/
theorem si_col {w : World} {K : PySem.W.Frag} {g : Addr} {us : List V} {rows : List (List Nat)} {m c cs : Nat} {σ : L2.St} {H : Hp} {D : Addr} {Qd : Hp → Prop} (hg : SqT K H g us) (dp : DpAll K H us (rows.map gd)) (ok : ∀ r ∈ rows, RowOk m r) (few : rows.length ≤ 400) (cm : c < m) (nD : H D = none)
    (hw : ∀ x : V, wipe ((wipe σ [5]).set 5 (some x)) [5] = wipe σ [5]) (hx : ∀ x : V, ((wipe σ [5]).set 5 (some x))[5]? = some (some x)) (hc : ∀ x : V, ((wipe σ [5]).set 5 (some x))[cs]? = some (some (.int (c : Int))))
    (q : ∀ H2, Same H (wo H2 D) → H2 D = some (SetO w D (memI (colN rows c)) (dn (colN rows c))) → Qd H2) :
    ∃ W : Nat → Nat → Hp → Prop, (∃ m, W 0 m (upd H D (SetO w D (fun _ => false) 0))) ∧ ∀ i m H, W i m H → ((Itt K g).stop i H ∧ Qd H) ∨ ((Itt K g).go i H ∧ ∃ Nx : Hp → Prop, (∀ H', Nx H' → ∃ m', m' < m ∧ W (i + 1) m' H') ∧ ∀ x H', (Itt K g).yld i H x H' → gName 5 x (wipe σ [5]) H' fun σ2 H2 => wipe σ2 [5] = wipe σ [5] ∧ tYes σ2 H2 fun b H3 =>
      if b = true then tOp (rIxT K) (tVar 5) (tVar cs) σ2 H3 fun y H4 => ∃ c c' : (Int → Bool) × Nat, H4 D = some (SetO w D c.1 c.2) ∧ (∃ k : Int, y = .int k ∧ c.2 + 1 < scanBound ∧ c' = (fun j => c.1 j || decide (j = k), if c.1 k = true then c.2 else c.2 + 1)) ∧ Nx (upd H4 D (SetO w D c'.1 c'.2)) else Nx H3) := by
  have ul : us.length = rows.length := by rw [dps_len dp, List.length_map]
  have cut : ∀ j, dn (colN (rows.take j) c) ≤ j := fun j => by
    have e : colN (rows.take j) c = (colN rows c).take j := by
      unfold colN
      rw [List.map_take]
    rw [e]
    exact dn_le _ j
  refine si_tup (xs := us) (fun j H2 => Same H (wo H2 D) ∧ H2 D = some (SetO w D (memI (colN (rows.take j) c)) (dn (colN (rows.take j) c))) ∧ j ≤ 400) ⟨?_, ?_, by omega⟩ (fun j H2 _ z => same_t (z.1.trans (wo_le D)) hg) ?_ ?_
  · rw [wo_upd]
    exact fun b o e => by rw [wo_ne (ne_of_none e nD)]; exact e
  · rw [upd_same]
    have e : memI (colN (rows.take 0) c) = fun _ => false := by
      funext k
      simp [memI, colN]
    have e' : dn (colN (rows.take 0) c) = 0 := by simp [dn, firsts, colN]
    rw [e, e']
  · rintro j v H2 hv ⟨f1, f2, f3⟩
    obtain ⟨r, hr2, dr⟩ := dps_gat dp hv
    have jl := (List.getElem?_eq_some_iff.mp hr2).1
    have rok := ok r (List.mem_of_getElem? hr2)
    obtain ⟨t, rfl, ht⟩ := gd_at dr
    have s2 : Same H H2 := f1.trans (wo_le D)
    have gx : (nms r)[c]? = some (.int ((r.getD c 0 : Nat) : Int)) := by
      rw [nms, List.getElem?_map, List.getD_eq_getElem?_getD, List.getElem?_eq_getElem (by rw [rok.1]; exact cm)]
      rfl
    have room : dn (colN (rows.take j) c) + 1 < scanBound := by
      have := cut j
      unfold scanBound
      omega
    refine ⟨hw _, yes_if ⟨_, hx _, _, hc _, t, _, _, _, rfl, rfl, same_t s2 ht, atI_nat gx, (memI (colN (rows.take j) c), dn (colN (rows.take j) c)), _, f2, ⟨_, rfl, room, rfl⟩, ?_, ?_, by omega⟩⟩
    · rw [wo_upd]
      exact f1
    · rw [upd_same]
      show some (SetO w D (fun j' => memI (colN (rows.take j) c) j' || decide (j' = ((r.getD c 0 : Nat) : Int))) (if memI (colN (rows.take j) c) ((r.getD c 0 : Nat) : Int) = true then dn (colN (rows.take j) c) else dn (colN (rows.take j) c) + 1)) = _
      rw [memI_snoc, colN_take hr2, dn_snoc, memI_at]
      by_cases e : r.getD c 0 ∈ colN (rows.take j) c
      · rw [decide_eq_true e, if_pos rfl, if_pos e]
      · rw [decide_eq_false e, if_neg (by decide), if_neg e]
  · rintro H2 ⟨f1, f2, _⟩
    rw [ul, List.take_length] at f2
    exact q H2 f1 f2
end CC
namespace CC
open PySem L2 TL
/-- a set comprehension over a tuple, by a family of sets -/
theorem sp_tup {α κ : Type} (F : SC.FamP α κ) {P : Program} {w : World} {A : Around} {K : PySem.W.Frag} {a : Addr} {xs : List V} {g : TG} {tt : TT} {te : TE} {vs : List Nat} {σ : L2.St} {H1 : Hp} {D : Addr} {Qd : Hp → Prop} (Pv : Nat → Hp → Prop) (h0 : Pv 0 (upd H1 D (F.ob P w D F.ini))) (hl : ∀ i H, i ≤ xs.length → Pv i H → SqT K H a xs)
    (hs : ∀ i x H, xs[i]? = some x → Pv i H → g x (wipe σ vs) H fun σ2 H2 => wipe σ2 vs = wipe σ vs ∧ tt σ2 H2 fun b H3 => if b = true then te σ2 H3 fun y H4 => ∃ (c : α) (z : κ), H4 D = some (F.ob P w D c) ∧ F.pre K A H4 c y z ∧ ∀ c', F.post c y z c' → Pv (i + 1) (upd H4 D (F.ob P w D c')) else Pv (i + 1) H3) (hd : ∀ H, Pv xs.length H → Qd H) :
    ∃ W : Nat → Nat → Hp → Prop, (∃ m, W 0 m (upd H1 D (F.ob P w D F.ini))) ∧ ∀ i m H, W i m H → ((Itt K a).stop i H ∧ Qd H) ∨ ((Itt K a).go i H ∧ ∃ Nx : Hp → Prop, (∀ H', Nx H' → ∃ m', m' < m ∧ W (i + 1) m' H') ∧ ∀ x H', (Itt K a).yld i H x H' → g x (wipe σ vs) H' fun σ2 H2 => wipe σ2 vs = wipe σ vs ∧ tt σ2 H2 fun b H3 =>
      if b = true then te σ2 H3 fun y H4 => ∃ (c : α) (z : κ), H4 D = some (F.ob P w D c) ∧ F.pre K A H4 c y z ∧ ∀ c', F.post c y z c' → Nx (upd H4 D (F.ob P w D c')) else Nx H3) := by
  refine ⟨fun i m H => m = xs.length - i ∧ i ≤ xs.length ∧ Pv i H, ⟨xs.length, by simp, Nat.zero_le _, h0⟩, ?_⟩
  rintro i m H ⟨rfl, hi, p⟩
  have q := hl i H hi p
  by_cases lt : i < xs.length
  · refine .inr ⟨⟨xs, xs[i], q, by simp [lt]⟩, Pv (i + 1), fun H' p' => ⟨xs.length - (i + 1), by omega, rfl, lt, p'⟩, fun x H' y => ?_⟩
    obtain ⟨e, y⟩ := y
    subst e
    exact hs i x _ (y xs q) p
  · have e : i = xs.length := by omega
    subst e
    exact .inl ⟨⟨xs, q, Nat.le_refl _⟩, hd H p⟩
end CC
namespace CC
open PySem L2 TL
theorem updS_T {P : Program} {w : World} {H : Hp} {l : Addr} {L : List (Addr × List Int)} {o : HO} (h : H l = some (SetTO P w l L)) : SameT H (upd H l o) := by
  constructor
  · intro b xs e
    rw [upd_ne (ne_of e h (by intro z; cases z))]
    exact e
  · intro b o xs e
    rw [upd_ne (ne_of e h (by intro z; cases z))]
    exact e
def pr2 (a b : Nat) (r : List Nat) : List Int := [((r.getD a 0 : Nat) : Int), ((r.getD b 0 : Nat) : Int)]
/-- {(row[a], row[b]) for row in rows} -/
theorem sp_pairs {P : Program} {w : World} {A : Around} {K : PySem.W.Frag} {g : Addr} {us : List V} {rows : List (List Nat)} {m a b ca cb : Nat} {σ : L2.St} {H : Hp} {D : Addr} {Qd : Hp → Prop} (hg : SqT K H g us) (dp : DpAll K H us (rows.map gd)) (ok : ∀ r ∈ rows, RowOk m r) (few : rows.length ≤ 60) (am : a < m) (bm : b < m) (nD : H D = none) (hu : A.units + 64 < cLine)
    (hw : ∀ x : V, wipe ((wipe σ [5]).set 5 (some x)) [5] = wipe σ [5]) (hx : ∀ x : V, ((wipe σ [5]).set 5 (some x))[5]? = some (some x)) (hca : ∀ x : V, ((wipe σ [5]).set 5 (some x))[ca]? = some (some (.int (a : Int)))) (hcb : ∀ x : V, ((wipe σ [5]).set 5 (some x))[cb]? = some (some (.int (b : Int))))
    (q : ∀ H2 (L : List (Addr × List Int)), Same H (wo H2 D) → H2 D = some (SetTO P w D L) → (L.map (·.2)).Nodup → (∀ k, k ∈ L.map (·.2) ↔ k ∈ rows.map (pr2 a b)) → Qd H2) :
    ∃ W : Nat → Nat → Hp → Prop, (∃ m, W 0 m (upd H D (SC.famT.ob P w D SC.famT.ini))) ∧ ∀ i m H, W i m H → ((Itt K g).stop i H ∧ Qd H) ∨ ((Itt K g).go i H ∧ ∃ Nx : Hp → Prop, (∀ H', Nx H' → ∃ m', m' < m ∧ W (i + 1) m' H') ∧ ∀ x H', (Itt K g).yld i H x H' → gName 5 x (wipe σ [5]) H' fun σ2 H2 => wipe σ2 [5] = wipe σ [5] ∧ tYes σ2 H2 fun b H3 =>
      if b = true then tTup (tCons (tOp (rIxT K) (tVar 5) (tVar ca)) (tCons (tOp (rIxT K) (tVar 5) (tVar cb)) tNil)) σ2 H3 fun y H4 => ∃ (c : List (Addr × List Int)) (z : List Int), H4 D = some (SC.famT.ob P w D c) ∧ SC.famT.pre K A H4 c y z ∧ ∀ c', SC.famT.post c y z c' → Nx (upd H4 D (SC.famT.ob P w D c')) else Nx H3) := by
  have ul : us.length = rows.length := by rw [dps_len dp, List.length_map]
  refine sp_tup SC.famT (xs := us) (fun j H2 => Same H (wo H2 D) ∧ ∃ L : List (Addr × List Int), H2 D = some (SetTO P w D L) ∧ (∀ p ∈ L, SqT K H2 p.1 (p.2.map V.int)) ∧ (L.map (·.2)).Nodup ∧ (∀ k, k ∈ L.map (·.2) ↔ k ∈ (rows.take j).map (pr2 a b)) ∧ L.length ≤ j) ⟨?_, [], upd_same, (fun p hp => by cases hp), List.nodup_nil, (fun k => by simp), Nat.le_refl _⟩ (fun j H2 _ z => same_t (z.1.trans (wo_le D)) hg) ?_ ?_
  · rw [wo_upd]
    exact fun b o e => by rw [wo_ne (ne_of_none e nD)]; exact e
  · rintro j v H2 hv ⟨f1, L, f2, f3, f4, f5, f6⟩
    obtain ⟨r, hr2, dr⟩ := dps_gat dp hv
    have jl := (List.getElem?_eq_some_iff.mp hr2).1
    have rok := ok r (List.mem_of_getElem? hr2)
    obtain ⟨t, rfl, ht⟩ := gd_at dr
    have s2 : Same H H2 := f1.trans (wo_le D)
    have gx : ∀ c, c < m → (nms r)[c]? = some (.int ((r.getD c 0 : Nat) : Int)) := fun c cm => by
      rw [nms, List.getElem?_map, List.getD_eq_getElem?_getD, List.getElem?_eq_getElem (by rw [rok.1]; exact cm)]
      rfl
    refine ⟨hw _, yes_if ⟨_, hx _, _, hca _, t, _, _, _, rfl, rfl, same_t s2 ht, atI_nat (gx a am), _, hx _, _, hcb _, t, _, _, _, rfl, rfl, same_t s2 ht, atI_nat (gx b bm), (by show 2 ≤ sizeLine; decide), fun t2 n2 => ?_⟩⟩
    have s3 : Same H2 (upd H2 t2 (.tup [.int ((r.getD a 0 : Nat) : Int), .int ((r.getD b 0 : Nat) : Int)])) := same_new n2
    have h3 : (upd H2 t2 (.tup [.int ((r.getD a 0 : Nat) : Int), .int ((r.getD b 0 : Nat) : Int)])) t2 = some (.tup ((pr2 a b r).map V.int)) := upd_same
    generalize upd H2 t2 (.tup [.int ((r.getD a 0 : Nat) : Int), .int ((r.getD b 0 : Nat) : Int)]) = H3 at s3 h3
    refine ⟨L, pr2 a b r, s3 _ _ f2, ⟨t2, rfl, .inl (.inl h3), fun p hp => same_t s3 (f3 p hp), hu, by omega⟩, ?_⟩
    rintro c' ⟨x, ex, c1, c2⟩
    cases ex
    have uT : SameT H3 (upd H3 D (SetTO P w D c')) := updS_T (s3 _ _ f2)
    refine ⟨?_, c', upd_same, ?_⟩
    · rw [wo_upd]
      exact f1.trans (wo_same s3)
    have tk : ∀ k, k ∈ (rows.take (j + 1)).map (pr2 a b) ↔ k ∈ (rows.take j).map (pr2 a b) ∨ k = pr2 a b r := fun k => by
      rw [take1 hr2, List.map_append, List.mem_append]
      simp
    by_cases e : pr2 a b r ∈ L.map (·.2)
    · rw [c1 e]
      refine ⟨fun p hp => sqt_T (c1 e ▸ uT) (same_t s3 (f3 p hp)), f4, fun k => ?_, by omega⟩
      rw [tk, ← f5]
      exact ⟨.inl, fun z => z.elim id fun z => z ▸ e⟩
    · have pm := c2 e
      refine ⟨fun p hp => ?_, ?_, fun k => ?_, ?_⟩
      · rcases List.mem_cons.mp (pm.mem_iff.mp hp) with z | z
        · rw [z]
          exact sqt_T uT (.inl (.inl h3))
        · exact sqt_T uT (same_t s3 (f3 p z))
      · exact (pm.map (·.2)).nodup_iff.mpr (List.nodup_cons.mpr ⟨e, f4⟩)
      · rw [tk, ← f5, (pm.map (·.2)).mem_iff, List.map_cons, List.mem_cons]
        exact ⟨fun z => z.elim .inr .inl, fun z => z.elim .inr .inl⟩
      · rw [pm.length_eq, List.length_cons]
        omega
  · rintro H2 ⟨f1, L, f2, f3, f4, f5, f6⟩
    rw [ul, List.take_length] at f5
    exact q H2 L f1 f2 f4 f5
/-! as many pairs as values: the column settles the other one -/
theorem subL_len : ∀ {α : Type} [BEq α] [LawfulBEq α] {u v : List α}, u.Nodup → (∀ x ∈ u, x ∈ v) → u.length ≤ v.length
  | _, _, _, [], _, _, _ => Nat.zero_le _
  | _, _, _, x :: u, v, h, s => by
    obtain ⟨h1, h2⟩ := List.nodup_cons.mp h
    have hx := s x List.mem_cons_self
    have := subL_len (u := u) (v := v.erase x) h2 fun y hy => (List.mem_erase_of_ne (a := y) (b := x) fun e => h1 (by rw [← e]; exact hy)).mpr (s y (List.mem_cons_of_mem _ hy))
    have l := List.length_erase_of_mem hx
    have : 0 < v.length := List.length_pos_of_mem hx
    rw [List.length_cons]
    omega
theorem pairs_iff {rows : List (List Nat)} {a b : Nat} {Ps : List (List Int)} (nd : Ps.Nodup) (mem : ∀ k, k ∈ Ps ↔ k ∈ rows.map (pr2 a b)) : Ps.length = dn (colN rows a) ↔ HoldsR rows ⟨true, a, b⟩ := by
  have hd : ∀ r : List Nat, ((pr2 a b r).headD 0).toNat = r.getD a 0 := fun r => rfl
  have inP : ∀ r ∈ rows, pr2 a b r ∈ Ps := fun r hr => (mem _).mpr (List.mem_map.mpr ⟨r, hr, rfl⟩)
  have cover : (firsts (colN rows a)).length ≤ (Ps.map fun p => (p.headD 0).toNat).length := sub_len (nodup_firsts _) fun v hv => by
    obtain ⟨r, hr, rfl⟩ := List.mem_map.mp (mem_firsts.mp hv)
    exact List.mem_map.mpr ⟨_, inP r hr, hd r⟩
  rw [List.length_map] at cover
  show _ ↔ ∀ x ∈ rows, ∀ y ∈ rows, y.getD a 0 = x.getD a 0 → y.getD b 0 = x.getD b 0
  constructor
  · intro h x hx y hy e
    refine Decidable.byContradiction fun ne => ?_
    have np : pr2 a b x ≠ pr2 a b y := fun z => by
      unfold pr2 at z
      injection z with _ z
      injection z with z _
      omega
    have := sub_len (v := (Ps.erase (pr2 a b y)).map fun p => (p.headD 0).toNat) (nodup_firsts (colN rows a)) fun v hv => by
      obtain ⟨r, hr, rfl⟩ := List.mem_map.mp (mem_firsts.mp hv)
      by_cases q : pr2 a b r = pr2 a b y
      · refine List.mem_map.mpr ⟨_, (List.mem_erase_of_ne np).mpr (inP x hx), ?_⟩
        rw [hd, ← e, ← hd y, ← q, hd]
      · exact List.mem_map.mpr ⟨_, (List.mem_erase_of_ne q).mpr (inP r hr), hd r⟩
    rw [List.length_map, List.length_erase_of_mem (inP y hy)] at this
    have p := List.length_pos_of_mem (inP y hy)
    unfold dn at h
    omega
  · intro h
    refine Nat.le_antisymm ?_ cover
    have := subL_len (v := (firsts (colN rows a)).map fun v => ((rows.find? fun s => s.getD a 0 == v).map (pr2 a b)).getD []) nd fun k hk => by
      obtain ⟨r, hr, rfl⟩ := List.mem_map.mp ((mem k).mp hk)
      refine List.mem_map.mpr ⟨r.getD a 0, mem_firsts.mpr (List.mem_map.mpr ⟨r, hr, rfl⟩), ?_⟩
      cases e : rows.find? (fun s => s.getD a 0 == r.getD a 0) with
      | none =>
        have := List.find?_eq_none.mp e r hr
        simp at this
      | some z =>
        have e0 := List.find?_some e
        have e1 : z.getD a 0 = r.getD a 0 := eq_of_beq e0
        have e2 := h r hr z (List.mem_of_find?_eq_some e) e1
        show pr2 a b z = pr2 a b r
        unfold pr2
        rw [e1, e2]
    rw [List.length_map] at this
    exact this
end CC
namespace CC
open PySem L2 TL
abbrev sHo : Stmt := tp 11
/-- rows whose sets the library can lay -/
def FwB (rows : List (List Nat)) : Prop := rows.length ≤ 60 ∧ ∀ a, dn (colN rows a) ≤ 31
def spHo (K : PySem.W.Frag) : Sp := fun vs H Q _ => ∃ (g : Addr) (us : List V) (m : Nat) (rows : List (List Nat)) (v : V) (r : R), vs = [.ref g, v] ∧ SqT K H g us ∧ DpAll K H us (rows.map gd) ∧ (∀ x ∈ rows, RowOk m x) ∧ FwB rows ∧ Dp K H v r.d ∧ r.ok m ∧ ∀ (t : Bool) H', Same H H' → (t = true ↔ HoldsR rows r) → Q (.bl t) H'
theorem dn_pos {l : List Nat} {x : Nat} (h : x ∈ l) : 1 ≤ dn l := List.length_pos_of_mem (mem_firsts.mpr h)
theorem dn_len (l : List Nat) : dn l ≤ l.length := by
  have := dn_le l l.length
  rwa [List.take_length] at this
theorem FwB.of_len {rows : List (List Nat)} (h : rows.length ≤ 31) : FwB rows := ⟨by omega, fun a => Nat.le_trans (dn_len _) (by unfold colN; rw [List.length_map]; exact h)⟩
theorem within_iff {rows : List (List Nat)} {a b : Nat} : (∀ k, (memI (colN rows a) k && !memI (colN rows b) k) = false) ↔ HoldsR rows ⟨false, a, b⟩ := by
  show _ ↔ ∀ x ∈ rows, ∃ y ∈ rows, y.getD b 0 = x.getD a 0
  constructor
  · intro h x hx
    have z := h ((x.getD a 0 : Nat) : Int)
    have hm : x.getD a 0 ∈ colN rows a := List.mem_map.mpr ⟨x, hx, rfl⟩
    rw [memI_at, memI_at, decide_eq_true hm, Bool.true_and, Bool.not_eq_false', decide_eq_true_iff] at z
    obtain ⟨y, hy, e⟩ := List.mem_map.mp z
    exact ⟨y, hy, e⟩
  · intro h k
    cases z : memI (colN rows a) k with
    | false => rfl
    | true =>
      obtain ⟨n, hn, rfl⟩ := of_decide_eq_true z
      obtain ⟨x, hx, rfl⟩ := List.mem_map.mp hn
      obtain ⟨y, hy, e⟩ := h x hx
      have hm : x.getD a 0 ∈ colN rows b := List.mem_map.mpr ⟨y, hy, e⟩
      rw [memI_at, decide_eq_true hm]
      rfl
section
variable {P : Program} {w : World} {K : PySem.W.Frag} {mg : Str → Option Value} {base : Heap} {kA : Addr}
abbrev nHp : List Str := ["rows", "rule", "kind", "a", "b", "row"]
theorem scHo : FnScope nHp ["rows", "rule"] (defScope sHo) := ⟨rfl, rfl, rfl, by decide +kernel, rfl, by decide +kernel, by decide +kernel⟩
theorem ok_ho {f : Addr} {fd : FuncData} {k : Nat} (F : Fun K "holds" "holds" sHo f fd) (T : Glb K mg kA) : FnOk P w K mg base CX0 (k + 1) f fd ["rows", "rule"] (spHo K) := by
  refine F.ok scHo (fun vs H Q E h => ?_) (fun cdv A outer s H vs Q E hr h => ?_)
  · obtain ⟨g, us, m, rows, v, r, rfl, _⟩ := h
    rfl
  · obtain ⟨g, us, m, rows, v, r, rfl, hg, dp, ok, few, dr, hr2, q⟩ := h
    have n := scHo.nd
    have few60 := few.1
    refine ⟨_, (pss_cons (ps_asg (pv 1) (pg_tup rfl (pgs_cons (pg_name (i := 2) n rfl (.inl rfl)) (pgs_cons (pg_name (i := 3) n rfl (.inr rfl)) (pgs_cons (pg_name (i := 4) n rfl (.inr rfl)) pgs_nil)))))
      (pss_cons (ps_if (pt_cmpR op_eq (pv 2) pe_str (nomark _))
        (pss_one (ps_ret (pe_cmpR op_eq (pe_callB (r := rLenI w) call_lenI (by rfl) T.len PySem.boot_len (pa_cons (pe_op (r := SD.rSubK w) SD.op_subK
          (SC.pe_setI (own := [("row", 5)]) (g := gName 5) (tt := tYes) (te := tOp (rIxT K) (tVar 5) (tVar 3)) rfl n (pi_tup (pv 0)) (blkOk_by (N := nHp) (sc := defScope sHo) (by decide +kernel)) (fun _ _ _ _ _ => (pg_name (i := 5) n rfl (.inl rfl))) (fun _ _ _ _ _ => pts_nil) (fun _ _ _ _ _ => (pe_ix ix_tup (pv 5) (pv 3) (fun _ _ => rfl))))
          (SC.pe_setI (own := [("row", 5)]) (g := gName 5) (tt := tYes) (te := tOp (rIxT K) (tVar 5) (tVar 4)) rfl n (pi_tup (pv 0)) (blkOk_by (N := nHp) (sc := defScope sHo) (by decide +kernel)) (fun _ _ _ _ _ => (pg_name (i := 5) n rfl (.inl rfl))) (fun _ _ _ _ _ => pts_nil) (fun _ _ _ _ _ => (pe_ix ix_tup (pv 5) (pv 4) (fun _ _ => rfl))))) pa_nil)) pe_int (nomark _))))
        pss_nil)
      (pss_one (ps_ret (pe_cmpR op_eq (pe_callB (r := SC.rLenT P w) SC.call_lenT (by rfl) T.len PySem.boot_len (pa_cons (SC.pe_setP SC.famT (own := [("row", 5)]) (g := gName 5) (tt := tYes) (te := tTup (tCons (tOp (rIxT K) (tVar 5) (tVar 3)) (tCons (tOp (rIxT K) (tVar 5) (tVar 4)) tNil))) rfl n (pi_tup (pv 0)) (blkOk_by (N := nHp) (sc := defScope sHo) (by decide +kernel)) (fun _ _ _ _ _ => (pg_name (i := 5) n rfl (.inl rfl))) (fun _ _ _ _ _ => pts_nil) (fun _ _ _ _ _ => (pe_tup (pa_cons (pe_ix ix_tup (pv 5) (pv 3) (fun _ _ => rfl)) (pa_cons (pe_ix ix_tup (pv 5) (pv 4) (fun _ _ => rfl)) pa_nil))))) pa_nil))
        (pe_callB (r := rLenI w) call_lenI (by rfl) T.len PySem.boot_len (pa_cons (SC.pe_setI (own := [("row", 5)]) (g := gName 5) (tt := tYes) (te := tOp (rIxT K) (tVar 5) (tVar 3)) rfl n (pi_tup (pv 0)) (blkOk_by (N := nHp) (sc := defScope sHo) (by decide +kernel)) (fun _ _ _ _ _ => (pg_name (i := 5) n rfl (.inl rfl))) (fun _ _ _ _ _ => pts_nil) (fun _ _ _ _ _ => (pe_ix ix_tup (pv 5) (pv 3) (fun _ _ => rfl)))) pa_nil)) (nomark _)))))), ?_⟩
    obtain ⟨kk, a, b⟩ := r
    obtain ⟨tr, rfl, ht⟩ := dp_r dr
    have aw : a < m := hr2.1
    have bw : b < m := hr2.2.1
    refine ⟨_, rfl, tr, _, rfl, ht, rfl, _, _, rfl, _, _, rfl, _, _, rfl, rfl, ?_⟩
    cases kk with
    | false =>
      refine ⟨_, rfl, rfl, _, rfl, iteT' (decide_eq_true rfl) ?_⟩
      refine ⟨_, rfl, g, rfl, ⟨_, hg⟩, fun D nD => si_col (m := m) (c := a) (cs := 3) hg dp ok (by omega) aw nD (fun _ => rfl) (fun _ => rfl) (fun _ => rfl) fun H1 e1 e2 => ?_⟩
      have s1 : Same H H1 := e1.trans (wo_le D)
      refine ⟨_, rfl, g, rfl, ⟨_, same_t s1 hg⟩, fun D2 nD2 => si_col (m := m) (c := b) (cs := 4) (same_t s1 hg) (dps_same s1 _ _ dp) ok (by omega) bw nD2 (fun _ => rfl) (fun _ => rfl) (fun _ => rfl) fun H2 f1 f2 => ?_⟩
      have s2 : Same H1 H2 := f1.trans (wo_le D2)
      have la : dn (colN rows a) ≤ 31 := few.2 a
      have sm : dn (colN rows a) / 4 ≤ dn (colN rows b) ∨ 1 ≤ dn (colN rows b) ∧ dn (colN rows a) ≤ 31 := by
        cases rows with
        | nil => exact .inl (by simp [colN, dn, firsts])
        | cons x rows =>
          have hm : x.getD b 0 ∈ colN (x :: rows) b := List.mem_map.mpr ⟨x, List.mem_cons_self, rfl⟩
          exact .inr ⟨dn_pos hm, la⟩
      refine ⟨D, D2, _, _, _, _, rfl, rfl, s2 _ _ e2, f2, sm, fun p n1 np le iff => ?_⟩
      refine ⟨p, _, n1, rfl, upd_same, by omega, rfl, ?_⟩
      refine q _ _ (s1.trans (s2.trans (same_new np))) ?_
      rw [decide_eq_true_iff, ← within_iff, ← iff]
      exact ⟨fun h => by injection h with h; omega, fun h => by rw [h]; rfl⟩
    | true =>
      refine ⟨_, rfl, rfl, _, rfl, iteF' (decide_eq_false (show ¬ V.str (kd true) = V.str "within" by decide +kernel)) ?_⟩
      have hu64 : (A.deeper (PyProof.Rows.envOfC (Str.ofString "holds") (defScope sHo) s.heap.objs.size f cdv)).units + 64 < cLine := by
        have := hr.un
        omega
      refine ⟨_, rfl, g, rfl, ⟨_, hg⟩, fun D nD => sp_pairs (m := m) (a := a) (b := b) (ca := 3) (cb := 4) hg dp ok (by omega) aw bw nD hu64 (fun _ => rfl) (fun _ => rfl) (fun _ => rfl) (fun _ => rfl) fun H1 L e1 e2 nd mem => ?_⟩
      have s1 : Same H H1 := e1.trans (wo_le D)
      refine ⟨D, L, rfl, e2, ?_⟩
      refine ⟨_, rfl, g, rfl, ⟨_, same_t s1 hg⟩, fun D2 nD2 => si_col (m := m) (c := a) (cs := 3) (same_t s1 hg) (dps_same s1 _ _ dp) ok (by omega) aw nD2 (fun _ => rfl) (fun _ => rfl) (fun _ => rfl) fun H2 f1 f2 => ?_⟩
      have s2 : Same H1 H2 := f1.trans (wo_le D2)
      have la : dn (colN rows a) ≤ 31 := few.2 a
      refine ⟨D2, _, _, rfl, f2, by omega, rfl, ?_⟩
      refine q _ _ (s1.trans s2) ?_
      rw [decide_eq_true_iff, ← pairs_iff nd mem, List.length_map]
      exact ⟨fun h => by injection h with h; omega, fun h => by rw [h]⟩
end
end CC
namespace CC
open PySem L2 TL
/-! ### holds, of a list or a tuple of rows, few of them different -/
def iSeq (K : PySem.W.Frag) (tl : TE) : L2.TI := fun σ H R => tl σ H fun x H1 => ∃ a, x = .ref a ∧ (((∃ xs, SqL K H1 a xs) ∧ R (Itl K a) H1) ∨ ((∃ xs, SqT K H1 a xs) ∧ R (Itt K a) H1))
theorem pi_seq {X : Cx} {tg l : Expr} {tl : TE} (hl : PE X l tl) : PI X tg l (iSeq X.K tl) := by
  refine ⟨fun pins s σ H R I h => ?_⟩
  refine thn (hl.run pins s σ H _ I h) fun v s1 ⟨x, H1, I1, r1, q1⟩ => ?_
  obtain ⟨a, e, q1⟩ := q1
  subst e
  cases r1
  rcases q1 with ⟨⟨xs, hq⟩, q⟩ | ⟨⟨xs, hq⟩, q⟩
  · obtain ⟨its, rv, p, hz⟩ := I1.list hq
    refine wpAny_pyIter_list p.isList ?_
    refine ⟨s1.heap.objs.size, [s1.heap.objs.size], _, _, H1, rfl, I1.kept (t' := s1.toks) fun b o e => Heap.get?_push_of_some _ e, L2.turn_list a _, ⟨_, Heap.get?_push_size _ rfl, rfl, rfl⟩, fun b hb => ?_, q⟩
    have e : b = s1.heap.objs.size := by simpa using hb
    subst e
    exact I1.fpOk (Nat.le_refl _) (I1.hok.fresh (Nat.le_refl _))
  · obtain ⟨its, rv, p, hz⟩ := I1.tuple hq
    refine wpAny_pyIter_tuple (show s1.heap.IsTuple a its.toArray from p) ?_
    refine ⟨s1.heap.objs.size, [s1.heap.objs.size], _, _, H1, rfl, I1.kept (t' := s1.toks) fun b o e => Heap.get?_push_of_some _ e, L2.turn_tuple a _, ⟨_, Heap.get?_push_size _ rfl, rfl, rfl⟩, fun b hb => ?_, q⟩
    have e : b = s1.heap.objs.size := by simpa using hb
    subst e
    exact I1.fpOk (Nat.le_refl _) (I1.hok.fresh (Nat.le_refl _))
/-- an iterator over what stands, as long as S holds -/
structure WalkJ (J : It) (S : Hp → Prop) (xs : List V) : Prop where
  go : ∀ i H, i < xs.length → S H → J.go i H
  stop : ∀ H, S H → J.stop xs.length H
  yld : ∀ i H x H', i < xs.length → S H → J.yld i H x H' → H = H' ∧ xs[i]? = some x
theorem walkL {K : PySem.W.Frag} {a : Addr} {xs : List V} : WalkJ (Itl K a) (fun H => SqL K H a xs) xs :=
  ⟨fun i H lt q => ⟨xs, xs[i], q, by simp [lt]⟩, fun H q => ⟨xs, q, Nat.le_refl _⟩, fun i H x H' lt q y => by
    obtain ⟨e, y⟩ := y
    subst e
    exact ⟨rfl, y xs q⟩⟩
theorem walkT {K : PySem.W.Frag} {a : Addr} {xs : List V} : WalkJ (Itt K a) (fun H => SqT K H a xs) xs :=
  ⟨fun i H lt q => ⟨xs, xs[i], q, by simp [lt]⟩, fun H q => ⟨xs, q, Nat.le_refl _⟩, fun i H x H' lt q y => by
    obtain ⟨e, y⟩ := y
    subst e
    exact ⟨rfl, y xs q⟩⟩
/-- a list or a tuple -/
def SqE (K : PySem.W.Frag) (H : Hp) (a : Addr) (xs : List V) : Prop := SqL K H a xs ∨ SqT K H a xs
theorem SqE.same {K : PySem.W.Frag} {H H' : Hp} {a : Addr} {xs : List V} (e : Same H H') (h : SqE K H a xs) : SqE K H' a xs := h.elim (fun z => .inl (same_l e z)) fun z => .inr (same_t e z)
/-- few different rows -/
def Fw (rows : List (List Nat)) : Prop := ∃ B : List (List Nat), B.length ≤ 31 ∧ ∀ r ∈ rows, r ∈ B
theorem Fw.of_len {rows : List (List Nat)} (h : rows.length ≤ 31) : Fw rows := ⟨rows, h, fun _ h => h⟩
theorem Fw.dn {rows : List (List Nat)} (h : Fw rows) (a : Nat) : CC.dn (colN rows a) ≤ 31 := by
  obtain ⟨B, l, h⟩ := h
  have := sub_len (nodup_firsts (colN rows a)) (v := B.map fun r => r.getD a 0) fun v hv => by
    obtain ⟨r, hr, rfl⟩ := List.mem_map.mp (mem_firsts.mp hv)
    exact List.mem_map.mpr ⟨r, h r hr, rfl⟩
  rw [List.length_map] at this
  exact Nat.le_trans this l
theorem si_J {w : World} {J : It} {S : Hp → Prop} {xs : List V} {g : TG} {tt : TT} {te : TE} {vs : List Nat} {σ : L2.St} {H1 : Hp} {D : Addr} {Qd : Hp → Prop} (wk : WalkJ J S xs) (Pv : Nat → Hp → Prop) (h0 : Pv 0 (upd H1 D (SetO w D (fun _ => false) 0))) (hl : ∀ i H, i ≤ xs.length → Pv i H → S H)
    (hs : ∀ i x H, xs[i]? = some x → Pv i H → g x (wipe σ vs) H fun σ2 H2 => wipe σ2 vs = wipe σ vs ∧ tt σ2 H2 fun b H3 => if b = true then te σ2 H3 fun y H4 => ∃ c c' : (Int → Bool) × Nat, H4 D = some (SetO w D c.1 c.2) ∧ (∃ k : Int, y = .int k ∧ c.2 + 1 < scanBound ∧ c' = (fun j => c.1 j || decide (j = k), if c.1 k = true then c.2 else c.2 + 1)) ∧ Pv (i + 1) (upd H4 D (SetO w D c'.1 c'.2)) else Pv (i + 1) H3) (hd : ∀ H, Pv xs.length H → Qd H) :
    ∃ W : Nat → Nat → Hp → Prop, (∃ m, W 0 m (upd H1 D (SetO w D (fun _ => false) 0))) ∧ ∀ i m H, W i m H → (J.stop i H ∧ Qd H) ∨ (J.go i H ∧ ∃ Nx : Hp → Prop, (∀ H', Nx H' → ∃ m', m' < m ∧ W (i + 1) m' H') ∧ ∀ x H', J.yld i H x H' → g x (wipe σ vs) H' fun σ2 H2 => wipe σ2 vs = wipe σ vs ∧ tt σ2 H2 fun b H3 =>
      if b = true then te σ2 H3 fun y H4 => ∃ c c' : (Int → Bool) × Nat, H4 D = some (SetO w D c.1 c.2) ∧ (∃ k : Int, y = .int k ∧ c.2 + 1 < scanBound ∧ c' = (fun j => c.1 j || decide (j = k), if c.1 k = true then c.2 else c.2 + 1)) ∧ Nx (upd H4 D (SetO w D c'.1 c'.2)) else Nx H3) := by
  refine ⟨fun i m H => m = xs.length - i ∧ i ≤ xs.length ∧ Pv i H, ⟨xs.length, by simp, Nat.zero_le _, h0⟩, ?_⟩
  rintro i m H ⟨rfl, hi, p⟩
  have q := hl i H hi p
  by_cases lt : i < xs.length
  · refine .inr ⟨wk.go i H lt q, Pv (i + 1), fun H' p' => ⟨xs.length - (i + 1), by omega, rfl, lt, p'⟩, fun x H' y => ?_⟩
    obtain ⟨e, y2⟩ := wk.yld i H x H' lt q y
    subst e
    exact hs i x _ y2 p
  · have e : i = xs.length := by omega
    subst e
    exact .inl ⟨wk.stop H q, hd H p⟩
theorem sp_J {α κ : Type} (F : SC.FamP α κ) {P : Program} {w : World} {A : Around} {K : PySem.W.Frag} {J : It} {S : Hp → Prop} {xs : List V} {g : TG} {tt : TT} {te : TE} {vs : List Nat} {σ : L2.St} {H1 : Hp} {D : Addr} {Qd : Hp → Prop} (wk : WalkJ J S xs) (Pv : Nat → Hp → Prop) (h0 : Pv 0 (upd H1 D (F.ob P w D F.ini))) (hl : ∀ i H, i ≤ xs.length → Pv i H → S H)
    (hs : ∀ i x H, xs[i]? = some x → Pv i H → g x (wipe σ vs) H fun σ2 H2 => wipe σ2 vs = wipe σ vs ∧ tt σ2 H2 fun b H3 => if b = true then te σ2 H3 fun y H4 => ∃ (c : α) (z : κ), H4 D = some (F.ob P w D c) ∧ F.pre K A H4 c y z ∧ ∀ c', F.post c y z c' → Pv (i + 1) (upd H4 D (F.ob P w D c')) else Pv (i + 1) H3) (hd : ∀ H, Pv xs.length H → Qd H) :
    ∃ W : Nat → Nat → Hp → Prop, (∃ m, W 0 m (upd H1 D (F.ob P w D F.ini))) ∧ ∀ i m H, W i m H → (J.stop i H ∧ Qd H) ∨ (J.go i H ∧ ∃ Nx : Hp → Prop, (∀ H', Nx H' → ∃ m', m' < m ∧ W (i + 1) m' H') ∧ ∀ x H', J.yld i H x H' → g x (wipe σ vs) H' fun σ2 H2 => wipe σ2 vs = wipe σ vs ∧ tt σ2 H2 fun b H3 =>
      if b = true then te σ2 H3 fun y H4 => ∃ (c : α) (z : κ), H4 D = some (F.ob P w D c) ∧ F.pre K A H4 c y z ∧ ∀ c', F.post c y z c' → Nx (upd H4 D (F.ob P w D c')) else Nx H3) := by
  refine ⟨fun i m H => m = xs.length - i ∧ i ≤ xs.length ∧ Pv i H, ⟨xs.length, by simp, Nat.zero_le _, h0⟩, ?_⟩
  rintro i m H ⟨rfl, hi, p⟩
  have q := hl i H hi p
  by_cases lt : i < xs.length
  · refine .inr ⟨wk.go i H lt q, Pv (i + 1), fun H' p' => ⟨xs.length - (i + 1), by omega, rfl, lt, p'⟩, fun x H' y => ?_⟩
    obtain ⟨e, y2⟩ := wk.yld i H x H' lt q y
    subst e
    exact hs i x _ y2 p
  · have e : i = xs.length := by omega
    subst e
    exact .inl ⟨wk.stop H q, hd H p⟩
theorem si_colJ {w : World} {K : PySem.W.Frag} {J : It} {S : Hp → Prop} {us : List V} {rows : List (List Nat)} {m c cs : Nat} {σ : L2.St} {H : Hp} {D : Addr} {Qd : Hp → Prop} (wk : WalkJ J S us) (hg : ∀ H2, Same H H2 → S H2) (dp : DpAll K H us (rows.map gd)) (ok : ∀ r ∈ rows, RowOk m r) (few : rows.length ≤ 401) (cm : c < m) (nD : H D = none)
    (hw : ∀ x : V, wipe ((wipe σ [5]).set 5 (some x)) [5] = wipe σ [5]) (hx : ∀ x : V, ((wipe σ [5]).set 5 (some x))[5]? = some (some x)) (hc : ∀ x : V, ((wipe σ [5]).set 5 (some x))[cs]? = some (some (.int (c : Int))))
    (q : ∀ H2, Same H (wo H2 D) → H2 D = some (SetO w D (memI (colN rows c)) (dn (colN rows c))) → Qd H2) :
    ∃ W : Nat → Nat → Hp → Prop, (∃ m, W 0 m (upd H D (SetO w D (fun _ => false) 0))) ∧ ∀ i m H, W i m H → (J.stop i H ∧ Qd H) ∨ (J.go i H ∧ ∃ Nx : Hp → Prop, (∀ H', Nx H' → ∃ m', m' < m ∧ W (i + 1) m' H') ∧ ∀ x H', J.yld i H x H' → gName 5 x (wipe σ [5]) H' fun σ2 H2 => wipe σ2 [5] = wipe σ [5] ∧ tYes σ2 H2 fun b H3 =>
      if b = true then tOp (rIxT K) (tVar 5) (tVar cs) σ2 H3 fun y H4 => ∃ c c' : (Int → Bool) × Nat, H4 D = some (SetO w D c.1 c.2) ∧ (∃ k : Int, y = .int k ∧ c.2 + 1 < scanBound ∧ c' = (fun j => c.1 j || decide (j = k), if c.1 k = true then c.2 else c.2 + 1)) ∧ Nx (upd H4 D (SetO w D c'.1 c'.2)) else Nx H3) := by
  have ul : us.length = rows.length := by rw [dps_len dp, List.length_map]
  have cut : ∀ j, dn (colN (rows.take j) c) ≤ j := fun j => by
    have e : colN (rows.take j) c = (colN rows c).take j := by
      unfold colN
      rw [List.map_take]
    rw [e]
    exact dn_le _ j
  refine si_J wk (fun j H2 => Same H (wo H2 D) ∧ H2 D = some (SetO w D (memI (colN (rows.take j) c)) (dn (colN (rows.take j) c))) ∧ j ≤ 401) ⟨?_, ?_, by omega⟩ (fun j H2 _ z => hg _ (z.1.trans (wo_le D))) ?_ ?_
  · rw [wo_upd]
    exact fun b o e => by rw [wo_ne (ne_of_none e nD)]; exact e
  · rw [upd_same]
    have e : memI (colN (rows.take 0) c) = fun _ => false := by
      funext k
      simp [memI, colN]
    have e' : dn (colN (rows.take 0) c) = 0 := by simp [dn, firsts, colN]
    rw [e, e']
  · rintro j v H2 hv ⟨f1, f2, f3⟩
    obtain ⟨r, hr2, dr⟩ := dps_gat dp hv
    have jl := (List.getElem?_eq_some_iff.mp hr2).1
    have rok := ok r (List.mem_of_getElem? hr2)
    obtain ⟨t, rfl, ht⟩ := gd_at dr
    have s2 : Same H H2 := f1.trans (wo_le D)
    have gx : (nms r)[c]? = some (.int ((r.getD c 0 : Nat) : Int)) := by
      rw [nms, List.getElem?_map, List.getD_eq_getElem?_getD, List.getElem?_eq_getElem (by rw [rok.1]; exact cm)]
      rfl
    have room : dn (colN (rows.take j) c) + 1 < scanBound := by
      have := cut j
      unfold scanBound
      omega
    refine ⟨hw _, yes_if ⟨_, hx _, _, hc _, t, _, _, _, rfl, rfl, same_t s2 ht, atI_nat gx, (memI (colN (rows.take j) c), dn (colN (rows.take j) c)), _, f2, ⟨_, rfl, room, rfl⟩, ?_, ?_, by omega⟩⟩
    · rw [wo_upd]
      exact f1
    · rw [upd_same]
      show some (SetO w D (fun j' => memI (colN (rows.take j) c) j' || decide (j' = ((r.getD c 0 : Nat) : Int))) (if memI (colN (rows.take j) c) ((r.getD c 0 : Nat) : Int) = true then dn (colN (rows.take j) c) else dn (colN (rows.take j) c) + 1)) = _
      rw [memI_snoc, colN_take hr2, dn_snoc, memI_at]
      by_cases e : r.getD c 0 ∈ colN (rows.take j) c
      · rw [decide_eq_true e, if_pos rfl, if_pos e]
      · rw [decide_eq_false e, if_neg (by decide), if_neg e]
  · rintro H2 ⟨f1, f2, _⟩
    rw [ul, List.take_length] at f2
    exact q H2 f1 f2
theorem sp_pairsJ {P : Program} {w : World} {A : Around} {K : PySem.W.Frag} {J : It} {S : Hp → Prop} {us : List V} {rows : List (List Nat)} {m a b ca cb : Nat} {σ : L2.St} {H : Hp} {D : Addr} {Qd : Hp → Prop} (wk : WalkJ J S us) (hg : ∀ H2, Same H H2 → S H2) (dp : DpAll K H us (rows.map gd)) (ok : ∀ r ∈ rows, RowOk m r) (fw : Fw rows) (am : a < m) (bm : b < m) (nD : H D = none) (hu : A.units + 64 < cLine)
    (hw : ∀ x : V, wipe ((wipe σ [5]).set 5 (some x)) [5] = wipe σ [5]) (hx : ∀ x : V, ((wipe σ [5]).set 5 (some x))[5]? = some (some x)) (hca : ∀ x : V, ((wipe σ [5]).set 5 (some x))[ca]? = some (some (.int (a : Int)))) (hcb : ∀ x : V, ((wipe σ [5]).set 5 (some x))[cb]? = some (some (.int (b : Int))))
    (q : ∀ H2 (L : List (Addr × List Int)), Same H (wo H2 D) → H2 D = some (SetTO P w D L) → (L.map (·.2)).Nodup → (∀ k, k ∈ L.map (·.2) ↔ k ∈ rows.map (pr2 a b)) → Qd H2) :
    ∃ W : Nat → Nat → Hp → Prop, (∃ m, W 0 m (upd H D (SC.famT.ob P w D SC.famT.ini))) ∧ ∀ i m H, W i m H → (J.stop i H ∧ Qd H) ∨ (J.go i H ∧ ∃ Nx : Hp → Prop, (∀ H', Nx H' → ∃ m', m' < m ∧ W (i + 1) m' H') ∧ ∀ x H', J.yld i H x H' → gName 5 x (wipe σ [5]) H' fun σ2 H2 => wipe σ2 [5] = wipe σ [5] ∧ tYes σ2 H2 fun b H3 =>
      if b = true then tTup (tCons (tOp (rIxT K) (tVar 5) (tVar ca)) (tCons (tOp (rIxT K) (tVar 5) (tVar cb)) tNil)) σ2 H3 fun y H4 => ∃ (c : List (Addr × List Int)) (z : List Int), H4 D = some (SC.famT.ob P w D c) ∧ SC.famT.pre K A H4 c y z ∧ ∀ c', SC.famT.post c y z c' → Nx (upd H4 D (SC.famT.ob P w D c')) else Nx H3) := by
  have ul : us.length = rows.length := by rw [dps_len dp, List.length_map]
  have fwl : ∀ L : List (Addr × List Int), (L.map (·.2)).Nodup → (∀ k ∈ L.map (·.2), k ∈ rows.map (pr2 a b)) → L.length ≤ 31 := fun L nd h => by
    obtain ⟨B, lB, hB⟩ := fw
    have := subL_len nd (v := B.map (pr2 a b)) fun k hk => by
      obtain ⟨r, hr, e⟩ := List.mem_map.mp (h k hk)
      exact List.mem_map.mpr ⟨r, hB r hr, e⟩
    rw [List.length_map, List.length_map] at this
    omega
  refine sp_J (A := A) (K := K) SC.famT wk (fun j H2 => Same H (wo H2 D) ∧ ∃ L : List (Addr × List Int), H2 D = some (SetTO P w D L) ∧ (∀ p ∈ L, SqT K H2 p.1 (p.2.map V.int)) ∧ (L.map (·.2)).Nodup ∧ (∀ k, k ∈ L.map (·.2) ↔ k ∈ (rows.take j).map (pr2 a b))  ∧ L.length ≤ 31) ⟨?_, [], upd_same, (fun p hp => by cases hp), List.nodup_nil, (fun k => by simp), Nat.zero_le _⟩ (fun j H2 _ z => hg _ (z.1.trans (wo_le D))) ?_ ?_
  · rw [wo_upd]
    exact fun b o e => by rw [wo_ne (ne_of_none e nD)]; exact e
  · rintro j v H2 hv ⟨f1, L, f2, f3, f4, f5, f6⟩
    obtain ⟨r, hr2, dr⟩ := dps_gat dp hv
    have jl := (List.getElem?_eq_some_iff.mp hr2).1
    have rok := ok r (List.mem_of_getElem? hr2)
    obtain ⟨t, rfl, ht⟩ := gd_at dr
    have s2 : Same H H2 := f1.trans (wo_le D)
    have gx : ∀ c, c < m → (nms r)[c]? = some (.int ((r.getD c 0 : Nat) : Int)) := fun c cm => by
      rw [nms, List.getElem?_map, List.getD_eq_getElem?_getD, List.getElem?_eq_getElem (by rw [rok.1]; exact cm)]
      rfl
    refine ⟨hw _, yes_if ⟨_, hx _, _, hca _, t, _, _, _, rfl, rfl, same_t s2 ht, atI_nat (gx a am), _, hx _, _, hcb _, t, _, _, _, rfl, rfl, same_t s2 ht, atI_nat (gx b bm), (by show 2 ≤ sizeLine; decide), fun t2 n2 => ?_⟩⟩
    have s3 : Same H2 (upd H2 t2 (.tup [.int ((r.getD a 0 : Nat) : Int), .int ((r.getD b 0 : Nat) : Int)])) := same_new n2
    have h3 : (upd H2 t2 (.tup [.int ((r.getD a 0 : Nat) : Int), .int ((r.getD b 0 : Nat) : Int)])) t2 = some (.tup ((pr2 a b r).map V.int)) := upd_same
    generalize upd H2 t2 (.tup [.int ((r.getD a 0 : Nat) : Int), .int ((r.getD b 0 : Nat) : Int)]) = H3 at s3 h3
    refine ⟨L, pr2 a b r, s3 _ _ f2, ⟨t2, rfl, .inl (.inl h3), fun p hp => same_t s3 (f3 p hp), hu, by omega⟩, ?_⟩
    rintro c' ⟨x, ex, c1, c2⟩
    cases ex
    have uT : SameT H3 (upd H3 D (SetTO P w D c')) := updS_T (s3 _ _ f2)
    refine ⟨?_, c', upd_same, ?_⟩
    · rw [wo_upd]
      exact f1.trans (wo_same s3)
    have tk : ∀ k, k ∈ (rows.take (j + 1)).map (pr2 a b) ↔ k ∈ (rows.take j).map (pr2 a b) ∨ k = pr2 a b r := fun k => by
      rw [take1 hr2, List.map_append, List.mem_append]
      simp
    by_cases e : pr2 a b r ∈ L.map (·.2)
    · rw [c1 e]
      refine ⟨fun p hp => sqt_T (c1 e ▸ uT) (same_t s3 (f3 p hp)), f4, fun k => ?_, by omega⟩
      rw [tk, ← f5]
      exact ⟨.inl, fun z => z.elim id fun z => z ▸ e⟩
    · have pm := c2 e
      refine ⟨fun p hp => ?_, ?_, fun k => ?_, ?_⟩
      · rcases List.mem_cons.mp (pm.mem_iff.mp hp) with z | z
        · rw [z]
          exact sqt_T uT (.inl (.inl h3))
        · exact sqt_T uT (same_t s3 (f3 p z))
      · exact (pm.map (·.2)).nodup_iff.mpr (List.nodup_cons.mpr ⟨e, f4⟩)
      · rw [tk, ← f5, (pm.map (·.2)).mem_iff, List.map_cons, List.mem_cons]
        exact ⟨fun z => z.elim .inr .inl, fun z => z.elim .inr .inl⟩
      · exact fwl c' ((pm.map (·.2)).nodup_iff.mpr (List.nodup_cons.mpr ⟨e, f4⟩)) fun k hk => by
          rw [(pm.map (·.2)).mem_iff, List.map_cons, List.mem_cons] at hk
          rcases hk with rfl | hk
          · exact List.mem_map.mpr ⟨r, List.mem_of_getElem? hr2, rfl⟩
          · obtain ⟨z, hz, e⟩ := List.mem_map.mp ((f5 k).mp hk)
            exact List.mem_map.mpr ⟨z, List.mem_of_mem_take hz, e⟩
  · rintro H2 ⟨f1, L, f2, f3, f4, f5, f6⟩
    rw [ul, List.take_length] at f5
    exact q H2 L f1 f2 f4 f5
def spHoM (K : PySem.W.Frag) : Sp := fun vs H Q _ => ∃ (g : Addr) (us : List V) (m : Nat) (rows : List (List Nat)) (v : V) (r : R), vs = [.ref g, v] ∧ SqE K H g us ∧ DpAll K H us (rows.map gd) ∧ (∀ x ∈ rows, RowOk m x) ∧ Fw rows ∧ rows.length ≤ 401 ∧ Dp K H v r.d ∧ r.ok m ∧ ∀ (t : Bool) H', Same H H' → (t = true ↔ HoldsR rows r) → Q (.bl t) H'
section
variable {P : Program} {w : World} {K : PySem.W.Frag} {mg : Str → Option Value} {base : Heap} {kA : Addr}
theorem ok_hoM {f : Addr} {fd : FuncData} {k : Nat} (F : Fun K "holds" "holds" sHo f fd) (T : Glb K mg kA) : FnOk P w K mg base CX0 (k + 1) f fd ["rows", "rule"] (spHoM K) := by
  refine F.ok scHo (fun vs H Q E h => ?_) (fun cdv A outer s H vs Q E hr h => ?_)
  · obtain ⟨g, us, m, rows, v, r, rfl, _⟩ := h
    rfl
  · obtain ⟨g, us, m, rows, v, r, rfl, hg, dp, ok, fw, few, dr, hr2, q⟩ := h
    have n := scHo.nd
    refine ⟨_, (pss_cons (ps_asg (pv 1) (pg_tup rfl (pgs_cons (pg_name (i := 2) n rfl (.inl rfl)) (pgs_cons (pg_name (i := 3) n rfl (.inr rfl)) (pgs_cons (pg_name (i := 4) n rfl (.inr rfl)) pgs_nil)))))
      (pss_cons (ps_if (pt_cmpR op_eq (pv 2) pe_str (nomark _))
        (pss_one (ps_ret (pe_cmpR op_eq (pe_callB (r := rLenI w) call_lenI (by rfl) T.len PySem.boot_len (pa_cons (pe_op (r := SD.rSubK w) SD.op_subK
          (SC.pe_setI (own := [("row", 5)]) (g := gName 5) (tt := tYes) (te := tOp (rIxT K) (tVar 5) (tVar 3)) rfl n (show PI _ _ _ (iSeq K _) from pi_seq (pv 0)) (blkOk_by (N := nHp) (sc := defScope sHo) (by decide +kernel)) (fun _ _ _ _ _ => (pg_name (i := 5) n rfl (.inl rfl))) (fun _ _ _ _ _ => pts_nil) (fun _ _ _ _ _ => (pe_ix ix_tup (pv 5) (pv 3) (fun _ _ => rfl))))
          (SC.pe_setI (own := [("row", 5)]) (g := gName 5) (tt := tYes) (te := tOp (rIxT K) (tVar 5) (tVar 4)) rfl n (show PI _ _ _ (iSeq K _) from pi_seq (pv 0)) (blkOk_by (N := nHp) (sc := defScope sHo) (by decide +kernel)) (fun _ _ _ _ _ => (pg_name (i := 5) n rfl (.inl rfl))) (fun _ _ _ _ _ => pts_nil) (fun _ _ _ _ _ => (pe_ix ix_tup (pv 5) (pv 4) (fun _ _ => rfl))))) pa_nil)) pe_int (nomark _))))
        pss_nil)
      (pss_one (ps_ret (pe_cmpR op_eq (pe_callB (r := SC.rLenT P w) SC.call_lenT (by rfl) T.len PySem.boot_len (pa_cons (SC.pe_setP SC.famT (own := [("row", 5)]) (g := gName 5) (tt := tYes) (te := tTup (tCons (tOp (rIxT K) (tVar 5) (tVar 3)) (tCons (tOp (rIxT K) (tVar 5) (tVar 4)) tNil))) rfl n (show PI _ _ _ (iSeq K _) from pi_seq (pv 0)) (blkOk_by (N := nHp) (sc := defScope sHo) (by decide +kernel)) (fun _ _ _ _ _ => (pg_name (i := 5) n rfl (.inl rfl))) (fun _ _ _ _ _ => pts_nil) (fun _ _ _ _ _ => (pe_tup (pa_cons (pe_ix ix_tup (pv 5) (pv 3) (fun _ _ => rfl)) (pa_cons (pe_ix ix_tup (pv 5) (pv 4) (fun _ _ => rfl)) pa_nil))))) pa_nil))
        (pe_callB (r := rLenI w) call_lenI (by rfl) T.len PySem.boot_len (pa_cons (SC.pe_setI (own := [("row", 5)]) (g := gName 5) (tt := tYes) (te := tOp (rIxT K) (tVar 5) (tVar 3)) rfl n (show PI _ _ _ (iSeq K _) from pi_seq (pv 0)) (blkOk_by (N := nHp) (sc := defScope sHo) (by decide +kernel)) (fun _ _ _ _ _ => (pg_name (i := 5) n rfl (.inl rfl))) (fun _ _ _ _ _ => pts_nil) (fun _ _ _ _ _ => (pe_ix ix_tup (pv 5) (pv 3) (fun _ _ => rfl)))) pa_nil)) (nomark _)))))), ?_⟩
    rcases hg with hg | hg
    · obtain ⟨kk, a, b⟩ := r
      obtain ⟨tr, rfl, ht⟩ := dp_r dr
      have aw : a < m := hr2.1
      have bw : b < m := hr2.2.1
      refine ⟨_, rfl, tr, _, rfl, ht, rfl, _, _, rfl, _, _, rfl, _, _, rfl, rfl, ?_⟩
      cases kk with
      | false =>
        refine ⟨_, rfl, rfl, _, rfl, iteT' (decide_eq_true rfl) ?_⟩
        refine ⟨_, rfl, g, rfl, .inl ⟨⟨_, hg⟩, fun D nD => si_colJ (m := m) (c := a) (cs := 3) walkL (fun H2 e => same_l e hg) dp ok (by omega) aw nD (fun _ => rfl) (fun _ => rfl) (fun _ => rfl) fun H1 e1 e2 => ?_⟩⟩
        have s1 : Same H H1 := e1.trans (wo_le D)
        refine ⟨_, rfl, g, rfl, .inl ⟨⟨_, same_l s1 hg⟩, fun D2 nD2 => si_colJ (m := m) (c := b) (cs := 4) walkL (fun H2 e => same_l (s1.trans e) hg) (dps_same s1 _ _ dp) ok (by omega) bw nD2 (fun _ => rfl) (fun _ => rfl) (fun _ => rfl) fun H2 f1 f2 => ?_⟩⟩
        have s2 : Same H1 H2 := f1.trans (wo_le D2)
        have la : dn (colN rows a) ≤ 31 := fw.dn a
        have sm : dn (colN rows a) / 4 ≤ dn (colN rows b) ∨ 1 ≤ dn (colN rows b) ∧ dn (colN rows a) ≤ 31 := by
          cases rows with
          | nil => exact .inl (by simp [colN, dn, firsts])
          | cons x rows =>
            have hm : x.getD b 0 ∈ colN (x :: rows) b := List.mem_map.mpr ⟨x, List.mem_cons_self, rfl⟩
            exact .inr ⟨dn_pos hm, la⟩
        refine ⟨D, D2, _, _, _, _, rfl, rfl, s2 _ _ e2, f2, sm, fun p n1 np le iff => ?_⟩
        refine ⟨p, _, n1, rfl, upd_same, by omega, rfl, ?_⟩
        refine q _ _ (s1.trans (s2.trans (same_new np))) ?_
        rw [decide_eq_true_iff, ← within_iff, ← iff]
        exact ⟨fun h => by injection h with h; omega, fun h => by rw [h]; rfl⟩
      | true =>
        refine ⟨_, rfl, rfl, _, rfl, iteF' (decide_eq_false (show ¬ V.str (kd true) = V.str "within" by decide +kernel)) ?_⟩
        have hu64 : (A.deeper (PyProof.Rows.envOfC (Str.ofString "holds") (defScope sHo) s.heap.objs.size f cdv)).units + 64 < cLine := by
          have := hr.un
          omega
        refine ⟨_, rfl, g, rfl, .inl ⟨⟨_, hg⟩, fun D nD => sp_pairsJ (m := m) (a := a) (b := b) (ca := 3) (cb := 4) walkL (fun H2 e => same_l e hg) dp ok fw aw bw nD hu64 (fun _ => rfl) (fun _ => rfl) (fun _ => rfl) (fun _ => rfl) fun H1 L e1 e2 nd mem => ?_⟩⟩
        have s1 : Same H H1 := e1.trans (wo_le D)
        refine ⟨D, L, rfl, e2, ?_⟩
        refine ⟨_, rfl, g, rfl, .inl ⟨⟨_, same_l s1 hg⟩, fun D2 nD2 => si_colJ (m := m) (c := a) (cs := 3) walkL (fun H2 e => same_l (s1.trans e) hg) (dps_same s1 _ _ dp) ok (by omega) aw nD2 (fun _ => rfl) (fun _ => rfl) (fun _ => rfl) fun H2 f1 f2 => ?_⟩⟩
        have s2 : Same H1 H2 := f1.trans (wo_le D2)
        have la : dn (colN rows a) ≤ 31 := fw.dn a
        refine ⟨D2, _, _, rfl, f2, by omega, rfl, ?_⟩
        refine q _ _ (s1.trans s2) ?_
        rw [decide_eq_true_iff, ← pairs_iff nd mem, List.length_map]
        exact ⟨fun h => by injection h with h; omega, fun h => by rw [h]⟩
    · obtain ⟨kk, a, b⟩ := r
      obtain ⟨tr, rfl, ht⟩ := dp_r dr
      have aw : a < m := hr2.1
      have bw : b < m := hr2.2.1
      refine ⟨_, rfl, tr, _, rfl, ht, rfl, _, _, rfl, _, _, rfl, _, _, rfl, rfl, ?_⟩
      cases kk with
      | false =>
        refine ⟨_, rfl, rfl, _, rfl, iteT' (decide_eq_true rfl) ?_⟩
        refine ⟨_, rfl, g, rfl, .inr ⟨⟨_, hg⟩, fun D nD => si_colJ (m := m) (c := a) (cs := 3) walkT (fun H2 e => same_t e hg) dp ok (by omega) aw nD (fun _ => rfl) (fun _ => rfl) (fun _ => rfl) fun H1 e1 e2 => ?_⟩⟩
        have s1 : Same H H1 := e1.trans (wo_le D)
        refine ⟨_, rfl, g, rfl, .inr ⟨⟨_, same_t s1 hg⟩, fun D2 nD2 => si_colJ (m := m) (c := b) (cs := 4) walkT (fun H2 e => same_t (s1.trans e) hg) (dps_same s1 _ _ dp) ok (by omega) bw nD2 (fun _ => rfl) (fun _ => rfl) (fun _ => rfl) fun H2 f1 f2 => ?_⟩⟩
        have s2 : Same H1 H2 := f1.trans (wo_le D2)
        have la : dn (colN rows a) ≤ 31 := fw.dn a
        have sm : dn (colN rows a) / 4 ≤ dn (colN rows b) ∨ 1 ≤ dn (colN rows b) ∧ dn (colN rows a) ≤ 31 := by
          cases rows with
          | nil => exact .inl (by simp [colN, dn, firsts])
          | cons x rows =>
            have hm : x.getD b 0 ∈ colN (x :: rows) b := List.mem_map.mpr ⟨x, List.mem_cons_self, rfl⟩
            exact .inr ⟨dn_pos hm, la⟩
        refine ⟨D, D2, _, _, _, _, rfl, rfl, s2 _ _ e2, f2, sm, fun p n1 np le iff => ?_⟩
        refine ⟨p, _, n1, rfl, upd_same, by omega, rfl, ?_⟩
        refine q _ _ (s1.trans (s2.trans (same_new np))) ?_
        rw [decide_eq_true_iff, ← within_iff, ← iff]
        exact ⟨fun h => by injection h with h; omega, fun h => by rw [h]; rfl⟩
      | true =>
        refine ⟨_, rfl, rfl, _, rfl, iteF' (decide_eq_false (show ¬ V.str (kd true) = V.str "within" by decide +kernel)) ?_⟩
        have hu64 : (A.deeper (PyProof.Rows.envOfC (Str.ofString "holds") (defScope sHo) s.heap.objs.size f cdv)).units + 64 < cLine := by
          have := hr.un
          omega
        refine ⟨_, rfl, g, rfl, .inr ⟨⟨_, hg⟩, fun D nD => sp_pairsJ (m := m) (a := a) (b := b) (ca := 3) (cb := 4) walkT (fun H2 e => same_t e hg) dp ok fw aw bw nD hu64 (fun _ => rfl) (fun _ => rfl) (fun _ => rfl) (fun _ => rfl) fun H1 L e1 e2 nd mem => ?_⟩⟩
        have s1 : Same H H1 := e1.trans (wo_le D)
        refine ⟨D, L, rfl, e2, ?_⟩
        refine ⟨_, rfl, g, rfl, .inr ⟨⟨_, same_t s1 hg⟩, fun D2 nD2 => si_colJ (m := m) (c := a) (cs := 3) walkT (fun H2 e => same_t (s1.trans e) hg) (dps_same s1 _ _ dp) ok (by omega) aw nD2 (fun _ => rfl) (fun _ => rfl) (fun _ => rfl) fun H2 f1 f2 => ?_⟩⟩
        have s2 : Same H1 H2 := f1.trans (wo_le D2)
        have la : dn (colN rows a) ≤ 31 := fw.dn a
        refine ⟨D2, _, _, rfl, f2, by omega, rfl, ?_⟩
        refine q _ _ (s1.trans s2) ?_
        rw [decide_eq_true_iff, ← pairs_iff nd mem, List.length_map]
        exact ⟨fun h => by injection h with h; omega, fun h => by rw [h]⟩
end
end CC
namespace CC
open PySem L2 TL
/-- what is known of an own exception's class -/
structure ExcK (K : PySem.W.Frag) (mg : Str → Option Value) (x : Str) (C : Addr) : Prop where
  g : mg x = some (.ref C)
  x : PySem.W.excIn K C [.type "ValueError", .type "Exception", .type "BaseException", .type "object"] "ValueError.__new__" = true
  k : PySem.W.keepIn K (.ref C) = true
  b : PySem.W.subIn K (.ref C) (.type "BaseException") = some true
  t : PySem.W.typeIn K (.ref C) = some (.type "type")
end CC
namespace CC
open PySem L2 TL
abbrev sTW : Stmt := inClass (tp 27) 1
section
variable {P : Program} {w : World} {K : PySem.W.Frag} {mg : Str → Option Value} {base : Heap} {kA : Addr}
theorem scTW : FnScope ["self"] ["self"] (defScope sTW) := ⟨rfl, rfl, rfl, by decide +kernel, rfl, by decide +kernel, by decide +kernel⟩
theorem ok_tw {f C : Addr} {fd : FuncData} {k : Nat} (F : Fun K "width" "Table.width" sTW f fd) (TC : TxtT K mg C) : FnOk P w K mg base CX0 (k + 1) f fd ["self"] (getSp C "span") := by
  refine F.ok scTW (fun vs H Q E h => ?_) (fun cdv A outer s H vs Q E hr h => ?_)
  · obtain ⟨a, dx, fs, v, rfl, _⟩ := h
    rfl
  · obtain ⟨a, dx, fs, v, rfl, ea, l, q⟩ := h
    exact ⟨_, pss_one (ps_ret (pe_fld (pv 0) rfl)), _, rfl, a, C, dx, fs, v, rfl, ea, TC.cl, TC.nS, l, q⟩
end
end CC
namespace CC
open PySem L2 TL
abbrev sTR : Stmt := inClass (tp 27) 2
section
variable {P : Program} {w : World} {K : PySem.W.Frag} {mg : Str → Option Value} {base : Heap} {kA : Addr}
theorem scTRo : FnScope ["self"] ["self"] (defScope sTR) := ⟨rfl, rfl, rfl, by decide +kernel, rfl, by decide +kernel, by decide +kernel⟩
theorem ok_trows {f C : Addr} {fd : FuncData} {k : Nat} (F : Fun K "rows" "Table.rows" sTR f fd) (TC : TxtT K mg C) : FnOk P w K mg base CX0 (k + 1) f fd ["self"] (getSp C "lines") := by
  refine F.ok scTRo (fun vs H Q E h => ?_) (fun cdv A outer s H vs Q E hr h => ?_)
  · obtain ⟨a, dx, fs, v, rfl, _⟩ := h
    rfl
  · obtain ⟨a, dx, fs, v, rfl, ea, l, q⟩ := h
    exact ⟨_, pss_one (ps_ret (pe_fld (pv 0) rfl)), _, rfl, a, C, dx, fs, v, rfl, ea, TC.cl, TC.nL, l, q⟩
end
end CC
namespace CC
open PySem L2 TL
/-- a method that may raise -/
structure MthX (P : Program) (w : World) (K : PySem.W.Frag) (mg : Str → Option Value) (base : Heap) (C : Addr) (n : Str) (ps : List Str) (sp : Sp) (l : Nat) where
  f : Addr
  fd : FuncData
  m : Meth K C n f
  ok : ∀ k, l ≤ k → FnOk P w K mg base (L2.CX P w) k f fd ps sp
  b : Binds K fd ps []
/-- which exception check raises, if any -/
abbrev Ck := Nat → List R → List (List Nat) → Option Addr
/-- check(rows), rows a tuple of rows -/
def spCk (K : PySem.W.Frag) (C CR CT : Addr) (ck : Ck) : Sp := fun vs H Q E => ∃ (x r q g : Addr) (w : Nat) (rs : List R) (rows0 rows : List (List Nat)) (n : Nat) (us : List V), vs = [.ref x, .ref g] ∧ LogAt K C CR CT H x r q w rs rows0 n ∧ SqT K H g us ∧ DpAll K H us (rows.map gd) ∧ (∀ s ∈ rows, RowOk w s) ∧ rows.length ≤ 15 ∧ (∀ r ∈ rs, r.ok w) ∧ rs.length ≤ 60 ∧
  (∀ c, ck w rs rows = some c → ∀ H', Same H H' → E (.ref c) none H') ∧ (ck w rs rows = none → ∀ H', Same H H' → Q .non H')
/-- log.assign_table(t), t a table of the log's width -/
def spLAss (K : PySem.W.Frag) (C CR CT : Addr) (ck : Ck) : Sp := fun vs H Q E => ∃ (x r q t : Addr) (w : Nat) (rs : List R) (rows0 rows : List (List Nat)) (n : Nat), vs = [.ref x, .ref t] ∧ LogAt K C CR CT H x r q w rs rows0 n ∧ TableAt K CT H t w rows ∧ (∀ s ∈ rows, RowOk w s) ∧ rows.length ≤ 15 ∧ (∀ r ∈ rs, r.ok w) ∧ rs.length ≤ 60 ∧ n < 1000 ∧
  (∀ c, ck w rs rows = some c → ∀ H', Same H H' → E (.ref c) none H') ∧ (ck w rs rows = none → LogTo K C CR CT H x r q w rs rows (n + 1) Q)
/-- what change leaves, where the table was there before -/
theorem changedT {K : PySem.W.Frag} {C CR CT : Addr} {H H2 : Hp} {x r q dx t t' : Addr} {w n : Nat} {rs : List R} {rows rows' : List (List Nat)} {hs : List V} {Q : VK} (L : LogAt K C CR CT H x r q w rs rows n) (s02 : Same H H2) (hx : H x = some (.ins C dx (fldL r t q))) (hq : H q = some (.lst hs)) (hl : hs.length = n) (tt : TableAt K CT H t' w rows') (ne : t' ≠ x) (to : LogTo K C CR CT H x r q w rs rows' (n + 1) Q) : Q .non (upd (upd H2 q (.lst (hs ++ [.ref t]))) x (.ins C dx (fldL r t' q))) := by
  have xq := L.ne
  have key : Same (wos H2 [x, q]) (wos (upd (upd H2 q (.lst (hs ++ [.ref t]))) x (.ins C dx (fldL r t' q))) [x, q]) := fun b o e => by
    obtain ⟨n1, e⟩ := wos_at e
    have bx : b ≠ x := fun z => n1 (by simp [z])
    have bq : b ≠ q := fun z => n1 (by simp [z])
    rw [wos_in n1, upd_ne bx, upd_ne bq]
    exact e
  refine to _ (fun b o e n1 => ?_) ⟨⟨dx, t', upd_same, ?_⟩, L.book.same (((Kp.of s02).same).trans key), hs ++ [.ref t], ?_, by rw [List.length_append, hl]; rfl⟩
  · have bx : b ≠ x := fun z => n1 (by simp [z])
    have bq : b ≠ q := fun z => n1 (by simp [z])
    rw [upd_ne bx, upd_ne bq]
    exact s02 _ _ e
  · obtain ⟨dt, g, us, h1, h2, h3⟩ := tt.same s02
    have a2 : t' ≠ q := ne_of h1 (s02 _ _ hq) (by intro z; cases z)
    have a3 : g ≠ x := ne_of h2 (s02 _ _ hx) (by intro z; cases z)
    have a4 : g ≠ q := ne_of h2 (s02 _ _ hq) (by intro z; cases z)
    refine TableAt.same ⟨dt, g, us, ?_, ?_, gds_T (wos2_T (s02 _ _ hx) (s02 _ _ hq)) h3⟩ key
    · rw [wos_in (by simp [ne, a2])]
      exact h1
    · rw [wos_in (by simp [a3, a4])]
      exact h2
  · rw [upd_ne xq.symm]
    exact upd_same
section
variable {P : Program} {w : World} {K : PySem.W.Frag} {mg : Str → Option Value} {base : Heap} {kA : Addr}
end
end CC
/-! a layer above the hand layer: defs that are called where nothing is being shown (no repr of a container is under way) -/
namespace GD
open PySem PySem.Spec PyProof.Rows L2
abbrev Calm (A : Around) : Prop := A.guards = some []
/-- a def's promise, where nothing is being shown -/
structure FnG (P : Program) (w : World) (K : PySem.W.Frag) (mg : Str → Option Value) (base : Heap) (CX : CXT) (k : Nat) (f : Addr) (fd : FuncData) (ps : List Str) (sp : Sp) : Prop where
  few : ∀ vs H Q E, sp vs H Q E → vs.length = ps.length
  goes : ∀ (A : Around) (out : List Env) (s : Shared) (H : Hp) (args : Args) (us : List Value) (vs : List V) (Q : VK) (E : XK), Calm A → Room k A → Env0 P w K mg base A out s H → BindsTo s fd args (ps.zip us) → Vals vs us → sp vs H Q E → codeAny (model P w) A (.call (.ref f) args) (CR CX out P w H s Q E) s
section
variable {P : Program} {w : World} {K : PySem.W.Frag} {mg : Str → Option Value} {base : Heap} {CX : CXT} {k : Nat} {f : Addr} {fd : FuncData} {ps : List Str} {sp : Sp}
theorem FnG.of (F : FnOk P w K mg base CX k f fd ps sp) : FnG P w K mg base CX k f fd ps sp := ⟨F.len, fun A out s H args us vs Q E _ hr e0 hb r h => F.run A out s H args us vs Q E hr e0 hb r h⟩
/-- the rule for a def by its body -/
theorem fun_okG {x q : Str} {st : Stmt} {N : List Str} (F : Fun K x q st f fd) (S : FnScope N ps (defScope st)) (few : ∀ vs H Q E, sp vs H Q E → vs.length = ps.length)
    (body : ∀ (cd : Value) (A : Around) (out : List Env) (s : Shared) (H : Hp) (vs : List V) (Q : VK) (E : XK), Calm (A.deeper (envOfC q (defScope st) s.heap.objs.size f cd)) → Room k (A.deeper (envOfC q (defScope st) s.heap.objs.size f cd)) → sp vs H Q E →
      ∃ t, PSs (cxOf CX0 P w K mg base N q (defScope st) f cd A out s H E).nox (defBody st) t ∧ t { nx := fun _ H' => Q .non H', rt := Q } (start N vs) H) : FnG P w K mg base CX0 (k + 1) f fd ps sp := by
  obtain ⟨oc, od, kV, doc, pm, an, cd, ct, osl, rfl, look, hcd⟩ := F.ex
  constructor
  · exact few
  intro A out s H args us vs Q E calm room e0 bound rel wish
  have keep : ∀ b o, base.get? b = some o → s.heap.get? b = some o := fun b o e => (e0.bs b o e).1
  have inK := e0.mod.kin.keeps keep
  have noL := e0.mod.nolimit.keeps keep
  have size := few _ _ _ _ wish
  refine codeAny_call_function room.depth (inK _ _ look) rfl S.co S.gen rfl (PySem.W.codeRec_of inK hcd) (bound _ _ _ _ ?_)
  refine wpAny_newFunctionEnv_cells S.kind (fun y hy => ?_) fun env he s1 x => ?_
  · rcases S.par y.1 (List.of_mem_zip hy).1 with z | z
    · exact .inl z
    · exact .inr ⟨z, PySem.W.cellsFrom_some _ _ _ (.inl z)⟩
  subst he
  refine ⟨noL.keeps x.toInCall.keep, codeAny_func ?_⟩
  obtain ⟨t, d, r⟩ := body cd A out s H vs Q E calm (room.deeper _) wish
  have J := inv_start (CX := CX0) (E := E) S room.hd e0 size rel x
  refine wpAny_mono (d.nox.run [] s1 (start N vs) H _ J r) (fun fl s2 z => ?_) fun _ _ z => z
  cases fl with
  | brk => exact z.elim fun _ z => z.elim fun _ z => z.2.elim
  | cont => exact z.elim fun _ z => z.elim fun _ z => z.2.elim
  | next =>
    obtain ⟨τ, H2, J2, q⟩ := z
    exact ⟨.non, H2, J2.os, J2.bare, J2.base, J2.hok, rfl, q⟩
  | ret u =>
    obtain ⟨v, τ, H2, J2, rv, q⟩ := z
    exact ⟨v, H2, J2.os, J2.bare, J2.base, J2.hok, rv, q⟩
end
section
variable {X : Cx} {CX : CXT} {k : Nat} {f : Addr} {fd : FuncData} {ps : List Str} {sp : Sp} {E : XK} {x : Str} {p pos : Pos} {e : Expr} {es : List Expr} {t : TA}
theorem pe_callG (F : FnG X.prog X.w X.K X.mg X.base CX k f fd ps sp) (calm : Calm X.A) (room : Room k X.A) (gl : Gl X x) (at_ : X.mg x = some (.ref f)) (kp : PySem.W.keepIn X.K (.ref f) = true) (b : Binds X.K fd ps []) (hx : Passes CX X E) (ha : PA X (e :: es) t)
    (hd : (x == ("__debug__" : Str)) = false := by decide) (h1 : starEach (e :: es) X.env = (false, eval e X.env) :: starEach es X.env := by rfl) (h2 : (backTo pos (starEach es X.env)).any (·.1) = false := by rfl) : PE X (.Call (.Name x p) (e :: es) [] pos) (tCall sp [] E t) := by
  constructor
  intro pins s σ H Q I h
  refine wpAny_Call_Name_kw (ld_glob I gl at_ (PySem.W.callWith_K (h₀ := X.base) I.ok.mod.kin kp (thn (ha.run pos pins s σ H _ I h) fun us s1 z => ?_) h1 h2) hd)
  obtain ⟨vs, H1, I1, r, q⟩ := z
  refine ⟨I1.kIn, ?_⟩
  rw [List.append_nil] at q
  have hl : us.length = ps.length := by
    rw [← r.length]
    exact F.few _ _ _ _ q
  have hb := b s1 us I1.kIn (by rw [List.append_nil]; exact hl)
  rw [List.append_nil] at hb
  refine wpAny_call (codeAny_mono (F.goes X.A X.stack s1 H1 ⟨us, []⟩ us vs Q E calm room I1.env0 hb r q) fun fin s2 z => ?_)
  match fin, z with
  | .error err, z => exact hx pins σ H1 s1 err s2 I1 z
  | .ok (.ret u), z => exact I1.after z
  | .ok .next, z => exact z.elim
  | .ok .brk, z => exact z.elim
  | .ok .cont, z => exact z.elim
/-- repr(x), x data -/
theorem call_reprD (calm : Calm X.A) (hu : X.A.units + 66 < cLine) : CallR X (.builtin "repr") (fun xs H Q => ∃ v d, xs = [v] ∧ Dp X.K H v d ∧ d.showable = true ∧ d.hasDict = false ∧ d.depth ≤ 64 ∧ d.shown.length ≤ sizeLine ∧ Q (.str d.shown) H) := by
  intro pins s σ H xs us Q I r h
  obtain ⟨v, d, rfl, hd, h1, h2, h3, h4, q⟩ := h
  obtain ⟨u, rfl, rv⟩ := vals1 r
  obtain ⟨as, rd⟩ := Dp.reads I d v u hd rv
  cases hd with
  | non =>
    cases rv
    exact PySem.P.repr_of_none ⟨.str _, H, I.tok _, ⟨_, rfl⟩, q⟩
  | bl b =>
    cases rv
    exact PySem.P.repr_of_bool ⟨.str _, H, I.tok _, ⟨_, rfl⟩, q⟩
  | int i =>
    obtain ⟨t, rfl⟩ := rv
    exact PySem.P.repr_of_int (by simpa [PyData.showable] using h1) ⟨.str _, H, I.tok _, ⟨_, rfl⟩, q⟩
  | str x =>
    obtain ⟨t, rfl⟩ := rv
    exact PySem.P.repr_of_str ⟨.str _, H, I.tok _, ⟨_, rfl⟩, q⟩ h4
  | lst hs ha =>
    cases rv
    exact repr_of_reads' rd h1 (PyData.noDict_hsm h2) calm (by omega) (fun _ _ e => e) (fun h' u tk hk => ⟨.str _, H, I.kept hk, ⟨_, rfl⟩, q⟩) h4
  | tup hs ha =>
    cases rv
    exact repr_of_reads' rd h1 (PyData.noDict_hsm h2) calm (by omega) (fun _ _ e => e) (fun h' u tk hk => ⟨.str _, H, I.kept hk, ⟨_, rfl⟩, q⟩) h4
end
/-- the law's call, at the heap behind the top -/
theorem law_callG {P : Program} {w : World} {K : PySem.W.Frag} {mg mb : Str → Option Value} {CX : CXT} {k : Nat} {fa a : Addr} {fd : FuncData} {x : Str} {sp : Sp} {s : Shared} {vs : List Value} {ns : List Int}
    (inK : K.In s.heap) (nsM : s.heap.Ns mainGlobals mg) (nsB : s.heap.Ns builtinsNs mb) (boot : ∀ x : Str, x ≠ "__name__" → mb x = bootBuiltins x) (noL : s.heap.NoLimit) (gens : s.gens = #[])
    (ha : s.heap.get? a = some { cls := .type "list", data := .seq vs.toArray }) (hin : IntsAre vs ns) (few : ns.length ≤ sizeLine) (room : Room k callerA)
    (F : ∀ base : Heap, K.In base → base.Ns mainGlobals mg → FnG P w K mg base CX k fa fd [x] sp) (bind : ∀ (s : Shared) (u : Value), BindsTo s fd ⟨[u], []⟩ [(x, u)])
    (wish : ∀ H : Hp, Only H → SqL K H a (ns.map V.int) → sp [.ref a] H (fun v _ => v = .bl true) fun _ _ _ => False) (noX : ∀ H e s', CX [] H s (fun _ _ _ => False) e s' → False) :
    codeAny (model P w) callerA (.call (.ref fa) ⟨[.ref a], []⟩) (fun r s' => r = .ok (.ret (.bool true)) ∧ OldK s.heap s'.heap ∧ s'.os = s.os ∧ AllBare s'.gens) s := by
  have go : ∀ H : Hp, Only H → SqL K H a (ns.map V.int) → HOk P w H s.heap → (∀ b, b ≠ a → H b = none) → (K.lookup a = none ∨ H a = none) →
      codeAny (model P w) callerA (.call (.ref fa) ⟨[.ref a], []⟩) (fun r s' => r = .ok (.ret (.bool true)) ∧ OldK s.heap s'.heap ∧ s'.os = s.os ∧ AllBare s'.gens) s := by
    intro H only sq hok off way
    have up : ∀ {b : Addr} {o : Obj}, s.heap.get? b = some o → H b = none → (hidT s.heap H).get? b = some o := fun e n => hidT_get e n
    have notA : ∀ {b : Addr} {o : Obj} {es : Array DictEntry} {n : Nat}, s.heap.get? b = some o → o.data = .dict es n → H b = none := fun {b o es n} e d => by
      by_cases z : b = a
      · rw [z, ha] at e
        cases e
        cases (show Data.seq vs.toArray _ = Data.dict es n from d)
      · exact off b z
    have lift : ∀ {b : Addr} {m : Str → Option Value}, s.heap.Ns b m → (hidT s.heap H).Ns b m := fun ⟨o, es, n, e, d, r⟩ => ⟨o, es, n, up e (notA e d), d, r⟩
    have inB : K.In (hidT s.heap H) := fun b o e => up (inK b o e) (by
      by_cases z : b = a
      · rcases way with z2 | z2
        · rw [z, z2] at e
          cases e
        · rw [z]
          exact z2
      · exact off b z)
    obtain ⟨mc, l1, l2⟩ := noL
    have e0 : Env0 P w K mg (hidT s.heap H) callerA [] s H := ⟨rfl, ⟨inB, lift nsM, ⟨mb, lift nsB, boot⟩, ⟨mc, lift l1, l2⟩⟩, fun _ _ e => of_hidT e, Nat.le_of_eq (hidT_size _ _), trivial, fun b z => (nomatch (show b ∈ ([] : List Addr) from z)), hok, .of_eq gens⟩
    refine codeAny_mono ((F _ inB (lift nsM)).goes callerA [] s H ⟨[.ref a], []⟩ [.ref a] [.ref a] _ _ rfl room e0 (bind s (.ref a)) (.cons rfl .nil) (wish H only sq)) fun fin s2 z => ?_
    match fin, z with
    | .error err, z => exact (noX H err s2 z).elim
    | .ok .next, z => exact z.elim
    | .ok .brk, z => exact z.elim
    | .ok .cont, z => exact z.elim
    | .ok (.ret u), ⟨v, H2, os, bare, un, hok2, rel, ev⟩ =>
      cases (show v = V.bl true from ev)
      cases (show u = Value.bool true from rel)
      refine ⟨rfl, OldK.of_keep fun b o e => ?_, os, bare⟩
      rcases only b with z | ⟨ob, xs, z⟩
      · exact un.keep b o e z (fun y => nomatch (show b ∈ ([] : List Addr) from y)) (fun y => nomatch y)
      · obtain ⟨e1, _⟩ := hok b _ z
        obtain ⟨e2, _⟩ := hok2 b _ (un.frzs b ob _ z)
        rw [e1] at e
        cases e
        exact e2
  have rel := vals_ints hin
  have lenV := hin.length
  cases look : K.lookup a with
  | some o =>
    have e := inK a o look
    rw [ha] at e
    cases e
    refine go (fun _ => none) (fun _ => .inl rfl) (.inr ⟨_, vs.toArray, _, look, rfl, rfl, rfl, ?_, ?_⟩) (fun b u z => nomatch (show (none : Option HO) = some u from z)) (fun _ _ => rfl) (.inr rfl)
    · rw [List.size_toArray, lenV]
      exact few
    · simpa using rel
  | none =>
    have one : (fun b => if b = a then some (HO.frz { cls := .type "list", data := .seq vs.toArray } (.lst (ns.map V.int))) else none) a = some (HO.frz { cls := .type "list", data := .seq vs.toArray } (.lst (ns.map V.int))) := if_pos rfl
    refine go (fun b => if b = a then some (.frz { cls := .type "list", data := .seq vs.toArray } (.lst (ns.map V.int))) else none) (fun b => ?_) (.inl (.inr ⟨_, one⟩)) (fun b u z => ?_) (fun b hb => if_neg hb) (.inl look)
    · by_cases hb : b = a
      · rw [hb]
        exact .inr ⟨_, _, one⟩
      · exact .inl (if_neg hb)
    · by_cases hb : b = a
      · subst hb
        have z2 := one.symm.trans z
        cases z2
        exact ⟨ha, by rw [List.length_map]; exact few, vs, _, rel, ha⟩
      · have z2 := (if_neg hb).symm.trans z
        cases z2
/-- the goal that k_head leaves, from the law's promise -/
theorem walk_ofG {l : PySem.W.OpenLaw} {n k : Nat} {q : Program} {loose : List Str} {XP : (Str → Option Value) → Heap → Prop} {YP : World → Heap → Prop} {d : DefRec} {K : Params → PySem.W.Frag} {CX : World → CXT} {sp : World → Sp} {x : Str}
    (most : l.most = some n) (few : n ≤ sizeLine) (plain : d.params.defaults = []) (room : Room k callerA) (hY : ∀ (w : World) (h : Heap), YP w h → (K w.params).In h)
    (F : ∀ (w : World) (mg : Str → Option Value) (fa : Addr) (h : Heap), (K w.params).In h → h.Ns mainGlobals mg → mg d.name = some (.ref fa) → ∃ fd : FuncData, (∀ (s : Shared) (u : Value), BindsTo s fd ⟨[u], []⟩ [(x, u)]) ∧ ∀ base : Heap, (K w.params).In base → base.Ns mainGlobals mg → FnG l.prog w (K w.params) mg base (CX w) k fa fd [x] (sp w))
    (wish : ∀ (w : World) (H : Hp) (a : Addr) (ns : List Int), ns.length ≤ n → Only H → SqL (K w.params) H a (ns.map V.int) → sp w [.ref a] H (fun v _ => v = .bl true) fun _ _ _ => False)
    (noX : ∀ (w : World) (H : Hp) (s : Shared) (e : Value) (s' : Shared), CX w [] H s (fun _ _ _ => False) e s' → False) : PySem.W.WalkO q loose XP YP l.row.toRowW d [] (fun f vs => PySem.call f vs) := by
  refine Att.attach_call most plain ?_
  intro w s₀ s mg mb fa o pm cd doc a vs ns G Y _ _ _ hmg hobj hin len gens
  have inK := hY w _ Y
  obtain ⟨fd, bind, ok⟩ := F w mg fa _ inK G.T.g hmg
  exact law_callG inK G.T.g G.T.b G.T.builtins G.T.nolimit gens hobj hin (Nat.le_trans len few) room ok bind (fun H h1 h2 => wish w H a ns len h1 h2) fun H e s' => noX w H s e s'
end GD
/-! the end of a law whose defs make lambdas, where nothing is being shown -/
namespace GD
open PySem PySem.Spec PyProof.Rows L2
abbrev tab0 : Obj := { cls := .none, data := .fields #[] }
theorem law_callGT {P : Program} {w : World} {K : PySem.W.Frag} {mg mb : Str → Option Value} {CX : CXT} {k : Nat} {fa a : Addr} {cs : List (Addr × Addr)} {fd : FuncData} {x : Str} {sp : Sp} {s : Shared} {vs : List Value} {ns : List Int}
    (inK : K.In s.heap) (nsM : s.heap.Ns mainGlobals mg) (nsB : s.heap.Ns builtinsNs mb) (boot : ∀ x : Str, x ≠ "__name__" → mb x = bootBuiltins x) (noL : s.heap.NoLimit) (gens : s.gens = #[])
    (tabs : ∀ p ∈ cs, PySem.W.CodeHd s.heap p.1 p.2 ∧ s.heap.get? p.2 = some tab0) (offK : ∀ p ∈ cs, K.lookup p.2 = none)
    (blt : ∃ (bm : Addr) (ob : Obj), mg "__builtins__" = some (.ref bm) ∧ bm ≠ builtinsNs ∧ s.heap.get? bm = some ob ∧ ob.cls = .type "module" ∧ ob.dict = some builtinsNs ∧ ob.data = .plain)
    (ha : s.heap.get? a = some { cls := .type "list", data := .seq vs.toArray }) (hin : IntsAre vs ns) (few : ns.length ≤ sizeLine) (room : Room k callerA)
    (F : ∀ base : Heap, K.In base → base.Ns mainGlobals mg → (∀ p ∈ cs, LamX.TabB base mg p.1 p.2) → FnG P w K mg base CX k fa fd [x] sp) (bind : ∀ (s : Shared) (u : Value), BindsTo s fd ⟨[u], []⟩ [(x, u)])
    (wish : ∀ H : Hp, (∀ p ∈ cs, H p.2 = some (.tbl #[])) → SqL K H a (ns.map V.int) → sp [.ref a] H (fun v _ => v = .bl true) fun _ _ _ => False) (noX : ∀ H e s', CX [] H s (fun _ _ _ => False) e s' → False) :
    codeAny (model P w) callerA (.call (.ref fa) ⟨[.ref a], []⟩) (fun r s' => r = .ok (.ret (.bool true)) ∧ OldK s.heap s'.heap ∧ s'.os = s.os ∧ AllBare s'.gens) s := by
  let tb : Addr → Prop := fun b => ∃ p ∈ cs, p.2 = b
  have tbd : ∀ b, Decidable (tb b) := fun b => Classical.propDecidable _
  have tbo : ∀ {b : Addr}, tb b → s.heap.get? b = some tab0 := fun {b} ⟨p, hp, e⟩ => by
    rw [← e]
    exact (tabs p hp).2
  have atb : ¬ tb a := fun z => by
    have e := tbo z
    rw [ha] at e
    have e2 := congrArg Obj.data (Option.some.inj e)
    cases (show Data.seq vs.toArray _ = Data.fields #[] from e2)
  have go : ∀ H : Hp, (∀ b, tb b → H b = some (.tbl #[])) → (∀ b, b ≠ a → ¬ tb b → H b = none) → (H a = none ∨ ∃ ob xs, H a = some (.frz ob (.lst xs))) → SqL K H a (ns.map V.int) → HOk P w H s.heap → (K.lookup a = none ∨ H a = none) →
      codeAny (model P w) callerA (.call (.ref fa) ⟨[.ref a], []⟩) (fun r s' => r = .ok (.ret (.bool true)) ∧ OldK s.heap s'.heap ∧ s'.os = s.os ∧ AllBare s'.gens) s := by
    intro H tbH off onA sq hok way
    have up : ∀ {b : Addr} {o : Obj}, s.heap.get? b = some o → H b = none → (hidT s.heap H).get? b = some o := fun e n => hidT_get e n
    have plain : ∀ {b : Addr} {o : Obj}, s.heap.get? b = some o → (∀ us n, o.data ≠ .seq us n) → o.data ≠ .fields #[] → H b = none := fun {b o} e n1 n2 => by
      by_cases za : b = a
      · rw [za, ha] at e
        cases e
        exact absurd rfl (n1 _ _)
      · refine off b za fun z => ?_
        rw [tbo z] at e
        cases e
        exact n2 rfl
    have lift : ∀ {b : Addr} {m : Str → Option Value}, s.heap.Ns b m → (hidT s.heap H).Ns b m := fun ⟨o, es, n, e, d, r⟩ => ⟨o, es, n, up e (plain e (fun us n z => by rw [d] at z; cases z) (fun z => by rw [d] at z; cases z)), d, r⟩
    have inB : K.In (hidT s.heap H) := fun b o e => up (inK b o e) (by
      by_cases za : b = a
      · rcases way with z2 | z2
        · rw [za, z2] at e
          cases e
        · rw [za]
          exact z2
      · refine off b za fun ⟨p, hp, z⟩ => ?_
        rw [← z, offK p hp] at e
        cases e)
    have TB : ∀ p ∈ cs, LamX.TabB (hidT s.heap H) mg p.1 p.2 := fun p hp => by
      obtain ⟨cd, tp⟩ := tabs p hp
      refine ⟨?_, ?_, fun z => ?_⟩
      · obtain ⟨o, us, f1, f2, f3, f4, f5, f6, f7, e1, g1, g2, g3, rest⟩ := cd
        refine ⟨o, us, f1, f2, f3, f4, f5, f6, f7, up e1 (plain e1 (fun us n z => by rw [g2] at z; cases z) (fun z => ?_)), g1, g2, g3, rest⟩
        rw [g2] at z
        cases z
        simp at g3
      · obtain ⟨bm, ob, b1, b2, b3, b4, b5, b6⟩ := blt
        refine ⟨bm, ob, b1, b2, fun z => ?_, fun z => ?_, up b3 (plain b3 (fun us n z => by rw [b6] at z; cases z) (fun z => by rw [b6] at z; cases z)), b4, b5, b6⟩
        · obtain ⟨o, es, ep, e, d, _⟩ := nsM
          rw [z, e] at b3
          cases b3
          rw [d] at b6
          cases b6
        · rw [z, tp] at b3
          cases b3
          cases b6
      · obtain ⟨o, es, ep, e, d, _⟩ := nsM
        rw [z, tp] at e
        cases e
        cases d
    obtain ⟨mc, l1, l2⟩ := noL
    have e0 : Env0 P w K mg (hidT s.heap H) callerA [] s H := ⟨rfl, ⟨inB, lift nsM, ⟨mb, lift nsB, boot⟩, ⟨mc, lift l1, l2⟩⟩, fun _ _ e => of_hidT e, Nat.le_of_eq (hidT_size _ _), trivial, fun b z => (nomatch (show b ∈ ([] : List Addr) from z)), hok, .of_eq gens⟩
    refine codeAny_mono ((F _ inB (lift nsM) TB).goes callerA [] s H ⟨[.ref a], []⟩ [.ref a] [.ref a] _ _ rfl room e0 (bind s (.ref a)) (.cons rfl .nil) (wish H (fun p hp => tbH _ ⟨p, hp, rfl⟩) sq)) fun fin s2 z => ?_
    match fin, z with
    | .error err, z => exact (noX H err s2 z).elim
    | .ok .next, z => exact z.elim
    | .ok .brk, z => exact z.elim
    | .ok .cont, z => exact z.elim
    | .ok (.ret u), ⟨v, H2, os, bare, un, hok2, rel, ev⟩ =>
      cases (show v = V.bl true from ev)
      cases (show u = Value.bool true from rel)
      have kept : ∀ b o, ¬ tb b → s.heap.get? b = some o → s2.heap.get? b = some o := fun b o nb e => by
        have free : H b = none → s2.heap.get? b = some o := fun n => un.keep b o e n (fun y => nomatch (show b ∈ ([] : List Addr) from y)) (fun y => nomatch y)
        by_cases za : b = a
        · rcases onA with z | ⟨ob, xs, z⟩
          · exact free (by rw [za]; exact z)
          · obtain ⟨e1, _⟩ := hok a _ z
            obtain ⟨e2, _⟩ := hok2 a _ (un.frzs a ob _ z)
            rw [za, e1] at e
            cases e
            rw [za]
            exact e2
        · exact free (off b za nb)
      have grew : ∀ b, tb b → ∃ more : Array Value, s2.heap.get? b = some { cls := .none, data := .fields more } := fun b hb => by
        obtain ⟨more, z⟩ := un.tbls b #[] (tbH b hb)
        exact ⟨_, hok2 b _ z⟩
      refine ⟨rfl, ⟨fun b o e => ?_, fun b o e => ?_⟩, os, bare⟩
      · by_cases hb : tb b
        · obtain ⟨more, hm⟩ := grew b hb
          have t0 := tbo hb
          rw [t0] at e
          cases e
          obtain ⟨p, hp, ep⟩ := hb
          rw [← ep] at hm t0 ⊢
          exact .inr (.inl ⟨((tabs p hp).1.tab t0).isCodeTable, rfl, #[], more, rfl, by rw [Array.empty_append]; exact hm⟩)
        · exact .inl (kept b o hb e)
      · by_cases hb : tb b
        · obtain ⟨more, hm⟩ := grew b hb
          exact ⟨_, hm⟩
        · exact ⟨o, kept b o hb e⟩
  have rel := vals_ints hin
  have lenV := hin.length
  cases look : K.lookup a with
  | some o =>
    have e := inK a o look
    rw [ha] at e
    cases e
    refine go (fun b => @ite _ (tb b) (tbd b) (some (.tbl #[])) none) (fun b hb => if_pos hb) (fun b _ hb => if_neg hb) (.inl (if_neg atb)) (.inr ⟨_, vs.toArray, _, look, rfl, rfl, rfl, ?_, ?_⟩) (fun b u z => ?_) (.inr (if_neg atb))
    · rw [List.size_toArray, lenV]
      exact few
    · simpa using rel
    · by_cases hb : tb b
      · have z2 := (if_pos hb).symm.trans z
        cases z2
        exact tbo hb
      · have z2 := (if_neg hb).symm.trans z
        cases z2
  | none =>
    have one : (fun b => if b = a then some (HO.frz { cls := .type "list", data := .seq vs.toArray } (.lst (ns.map V.int))) else @ite _ (tb b) (tbd b) (some (.tbl #[])) none) a = some (HO.frz { cls := .type "list", data := .seq vs.toArray } (.lst (ns.map V.int))) := if_pos rfl
    refine go (fun b => if b = a then some (.frz { cls := .type "list", data := .seq vs.toArray } (.lst (ns.map V.int))) else @ite _ (tb b) (tbd b) (some (.tbl #[])) none) (fun b hb => ?_) (fun b na hb => ?_) (.inr ⟨_, _, one⟩) (.inl (.inr ⟨_, one⟩)) (fun b u z => ?_) (.inl look)
    · exact (if_neg fun z => atb (by rw [← z]; exact hb)).trans (if_pos hb)
    · exact (if_neg na).trans (if_neg hb)
    · by_cases za : b = a
      · subst za
        have z2 := one.symm.trans z
        cases z2
        exact ⟨ha, by rw [List.length_map]; exact few, vs, _, rel, ha⟩
      · by_cases hb : tb b
        · have z2 := ((if_neg za).trans (if_pos hb)).symm.trans z
          cases z2
          exact tbo hb
        · have z2 := ((if_neg za).trans (if_neg hb)).symm.trans z
          cases z2
/-- the goal that k_head leaves, from the law's promise; cs: the defs that make lambdas, by their code objects and tables -/
theorem walk_ofGT {l : PySem.W.OpenLaw} {n k : Nat} {q : Program} {loose : List Str} {XP : (Str → Option Value) → Heap → Prop} {YP : World → Heap → Prop} {d : DefRec} {K : Params → PySem.W.Frag} {CX : World → CXT} {x : Str} {xs : List Str}
    (most : l.most = some n) (few : n ≤ sizeLine) (plain : d.params.defaults = []) (room : Room k callerA) (hY : ∀ (w : World) (h : Heap), YP w h → (K w.params).In h)
    (found : ∀ y ∈ xs, ∃ r, (recsOf q).find? (fun e => e.name == y) = some r)
    (F : ∀ (w : World) (mg : Str → Option Value) (fa : Addr) (h : Heap), (K w.params).In h → h.Ns mainGlobals mg → mg d.name = some (.ref fa) → ∃ (fd : FuncData) (cs : List (Addr × Addr)) (sp : Sp), (∀ p ∈ cs, ∃ y ∈ xs, PySem.W.tabIn (K w.params) y = some p) ∧ (∀ p ∈ cs, (K w.params).lookup p.2 = none) ∧
      (∀ (s : Shared) (u : Value), BindsTo s fd ⟨[u], []⟩ [(x, u)]) ∧ (∀ (H : Hp) (a : Addr) (ns : List Int), ns.length ≤ n → (∀ p ∈ cs, H p.2 = some (.tbl #[])) → SqL (K w.params) H a (ns.map V.int) → sp [.ref a] H (fun v _ => v = .bl true) fun _ _ _ => False) ∧
      ∀ base : Heap, (K w.params).In base → base.Ns mainGlobals mg → (∀ p ∈ cs, LamX.TabB base mg p.1 p.2) → FnG l.prog w (K w.params) mg base (CX w) k fa fd [x] sp)
    (noX : ∀ (w : World) (H : Hp) (s : Shared) (e : Value) (s' : Shared), CX w [] H s (fun _ _ _ => False) e s' → False) : PySem.W.WalkO q loose XP YP l.row.toRowW d [] (fun f vs => PySem.call f vs) := by
  refine Att.attach_callB most plain ?_
  intro w s₀ s mg mb fa o pm cd doc a vs ns G Y _ _ _ hmg hobj hin len _ gens
  have inK := hY w _ Y
  obtain ⟨fd, cs, sp, tbs, offK, bind, wish, ok⟩ := F w mg fa _ inK G.T.g hmg
  refine law_callGT inK G.T.g G.T.b G.T.builtins G.T.nolimit gens (fun p hp => ?_) offK G.T.bmain hobj hin (Nat.le_trans len few) room ok bind (fun H h1 h2 => wish H a ns len h1 h2) fun H e s' => noX w H s e s'
  obtain ⟨y, hy, e⟩ := tbs p hp
  obtain ⟨r, hr⟩ := found y hy
  exact PySem.W.tab_of G.T inK hr (by rw [e])
end GD
namespace GD
open PySem PySem.Spec PyProof.Rows L2
/-- a def of the top whose code object is at c -/
structure FunC (K : PySem.W.Frag) (x q : Str) (st : Stmt) (f : Addr) (fd : FuncData) (c : Addr) : Prop where
  ex : ∃ (oc : Value) (od : Option Addr) (kV doc pm : Value) (an : Option Addr) (ct : Value) (osl : Array (Option Value)),
    fd = PySem.W.fnOf x q (defArgs st) (defBody st) (defScope st) .none kV doc pm an (.ref c) ct ∧ K.lookup f = some ⟨oc, od, .func fd, osl⟩ ∧ PySem.W.codeIn K (.ref c) q = true
  kp : PySem.W.keepIn K (.ref f) = true
section
variable {P : Program} {w : World} {K : PySem.W.Frag} {mg : Str → Option Value} {base : Heap} {k : Nat} {f c : Addr} {fd : FuncData} {ps : List Str} {sp : Sp}
theorem fun_okGC {x q : Str} {st : Stmt} {N : List Str} (F : FunC K x q st f fd c) (S : FnScope N ps (defScope st)) (few : ∀ vs H Q E, sp vs H Q E → vs.length = ps.length)
    (body : ∀ (A : Around) (out : List Env) (s : Shared) (H : Hp) (vs : List V) (Q : VK) (E : XK), Calm (A.deeper (envOfC q (defScope st) s.heap.objs.size f (.ref c))) → Room k (A.deeper (envOfC q (defScope st) s.heap.objs.size f (.ref c))) → sp vs H Q E →
      ∃ t, PSs (cxOf CX0 P w K mg base N q (defScope st) f (.ref c) A out s H E).nox (defBody st) t ∧ t { nx := fun _ H' => Q .non H', rt := Q } (start N vs) H) : FnG P w K mg base CX0 (k + 1) f fd ps sp := by
  obtain ⟨oc, od, kV, doc, pm, an, ct, osl, rfl, look, hcd⟩ := F.ex
  constructor
  · exact few
  intro A out s H args us vs Q E calm room e0 bound rel wish
  have keep : ∀ b o, base.get? b = some o → s.heap.get? b = some o := fun b o e => (e0.bs b o e).1
  have inK := e0.mod.kin.keeps keep
  have noL := e0.mod.nolimit.keeps keep
  have size := few _ _ _ _ wish
  refine codeAny_call_function room.depth (inK _ _ look) rfl S.co S.gen rfl (PySem.W.codeRec_of inK hcd) (bound _ _ _ _ ?_)
  refine wpAny_newFunctionEnv_cells S.kind (fun y hy => ?_) fun env he s1 x => ?_
  · rcases S.par y.1 (List.of_mem_zip hy).1 with z | z
    · exact .inl z
    · exact .inr ⟨z, PySem.W.cellsFrom_some _ _ _ (.inl z)⟩
  subst he
  refine ⟨noL.keeps x.toInCall.keep, codeAny_func ?_⟩
  obtain ⟨t, d, r⟩ := body A out s H vs Q E calm (room.deeper _) wish
  have J := inv_start (CX := CX0) (E := E) S room.hd e0 size rel x
  refine wpAny_mono (d.nox.run [] s1 (start N vs) H _ J r) (fun fl s2 z => ?_) fun _ _ z => z
  cases fl with
  | brk => exact z.elim fun _ z => z.elim fun _ z => z.2.elim
  | cont => exact z.elim fun _ z => z.elim fun _ z => z.2.elim
  | next =>
    obtain ⟨τ, H2, J2, q⟩ := z
    exact ⟨.non, H2, J2.os, J2.bare, J2.base, J2.hok, rfl, q⟩
  | ret u =>
    obtain ⟨v, τ, H2, J2, rv, q⟩ := z
    exact ⟨v, H2, J2.os, J2.bare, J2.base, J2.hok, rv, q⟩
end
end GD
namespace CC
open PySem L2 LamX
/-! the heap without its tables of code objects -/
def isTb : HO → Bool
  | .tbl _ => true
  | _ => false
def nt (H : Hp) : Hp := fun b => (H b).filter fun o => !isTb o
section
variable {H H' : Hp} {K : PySem.W.Frag} {b a : Addr} {o : HO} {xs : List V}
theorem nt_at (e : nt H b = some o) : H b = some o ∧ isTb o = false := by
  unfold nt at e
  rw [Option.filter_eq_some_iff] at e
  exact ⟨e.1, by simpa using e.2⟩
theorem nt_of (e : H b = some o) (n : isTb o = false) : nt H b = some o := by
  unfold nt
  rw [Option.filter_eq_some_iff]
  exact ⟨e, by rw [n]; rfl⟩
theorem nt_le : Same (nt H) H := fun b o e => (nt_at e).1
theorem tb_no (n : isTb o = false) (ps : Array Value) : o ≠ .tbl ps := fun z => by
  rw [z] at n
  cases n
theorem ext_nt (e : ExtN H H') : Same (nt H) (nt H') := fun b o q => by
  obtain ⟨q, n⟩ := nt_at q
  exact nt_of (e b o q (tb_no n)) n
theorem nt_same (e : Same H H') : Same (nt H) (nt H') := ext_nt (ExtN.of e)
theorem sql_nt (h : SqL K H a xs) : SqL K (nt H) a xs := by
  rcases h with (h | ⟨o, h⟩) | h
  · exact .inl (.inl (nt_of h rfl))
  · exact .inl (.inr ⟨o, nt_of h rfl⟩)
  · exact .inr h
theorem sqt_nt (h : SqT K H a xs) : SqT K (nt H) a xs := by
  rcases h with (h | ⟨o, h⟩) | h
  · exact .inl (.inl (nt_of h rfl))
  · exact .inl (.inr ⟨o, nt_of h rfl⟩)
  · exact .inr h
theorem nt_T : SameT H (nt H) := ⟨fun b xs h => nt_of h rfl, fun b o xs h => nt_of h rfl⟩
theorem TableAt.nt {C x : Addr} {w : Nat} {rows : List (List Nat)} (h : TableAt K C H x w rows) : TableAt K C (nt H) x w rows := by
  obtain ⟨dx, g, us, h1, h2, h3⟩ := h
  exact ⟨dx, g, us, nt_of h1 rfl, nt_of h2 rfl, gds_T nt_T h3⟩
theorem TableAt.ext {C x : Addr} {w : Nat} {rows : List (List Nat)} (h : TableAt K C H x w rows) (e : ExtN H H') : TableAt K C H' x w rows := (h.nt.same (ext_nt e)).same nt_le
theorem ext_T (e : ExtN H H') : SameT H H' := ⟨fun b xs h => e _ _ h (tb_no rfl), fun b o xs h => e _ _ h (tb_no rfl)⟩
theorem ext_l (e : ExtN H H') (h : SqL K H a xs) : SqL K H' a xs := same_l ((ext_nt e).trans nt_le) (sql_nt h)
/-- the tables still stand -/
theorem tabs_same {T : List (Addr × Str)} (t : Tabs T H) (e : Same H H') : Tabs T H' := t.ext e
/-- what stands before a lambda's body: a raise leaves it -/
theorem takes_lam {X : Cx} {A : Around} {outer : List Env} {s : Shared} {E : XK} {scope : Scope} {f c' : Addr} : Takes (lamCx X A outer s H E scope f c') (fun cls d _ H' => E cls d H') := takes_of rfl rfl rfl rfl
end
end CC
namespace CC
open PySem L2 LamX
section
variable {H H' : Hp} {K : PySem.W.Frag}
mutual
theorem dp_nt : ∀ (d : PyData) (v : V), Dp K H v d → Dp K (nt H) v d
  | .none, _, h => by cases h; exact .non
  | .bool b, _, h => by cases h; exact .bl b
  | .int i, _, h => by cases h; exact .int i
  | .str x, _, h => by cases h; exact .str x
  | .list ds, _, h => by
    cases h with
    | lst hs ha => exact .lst (sql_nt hs) (dps_nt ds _ ha)
  | .tuple ds, _, h => by
    cases h with
    | tup hs ha => exact .tup (sqt_nt hs) (dps_nt ds _ ha)
  | .dict _, _, h => by cases h
theorem dps_nt : ∀ (ds : List PyData) (vs : List V), DpAll K H vs ds → DpAll K (nt H) vs ds
  | [], _, h => by cases h; exact .nil
  | d :: ds, _, h => by
    cases h with
    | cons h1 h2 => exact .cons (dp_nt d _ h1) (dps_nt ds _ h2)
end
theorem dp_ext (e : ExtN H H') (d : PyData) (v : V) (h : Dp K H v d) : Dp K H' v d := dp_same ((ext_nt e).trans nt_le) d v (dp_nt d v h)
theorem dps_ext (e : ExtN H H') (ds : List PyData) (vs : List V) (h : DpAll K H vs ds) : DpAll K H' vs ds := dps_same ((ext_nt e).trans nt_le) ds vs (dps_nt ds vs h)
theorem ext_lst {b : Addr} {xs : List V} (e : ExtN H H') (h : H b = some (.lst xs)) : H' b = some (.lst xs) := e _ _ h (tb_no rfl)
theorem ext_tup {b : Addr} {xs : List V} (e : ExtN H H') (h : H b = some (.tup xs)) : H' b = some (.tup xs) := e _ _ h (tb_no rfl)
theorem ext_upd {b : Addr} {o : HO} (h : H b = none) : ExtN H (upd H b o) := ExtN.of (same_new h)
end
/-- a def of the top whose code object is known -/
structure DfC (K : PySem.W.Frag) (mg : Str → Option Value) (x : Str) (st : Stmt) (ps : List Str) where
  f : Addr
  fd : FuncData
  c : Addr
  F : GD.FunC K x x st f fd c
  b : Binds K fd ps []
  g : mg x = some (.ref f)
end CC
namespace CC
open PySem L2 TL LamX PyProof.Rows
theorem new_view' {H : Hp} {p : Addr} {o : HO} (h : H p = none) : Same H (wo (upd H p o) p) := fun b u e => by
  rw [wo_ne (ne_of_none e h), upd_ne (ne_of_none e h)]
  exact e
/-- what a law with lambdas keeps: its script, the source, the tables of code objects -/
structure W3 (K : PySem.W.Frag) (Ts : List (Addr × Str)) (H : Hp) (a p : Addr) (ns : List Int) : Prop where
  scr : SqL K (wo H p) a (ns.map V.int)
  src : Src H p
  tab : Tabs Ts H
section
variable {K : PySem.W.Frag} {Ts : List (Addr × Str)} {H H' : Hp} {a p l t : Addr} {ns : List Int} {w v : Nat} {rows : List (List Nat)}
theorem tabs_ran (t : Tabs Ts H) (s : Src H p) (r : Ran H H' p) : Tabs Ts H' := fun q hq => by
  obtain ⟨o, ho, i1, i2, i3, eo, _⟩ := s
  rw [eo] at ho
  obtain ⟨ps, h1, h2, h3⟩ := t q hq
  refine ⟨ps, r.at_ h1 (fun z => by rw [z, ho] at h1; cases h1), h2, fun pos cv hc => ?_⟩
  obtain ⟨c, e1, e2⟩ := h3 pos cv hc
  exact ⟨c, e1, r.at_ e2 (fun z => by rw [z, ho] at e2; unfold CodeO at e2; cases e2)⟩
theorem W3.grow (z : W3 K Ts H a p ns) (e : Same H H') : W3 K Ts H' a p ns := by
  obtain ⟨o, h1, h2⟩ := z.src
  exact ⟨same_l (wo_same e) z.scr, ⟨o, e _ _ h1, h2⟩, z.tab.ext e⟩
theorem W3.run (z : W3 K Ts H a p ns) (r : Ran H H' p) : W3 K Ts H' a p ns := ⟨same_l r.same z.scr, r.src, tabs_ran z.tab z.src r⟩
theorem W3.ext (z : W3 K Ts H a p ns) (e : ExtN H H') (t : Tabs Ts H') : W3 K Ts H' a p ns := by
  obtain ⟨o, h1, h2⟩ := z.src
  obtain ⟨i1, i2, i3, eo, _⟩ := id h2
  refine ⟨same_l (fun b u q => ?_) (sql_nt z.scr), ⟨o, e _ _ h1 (fun ps q => by rw [eo] at q; cases q), h2⟩, t⟩
  obtain ⟨q, n⟩ := nt_at q
  have bp : b ≠ p := fun y => by
    rw [y, wo_at] at q
    cases q
  rw [wo_ne bp] at q ⊢
  exact e _ _ q (tb_no n)
/-- a draw leaves a list of rules -/
theorem RulesAt.run {C r : Addr} {rs : List R} (h : RulesAt K C H r w rs) (s : Src H p) (e : Ran H H' p) : RulesAt K C H' r w rs := by
  obtain ⟨o, hp, z1, z2, z3, rfl, _⟩ := id s
  obtain ⟨dr, gr, ur, r1, r2, r3⟩ := h
  exact ⟨dr, gr, ur, e.at_ r1 (ne_of r1 hp (by intro z; cases z)), (e.T s).tup _ _ r2, rds_T (e.T s) r3⟩
theorem TableAt.run {C r : Addr} (h : TableAt K C H r w rows) (s : Src H p) (e : Ran H H' p) : TableAt K C H' r w rows := by
  obtain ⟨o, hp, z1, z2, z3, rfl, _⟩ := id s
  obtain ⟨dr, gr, ur, r1, r2, r3⟩ := h
  exact ⟨dr, gr, ur, e.at_ r1 (ne_of r1 hp (by intro z; cases z)), (e.T s).tup _ _ r2, gds_T (e.T s) r3⟩
end
end CC
namespace CC
open PySem L2 TL LamX
/-! ### logs of all four classes: with a limit, with the tables that were -/
def lmF : Option Nat → List (Str × V)
  | none => []
  | some m => [("limit", .int (m : Int))]
def fldM (lm : Option Nat) (b h p : Addr) : List (Str × V) := fldL b h p ++ lmF lm
theorem lk_app (a b : List (Str × V)) (m : Str) : (a ++ b).lookup m = match a.lookup m with | some v => some v | none => b.lookup m := by
  induction a with
  | nil => rfl
  | cons x a ih =>
    obtain ⟨y, v⟩ := x
    show ((y, v) :: (a ++ b)).lookup m = _
    rw [List.lookup_cons, List.lookup_cons]
    split
    · rfl
    · exact ih
section
variable (lm : Option Nat) (b h p t : Addr)
theorem fldM_b : (fldM lm b h p).lookup ("book" : Str) = some (.ref b) := by
  unfold fldM
  rw [lk_app, fldL_b]
theorem fldM_h : (fldM lm b h p).lookup ("held" : Str) = some (.ref h) := by
  unfold fldM
  rw [lk_app, fldL_h]
theorem fldM_p : (fldM lm b h p).lookup ("past" : Str) = some (.ref p) := by
  unfold fldM
  rw [lk_app, fldL_p]
theorem fldM_l (m : Nat) : (fldM (some m) b h p).lookup ("limit" : Str) = some (.int (m : Int)) := by
  unfold fldM
  rw [lk_app, fldL_no _ _ _ (by decide +kernel) (by decide +kernel) (by decide +kernel)]
  show ([(("limit" : Str), V.int (m : Int))] : List (Str × V)).lookup ("limit" : Str) = _
  rw [List.lookup_cons, beq_self_eq_true]
theorem fldM_no {m : Str} (h1 : ¬ m = "past") (h2 : ¬ m = "held") (h3 : ¬ m = "book") (h4 : ¬ m = "limit") : (fldM lm b h p).lookup m = none := by
  unfold fldM
  rw [lk_app, fldL_no _ _ _ h1 h2 h3]
  cases lm with
  | none => rfl
  | some k =>
    show ([(("limit" : Str), V.int (k : Int))] : List (Str × V)).lookup m = none
    rw [List.lookup_cons, show (m == ("limit" : Str)) = false from beq_eq_false_iff_ne.mpr h4]
    rfl
theorem fldM_held : putF "held" (.ref t) (fldM lm b h p) = fldM lm b t p := by
  show putF "held" (.ref t) (("book", .ref b) :: ("held", .ref h) :: ("past", .ref p) :: lmF lm) = _
  rw [putF_on n_bh, putF_at]
  rfl
theorem fldM_len : (fldM lm b h p).length < 1000 := by
  cases lm with
  | none => exact (by decide : 3 < 1000)
  | some k => exact (by decide : 4 < 1000)
theorem fldM_lim (m : Nat) : putF "limit" (.int (m : Int)) (fldM none b h p) = fldM (some m) b h p := by
  show putF "limit" (.int (m : Int)) [("book", .ref b), ("held", .ref h), ("past", .ref p)] = _
  rw [putF_on (by decide +kernel), putF_on (by decide +kernel), putF_on (by decide +kernel)]
  rfl
end
/-- the tables that were, by their rows -/
inductive TabsL (K : PySem.W.Frag) (CT : Addr) (H : Hp) (w : Nat) : List V → List (List (List Nat)) → Prop
  | nil : TabsL K CT H w [] []
  | cons {t : Addr} {rows : List (List Nat)} {us : List V} {ps : List (List (List Nat))} : TableAt K CT H t w rows → TabsL K CT H w us ps → TabsL K CT H w (.ref t :: us) (rows :: ps)
section
variable {K : PySem.W.Frag} {CT t : Addr} {H H' : Hp} {w : Nat} {us : List V} {ps : List (List (List Nat))} {rows : List (List Nat)}
theorem TabsL.map (f : ∀ t rows, TableAt K CT H t w rows → TableAt K CT H' t w rows) (h : TabsL K CT H w us ps) : TabsL K CT H' w us ps := by
  induction h with
  | nil => exact .nil
  | cons a _ ih => exact .cons (f _ _ a) ih
theorem TabsL.same (e : Same H H') (h : TabsL K CT H w us ps) : TabsL K CT H' w us ps := h.map fun _ _ a => a.same e
theorem TabsL.len (h : TabsL K CT H w us ps) : us.length = ps.length := by
  induction h with
  | nil => rfl
  | cons _ _ ih => rw [List.length_cons, List.length_cons, ih]
theorem TabsL.snoc (h : TabsL K CT H w us ps) (a : TableAt K CT H t w rows) : TabsL K CT H w (us ++ [.ref t]) (ps ++ [rows]) := by
  induction h with
  | nil => exact .cons a .nil
  | cons b _ ih => exact .cons b ih
theorem TabsL.last (h : TabsL K CT H w us (ps ++ [rows])) : ∃ vs t, us = vs ++ [.ref t] ∧ TabsL K CT H w vs ps ∧ TableAt K CT H t w rows := by
  induction ps generalizing us with
  | nil =>
    cases h with
    | cons a b =>
      cases b
      exact ⟨[], _, rfl, .nil, a⟩
  | cons p ps ih =>
    cases h with
    | cons a b =>
      obtain ⟨vs, t, rfl, h1, h2⟩ := ih b
      exact ⟨_ :: vs, t, rfl, .cons a h1, h2⟩
end
structure LgAt (K : PySem.W.Frag) (C CR CT : Addr) (lm : Option Nat) (H : Hp) (x r q : Addr) (w : Nat) (rs : List R) (rows : List (List Nat)) (ps : List (List (List Nat))) : Prop where
  at_ : ∃ dx t, H x = some (.ins C dx (fldM lm r t q)) ∧ TableAt K CT (wos H [x, q]) t w rows
  book : RulesAt K CR (wos H [x, q]) r w rs
  past : ∃ hs, H q = some (.lst hs) ∧ TabsL K CT (wos H [x, q]) w hs ps
section
variable {K : PySem.W.Frag} {C CR CT : Addr} {lm : Option Nat} {H H' H2 : Hp} {x r q : Addr} {w : Nat} {rs : List R} {rows rows' : List (List Nat)} {ps ps' : List (List (List Nat))}
theorem LgAt.ne (h : LgAt K C CR CT lm H x r q w rs rows ps) : x ≠ q := by
  obtain ⟨dx, t, h1, _⟩ := h.at_
  obtain ⟨hs, h2, _⟩ := h.past
  exact ne_of h1 h2 (by intro z; cases z)
theorem LgAt.keep (h : LgAt K C CR CT lm H x r q w rs rows ps) (e : Same H H') : LgAt K C CR CT lm H' x r q w rs rows ps := by
  obtain ⟨⟨dx, t, h1, h2⟩, h3, ⟨hs, h4, h5⟩⟩ := h
  have k : Same (wos H [x, q]) (wos H' [x, q]) := (Kp.of e).same
  exact ⟨⟨dx, t, e _ _ h1, h2.same k⟩, h3.same k, ⟨hs, e _ _ h4, h5.same k⟩⟩
/-- a draw leaves a log as it is -/
theorem LgAt.ran {p : Addr} (L : LgAt K C CR CT lm H x r q w rs rows ps) (src : Src H p) (qp : q ≠ p) (e : Ran H H' p) : LgAt K C CR CT lm H' x r q w rs rows ps := by
  obtain ⟨o, hp, z1, z2, z3, rfl, _⟩ := id src
  have T := e.T src
  have key : ∀ b o, wos H [x, q] b = some o → o ≠ .lst [.int z1, .int z2, .int z3] → wos H' [x, q] b = some o := fun b o eb no => by
    obtain ⟨nb, eb⟩ := wos_at eb
    rw [wos_in nb]
    exact e.at_ eb fun z => no (by rw [z, hp] at eb; exact (Option.some.inj eb).symm)
  have TT : SameT (wos H [x, q]) (wos H' [x, q]) := ⟨fun b xs e => key b _ e (by intro z; cases z), fun b o xs e => key b _ e (by intro z; cases z)⟩
  have tab : ∀ t rows, TableAt K CT (wos H [x, q]) t w rows → TableAt K CT (wos H' [x, q]) t w rows := fun t rows ⟨dt, gt, ut, t1, t2, t3⟩ => ⟨dt, gt, ut, key _ _ t1 (by intro z; cases z), key _ _ t2 (by intro z; cases z), gds_T TT t3⟩
  obtain ⟨⟨dx, t, h1, h2⟩, ⟨dr, gr, ur, r1, r2, r3⟩, ⟨hs, h4, h5⟩⟩ := L
  exact ⟨⟨dx, t, e.at_ h1 (ne_of h1 hp (by intro z; cases z)), tab _ _ h2⟩, ⟨dr, gr, ur, key _ _ r1 (by intro z; cases z), key _ _ r2 (by intro z; cases z), rds_T TT r3⟩, ⟨hs, e.at_ h4 qp, h5.map tab⟩⟩
/-- a change of the log leaves tuples -/
theorem LgAt.T (L : LgAt K C CR CT lm H x r q w rs rows ps) (k : Kp [x, q] H H') : SameT H H' := by
  obtain ⟨⟨dx, t, h1, _⟩, _, ⟨hs, h4, _⟩⟩ := L
  have T := wos2_T h1 h4
  exact T.trans (same_T k.to)
theorem LgAt.out (L : LgAt K C CR CT lm H x r q w rs rows ps) {b : Addr} {o : HO} (e : H b = some o) (n1 : ∀ C dx t, o ≠ .ins C dx (fldM lm r t q)) (n2 : ∀ hs, o ≠ .lst hs) : b ∉ [x, q] := by
  obtain ⟨dx, t, hx, _⟩ := L.at_
  obtain ⟨hs, hq, _⟩ := L.past
  intro z
  simp only [List.mem_cons, List.not_mem_nil, or_false] at z
  rcases z with z | z
  · rw [z, hx] at e
    exact n1 _ _ _ (Option.some.inj e).symm
  · rw [z, hq] at e
    exact n2 _ (Option.some.inj e).symm
theorem fldT_ne {m : Nat} {g r t q : Addr} : fldT m g ≠ fldM lm r t q := fun z => by
  have := congrArg (fun l => List.lookup ("book" : Str) l) z
  have e : (fldT m g).lookup ("book" : Str) = none := by
    unfold fldT flT0
    rw [lookup_putF, if_neg (by decide +kernel), lookup_putF, if_neg (by decide +kernel)]
    rfl
  simp only [fldM_b, e] at this
  cases this
theorem flds_ne {m : Nat} {g r t q : Addr} : flds m g ≠ fldM lm r t q := fun z => by
  have := congrArg (fun l => List.lookup ("book" : Str) l) z
  rw [flds_no _ _ (by decide +kernel) (by decide +kernel)] at this
  simp only [fldM_b] at this
  cases this
/-- a table beside a log stands when the log changes -/
theorem LgAt.tab {t : Addr} {v : Nat} {rows2 : List (List Nat)} (L : LgAt K C CR CT lm H x r q w rs rows ps) (h : TableAt K CT H t v rows2) : TableAt K CT (wos H [x, q]) t v rows2 := by
  obtain ⟨dt, g, us, h1, h2, h3⟩ := h
  obtain ⟨dx, t0, hx, _⟩ := L.at_
  obtain ⟨hs, hq, _⟩ := L.past
  refine ⟨dt, g, us, ?_, ?_, gds_T (wos2_T hx hq) h3⟩
  · rw [wos_in (L.out h1 (fun _ _ _ z => fldT_ne (by injection z)) (fun _ z => by cases z))]
    exact h1
  · rw [wos_in (L.out h2 (fun _ _ _ z => by cases z) (fun _ z => by cases z))]
    exact h2
theorem LgAt.rul {t : Addr} {v : Nat} {ts : List R} (L : LgAt K C CR CT lm H x r q w rs rows ps) (h : RulesAt K CR H t v ts) : RulesAt K CR (wos H [x, q]) t v ts := by
  obtain ⟨dt, g, us, h1, h2, h3⟩ := h
  obtain ⟨dx, t0, hx, _⟩ := L.at_
  obtain ⟨hs, hq, _⟩ := L.past
  refine ⟨dt, g, us, ?_, ?_, rds_T (wos2_T hx hq) h3⟩
  · rw [wos_in (L.out h1 (fun _ _ _ z => flds_ne (by injection z)) (fun _ z => by cases z))]
    exact h1
  · rw [wos_in (L.out h2 (fun _ _ _ z => by cases z) (fun _ z => by cases z))]
    exact h2
/-- two logs, apart -/
theorem LgAt.apart {C2 CR2 CT2 x2 r2 q2 : Addr} {lm2 : Option Nat} {w2 : Nat} {rs2 : List R} {rows2 : List (List Nat)} {ps2 : List (List (List Nat))} (L : LgAt K C CR CT lm H x r q w rs rows ps) (L2 : LgAt K C2 CR2 CT2 lm2 H x2 r2 q2 w2 rs2 rows2 ps2) (nx : x ≠ x2) (nq : q ≠ q2) : LgAt K C CR CT lm (wos H [x2, q2]) x r q w rs rows ps := by
  obtain ⟨dx, t, h1, h2⟩ := L.at_
  obtain ⟨hs, h4, h5⟩ := L.past
  have xq : x ≠ q2 := by
    obtain ⟨_, z, _⟩ := L2.past
    exact ne_of h1 z (by intro z; cases z)
  have qx : q ≠ x2 := by
    obtain ⟨_, _, z, _⟩ := L2.at_
    exact ne_of h4 z (by intro z; cases z)
  have c : ∀ b o, wos H [x, q] b = some o → b ∉ [x2, q2] → wos (wos H [x2, q2]) [x, q] b = some o := fun b o e n => by
    obtain ⟨nb, e⟩ := wos_at e
    rw [wos_in nb, wos_in n]
    exact e
  have TT : SameT (wos H [x, q]) (wos (wos H [x2, q2]) [x, q]) := ⟨fun b xs e => c b _ e (L2.out (wos_le _ _ _ e) (fun _ _ _ z => by cases z) (fun _ z => by cases z)), fun b o xs e => c b _ e (L2.out (wos_le _ _ _ e) (fun _ _ _ z => by cases z) (fun _ z => by cases z))⟩
  have tab : ∀ t rows, TableAt K CT (wos H [x, q]) t w rows → TableAt K CT (wos (wos H [x2, q2]) [x, q]) t w rows := fun t rows ⟨dt, gt, ut, t1, t2, t3⟩ =>
    ⟨dt, gt, ut, c _ _ t1 (L2.out (wos_le _ _ _ t1) (fun _ _ _ z => fldT_ne (by injection z)) (fun _ z => by cases z)), TT.tup _ _ t2, gds_T TT t3⟩
  obtain ⟨dr, gr, ur, r1, r2', r3⟩ := L.book
  refine ⟨⟨dx, t, ?_, tab _ _ h2⟩, ⟨dr, gr, ur, c _ _ r1 (L2.out (wos_le _ _ _ r1) (fun _ _ _ z => flds_ne (by injection z)) (fun _ z => by cases z)), TT.tup _ _ r2', rds_T TT r3⟩, ⟨hs, ?_, h5.map tab⟩⟩
  · rw [wos_in (by simp [nx, xq])]
    exact h1
  · rw [wos_in (by simp [nq, qx])]
    exact h4
/-- a change of one log leaves the other one -/
theorem LgAt.beside {C2 CR2 CT2 x2 r2 q2 : Addr} {lm2 : Option Nat} {w2 : Nat} {rs2 : List R} {rows2 : List (List Nat)} {ps2 : List (List (List Nat))} (L : LgAt K C CR CT lm H x r q w rs rows ps) (L2 : LgAt K C2 CR2 CT2 lm2 H x2 r2 q2 w2 rs2 rows2 ps2) (nx : x ≠ x2) (nq : q ≠ q2) (k : Kp [x2, q2] H H') : LgAt K C CR CT lm H' x r q w rs rows ps :=
  (L.apart L2 nx nq).keep k.to
theorem LgAt.ext (L : LgAt K C CR CT lm H x r q w rs rows ps) (e : ExtN H H') : LgAt K C CR CT lm H' x r q w rs rows ps := by
  obtain ⟨⟨dx, t, h1, h2⟩, h3, ⟨hs, h4, h5⟩⟩ := L
  have k : ExtN (wos H [x, q]) (wos H' [x, q]) := fun b o h n => by
    obtain ⟨nb, h⟩ := wos_at h
    rw [wos_in nb]
    exact e b o h n
  have rul : RulesAt K CR (wos H' [x, q]) r w rs := by
    obtain ⟨dx, g, us, h1, h2, h3⟩ := h3
    exact ⟨dx, g, us, k _ _ h1 (tb_no rfl), ext_tup k h2, dps_ext k _ _ h3⟩
  exact ⟨⟨dx, t, e _ _ h1 (tb_no rfl), h2.ext k⟩, rul, ⟨hs, ext_lst e h4, h5.map fun _ _ a => a.ext k⟩⟩
/-- a change of a log leaves the tables of code objects -/
theorem LgAt.tabs {Ts : List (Addr × Str)} (L : LgAt K C CR CT lm H x r q w rs rows ps) (t : Tabs Ts H) (k : Kp [x, q] H H') : Tabs Ts H' := fun p hp => by
  obtain ⟨qs, h1, h2, h3⟩ := t p hp
  refine ⟨qs, k _ _ h1 (L.out h1 (fun _ _ _ z => by cases z) (fun _ z => by cases z)), h2, fun pos cv hc => ?_⟩
  obtain ⟨c, e1, e2⟩ := h3 pos cv hc
  exact ⟨c, e1, k _ _ e2 (L.out e2 (fun _ _ _ z => by unfold CodeO at z; cases z) (fun _ z => by unfold CodeO at z; cases z))⟩
/-- the script, the source and the tables of code objects, beside a log -/
theorem LgAt.w3 {Ts : List (Addr × Str)} {a p : Addr} {ns : List Int} (L : LgAt K C CR CT lm H x r q w rs rows ps) (W : W3 K Ts H a p ns) (qp : q ≠ p) (qa : SqL K (wos (wo H p) [x, q]) a (ns.map V.int)) (k : Kp [x, q] H H') : W3 K Ts H' a p ns := by
  obtain ⟨o, s1, s2⟩ := W.src
  have xp : x ≠ p := by
    obtain ⟨dx, t, hx, _⟩ := L.at_
    obtain ⟨z1, z2, z3, rfl, _⟩ := s2
    exact ne_of hx s1 (by intro z; cases z)
  refine ⟨same_l (fun b u e => ?_) qa, ⟨o, k _ _ s1 (by simp [xp.symm, qp.symm]), s2⟩, L.tabs W.tab k⟩
  obtain ⟨n1, e⟩ := wos_at e
  have bp : b ≠ p := fun z => by rw [z, wo_at] at e; cases e
  rw [wo_ne bp] at e ⊢
  exact k _ _ e n1
end
/-- which exception check raises, if any: by the limit, the width, the rules and the rows -/
abbrev CkM := Option Nat → Nat → List R → List (List Nat) → Option Addr
/-- the log at x has changed -/
def LgTo (K : PySem.W.Frag) (C CR CT : Addr) (lm : Option Nat) (H : Hp) (x r q : Addr) (w : Nat) (rs : List R) (rows : List (List Nat)) (ps : List (List (List Nat))) (Q : VK) : Prop := ∀ H', Kp [x, q] H H' → LgAt K C CR CT lm H' x r q w rs rows ps → Q .non H'
/-- what change leaves, where the table may have been there before -/
theorem changedM {K : PySem.W.Frag} {C CR CT : Addr} {lm : Option Nat} {H H2 : Hp} {x r q dx t t' : Addr} {w : Nat} {rs : List R} {rows rows' : List (List Nat)} {ps : List (List (List Nat))} {hs : List V} {Q : VK} (L : LgAt K C CR CT lm H x r q w rs rows ps) (s02 : Same H H2) (hx : H x = some (.ins C dx (fldM lm r t q))) (hq : H q = some (.lst hs)) (tt : TableAt K CT H2 t' w rows') (to : LgTo K C CR CT lm H x r q w rs rows' (ps ++ [rows]) Q) : Q .non (upd (upd H2 q (.lst (hs ++ [.ref t]))) x (.ins C dx (fldM lm r t' q))) := by
  have xq := L.ne
  have L2 := L.keep s02
  have key : Same (wos H2 [x, q]) (wos (upd (upd H2 q (.lst (hs ++ [.ref t]))) x (.ins C dx (fldM lm r t' q))) [x, q]) := fun b o e => by
    obtain ⟨n1, e⟩ := wos_at e
    have bx : b ≠ x := fun z => n1 (by simp [z])
    have bq : b ≠ q := fun z => n1 (by simp [z])
    rw [wos_in n1, upd_ne bx, upd_ne bq]
    exact e
  obtain ⟨dx0, t0, hx0, tt0⟩ := L2.at_
  obtain ⟨hs0, hq0, ht0⟩ := L2.past
  have e1 := s02 _ _ hx
  have e2 := s02 _ _ hq
  rw [e2] at hq0
  cases hq0
  have et : t0 = t := by
    rw [e1] at hx0
    have z := congrArg (fun o => match o with | some (HO.ins _ _ fs) => fs.lookup ("held" : Str) | _ => none) hx0
    simp only [fldM_h] at z
    cases z
    rfl
  subst et
  refine to _ (fun b o e n1 => ?_) ⟨⟨dx, t', upd_same, (L2.tab tt).same key⟩, L2.book.same key, hs ++ [.ref t0], ?_, (ht0.snoc tt0).same key⟩
  · have bx : b ≠ x := fun z => n1 (by simp [z])
    have bq : b ≠ q := fun z => n1 (by simp [z])
    rw [upd_ne bx, upd_ne bq]
    exact s02 _ _ e
  · rw [upd_ne xq.symm]
    exact upd_same
/-- a class of logs -/
structure TxtM (K : PySem.W.Frag) (C : Addr) : Prop where
  cl : Cls K C
  nB : NoAttr K C "book"
  nH : NoAttr K C "held"
  nP : NoAttr K C "past"
  nL : NoAttr K C "limit"
theorem TxtM.c {K : PySem.W.Frag} {C : Addr} (h : TxtM K C) : TxtC K C := ⟨h.cl, h.nB, h.nH, h.nP⟩
end CC
namespace CC
open PySem L2 TL
noncomputable def holdsB (rows : List (List Nat)) (r : R) : Bool := @decide (HoldsR rows r) (Classical.propDecidable _)
theorem holdsB_iff {rows : List (List Nat)} {r : R} : holdsB rows r = true ↔ HoldsR rows r := @decide_eq_true_iff _ (Classical.propDecidable _)
theorem holdsB_of {rows : List (List Nat)} {r : R} {t : Bool} (h : t = true ↔ HoldsR rows r) : holdsB rows r = t := by
  rw [Bool.eq_iff_iff, holdsB_iff]
  exact h.symm
/-- the rules that do not hold -/
noncomputable def brkL (rows : List (List Nat)) (rs : List R) : List R := rs.filter fun r => !holdsB rows r
theorem brkL_len (rows : List (List Nat)) (rs : List R) : (brkL rows rs).length ≤ rs.length := List.length_filter_le _ _
theorem brkL_mem {rows : List (List Nat)} {rs : List R} {r : R} (h : r ∈ brkL rows rs) : r ∈ rs := (List.mem_filter.mp h).1
theorem holds_nil (r : R) : HoldsR [] r := by
  obtain ⟨k, a, b⟩ := r
  cases k with
  | false => exact fun x hx => nomatch hx
  | true => exact fun x hx => nomatch hx
theorem brkL_nil (rs : List R) : brkL [] rs = [] := List.filter_eq_nil_iff.mpr fun r _ => by
  rw [holdsB_iff.mpr (holds_nil r)]
  decide
def spBrk (K : PySem.W.Frag) (CR : Addr) : Sp := fun vs H Q _ => ∃ (r g : Addr) (us : List V) (m : Nat) (rs : List R) (rows : List (List Nat)), vs = [.ref r, .ref g] ∧ RulesAt K CR H r m rs ∧ SqT K H g us ∧ DpAll K H us (rows.map gd) ∧ (∀ x ∈ rows, RowOk m x) ∧ rows.length ≤ 15 ∧ (∀ r ∈ rs, r.ok m) ∧ rs.length ≤ 60 ∧ NewF R.d K H (brkL rows rs) Q
section
variable {P : Program} {w : World} {K : PySem.W.Frag} {mg : Str → Option Value} {base : Heap} {kA : Addr}
abbrev nBrk : List Str := ["rules", "rows", "rule"]
end
end CC
/-! ### an own ==, the != that goes by it, len, + of anything -/
namespace OC
open PySem PySem.Spec PyProof.Rows L2
section
open PySem.W
variable {prog : Program} {w : World} {A : Around} {E : Value → Shared → Prop} {s : Shared} {K : PySem.W.Frag} {x C f L : Addr} {h₀ : Heap} {m : Str → Option Value} {ox : Obj} {od : Obj} {b : Value}
theorem ifBound_b {M : Model} {name : Str} {id : String} {args : List Value} {Q : Option Value → Shared → Prop} (X : K.In s.heap) (I : InstAt s.heap x ox C od) (hs : findIn K (.ref C) name = some (some (.builtin id))) (hb : ∀ self, bindSpecial (.builtin id) self = pure (.builtin id, [self]))
    (h : wpAny M A (call (.builtin id) (.ref x :: args)) (fun v => Q (some v)) E s) : wpAny M A (callSpecialIfBound? (.ref x) name args) Q E s := by
  simp only [callSpecialIfBound?, bindSpecialIfBound?]
  refine wpAny_holding (wpAny_bind (wpAny_bind (wpAny_bind (I.type.here ((looks_findIn X hs).here ?_)))))
  refine wpAny_bind (wpAny_askSetting (wpAny_ite ?_))
  have fin : wpAny M A (call (.builtin id) ([.ref x] ++ args) >>= fun v => pure (some v)) Q E s := wpAny_bind (wpAny_mono h (fun v s' h' => wpAny_pure h') fun _ _ h' => h')
  split
  · exact wpAny_bind ((Looks.of_pure (hb _)).here (wpAny_pure (by exact fin)))
  · exact wpAny_tryCatch (wpAny_bind ((Looks.of_pure (hb _)).here (wpAny_pure (by exact fin))))
open Builtin in
theorem call_ne {Q : Value → Shared → Prop} (hu : A.in1.units < cLine) (X : K.In s.heap) (I : InstAt s.heap x ox C od) (hm : mroIn K C (.type "object") = some true) (hr : findIn K (.ref C) "__eq__" = some (some (.ref f))) (hf : isFn K (.ref f) = true)
    (h : wpAny (model prog w) A.in1 (call (.ref f) [.ref x, b]) (PySem.W.BoolBack fun r s' => Q (.bool (!r)) s') E s) : wpAny (model prog w) A (call (.builtin "object.__ne__") [.ref x, b]) Q E s := by
  refine wpAny_call (codeAny_call_builtin PySem.F.slot_object_ne.plain PySem.F.entry_object_ne (check_slot (i := "object.__ne__") (owner := "object") (n := "__ne__") (by decide +kernel) (by decide +kernel) (I.type.andThen (looks_mroIn X hm)) (PySem.F.args_object_ne_2 _ _) ?_))
  unfold Builtin.«object.__ne__»
  refine wpAny_bind (m := slotArgs "__ne__" 1 _) (wpAny_pure ?_)
  refine wpAny_bind (m := cRoomFor _ _) (wpAny_cRoomFor hu ?_)
  refine wpAny_bind (m := callSpecialIfBound? (.ref x) (Str.ofString "__eq__") _) (ifBound_K X I hr hf (wpAny_mono h (fun r s' hq => ?_) fun _ _ y => y))
  cases r <;> first | exact hq.elim | skip
  exact wpAny_bind (m := truthy (.bool _)) (wpAny_truthy_bool (wpAny_pure hq))
theorem ne_K {Q : Value → Shared → Prop} (hu : A.units + 1 < cLine) (F : Fr h₀ L s.heap m) (X₀ : K.In h₀) (I : InstAt s.heap x ox C od) (hb : Looks (model prog w) s.heap (typeOf b) (.ref C)) (hr : findIn K (.ref C) "__eq__" = some (some (.ref f))) (hf : isFn K (.ref f) = true)
    (hn : findIn K (.ref C) "__ne__" = some (some (.builtin "object.__ne__"))) (hm : mroIn K C (.type "object") = some true)
    (h : wpAny (model prog w) A.in1 (call (.ref f) [.ref x, b]) (PySem.W.BoolBack fun r s' => Q (.bool (!r)) s') E s) : wpAny (model prog w) A (richCompare .NotEq (.ref x) b) Q E s := by
  have X := X₀.keeps F.keep
  have one : wpAny (model prog w) A (tryCompare (.ref x) (cmpInfo .NotEq).2.1 b) (fun r s' => ∃ v, r = some v ∧ Q v s') E s := by
    unfold tryCompare
    refine wpAny_bind (ifBound_b X I hn PySem.F.slot_object_ne.bind (call_ne hu X I hm hr hf (wpAny_mono h (fun v s' hv => ?_) fun _ _ e => e)))
    cases v <;> first | exact hv.elim | exact wpAny_pure ⟨_, rfl, hv⟩
  unfold richCompare
  simp only [oneThing_ref]
  refine wpAny_holding (wpAny_bind (wpAny_cRoomFor (Nat.lt_of_succ_lt hu) ?_))
  refine wpAny_bind (I.type.here (wpAny_bind (hb.here ?_)))
  rw [show (Value.ref C != Value.ref C) = false from by simp]
  simp only [Bool.false_eq_true, if_false]
  refine wpAny_bind (wpAny_pure ?_)
  simp only [Bool.false_eq_true, if_false]
  refine wpAny_bind (wpAny_mono one (fun r s' z => ?_) fun _ _ e => e)
  obtain ⟨v, rfl, hq⟩ := z
  exact wpAny_pure hq
end
section
variable {X : Cx} {CX : CXT} {k : Nat} {f C : Addr} {sp : Sp} {E : XK}
/-- x == y by the own __eq__ -/
theorem op_eqO {g : Addr} (hs : PySem.W.findIn X.K (.ref C) "__eq__" = some (some (.ref g))) (hf : PySem.W.isFn X.K (.ref g) = true) (F : FnR X.prog X.w X.K X.mg X.base CX k g sp) (hr : Room k X.A) (hx : Passes CX X E) : OpR X (compareOp .Eq) (CC.rOwnB C sp E) := by
  intro pins s σ H x y v u Q I rx ry h
  obtain ⟨a, dx, fs, b, dy, gs, rfl, rfl, ha, hb, q⟩ := h
  cases (show v = Value.ref a from rx)
  cases (show u = Value.ref b from ry)
  obtain ⟨mA, J, _⟩ := ins_get I.hok ha
  obtain ⟨mB, J', _⟩ := ins_get I.hok hb
  obtain ⟨od, J, _⟩ := J.look
  obtain ⟨od', J', _⟩ := J'.look
  obtain ⟨m, hF⟩ := I.fr
  refine PySem.W.cmp_K (op := .Eq) (tb := .ref C) hr.units0 hF I.ok.mod.kin J J'.type (by simp [PySem.W.notFirst]) hs hf ?_
  refine wpAny_mono (wpAny_call (run_fnR (us := [.ref a, .ref b]) (vs := [.ref a, .ref b]) F hr hx I (.cons rfl (.cons rfl .nil)) q)) (fun w s' z => ?_) fun _ _ x => x
  obtain ⟨z', H', I', rz, qz⟩ := z
  exact SlX.cmpback rz ⟨z', H', I', rz, qz⟩
/-- x != y by the own __eq__ -/
def rOwnN (C : Addr) (sp : Sp) (E : XK) : R2 := fun x y H Q => ∃ a dx fs b dy gs, x = .ref a ∧ y = .ref b ∧ H a = some (.ins C dx fs) ∧ H b = some (.ins C dy gs) ∧ sp [x, y] H (fun v H' => ∃ c, v = .bl c ∧ Q (.bl (!c)) H') E
theorem op_neO {g : Addr} (hs : PySem.W.findIn X.K (.ref C) "__eq__" = some (some (.ref g))) (hf : PySem.W.isFn X.K (.ref g) = true) (hn : PySem.W.findIn X.K (.ref C) "__ne__" = some (some (.builtin "object.__ne__"))) (hm : PySem.W.mroIn X.K C (.type "object") = some true)
    (F : FnR X.prog X.w X.K X.mg X.base CX k g sp) (hr : Room (k + 1) X.A) (hx : Passes CX X E) : OpR X (compareOp .NotEq) (rOwnN C sp E) := by
  intro pins s σ H x y v u Q I rx ry h
  obtain ⟨a, dx, fs, b, dy, gs, rfl, rfl, ha, hb, q⟩ := h
  cases (show v = Value.ref a from rx)
  cases (show u = Value.ref b from ry)
  obtain ⟨mA, J, _⟩ := ins_get I.hok ha
  obtain ⟨mB, J', _⟩ := ins_get I.hok hb
  obtain ⟨od, J, _⟩ := J.look
  obtain ⟨od', J', _⟩ := J'.look
  obtain ⟨m, hF⟩ := I.fr
  refine ne_K (by have := hr.un; omega) hF I.ok.mod.kin J J'.type hs hf hn hm ?_
  refine wpAny_mono (wpAny_call (SlX.run_at (us := [.ref a, .ref b]) (ws := [.ref a, .ref b]) F hr.in1 I.env0.in1 hx I (.cons rfl (.cons rfl .nil)) q)) (fun w s' z => ?_) fun _ _ x => x
  obtain ⟨z', H', I', rz, c, rfl, qz⟩ := z
  cases rz
  exact ⟨.bl (!c), H', I', rfl, qz⟩
/-- len(x) by the own __len__ -/
def rLenO (C : Addr) (sp : Sp) (E : XK) : List V → Hp → VK → Prop := fun xs H Q => ∃ a dx fs, xs = [.ref a] ∧ H a = some (.ins C dx fs) ∧ sp [.ref a] H (fun v H' => ∃ n : Nat, v = .int (n : Int) ∧ n < 1000000 ∧ Q (.int (n : Int)) H') E
theorem call_lenO {g : Addr} (hs : PySem.W.findIn X.K (.ref C) "__len__" = some (some (.ref g))) (hf : PySem.W.isFn X.K (.ref g) = true) (F : FnR X.prog X.w X.K X.mg X.base CX k g sp) (hr : Room (k + 1) X.A) (hx : Passes CX X E) : CallR X (.builtin "len") (rLenO C sp E) := by
  intro pins s σ H xs us Q I r h
  obtain ⟨a, dx, fs, rfl, ha, q⟩ := h
  rw [Vals.ref1 r]
  obtain ⟨mA, J, _⟩ := ins_get I.hok ha
  obtain ⟨od, J, _⟩ := J.look
  obtain ⟨m, hF⟩ := I.fr
  refine PySem.W.len_K hF I.ok.mod.kin J hs hf ?_
  refine wpAny_mono (wpAny_call (SlX.run_at (us := [.ref a]) (ws := [.ref a]) F hr.in1 I.env0.in1 hx I (.cons rfl .nil) q)) (fun w s' z => ?_) fun _ _ x => x
  obtain ⟨z', H', I', rz, c, rfl, hc, qz⟩ := z
  obtain ⟨t, rfl⟩ := (show ∃ t, w = Value.int (c : Int) t from rz)
  exact ⟨⟨by omega, by omega⟩, .int (c : Int), H', I'.tok _, ⟨_, rfl⟩, qz⟩
end
end OC
/-! ### an own + of anything; it may raise -/
namespace OC
open PySem PySem.Spec PyProof.Rows L2
def oddTys : List String := ["NoneType", "bool", "int", "str", "tuple", "list", "dict"]
theorem fills_no {n : String} (h : n = "NoneType" ∨ n = "str" ∨ n = "tuple" ∨ n = "list" ∨ n = "dict") : fillsNumberSlot (.type n) "add" = pure false := by
  unfold fillsNumberSlot
  rcases h with rfl | rfl | rfl | rfl | rfl <;>
  · simp only [typeLookup_type, builtinLookup_eq_fast]
    kernel_rfl
theorem fills_yes {n : String} (h : n = "bool" ∨ n = "int") : fillsNumberSlot (.type n) "add" = pure true := by
  unfold fillsNumberSlot
  rcases h with rfl | rfl <;>
  · simp only [typeLookup_type, builtinLookup_eq_fast]
    kernel_rfl
section
open PySem.W
variable {prog : Program} {w : World} {A : Around} {E : Value → Shared → Prop} {s : Shared} {K : PySem.W.Frag} {x C f L : Addr} {h₀ : Heap} {m : Str → Option Value} {ox : Obj} {od : Obj} {b : Value} {n : String}
theorem dn_add : PySem.dunder "add" = ("__add__" : Str) := by decide +kernel
theorem dn_radd : PySem.dunderR "add" = ("__radd__" : Str) := by decide +kernel
theorem in_python (X : K.In s.heap) (hs : findIn K (.ref C) "__add__" = some (some (.ref f))) (hn : findIn K (.ref C) "__radd__" = some none) : Looks (model prog w) s.heap (numberSlotInPython (.ref C) "add") true := by
  unfold numberSlotInPython
  rw [dn_add, dn_radd]
  intro A Q E s' k q
  have X' := X.keeps k
  refine wpAny_bind ((looks_findIn X' hs).here ?_)
  show wpAny _ _ (pure true >>= _) _ _ _
  refine wpAny_bind (wpAny_pure ?_)
  refine wpAny_bind ((looks_findIn X' hn).here ?_)
  show wpAny _ _ (pure false >>= _) _ _ _
  refine wpAny_bind (wpAny_pure ?_)
  exact wpAny_pure q
theorem radd_of {n : String} (h : n = "bool" ∨ n = "int") : ∃ t, typeLookup (.type n) (PySem.dunderR "add") = pure t := by
  rcases h with rfl | rfl <;>
  · refine ⟨some (.builtin "int.__radd__"), ?_⟩
    rw [typeLookup_type, builtinLookup_eq_fast]
    kernel_rfl
theorem add_any {Q : Value → Shared → Prop} (F : Fr h₀ L s.heap m) (X₀ : K.In h₀) (I : InstAt s.heap x ox C od) (hb : Looks (model prog w) s.heap (typeOf b) (.type n)) (hn : n ∈ oddTys) (hc : selfFirst K C = true)
    (hs : findIn K (.ref C) "__add__" = some (some (.ref f))) (hnr : findIn K (.ref C) "__radd__" = some none) (hf : isFn K (.ref f) = true) (hsub : subIn K (.type n) (.ref C) = some false)
    (h : wpAny (model prog w) A (call (.ref f) [.ref x, b]) (PySem.W.CmpBack Q) E s) : wpAny (model prog w) A (binaryOp .Add (.ref x) b) Q E s := by
  have X := X₀.keeps F.keep
  obtain ⟨cd, hcd, hm⟩ := any_some hc
  obtain ⟨rest, hm⟩ : ∃ rest, cd.mro = .ref C :: rest := by
    cases q : cd.mro with
    | nil => rw [q] at hm; cases hm
    | cons a r => rw [q] at hm; exact ⟨r, by rw [List.head?_cons] at hm; cases (beq_iff_eq.mp hm); rfl⟩
  have hs' : findIn K (.ref C) (PySem.dunder "add") = some (some (.ref f)) := by rw [dn_add]; exact hs
  have fin : ∀ {P : Option Value → Shared → Prop}, (∀ v s', Q v s' → P (some v) s') → wpAny (model prog w) A (tryMethod (.ref x) (PySem.dunder "add") b) P E s := fun {P} hp => by
    unfold tryMethod
    refine wpAny_bind (special_fn X I hs' (beq_iff_eq.mp hf) (wpAny_mono h (fun v s' hv => ?_) fun _ _ e => e))
    cases v <;> first | exact hv.elim | exact wpAny_pure (hp _ _ hv)
  have bt : (Value.ref C == Value.type n) = false := rfl
  unfold binaryOp
  refine wpAny_holding ?_
  show wpAny _ _ (binaryOp1 "add" (.ref x) b >>= _) _ _ _
  refine wpAny_bind ?_
  unfold binaryOp1
  refine wpAny_bind (I.type.here (wpAny_bind (hb.here (wpAny_bind ((fills_K X hcd hm hs').here ?_)))))
  simp only [bt, Bool.false_eq_true, if_false]
  by_cases hy : n = "bool" ∨ n = "int"
  · refine wpAny_bind ((Looks.of_pure (fills_yes hy)).here ?_)
    simp only [Bool.and_self, if_true]
    refine wpAny_bind ((looks_subIn X hsub).here ?_)
    simp only [Bool.false_eq_true, if_false, Bool.not_false, Bool.and_self, if_true]
    refine wpAny_bind ((in_python X hs hnr).here ?_)
    simp only [if_true]
    refine wpAny_bind ((Looks.of_pure (show numberSlotInPython (.type n) "add" = pure false from rfl)).here ?_)
    simp only [Bool.not_false, if_true]
    obtain ⟨t, ht⟩ := radd_of hy
    refine wpAny_bind ((Looks.of_pure ht).here ?_)
    refine wpAny_bind (fin fun v s' hv => ?_)
    exact wpAny_pure (wpAny_pure hv)
  · have hno : n = "NoneType" ∨ n = "str" ∨ n = "tuple" ∨ n = "list" ∨ n = "dict" := by
      simp only [oddTys, List.mem_cons, List.mem_singleton, List.not_mem_nil, or_false] at hn
      rcases hn with h | h | h | h | h | h | h
      · exact .inl h
      · exact (hy (.inl h)).elim
      · exact (hy (.inr h)).elim
      · exact .inr (.inl h)
      · exact .inr (.inr (.inl h))
      · exact .inr (.inr (.inr (.inl h)))
      · exact .inr (.inr (.inr (.inr h)))
    refine wpAny_bind ((Looks.of_pure (fills_no hno)).here ?_)
    simp only [Bool.and_false, Bool.false_eq_true, if_false, Bool.false_and, if_true]
    refine wpAny_bind (wpAny_pure ?_)
    simp only [Bool.false_eq_true, if_false]
    refine wpAny_bind (fin fun v s' hv => ?_)
    exact wpAny_pure (wpAny_pure hv)
end
section
variable {X : Cx} {CX : CXT} {k : Nat} {f C : Addr} {sp : Sp} {E : L2.St → XK} {a b : Expr} {ta tb : TE} {pos : Pos}
theorem run_fnRS {pins : List (Addr × Obj)} {s : Shared} {σ : L2.St} {H : Hp} {Q : VK} {us : List Value} {vs : List V} (F : FnR X.prog X.w X.K X.mg X.base CX k f sp) (hr : Room k X.A) (hx : PassesAt CX X σ (E σ)) (I : Inv X pins σ H s) (r : Vals vs us) (h : sp vs H Q (E σ)) :
    codeAny (model X.prog X.w) X.A (.call (.ref f) ⟨us, []⟩) (fun r s' => match r with | .ok (.ret v) => EP X pins σ Q v s' | .ok _ => False | .error e => X.xe e s') s := by
  refine codeAny_mono (F X.A X.stack s H us vs Q (E σ) hr I.env0 r h) fun r s' hq => ?_
  cases r with
  | error e => exact hx pins H s e s' I hq
  | ok fl =>
    cases fl with
    | ret u => exact I.after hq
    | next => exact False.elim hq
    | brk => exact False.elim hq
    | cont => exact False.elim hq
def OddV (K : PySem.W.Frag) (H : Hp) (y : V) : Prop := ∃ n, TyX K H y (.type n) ∧ n ∈ oddTys
def rAddX (K : PySem.W.Frag) (C : Addr) (sp : Sp) (E : XK) : V → V → Hp → VK → Prop := fun x y H Q => ∃ a dx fs, x = .ref a ∧ H a = some (.ins C dx fs) ∧ ((∃ b dy gs, y = .ref b ∧ H b = some (.ins C dy gs)) ∨ OddV K H y) ∧ sp [x, y] H Q E
def tAddX (K : PySem.W.Frag) (C : Addr) (sp : Sp) (E : L2.St → XK) (ta tb : TE) : TE := fun σ H Q => ta σ H fun x H1 => tb σ H1 fun y H2 => rAddX K C sp (E σ) x y H2 Q
/-- x + y, x an instance of the class at C, y one too or a plain value; it may raise -/
theorem pe_addX (hc : PySem.W.selfFirst X.K C = true) (hs : PySem.W.findIn X.K (.ref C) "__add__" = some (some (.ref f))) (hnr : PySem.W.findIn X.K (.ref C) "__radd__" = some none) (hf : PySem.W.isFn X.K (.ref f) = true) (hsub : ∀ n ∈ oddTys, PySem.W.subIn X.K (.type n) (.ref C) = some false)
    (F : FnR X.prog X.w X.K X.mg X.base CX k f sp) (hr : Room k X.A) (hx : ∀ σ, PassesAt CX X σ (E σ)) (ha : PE X a ta) (hb : PE X b tb) : PE X (.BinOp a .Add b pos) (tAddX X.K C sp E ta tb) := by
  refine ⟨fun pins s σ H Q I h => ?_⟩
  refine wpAny_BinOp (binT ha hb I h fun v u s2 x y H2 I2 rx ry q => ?_)
  obtain ⟨a, dx, fs, rfl, ha, hy, q⟩ := q
  cases (show v = Value.ref a from rx)
  obtain ⟨mA, J, _⟩ := ins_get I2.hok ha
  obtain ⟨od, J, _⟩ := J.look
  obtain ⟨m, hF⟩ := I2.fr
  have run : wpAny (model X.prog X.w) X.A (call (.ref f) [.ref a, u]) (PySem.W.CmpBack (EP X pins σ Q)) X.xe s2 := by
    refine wpAny_mono (wpAny_call (run_fnRS (us := [.ref a, u]) (vs := [.ref a, y]) F hr (hx σ) I2 (.cons rfl (.cons ry .nil)) q)) (fun w s' z => ?_) fun _ _ x => x
    obtain ⟨z', H', I', rz, qz⟩ := z
    exact SlX.cmpback rz ⟨z', H', I', rz, qz⟩
  rcases hy with ⟨b', dy, gs, rfl, hb'⟩ | ⟨n, ty, hn⟩
  · cases (show u = Value.ref b' from ry)
    obtain ⟨mB, J', _⟩ := ins_get I2.hok hb'
    obtain ⟨od', J', _⟩ := J'.look
    exact PySem.W.binop_K (op := .Add) hF I2.ok.mod.kin J J'.type hc (by rw [show PySem.dunder (Operator.info .Add).2 = ("__add__" : Str) by decide +kernel]; exact hs) hf run
  · obtain ⟨P, Z, p, _⟩ := kit_of I2 ry ty
    exact add_any hF I2.ok.mod.kin J (Z.ty _ _ I2.kIn p) hn hc hs hnr hf (hsub n hn) run
end
end OC
/-! a method whose first statement is super().m(..) -/
namespace SUP
open PySem PySem.Spec PySem.Calls PySem.W PyProof.Rows L2
/-- the names of such a method -/
structure SupS (N ps : List Str) (sc : Scope) : Prop where
  kind : sc.kind = .function
  co : sc.isCoroutine = false
  gen : sc.isGenerator = false
  nd : N.Nodup
  pre : N.take ps.length = ps
  par : ∀ x ∈ ps, sc.names.lookup x = some .local
  noc : ∀ y ∈ sc.names, y.2 ≠ .cell
  fr : ∀ y ∈ sc.names, y.2 = .free → y.1 = "__class__"
  hks : sc.names.lookup ("super" : Str) = some .globalImplicit
  hkc : sc.names.lookup ("__class__" : Str) = some .free
def cxSup (P : Program) (w : World) (K : PySem.W.Frag) (mg : Str → Option Value) (base : Heap) (N : List Str) (qual : Str) (scope : Scope) (f : Addr) (cd : Value) (cc : Addr) (A : Around) (outer : List Env) (s : Shared) (H : Hp) (E : XK) : Cx where
  prog := P
  w := w
  K := K
  mg := mg
  base := base
  A := A.deeper (ksEnv qual scope s.heap.objs.size f cd cc)
  N := N
  s_0 := s
  H_0 := H
  env := ksEnv qual scope s.heap.objs.size f cd cc
  outer := outer
  stack := ksEnv qual scope s.heap.objs.size f cd cc :: outer
  ex := []
  calm := true
  fn := fun _ => false
  pn := []
  xe := fun e s' => wpAny (model P w) (A.deeper (ksEnv qual scope s.heap.objs.size f cd cc)) (leaving (ksEnv qual scope s.heap.objs.size f cd cc) e) (fun _ s'' => L2.CX P w outer H s E e s'') (fun e' s'' => L2.CX P w outer H s E e' s'') s'
section
variable {P : Program} {w : World} {K : PySem.W.Frag} {mg : Str → Option Value} {base : Heap} {N ps : List Str} {qual : Str} {scope : Scope} {f cc D : Addr} {cd : Value} {A : Around} {outer : List Env} {s : Shared} {H : Hp} {E : XK} {us : List Value} {vs : List V}
theorem look_mem {y : Str} {u : Value} : ∀ {l : List (Str × Value)}, (l.map (·.1)).Nodup → (y, u) ∈ l → l.lookup y = some u
  | [], _, h => nomatch h
  | (z, v) :: l, nd, h => by
    rw [List.map_cons, List.nodup_cons] at nd
    rw [List.lookup_cons]
    rcases List.mem_cons.mp h with e | h2
    · cases e
      rw [show (y == y) = true from beq_self_eq_true y]
    · have ne : (y == z) = false := by
        rw [beq_eq_false_iff_ne]
        rintro rfl
        exact nd.1 (List.mem_map.mpr ⟨_, h2, rfl⟩)
      rw [ne]
      exact look_mem nd.2 h2
theorem cls_cell {x : Str} {c : Addr} (h : (ksEnv qual scope s.heap.objs.size f cd cc).cells.lookup x = some c) : x = "__class__" ∧ c = cc := by
  have h : ([(("__class__" : Str), cc)] : List (Str × Addr)).lookup x = some c := h
  rw [List.lookup_cons] at h
  split at h
  · rename_i e
    exact ⟨beq_iff_eq.mp e, (Option.some.inj h).symm⟩
  · cases h
theorem inv_sup {h₁ : Heap} {t' : Nat} {cl : Value} {cld : Option Addr} {csl : Array (Option Value)} (S : SupS N ps scope) (hd : A.handled = none) (e0 : Env0 P w K mg base A outer s H) (hl : vs.length = ps.length) (r : Vals vs us)
    (hcell : K.lookup cc = some ⟨cl, cld, .cell (some (.ref D)), csl⟩) (hns : h₁.Ns s.heap.objs.size (fun x => (ps.zip us).reverse.lookup x)) (kp : ∀ b o, s.heap.get? b = some o → h₁.get? b = some o) :
    Inv (cxSup P w K mg base N qual scope f cd cc A outer s H E) [] (L2.start N vs) H { s with heap := h₁, toks := t' } := by
  have hpl : ps.length ≤ N.length := by
    have := congrArg List.length S.pre
    rw [List.length_take] at this
    omega
  have hb : base.get? cc = some ⟨cl, cld, .cell (some (.ref D)), csl⟩ := e0.mod.kin _ _ hcell
  have noA : ∀ b : Addr, b ∉ (cxSup P w K mg base N qual scope f cd cc A outer s H E).ex := fun b z => absurd (show b ∈ ([] : List Addr) from z) (by simp)
  refine ⟨⟨e0.mod, S.kind, rfl, rfl, Nat.le_refl _, fun y z c h1 h2 => by rw [(cls_cell h1).1, (cls_cell h2).1], fun y hy => ?_, fun y c z _ => (by cases (show false = true from z)), fun _ => hd, Around.frames_deeper e0.frames, .inr ⟨rfl, rfl⟩, fun b z => absurd z (noA b), e0.bs, e0.bsz, fun b _ _ => noA b, fun b z => absurd z (noA b), e0.funs, e0.frf⟩,
    rfl, e0.bare, Un.kept kp, ⟨_, hns, fun i y v h1 h2 h3 => ?_⟩, fun y c h => ?_, e0.hok.fresh (Nat.le_refl _), fun y c h => ?_, fun p hp => absurd (show p ∈ ([] : List (Addr × Obj)) from hp) (by simp), e0.hok.kept kp, ?_⟩
  · have hy : scope.names.lookup y = some .cell ∨ scope.names.lookup y = some .free := hy
    rcases hy with hy | hy
    · exact absurd rfl (S.noc _ (PySem.mem_of_lookup hy))
    · have := S.fr _ (PySem.mem_of_lookup hy) rfl
      refine ⟨cc, ?_⟩
      show ([(("__class__" : Str), cc)] : List (Str × Addr)).lookup y = some cc
      rw [show y = "__class__" from this, List.lookup_cons_self]
  · have hi : i < vs.length := by
      unfold L2.start at h2
      by_cases hi : i < vs.length
      · exact hi
      · rw [List.getElem?_append_right (by simpa using hi)] at h2
        rw [List.getElem?_replicate] at h2
        split at h2 <;> cases h2
    have ha : vs[i]? = some v := by
      unfold L2.start at h2
      rw [List.getElem?_append_left (by simpa using hi), List.getElem?_map] at h2
      cases e : vs[i]? with
      | none => rw [e] at h2; cases h2
      | some a => rw [e] at h2; cases h2; rfl
    obtain ⟨u, hu, rv⟩ := r.get ha
    have hp : ps[i]? = some y := by
      rw [← S.pre, List.getElem?_take_of_lt (by omega)]; exact h1
    have ndP : ps.Nodup := by rw [← S.pre]; exact S.nd.sublist (List.take_sublist _ _)
    refine ⟨u, rv, .inl ⟨S.par y (List.mem_of_getElem? hp), ?_⟩⟩
    refine look_mem ?_ ?_
    · rw [List.map_reverse, List.map_fst_zip (by rw [← r.length]; omega)]
      exact (List.reverse_perm ps).nodup_iff.mpr ndP
    · rw [List.mem_reverse]
      exact List.mem_of_getElem? (List.getElem?_zip_eq_some.mpr ⟨hp, hu⟩)
  · rw [(cls_cell h).2]
    exact ⟨_, ⟨_, kp _ _ (e0.bs _ _ hb).1, rfl⟩⟩
  · rw [(cls_cell h).2]
    exact (e0.bs _ _ hb).2
  · show (L2.start N vs).length = N.length
    unfold L2.start
    rw [List.length_append, List.length_map, List.length_replicate]
    omega
/-- what the text tells of such a method: the class where it stands, its file -/
structure SupK (P : Program) (K : PySem.W.Frag) (cda cc D : Addr) : Prop where
  code : ∃ (ccl : Value) (cdd : Option Addr) (vs : Array Value) (ccs : Array (Option Value)) (file : Str) (tf : Tok), K.lookup cda = some ⟨ccl, cdd, .fields vs, ccs⟩ ∧ vs[2]? = some (.str file tf) ∧ ((P.main.file : Str) == file) = true
  cell : ∃ (cl : Value) (cld : Option Addr) (csl : Array (Option Value)), K.lookup cc = some ⟨cl, cld, .cell (some (.ref D)), csl⟩
  cls : ∃ cdD, clsIn K D = some cdD
  top : (P.main.scope.names.lookup ("super" : Str)).isSome = false
  opq : nsIn K cStatics "thirdparty.any" = some none
/-- the method that super() finds for an instance of the class at C -/
structure SupM (K : PySem.W.Frag) (C D : Addr) (attr : Str) (f2 : Addr) : Prop where
  sub : mroIn K C (.ref D) = some true
  at_ : ks_superIn K C D attr = some (some (.ref f2))
  ty : typeIn K (.ref f2) = some (.type "function")
  fn : fnIn K f2 = true
/-- super().attr(e, ..) as the first statement of a method, run in its own context -/
theorem run_super {x C dx f2 cda : Addr} {fs : List (Str × V)} {ar : Arg} {fd : FuncData} {oc : Value} {od : Option Addr} {osl : Array (Option Value)} {body rest : List Stmt} {p0 p1 p2 p3 p4 : Pos} {attr : Str} {e : Expr} {es : List Expr} {ta : TA} {tr : TS} {k : Nat} {sp2 : Sp} {s1 : Shared} {σ : L2.St} {H1 : Hp} {R : Ends} {pl : Sem Bool}
    (SK : SupK P K cda cc D) (S : SupS N ps scope) (hsuper : mg "super" = none) (lk : K.lookup f = some ⟨oc, od, .func fd, osl⟩) (hp : (fd.params.posonlyargs ++ fd.params.args).head? = some ar) (h0 : N[0]? = some ar.arg) (hka : scope.names.lookup ar.arg = some .local)
    (J : Inv (cxSup P w K mg base N qual scope f (.ref cda) cc A outer s H E) [] σ H1 s1) (hv : σ[0]? = some (some (.ref x))) (hx : H1 x = some (.ins C dx fs)) (SM : SupM K C D attr f2) (hat : (attr == ("__class__" : Str)) = false)
    (F2 : FnR P w K mg base (L2.CX P w) k f2 sp2) (hr : Room k (A.deeper (ksEnv qual scope s.heap.objs.size f (.ref cda) cc)))
    (hpa : PA (cxSup P w K mg base N qual scope f (.ref cda) cc A outer s H E) (e :: es) ta) (hps : PSs (cxSup P w K mg base N qual scope f (.ref cda) cc A outer s H E) rest tr)
    (go : ta σ H1 (fun xs H2 => sp2 (.ref x :: xs) H2 (fun _ H3 => tr R σ H3) E))
    (hev : eval (.Call (.Attribute (.Call (.Name "super" p0) [] [] p1) attr p2) (e :: es) [] p3) (ksEnv qual scope s.heap.objs.size f (.ref cda) cc) = (do
      let ov ← attributeBase (.Call (.Name "super" p0) [] [] p1) attr (ksEnv qual scope s.heap.objs.size f (.ref cda) cc) (eval (.Call (.Name "super" p0) [] [] p1) (ksEnv qual scope s.heap.objs.size f (.ref cda) cc))
      standAt p2.atName
      let (q, first) ← holding [ov] (getMethod ov attr pl)
      callWith p3 q first (backTo p3 (starEach (e :: es) (ksEnv qual scope s.heap.objs.size f (.ref cda) cc))) []) := by rfl)
    (hint : interactive (ksEnv qual scope s.heap.objs.size f (.ref cda) cc) = false := by rfl)
    (hsw : swapsWith (.Call (.Attribute (.Call (.Name "super" p0) [] [] p1) attr p2) (e :: es) [] p3) none p4.line (ksEnv qual scope s.heap.objs.size f (.ref cda) cc) = pure false := by rfl)
    (hst : starEach (e :: es) (ksEnv qual scope s.heap.objs.size f (.ref cda) cc) = (false, eval e (ksEnv qual scope s.heap.objs.size f (.ref cda) cc)) :: starEach es (ksEnv qual scope s.heap.objs.size f (.ref cda) cc) := by rfl)
    (hpl : (backTo p3 (starEach es (ksEnv qual scope s.heap.objs.size f (.ref cda) cc))).any (·.1) = false := by rfl) :
    _root_.PySem.wpAt (model P w) (A.deeper (ksEnv qual scope s.heap.objs.size f (.ref cda) cc)) (.func body (ksEnv qual scope s.heap.objs.size f (.ref cda) cc)) (execs (.Expr (.Call (.Attribute (.Call (.Name "super" p0) [] [] p1) attr p2) (e :: es) [] p3) p4 :: rest) (ksEnv qual scope s.heap.objs.size f (.ref cda) cc))
      (SP (cxSup P w K mg base N qual scope f (.ref cda) cc A outer s H E) [] R) (cxSup P w K mg base N qual scope f (.ref cda) cc A outer s H E).xe s1 := by
  obtain ⟨⟨ccl, cdd, vsC, ccs, file, tf, hcode, hvs, hfile⟩, ⟨cl, cld, csl, hcell⟩, ⟨cdD, hD⟩, htop, ho⟩ := SK
  refine ks_wpAt_execs_cons (ks_wpAt_Expr_any (ks_wpAt_MethodCall ?_ hev) hint hsw)
  have X1 : K.In s1.heap := J.kIn
  have hD' : ∃ oD, s1.heap.get? D = some oD ∧ oD.data = .cls cdD := by
    unfold clsIn at hD
    split at hD
    · rename_i c d cd' sl ho
      cases hD
      exact ⟨_, X1 _ _ ho, rfl⟩
    · cases hD
  obtain ⟨oD, hD1, hD2⟩ := hD'
  obtain ⟨mA, JI, _⟩ := ins_get J.hok hx
  obtain ⟨odx, JI, _⟩ := JI.look
  refine ks_wpAt_super_base (env := ksEnv qual scope s.heap.objs.size f (.ref cda) cc) S.hks S.hkc hat rfl (X1 _ _ lk) rfl hp rfl (X1 _ _ hcode) rfl hvs hfile htop ?_
  obtain ⟨mb, hb1, hb2⟩ := J.mod.blt
  refine ks_loadName_global S.kind S.hks (loadGlobal_builtin (env := ksEnv qual scope s.heap.objs.size f (.ref cda) cc) (J.mod.glob.keeps J.bk) hsuper (hb1.keeps J.bk) ((hb2 _ (by decide +kernel)).trans (show bootBuiltins "super" = some (.type "super") by decide +kernel)) ⟨rfl, ?_⟩)
  refine wpAny_loadName_free S.kind S.hkc rfl ⟨_, X1 _ _ hcell, rfl⟩ ?_
  obtain ⟨m, hns, hloc⟩ := J.loc
  obtain ⟨u, ru, hu⟩ := hloc 0 ar.arg _ h0 hv (.inl hka)
  cases (show u = Value.ref x from ru)
  have hm : m ar.arg = some (.ref x) := by
    rcases hu with ⟨_, z⟩ | ⟨z, _⟩
    · exact z
    · have z : scope.names.lookup ar.arg = some .cell ∨ scope.names.lookup ar.arg = some .free := z
      rw [hka] at z
      rcases z with z | z <;> cases z
  refine wpAny_loadName_local S.kind hka hns hm ?_
  refine ks_wpAny_isType_cls hD1 hD2 ⟨rfl, ?_⟩
  refine ks_wpAny_call_super hD1 hD2 JI.at_ JI.cls (fun c eh => ?_) (looks_mroIn X1 SM.sub) (fun h' eh kp => ?_)
  · have := JI.no
    unfold notCls at this
    rw [eh] at this
    exact Bool.noConfusion this
  have J2 : Inv (cxSup P w K mg base N qual scope f (.ref cda) cc A outer s H E) [] σ H1 { s1 with heap := h' } := J.kept (t' := s1.toks) kp
  have X2 : K.In h' := J2.kIn
  obtain ⟨mA2, JJ, _⟩ := ins_get J2.hok hx
  obtain ⟨odx2, JJ, _⟩ := JJ.look
  obtain ⟨of, hof, hofc⟩ : ∃ of, h'.get? f2 = some of ∧ of.cls = .type "function" := by
    have ht' : (K.lookup f2).map (·.cls) = some (.type "function") := SM.ty
    cases z : K.lookup f2 with
    | none => rw [z] at ht'; cases ht'
    | some of => rw [z] at ht'; exact ⟨of, X2 _ _ z, Option.some.inj ht'⟩
  have hm2 := SM.at_
  cases hc : clsIn K C with
  | none => unfold ks_superIn at hm2; rw [hc] at hm2; cases hm2
  | some cdC =>
    unfold ks_superIn at hm2
    rw [hc] at hm2
    refine ks_wpAny_getMethod_super eh (looks_opaque X2 ho) (l₀ := cdC.mro) (fun A Q E s k q => wpAny_bind ((looks_clsIn X2 hc) A _ E s k (wpAny_pure q))) rfl X2 hm2 hof hofc (ks_ne X2 JJ hc) hat ?_
    have J3 : Inv (cxSup P w K mg base N qual scope f (.ref cda) cc A outer s H E) [] σ H1 ⟨h'.push { cls := .type "method", data := .fields #[.ref f2, .ref x] }, s1.gens, s1.drawn, s1.toks + 1, s1.os⟩ := J2.kept (t' := s1.toks + 1) fun b o q => Heap.get?_push_of_some _ q
    have hq : (h'.push { cls := .type "method", data := .fields #[.ref f2, .ref x] }).get? h'.objs.size = some (methodObj (.ref f2) (.ref x)) := Heap.get?_push_at rfl rfl
    have hlt : s.heap.objs.size < h'.objs.size := J2.lt
    have pinQ : ∀ p ∈ (cxSup P w K mg base N qual scope f (.ref cda) cc A outer s H E).pn ++ [(h'.objs.size, methodObj (.ref f2) (.ref x))], (h'.push { cls := .type "method", data := .fields #[.ref f2, .ref x] }).get? p.1 = some p.2 ∧ H1 p.1 = none ∧ p.1 ≠ (cxSup P w K mg base N qual scope f (.ref cda) cc A outer s H E).env.locals ∧ p.1 ∉ (cxSup P w K mg base N qual scope f (.ref cda) cc A outer s H E).fs ∧ ∀ v, p.2.data ≠ .cell v := by
      intro p hp
      have hp : p ∈ ([] : List (Addr × Obj)) ++ [(h'.objs.size, methodObj (.ref f2) (.ref x))] := hp
      rw [List.nil_append, List.mem_singleton] at hp
      subst hp
      refine ⟨hq, J2.hok.fresh (Nat.le_refl _), fun z => ?_, fun z => J2.nofs (Nat.le_refl _) z, fun v z => by cases z⟩
      have z : h'.objs.size = s.heap.objs.size := z
      omega
    have J4 : Inv (cxSup P w K mg base N qual scope f (.ref cda) cc A outer s H E) [(h'.objs.size, methodObj (.ref f2) (.ref x))] σ H1 ⟨h'.push { cls := .type "method", data := .fields #[.ref f2, .ref x] }, s1.gens, s1.drawn, s1.toks + 1, s1.os⟩ :=
      { J3 with pin := pinQ }
    rw [hst]
    refine callWith_of (P := MethP K h'.objs.size f2 (.ref x)) (by show ((false || (backTo p3 (starEach es (ksEnv qual scope s.heap.objs.size f (.ref cda) cc))).any (·.1)) || false) = false; rw [hpl]; rfl) (keeps_M SM.fn) (evalArgs_plain ?_)
    have run := hpa.run p3 _ _ _ _ _ J4 go
    rw [show starEach (e :: es) (cxSup P w K mg base N qual scope f (.ref cda) cc A outer s H E).env = _ from hst] at run
    refine thn run fun us s4 ⟨vs, H2, I4, r4, q4⟩ => ?_
    have p4 := (I4.pin (h'.objs.size, methodObj (.ref f2) (.ref x)) (List.mem_append_right _ (List.mem_singleton.mpr rfl))).1
    refine ⟨⟨p4, I4.kIn⟩, wpAny_call (method_call p4 ?_)⟩
    refine codeAny_mono (run_fnR (X := cxSup P w K mg base N qual scope f (.ref cda) cc A outer s H E) F2 hr (passes_call (takes_of rfl rfl rfl rfl) (fun _ _ _ _ h => h)) I4 (us := .ref x :: us) (vs := .ref x :: vs) (.cons (show RelV (.ref x) (Value.ref x) from rfl) r4) q4) fun r s5 hr5 => ?_
    match r, hr5 with
    | .error er, hr5 => exact hr5
    | .ok (.ret v), ⟨y, H3, I5, _, q5⟩ =>
      have I6 : Inv (cxSup P w K mg base N qual scope f (.ref cda) cc A outer s H E) [] σ H3 s5 := { I5 with pin := fun p hp => absurd (show p ∈ ([] : List (Addr × Obj)) from hp) (by simp) }
      exact wpAt_of_wpAny (hps.run [] s5 σ H3 R I6 q5)
    | .ok .next, hr5 => exact hr5.elim
    | .ok .brk, hr5 => exact hr5.elim
    | .ok .cont, hr5 => exact hr5.elim
/-- a method that begins with super().attr(e, ..), by its body -/
theorem fn_super {name : Str} {params : Arguments} {dV kV doc pm ct oc : Value} {an od : Option Addr} {osl : Array (Option Value)} {cda : Addr} {ar : Arg} {rest : List Stmt} {p0 p1 p2 p3 p4 : Pos} {attr : Str} {e : Expr} {es : List Expr} {k : Nat} {sp : Sp} {pl : Sem Bool}
    (lk : K.lookup f = some ⟨oc, od, .func (ksFn name qual params (.Expr (.Call (.Attribute (.Call (.Name "super" p0) [] [] p1) attr p2) (e :: es) [] p3) p4 :: rest) scope dV kV doc pm an (.ref cda) ct cc), osl⟩) (hcd : codeIn K (.ref cda) qual = true) (SK : SupK P K cda cc D) (S : SupS N ps scope) (hsuper : mg "super" = none)
    (hp : (params.posonlyargs ++ params.args).head? = some ar) (h0 : N[0]? = some ar.arg) (hka : scope.names.lookup ar.arg = some .local) (hat : (attr == ("__class__" : Str)) = false) (few : ∀ vs H Q E, sp vs H Q E → vs.length = ps.length)
    (go : ∀ (A : Around) (outer : List Env) (s : Shared) (H : Hp) (vs : List V) (Q : VK) (E : XK), Room k (A.deeper (ksEnv qual scope s.heap.objs.size f (.ref cda) cc)) → sp vs H Q E →
      ∃ (x C dx : Addr) (fs : List (Str × V)) (f2 : Addr) (sp2 : Sp) (ta : TA) (tr : TS), vs[0]? = some (.ref x) ∧ H x = some (.ins C dx fs) ∧ SupM K C D attr f2 ∧ FnR P w K mg base (L2.CX P w) k f2 sp2 ∧
        PA (cxSup P w K mg base N qual scope f (.ref cda) cc A outer s H E) (e :: es) ta ∧ PSs (cxSup P w K mg base N qual scope f (.ref cda) cc A outer s H E) rest tr ∧
        ta (L2.start N vs) H (fun xs H2 => sp2 (.ref x :: xs) H2 (fun _ H3 => tr { nx := fun _ H' => Q .non H', rt := Q } (L2.start N vs) H3) E))
    (hev : ∀ L, eval (.Call (.Attribute (.Call (.Name "super" p0) [] [] p1) attr p2) (e :: es) [] p3) (ksEnv qual scope L f (.ref cda) cc) = (do
      let ov ← attributeBase (.Call (.Name "super" p0) [] [] p1) attr (ksEnv qual scope L f (.ref cda) cc) (eval (.Call (.Name "super" p0) [] [] p1) (ksEnv qual scope L f (.ref cda) cc))
      standAt p2.atName
      let (q, first) ← holding [ov] (getMethod ov attr pl)
      callWith p3 q first (backTo p3 (starEach (e :: es) (ksEnv qual scope L f (.ref cda) cc))) []) := by intro _; rfl)
    (hint : ∀ L, interactive (ksEnv qual scope L f (.ref cda) cc) = false := by intro _; rfl)
    (hsw : ∀ L, swapsWith (.Call (.Attribute (.Call (.Name "super" p0) [] [] p1) attr p2) (e :: es) [] p3) none p4.line (ksEnv qual scope L f (.ref cda) cc) = pure false := by intro _; rfl)
    (hst : ∀ L, starEach (e :: es) (ksEnv qual scope L f (.ref cda) cc) = (false, eval e (ksEnv qual scope L f (.ref cda) cc)) :: starEach es (ksEnv qual scope L f (.ref cda) cc) := by intro _; rfl)
    (hpl : ∀ L, (backTo p3 (starEach es (ksEnv qual scope L f (.ref cda) cc))).any (·.1) = false := by intro _; rfl) :
    FnOk P w K mg base (L2.CX P w) (k + 1) f (ksFn name qual params (.Expr (.Call (.Attribute (.Call (.Name "super" p0) [] [] p1) attr p2) (e :: es) [] p3) p4 :: rest) scope dV kV doc pm an (.ref cda) ct cc) ps sp := by
  refine ⟨few, fun A outer s H args us vs Q E hr e0 hb r h => ?_⟩
  have keep : ∀ b o, base.get? b = some o → s.heap.get? b = some o := fun b o q => (e0.bs b o q).1
  have KX : K.In s.heap := e0.mod.kin.keeps keep
  have lim : s.heap.NoLimit := e0.mod.nolimit.keeps keep
  obtain ⟨cl, cld, csl, hcell⟩ := id SK.cell
  have hl := few _ _ _ _ h
  refine ks_codeAny_call_defAt (binds := ps.zip us) hr.depth (KX _ _ lk) rfl lim (codeRec_of KX hcd) rfl hb S.noc (fun y hy => S.par y.1 (List.of_mem_zip hy).1) (fun h₁ hns kp => ?_) S.co S.gen S.kind
  have J := inv_sup (qual := qual) (f := f) (cd := .ref cda) (E := E) (t' := s.toks + (ps.zip us).length) S hr.hd e0 hl r hcell hns kp
  obtain ⟨x, C, dx, fs, f2, sp2, ta, tr, hv, hx, SM, F2, hpa, hps, g⟩ := go A outer s H vs Q E (hr.deeper _) h
  have hv' : (L2.start N vs)[0]? = some (some (.ref x)) := by
    have i0 := (List.getElem?_eq_some_iff.mp hv).1
    unfold L2.start
    rw [List.getElem?_append_left (by rw [List.length_map]; exact i0), List.getElem?_map, hv]
    rfl
  refine ks_wpAt_mono (run_super SK S hsuper lk hp h0 hka J hv' hx SM hat F2 (hr.deeper _) hpa hps g (hev _) (hint _) (hsw _) (hst _) (hpl _)) (fun fl s2 z => ?_) fun _ _ z => z
  cases fl with
  | brk => exact z.elim fun _ z => z.elim fun _ z => z.2.elim
  | cont => exact z.elim fun _ z => z.elim fun _ z => z.2.elim
  | next =>
    obtain ⟨τ, H2, J2, q⟩ := z
    exact ⟨.non, H2, J2.os, J2.bare, J2.base, J2.hok, rfl, q⟩
  | ret u =>
    obtain ⟨v, τ, H2, J2, rv, q⟩ := z
    exact ⟨v, H2, J2.os, J2.bare, J2.base, J2.hok, rv, q⟩
end
end SUP
namespace CC
open PySem L2 TL
/-- a method that calls super(): where it stands -/
structure FunS (K : PySem.W.Frag) (x q : Str) (st : Stmt) (f : Addr) (fd : FuncData) (cda cc : Addr) : Prop where
  ex : ∃ (oc : Value) (od : Option Addr) (kV doc pm : Value) (an : Option Addr) (ct : Value) (osl : Array (Option Value)),
    fd = PySem.W.ksFn x q (defArgs st) (defBody st) (defScope st) .none kV doc pm an (.ref cda) ct cc ∧ K.lookup f = some ⟨oc, od, .func fd, osl⟩ ∧ PySem.W.codeIn K (.ref cda) q = true
/-- a log that refuses what breaks a rule that settles -/
noncomputable def ckS (CB : Addr) : Ck := fun _ rs rows => if (brkL rows rs).any (·.k) = true then some CB else none
theorem fnR_up {P : Program} {w : World} {K : PySem.W.Frag} {mg : Str → Option Value} {base : Heap} {CX : CXT} {k : Nat} {f : Addr} {sp : Sp} (F : FnR P w K mg base CX0 k f sp) : FnR P w K mg base CX k f sp := fun A outer s H us vs Q E hr e0 r h =>
  codeAny_mono (F A outer s H us vs Q E hr e0 r h) fun r s' z => by
    match r, z with
    | .ok (.ret u), z => exact z
    | .ok .next, z => exact z.elim
    | .ok .brk, z => exact z.elim
    | .ok .cont, z => exact z.elim
    | .error e, z => exact z.elim
section
variable {P : Program} {w : World} {K : PySem.W.Frag} {mg : Str → Option Value} {base : Heap} {kA : Addr}
abbrev nSC : List Str := ["self", "rows", "kind", "a", "b"]
abbrev nSA : List Str := ["self", "table"]
end
end CC
namespace CC
open PySem L2 TL
/-! ### rules_broken and check -/
def spBrkM (K : PySem.W.Frag) (CR : Addr) : Sp := fun vs H Q _ => ∃ (r g : Addr) (us : List V) (m : Nat) (rs : List R) (rows : List (List Nat)), vs = [.ref r, .ref g] ∧ RulesAt K CR H r m rs ∧ SqE K H g us ∧ DpAll K H us (rows.map gd) ∧ (∀ x ∈ rows, RowOk m x) ∧ Fw rows ∧ rows.length ≤ 401 ∧ (∀ r ∈ rs, r.ok m) ∧ rs.length ≤ 60 ∧ NewF R.d K H (brkL rows rs) Q
/-- check(rows): lb: whether there is a limit; ck: which exception it raises -/
def spCkM (K : PySem.W.Frag) (C CR CT : Addr) (lb : Bool) (ck : CkM) : Sp := fun vs H Q E => ∃ (lm : Option Nat) (x r q g : Addr) (w : Nat) (rs : List R) (rows0 rows : List (List Nat)) (ps : List (List (List Nat))) (us : List V), lm.isSome = lb ∧ vs = [.ref x, .ref g] ∧ LgAt K C CR CT lm H x r q w rs rows0 ps ∧ SqE K H g us ∧ DpAll K H us (rows.map gd) ∧ (∀ s ∈ rows, RowOk w s) ∧ Fw rows ∧ rows.length ≤ 401 ∧ (∀ r ∈ rs, r.ok w) ∧ rs.length ≤ 60 ∧
  (∀ c, ck lm w rs rows = some c → ∀ H', Same H H' → E (.ref c) none H') ∧ (ck lm w rs rows = none → ∀ H', Same H H' → Q .non H')
/-- more than 400 rows -/
def ckA (c5 : Addr) : CkM := fun _ _ _ rows => if 400 < rows.length then some c5 else none
/-- more than the limit -/
def ckMo (c5 : Addr) : CkM := fun lm _ _ rows => match lm with
  | some m => if m < rows.length then some c5 else none
  | none => none
/-- a broken rule that settles -/
noncomputable def ckBr (c7 : Addr) : CkM := fun _ _ rs rows => if (brkL rows rs).any (·.k) = true then some c7 else none
/-- one behind the other -/
def ckTh (a b : CkM) : CkM := fun lm w rs rows => match a lm w rs rows with
  | some c => some c
  | none => b lm w rs rows
/-- it lets nothing through with more than 400 rows -/
def CkOk (ck : CkM) : Prop := ∀ lm w rs rows, ck lm w rs rows = none → rows.length ≤ 400
theorem ckA_ok (c : Addr) : CkOk (ckA c) := fun lm w rs rows h => by
  unfold ckA at h
  split at h
  · cases h
  · omega
theorem ckTh_ok {a b : CkM} (h : CkOk a) : CkOk (ckTh a b) := fun lm w rs rows e => by
  unfold ckTh at e
  split at e
  · cases e
  · rename_i z
    exact h _ _ _ _ z
section
variable {P : Program} {w : World} {K : PySem.W.Frag} {mg : Str → Option Value} {base : Heap} {kA : Addr}
abbrev nHC : List Str := ["self", "rows"]
def spChgM (K : PySem.W.Frag) (C : Addr) : Sp := fun vs H Q _ => ∃ (lm : Option Nat) (x dx r t q t' : Addr) (hs : List V), vs = [.ref x, .ref t'] ∧ H x = some (.ins C dx (fldM lm r t q)) ∧ H q = some (.lst hs) ∧ hs.length < 1000 ∧ Q .non (upd (upd H q (.lst (hs ++ [.ref t]))) x (.ins C dx (fldM lm r t' q)))
end
end CC
namespace CC
open PySem L2 TL
/-! ### add -/
/-- what is known of the width, the rules and the rows of a log -/
structure LgOk (w : Nat) (rs : List R) (rows : List (List Nat)) : Prop where
  w1 : 1 ≤ w
  w6 : w ≤ 6
  rok : ∀ r ∈ rs, r.ok w
  r60 : rs.length ≤ 60
  ok : ∀ s ∈ rows, RowOk w s
  few : rows.length ≤ 400
/-- is_row: of rows, and of values of which NR says that they are none -/
abbrev NoR := Hp → Nat → V → Prop
def spIsRowG (K : PySem.W.Frag) (NR : NoR) : Sp := fun vs H Q E => spIsRow K vs H Q E ∨ ∃ (w : Nat) (v : V), vs = [.int (w : Int), v] ∧ NR H w v ∧ ∀ H', Same H H' → Q (.bl false) H'
def spAddM (K : PySem.W.Frag) (C CR CT : Addr) (lb : Bool) (ck : CkM) (NR : NoR) (c1 : Addr) : Sp := fun vs H Q E => ∃ (lm : Option Nat) (x r q : Addr) (w : Nat) (rs : List R) (rows : List (List Nat)) (ps : List (List (List Nat))) (v : V), lm.isSome = lb ∧ vs = [.ref x, v] ∧ LgAt K C CR CT lm H x r q w rs rows ps ∧ LgOk w rs rows ∧ ps.length < 1000 ∧
  ((∃ (tr : Addr) (row : List Nat), v = .ref tr ∧ SqT K H tr (nms row) ∧ RowOk w row ∧ Fw (rows ++ [row]) ∧ (∀ c, ck lm w rs (rows ++ [row]) = some c → ∀ H', Same H H' → E (.ref c) none H') ∧ (ck lm w rs (rows ++ [row]) = none → LgTo K C CR CT lm H x r q w rs (rows ++ [row]) (ps ++ [rows]) Q)) ∨
   (NR H w v ∧ ∀ H', Same H H' → E (.ref c1) none H'))
section
variable {P : Program} {w : World} {K : PySem.W.Frag} {mg : Str → Option Value} {base : Heap} {kA : Addr}
/-- add of a class below Log: super().add(row) -/
theorem pass_add {C CR CT c1 D f f2 cda cc : Addr} {lb : Bool} {ck : CkM} {NR : NoR} {Q : VK} {E : XK} {H : Hp} {vs : List V} (h : spAddM K C CR CT lb ck NR c1 vs H Q E) : ∃ (x dx : Addr) (fs : List (Str × V)) (v : V), vs = [.ref x, v] ∧ H x = some (.ins C dx fs) ∧ fs.lookup ("add" : Str) = none ∧ spAddM K C CR CT lb ck NR c1 vs H (fun _ H3 => Q .non H3) E := by
  obtain ⟨lm, x, r, pq, m, rs, rows, ps, v, hlb, rfl, L, ok, p1, hv⟩ := h
  obtain ⟨dx, t, hx, _⟩ := L.at_
  refine ⟨x, dx, _, v, rfl, hx, fldM_no _ _ _ _ (by decide +kernel) (by decide +kernel) (by decide +kernel) (by decide +kernel), lm, x, r, pq, m, rs, rows, ps, v, hlb, rfl, L, ok, p1, ?_⟩
  rcases hv with ⟨tr, row, rfl, ht, rok, fw, eE, to⟩ | bad
  · exact .inl ⟨tr, row, rfl, ht, rok, fw, eE, fun e H' k L' => to e H' k L'⟩
  · exact .inr bad
end
end CC
namespace CC
open PySem L2 TL
def spLInit (K : PySem.W.Frag) (C CR CT : Addr) : Sp := fun vs H Q _ => ∃ (x dx r : Addr) (w : Nat) (rs : List R), vs = [.ref x, .ref r] ∧ H x = some (.ins C dx []) ∧ RulesAt K CR (wo H x) r w rs ∧ 1 ≤ w ∧ w ≤ 6 ∧
  ∀ (H' : Hp) (q : Addr), (∀ b o, H b = some o → b ≠ x → H' b = some o) → H q = none → LogAt K C CR CT H' x r q w rs [] 0 → Q .non H'
section
variable {P : Program} {w : World} {K : PySem.W.Frag} {mg : Str → Option Value} {base : Heap} {kA : Addr}
end
end CC
/-! C.m(..), m a plain def of the class at C -/
namespace CFU
open PySem PySem.Spec PySem.Calls PyProof.Rows L2 ClX
structure CFun (K : PySem.W.Frag) (C : Addr) (mc : Value) (m : Str) (g : Addr) : Prop where
  at_ : PySem.W.findCls K (.ref C) mc m = some (.val (.ref g))
  ty : PySem.W.typeIn K (.ref g) = some (.type "function")
  kp : PySem.W.keepIn K (.ref g) = true
def tCFun (C : Addr) (sp : Sp) (E : XK) (ta : TE) (t : TA) : TE := fun σ H Q => ta σ H fun x H1 => x = .ref C ∧ t σ H1 fun vs H2 => sp vs H2 Q E
section
variable {X : Cx} {CX : CXT} {k : Nat} {C g : Addr} {mc : Value} {sp : Sp} {E : XK} {o e : Expr} {es : List Expr} {m : Str} {pos apos : Pos} {ta : TE} {t : TA} {pl : Sem Bool}
theorem pe_cfun (he : PE X o ta) (r : CRead X.K C mc) (c : CFun X.K C mc m g) (F : FnR X.prog X.w X.K X.mg X.base CX k g sp) (hr : Room k X.A) (hx : Passes CX X E) (ha : PA X (e :: es) t)
    (hst : starEach (e :: es) X.env = (false, eval e X.env) :: starEach es X.env := by rfl) (hpl : (backTo pos (starEach es X.env)).any (·.1) = false := by rfl)
    (ht : eval (.Call (.Attribute o m apos) (e :: es) [] pos) X.env = (do
      let ov ← eval o X.env
      standAt apos.atName
      let (f, first) ← holding [ov] (getMethod ov m pl)
      callWith pos f first (backTo pos (starEach (e :: es) X.env)) (backToKw pos (keywordEach [] X.env))) := by rfl) :
    PE X (.Call (.Attribute o m apos) (e :: es) [] pos) (tCFun C sp E ta t) := by
  refine ⟨fun pins s σ H Q I h => ?_⟩
  refine PySem.W.methodCall_KW (pl := pl) (thn (he.run pins s σ H _ I h) fun u s1 ⟨x, H1, I1, rx, ex, q⟩ => ?_) ht
  subst ex
  obtain rfl : u = Value.ref C := rx
  refine PySem.W.method_cls I1.kIn r.ga (PySem.W.cls_value I1.kIn r.rd c.at_ rfl ?_)
  have I2 := I1.tok (s1.toks + 1)
  refine PySem.W.callWith_K (h₀ := X.base) I.ok.mod.kin c.kp (thn (ha.run pos pins _ σ _ _ I2 q) fun us s2 ⟨vs, H2, I3, r3, q3⟩ => ⟨I3.kIn, ?_⟩) hst hpl
  exact wpAny_call (run_fnR F hr hx I3 r3 q3)
end
end CFU
namespace CC
open PySem L2 TL
/-- plain values are no instances of the class -/
structure NoIns (K : PySem.W.Frag) (C : Addr) : Prop where
  kit : ∀ n ∈ OC.oddTys, PySem.W.kitOne K (.type n) (.ref C) = some false
  sub : ∀ n ∈ OC.oddTys, PySem.W.subIn K (.type n) (.ref C) = some false
/-- isinstance(x, C), x an instance of C or a plain value -/
def rIsCX (K : PySem.W.Frag) (C : Addr) : List V → Hp → VK → Prop := fun xs H Q => (∃ a dx fs, xs = [.ref a, .ref C] ∧ H a = some (.ins C dx fs) ∧ Q (.bl true) H) ∨ ∃ y, xs = [y, .ref C] ∧ OC.OddV K H y ∧ Q (.bl false) H
theorem call_isCX {X : Cx} {C : Addr} (ic : C8.InsC X.K C) (no : NoIns X.K C) : CallR X (.builtin "isinstance") (rIsCX X.K C) := by
  intro pins s σ H xs us Q I r h
  rcases h with h | ⟨y, rfl, ⟨n, ty, hn⟩, q⟩
  · exact C8.call_isC ic pins s σ H xs us Q I r h
  · exact call_isi pins s σ H _ us Q I r ⟨y, .ref C, _, _, false, rfl, .own C, ty, no.kit n hn, q⟩
end CC
namespace CC
open PySem L2 TL
/-! ### how a log is made -/
/-- isinstance(x, C): an instance of C, or a value of which NI says that it is none -/
def rIsG (C : Addr) (NI : Hp → V → Prop) : List V → Hp → VK → Prop := fun xs H Q => (∃ a dx fs, xs = [.ref a, .ref C] ∧ H a = some (.ins C dx fs) ∧ Q (.bl true) H) ∨ ∃ y, xs = [y, .ref C] ∧ NI H y ∧ Q (.bl false) H
def IsG (K : PySem.W.Frag) (C : Addr) (NI : Hp → V → Prop) : Prop := ∀ {X : Cx}, X.K = K → CallR X (.builtin "isinstance") (rIsG C NI)
theorem isG_plain {K : PySem.W.Frag} {C : Addr} (ic : C8.InsC K C) (no : NoIns K C) : IsG K C (OC.OddV K) := by
  intro X e
  subst e
  intro pins s σ H xs us Q I r h
  exact call_isCX ic no pins s σ H xs us Q I r h
theorem fldM_put (b h p : Addr) : putF "past" (.ref p) (putF "held" (.ref h) (putF "book" (.ref b) [])) = fldM none b h p := by
  rw [fldL_put]
  unfold fldM lmF
  rw [List.append_nil]
/-- Log(v) -/
def spLInitM (K : PySem.W.Frag) (C CR CT c3 : Addr) (NI : Hp → V → Prop) : Sp := fun vs H Q E => ∃ (x dx : Addr) (v : V), vs = [.ref x, v] ∧ H x = some (.ins C dx []) ∧
  ((∃ (r : Addr) (w : Nat) (rs : List R), v = .ref r ∧ RulesAt K CR (wo H x) r w rs ∧ 1 ≤ w ∧ w ≤ 6 ∧ ∀ (H' : Hp) (q : Addr), (∀ b o, H b = some o → b ≠ x → H' b = some o) → H q = none → LgAt K C CR CT none H' x r q w rs [] [] → Q .non H') ∨
   (NI H v ∧ E (.ref c3) none H))
/-- what is no limit -/
def NoLim (K : PySem.W.Frag) (H : Hp) (v : V) : Prop := NoInt K H v ∨ ∃ z : Int, v = .int z ∧ ¬ (0 ≤ z ∧ z ≤ 400)
/-- Short(v, l) -/
def spHInit (K : PySem.W.Frag) (C CR CT c3 c1 : Addr) (NI : Hp → V → Prop) : Sp := fun vs H Q E => ∃ (x dx : Addr) (v l : V), vs = [.ref x, v, l] ∧ H x = some (.ins C dx []) ∧
  ((∃ (r : Addr) (w : Nat) (rs : List R), v = .ref r ∧ RulesAt K CR (wo H x) r w rs ∧ 1 ≤ w ∧ w ≤ 6 ∧
     ((∃ m : Nat, l = .int (m : Int) ∧ m ≤ 400 ∧ ∀ (H' : Hp) (q : Addr), (∀ b o, H b = some o → b ≠ x → H' b = some o) → H q = none → LgAt K C CR CT (some m) H' x r q w rs [] [] → Q .non H') ∨
      (NoLim K (wo H x) l ∧ ∀ H' : Hp, (∀ b o, H b = some o → b ≠ x → H' b = some o) → E (.ref c1) none H'))) ∨
   (NI H v ∧ E (.ref c3) none H))
section
variable {P : Program} {w : World} {K : PySem.W.Frag} {mg : Str → Option Value} {base : Heap} {kA : Addr}
/-- the limit behind the other fields -/
theorem LgAt.limit {C CR CT x r q dx t : Addr} {H : Hp} {w m : Nat} {rs : List R} {rows : List (List Nat)} {ps : List (List (List Nat))} (L : LgAt K C CR CT none H x r q w rs rows ps) (hx : H x = some (.ins C dx (fldM none r t q))) : LgAt K C CR CT (some m) (upd H x (.ins C dx (fldM (some m) r t q))) x r q w rs rows ps := by
  obtain ⟨⟨dx0, t0, h1, h2⟩, h3, ⟨hs, h4, h5⟩⟩ := id L
  have et : t0 = t := by
    rw [hx] at h1
    have z := congrArg (fun o => match o with | some (HO.ins _ _ fs) => fs.lookup ("held" : Str) | _ => none) h1
    simp only [fldM_h] at z
    cases z
    rfl
  subst et
  have k : Same (wos H [x, q]) (wos (upd H x (.ins C dx (fldM (some m) r t0 q))) [x, q]) := fun b o e => by
    obtain ⟨nb, e⟩ := wos_at e
    rw [wos_in nb, upd_ne (fun z => nb (by simp [z]))]
    exact e
  exact ⟨⟨dx, t0, upd_same, h2.same k⟩, h3.same k, ⟨hs, by rw [upd_ne L.ne.symm]; exact h4, h5.same k⟩⟩
end
end CC
namespace CC
open PySem L2 TL LamX
/-! ### what is no instance of a class, by its type -/
def NTy (K : PySem.W.Frag) (C : Addr) (H : Hp) (y : V) : Prop := ∃ t, TyX K H y t ∧ PySem.W.kitOne K t (.ref C) = some false
theorem isG_ty {K : PySem.W.Frag} {C : Addr} (ic : C8.InsC K C) : IsG K C (NTy K C) := by
  intro X e
  subst e
  intro pins s σ H xs us Q I r h
  rcases h with h | ⟨y, rfl, ⟨t, ty, hk⟩, q⟩
  · exact C8.call_isC ic pins s σ H xs us Q I r h
  · exact call_isi pins s σ H _ us Q I r ⟨y, .ref C, _, _, false, rfl, .own C, ty, hk, q⟩
section
variable {K : PySem.W.Frag} {C D : Addr} {H H' : Hp} {y : V}
theorem NTy.of (no : NoIns K C) (h : OC.OddV K H y) : NTy K C H y := by
  obtain ⟨n, ty, hn⟩ := h
  exact ⟨_, ty, no.kit n hn⟩
theorem NTy.ins {a dx : Addr} {fs : List (Str × V)} (ic : C8.InsC K D) (e : H a = some (.ins D dx fs)) (hk : PySem.W.kitOne K (.ref D) (.ref C) = some false) : NTy K C H (.ref a) :=
  ⟨_, .base (.ins e ic.cl ic.ha ic.hn ic.htk ic.hm), hk⟩
theorem NTy.same (h : NTy K C H y) (e : Same H H') : NTy K C H' y := by
  obtain ⟨t, ty, hk⟩ := h
  exact ⟨t, ty_same e ty, hk⟩
/-- beside the tables of code objects -/
theorem NTy.ext (h : NTy K C (nt H) y) (e : ExtN H H') : NTy K C (nt H') y := h.same (ext_nt e)
theorem NTy.le (h : NTy K C (nt H) y) : NTy K C H y := h.same nt_le
end
end CC
namespace CC
open PySem L2 TL LamX
/-! ### values that are no rows -/
/-- no value of a row -/
def ElB (K : PySem.W.Frag) (H : Hp) (v : V) : Prop := NoIntT K H v ∨ ∃ z : Int, v = .int z ∧ ¬ (0 ≤ z ∧ z ≤ 9999)
def OddE (K : PySem.W.Frag) (H : Hp) (v : V) : Prop := ElB K H v ∨ ∃ n : Nat, v = .int (n : Int) ∧ n ≤ 9999
/-- no row of the width -/
def OddR (K : PySem.W.Frag) (H : Hp) (w : Nat) (v : V) : Prop := NoTupT K H v ∨ ∃ (a : Addr) (vs : List V), v = .ref a ∧ SqT K H a vs ∧ (vs.length ≠ w ∨ (vs.length = w ∧ (∀ u ∈ vs, OddE K H u) ∧ ∃ u ∈ vs, ElB K H u))
section
variable {K : PySem.W.Frag} {H H' : Hp} {v : V} {w : Nat}
theorem NoInt.toT (h : NoInt K H v) : NoIntT K H v ∨ ∃ n, TyX K H v (.type n) ∧ n = "bool" := by
  obtain ⟨n, ty, hn⟩ := h
  by_cases hb : n = "bool"
  · exact .inr ⟨n, ty, hb⟩
  · refine .inl (.inr ⟨_, ty, kit_ty ?_⟩)
    simp only [noInts, List.mem_cons, List.not_mem_nil, or_false] at hn
    rcases hn with rfl | rfl | rfl | rfl | rfl | rfl <;> first | exact (hb rfl).elim | decide +kernel
/-- types go with the heap but for the tables of code objects -/
theorem ty_ext {t : Value} (e : ExtN H H') (h : TyX K H v t) (n : ∀ a o, v = .ref a → H a = some o → isTb o = false) : TyX K H' v t := by
  have g : ∀ {a : Addr} {o : HO}, v = .ref a → H a = some o → H' a = some o := fun ev z => e _ _ z (tb_no (n _ _ ev z))
  cases h with
  | base b =>
    refine .base ?_
    cases b with
    | non => exact .non
    | bl x => exact .bl x
    | int i => exact .int i
    | str x => exact .str x
    | flt x => exact .flt x
    | lst z => exact .lst (g rfl z)
    | frz z => exact .frz (g rfl z)
    | tup z => exact .tup (g rfl z)
    | dK z => exact .dK (g rfl z)
    | dT z => exact .dT (g rfl z)
    | ins z a b c d f => exact .ins (g rfl z) a b c d f
  | byt b => exact .byt b
  | set z => exact .set (g rfl z)
  | kList z c => exact .kList z c
  | kTuple z c => exact .kTuple z c
  | kDict z c => exact .kDict z c
  | fTuple z => exact .fTuple (g rfl z)
  | fDict z => exact .fDict (g rfl z)
theorem ty_isTb {t : Value} (h : TyX K H v t) : ∀ a o, v = .ref a → H a = some o → isTb o = false ∨ ∃ o, K.lookup a = some o := by
  intro a o ev eo
  cases h with
  | base b =>
    cases b with
    | lst z => cases ev; rw [z] at eo; cases eo; exact .inl rfl
    | frz z => cases ev; rw [z] at eo; cases eo; exact .inl rfl
    | tup z => cases ev; rw [z] at eo; cases eo; exact .inl rfl
    | dK z => cases ev; rw [z] at eo; cases eo; exact .inl rfl
    | dT z => cases ev; rw [z] at eo; cases eo; exact .inl rfl
    | ins z a b c d f => cases ev; rw [z] at eo; cases eo; exact .inl rfl
    | _ => cases ev
  | byt b => cases ev
  | set z => cases ev; rw [z] at eo; cases eo; exact .inl rfl
  | kList z c => cases ev; exact .inr ⟨_, z⟩
  | kTuple z c => cases ev; exact .inr ⟨_, z⟩
  | kDict z c => cases ev; exact .inr ⟨_, z⟩
  | fTuple z => cases ev; rw [z] at eo; cases eo; exact .inl rfl
  | fDict z => cases ev; rw [z] at eo; cases eo; exact .inl rfl
/-- the same, whatever the value is -/
theorem ty_extT {t : Value} (e : ExtN H H') (h : TyX K H v t) : TyX K H' v t := by
  have g : ∀ {a : Addr} {o : HO}, isTb o = false → H a = some o → H' a = some o := fun hb z => e _ _ z (tb_no hb)
  cases h with
  | base b =>
    refine .base ?_
    cases b with
    | non => exact .non
    | bl x => exact .bl x
    | int i => exact .int i
    | str x => exact .str x
    | flt x => exact .flt x
    | lst z => exact .lst (g rfl z)
    | frz z => exact .frz (g rfl z)
    | tup z => exact .tup (g rfl z)
    | dK z => exact .dK (g rfl z)
    | dT z => exact .dT (g rfl z)
    | ins z a b c d f => exact .ins (g rfl z) a b c d f
  | byt b => exact .byt b
  | set z => exact .set (g rfl z)
  | kList z c => exact .kList z c
  | kTuple z c => exact .kTuple z c
  | kDict z c => exact .kDict z c
  | fTuple z => exact .fTuple (g rfl z)
  | fDict z => exact .fDict (g rfl z)
theorem NoIntT.ext (h : NoIntT K H v) (e : ExtN H H') : NoIntT K H' v := h.imp id fun ⟨t, a, b⟩ => ⟨t, ty_extT e a, b⟩
theorem ElB.ext (h : ElB K H v) (e : ExtN H H') : ElB K H' v := h.imp (·.ext e) id
theorem OddE.ext (h : OddE K H v) (e : ExtN H H') : OddE K H' v := h.imp (·.ext e) id
theorem sqt_extT {a : Addr} {xs : List V} (e : ExtN H H') (h : SqT K H a xs) : SqT K H' a xs := by
  rcases h with (h | ⟨o, h⟩) | h
  · exact .inl (.inl (e _ _ h (tb_no rfl)))
  · exact .inl (.inr ⟨o, e _ _ h (tb_no rfl)⟩)
  · exact .inr h
theorem OddR.ext (h : OddR K H w v) (e : ExtN H H') : OddR K H' w v := by
  rcases h with ⟨t, a, b⟩ | ⟨a, vs, rfl, ht, hv⟩
  · exact .inl ⟨t, ty_extT e a, b⟩
  · refine .inr ⟨a, vs, rfl, sqt_extT e ht, hv.imp id fun ⟨h1, h2, u, hu, h3⟩ => ⟨h1, fun u hu => (h2 u hu).ext e, u, hu, h3.ext e⟩⟩
theorem OddR.same (h : OddR K H w v) (e : Same H H') : OddR K H' w v := h.ext (ExtN.of e)
/-- a draw changes a list of three numbers only -/
theorem ty_ran {p : Addr} {t : Value} (s : Src H p) (r : Ran H H' p) (h : TyX K H v t) : TyX K H' v t := by
  have g : ∀ {a : Addr} {o : HO}, (∀ xs, o ≠ .lst xs) → H a = some o → H' a = some o := fun hb z => r.at_ z fun y => by
    obtain ⟨o2, h2, _, _, _, rfl, _⟩ := s
    rw [y, h2] at z
    exact hb _ (Option.some.inj z).symm
  cases h with
  | base b =>
    refine .base ?_
    cases b with
    | non => exact .non
    | bl x => exact .bl x
    | int i => exact .int i
    | str x => exact .str x
    | flt x => exact .flt x
    | @lst a xs z =>
      by_cases y : a = p
      · obtain ⟨o2, h2, _, _, _, rfl, _⟩ := r.src
        rw [y]
        exact .lst h2
      · exact .lst (r.at_ z y)
    | frz z => exact .frz (g (by intro _ y; cases y) z)
    | tup z => exact .tup (g (by intro _ y; cases y) z)
    | dK z => exact .dK (g (by intro _ y; cases y) z)
    | dT z => exact .dT (g (by intro _ y; cases y) z)
    | ins z a b c d f => exact .ins (g (by intro _ y; cases y) z) a b c d f
  | byt b => exact .byt b
  | set z => exact .set (g (by intro _ y; cases y) z)
  | kList z c => exact .kList z c
  | kTuple z c => exact .kTuple z c
  | kDict z c => exact .kDict z c
  | fTuple z => exact .fTuple (g (by intro _ y; cases y) z)
  | fDict z => exact .fDict (g (by intro _ y; cases y) z)
theorem OddR.ran {p : Addr} (h : OddR K H w v) (s : Src H p) (r : Ran H H' p) : OddR K H' w v := by
  have i : ∀ {u}, NoIntT K H u → NoIntT K H' u := fun h => h.imp id fun ⟨t, a, b⟩ => ⟨t, ty_ran s r a, b⟩
  have b : ∀ {u}, ElB K H u → ElB K H' u := fun h => h.imp i id
  rcases h with ⟨t, a, b⟩ | ⟨a, vs, rfl, ht, hv⟩
  · exact .inl ⟨t, ty_ran s r a, b⟩
  · exact .inr ⟨a, vs, rfl, sqt_T (r.T s) ht, hv.imp id fun ⟨h1, h2, u, hu, h3⟩ => ⟨h1, fun u hu => (h2 u hu).imp b id, u, hu, b h3⟩⟩
end
section
variable {P : Program} {w : World} {K : PySem.W.Frag} {mg : Str → Option Value} {base : Heap} {kA : Addr}
/-- is_row of what is no row -/
def spIsRowO (K : PySem.W.Frag) : Sp := fun vs H Q _ => ∃ (w : Nat) (v : V), vs = [.int (w : Int), v] ∧ w ≤ 6 ∧ OddR K H w v ∧ ∀ H', Same H H' → Q (.bl false) H'
theorem ok_isrowO {f : Addr} {fd : FuncData} {k : Nat} (F : Fun K "is_row" "is_row" sIsRow f fd) (T : Glb K mg kA) (TT : GlbT mg) (cI : Cal P w K mg base "is_an_integer" ["thing"] (spIsIntT K) 1) : FnOk P w K mg base CX0 (k + 2) f fd ["width", "thing"] (spIsRowO K) := by
  have GI := cI.ok (k + 1) (by omega)
  refine F.ok scIsRow (fun vs H Q E h => ?_) (fun cdv A outer s H vs Q E hr h => ?_)
  · obtain ⟨w, v, rfl, _⟩ := h
    rfl
  · obtain ⟨w, v, rfl, w6, hv, q⟩ := h
    obtain ⟨tl, hlv⟩ := TT.lv
    have n := scIsRow.nd
    refine ⟨_, (pss_cons (ps_if (PW.pt (pw_or (pt_not (pt_val (pe_callB call_isi (by rfl) T.isi (by decide +kernel) (pa_cons (pv 1) (pa_cons (pe_bltn (v := .ty "tuple") (by rfl) T.tup (by decide +kernel) rfl) pa_nil))))) (pw_or1 (pt_cmpR op_ne (pe_callB call_len_seq (by rfl) T.len PySem.boot_len (pa_cons (pv 1) pa_nil)) (pv 0) (nomark _))))) (pss_one (ps_ret pe_bl)) pss_nil)
      (pss_one (ps_ret (pe_callB (cr_all rfl) (by rfl) T.all (by decide +kernel) (pa_cons (pe_lc (own := [("part", 2)]) (g := gName 2) (tt := tYes) rfl n (pi_tup (pv 1)) (blkOk_by (N := nIRow) (sc := defScope sIsRow) (by decide +kernel))
        (fun _ _ _ _ _ => (pg_name (i := 2) n rfl (.inl rfl))) (fun _ _ _ _ _ => pts_nil) (fun _ _ _ _ _ => (pe_and (pe_call GI hr rfl cI.g cI.kp cI.b .nil pass0 (pa_cons (pv 2) pa_nil)) (pe_one (pe_chain op_le op_le pe_int (pv 2) (pe_glob (v := .int 9999) rfl hlv ⟨_, rfl⟩)))))) pa_nil))))), ?_⟩
    rcases hv with ⟨t, ty, hk⟩ | ⟨t, us, rfl, ht, hl⟩
    · exact ⟨_, rfl, _, _, _, _, false, rfl, .ty _, ty, hk, _, rfl, iteT (q _ (Same.refl _))⟩
    refine ⟨_, rfl, _, _, _, _, true, rfl, .ty _, ty_tup ht, kit_ty (by decide +kernel), _, rfl, iteF ?_⟩
    refine ⟨_, rfl, t, _, rfl, .inr ht, _, rfl, rfl, _, rfl, ?_⟩
    rcases hl with hl | ⟨hl, hE, ub, hub, hbad⟩
    · rw [show (!decide (V.int ((us.length : Nat) : Int) = V.int (w : Int))) = true by rw [decide_eq_false (fun z => hl (by injection z with z; omega))]; rfl]
      exact iteT (q _ (Same.refl _))
    rw [show (!decide (V.int ((us.length : Nat) : Int) = V.int (w : Int))) = false by rw [hl]; simp]
    refine iteF ?_
    refine ⟨_, rfl, t, rfl, ⟨_, ht⟩, fun D nD => ?_⟩
    refine lc_tup (xs := us) (fun i H1 => Same H (wo H1 D) ∧ ∃ bs : List Bool, H1 D = some (.lst (bs.map V.bl)) ∧ bs.length = i ∧ i ≤ us.length ∧ ∀ j u, j < i → us[j]? = some u → ElB K H u → bs.all id = false) ⟨?_, [], upd_same, rfl, Nat.zero_le _, fun j u h => absurd h (Nat.not_lt_zero _)⟩ (fun i H1 _ z => same_t (z.1.trans (wo_le D)) ht) ?_ ?_
    · rw [wo_upd]
      exact fun b o e => by rw [wo_ne (ne_of_none e nD)]; exact e
    · rintro i v H1 hv ⟨e1, bs, e2, e3, e3b, e4⟩
      have il := (List.getElem?_eq_some_iff.mp hv).1
      have sH : Same H H1 := e1.trans (wo_le D)
      have push : ∀ b : Bool, (ElB K H v → b = false) → ∃ acc, H1 D = some (.lst acc) ∧ acc.length < sizeLine ∧ Same H (wo (upd H1 D (.lst (acc ++ [V.bl b]))) D) ∧ ∃ bs : List Bool, (upd H1 D (.lst (acc ++ [V.bl b]))) D = some (.lst (bs.map V.bl)) ∧ bs.length = i + 1 ∧ i + 1 ≤ us.length ∧ ∀ j u, j < i + 1 → us[j]? = some u → ElB K H u → bs.all id = false := fun b hb => by
        refine ⟨_, e2, small1000 (by rw [List.length_map]; omega), ?_, bs ++ [b], ?_, by rw [List.length_append, e3]; rfl, by omega, fun j u hj hu hbu => ?_⟩
        · rw [wo_upd]
          exact e1
        · rw [upd_same, List.map_append]
          rfl
        · rw [List.all_append]
          by_cases z : j = i
          · subst z
            rw [hv] at hu
            cases hu
            rw [hb hbu]
            simp
          · rw [e4 j u (by omega) hu hbu]
            rfl
      refine ⟨rfl, yes_if ⟨_, rfl, ?_⟩⟩
      rcases hE v (List.mem_of_getElem? hv) with (no | ⟨z, rfl, hz⟩) | ⟨y, rfl, y9⟩
      · exact .inr ⟨v, rfl, no.ext (ExtN.of sH), _, rfl, iteF (push false fun _ => rfl)⟩
      · refine .inl ⟨z, rfl, _, rfl, iteT ?_⟩
        refine ⟨_, rfl, _, _, rfl, rfl, _, rfl, ?_⟩
        by_cases h1 : (0 : Int) ≤ z
        · refine iteT' (decide_eq_true h1) ⟨_, _, rfl, rfl, ?_⟩
          dsimp only
          rw [decide_eq_false (show ¬ z ≤ (9999 : Int) from fun h => hz ⟨h1, h⟩)]
          exact push false fun _ => rfl
        · exact iteF' (decide_eq_false h1) (push false fun _ => rfl)
      · refine .inl ⟨_, rfl, _, rfl, iteT ?_⟩
        refine ⟨_, rfl, _, _, rfl, rfl, _, rfl, ?_⟩
        refine iteT' (decide_eq_true (by omega)) ⟨_, _, rfl, rfl, ?_⟩
        dsimp only
        rw [decide_eq_true (show ((y : Nat) : Int) ≤ (9999 : Int) by omega)]
        refine push true fun hb => ?_
        rcases hb with (⟨b, z⟩ | ⟨t', ty', hk'⟩) | ⟨z, e, hz⟩
        · cases z
        · cases ty' with
          | base b => cases b; rw [kit_ty (by decide +kernel : kitB "int" "int" = some true)] at hk'; cases hk'
        · cases e
          exact absurd ⟨by omega, by omega⟩ hz
    rintro H1 ⟨e1, bs, e2, e3, _, e4⟩
    refine ⟨D, _, rfl, SqL.of e2, ?_⟩
    obtain ⟨j, hj, hju⟩ := List.getElem_of_mem hub
    rw [e4 j ub hj (by rw [List.getElem?_eq_getElem hj, hju]) hbad]
    exact q H1 (e1.trans (wo_le D))
end
end CC
namespace CC
open PySem L2
/-! ### the dict of ways -/
def Ents (H : Hp) : List (Key × V) → List (Nat × List Nat) → Prop
  | [], [] => True
  | (k, v) :: r, (c, w) :: s => k = Sum.inl (c : Int) ∧ (∃ t, v = .ref t ∧ H t = some (.tup (nms w))) ∧ Ents H r s
  | [], _ :: _ => False
  | _ :: _, [] => False
theorem Ents.mono {H H' : Hp} (e : ∀ t xs, H t = some (.tup xs) → H' t = some (.tup xs)) : ∀ {kvs : List (Key × V)} {ws : List (Nat × List Nat)}, Ents H kvs ws → Ents H' kvs ws
  | [], [], _ => trivial
  | [], _ :: _, h => False.elim h
  | _ :: _, [], h => False.elim h
  | (k, v) :: r, (c, w) :: s, ⟨h1, ⟨t, h2, h3⟩, h4⟩ => ⟨h1, ⟨t, h2, e _ _ h3⟩, Ents.mono e h4⟩
theorem Ents.len {H : Hp} : ∀ {kvs : List (Key × V)} {ws : List (Nat × List Nat)}, Ents H kvs ws → kvs.length = ws.length
  | [], [], _ => rfl
  | [], _ :: _, h => False.elim h
  | _ :: _, [], h => False.elim h
  | (k, v) :: r, (c, w) :: s, ⟨_, _, h⟩ => congrArg (· + 1) (Ents.len h)
theorem Ents.app {H : Hp} : ∀ {kvs kvs2 : List (Key × V)} {ws ws2 : List (Nat × List Nat)}, Ents H kvs ws → Ents H kvs2 ws2 → Ents H (kvs ++ kvs2) (ws ++ ws2)
  | [], _, [], _, _, h => h
  | [], _, _ :: _, _, h, _ => False.elim h
  | _ :: _, _, [], _, h, _ => False.elim h
  | (k, v) :: r, _, (c, w) :: s, _, ⟨h1, h2, h3⟩, h => ⟨h1, h2, Ents.app h3 h⟩
theorem Ents.keys {H : Hp} : ∀ {kvs : List (Key × V)} {ws : List (Nat × List Nat)}, Ents H kvs ws → (kvs.map fun kv => kV kv.1) = nms (ws.map (·.1))
  | [], [], _ => rfl
  | [], _ :: _, h => False.elim h
  | _ :: _, [], h => False.elim h
  | (k, v) :: r, (c, w) :: s, ⟨h1, _, h⟩ => by
    subst h1
    rw [List.map_cons, Ents.keys h]
    rfl
theorem Ents.none {H : Hp} {c : Nat} : ∀ {kvs : List (Key × V)} {ws : List (Nat × List Nat)}, Ents H kvs ws → c ∉ ws.map (·.1) → valV kvs (Sum.inl (c : Int)) = none
  | [], [], _, _ => rfl
  | [], _ :: _, h, _ => False.elim h
  | _ :: _, [], h, _ => False.elim h
  | (k, v) :: r, (d, w) :: s, ⟨h1, _, h⟩, n => by
    subst h1
    rw [List.map_cons, List.mem_cons, not_or] at n
    rw [valV_neg (fun e => n.1 (by have := Sum.inl.inj e; simp only at this ⊢; omega))]
    exact Ents.none h n.2
theorem Ents.some {H : Hp} {c : Nat} {u : List Nat} : ∀ {kvs : List (Key × V)} {ws : List (Nat × List Nat)}, Ents H kvs ws → (ws.map (·.1)).Nodup → (c, u) ∈ ws → ∃ t, valV kvs (Sum.inl (c : Int)) = some (.ref t) ∧ H t = some (.tup (nms u))
  | [], [], _, _, h => nomatch h
  | [], _ :: _, h, _, _ => False.elim h
  | _ :: _, [], h, _, _ => False.elim h
  | (k, v) :: r, (d, w) :: s, ⟨h1, ⟨t, h2, h3⟩, h⟩, nd, m => by
    subst h1 h2
    rw [List.map_cons, List.nodup_cons] at nd
    rcases List.mem_cons.mp m with e | m
    · cases e
      exact ⟨t, valV_pos rfl, h3⟩
    · have ne : ¬ (c = d) := fun e => nd.1 (List.mem_map.mpr ⟨(c, u), m, e⟩)
      obtain ⟨t2, e2, h2⟩ := Ents.some h nd.2 m
      exact ⟨t2, (valV_neg (fun e => ne (by have := Sum.inl.inj e; omega))).trans e2, h2⟩
def spFw (K : PySem.W.Frag) : Sp := fun vs H Q _ => ∃ (a : Addr) (us : List V) (ps : List (Nat × Nat)) (st : Nat), vs = [.ref a, .int (st : Int)] ∧ SqL K H a us ∧ DpAll K H us (ps.map prd) ∧ (∀ x ∈ ps, x.1 < 6 ∧ x.2 < 6) ∧ st < 6 ∧ ps.length ≤ 1000 ∧
  ∀ (D : Addr) (kvs : List (Key × V)) (ws : List (Nat × List Nat)) (H' : Hp), Same H H' → H D = none → H' D = some (.dK kvs) → Ents H' kvs ws → FW ps st ws → Q (.ref D) H'
theorem mem_take_bs {ps : List (Nat × Nat)} {c b : Nat} : b ∈ (ps.filter fun p => decide (p.1 = c)).map (·.2) ↔ (c, b) ∈ ps := by
  simp only [List.mem_map, List.mem_filter, decide_eq_true_eq]
  constructor
  · rintro ⟨⟨x, y⟩, ⟨h1, h2⟩, h3⟩
    simp only at h2 h3
    subst h2 h3
    exact h1
  · exact fun h => ⟨(c, b), ⟨h, rfl⟩, rfl⟩
/-- a sorted list of such numbers -/
theorem nats_of {ns : List Nat} {ns' : List Int} (h : ns'.Perm (ns.map fun (n : Nat) => (n : Int))) : ∃ ms : List Nat, ns' = ms.map (fun (n : Nat) => (n : Int)) ∧ ms.Perm ns := by
  refine ⟨ns'.map Int.toNat, ?_, ?_⟩
  · rw [List.map_map]
    have : ∀ x ∈ ns', ((fun (n : Nat) => (n : Int)) ∘ Int.toNat) x = x := fun x hx => by
      obtain ⟨n, _, rfl⟩ := List.mem_map.mp (h.mem_iff.mp hx)
      simp
    rw [List.map_congr_left this]
    simp
  · have := h.map Int.toNat
    rw [List.map_map] at this
    have e : (Int.toNat ∘ fun (n : Nat) => (n : Int)) = id := by
      funext n
      simp
    rw [e, List.map_id] at this
    exact this
theorem nms_ints (ns : List Nat) : nms ns = (ns.map fun (n : Nat) => (n : Int)).map V.int := by
  unfold nms
  rw [List.map_map]
  rfl
theorem few6' {ws : List (Nat × List Nat)} (nd : (ws.map (·.1)).Nodup) (h : ∀ e ∈ ws, e.1 < 6) : ws.length ≤ 6 := by
  have := few6 nd fun x hx => by
    obtain ⟨e, he, rfl⟩ := List.mem_map.mp hx
    exact h e he
  rwa [List.length_map] at this
def bsF (ps : List (Nat × Nat)) (c : Nat) : List Nat := (ps.filter fun p => decide (p.1 = c)).map (·.2)
theorem bsF_step {ps : List (Nat × Nat)} {c i x y : Nat} (h : ps[i]? = some (x, y)) : bsF (ps.take (i + 1)) c = bsF (ps.take i) c ++ (if x = c then [y] else []) := by
  unfold bsF
  rw [take1 h, List.filter_append, List.map_append]
  by_cases e : x = c
  · simp [e]
  · simp [e]
theorem bsF_len (ps : List (Nat × Nat)) (c : Nat) : (bsF ps c).length ≤ ps.length := by
  unfold bsF
  rw [List.length_map]
  exact List.length_filter_le _ _
section
variable {P : Program} {w : World} {K : PySem.W.Frag} {mg : Str → Option Value} {base : Heap} {kA : Addr}
abbrev nFw : List Str := ["pairs", "start", "ways", "waiting", "column", "b", "first", "second"]
end
end CC
namespace CC
open PySem L2
theorem wk_of {ps : List (Nat × Nat)} {a b : Nat} (h : Rch ps a b) : ∃ w, Wk ps a b w := by
  induction h with
  | refl => exact ⟨_, .one⟩
  | step _ h ih =>
    obtain ⟨w, hw⟩ := ih
    exact ⟨_, hw.step h⟩
theorem rch_of {ps : List (Nat × Nat)} {a b : Nat} {w : List Nat} (h : Wk ps a b w) : Rch ps a b := by
  induction h with
  | one => exact .refl
  | step _ h ih => exact ih.step h
theorem FW.keys {ps : List (Nat × Nat)} {st : Nat} {ws : List (Nat × List Nat)} (h : FW ps st ws) (c : Nat) : c ∈ ws.map (·.1) ↔ Rch ps st c := by
  constructor
  · intro z
    obtain ⟨e, he, rfl⟩ := List.mem_map.mp z
    exact rch_of (h.wk e he)
  · intro z
    obtain ⟨w, hw⟩ := wk_of z
    obtain ⟨v, hv, _⟩ := h.fst c w hw
    exact List.mem_map.mpr ⟨_, hv, rfl⟩
def spReached (K : PySem.W.Frag) : Sp := fun vs H Q _ => ∃ (a : Addr) (us : List V) (ps : List (Nat × Nat)) (st : Nat), vs = [.ref a, .int (st : Int)] ∧ SqL K H a us ∧ DpAll K H us (ps.map prd) ∧ (∀ x ∈ ps, x.1 < 6 ∧ x.2 < 6) ∧ st < 6 ∧ ps.length ≤ 1000 ∧
  ∀ (p : Addr) (fs : List Nat) (H' : Hp), Same H H' → H p = none → H' p = some (.lst (nms fs)) → (∀ c, c ∈ fs ↔ Rch ps st c) → fs.Pairwise (· < ·) → Q (.ref p) H'
section
variable {P : Program} {w : World} {K : PySem.W.Frag} {mg : Str → Option Value} {base : Heap} {kA : Addr}
end
end CC
namespace CC
open PySem L2
/-! ### what follows -/
inductive RT (S : Nat → Nat → Prop) (a : Nat) : Nat → Prop
  | refl : RT S a a
  | step {b c : Nat} : RT S a b → S b c → RT S a c
theorem rch_rt {ps : List (Nat × Nat)} {S : Nat → Nat → Prop} (h : ∀ x y, (x, y) ∈ ps ↔ S x y) {a b : Nat} : Rch ps a b ↔ RT S a b := by
  constructor
  · intro r
    induction r with
    | refl => exact .refl
    | step _ q ih => exact ih.step ((h _ _).mp q)
  · intro r
    induction r with
    | refl => exact .refl
    | step _ q ih => exact ih.step ((h _ _).mpr q)
theorem RT.trans {S : Nat → Nat → Prop} {a b c : Nat} (h1 : RT S a b) (h2 : RT S b c) : RT S a c := by
  induction h2 with
  | refl => exact h1
  | step _ h ih => exact ih.step h
/-- a given rule, or one that can be turned round -/
def Lk (rs : List R) (k : Bool) (x y : Nat) : Prop := (⟨k, x, y⟩ : R) ∈ rs ∨ ((⟨k, y, x⟩ : R) ∈ rs ∧ Rch (rs.map down) x y ∧ Rch (rs.map down) y x)
def Fol (rs : List R) (r : R) : Prop := RT (Lk rs r.k) r.a r.b
def lsd (fs : List Nat) : PyData := .list (fs.map fun (n : Nat) => PyData.int (n : Int))
theorem lsd_at {K : PySem.W.Frag} {H : Hp} {v : V} {fs : List Nat} (h : Dp K H v (lsd fs)) : ∃ p, v = .ref p ∧ SqL K H p (nms fs) := by
  obtain ⟨p, us, rfl, h1, h2⟩ := dp_l h
  rw [nms_dps h2] at h1
  exact ⟨p, rfl, h1⟩
def spLinks (K : PySem.W.Frag) : Sp := fun vs H Q _ => ∃ (w : Nat) (g : Addr) (us : List V) (rs : List R) (k : Bool), vs = [.int (w : Int), .ref g, .str (kd k)] ∧ SqT K H g us ∧ DpAll K H us (rs.map R.d) ∧ (∀ r ∈ rs, r.ok w) ∧ w ≤ 6 ∧ rs.length ≤ 60 ∧
  ∀ (p : Addr) (us' : List V) (ps : List (Nat × Nat)) (H' : Hp), Same H H' → H p = none → H' p = some (.lst us') → DpAll K (wo H' p) us' (ps.map prd) → (∀ x y, (x, y) ∈ ps ↔ Lk rs k x y) → ps.length ≤ 120 → Q (.ref p) H'
theorem kd_ne (j k : Bool) : decide (V.str (kd j) = V.str (kd k)) = decide (j = k) := by
  cases j <;> cases k <;> decide +kernel
def pk (rs : List R) (k : Bool) : List (Nat × Nat) := (rs.filter fun r => decide (r.k = k)).map fun r => (r.a, r.b)
theorem pk_mem {rs : List R} {k : Bool} {x y : Nat} : (x, y) ∈ pk rs k ↔ (⟨k, x, y⟩ : R) ∈ rs := by
  simp only [pk, List.mem_map, List.mem_filter, decide_eq_true_eq, Prod.mk.injEq]
  constructor
  · rintro ⟨r, ⟨h1, rfl⟩, rfl, rfl⟩
    exact h1
  · intro h
    exact ⟨_, ⟨h, rfl⟩, rfl, rfl⟩
theorem pk_step {rs : List R} {k : Bool} {i : Nat} {r : R} (h : rs[i]? = some r) : pk (rs.take (i + 1)) k = pk (rs.take i) k ++ (if r.k = k then [(r.a, r.b)] else []) := by
  rw [SG.take_one h, pk, List.filter_append, List.map_append]
  by_cases e : r.k = k
  · simp [pk, e]
  · simp [pk, e]
/-- those of the pairs that are turned, by the lists of what lies below -/
def trn (fss : List (List Nat)) (ps : List (Nat × Nat)) : List (Nat × Nat) := (ps.filter fun p => decide (p.1 ∈ fss.getD p.2 []) && decide (p.2 ∈ fss.getD p.1 [])).map fun p => (p.2, p.1)
theorem trn_step {fss : List (List Nat)} {ps : List (Nat × Nat)} {i : Nat} {p : Nat × Nat} (h : ps[i]? = some p) : trn fss (ps.take (i + 1)) = trn fss (ps.take i) ++ (if (decide (p.1 ∈ fss.getD p.2 []) && decide (p.2 ∈ fss.getD p.1 [])) = true then [(p.2, p.1)] else []) := by
  rw [SG.take_one h, trn, List.filter_append, List.map_append]
  by_cases e : (decide (p.1 ∈ fss.getD p.2 []) && decide (p.2 ∈ fss.getD p.1 [])) = true
  · rw [if_pos e]
    simp only [trn, List.filter_cons, e, if_true, List.filter_nil, List.map_cons, List.map_nil]
  · rw [if_neg e]
    simp only [trn, List.filter_cons, e, if_false, List.filter_nil, List.map_nil]
    rfl
theorem down_lt {rs : List R} {w : Nat} (h : ∀ r ∈ rs, r.ok w) : ∀ x ∈ rs.map down, x.1 < w ∧ x.2 < w := fun x hx => by
  obtain ⟨r, hr, rfl⟩ := List.mem_map.mp hx
  have := h r hr
  unfold down
  cases r.k
  · exact ⟨this.2.1, this.1⟩
  · exact ⟨this.1, this.2.1⟩
theorem getD_left {α : Type} {l r : List α} {i : Nat} {d : α} (h : i < l.length) : (l ++ r).getD i d = l.getD i d := by
  simp [List.getD, List.getElem?_append_left h]
theorem getD_last {α : Type} {l : List α} {x d : α} : (l ++ [x]).getD l.length d = x := by
  simp [List.getD]
section
variable {P : Program} {w : World} {K : PySem.W.Frag} {mg : Str → Option Value} {base : Heap} {kA : Addr}
abbrev nLk : List Str := ["width", "rules", "kind", "steps", "below", "pairs", "turned", "column", "word", "a", "b"]
end
end CC
namespace CC
open PySem L2
def spFollows (K : PySem.W.Frag) : Sp := fun vs H Q _ => ∃ (w : Nat) (g : Addr) (us : List V) (rs : List R) (v : V) (r : R), vs = [.int (w : Int), .ref g, v] ∧ SqT K H g us ∧ DpAll K H us (rs.map R.d) ∧ (∀ r ∈ rs, r.ok w) ∧ w ≤ 6 ∧ rs.length ≤ 60 ∧ Dp K H v r.d ∧ r.ok w ∧
  ∀ (b : Bool) (H' : Hp), Same H H' → (b = true ↔ Fol rs r) → Q (.bl b) H'
def spCall (K : PySem.W.Frag) (C : Addr) : Sp := fun vs H Q _ => ∃ (x : Addr) (w : Nat) (rs : List R) (v : V) (r : R), vs = [.ref x, v] ∧ RulesAt K C H x w rs ∧ (∀ r ∈ rs, r.ok w) ∧ w ≤ 6 ∧ rs.length ≤ 60 ∧ Dp K H v r.d ∧ r.ok w ∧
  ∀ (b : Bool) (H' : Hp), Same H H' → (b = true ↔ Fol rs r) → Q (.bl b) H'
theorem lk_lt {rs : List R} {w : Nat} (ho : ∀ r ∈ rs, r.ok w) {k : Bool} {x y : Nat} (h : Lk rs k x y) : x < w ∧ y < w := by
  rcases h with h | ⟨h, _⟩
  · exact ⟨(ho _ h).1, (ho _ h).2.1⟩
  · exact ⟨(ho _ h).2.1, (ho _ h).1⟩
/-- rules(rule) -/
structure CallC (P : Program) (w : World) (K : PySem.W.Frag) (mg : Str → Option Value) (base : Heap) (C : Addr) (l : Nat) where
  fC : Addr
  cC : StX.CallO K C fC
  ok : ∀ k, l ≤ k → FnR P w K mg base CX0 k fC (spCall K C)
section
variable {P : Program} {w : World} {K : PySem.W.Frag} {mg : Str → Option Value} {base : Heap} {kA : Addr}
abbrev nFo : List Str := ["width", "rules", "rule", "kind", "first", "second"]
abbrev nCa : List Str := ["self", "rule"]
end
end CC
namespace CC
open PySem L2 TL
/-! ### is_column and is_rule of any value -/
def NoColT (K : PySem.W.Frag) (H : Hp) (w : Nat) (v : V) : Prop := NoIntT K H v ∨ ∃ z : Int, v = .int z ∧ ¬ (0 ≤ z ∧ z < (w : Int))
/-- three values that are no rule -/
def NoR3T (K : PySem.W.Frag) (H : Hp) (w : Nat) (x y z : V) : Prop :=
  NoStrT K H x ∨ (∃ s : Str, x = .str s ∧ inV (.str s) [.str "settles", .str "within"] = false) ∨
  (∃ s : Str, x = .str s ∧ inV (.str s) [.str "settles", .str "within"] = true ∧ (NoColT K H w y ∨ (∃ a : Nat, y = .int (a : Int) ∧ a < w ∧ (NoColT K H w z ∨ z = .int (a : Int)))))
def NoRlT (K : PySem.W.Frag) (H : Hp) (w : Nat) (v : V) : Prop :=
  NoTupT K H v ∨ (∃ (t : Addr) (xs : List V), v = .ref t ∧ SqT K H t xs ∧ (xs.length ≠ 3 ∨ ∃ x y z, xs = [x, y, z] ∧ NoR3T K H w x y z))
def spIsColI (K : PySem.W.Frag) : Sp := fun vs H Q E => spIsCol vs H Q E ∨ ∃ (w : Nat) (v : V), vs = [.int (w : Int), v] ∧ NoColT K H w v ∧ Q (.bl false) H
def spIsRuleI (K : PySem.W.Frag) : Sp := fun vs H Q E => spIsRule K vs H Q E ∨ ∃ (w : Nat) (v : V), vs = [.int (w : Int), v] ∧ NoRlT K H w v ∧ Q (.bl false) H
section
variable {P : Program} {w : World} {K : PySem.W.Frag} {mg : Str → Option Value} {base : Heap} {kA : Addr}
theorem ok_iscolI {f : Addr} {fd : FuncData} {k : Nat} (F : Fun K "is_column" "is_column" sIsCol f fd) (T : Glb K mg kA) (cI : Cal P w K mg base "is_an_integer" ["thing"] (spIsIntT K) 1) : FnOk P w K mg base CX0 (k + 2) f fd ["width", "thing"] (spIsColI K) := by
  have GI := cI.ok (k + 1) (by omega)
  refine fn_or (ok_iscol F T (cI.imp fun _ _ _ _ h => .inl h)) ?_
  refine F.ok scIsCol (fun vs H Q E h => ?_) (fun cdv A outer s H vs Q E hr h => ?_)
  · obtain ⟨w, v, rfl, _⟩ := h
    rfl
  · obtain ⟨m, v, rfl, hv, q⟩ := h
    refine ⟨_, pss_one (ps_ret (pe_and (pe_call GI hr rfl cI.g cI.kp cI.b .nil pass0 (pa_cons (pv 1) pa_nil))
      (pe_one (pe_chain op_le op_lt pe_int (pv 1) (pv 0))))), ?_⟩
    rcases hv with no | ⟨z, rfl, hz⟩
    · exact ⟨_, rfl, .inr ⟨v, rfl, no, _, rfl, iteF q⟩⟩
    · refine ⟨_, rfl, .inl ⟨z, rfl, _, rfl, iteT ?_⟩⟩
      refine ⟨_, rfl, _, _, rfl, rfl, _, rfl, ?_⟩
      by_cases h1 : (0 : Int) ≤ z
      · refine iteT' (decide_eq_true h1) ⟨_, rfl, _, _, rfl, rfl, ?_⟩
        show Q (.bl (decide (z < (m : Int)))) H
        rw [decide_eq_false (show ¬ z < (m : Int) from fun h => hz ⟨h1, h⟩)]
        exact q
      · exact iteF' (decide_eq_false h1) q
theorem ok_isruleI {f : Addr} {fd : FuncData} {k : Nat} (F : Fun K "is_rule" "is_rule" sIsRule f fd) (T : Glb K mg kA) (cC : Cal P w K mg base "is_column" ["width", "thing"] (spIsColI K) 2) : FnOk P w K mg base CX0 (k + 3) f fd ["width", "thing"] (spIsRuleI K) := by
  have GC := cC.ok (k + 2) (by omega)
  refine fn_or (ok_isrule F T (cC.imp fun _ _ _ _ h => .inl h)) ?_
  refine F.ok scIsRule (fun vs H Q E h => ?_) (fun cdv A outer s H vs Q E hr h => ?_)
  · obtain ⟨w, v, rfl, _⟩ := h
    rfl
  · obtain ⟨m, v, rfl, hv, q⟩ := h
    have hk : SqT K H kA [.str "settles", .str "within"] := .inr T.kseq
    have nd := scIsRule.nd
    refine ⟨_, pss_cons (ps_if (PW.pt (pw_or (pt_not (pt_val (pe_callB call_isi (by rfl) T.isi (by decide +kernel) (pa_cons (pv 1) (pa_cons (pe_bltn (v := .ty "tuple") (by rfl) T.tup (by decide +kernel) rfl) pa_nil)))))
          (pw_or1 (pt_cmpR op_ne (pe_callB call_len_seq (by rfl) T.len PySem.boot_len (pa_cons (pv 1) pa_nil)) pe_int (nomark _))))) (pss_one (ps_ret pe_bl)) pss_nil)
      (pss_cons (ps_asg (pv 1) (pg_tup rfl (pgs_cons (pg_name (i := 2) nd rfl (.inl rfl)) (pgs_cons (pg_name (i := 3) nd rfl (.inl rfl)) (pgs_cons (pg_name (i := 4) nd rfl (.inl rfl)) pgs_nil)))))
      (pss_cons (ps_if (PW.pt (pw_or (pt_not (pt_val (pe_callB call_isi (by rfl) T.isi (by decide +kernel) (pa_cons (pv 2) (pa_cons (pe_bltn (v := .ty "str") (by rfl) T.str (by decide +kernel) rfl) pa_nil)))))
          (pw_or1 (pt_cmpR op_notIn_seq (pv 2) (pe_glob (v := .ref kA) rfl T.knd rfl) (by rfl))))) (pss_one (ps_ret pe_bl)) pss_nil)
      (pss_one (ps_ret (pe_and (pe_call GC hr rfl cC.g cC.kp cC.b .nil pass0 (pa_cons (pv 0) (pa_cons (pv 3) pa_nil)))
        (pe_and (pe_call GC hr rfl cC.g cC.kp cC.b .nil pass0 (pa_cons (pv 0) (pa_cons (pv 4) pa_nil))) (pe_one (pe_cmpR op_ne (pv 3) (pv 4) (nomark _))))))))), ?_⟩
    rcases hv with ⟨n, ty, hn⟩ | ⟨t, xs, rfl, ht, hx⟩
    · exact ⟨_, rfl, _, _, _, _, false, rfl, .ty _, ty, hn, _, rfl, iteT q⟩
    refine ⟨_, rfl, _, _, _, _, true, rfl, .ty _, ty_tup ht, kit_ty (by decide +kernel), _, rfl, iteF ?_⟩
    rcases hx with hl | ⟨x, y, z, rfl, h3⟩
    · refine ⟨_, rfl, t, _, rfl, .inr ht, rfl, _, rfl, iteT' ?_ q⟩
      show (!decide (V.int ((xs.length : Nat) : Int) = V.int 3)) = true
      rw [decide_eq_false (fun e => hl (by injection e with e; omega))]
      rfl
    refine ⟨_, rfl, t, _, rfl, .inr ht, rfl, _, rfl, iteF ?_⟩
    refine ⟨_, rfl, t, _, rfl, ht, rfl, _, _, rfl, _, _, rfl, _, _, rfl, rfl, ?_⟩
    rcases h3 with ⟨n, ty, hn⟩ | ⟨s, rfl, hs⟩ | ⟨s, rfl, hs, hc⟩
    · exact ⟨_, rfl, _, _, _, _, false, rfl, .ty _, ty, hn, _, rfl, iteT q⟩
    · refine ⟨_, rfl, _, _, _, _, true, rfl, .ty _, .base (.str _), kit_ty (by decide +kernel), _, rfl, iteF ?_⟩
      refine ⟨_, rfl, kA, _, rfl, .inr hk, rfl, rfl, _, rfl, ?_⟩
      rw [hs]
      exact iteT q
    refine ⟨_, rfl, _, _, _, _, true, rfl, .ty _, .base (.str _), kit_ty (by decide +kernel), _, rfl, iteF ?_⟩
    refine ⟨_, rfl, kA, _, rfl, .inr hk, rfl, rfl, _, rfl, ?_⟩
    rw [hs]
    refine iteF ?_
    rcases hc with hy | ⟨a, rfl, ha, hz⟩
    · exact ⟨_, rfl, _, rfl, .inr ⟨m, y, rfl, hy, _, rfl, iteF q⟩⟩
    refine ⟨_, rfl, _, rfl, .inl ⟨m, a, rfl, ha, _, rfl, iteT ?_⟩⟩
    rcases hz with hz | rfl
    · exact ⟨_, rfl, _, rfl, .inr ⟨m, z, rfl, hz, _, rfl, iteF q⟩⟩
    refine ⟨_, rfl, _, rfl, .inl ⟨m, a, rfl, ha, _, rfl, iteT ?_⟩⟩
    refine ⟨_, rfl, _, rfl, rfl, ?_⟩
    show Q (.bl (!decide (V.int (a : Int) = V.int (a : Int)))) H
    rw [decide_eq_true rfl]
    exact q
/-! ### is_width of any value -/
theorem ok_iswidthI_ {f : Addr} {fd : FuncData} {k : Nat} (F : Fun K "is_width" "is_width" sIsWidth f fd) (T : Glb K mg kA) (cI : Cal P w K mg base "is_an_integer" ["thing"] (spIsIntT K) 1) : FnOk P w K mg base CX0 (k + 2) f fd ["thing"] (fun vs H Q E => spIsWidth vs H Q E ∨ ∃ v, vs = [v] ∧ (NoIntT K H v ∨ ∃ z : Int, v = .int z ∧ ¬ (1 ≤ z ∧ z ≤ 6)) ∧ Q (.bl false) H) := by
  have GI := cI.ok (k + 1) (by omega)
  refine fn_or (ok_iswidth F T (cI.imp fun _ _ _ _ h => .inl h)) ?_
  refine F.ok scIsWidth (fun vs H Q E h => ?_) (fun cdv A outer s H vs Q E hr h => ?_)
  · obtain ⟨v, rfl, _⟩ := h
    rfl
  · obtain ⟨v, rfl, hv, q⟩ := h
    obtain ⟨tw, hw⟩ := T.wid
    refine ⟨_, pss_one (ps_ret (pe_and (pe_call GI hr rfl cI.g cI.kp cI.b .nil pass0 (pa_cons (pv 0) pa_nil))
      (pe_one (pe_chain op_le op_le pe_int (pv 0) (pe_glob (v := .int 6) rfl hw ⟨_, rfl⟩))))), ?_⟩
    rcases hv with no | ⟨z, rfl, hz⟩
    · exact ⟨_, rfl, .inr ⟨v, rfl, no, _, rfl, iteF q⟩⟩
    · refine ⟨_, rfl, .inl ⟨z, rfl, _, rfl, iteT ?_⟩⟩
      refine ⟨_, rfl, _, _, rfl, rfl, _, rfl, ?_⟩
      by_cases h1 : (1 : Int) ≤ z
      · refine iteT' (decide_eq_true h1) ⟨_, _, rfl, rfl, ?_⟩
        show Q (.bl (decide (z ≤ (6 : Int)))) H
        rw [decide_eq_false (show ¬ z ≤ (6 : Int) from fun h => hz ⟨h1, h⟩)]
        exact q
      · exact iteF' (decide_eq_false h1) q
end
def NoWidT (K : PySem.W.Frag) (H : Hp) (v : V) : Prop := NoIntT K H v ∨ ∃ z : Int, v = .int z ∧ ¬ (1 ≤ z ∧ z ≤ 6)
def spIsWidthI (K : PySem.W.Frag) : Sp := fun vs H Q E => spIsWidth vs H Q E ∨ ∃ v, vs = [v] ∧ NoWidT K H v ∧ Q (.bl false) H
theorem ok_iswidthI {P : Program} {w : World} {K : PySem.W.Frag} {mg : Str → Option Value} {base : Heap} {kA : Addr} {f : Addr} {fd : FuncData} {k : Nat} (F : Fun K "is_width" "is_width" sIsWidth f fd) (T : Glb K mg kA) (cI : Cal P w K mg base "is_an_integer" ["thing"] (spIsIntT K) 1) : FnOk P w K mg base CX0 (k + 2) f fd ["thing"] (spIsWidthI K) := ok_iswidthI_ F T cI
/-- a rule, or none -/
def RlV (K : PySem.W.Frag) (H : Hp) (w : Nat) (v : V) : Option R → Prop
  | some r => Dp K H v r.d ∧ r.ok w
  | none => NoRlT K H w v
section
variable {K : PySem.W.Frag} {H H' : Hp} {m : Nat} {v x y z : V} {o : Option R}
theorem NoColT.same (h : NoColT K H m v) (e : Same H H') : NoColT K H' m v := h.imp (fun h => h.imp id fun ⟨t, ty, hk⟩ => ⟨t, ty_same e ty, hk⟩) id
theorem NoR3T.same (h : NoR3T K H m x y z) (e : Same H H') : NoR3T K H' m x y z := by
  rcases h with ⟨t, ty, hk⟩ | h | ⟨s, h1, h2, h3⟩
  · exact .inl ⟨t, ty_same e ty, hk⟩
  · exact .inr (.inl h)
  · refine .inr (.inr ⟨s, h1, h2, ?_⟩)
    rcases h3 with h | ⟨a, h4, h5, h6⟩
    · exact .inl (h.same e)
    · exact .inr ⟨a, h4, h5, h6.imp (·.same e) id⟩
theorem NoRlT.same (h : NoRlT K H m v) (e : Same H H') : NoRlT K H' m v := by
  rcases h with ⟨t, ty, hk⟩ | ⟨t, xs, h1, h2, h3⟩
  · exact .inl ⟨t, ty_same e ty, hk⟩
  · exact .inr ⟨t, xs, h1, same_t e h2, h3.imp id fun ⟨x, y, z, a, b⟩ => ⟨x, y, z, a, b.same e⟩⟩
theorem RlV.same (h : RlV K H m v o) (e : Same H H') : RlV K H' m v o := by
  cases o with
  | some r => exact ⟨dp_same e _ _ h.1, h.2⟩
  | none => exact NoRlT.same h e
end
end CC
namespace CC
open PySem L2 TL
/-! ### Table.__init__ of any values -/
/-- a row, or none -/
def RwV (K : PySem.W.Frag) (H : Hp) (w : Nat) (v : V) : Option (List Nat) → Prop
  | some r => Dp K H v (gd r) ∧ RowOk w r
  | none => OddR K H w v
theorem RwV.same {K : PySem.W.Frag} {H H' : Hp} {w : Nat} {v : V} {o : Option (List Nat)} (h : RwV K H w v o) (e : Same H H') : RwV K H' w v o := by
  cases o with
  | some r => exact ⟨dp_same e _ _ h.1, h.2⟩
  | none => exact OddR.same h e
theorem all_rows {K : PySem.W.Frag} {H : Hp} {w : Nat} : ∀ {us : List V} {os : List (Option (List Nat))}, us.length = os.length → (∀ (i : Nat) v o, us[i]? = some v → os[i]? = some o → RwV K H w v o) → os.all Option.isSome = true → ∃ rs : List (List Nat), os = rs.map some ∧ DpAll K H us (rs.map gd) ∧ ∀ r ∈ rs, RowOk w r
  | [], [], _, _, _ => ⟨[], rfl, .nil, fun _ h => nomatch h⟩
  | v :: us, o :: os, hl, h, ha => by
    rw [List.all_cons, Bool.and_eq_true] at ha
    obtain ⟨rs, h1, h2, h3⟩ := all_rows (us := us) (os := os) (by simpa using hl) (fun i v o e1 e2 => h (i + 1) v o (by simpa using e1) (by simpa using e2)) ha.2
    cases o with
    | none => exact nomatch ha.1
    | some r =>
      have h0 := h 0 v (some r) rfl rfl
      refine ⟨r :: rs, by rw [h1]; rfl, .cons h0.1 h2, fun x hx => ?_⟩
      rcases List.mem_cons.mp hx with e | e
      · rw [e]
        exact h0.2
      · exact h3 x e
def spIsRowI (K : PySem.W.Frag) : Sp := fun vs H Q E => spIsRow K vs H Q E ∨ spIsRowO K vs H Q E
def spTInitX (K : PySem.W.Frag) (C CW CN : Addr) : Sp := fun vs H Q E => ∃ (x dx p : Addr) (wv : V) (us : List V), vs = [.ref x, wv, .ref p] ∧ H x = some (.ins C dx []) ∧ H p = some (.tup us) ∧ us.length ≤ 60 ∧
  ((NoWidT K H wv ∧ E (.ref CW) none H) ∨ ∃ (w : Nat) (os : List (Option (List Nat))), wv = .int (w : Int) ∧ 1 ≤ w ∧ w ≤ 6 ∧ us.length = os.length ∧ (∀ (i : Nat) v o, us[i]? = some v → os[i]? = some o → RwV K (wo H x) w v o) ∧
    ((os.all Option.isSome = false ∧ ∀ H', Same H H' → E (.ref CN) none H') ∨
     ∃ rs : List (List Nat), os = rs.map some ∧ ∀ H', (∀ b o, H b = some o → b ≠ x → H' b = some o) → H' x = some (.ins C dx (fldT w p)) → Q .non H'))
def spTInitXR (K : PySem.W.Frag) (C CW CN : Addr) : Sp := fun vs H Q E => ∃ ws rest, vs = ws ++ rest ∧ ws.length = 2 ∧ rest.length ≤ sizeLine ∧ ∀ p, H p = Option.none → spTInitX K C CW CN (ws ++ [V.ref p]) (upd H p (.tup rest)) Q E
section
variable {P : Program} {w : World} {K : PySem.W.Frag} {mg : Str → Option Value} {base : Heap} {kA : Addr}
theorem ok_isrowI {f : Addr} {fd : FuncData} {k : Nat} (F : Fun K "is_row" "is_row" sIsRow f fd) (T : Glb K mg kA) (TT : GlbT mg) (cI : Cal P w K mg base "is_an_integer" ["thing"] (spIsIntT K) 1) : FnOk P w K mg base CX0 (k + 2) f fd ["width", "thing"] (spIsRowI K) := fn_or (ok_isrow F T TT (cI.imp fun _ _ _ _ h => .inl h)) (ok_isrowO F T TT cI)
theorem ok_tinitX {f C CW CN : Addr} {fd : FuncData} {k : Nat} (F : Fun K "__init__" "Table.__init__" sTInit f fd) (T : Glb K mg kA) (TT : GlbT mg) (TC : TxtT K mg C) (eW : ExcK K mg "NoWidth" CW) (eN : ExcK K mg "NoRows" CN) (cW : Cal P w K mg base "is_width" ["thing"] (spIsWidthI K) 2) (cR : Cal P w K mg base "is_row" ["width", "thing"] (spIsRowI K) 2) :
    FnR P w K mg base (L2.CX P w) (k + 3) f (spTInitXR K C CW CN) := by
  have GW := cW.ok (k + 2) (by omega)
  have GR := cR.ok (k + 2) (by omega)
  obtain ⟨oc, od, kV, doc, pm, an, cdv, ct, osl, rfl, lk, hcd⟩ := F.ex
  refine StX.fn_star (ps := ["self", "width"]) (pv := "rows") lk hcd scTInit StX.cxUp (fun us rest hl => ?_) (fun A outer s H vs Q E hr h => ?_)
  · match us, hl with
    | [a, b], _ =>
      cases rest with
      | nil => rfl
      | cons c r => rfl
  · obtain ⟨x, dx, p, wv, us, rfl, hx, hp, u60, h⟩ := h
    obtain ⟨tm, hmr⟩ := TT.mr
    have n := scTInit.nd
    refine ⟨_, (pss_cons (ps_if (pt_not (pt_val (pe_call GW hr rfl cW.g cW.kp cW.b .nil pass0 (pa_cons (pv 1) pa_nil)))) (pss_one (ps_raise rfl (takes_of rfl rfl rfl rfl) (pmk_own PySem.F.excBase_ValueError eW.x eW.g eW.k (raises_own eW.b eW.t) rfl))) pss_nil)
      (pss_cons (ps_if (pt_cmpR op_gt (pe_callB call_len_seq (by rfl) T.len PySem.boot_len (pa_cons (pv 2) pa_nil)) (pe_glob (v := .int 400) rfl hmr ⟨_, rfl⟩) (nomark _)) (pss_one (ps_raise rfl (takes_of rfl rfl rfl rfl) (pmk_own PySem.F.excBase_ValueError eN.x eN.g eN.k (raises_own eN.b eN.t) rfl))) pss_nil)
      (pss_cons (ps_if (pt_not (pt_val (pe_callB (cr_all rfl) (by rfl) T.all (by decide +kernel) (pa_cons (pe_lc (own := [("row", 3)]) (g := gName 3) (tt := tYes) (te := tCall (spIsRowI K) [] E0 (tCons (tVar 1) (tCons (tVar 3) tNil))) rfl n (pi_tup (pv 2)) (blkOk_by (N := nTI) (sc := defScope sTInit) (by decide +kernel))
        (fun _ _ _ _ _ => (pg_name (i := 3) n rfl (.inl rfl))) (fun _ _ _ _ _ => pts_nil) (fun _ _ _ _ _ => (pe_call GR hr rfl cR.g cR.kp cR.b .nil pass0 (pa_cons (pv 1) (pa_cons (pv 3) pa_nil))))) pa_nil)))) (pss_one (ps_raise rfl (takes_of rfl rfl rfl rfl) (pmk_own PySem.F.excBase_ValueError eN.x eN.g eN.k (raises_own eN.b eN.t) rfl))) pss_nil)
      (PSs.nox (pss_cons (ps_fld (pv 0) (pv 1) rfl) (pss_one (ps_fld (pv 0) (pv 2) rfl))))))), ?_⟩
    rcases h with ⟨no, q⟩ | ⟨w, os, rfl, w1, w6, hol, hrl, h⟩
    · refine ⟨_, rfl, .inr ⟨wv, rfl, no, _, rfl, iteT ?_⟩⟩
      exact q
    refine ⟨_, rfl, .inl ⟨w, rfl, w1, w6, _, rfl, iteF ?_⟩⟩
    refine ⟨_, rfl, p, us, rfl, .inr (.inl (.inl hp)), _, _, rfl, rfl, _, rfl, ?_⟩
    rw [show decide (((us.length : Nat) : Int) > (400 : Int)) = false from decide_eq_false (by omega)]
    refine iteF ?_
    refine ⟨_, rfl, p, rfl, ⟨_, .inl (.inl hp)⟩, fun D nD => ?_⟩
    refine lc_tup (xs := us) (fun i H1 => Same H (wo H1 D) ∧ H1 D = some (.lst (((os.take i).map Option.isSome).map V.bl)) ∧ i ≤ 60) ⟨?_, upd_same, by omega⟩ (fun i H1 _ z => .inl (.inl (wo_le D _ _ (z.1 _ _ hp)))) ?_ ?_
    · rw [wo_upd]
      exact fun b o e => by rw [wo_ne (ne_of_none e nD)]; exact e
    · rintro i v H1 hv ⟨e1, e2, e3⟩
      have il : i < us.length := (List.getElem?_eq_some_iff.mp hv).1
      obtain ⟨o, ho⟩ : ∃ o, os[i]? = some o := ⟨_, List.getElem?_eq_getElem (by omega)⟩
      have rl := (hrl i v o hv ho).same ((wo_le x).trans (e1.trans (wo_le D)))
      have fin : ∀ H2, Same H1 H2 → ∃ ys, H2 D = some (.lst ys) ∧ ys.length < sizeLine ∧ (Same H (wo (upd H2 D (.lst (ys ++ [V.bl o.isSome]))) D) ∧ (upd H2 D (.lst (ys ++ [V.bl o.isSome]))) D = some (.lst (((os.take (i + 1)).map Option.isSome).map V.bl)) ∧ i + 1 ≤ 60) := fun H2 s2 => ⟨_, s2 _ _ e2, small1000 (by simp; omega), by rw [wo_upd]; exact e1.trans (wo_same s2), by rw [upd_same, take1 ho, List.map_append, List.map_append]; rfl, by omega⟩
      cases o with
      | some r =>
        obtain ⟨t, rfl, ht⟩ := gd_at rl.1
        exact ⟨rfl, yes_if ⟨_, rfl, _, rfl, .inl ⟨w, t, r, rfl, ht, rl.2, w6, fin⟩⟩⟩
      | none => exact ⟨rfl, yes_if ⟨_, rfl, _, rfl, .inr ⟨w, v, rfl, w6, rl, fin⟩⟩⟩
    rintro H1 ⟨e1, e2, _⟩
    rw [hol, List.take_length] at e2
    have m1 : Same H H1 := e1.trans (wo_le D)
    refine ⟨D, os.map Option.isSome, rfl, SqL.of e2, _, rfl, ?_⟩
    rw [show (os.map Option.isSome).all id = os.all Option.isSome by rw [List.all_map]; rfl]
    cases ea : os.all Option.isSome with
    | false =>
      refine iteT ?_
      rcases h with ⟨_, q⟩ | ⟨rs, e, _⟩
      · exact q H1 m1
      · rw [e, List.all_map] at ea
        exact absurd ea (by simp)
    | true =>
    refine iteF ?_
    rcases h with ⟨bad, _⟩ | ⟨rs, _, q⟩
    · rw [ea] at bad
      cases bad
    have hx1 := m1 _ _ hx
    refine ⟨_, rfl, _, rfl, x, C, dx, _, rfl, hx1, TC.cl, TC.nS, (by show 0 < 1000; decide), ?_⟩
    refine ⟨_, rfl, _, rfl, x, C, dx, _, rfl, upd_same, TC.cl, TC.nL, (by show 1 < 1000; decide), ?_⟩
    refine q _ (fun b o e hb => ?_) upd_same
    rw [upd_ne hb, upd_ne hb]
    exact m1 _ _ e
end
end CC
namespace CC
open PySem L2 TL
def Given (K : PySem.W.Frag) (H : Hp) (g : Addr) (w : Nat) (rs : List R) : Prop := ∃ us, SqL K H g us ∧ DpAll K H us (rs.map R.d) ∧ (∀ r ∈ rs, r.ok w) ∧ rs.Nodup ∧ 1 ≤ w ∧ w ≤ 6
def spList (K : PySem.W.Frag) (C : Addr) : Sp := fun vs H Q _ => ∃ (w : Nat) (g : Addr) (rs : List R), vs = [.int (w : Int), .ref g] ∧ Given K H g w rs ∧ ∀ (x : Addr) (H' : Hp), Same H H' → H x = none → RulesAt K C H' x w rs → Q (.ref x) H'
def lineP (r : R) : Str := num r.a ++ " " ++ kd r.k ++ " " ++ num r.b ++ "\n"
theorem lineP_eq (r : R) : lineP r = lineS r ++ "\n" := by
  refine ext_tl ?_
  unfold lineP lineS
  simp only [tl_app]
  rw [show tl Str.empty = [] by rfl, List.nil_append]
theorem lens2_all : ((allR 6).all fun r => decide ((num r.a).length ≤ 20) && decide ((num r.a ++ " ").length ≤ 20) && decide ((num r.a ++ " " ++ kd r.k).length ≤ 20) && decide ((num r.a ++ " " ++ kd r.k ++ " ").length ≤ 20) && decide ((num r.a ++ " " ++ kd r.k ++ " " ++ num r.b).length ≤ 20) && decide ((num r.b).length ≤ 20) && decide ((kd r.k).length ≤ 20)) = true := by decide +kernel
end CC
namespace CC
open PySem L2
theorem cut_whole {xs : List V} {lo hi : Option Int} (h : HT.sIx xs.length 0 lo = 0 ∧ HT.sIx xs.length xs.length hi = xs.length) : cutV xs lo hi = xs := by
  unfold cutV
  rw [h.1, h.2]
  simp
/-- a part of a tuple, be it the whole or not -/
theorem sl_all {K : PySem.W.Frag} {H : Hp} {a : Addr} {xs : List V} {lo hi : Option Int} {Q : VK} (h : SqT K H a xs) (q : ∀ (t : Addr) (H' : Hp), Same H H' → SqT K H' t (cutV xs lo hi) → Q (.ref t) H') : rSlA K (.ref a) lo hi H Q :=
  ⟨a, xs, rfl, h, fun z => q a H (Same.refl _) (by rw [cut_whole z]; exact h), fun _ p np => q p _ (same_new np) (.inl (.inl upd_same))⟩
theorem cat_all {K : PySem.W.Frag} {H : Hp} {a b : Addr} {xs ys : List V} {Q : VK} (h : SqT K H a xs) (g : SqT K H b ys) (l : xs.length + ys.length ≤ sizeLine) (q : ∀ (t : Addr) (H' : Hp), Same H H' → SqT K H' t (xs ++ ys) → Q (.ref t) H') : rCatA K (.ref a) (.ref b) H Q :=
  ⟨a, b, xs, ys, rfl, rfl, h, g, l, fun z => q b H (Same.refl _) (by rw [z]; exact g), fun _ z => q a H (Same.refl _) (by rw [z, List.append_nil]; exact h), fun _ _ p np => q p _ (same_new np) (.inl (.inl upd_same))⟩
end CC
namespace CC
open PySem L2 TL
/-! ### Rules(..) of up to four values, which may raise -/
abbrev sBt1 : Stmt := tp 38
/-- a width that is none; values that are not different rules; rules -/
def Bt1H (K : PySem.W.Frag) (H : Hp) (wv : V) (us : List V) (bw br : Prop) (g : Nat → List (List Nat) → Prop) : Prop :=
  (NoWidT K H wv ∧ bw) ∨ ∃ (w : Nat) (os : List (Option (List Nat))), wv = .int (w : Int) ∧ 1 ≤ w ∧ w ≤ 6 ∧ us.length = os.length ∧ (∀ (i : Nat) v o, us[i]? = some v → os[i]? = some o → RwV K H w v o) ∧
    ((os.all Option.isSome = false ∧ br) ∨ ∃ rs : List (List Nat), os = rs.map some ∧ g w rs)
def spBt1 (K : PySem.W.Frag) (C CW CN : Addr) : Sp := fun vs H Q E => ∃ (wv : V) (g : Addr) (us : List V), vs = [wv, .ref g] ∧ H g = some (.lst us) ∧ us.length ≤ 4 ∧
  Bt1H K H wv us (∀ H', Same H H' → E (.ref CW) none H') (∀ H', Same H H' → E (.ref CN) none H') fun w rs => ∀ (x : Addr) (H' : Hp), Same H H' → H x = none → TableAt K C H' x w rs → Q (.ref x) H'
/-- a def that may raise -/
structure CalX (P : Program) (w : World) (K : PySem.W.Frag) (mg : Str → Option Value) (base : Heap) (x : Str) (ps : List Str) (sp : Sp) (l : Nat) where
  f : Addr
  fd : FuncData
  ok : ∀ k, l ≤ k → FnOk P w K mg base (L2.CX P w) k f fd ps sp
  kp : PySem.W.keepIn K (.ref f) = true
  b : Binds K fd ps []
  g : mg x = some (.ref f)
structure MakeTX (P : Program) (w : World) (K : PySem.W.Frag) (mg : Str → Option Value) (base : Heap) (C CW CN : Addr) (l : Nat) where
  fN : Addr
  M : Mk K C fN
  ok : ∀ k, l ≤ k → FnR P w K mg base (L2.CX P w) k fN (spTInitXR K C CW CN)
section
variable {P : Program} {w : World} {K : PySem.W.Frag} {mg : Str → Option Value} {base : Heap} {kA : Addr}
theorem NoWidT.same {H H' : Hp} {v : V} (h : NoWidT K H v) (e : Same H H') : NoWidT K H' v := h.imp (fun h => h.imp id fun ⟨t, ty, hk⟩ => ⟨t, ty_same e ty, hk⟩) id
/-- what a call of the class asks -/
theorem bt1_go {C CW CN : Addr} {H : Hp} {wv : V} {us : List V} {Q : VK} {E : XK} (hl : us.length ≤ 4)
    (h : Bt1H K H wv us (∀ H', Same H H' → E (.ref CW) none H') (∀ H', Same H H' → E (.ref CN) none H') fun w rs => ∀ (x : Addr) (H' : Hp), Same H H' → H x = none → TableAt K C H' x w rs → Q (.ref x) H')
    (x dx : Addr) (nx : H x = Option.none) (ndx : H dx = Option.none) (ne : dx ≠ x) : spTInitXR K C CW CN (V.ref x :: wv :: us) (upd (upd H dx (.own x)) x (.ins C dx [])) (fun v H2 => v = .non ∧ Q (.ref x) H2) E := by
  refine ⟨[.ref x, wv], us, rfl, rfl, Nat.le_trans hl (by decide), fun p np => ?_⟩
  have gx : x ≠ p := fun z => by rw [← z, upd_same] at np; cases np
  have gdx : dx ≠ p := fun z => by rw [← z, upd_ne ne, upd_same] at np; cases np
  have np1 : H p = none := by
    rw [upd_ne gx.symm, upd_ne gdx.symm] at np
    exact np
  have keep : Same H (upd (upd (upd H dx (.own x)) x (.ins C dx [])) p (.tup us)) := fun b o e => by
    rw [upd_ne (ne_of_none e np1), upd_ne (ne_of_none e nx), upd_ne (ne_of_none e ndx)]
    exact e
  have keepx : Same H (wo (upd (upd (upd H dx (.own x)) x (.ins C dx [])) p (.tup us)) x) := fun b o e => by
    rw [wo_ne (ne_of_none e nx)]
    exact keep b o e
  have hx : (upd (upd (upd H dx (.own x)) x (.ins C dx [])) p (.tup us)) x = some (.ins C dx []) := by
    rw [upd_ne gx]
    exact upd_same
  have hp : (upd (upd (upd H dx (.own x)) x (.ins C dx [])) p (.tup us)) p = some (.tup us) := upd_same
  refine ⟨x, dx, p, wv, us, rfl, hx, hp, by omega, ?_⟩
  rcases h with ⟨no, q⟩ | ⟨w, os, rfl, w1, w6, ul, hr, h⟩
  · exact .inl ⟨no.same keep, q _ keep⟩
  refine .inr ⟨w, os, rfl, w1, w6, ul, fun i v o h1 h2 => (hr i v o h1 h2).same keepx, ?_⟩
  rcases h with ⟨bad, q⟩ | ⟨rs, e, q⟩
  · exact .inl ⟨bad, fun H' s' => q H' (keep.trans s')⟩
  refine .inr ⟨rs, e, fun H' k1 k2 => ⟨rfl, q x H' (fun b o e => k1 b o (keep b o e) (ne_of_none e nx)) nx ?_⟩⟩
  have ha : os.all Option.isSome = true := by rw [e, List.all_map]; simp
  obtain ⟨rs', e', dp, ok⟩ := all_rows (H := H) ul hr ha
  have er : rs = rs' := by
    rw [e] at e'
    exact (List.map_inj_right (fun _ _ h => Option.some.inj h)).mp e'
  subst er
  exact ⟨dx, p, us, k2, k1 p _ hp gx.symm, dps_same (fun b o e => k1 b o (keep b o e) (ne_of_none e nx)) _ _ dp⟩
abbrev nBt1 : List Str := ["_law_width", "_law_some"]
theorem scBt1 : FnScope nBt1 ["_law_width", "_law_some"] (defScope sBt1) := ⟨rfl, rfl, rfl, by decide +kernel, rfl, by decide +kernel, by decide +kernel⟩
theorem ok_bt1 {f C CW CN : Addr} {fd : FuncData} {k : Nat} (F : Fun K "_law_built" "_law_built" sBt1 f fd) (T : Glb K mg kA) (gC : mg "Table" = some (.ref C)) (mx : MakeTX P w K mg base C CW CN 3) : FnOk P w K mg base (L2.CX P w) (k + 5) f fd ["_law_width", "_law_some"] (spBt1 K C CW CN) := by
  have GN := mx.ok (k + 3) (by omega)
  refine F.okX scBt1 (fun vs H Q E h => ?_) (fun cdv A outer s H vs Q E hr h => ?_)
  · obtain ⟨wv, g, us, rfl, _⟩ := h
    rfl
  · obtain ⟨wv, g, us, rfl, hg, u4, h⟩ := h
    have n := scBt1.nd
    refine ⟨_, (pss_cons (ps_if (pt_cmpR op_eq (pe_callB call_len_seq (by rfl) T.len PySem.boot_len (pa_cons (pv 1) pa_nil)) pe_int (nomark _))
        (pss_one (ps_ret (StX.pe_makeR mx.M GN hr rfl gC (passes_call (takes_of rfl rfl rfl rfl) (fun _ _ _ _ h => h)) (pa_cons (pv 0) pa_nil)))) pss_nil)
      (pss_cons (ps_if (pt_cmpR op_eq (pe_callB call_len_seq (by rfl) T.len PySem.boot_len (pa_cons (pv 1) pa_nil)) pe_int (nomark _))
        (pss_one (ps_ret (StX.pe_makeR mx.M GN hr rfl gC (passes_call (takes_of rfl rfl rfl rfl) (fun _ _ _ _ h => h)) (pa_cons (pv 0) (pa_cons (pe_ix ix_list (pv 1) pe_int (fun _ _ => rfl)) pa_nil))))) pss_nil)
      (pss_cons (ps_if (pt_cmpR op_eq (pe_callB call_len_seq (by rfl) T.len PySem.boot_len (pa_cons (pv 1) pa_nil)) pe_int (nomark _))
        (pss_one (ps_ret (StX.pe_makeR mx.M GN hr rfl gC (passes_call (takes_of rfl rfl rfl rfl) (fun _ _ _ _ h => h)) (pa_cons (pv 0) (pa_cons (pe_ix ix_list (pv 1) pe_int (fun _ _ => rfl)) (pa_cons (pe_ix ix_list (pv 1) pe_int (fun _ _ => rfl)) pa_nil)))))) pss_nil)
      (pss_cons (ps_if (pt_cmpR op_eq (pe_callB call_len_seq (by rfl) T.len PySem.boot_len (pa_cons (pv 1) pa_nil)) pe_int (nomark _))
        (pss_one (ps_ret (StX.pe_makeR mx.M GN hr rfl gC (passes_call (takes_of rfl rfl rfl rfl) (fun _ _ _ _ h => h)) (pa_cons (pv 0) (pa_cons (pe_ix ix_list (pv 1) pe_int (fun _ _ => rfl)) (pa_cons (pe_ix ix_list (pv 1) pe_int (fun _ _ => rfl)) (pa_cons (pe_ix ix_list (pv 1) pe_int (fun _ _ => rfl)) pa_nil))))))) pss_nil)
      (pss_one (ps_ret (StX.pe_makeR mx.M GN hr rfl gC (passes_call (takes_of rfl rfl rfl rfl) (fun _ _ _ _ h => h)) (pa_cons (pv 0) (pa_cons (pe_ix ix_list (pv 1) pe_int (fun _ _ => rfl)) (pa_cons (pe_ix ix_list (pv 1) pe_int (fun _ _ => rfl)) (pa_cons (pe_ix ix_list (pv 1) pe_int (fun _ _ => rfl)) (pa_cons (pe_ix ix_list (pv 1) pe_int (fun _ _ => rfl)) pa_nil)))))))))))), ?_⟩
    have go := bt1_go (C := C) (CW := CW) (CN := CN) u4 h
    have hs : SqL K H g us := SqL.of hg
    have ln : ∀ (j : Nat), us.length ≠ j → decide (V.int ((us.length : Nat) : Int) = V.int (j : Int)) = false := fun j hj => decide_eq_false fun e => hj (by injection e with e; omega)
    match us, u4, hs, go, ln with
    | [], _, hs, go, ln =>
      exact ⟨_, rfl, g, _, rfl, .inl hs, rfl, _, rfl, iteT ⟨_, rfl, go⟩⟩
    | [a], _, hs, go, ln =>
      refine ⟨_, rfl, g, _, rfl, .inl hs, rfl, _, rfl, iteF' (ln 0 (by simp)) ?_⟩
      refine ⟨_, rfl, g, _, rfl, .inl hs, rfl, _, rfl, iteT ?_⟩
      exact ⟨_, rfl, _, rfl, g, _, 0, _, rfl, rfl, hs, rfl, go⟩
    | [a, b], _, hs, go, ln =>
      refine ⟨_, rfl, g, _, rfl, .inl hs, rfl, _, rfl, iteF' (ln 0 (by simp)) ?_⟩
      refine ⟨_, rfl, g, _, rfl, .inl hs, rfl, _, rfl, iteF' (ln 1 (by simp)) ?_⟩
      refine ⟨_, rfl, g, _, rfl, .inl hs, rfl, _, rfl, iteT ?_⟩
      exact ⟨_, rfl, _, rfl, g, _, 0, _, rfl, rfl, hs, rfl, _, rfl, g, _, 1, _, rfl, rfl, hs, rfl, go⟩
    | [a, b, c], _, hs, go, ln =>
      refine ⟨_, rfl, g, _, rfl, .inl hs, rfl, _, rfl, iteF' (ln 0 (by simp)) ?_⟩
      refine ⟨_, rfl, g, _, rfl, .inl hs, rfl, _, rfl, iteF' (ln 1 (by simp)) ?_⟩
      refine ⟨_, rfl, g, _, rfl, .inl hs, rfl, _, rfl, iteF' (ln 2 (by simp)) ?_⟩
      refine ⟨_, rfl, g, _, rfl, .inl hs, rfl, _, rfl, iteT ?_⟩
      exact ⟨_, rfl, _, rfl, g, _, 0, _, rfl, rfl, hs, rfl, _, rfl, g, _, 1, _, rfl, rfl, hs, rfl, _, rfl, g, _, 2, _, rfl, rfl, hs, rfl, go⟩
    | [a, b, c, d], _, hs, go, ln =>
      refine ⟨_, rfl, g, _, rfl, .inl hs, rfl, _, rfl, iteF' (ln 0 (by simp)) ?_⟩
      refine ⟨_, rfl, g, _, rfl, .inl hs, rfl, _, rfl, iteF' (ln 1 (by simp)) ?_⟩
      refine ⟨_, rfl, g, _, rfl, .inl hs, rfl, _, rfl, iteF' (ln 2 (by simp)) ?_⟩
      refine ⟨_, rfl, g, _, rfl, .inl hs, rfl, _, rfl, iteF' (ln 3 (by simp)) ?_⟩
      exact ⟨_, rfl, _, rfl, g, _, 0, _, rfl, rfl, hs, rfl, _, rfl, g, _, 1, _, rfl, rfl, hs, rfl, _, rfl, g, _, 2, _, rfl, rfl, hs, rfl, _, rfl, g, _, 3, _, rfl, rfl, hs, rfl, go⟩
    | _ :: _ :: _ :: _ :: _ :: _, h4, _, _, _ => exact absurd h4 (by simp)
end
end CC
namespace CC
open PySem L2 TL
/-! ### the law's own judgement of any value: whole numbers, rules -/
abbrev sWho : Stmt := tp 36
def spWho (K : PySem.W.Frag) : Sp := fun vs H Q _ => ∃ (v : V) (lo hi : Int), vs = [v, .int lo, .int hi] ∧ ((NoIntT K H v ∧ Q (.bl false) H) ∨ ∃ z : Int, v = .int z ∧ Q (.bl (decide (lo ≤ z ∧ z ≤ hi))) H)
def spOne (K : PySem.W.Frag) : Sp := fun vs H Q _ => ∃ (v : V) (w : Nat) (o : Option R), vs = [v, .int (w : Int)] ∧ RlV K H w v o ∧ ∀ H', Same H H' → Q (.bl o.isSome) H'
section
variable {P : Program} {w : World} {K : PySem.W.Frag} {mg : Str → Option Value} {base : Heap} {kA : Addr}
abbrev nWho : List Str := ["_law_thing", "_law_low", "_law_high"]
theorem scWho : FnScope nWho ["_law_thing", "_law_low", "_law_high"] (defScope sWho) := ⟨rfl, rfl, rfl, by decide +kernel, rfl, by decide +kernel, by decide +kernel⟩
theorem ok_who {f : Addr} {fd : FuncData} {k : Nat} (F : Fun K "_law_is_whole" "_law_is_whole" sWho f fd) (T : Glb K mg kA) : FnOk P w K mg base CX0 (k + 1) f fd ["_law_thing", "_law_low", "_law_high"] (spWho K) := by
  refine F.ok scWho (fun vs H Q E h => ?_) (fun cdv A outer s H vs Q E hr h => ?_)
  · obtain ⟨v, lo, hi, rfl, _⟩ := h
    rfl
  · obtain ⟨v, lo, hi, rfl, hv⟩ := h
    refine ⟨_, (pss_one (ps_ret (pe_and (pe_callB call_isi (by rfl) T.isi (by decide +kernel) (pa_cons (pv 0) (pa_cons (pe_bltn (v := .ty "int") (by rfl) T.int (by decide +kernel) rfl) pa_nil))) (pe_and (pe_not (pe_callB call_isi (by rfl) T.isi (by decide +kernel) (pa_cons (pv 0) (pa_cons (pe_bltn (v := .ty "bool") (by rfl) T.bool (by decide +kernel) rfl) pa_nil)))) (pe_one (pe_chain op_le op_le (pv 1) (pv 0) (pv 2))))))), ?_⟩
    rcases hv with ⟨⟨b, rfl⟩ | ⟨t, ty, hk⟩, q⟩ | ⟨z, rfl, q⟩
    · refine ⟨_, rfl, _, _, _, _, true, rfl, .ty _, .base (.bl b), kit_ty (by decide +kernel), _, rfl, iteT ?_⟩
      exact ⟨_, rfl, _, _, _, _, true, rfl, .ty _, .base (.bl b), kit_ty (by decide +kernel), _, rfl, _, rfl, iteF q⟩
    · exact ⟨_, rfl, _, _, _, _, false, rfl, .ty _, ty, hk, _, rfl, iteF q⟩
    · refine ⟨_, rfl, _, _, _, _, true, rfl, .ty _, .base (.int z), kit_ty (by decide +kernel), _, rfl, iteT ?_⟩
      refine ⟨_, rfl, _, _, _, _, false, rfl, .ty _, .base (.int z), kit_ty (by decide +kernel), _, rfl, _, rfl, iteT ?_⟩
      refine ⟨_, rfl, _, rfl, _, _, rfl, rfl, _, rfl, ?_⟩
      by_cases h1 : lo ≤ z
      · refine iteT' (decide_eq_true h1) ⟨_, rfl, _, _, rfl, rfl, ?_⟩
        rw [show decide (lo ≤ z ∧ z ≤ hi) = decide (z ≤ hi) from by simp [h1]] at q
        exact q
      · refine iteF' (decide_eq_false h1) ?_
        rw [show decide (lo ≤ z ∧ z ≤ hi) = false from by simp [h1]] at q
        exact q
abbrev nOne : List Str := ["_law_thing", "_law_width", "_law_part"]
end
end CC
/-! rows as data: equal, in, shaped; the last of several equal rows taken out -/
namespace RW
open PySem L2 CC
theorem eqv_nums : ∀ m l : List Nat, PyData.eqvAll (m.map fun (n : Nat) => PyData.int (n : Int)) (l.map fun (n : Nat) => PyData.int (n : Int)) = decide (m = l)
  | [], [] => by simp [PyData.eqvAll]
  | [], _ :: _ => by simp [PyData.eqvAll]
  | _ :: _, [] => by simp [PyData.eqvAll]
  | a :: m, b :: l => by
    have ih := eqv_nums m l
    simp only [List.map_cons, PyData.eqvAll, PyData.eqv, ih]
    by_cases e : a = b
    · subst e
      simp
    · simp only [List.cons.injEq, e, false_and, decide_false, Bool.and_eq_false_imp, beq_iff_eq]
      intro z
      exact absurd (by omega) e
theorem gd_eqv (m l : List Nat) : PyData.eqv (gd m) (gd l) = decide (m = l) := by
  show PyData.eqvAll _ _ = _
  exact eqv_nums m l
theorem gds_any (ms : List (List Nat)) (m : List Nat) : ((ms.map gd).any fun z => PyData.eqv z (gd m)) = decide (m ∈ ms) := by
  induction ms with
  | nil => simp
  | cons x ms ih =>
    rw [List.map_cons, List.any_cons, ih, gd_eqv]
    by_cases h : x = m
    · simp [h]
    · have : ¬ m = x := fun z => h z.symm
      simp [h, this]
theorem nums_lay (m : List Nat) : PyData.canLayAll0 (m.map fun (n : Nat) => PyData.int (n : Int)) = true ∧ PyData.depthAll (m.map fun (n : Nat) => PyData.int (n : Int)) = 0 := by
  induction m with
  | nil => simp [PyData.canLayAll0, PyData.depthAll]
  | cons x m ih => simp [PyData.canLayAll0, PyData.depthAll, PyData.canLay0, PyData.depth, ih.1, ih.2]
theorem gd_shp (m : List Nat) : SeqAt.shaped (gd m) = true := by
  show ((gd m).canLay0 && decide ((gd m).depth ≤ 64)) = true
  simp [gd, PyData.canLay0, PyData.depth, (nums_lay m).1, (nums_lay m).2]
theorem gdl_lay (ms : List (List Nat)) : PyData.canLayAll0 (ms.map gd) = true ∧ PyData.depthAll (ms.map gd) ≤ 1 := by
  induction ms with
  | nil => simp [PyData.canLayAll0, PyData.depthAll]
  | cons m ms ih =>
    have g := nums_lay m
    simp only [List.map_cons, PyData.canLayAll0, PyData.depthAll, gd, PyData.canLay0, PyData.depth, g.1, g.2, Bool.true_and]
    refine ⟨ih.1, ?_⟩
    have := ih.2
    unfold gd at this
    omega
theorem gdl_shp (ms : List (List Nat)) : SeqAt.shaped (.list (ms.map gd)) = true := by
  have h := gdl_lay ms
  show ((PyData.list (ms.map gd)).canLay0 && decide ((PyData.list (ms.map gd)).depth ≤ 64)) = true
  simp only [PyData.canLay0, PyData.depth, h.1, Bool.true_and]
  exact decide_eq_true (by have := h.2; omega)
/-- the rows without the last one that is equal to this one -/
def dropR (rows : List (List Nat)) (row : List Nat) : List (List Nat) := (rows.reverse.erase row).reverse
theorem dropR_len {rows : List (List Nat)} {row : List Nat} (h : row ∈ rows) : (dropR rows row).length + 1 = rows.length := by
  unfold dropR
  have hm : row ∈ rows.reverse := List.mem_reverse.mpr h
  have := List.length_pos_of_mem h
  rw [List.length_reverse, List.length_erase_of_mem hm, List.length_reverse]
  omega
theorem dropR_mem {rows : List (List Nat)} {row x : List Nat} (h : x ∈ dropR rows row) : x ∈ rows := by
  unfold dropR at h
  exact List.mem_reverse.mp (List.mem_of_mem_erase (List.mem_reverse.mp h))
theorem dropR_at {rows : List (List Nat)} {row : List Nat} {p : Nat} (h : rows[p]? = some row) (last : ∀ j, p < j → rows[j]? ≠ some row) : rows.eraseIdx p = dropR rows row := by
  have pl := (List.getElem?_eq_some_iff.mp h).1
  have hp : rows[p] = row := (List.getElem?_eq_some_iff.mp h).2
  have e : rows = rows.take p ++ row :: rows.drop (p + 1) := by
    rw [← hp, ← List.drop_eq_getElem_cons pl, List.take_append_drop]
  have nb : row ∉ rows.drop (p + 1) := fun z => by
    obtain ⟨i, hi⟩ := List.mem_iff_getElem?.mp z
    rw [List.getElem?_drop] at hi
    exact last _ (by omega) hi
  have ta : (rows.take p).length = p := by rw [List.length_take]; omega
  have e1 : rows.eraseIdx p = rows.take p ++ rows.drop (p + 1) := List.eraseIdx_eq_take_drop_succ ..
  rw [e1]
  generalize rows.take p = a at e
  generalize rows.drop (p + 1) = b at e nb
  subst e
  unfold dropR
  rw [List.reverse_append, List.reverse_cons, List.append_assoc, List.erase_append_right _ (by simpa using nb)]
  simp
theorem cut_step {rows : List (List Nat)} {i p : Nat} {x : List Nat} (h : rows[i]? = some x) : (rows.take (i + 1)).eraseIdx p = (rows.take i).eraseIdx p ++ (if i = p then [] else [x]) := by
  have il := (List.getElem?_eq_some_iff.mp h).1
  have ta : (rows.take i).length = i := by rw [List.length_take]; omega
  rw [List.take_succ, h]
  show (rows.take i ++ [x]).eraseIdx p = _
  by_cases e : i = p
  · subst e
    rw [if_pos rfl, List.append_nil, List.eraseIdx_append_of_length_le (by omega), ta, Nat.sub_self, List.eraseIdx_of_length_le (l := rows.take i) (by omega)]
    simp
  · rw [if_neg e]
    by_cases lt : p < i
    · rw [List.eraseIdx_append_of_lt_length (by omega)]
    · rw [List.eraseIdx_append_of_length_le (by omega), List.eraseIdx_of_length_le (l := rows.take i) (by omega), List.eraseIdx_of_length_le (l := [x]) (by simp; omega)]
/-- the places of a row among the first i -/
structure Plc (rows : List (List Nat)) (row : List Nat) (i : Nat) (ns : List Nat) : Prop where
  is : ∀ j ∈ ns, j < i ∧ rows[j]? = some row
  all : ∀ j, j < i → rows[j]? = some row → j ∈ ns
  up : ns.Pairwise (· < ·)
theorem Plc.nil {rows : List (List Nat)} {row : List Nat} : Plc rows row 0 [] := ⟨(fun j hj => nomatch hj), (fun j hj => absurd hj (Nat.not_lt_zero _)), List.Pairwise.nil⟩
theorem Plc.yes {rows : List (List Nat)} {row : List Nat} {i : Nat} {ns : List Nat} (h : Plc rows row i ns) (e : rows[i]? = some row) : Plc rows row (i + 1) (ns ++ [i]) := by
  refine ⟨fun j hj => ?_, fun j hj ej => ?_, List.pairwise_append.mpr ⟨h.up, by simp, fun a ha b hb => ?_⟩⟩
  · rcases List.mem_append.mp hj with z | z
    · exact ⟨Nat.lt_succ_of_lt (h.is j z).1, (h.is j z).2⟩
    · rw [List.mem_singleton.mp z]
      exact ⟨Nat.lt_succ_self _, e⟩
  · by_cases z : j = i
    · rw [z]
      exact List.mem_append_right _ (List.mem_singleton.mpr rfl)
    · exact List.mem_append_left _ (h.all j (by omega) ej)
  · rw [List.mem_singleton.mp hb]
    exact (h.is a ha).1
theorem Plc.no {rows : List (List Nat)} {row : List Nat} {i : Nat} {ns : List Nat} (h : Plc rows row i ns) (e : rows[i]? ≠ some row) : Plc rows row (i + 1) ns := by
  refine ⟨fun j hj => ⟨Nat.lt_succ_of_lt (h.is j hj).1, (h.is j hj).2⟩, fun j hj ej => ?_, h.up⟩
  by_cases z : j = i
  · rw [z] at ej
    exact absurd ej e
  · exact h.all j (by omega) ej
theorem Plc.len {rows : List (List Nat)} {row : List Nat} {i : Nat} {ns : List Nat} (h : Plc rows row i ns) (hi : i ≤ 400) : ns.length ≤ 400 := by
  have nd : ns.Nodup := h.up.imp fun z => Nat.ne_of_lt z
  have := SG.sub_len (r := List.range i) nd fun x hx => List.mem_range.mpr (h.is x hx).1
  rw [List.length_range] at this
  omega
/-- the last of them -/
theorem Plc.last {rows : List (List Nat)} {row : List Nat} {ns : List Nat} (h : Plc rows row rows.length ns) (hm : row ∈ rows) : ∃ ms p, ns = ms ++ [p] ∧ rows.eraseIdx p = dropR rows row := by
  obtain ⟨i, hi⟩ := List.mem_iff_getElem?.mp hm
  have im := h.all i (List.getElem?_eq_some_iff.mp hi).1 hi
  have ne : ns ≠ [] := fun z => by rw [z] at im; cases im
  obtain ⟨ms, p, rfl⟩ : ∃ u x, ns = u ++ [x] := ⟨_, _, (List.dropLast_concat_getLast ne).symm⟩
  refine ⟨ms, p, rfl, dropR_at (h.is p (by simp)).2 fun j hj ej => ?_⟩
  have jm := h.all j (List.getElem?_eq_some_iff.mp ej).1 ej
  rcases List.mem_append.mp jm with z | z
  · have := (List.pairwise_append.mp h.up).2.2 j z p (by simp)
    omega
  · rw [List.mem_singleton.mp z] at hj
    omega
end RW
namespace CC
open PySem L2 TL LamX
/-! ### the law's own judgement of any value: rows -/
abbrev sLn1 : Stmt := tp 37
def spLn1 (K : PySem.W.Frag) : Sp := fun vs H Q _ => ∃ (v : V) (w : Nat) (o : Option (List Nat)), vs = [v, .int (w : Int)] ∧ w ≤ 6 ∧ RwV K H w v o ∧ ∀ H', Same H H' → Q (.bl o.isSome) H'
/-- how many ones the list of the marks has -/
def offs (gs : List Bool) : Nat := (gs.filter fun g => !g).length
theorem offs_all (gs : List Bool) : decide (offs gs = 0) = gs.all id := by
  rw [Bool.eq_iff_iff]
  simp [offs, List.filter_eq_nil_iff]
theorem ones_eqv (n : Nat) : PyData.eqv (.list (List.replicate n (.int 1))) (.list []) = decide (n = 0) := by
  cases n with
  | zero => decide +kernel
  | succ n =>
    rw [decide_eq_false (by omega)]
    simp [PyData.eqv, PyData.eqvAll, List.replicate_succ]
theorem ones_shaped {n : Nat} (h : n ≤ 60) : SeqAt.shaped (.list (List.replicate n (.int 1))) = true := by
  have : ∀ n, n ≤ 60 → SeqAt.shaped (.list (List.replicate n (.int 1))) = true := by decide +kernel
  exact this n h
theorem ones_dp {K : PySem.W.Frag} {H : Hp} : ∀ n : Nat, DpAll K H (List.replicate n (V.int 1)) (List.replicate n (.int 1))
  | 0 => .nil
  | n + 1 => .cons (.int 1) (ones_dp n)
/-- what the law sees of a value -/
theorem rwv_key {K : PySem.W.Frag} {H : Hp} {w : Nat} {v : V} {o : Option (List Nat)} (h : RwV K H w v o) : (NoTupT K H v ∧ o.isSome = false) ∨ ∃ t us, v = .ref t ∧ SqT K H t us ∧ ((us.length ≠ w ∧ o.isSome = false) ∨ us.length = w ∧ ∃ gs : List Bool, gs.length = us.length ∧ o.isSome = gs.all id ∧
    ∀ (i : Nat) u g, us[i]? = some u → gs[i]? = some g → (g = false ∧ ElB K H u) ∨ (g = true ∧ ∃ n : Nat, u = .int (n : Int) ∧ n ≤ 9999)) := by
  classical
  cases o with
  | some r =>
    obtain ⟨d, ok⟩ := h
    obtain ⟨t, rfl, ht⟩ := gd_at d
    refine .inr ⟨t, _, rfl, ht, .inr ⟨by rw [nms_len]; exact ok.1, List.replicate r.length true, by rw [nms_len, List.length_replicate], by simp, fun i u g e1 e2 => .inr ?_⟩⟩
    obtain ⟨y, hy, rfl⟩ : ∃ y, y ∈ r ∧ u = .int (y : Int) := by
      have := List.mem_of_getElem? e1
      unfold nms at this
      obtain ⟨y, hy, e⟩ := List.mem_map.mp this
      exact ⟨y, hy, e.symm⟩
    exact ⟨by have := List.mem_of_getElem? e2; exact (List.mem_replicate.mp this).2, y, rfl, ok.2 y hy⟩
  | none =>
    rcases h with h | ⟨t, us, rfl, ht, h⟩
    · exact .inl ⟨h, rfl⟩
    · refine .inr ⟨t, us, rfl, ht, ?_⟩
      rcases h with h | ⟨hl, hE, ub, hub, hb⟩
      · exact .inl ⟨h, rfl⟩
      · refine .inr ⟨hl, us.map fun u => !decide (ElB K H u), by rw [List.length_map], ?_, fun i u g e1 e2 => ?_⟩
        · symm
          show (us.map fun u => !decide (ElB K H u)).all id = false
          rw [List.all_eq_false]
          exact ⟨false, List.mem_map.mpr ⟨ub, hub, by rw [decide_eq_true hb]; rfl⟩, by simp⟩
        · rw [List.getElem?_map, e1] at e2
          cases e2
          by_cases e : ElB K H u
          · exact .inl ⟨by show (!decide (ElB K H u)) = false; rw [decide_eq_true e]; rfl, e⟩
          · refine .inr ⟨by show (!decide (ElB K H u)) = true; rw [decide_eq_false e]; rfl, ?_⟩
            rcases hE u (List.mem_of_getElem? e1) with h | h
            · exact (e h).elim
            · exact h
section
variable {P : Program} {w : World} {K : PySem.W.Frag} {mg : Str → Option Value} {base : Heap} {kA : Addr}
abbrev nLn1 : List Str := ["_law_thing", "_law_width", "_law_part"]
theorem scLn1 : FnScope nLn1 ["_law_thing", "_law_width"] (defScope sLn1) := ⟨rfl, rfl, rfl, by decide +kernel, rfl, by decide +kernel, by decide +kernel⟩
theorem ok_ln1 {f : Addr} {fd : FuncData} {k : Nat} (F : Fun K "_law_is_line" "_law_is_line" sLn1 f fd) (T : Glb K mg kA) (cW : Cal P w K mg base "_law_is_whole" ["_law_thing", "_law_low", "_law_high"] (spWho K) 1) : FnOk P w K mg base CX0 (k + 2) f fd ["_law_thing", "_law_width"] (spLn1 K) := by
  have GW := cW.ok (k + 1) (by omega)
  refine F.ok scLn1 (fun vs H Q E h => ?_) (fun cdv A outer s H vs Q E hr h => ?_)
  · obtain ⟨v, m, o, rfl, _⟩ := h
    rfl
  · obtain ⟨v, m, o, rfl, m6, hv, q⟩ := h
    have n := scLn1.nd
    have hu64 : (A.deeper (PyProof.Rows.envOfC (Str.ofString "_law_is_line") (defScope sLn1) s.heap.objs.size f cdv)).units + 64 < cLine := by
      have := hr.un
      omega
    refine ⟨_, (pss_cons (ps_if (PW.pt (pw_or (pt_not (pt_val (pe_callB call_isi (by rfl) T.isi (by decide +kernel) (pa_cons (pv 0) (pa_cons (pe_bltn (v := .ty "tuple") (by rfl) T.tup (by decide +kernel) rfl) pa_nil))))) (pw_or1 (pt_cmpR op_ne (pe_callB call_len_seq (by rfl) T.len PySem.boot_len (pa_cons (pv 0) pa_nil)) (pv 1) (nomark _))))) (pss_one (ps_ret pe_bl)) pss_nil)
      (pss_one (ps_ret (pe_cmpR (op_eqD hu64) (pe_lc (own := [("_law_part", 2)]) (g := gName 2) (tt := tNot (tTest (tCall (spWho K) [] E0 (tCons (tVar 2) (tCons (tC (.int 0)) (tCons (tC (.int 9999)) tNil)))))) (te := tC (.int 1)) rfl n (pi_tup (pv 0)) (blkOk_by (N := nLn1) (sc := defScope sLn1) (by decide +kernel))
        (fun _ _ _ _ _ => (pg_name (i := 2) n rfl (.inl rfl))) (fun _ _ _ _ _ => pts_one (pt_not (pt_val (pe_call GW hr rfl cW.g cW.kp cW.b .nil pass0 (pa_cons (pv 2) (pa_cons pe_int (pa_cons pe_int pa_nil))))))) (fun _ _ _ _ _ => pe_int)) (pe_lst pa_nil) (nomark _))))), ?_⟩
    have un : o.isSome = false → Q (.bl false) H := fun e => by
      have := q H (Same.refl _)
      rwa [e] at this
    rcases rwv_key hv with ⟨⟨tt, ty, hn⟩, e⟩ | ⟨t, us, rfl, ht, hx⟩
    · exact ⟨_, rfl, _, _, _, _, false, rfl, .ty _, ty, hn, _, rfl, iteT (un e)⟩
    refine ⟨_, rfl, _, _, _, _, true, rfl, .ty _, ty_tup ht, kit_ty (by decide +kernel), _, rfl, iteF ?_⟩
    refine ⟨_, rfl, t, _, rfl, .inr ht, _, rfl, rfl, _, rfl, ?_⟩
    rcases hx with ⟨hl, e⟩ | ⟨hl, gs, lg, eg, hg⟩
    · rw [show (!decide (V.int ((us.length : Nat) : Int) = V.int (m : Int))) = true by rw [decide_eq_false (fun z => hl (by injection z with z; omega))]; rfl]
      exact iteT (un e)
    rw [show (!decide (V.int ((us.length : Nat) : Int) = V.int (m : Int))) = false by rw [hl]; simp]
    refine iteF ?_
    refine ⟨_, rfl, t, rfl, ⟨_, ht⟩, fun D nD => ?_⟩
    refine lc_tup (xs := us) (fun i H1 => Same H (wo H1 D) ∧ H1 D = some (.lst (List.replicate (offs (gs.take i)) (V.int 1))) ∧ offs (gs.take i) ≤ i) ⟨?_, ?_, by simp [offs]⟩ (fun i H1 _ z => same_t (z.1.trans (wo_le D)) ht) ?_ ?_
    · rw [wo_upd]
      exact fun b o e => by rw [wo_ne (ne_of_none e nD)]; exact e
    · exact upd_same
    · rintro i v H1 hv ⟨e1, e2, e3⟩
      have il : i < us.length := (List.getElem?_eq_some_iff.mp hv).1
      obtain ⟨g, eg1⟩ : ∃ g, gs[i]? = some g := ⟨_, List.getElem?_eq_getElem (by omega)⟩
      have sH : Same H H1 := e1.trans (wo_le D)
      have t1 : offs (gs.take (i + 1)) = offs (gs.take i) + (if g = true then 0 else 1) := by
        rw [take1 eg1]
        unfold offs
        rw [List.filter_append, List.length_append]
        cases g <;> rfl
      have one : g = false → ∃ acc, H1 D = some (.lst acc) ∧ acc.length < sizeLine ∧ Same H (wo (upd H1 D (.lst (acc ++ [V.int 1]))) D) ∧ (upd H1 D (.lst (acc ++ [V.int 1]))) D = some (.lst (List.replicate (offs (gs.take (i + 1))) (V.int 1))) ∧ offs (gs.take (i + 1)) ≤ i + 1 := fun e => by
        subst e
        refine ⟨_, e2, small1000 (by simp; omega), ?_, ?_, by rw [t1]; simp; omega⟩
        · rw [wo_upd]
          exact e1
        · rw [upd_same, t1]
          show some (HO.lst _) = some (HO.lst (List.replicate (offs (gs.take i) + 1) (V.int 1)))
          rw [List.replicate_succ']
      refine ⟨rfl, ⟨_, rfl, v, 0, 9999, rfl, ?_⟩⟩
      rcases hg i v g hv eg1 with ⟨rfl, no | ⟨z, rfl, hz⟩⟩ | ⟨rfl, y, rfl, y9⟩
      · exact .inl ⟨no.ext (ExtN.of sH), _, rfl, iteT (one rfl)⟩
      · refine .inr ⟨z, rfl, _, rfl, ?_⟩
        rw [decide_eq_false hz]
        exact iteT (one rfl)
      · refine .inr ⟨_, rfl, _, rfl, ?_⟩
        rw [decide_eq_true (show (0 : Int) ≤ (y : Int) ∧ ((y : Nat) : Int) ≤ 9999 by omega)]
        refine iteF ⟨e1, ?_, ?_⟩
        · rw [t1]
          exact e2
        · rw [t1]
          simp
          omega
    rintro H1 ⟨e1, e2, e3⟩
    have tk : gs.take us.length = gs := by rw [← lg, List.take_length]
    rw [tk] at e2 e3
    have s1 : Same H H1 := e1.trans (wo_le D)
    refine ⟨Nat.zero_le _, fun l1 nl1 => ?_⟩
    have s2 : Same H1 (upd H1 l1 (.lst [])) := same_new nl1
    have hl1 : (upd H1 l1 (.lst [])) l1 = some (.lst []) := upd_same
    generalize upd H1 l1 (.lst []) = H2 at s2 hl1
    refine ⟨.list (List.replicate (offs gs) (.int 1)), .list [], .lst (SqL.of (s2 _ _ e2)) (ones_dp _), .lst (SqL.of hl1) .nil, ones_shaped (by omega), by decide +kernel, ?_⟩
    rw [ones_eqv, offs_all, ← eg]
    exact q H2 (s1.trans s2)
end
end CC
namespace CC
open PySem L2 TL
def joinArg : Expr → Expr
  | .Call _ (a :: _) _ _ => a
  | e => e
def rJoin (K : PySem.W.Frag) : V → List V → Hp → VK → Prop := fun x xs H Q => ∃ a p, ∃ ys : List Str, x = .str a ∧ xs = [.ref p] ∧ (SqL K H p (ys.map V.str) ∨ SqT K H p (ys.map V.str)) ∧ (ys.map (·.length)).sum + ys.length * a.length ≤ 16777216 ∧ Q (.str (Txt.join a ys)) H
theorem pe_joinK {X : Cx} {o e : Expr} {to te : TE} {apos pos : Pos} (ho : PE X o to) (he : PE X e te) (hs : starEach [e] X.env = [(false, eval e X.env)] := by rfl) (hbase : attributeBase o "join" X.env (eval o X.env) = eval o X.env := by rfl) (hline : (apos.endLine == pos.line) = true := by rfl) :
    PE X (.Call (.Attribute o "join" apos) [e] [] pos) (tM1 (rJoin X.K) to te) := pe_join ho he hs hbase hline
def rAddSt : R2 := fun x y H Q => ∃ i j, x = .str i ∧ y = .str j ∧ i.length + j.length ≤ sizeLine ∧ Q (.str (i ++ j)) H
theorem op_addSt {X : Cx} : OpR X (binaryOp .Add) rAddSt := op_add_str
theorem sum_le {k : Nat} : ∀ l : List Nat, (∀ x ∈ l, x ≤ k) → l.sum ≤ k * l.length
  | [], _ => by simp
  | x :: l, h => by
    have h1 := h x List.mem_cons_self
    have h2 := sum_le l fun y hy => h y (List.mem_cons_of_mem _ hy)
    rw [List.sum_cons, List.length_cons, Nat.mul_succ]
    omega
section
variable {P : Program} {w : World} {K : PySem.W.Frag} {mg : Str → Option Value} {base : Heap} {kA : Addr}
def rStrI : List V → Hp → VK → Prop := fun xs H Q => ∃ n : Nat, xs = [.int (n : Int)] ∧ n ≤ 9999 ∧ Q (.str (num n)) H
theorem call_strI {X : Cx} : CallR X (.type "str") rStrI := by
  intro pins s σ H xs us Q I r h
  obtain ⟨n, rfl, hn, q⟩ := h
  exact call_str_int pins s σ H _ us Q I r ⟨_, rfl, small10k hn, q⟩
end
end CC
namespace CC
open PySem L2 TL
abbrev sTTx : Stmt := tp 35
def spTTx (K : PySem.W.Frag) : Sp := fun vs H Q _ => ∃ (g : Addr) (us : List V) (w : Nat) (rows : List (List Nat)), vs = [.ref g] ∧ SqL K H g us ∧ DpAll K H us (rows.map gd) ∧ w ≤ 6 ∧ (∀ r ∈ rows, RowOk w r) ∧ rows.length ≤ 400 ∧ ∀ H', Same H H' → Q (.str (textT rows)) H'
section
variable {P : Program} {w : World} {K : PySem.W.Frag} {mg : Str → Option Value} {base : Heap} {kA : Addr}
abbrev scTx5 : Scope := lcScT (joinArg (retVal ((defBody sTTx).getD 0 (.Pass ⟨0, 0, 0, 0⟩))))
abbrev nTTx : List Str := ["_law_lines_here", "_law_row", "_law_part"]
theorem scTTx : FnScope nTTx ["_law_lines_here"] (defScope sTTx) := ⟨rfl, rfl, rfl, by decide +kernel, rfl, by decide +kernel, by decide +kernel⟩
theorem ok_ttx {f : Addr} {fd : FuncData} {k : Nat} (F : Fun K "_law_text" "_law_text" sTTx f fd) (T : Glb K mg kA) : FnOk P w K mg base CX0 (k + 1) f fd ["_law_lines_here"] (spTTx K) := by
  refine F.ok scTTx (fun vs H Q E h => ?_) (fun cdv A outer s H vs Q E hr h => ?_)
  · obtain ⟨g, us, w, rows, rfl, _⟩ := h
    rfl
  · obtain ⟨g, us, w, rows, rfl, hg, dp, w6, ok, few, q⟩ := h
    have n := scTTx.nd
    refine ⟨_, (pss_one (ps_ret (pe_join pe_str (pe_lc (own := [("_law_row", 1)]) (g := gName 1) (tt := tYes) (te := tOp rAddSt (tM1 (rJoin K) (tC (.str " ")) (tLc (iTup K (tVar 1)) (gName 2) tYes (tCB rStrI (tCons (tVar 2) tNil)) [2])) (tC (.str "\n"))) rfl n (pi_list (pv 0)) (blkOk_by (N := nTTx) (sc := defScope sTTx) (by decide +kernel))
      (fun _ _ _ _ _ => (pg_name (i := 1) n rfl (.inl rfl))) (fun _ _ _ _ _ => pts_nil) (fun _ _ _ _ _ => (pe_op op_addSt (pe_joinK pe_str (pe_lc (own := [("_law_part", 2)]) (g := gName 2) (tt := tYes) rfl n (pi_tup (pv 1)) (blkOk_by (N := nTTx) (sc := relS scTx5 (defScope sTTx)) (by decide +kernel))
        (fun _ _ _ _ _ => (pg_name (i := 2) n rfl (.inl rfl))) (fun _ _ _ _ _ => pts_nil) (fun _ _ _ _ _ => (pe_callTy call_strI (by rfl) T.str (by decide +kernel) (pa_cons (pv 2) pa_nil))))) pe_str)))))), ?_⟩
    have ul : us.length = rows.length := by rw [dps_len dp, List.length_map]
    refine ⟨⟨_, rfl⟩, _, rfl, g, rfl, ⟨_, hg⟩, fun D nD => ?_⟩
    refine lc_list (xs := us) (fun i H1 => Same H (wo H1 D) ∧ H1 D = some (.lst (((rows.take i).map fun r => rowS r ++ "\n").map V.str))) ⟨?_, upd_same⟩ (fun i H1 _ z => same_l (z.1.trans (wo_le D)) hg) ?_ ?_
    · rw [wo_upd]
      exact fun b o e => by rw [wo_ne (ne_of_none e nD)]; exact e
    · rintro i v H1 hv ⟨e1, e2⟩
      obtain ⟨r, hr2, dr⟩ := dps_gat dp hv
      have il := (List.getElem?_eq_some_iff.mp hr2).1
      have rok := ok r (List.mem_of_getElem? hr2)
      have s1 : Same H H1 := e1.trans (wo_le D)
      obtain ⟨t, rfl, ht⟩ := gd_at (dp_same s1 _ _ dr)
      have rl := rowS_len rok w6
      have r1 := rok.1
      refine ⟨rfl, yes_if ⟨⟨_, rfl⟩, _, rfl, t, rfl, ⟨_, ht⟩, fun D2 nD2 => ?_⟩⟩
      refine lc_tup (xs := nms r) (fun j H2 => Same H1 (wo H2 D2) ∧ H2 D2 = some (.lst (((r.take j).map num).map V.str))) ⟨?_, upd_same⟩ (fun j H2 _ z => same_t (z.1.trans (wo_le D2)) ht) ?_ ?_
      · rw [wo_upd]
        exact fun b o e => by rw [wo_ne (ne_of_none e nD2)]; exact e
      · rintro j y H2 hy ⟨f1, f2⟩
        obtain ⟨c, hc, rfl⟩ := nms_get? hy
        have jl := (List.getElem?_eq_some_iff.mp hc).1
        refine ⟨rfl, yes_if ⟨_, rfl, c, rfl, rok.2 c (List.mem_of_getElem? hc), _, f2, small1000 (by rw [List.length_map, List.length_map, List.length_take]; omega), ?_, ?_⟩⟩
        · rw [wo_upd]
          exact f1
        · rw [upd_same, take1 hc, List.map_append, List.map_append]
          rfl
      rintro H2 ⟨f1, f2⟩
      rw [nms_len, List.take_length] at f2
      have s2 : Same H1 H2 := f1.trans (wo_le D2)
      have sm : ((r.map num).map (·.length)).sum ≤ 4 * ((r.map num).map (·.length)).length := sum_le _ fun x hx => by
        obtain ⟨y, hy, rfl⟩ := List.mem_map.mp hx
        obtain ⟨c, hc, rfl⟩ := List.mem_map.mp hy
        exact num_len (rok.2 c hc)
      rw [List.length_map, List.length_map] at sm
      refine ⟨_, D2, r.map num, rfl, rfl, .inl (SqL.of f2), ?_, ?_⟩
      · have e0 : ((" " : Str)).length = 1 := by decide +kernel
        show ((r.map num).map (·.length)).sum + (r.map num).length * ((" " : Str)).length ≤ 16777216
        rw [e0, List.length_map]
        omega
      refine ⟨_, _, rfl, rfl, ?_, ?_⟩
      · have e0 : (("\n" : Str)).length = 1 := by decide +kernel
        show (rowS r).length + (("\n" : Str)).length ≤ sizeLine
        rw [e0]
        exact Nat.le_trans (Nat.add_le_add_right rl 1) (by decide)
      refine ⟨_, s2 _ _ e2, small1000 (by rw [List.length_map, List.length_map, List.length_take]; omega), ?_, ?_⟩
      · rw [wo_upd]
        exact e1.trans (wo_same s2)
      · rw [upd_same, take1 hr2, List.map_append, List.map_append]
        rfl
    rintro H1 ⟨e1, e2⟩
    rw [ul, List.take_length] at e2
    have s1 : Same H H1 := e1.trans (wo_le D)
    have sm : ((rows.map fun r => rowS r ++ "\n").map (·.length)).sum ≤ 31 * ((rows.map fun r => rowS r ++ "\n").map (·.length)).length := sum_le _ fun x hx => by
      obtain ⟨y, hy, rfl⟩ := List.mem_map.mp hx
      obtain ⟨r, hr, rfl⟩ := List.mem_map.mp hy
      have rl := rowS_len (ok r hr) w6
      rw [len_tl] at rl
      rw [len_tl, tl_app, List.length_append]
      have e : (tl ("\n" : Str)).length = 1 := by decide +kernel
      omega
    rw [List.length_map, List.length_map] at sm
    refine ⟨_, D, rows.map (fun r => rowS r ++ "\n"), rfl, rfl, .inl (SqL.of e2), ?_, q H1 s1⟩
    have e0 : (Str.ofString "").length = 0 := by decide +kernel
    rw [e0, Nat.mul_zero]
    omega
end
end CC
/-! sorted(xs), xs a list of data that are alike -/
namespace SoD
open PySem PySem.Spec PyProof.Rows L2 PySem.W
/-- x is not behind y -/
def dle : PyData → PyData → Bool := dataLe false id
theorem each_pairs {X : Cx} {pins : List (Addr × Obj)} {σ : L2.St} {H : Hp} {s : Shared} (I : Inv X pins σ H s) : ∀ {ds : List PyData} {xs : List V} {us : List Value}, DpAll X.K H xs ds → Vals xs us →
    EachIs (fun v d => ∃ as, Reads s.heap v d as) us ds ∧ EachIs (fun (v : Value) (b : V × PyData) => RelV b.1 v ∧ Dp X.K H b.1 b.2 ∧ ∃ as, Reads s.heap v b.2 as) us (xs.zip ds)
  | [], _, _, h, r => by
    cases h
    cases r
    exact ⟨.nil, .nil⟩
  | d :: ds, _, _, h, r => by
    cases h with
    | cons h1 h2 =>
      cases r with
      | cons r1 r2 =>
        obtain ⟨a1, a2⟩ := each_pairs I h2 r2
        obtain ⟨as, z⟩ := Dp.reads I d _ _ h1 r1
        exact ⟨.cons ⟨as, z⟩ a1, .cons ⟨r1, h1, as, z⟩ a2⟩
theorem each_vals {K : PySem.W.Frag} {H : Hp} {R : Value → PyData → Prop} : ∀ {us : List Value} {bs : List (V × PyData)}, EachIs (fun (v : Value) (b : V × PyData) => RelV b.1 v ∧ Dp K H b.1 b.2 ∧ R v b.2) us bs → Vals (bs.map (·.1)) us ∧ DpAll K H (bs.map (·.1)) (bs.map (·.2))
  | _, _, .nil => ⟨.nil, .nil⟩
  | _, _, .cons h r => by
    obtain ⟨a1, a2⟩ := each_vals r
    exact ⟨.cons h.1 a1, .cons h.2.1 a2⟩
def rSortedD (K : PySem.W.Frag) : List V → Hp → VK → Prop := fun vs H Q => ∃ (a : Addr) (xs : List V) (ds : List PyData), vs = [V.ref a] ∧ SqL K H a xs ∧ DpAll K H xs ds ∧ AllAlike ds ∧ Sortable ds ∧ (∀ d ∈ ds, d.depth ≤ 60) ∧
  ∀ (ys : List V) (p : Addr), DpAll K H ys (ds.mergeSort dle) → H p = none → Q (.ref p) (upd H p (.lst ys))
theorem cr_sortedD {X : Cx} (hu : X.A.units + 64 < cLine) : CallR X (.builtin "sorted") (rSortedD X.K) := by
  intro pins s σ H vs us Q I r h
  obtain ⟨a, xs, ds, rfl, hs, hd, hal, hk, dep, q⟩ := h
  obtain ⟨its, rv, hl, hz⟩ := I.list hs
  obtain ⟨u, rfl, ru⟩ := vals1 r
  obtain rfl : u = Value.ref a := ru
  have keep : ∀ b o, s.heap.get? b = some o → (sortingHeap (copyHeap s.heap its) (s.heap.objs.size + 1) its).get? b = some o := fun b o e => sorting_copy_old e
  have go := fun (κ : PyProof.Rows.KeyKind) (S : SortsAt X.prog X.w X.A.in1.in1 { s with heap := sortingHeap (copyHeap s.heap its) (s.heap.objs.size + 1) its } κ its) => sorted_vals (E := X.xe) (Q := EP X pins σ Q) (κ := κ) hl.isList S (by rw [← rv.length]; exact hz)
  generalize sortingHeap (copyHeap s.heap its) (s.heap.objs.size + 1) its = h1 at keep go
  have I1 : Inv X pins σ H { s with heap := h1 } := I.kept (t' := s.toks) keep
  obtain ⟨e1, e2⟩ := each_pairs I1 hd rv
  have S := SortsAt.data (prog := X.prog) (w := X.w) (A := X.A.in1.in1) (s := { s with heap := h1 }) e1 hal hk (fun d hd => by
    have := dep d hd
    show X.A.units + 1 + 1 + d.depth < cLine
    omega)
  have lx : xs.length = ds.length := by
    have l1 := e1.length
    rw [rv.length, l1]
  refine go _ S ?_
  have z1 : (xs.zip ds).map (·.2) = ds := List.map_snd_zip (by omega)
  have kk : EachIs (fun v (b : V × PyData) => (dataKind h1 ds).keyOf v = some (keyToks b.2)) its (xs.zip ds) := by
    refine EachIs.of_zip e2.length fun p hp => ?_
    obtain ⟨_, _, as, z⟩ := e2.zip p hp
    have m2 : p.2 ∈ xs.zip ds := (List.of_mem_zip hp).2
    exact dataKind_some hal (List.of_mem_zip m2).2 z
  have out := sortVals_each (κ := dataKind h1 ds) (rev := false) (fun b : V × PyData => keyToks b.2) e2 kk
  obtain ⟨v1, v2⟩ := each_vals (R := fun v d => ∃ as, Reads h1 v d as) out
  have em : ((xs.zip ds).mergeSort (sortLe (dataKind h1 ds).toKeyOrd false fun b : V × PyData => keyToks b.2)).map (·.2) = ds.mergeSort dle := by
    have := sort_maps (r := sortLe (dataKind h1 ds).toKeyOrd false fun b : V × PyData => keyToks b.2) (s := dle) (fun b : V × PyData => b.2) (l := xs.zip ds) (fun _ _ _ _ => rfl)
    rw [z1] at this
    exact this
  rw [em] at v2
  have ol : (sortVals (dataKind h1 ds) false its its).length = its.length := sortVals_length false rfl
  generalize sortVals (dataKind h1 ds) false its its = res at v1 ol
  obtain ⟨n, hn⟩ := sortedAll_at s.heap its res.toArray
  obtain ⟨ys, v1, v2⟩ : ∃ ys : List V, Vals ys res ∧ DpAll X.K H ys (ds.mergeSort dle) := ⟨_, v1, v2⟩
  refine ⟨.ref (s.heap.objs.size + 1), upd H (s.heap.objs.size + 1) (.lst ys), I.laid (t' := s.toks) (fun b o e => sortedAll_old e) (Nat.le_succ _) ⟨?_, res, n, v1, hn⟩, rfl, q _ _ v2 (I.hok.fresh (Nat.le_succ _))⟩
  rw [v1.length, ol, ← rv.length]
  exact hz
end SoD
/-! sorted(xs), xs a list of data that are alike -/
namespace SoD
open PySem PySem.Spec PyProof.Rows L2 PySem.W
def rSortedTD (K : PySem.W.Frag) : List V → Hp → VK → Prop := fun vs H Q => ∃ (a : Addr) (xs : List V) (ds : List PyData), vs = [V.ref a] ∧ SqT K H a xs ∧ DpAll K H xs ds ∧ AllAlike ds ∧ Sortable ds ∧ (∀ d ∈ ds, d.depth ≤ 60) ∧
  ∀ (ys : List V) (p : Addr), DpAll K H ys (ds.mergeSort dle) → H p = none → Q (.ref p) (upd H p (.lst ys))
section
variable {P : Program} {w : World} {A : Around} {E : Value → Shared → Prop} {s : Shared}
/-- the items of a tuple are put into a new list -/
theorem coll_tup {l : Addr} {vs : List Value} {Q : List Value → Shared → Prop} (hl : IsTup s.heap l vs.toArray) (hz : vs.length ≤ sizeLine) (h : Q vs { s with heap := (s.heap.push (seqObj "list" #[] 0)).update s.heap.objs.size (Obj.mapSeq (· ++ vs.toArray)) }) : wpAny (model P w) A (collect (.ref l)) Q E s := by
  obtain ⟨o, ho, hc, n, hd⟩ := hl
  have ho1 : (s.heap.push (seqObj "list" #[] 0)).get? l = some o := Heap.get?_push_of_some _ ho
  have hn : (s.heap.push (seqObj "list" #[] 0)).get? s.heap.objs.size = some (seqObj "list" #[] 0) := Heap.get?_push_size _ rfl
  unfold collect
  refine wpAny_bind (wpAny_runValue (codeAny_builtin entry_proto_collect' ?_))
  show wpAny (model P w) _ (newList [] >>= fun z => again (.builtin "list.__iadd__" ⟨[z, .ref l], []⟩)) _ _ s
  refine wpAny_bind (wpAny_newList ?_ (Nat.zero_le _))
  refine wpAny_pure ⟨Code.quiet_builtin _ (by decide +kernel), codeAny_builtin entry_list_iadd' ?_⟩
  show wpAny (model P w) _ (Builtin.List.listExtendWith (.ref s.heap.objs.size) (.ref l) (.ref s.heap.objs.size)) _ _ _
  unfold Builtin.List.listExtendWith
  refine wpAny_bind (wpAny_typeOf (T := "tuple") ⟨o, ho1, hc⟩ ?_)
  have h3 : (Value.type "tuple" == Value.type "tuple") = true := by decide
  simp only [h3, Bool.or_true, if_true]
  refine wpAny_bind ?_
  unfold Builtin.List.listItems
  refine wpAny_bind (wpAny_seqItems ho1 hd (wpAny_pure ?_))
  refine wpAny_bind ?_
  refine wpAny_bind (wpAny_seqItems hn rfl (wpAny_pure ?_))
  rw [if_neg (by simp)]
  refine wpAny_bind ?_
  show wpAny _ _ (updateSeq s.heap.objs.size (· ++ vs.toArray)) _ _ _
  refine wpAny_updateSeq hn rfl ?_ (Nat.zero_le _) (by show ((#[] : Array Value) ++ vs.toArray).size ≤ sizeLine + 1; simp only [Array.size_append, List.size_toArray, List.length_nil]; omega)
  refine wpAny_pure ?_
  show wpAny (model P w) A (load s.heap.objs.size >>= fun o => match o.data with | .seq xs _ => pure xs.toList | _ => unsupported "internal:collect") Q E _
  refine wpAny_bind (wpAny_load (get?_update_seq hn _) ?_)
  show wpAny _ _ (pure ((#[] : Array Value) ++ vs.toArray).toList) Q E _
  rw [show ((#[] : Array Value) ++ vs.toArray).toList = vs by simp]
  exact wpAny_pure h
/-- sorted(t), t a tuple -/
theorem sorted_tupV {κ : PyProof.Rows.KeyKind} {l : Addr} {vs : List Value} {Q : Value → Shared → Prop} (hl : IsTup s.heap l vs.toArray) (S : SortsAt P w A.in1.in1 { s with heap := sortingHeap (copyHeap s.heap vs) (s.heap.objs.size + 1) vs } κ vs) (hz : vs.length ≤ sizeLine)
    (h : Q (.ref (s.heap.objs.size + 1)) { s with heap := sortedAll s.heap vs (sortVals κ false vs vs).toArray }) : wpAny (model P w) A (call (.builtin "sorted") [.ref l]) Q E s := by
  refine call_function_entry_kw kind_sorted plain_sorted entry_sorted (args_sorted1 _) ?_
  unfold Builtin.«sorted»
  refine wpAny_bind (m := checkCount "sorted" 1 1 _) (wpAny_pure ?_)
  refine wpAny_bind (coll_tup hl hz ?_)
  refine wpAny_bind (wpAny_newList ?_ hz)
  have hsz : ((s.heap.push (seqObj "list" #[] 0)).update s.heap.objs.size (Obj.mapSeq (· ++ vs.toArray))).objs.size = s.heap.objs.size + 1 := by rw [Heap.size_update, size_push']
  show wpAny _ _ _ _ _ { s with heap := copyHeap s.heap vs }
  rw [hsz]
  refine wpAny_bind (wpAny_holding (wpAny_call_entry_kw slot_list_sort ⟨_, copyHeap_at s.heap vs, rfl⟩ entry_list_sort ?_ (args_list_sort _)))
  refine wpAny_mono (list_sort_vals (P := fun f s' => f = .done (.ret .none) ∧ Q (.ref (s.heap.objs.size + 1)) s') (s := { s with heap := copyHeap s.heap vs }) (copyHeap_at s.heap vs) S hz ⟨rfl, h⟩) (fun f s' hf => ?_) fun _ _ e => e
  obtain ⟨rfl, hq⟩ := hf
  exact ⟨_, rfl, wpAny_pure ⟨_, rfl, hq⟩⟩
end
theorem cr_sortedTD {X : Cx} (hu : X.A.units + 64 < cLine) : CallR X (.builtin "sorted") (rSortedTD X.K) := by
  intro pins s σ H vs us Q I r h
  obtain ⟨a, xs, ds, rfl, hs, hd, hal, hk, dep, q⟩ := h
  obtain ⟨its, rv, hl, hz⟩ := I.tuple hs
  obtain ⟨u, rfl, ru⟩ := vals1 r
  obtain rfl : u = Value.ref a := ru
  have keep : ∀ b o, s.heap.get? b = some o → (sortingHeap (copyHeap s.heap its) (s.heap.objs.size + 1) its).get? b = some o := fun b o e => sorting_copy_old e
  have go := fun (κ : PyProof.Rows.KeyKind) (S : SortsAt X.prog X.w X.A.in1.in1 { s with heap := sortingHeap (copyHeap s.heap its) (s.heap.objs.size + 1) its } κ its) => sorted_tupV (E := X.xe) (Q := EP X pins σ Q) (κ := κ) hl S (by rw [← rv.length]; exact hz)
  generalize sortingHeap (copyHeap s.heap its) (s.heap.objs.size + 1) its = h1 at keep go
  have I1 : Inv X pins σ H { s with heap := h1 } := I.kept (t' := s.toks) keep
  obtain ⟨e1, e2⟩ := each_pairs I1 hd rv
  have S := SortsAt.data (prog := X.prog) (w := X.w) (A := X.A.in1.in1) (s := { s with heap := h1 }) e1 hal hk (fun d hd => by
    have := dep d hd
    show X.A.units + 1 + 1 + d.depth < cLine
    omega)
  have lx : xs.length = ds.length := by
    have l1 := e1.length
    rw [rv.length, l1]
  refine go _ S ?_
  have z1 : (xs.zip ds).map (·.2) = ds := List.map_snd_zip (by omega)
  have kk : EachIs (fun v (b : V × PyData) => (dataKind h1 ds).keyOf v = some (keyToks b.2)) its (xs.zip ds) := by
    refine EachIs.of_zip e2.length fun p hp => ?_
    obtain ⟨_, _, as, z⟩ := e2.zip p hp
    have m2 : p.2 ∈ xs.zip ds := (List.of_mem_zip hp).2
    exact dataKind_some hal (List.of_mem_zip m2).2 z
  have out := sortVals_each (κ := dataKind h1 ds) (rev := false) (fun b : V × PyData => keyToks b.2) e2 kk
  obtain ⟨v1, v2⟩ := each_vals (R := fun v d => ∃ as, Reads h1 v d as) out
  have em : ((xs.zip ds).mergeSort (sortLe (dataKind h1 ds).toKeyOrd false fun b : V × PyData => keyToks b.2)).map (·.2) = ds.mergeSort dle := by
    have := sort_maps (r := sortLe (dataKind h1 ds).toKeyOrd false fun b : V × PyData => keyToks b.2) (s := dle) (fun b : V × PyData => b.2) (l := xs.zip ds) (fun _ _ _ _ => rfl)
    rw [z1] at this
    exact this
  rw [em] at v2
  have ol : (sortVals (dataKind h1 ds) false its its).length = its.length := sortVals_length false rfl
  generalize sortVals (dataKind h1 ds) false its its = res at v1 ol
  obtain ⟨n, hn⟩ := sortedAll_at s.heap its res.toArray
  obtain ⟨ys, v1, v2⟩ : ∃ ys : List V, Vals ys res ∧ DpAll X.K H ys (ds.mergeSort dle) := ⟨_, v1, v2⟩
  refine ⟨.ref (s.heap.objs.size + 1), upd H (s.heap.objs.size + 1) (.lst ys), I.laid (t' := s.toks) (fun b o e => sortedAll_old e) (Nat.le_succ _) ⟨?_, res, n, v1, hn⟩, rfl, q _ _ v2 (I.hok.fresh (Nat.le_succ _))⟩
  rw [v1.length, ol, ← rv.length]
  exact hz
end SoD
namespace CC
open PySem L2 TL
abbrev sTEq : Stmt := inClass (tp 27) 6
/-- table == table -/
def spTEq (K : PySem.W.Frag) (C : Addr) : Sp := fun vs H Q _ => ∃ (x y : Addr) (w v : Nat) (rs ts : List (List Nat)), vs = [.ref x, .ref y] ∧ TableAt K C H x w rs ∧ TableAt K C H y v ts ∧ 1 ≤ w ∧ (∀ r ∈ rs, RowOk w r) ∧ (∀ r ∈ ts, RowOk v r) ∧
  ∀ (b : Bool) (H' : Hp), Same H H' → (b = true ↔ w = v ∧ rs.Perm ts) → Q (.bl b) H'
/-! ### sorted rows -/
def ungd : PyData → List Nat
  | .tuple ds => ds.map fun | .int i => i.toNat | _ => 0
  | _ => []
theorem ungd_gd (m : List Nat) : ungd (gd m) = m := by
  unfold gd ungd
  simp only [List.map_map]
  exact (List.map_congr_left fun x _ => by simp).trans (List.map_id m)
theorem gd_inj {m l : List Nat} (h : gd m = gd l) : m = l := by
  rw [← ungd_gd m, h, ungd_gd]
theorem dle_gd (m l : List Nat) : SoD.dle (gd m) (gd l) = !decide (l.map (fun (n : Nat) => (n : Int)) < m.map (fun (n : Nat) => (n : Int))) := by
  rw [← PySem.W.dataLt_ints]
  show (!PySem.W.dataLt (gd l) (gd m)) = _
  unfold gd
  rw [List.map_map, List.map_map]
  rfl
theorem map_nat_inj {m l : List Nat} (h : m.map (fun (n : Nat) => (n : Int)) = l.map (fun (n : Nat) => (n : Int))) : m = l := by
  have := congrArg (List.map Int.toNat) h
  rw [List.map_map, List.map_map, show (Int.toNat ∘ fun (n : Nat) => (n : Int)) = id from funext fun n => Int.toNat_natCast n, List.map_id, List.map_id] at this
  exact this
theorem dle_anti {m l : List Nat} (h1 : SoD.dle (gd m) (gd l) = true) (h2 : SoD.dle (gd l) (gd m) = true) : m = l := by
  rw [dle_gd] at h1 h2
  simp only [Bool.not_eq_true', decide_eq_false_iff_not] at h1 h2
  exact map_nat_inj (List.le_antisymm (List.not_lt.mp h1) (List.not_lt.mp h2))
theorem rows_sort (rs ts : List (List Nat)) : (rs.map gd).mergeSort SoD.dle = (ts.map gd).mergeSort SoD.dle ↔ rs.Perm ts := by
  have tot : PySem.W.TotalLe SoD.dle := PySem.W.sortLe_total (PyProof.Rows.listOrd PyProof.Rows.itemOrd) false fun b : PyData => PySem.W.keyToks b
  constructor
  · intro h
    have p : (rs.map gd).Perm (ts.map gd) := ((List.mergeSort_perm (rs.map gd) SoD.dle).symm.trans (by rw [h])).trans (List.mergeSort_perm (ts.map gd) SoD.dle)
    have q := p.map ungd
    rw [List.map_map, List.map_map, show ungd ∘ gd = id from funext ungd_gd, List.map_id, List.map_id] at q
    exact q
  · intro h
    have pm : ((rs.map gd).mergeSort SoD.dle).Perm ((ts.map gd).mergeSort SoD.dle) := (List.mergeSort_perm _ _).trans ((h.map gd).trans (List.mergeSort_perm _ _).symm)
    refine List.Perm.eq_of_pairwise (le := fun a b => SoD.dle a b = true) (fun a b ha hb h1 h2 => ?_) (PySem.W.sort_pairwise tot _) (PySem.W.sort_pairwise tot _) pm
    obtain ⟨m, _, rfl⟩ := List.mem_map.mp ((List.mergeSort_perm _ _).mem_iff.mp ha)
    obtain ⟨l, _, rfl⟩ := List.mem_map.mp ((List.mergeSort_perm _ _).mem_iff.mp hb)
    rw [dle_anti h1 h2]
/-- sorted rows are rows -/
theorem sort_gd (rs : List (List Nat)) : ∃ L : List (List Nat), (rs.map gd).mergeSort SoD.dle = L.map gd := by
  refine ⟨((rs.map gd).mergeSort SoD.dle).map ungd, ?_⟩
  rw [List.map_map]
  refine (List.map_id _).symm.trans (List.map_congr_left fun d hd => ?_)
  obtain ⟨m, _, rfl⟩ := List.mem_map.mp ((List.mergeSort_perm _ _).mem_iff.mp hd)
  show gd m = gd (ungd (gd m))
  rw [ungd_gd]
theorem gdl_eqv : ∀ A B : List (List Nat), PyData.eqvAll (A.map gd) (B.map gd) = decide (A = B)
  | [], [] => by simp [PyData.eqvAll]
  | [], _ :: _ => by simp [PyData.eqvAll]
  | _ :: _, [] => by simp [PyData.eqvAll]
  | a :: A, b :: B => by
    simp only [List.map_cons, PyData.eqvAll, RW.gd_eqv, gdl_eqv A B]
    by_cases h1 : a = b <;> by_cases h2 : A = B <;> simp [h1, h2]
theorem nums_alike : ∀ m l : List Nat, PySem.W.alikeAll (m.map fun (n : Nat) => PyData.int (n : Int)) (l.map fun (n : Nat) => PyData.int (n : Int)) = true
  | [], _ => by simp [PySem.W.alikeAll]
  | _ :: _, [] => by simp [PySem.W.alikeAll]
  | a :: m, b :: l => by simp [PySem.W.alikeAll, PySem.W.alike, nums_alike m l]
theorem gds_alike (L : List (List Nat)) : PySem.W.AllAlike (L.map gd) := by
  intro d hd d' hd'
  obtain ⟨m, _, rfl⟩ := List.mem_map.mp hd
  obtain ⟨l, _, rfl⟩ := List.mem_map.mp hd'
  exact nums_alike m l
theorem gds_sortable {w : Nat} {L : List (List Nat)} (w1 : 1 ≤ w) (ok : ∀ r ∈ L, RowOk w r) : PySem.W.Sortable (L.map gd) := .inl fun d hd => by
  obtain ⟨m, hm, rfl⟩ := List.mem_map.mp hd
  have := (ok m hm).1
  cases m with
  | nil => simp at this; omega
  | cons a m => exact ⟨_, _, rfl⟩
theorem gds_dep (L : List (List Nat)) : ∀ d ∈ L.map gd, d.depth ≤ 60 := fun d hd => by
  obtain ⟨m, _, rfl⟩ := List.mem_map.mp hd
  have := (RW.nums_lay m).2
  show PyData.depthAll _ + 1 ≤ 60
  omega
section
variable {P : Program} {w : World} {K : PySem.W.Frag} {mg : Str → Option Value} {base : Heap} {kA : Addr}
theorem scTEq : FnScope ["self", "other"] ["self", "other"] (defScope sTEq) := ⟨rfl, rfl, rfl, by decide +kernel, rfl, by decide +kernel, by decide +kernel⟩
theorem ok_teq {f C : Addr} {fd : FuncData} {k : Nat} (F : Fun K "__eq__" "Table.__eq__" sTEq f fd) (T : Glb K mg kA) (TC : TxtT K mg C) (ic : C8.InsC K C) : FnOk P w K mg base CX0 (k + 1) f fd ["self", "other"] (spTEq K C) := by
  refine F.ok scTEq (fun vs H Q E h => ?_) (fun cdv A outer s H vs Q E hr h => ?_)
  · obtain ⟨x, y, m, v, rs, ts, rfl, _⟩ := h
    rfl
  · obtain ⟨x, y, m, v, rs, ts, rfl, ⟨dx, g, us, h1, h2, h3⟩, ⟨dy, g', us', t1, t2, t3⟩, w1, ho, ho', q⟩ := h
    have hu64 : (A.deeper (PyProof.Rows.envOfC (Str.ofString "Table.__eq__") (defScope sTEq) s.heap.objs.size f cdv)).units + 64 < cLine := by
      have := hr.un
      omega
    refine ⟨_, (pss_cons (ps_if (PW.pt (pw_or (pt_not (pt_val (pe_callB (C8.call_isC ic) (by rfl) T.isi (by decide +kernel) (pa_cons (pv 1) (pa_cons (pe_glob (v := .ref C) rfl TC.mgC rfl) pa_nil))))) (pw_or1 (pt_cmpR op_ne (pe_fld (pv 0) rfl) (pe_fld (pv 1) rfl) (nomark _))))) (pss_one (ps_ret pe_bl)) pss_nil)
      (pss_one (ps_ret (pe_cmpR (op_eqD hu64) (pe_callB (SoD.cr_sortedTD hu64) (by rfl) T.srt (by decide +kernel) (pa_cons (pe_fld (pv 0) rfl) pa_nil)) (pe_callB (SoD.cr_sortedTD hu64) (by rfl) T.srt (by decide +kernel) (pa_cons (pe_fld (pv 1) rfl) pa_nil)) (nomark _))))), ?_⟩
    refine ⟨_, rfl, y, dy, _, rfl, t1, _, rfl, iteF ?_⟩
    refine ⟨_, rfl, x, C, dx, _, _, rfl, h1, TC.cl, TC.nS, fldT_span _ _, _, rfl, y, C, dy, _, _, rfl, t1, TC.cl, TC.nS, fldT_span _ _, rfl, _, rfl, ?_⟩
    by_cases e : m = v
    · refine iteF' (by rw [e, decide_eq_true rfl]; rfl) ?_
      subst e
      refine ⟨_, rfl, x, C, dx, _, _, rfl, h1, TC.cl, TC.nL, fldT_lines _ _, g, us, rs.map gd, rfl, .inl (.inl h2), h3, gds_alike rs, gds_sortable w1 ho, gds_dep rs, fun ys p dy1 np => ?_⟩
      have s1 : Same H (upd H p (.lst ys)) := same_new np
      have hp : (upd H p (.lst ys)) p = some (.lst ys) := upd_same
      have dy2 := dps_same s1 _ _ dy1
      generalize upd H p (.lst ys) = H1 at s1 hp dy2
      refine ⟨_, rfl, y, C, dy, _, _, rfl, s1 _ _ t1, TC.cl, TC.nL, fldT_lines _ _, g', us', ts.map gd, rfl, .inl (.inl (s1 _ _ t2)), dps_same s1 _ _ t3, gds_alike ts, gds_sortable w1 ho', gds_dep ts, fun zs p2 dz1 np2 => ?_⟩
      have s2 : Same H1 (upd H1 p2 (.lst zs)) := same_new np2
      have key := rows_sort rs ts
      obtain ⟨L1, e1⟩ := sort_gd rs
      obtain ⟨L2, e2⟩ := sort_gd ts
      rw [e1] at dy2 key
      rw [e2] at dz1 key
      refine ⟨.list (L1.map gd), .list (L2.map gd), .lst (SqL.of (s2 _ _ hp)) (dps_same s2 _ _ dy2), .lst (SqL.of upd_same) (dps_same s2 _ _ dz1), RW.gdl_shp _, RW.gdl_shp _, ?_⟩
      refine q _ _ (s1.trans s2) ?_
      show PyData.eqvAll (L1.map gd) (L2.map gd) = true ↔ _
      rw [gdl_eqv, decide_eq_true_iff, ← key]
      constructor
      · intro z
        exact ⟨rfl, by rw [z]⟩
      · intro z
        have z2 := congrArg (List.map ungd) z.2
        rw [List.map_map, List.map_map, show ungd ∘ gd = id from funext ungd_gd, List.map_id, List.map_id] at z2
        exact z2
    · refine iteT' (by rw [decide_eq_false (fun z => e (by injection z with z; omega))]; rfl) ?_
      exact q false H (Same.refl _) ⟨(fun z => nomatch z), fun z => absurd z.1 e⟩
end
end CC
namespace CC
open PySem L2 TL
abbrev sTText : Stmt := inClass (tp 27) 11
def spTText (K : PySem.W.Frag) (C : Addr) : Sp := fun vs H Q _ => ∃ (x : Addr) (w : Nat) (rows : List (List Nat)), vs = [.ref x] ∧ TableAt K C H x w rows ∧ w ≤ 6 ∧ (∀ r ∈ rows, RowOk w r) ∧ rows.length ≤ 400 ∧ ∀ H', Same H H' → Q (.str (textT rows)) H'
/-- table.text() -/
structure TxtTM (P : Program) (w : World) (K : PySem.W.Frag) (mg : Str → Option Value) (base : Heap) (C : Addr) (l : Nat) where
  f : Addr
  fd : FuncData
  m : Meth K C "text" f
  ok : ∀ k, l ≤ k → FnOk P w K mg base CX0 k f fd ["self"] (spTText K C)
  b : Binds K fd ["self"] []
def asgValT : Stmt → Expr
  | .Assign _ v _ => v
  | _ => .Constant .none 0 ⟨0, 0, 0, 0⟩
def tLnT : TE := fun σ H Q => tJs [tFmt (tVar 4), tC (.str "\n")] Str.empty σ H fun out H1 => Q (V.str out) H1
theorem emp_app (x : Str) : Str.empty ++ x = x := by
  refine ext_tl ?_
  show tl _ = tl _
  rw [tl_app]
  rfl
section
variable {P : Program} {w : World} {K : PySem.W.Frag} {mg : Str → Option Value} {base : Heap} {kA : Addr}
abbrev nTx2 : List Str := ["self", "lines", "row", "part", "line"]
theorem scTText : FnScope nTx2 ["self"] (defScope sTText) := ⟨rfl, rfl, rfl, by decide +kernel, rfl, by decide +kernel, by decide +kernel⟩
abbrev scTtI : Scope := lcScT (asgValT ((defBody sTText).getD 0 (.Pass ⟨0, 0, 0, 0⟩)))
theorem ok_ttext {f C : Addr} {fd : FuncData} {k : Nat} (F : Fun K "text" "Table.text" sTText f fd) (T : Glb K mg kA) (TC : TxtT K mg C) : FnOk P w K mg base CX0 (k + 1) f fd ["self"] (spTText K C) := by
  refine F.ok scTText (fun vs H Q E h => ?_) (fun cdv A outer s H vs Q E hr h => ?_)
  · obtain ⟨x, m, rows, rfl, _⟩ := h
    rfl
  · obtain ⟨x, m, rows, rfl, ⟨dx, g, us, h1, h2, h3⟩, w6, ok, few, q⟩ := h
    have n := scTText.nd
    refine ⟨_, (pss_cons (ps_setLc (i := 1) (own := [("row", 2)]) (g := gName 2) (tt := tYes) (te := tM1 (rJoin K) (tC (.str " ")) (tLc (iTup K (tVar 2)) (gName 3) tYes (tCB rStrI (tCons (tVar 3) tNil)) [3])) rfl n rfl rfl (sw_true rfl rfl rfl (by decide +kernel)) (pi_tup (pe_fld (pv 0) rfl)) (blkOk_by (N := nTx2) (sc := defScope sTText) (by decide +kernel))
    (fun _ _ _ _ _ => (pg_name (i := 2) n rfl (.inl rfl))) (fun _ _ _ _ _ => pts_nil) (fun _ _ _ _ _ => (pe_joinK pe_str (pe_lc (own := [("part", 3)]) (g := gName 3) (tt := tYes) rfl n (pi_tup (pv 2)) (blkOk_by (N := nTx2) (sc := relS scTtI (defScope sTText)) (by decide +kernel))
    (fun _ _ _ _ _ => (pg_name (i := 3) n rfl (.inl rfl))) (fun _ _ _ _ _ => pts_nil) (fun _ _ _ _ _ => (pe_callTy call_strI (by rfl) T.str (by decide +kernel) (pa_cons (pv 3) pa_nil)))))))
  (pss_one (ps_ret (pe_join pe_str (pe_lc (own := [("line", 4)]) (g := gName 4) (tt := tYes) (te := tLnT) rfl n (pi_list (pv 1)) (blkOk_by (N := nTx2) (sc := defScope sTText) (by decide +kernel))
    (fun _ _ _ _ _ => (pg_name (i := 4) n rfl (.inl rfl))) (fun _ _ _ _ _ => pts_nil) (fun _ _ _ _ _ => (pe_joined (.cons (pe_fmt (pv 4)) (.cons pe_str .nil))))))))), ?_⟩
    have ul : us.length = rows.length := by rw [dps_len h3, List.length_map]
    refine ⟨_, rfl, x, C, dx, _, _, rfl, h1, TC.cl, TC.nL, fldT_lines _ _, g, rfl, ⟨_, .inl (.inl h2)⟩, fun D nD => ?_⟩
    refine lc_tup (xs := us) (fun i H1 => Same H (wo H1 D) ∧ H1 D = some (.lst (((rows.take i).map rowS).map V.str))) ⟨?_, upd_same⟩ (fun i H1 _ z => .inl (.inl (wo_le D _ _ (z.1 _ _ h2)))) ?_ ?_
    · rw [wo_upd]
      exact fun b o e => by rw [wo_ne (ne_of_none e nD)]; exact e
    · rintro i v H1 hv ⟨e1, e2⟩
      obtain ⟨r, hr2, dr⟩ := dps_gat h3 hv
      have il := (List.getElem?_eq_some_iff.mp hr2).1
      have rok := ok r (List.mem_of_getElem? hr2)
      have s1 : Same H H1 := e1.trans (wo_le D)
      obtain ⟨t, rfl, ht⟩ := gd_at (dp_same s1 _ _ dr)
      have r1 := rok.1
      refine ⟨rfl, yes_if ⟨⟨_, rfl⟩, _, rfl, t, rfl, ⟨_, ht⟩, fun D2 nD2 => ?_⟩⟩
      refine lc_tup (xs := nms r) (fun j H2 => Same H1 (wo H2 D2) ∧ H2 D2 = some (.lst (((r.take j).map num).map V.str))) ⟨?_, upd_same⟩ (fun j H2 _ z => same_t (z.1.trans (wo_le D2)) ht) ?_ ?_
      · rw [wo_upd]
        exact fun b o e => by rw [wo_ne (ne_of_none e nD2)]; exact e
      · rintro j y H2 hy ⟨f1, f2⟩
        obtain ⟨c, hc, rfl⟩ := nms_get? hy
        have jl := (List.getElem?_eq_some_iff.mp hc).1
        refine ⟨rfl, yes_if ⟨_, rfl, c, rfl, rok.2 c (List.mem_of_getElem? hc), _, f2, small1000 (by rw [List.length_map, List.length_map, List.length_take]; omega), ?_, ?_⟩⟩
        · rw [wo_upd]
          exact f1
        · rw [upd_same, take1 hc, List.map_append, List.map_append]
          rfl
      rintro H2 ⟨f1, f2⟩
      rw [nms_len, List.take_length] at f2
      have s2 : Same H1 H2 := f1.trans (wo_le D2)
      have sm : ((r.map num).map (·.length)).sum ≤ 4 * ((r.map num).map (·.length)).length := sum_le _ fun x hx => by
        obtain ⟨y, hy, rfl⟩ := List.mem_map.mp hx
        obtain ⟨c, hc, rfl⟩ := List.mem_map.mp hy
        exact num_len (rok.2 c hc)
      rw [List.length_map, List.length_map] at sm
      refine ⟨_, D2, r.map num, rfl, rfl, .inl (SqL.of f2), ?_, ?_⟩
      · have e0 : ((" " : Str)).length = 1 := by decide +kernel
        show ((r.map num).map (·.length)).sum + (r.map num).length * ((" " : Str)).length ≤ 16777216
        rw [e0, List.length_map]
        omega
      refine ⟨_, s2 _ _ e2, small1000 (by rw [List.length_map, List.length_map, List.length_take]; omega), ?_, ?_⟩
      · rw [wo_upd]
        exact e1.trans (wo_same s2)
      · rw [upd_same, take1 hr2, List.map_append, List.map_append]
        rfl
    rintro H1 ⟨e1, e2⟩
    rw [ul, List.take_length] at e2
    have s1 : Same H H1 := e1.trans (wo_le D)
    have rl : ∀ r ∈ rows, (rowS r ++ "\n").length ≤ 31 := fun r hr => by
      have rl := rowS_len (ok r hr) w6
      rw [len_tl] at rl
      rw [len_tl, tl_app, List.length_append]
      have e : (tl ("\n" : Str)).length = 1 := by decide +kernel
      omega
    have big : ∀ {n : Nat}, n ≤ 40 → n ≤ sizeLine := fun h => Nat.le_trans h (by decide)
    refine ⟨⟨_, rfl⟩, _, rfl, D, rfl, ⟨_, SqL.of e2⟩, fun D4 nD4 => ?_⟩
    refine lc_list (xs := (rows.map rowS).map V.str) (fun i H2 => Same H1 (wo H2 D4) ∧ H2 D4 = some (.lst (((rows.take i).map fun r => rowS r ++ "\n").map V.str))) ⟨?_, upd_same⟩ (fun i H2 _ z => SqL.of (wo_le D4 _ _ (z.1 _ _ e2))) ?_ ?_
    · rw [wo_upd]
      exact fun b o e => by rw [wo_ne (ne_of_none e nD4)]; exact e
    · rintro i v H2 hv ⟨f1, f2⟩
      obtain ⟨r, hr2, rfl⟩ : ∃ r, rows[i]? = some r ∧ v = .str (rowS r) := by
        rw [List.getElem?_map, List.getElem?_map] at hv
        cases z : rows[i]? with
        | none => rw [z] at hv; cases hv
        | some r => rw [z] at hv; exact ⟨r, rfl, (Option.some.inj hv).symm⟩
      have rm := List.mem_of_getElem? hr2
      have il := (List.getElem?_eq_some_iff.mp hr2).1
      have l1 := rl r rm
      have l2 := rowS_len (ok r rm) w6
      refine ⟨rfl, yes_if ⟨_, rfl, .inl ⟨_, rfl, big (by omega), _, rfl, big (by rw [emp_app]; omega), _, rfl, big (by rw [emp_app]; omega), ?_⟩⟩⟩
      refine ⟨_, f2, small1000 (by rw [List.length_map, List.length_map, List.length_take]; omega), ?_, ?_⟩
      · rw [wo_upd]
        exact f1
      · rw [upd_same, take1 hr2, List.map_append, List.map_append]
        show some (HO.lst (_ ++ [V.str (Str.empty ++ rowS r ++ "\n")])) = some (HO.lst (_ ++ [V.str (rowS r ++ "\n")]))
        rw [emp_app]
    rintro H2 ⟨f1, f2⟩
    rw [List.length_map, List.length_map, List.take_length] at f2
    have sm : ((rows.map fun r => rowS r ++ "\n").map (·.length)).sum ≤ 31 * ((rows.map fun r => rowS r ++ "\n").map (·.length)).length := sum_le _ fun x hx => by
      obtain ⟨y, hy, rfl⟩ := List.mem_map.mp hx
      obtain ⟨r, hr, rfl⟩ := List.mem_map.mp hy
      exact rl r hr
    rw [List.length_map, List.length_map] at sm
    refine ⟨_, D4, rows.map (fun r => rowS r ++ "\n"), rfl, rfl, .inl (SqL.of f2), ?_, q H2 (s1.trans (f1.trans (wo_le D4)))⟩
    have e0 : (Str.ofString "").length = 0 := by decide +kernel
    rw [e0, Nat.mul_zero]
    omega
end
end CC
namespace CC
open PySem L2 TL
abbrev sTLen : Stmt := inClass (tp 27) 4
def spTLen (K : PySem.W.Frag) (C : Addr) : Sp := fun vs H Q _ => ∃ (x : Addr) (w : Nat) (rows : List (List Nat)), vs = [.ref x] ∧ TableAt K C H x w rows ∧ Q (.int (rows.length : Int)) H
/-- len(table) -/
structure LenT (P : Program) (w : World) (K : PySem.W.Frag) (mg : Str → Option Value) (base : Heap) (C : Addr) (sp : Sp) (l : Nat) where
  f : Addr
  fi : PySem.W.findIn K (.ref C) "__len__" = some (some (.ref f))
  fn : PySem.W.isFn K (.ref f) = true
  ok : ∀ k, l ≤ k → FnR P w K mg base CX0 k f sp
section
variable {P : Program} {w : World} {K : PySem.W.Frag} {mg : Str → Option Value} {base : Heap} {kA : Addr}
theorem scTLen : FnScope ["self"] ["self"] (defScope sTLen) := ⟨rfl, rfl, rfl, by decide +kernel, rfl, by decide +kernel, by decide +kernel⟩
theorem ok_tlen {f C : Addr} {fd : FuncData} {k : Nat} (F : Fun K "__len__" "Table.__len__" sTLen f fd) (T : Glb K mg kA) (TC : TxtT K mg C) : FnOk P w K mg base CX0 (k + 1) f fd ["self"] (spTLen K C) := by
  refine F.ok scTLen (fun vs H Q E h => ?_) (fun cdv A outer s H vs Q E hr h => ?_)
  · obtain ⟨x, m, rows, rfl, _⟩ := h
    rfl
  · obtain ⟨x, m, rows, rfl, ⟨dx, g, us, h1, h2, h3⟩, q⟩ := h
    have ul : us.length = rows.length := by rw [dps_len h3, List.length_map]
    refine ⟨_, pss_one (ps_ret (pe_callB call_len_seq (by rfl) T.len PySem.boot_len (pa_cons (pe_fld (pv 0) rfl) pa_nil))), ?_⟩
    refine ⟨_, rfl, x, C, dx, _, _, rfl, h1, TC.cl, TC.nL, fldT_lines _ _, g, us, rfl, .inr (.inl (.inl h2)), ?_⟩
    rw [ul]
    exact q
end
end CC
namespace CC
open PySem L2
def rkey (r : R) : Nat := (if r.k then 0 else 36) + r.a * 6 + r.b
theorem it1 : PyProof.Rows.itemLt (.inr (kd true).cps.toList) (.inr (kd false).cps.toList) = true := by decide +kernel
theorem it2 : PyProof.Rows.itemLt (.inr (kd false).cps.toList) (.inr (kd true).cps.toList) = false := by decide +kernel
theorem it3 (k : Bool) : PyProof.Rows.itemLt (.inr (kd k).cps.toList) (.inr (kd k).cps.toList) = false := PyProof.Rows.itemOrd.irrefl (.inr (kd k).cps.toList)
theorem dle_r {r s : R} (h1 : r.ok 6) (h2 : s.ok 6) : SoD.dle r.d s.d = decide (rkey r ≤ rkey s) := by
  obtain ⟨k, a, b⟩ := r
  obtain ⟨k', a', b'⟩ := s
  obtain ⟨l1, l2, _⟩ := h1
  obtain ⟨l3, l4, _⟩ := h2
  simp only at l1 l2 l3 l4
  show (!PyProof.Rows.lexLt PyProof.Rows.itemOrd (PySem.W.keyToks (R.d ⟨k', a', b'⟩)) (PySem.W.keyToks (R.d ⟨k, a, b⟩))) = _
  have i1 : ∀ x : Int, PyProof.Rows.itemLt (.inl x) (.inl x) = false := fun x => PyProof.Rows.itemOrd.irrefl (.inl x)
  have i2 : ∀ x y : Nat, PyProof.Rows.itemLt (.inl (x : Int)) (.inl (y : Int)) = decide (x < y) := fun x y => by
    show decide ((x : Int) < (y : Int)) = _
    by_cases h : x < y
    · rw [decide_eq_true h, decide_eq_true (by omega)]
    · rw [decide_eq_false h, decide_eq_false (by omega)]
  have lx : ∀ (x y : Int ⊕ List Nat) (r t : List (Int ⊕ List Nat)), PyProof.Rows.lexLt PyProof.Rows.itemOrd (x :: r) (y :: t) = (PyProof.Rows.itemLt x y || (!PyProof.Rows.itemLt y x && PyProof.Rows.lexLt PyProof.Rows.itemOrd r t)) := fun x y r t => PyProof.Rows.lex_cons (O := PyProof.Rows.itemOrd) x y r t
  have i3 : PyProof.Rows.lexLt PyProof.Rows.itemOrd [] [] = false := rfl
  simp only [R.d, PySem.W.keyToks, PySem.W.keyToksAll, List.cons_append, List.nil_append, lx, i1, i2, Bool.false_or, Bool.not_false, Bool.true_and]
  rw [Bool.eq_iff_iff]
  cases k <;> cases k' <;> simp only [it1, it2, it3, i3, rkey, Bool.true_or, Bool.false_or, Bool.not_false, Bool.not_true, Bool.false_and, Bool.true_and, Bool.or_false, Bool.and_false, if_true, if_false, Bool.not_eq_true', decide_eq_true_eq, Bool.or_eq_false_iff, Bool.and_eq_false_iff, decide_eq_false_iff_not, Bool.not_eq_false', reduceCtorEq] <;> first | omega | (refine ⟨fun h => h.elim, fun h => ?_⟩; omega) | (refine ⟨fun _ => ?_, fun _ => trivial⟩; omega)
theorem rkey_inj {r s : R} (h1 : r.ok 6) (h2 : s.ok 6) (e : rkey r = rkey s) : r = s := by
  obtain ⟨k, a, b⟩ := r
  obtain ⟨k', a', b'⟩ := s
  obtain ⟨l1, l2, _⟩ := h1
  obtain ⟨l3, l4, _⟩ := h2
  simp only at l1 l2 l3 l4
  have : k = k' ∧ a = a' ∧ b = b' := by
    cases k <;> cases k' <;> simp [rkey] at e ⊢ <;> omega
  rw [this.1, this.2.1, this.2.2]
theorem allR_asc {w : Nat} (hw : w ≤ 6) : (allR w).Pairwise fun r s => rkey r < rkey s := by
  have h : ∀ w ∈ List.range 7, (allR w).Pairwise fun r s => rkey r < rkey s := by decide +kernel
  exact h w (List.mem_range.mpr (by omega))
theorem asc_eq {L L' : List R} (h1 : L.Pairwise fun r s => rkey r < rkey s) (h2 : L'.Pairwise fun r s => rkey r < rkey s) (h : ∀ r, r ∈ L ↔ r ∈ L') : L = L' := by
  have nd : ∀ {l : List R}, (l.Pairwise fun r s => rkey r < rkey s) → l.Nodup := fun h => h.imp fun h e => by rw [e] at h; exact Nat.lt_irrefl _ h
  refine List.Perm.eq_of_pairwise (le := fun r s => rkey r < rkey s) (fun a b _ _ h1 h2 => (Nat.lt_asymm h1 h2).elim) h1 h2 ?_
  exact (List.perm_ext_iff_of_nodup (nd h1) (nd h2)).mpr h
/-- sorted of such rules -/
theorem rs_sort {L L' : List R} (p : L.Perm L') (s : L'.Pairwise fun r s => rkey r < rkey s) (ok : ∀ r ∈ L', r.ok 6) : (L.map R.d).mergeSort SoD.dle = L'.map R.d := by
  have pm : ((L.map R.d).mergeSort SoD.dle).Perm (L'.map R.d) := (List.mergeSort_perm _ _).trans (p.map _)
  refine List.Perm.eq_of_pairwise (le := fun a b => SoD.dle a b = true) (fun a b ha hb h1 h2 => ?_) (PySem.W.sort_pairwise (show PySem.W.TotalLe SoD.dle from PySem.W.sortLe_total (PyProof.Rows.listOrd PyProof.Rows.itemOrd) false fun b : PyData => PySem.W.keyToks b) _) ?_ pm
  · obtain ⟨r, hr, rfl⟩ := List.mem_map.mp (pm.mem_iff.mp ha)
    obtain ⟨s, hs, rfl⟩ := List.mem_map.mp hb
    rw [dle_r (ok r hr) (ok s hs), decide_eq_true_eq] at h1
    rw [dle_r (ok s hs) (ok r hr), decide_eq_true_eq] at h2
    rw [rkey_inj (ok r hr) (ok s hs) (by omega)]
  · rw [List.pairwise_map]
    refine s.imp_of_mem fun {a b} ha hb h => ?_
    rw [dle_r (ok a ha) (ok b hb)]
    exact decide_eq_true (by omega)
theorem rs_alike (L : List R) : PySem.W.AllAlike (L.map R.d) := by
  intro d hd d' hd'
  obtain ⟨r, _, rfl⟩ := List.mem_map.mp hd
  obtain ⟨s, _, rfl⟩ := List.mem_map.mp hd'
  simp [R.d, PySem.W.alike, PySem.W.alikeAll]
theorem rs_dep (L : List R) : ∀ d ∈ L.map R.d, d.depth ≤ 60 := fun d hd => by
  obtain ⟨r, _, rfl⟩ := List.mem_map.mp hd
  have := rd_shaped r
  simp [R.d, PyData.depth, PyData.depthAll]
theorem rs_sortable (L : List R) : PySem.W.Sortable (L.map R.d) := .inl fun d hd => by
  obtain ⟨r, _, rfl⟩ := List.mem_map.mp hd
  exact ⟨_, _, rfl⟩
/-- such rules, ascending -/
def ascR (rs : List R) : List R := (allR 6).filter fun r => decide (r ∈ rs)
theorem mem_ascR {rs : List R} (ok : ∀ r ∈ rs, r.ok 6) {r : R} : r ∈ ascR rs ↔ r ∈ rs := by
  unfold ascR
  rw [List.mem_filter, mem_allR, decide_eq_true_iff]
  exact ⟨fun h => h.2, fun h => ⟨ok r h, h⟩⟩
theorem ascR_perm {rs : List R} (ok : ∀ r ∈ rs, r.ok 6) (nd : rs.Nodup) : rs.Perm (ascR rs) :=
  (List.perm_ext_iff_of_nodup nd ((allR_nodup (by decide)).filter _)).mpr fun r => (mem_ascR ok).symm
theorem sort_ascR {rs : List R} (ok : ∀ r ∈ rs, r.ok 6) (nd : rs.Nodup) : (rs.map R.d).mergeSort SoD.dle = (ascR rs).map R.d :=
  rs_sort (ascR_perm ok nd) ((allR_asc (by decide)).filter _) fun r hr => ok r ((mem_ascR ok).mp hr)
theorem ascR_eq {rs ts : List R} (ok : ∀ r ∈ rs, r.ok 6) (nd : rs.Nodup) (ok' : ∀ r ∈ ts, r.ok 6) (nd' : ts.Nodup) : ascR rs = ascR ts ↔ rs.Perm ts := by
  constructor
  · intro h
    exact (ascR_perm ok nd).trans (h ▸ (ascR_perm ok' nd').symm)
  · intro h
    unfold ascR
    exact List.filter_congr fun r _ => by rw [decide_eq_decide]; exact h.mem_iff
end CC
/-! data that may be shown and compared: weight at most m, depth at most n -/
namespace GD
open PySem L2
structure SD (m n : Nat) (d : PyData) : Prop where
  lay : d.canLay0 = true
  shw : d.showable = true
  lvs : d.leavesShort 13 = true
  dep : d.depth ≤ n
  wt : d.weight ≤ m
theorem SD.up {m n m' n' : Nat} {d : PyData} (h : SD m n d) (h1 : m ≤ m') (h2 : n ≤ n') : SD m' n' d := ⟨h.lay, h.shw, h.lvs, Nat.le_trans h.dep h2, Nat.le_trans h.wt h1⟩
theorem SD.non : SD 0 0 .none := ⟨by simp [PyData.canLay0], by simp [PyData.showable], by simp [PyData.leavesShort], by simp [PyData.depth], by simp [PyData.weight]⟩
theorem SD.bl (b : Bool) : SD 0 0 (.bool b) := ⟨by simp [PyData.canLay0], by simp [PyData.showable], by simp [PyData.leavesShort], by simp [PyData.depth], by simp [PyData.weight]⟩
theorem SD.nat {n : Nat} (hn : n < 1000000) : SD 20 0 (.int (n : Int)) := by
  have hl : n.log2 < 20 := by
    by_cases z : n = 0
    · subst z; decide
    · exact (Nat.log2_lt z).mpr (by omega)
  have hl2 : (n : Int).natAbs.log2 < 1920 := by
    rw [Int.natAbs_natCast]
    omega
  refine ⟨by simp [PyData.canLay0], ?_, ?_, by simp [PyData.depth], ?_⟩
  · unfold PyData.showable
    exact decide_eq_true hl2
  · unfold PyData.leavesShort
    refine decide_eq_true ?_
    show (Str.ofString (toString (n : Int))).length ≤ 13
    have e := int_text_length_le10 (a := (n : Int)) (k := 6) (by decide) (by rw [Int.natAbs_natCast]; exact hn)
    rw [ofString_length]
    omega
  · unfold PyData.weight
    rw [Int.natAbs_natCast]
    split <;> omega
theorem SD.int {i : Int} (h0 : 0 ≤ i) (h1 : i < 1000000) : SD 20 0 (.int i) := by
  obtain ⟨n, rfl⟩ : ∃ n : Nat, i = (n : Int) := ⟨i.toNat, by omega⟩
  exact SD.nat (by omega)
theorem SD.str {x : Str} {m : Nat} (h : PyData.strOk x = true) (hl : x.length ≤ m) (hc : ∀ c ∈ x.cps.toList, c < 16 ^ 8) : SD m 0 (.str x) := by
  refine ⟨by simp [PyData.canLay0, h], by simp [PyData.showable], ?_, by simp [PyData.depth], ?_⟩
  · simpa only [PyData.leavesShort, List.all_eq_true, decide_eq_true_eq] using hc
  · simp only [PyData.weight]
    exact hl
theorem SD.all {m n : Nat} : ∀ {ds : List PyData}, (∀ d ∈ ds, SD m n d) → PyData.canLayAll0 ds = true ∧ PyData.showableAll ds = true ∧ PyData.leavesShortAll 13 ds = true ∧ PyData.depthAll ds ≤ n ∧ PyData.weightAll ds ≤ ds.length * (m + 1)
  | [], _ => by simp [PyData.canLayAll0, PyData.showableAll, PyData.leavesShortAll, PyData.depthAll, PyData.weightAll]
  | d :: ds, h => by
    have h1 := h d List.mem_cons_self
    obtain ⟨a1, a2, a3, a4, a5⟩ := SD.all (ds := ds) fun e he => h e (List.mem_cons_of_mem _ he)
    have := h1.dep
    have := h1.wt
    refine ⟨?_, ?_, ?_, ?_, ?_⟩
    · simp [PyData.canLayAll0, h1.lay, a1]
    · simp [PyData.showableAll, h1.shw, a2]
    · simp [PyData.leavesShortAll, h1.lvs, a3]
    · simp only [PyData.depthAll]; omega
    · simp only [PyData.weightAll, List.length_cons, Nat.add_mul]; omega
theorem SD.list {m n k : Nat} {ds : List PyData} (h : ∀ d ∈ ds, SD m n d) (hk : ds.length ≤ k) : SD (k * (m + 1)) (n + 1) (.list ds) := by
  obtain ⟨a1, a2, a3, a4, a5⟩ := SD.all h
  have : ds.length * (m + 1) ≤ k * (m + 1) := Nat.mul_le_mul_right _ hk
  refine ⟨by simp [PyData.canLay0, a1], by simp [PyData.showable, a2], by simp [PyData.leavesShort, a3], ?_, ?_⟩
  · simp only [PyData.depth]; omega
  · simp only [PyData.weight]; omega
theorem SD.tuple {m n k : Nat} {ds : List PyData} (h : ∀ d ∈ ds, SD m n d) (hk : ds.length ≤ k) : SD (k * (m + 1)) (n + 1) (.tuple ds) := by
  obtain ⟨a1, a2, a3, a4, a5⟩ := SD.all h
  have : ds.length * (m + 1) ≤ k * (m + 1) := Nat.mul_le_mul_right _ hk
  refine ⟨by simp [PyData.canLay0, a1], by simp [PyData.showable, a2], by simp [PyData.leavesShort, a3], ?_, ?_⟩
  · simp only [PyData.depth]; omega
  · simp only [PyData.weight]; omega
theorem SD.shaped {m n : Nat} {d : PyData} (h : SD m n d) (hn : n ≤ 64) : SeqAt.shaped d = true := by
  show (d.canLay0 && decide (d.depth ≤ 64)) = true
  rw [h.lay, Bool.true_and]
  exact decide_eq_true (Nat.le_trans h.dep hn)
theorem SD.fits {m n : Nat} {d : PyData} (h : SD m n d) (hm : m ≤ 2 ^ 20) : d.shown.length ≤ sizeLine := PyData.shown_fits (B := 13) (by decide) (by decide) h.lvs (Nat.le_trans h.wt hm)
theorem SD.nodict {m n : Nat} {d : PyData} (h : SD m n d) : d.hasDict = false := PyData.hasDict_of_canLay d h.lay
end GD
namespace GD
open PySem L2 CC
/-- a def that keeps a promise where nothing is being shown -/
structure CalG (P : Program) (w : World) (K : PySem.W.Frag) (mg : Str → Option Value) (base : Heap) (x : Str) (ps : List Str) (sp : Sp) (l : Nat) where
  f : Addr
  fd : FuncData
  ok : ∀ k, l ≤ k → FnG P w K mg base CX0 k f fd ps sp
  kp : PySem.W.keepIn K (.ref f) = true
  b : Binds K fd ps []
  g : mg x = some (.ref f)
def calG {P : Program} {w : World} {K : PySem.W.Frag} {mg : Str → Option Value} {base : Heap} {x : Str} {st : Stmt} {ps : List Str} {sp : Sp} {l : Nat} (d : Df K mg x st ps) (h : ∀ k, FnG P w K mg base CX0 (k + l) d.f d.fd ps sp) : CalG P w K mg base x ps sp l :=
  ⟨d.f, d.fd, fun k hk => (Nat.sub_add_cancel hk) ▸ h (k - l), d.F.kp, d.b, d.g⟩
/-- two values that are the same data -/
def spEqD (K : PySem.W.Frag) : Sp := fun vs H Q _ => ∃ (v u : V) (d : PyData), vs = [v, u] ∧ Dp K H v d ∧ Dp K H u d ∧ SD 1000000 64 d ∧ Q (.bl true) H
theorem hu66 {k : Nat} {A : Around} (hr : Room k A) : A.units + 66 < cLine := by
  have := hr.un
  omega
end GD
namespace CC
open PySem L2
theorem sd_r {w : Nat} {r : R} (hw : w ≤ 6) (h : r.ok w) : GD.SD 63 1 r.d := by
  refine GD.SD.tuple (m := 20) (n := 0) (k := 3) (fun d hd => ?_) (by show 3 ≤ 3; decide)
  have h1 := h.1
  have h2 := h.2.1
  rcases List.mem_cons.mp hd with rfl | hd
  · cases r.k
    · exact GD.SD.str (by decide +kernel) (by decide +kernel) (by decide +kernel)
    · exact GD.SD.str (by decide +kernel) (by decide +kernel) (by decide +kernel)
  · rcases List.mem_cons.mp hd with rfl | hd
    · exact GD.SD.nat (by omega)
    · rcases List.mem_cons.mp hd with rfl | hd
      · exact GD.SD.nat (by omega)
      · cases hd
theorem sd_rs {w : Nat} {rs : List R} (hw : w ≤ 6) (ho : ∀ r ∈ rs, r.ok w) (hl : rs.length ≤ 60) : GD.SD 3840 2 (.list (rs.map R.d)) :=
  GD.SD.list (m := 63) (n := 1) (k := 60) (fun d hd => by
    obtain ⟨r, hr, rfl⟩ := List.mem_map.mp hd
    exact sd_r hw (ho r hr)) (by rw [List.length_map]; exact hl)
theorem eqvAll_rs : ∀ m l : List R, PyData.eqvAll (m.map R.d) (l.map R.d) = decide (m = l)
  | [], [] => by simp [PyData.eqvAll]
  | [], _ :: _ => by simp [PyData.eqvAll]
  | _ :: _, [] => by simp [PyData.eqvAll]
  | x :: m, y :: l => by
    simp only [List.map_cons, PyData.eqvAll, eqvAll_rs m l, rd_eqv]
    by_cases h : x = y
    · subst h
      simp
    · simp [h]
theorem rs_eqv (m l : List R) : PyData.eqv (.list (m.map R.d)) (.list (l.map R.d)) = decide (m = l) := by
  simp only [PyData.eqv]
  exact eqvAll_rs m l
theorem RulesAt.ran {K : PySem.W.Frag} {C : Addr} {H H' : Hp} {x s : Addr} {w : Nat} {rs : List R} (h : RulesAt K C H x w rs) (hs : Src H s) (r : Ran H H' s) (T : SameT H H') : RulesAt K C H' x w rs := by
  obtain ⟨o, hs1, a, b, c, rfl, _⟩ := hs
  obtain ⟨dx, g, us, h1, h2, h3⟩ := h
  exact ⟨dx, g, us, r.at_ h1 (ne_of h1 hs1 (by intro z; cases z)), r.at_ h2 (ne_of h2 hs1 (by intro z; cases z)), rds_T T h3⟩
end CC
namespace CC
open PySem L2 TL
def spREq (K : PySem.W.Frag) (C : Addr) : Sp := fun vs H Q _ => ∃ (x y : Addr) (w v : Nat) (rs ts : List R), vs = [.ref x, .ref y] ∧ RulesAt K C H x w rs ∧ RulesAt K C H y v ts ∧ (∀ r ∈ rs, r.ok 6) ∧ (∀ r ∈ ts, r.ok 6) ∧ rs.Nodup ∧ ts.Nodup ∧
  ∀ (b : Bool) (H' : Hp), Same H H' → (b = true ↔ w = v ∧ rs.Perm ts) → Q (.bl b) H'
def spRLen (K : PySem.W.Frag) (C : Addr) : Sp := fun vs H Q _ => ∃ (x : Addr) (w : Nat) (rs : List R), vs = [.ref x] ∧ RulesAt K C H x w rs ∧ Q (.int (rs.length : Int)) H
/-- rules == rules, rules != rules -/
structure EqO (P : Program) (w : World) (K : PySem.W.Frag) (mg : Str → Option Value) (base : Heap) (C : Addr) (sp : Sp) (l : Nat) where
  f : Addr
  fi : PySem.W.findIn K (.ref C) "__eq__" = some (some (.ref f))
  fn : PySem.W.isFn K (.ref f) = true
  ne : PySem.W.findIn K (.ref C) "__ne__" = some (some (.builtin "object.__ne__"))
  mo : PySem.W.mroIn K C (.type "object") = some true
  ok : ∀ k, l ≤ k → FnR P w K mg base CX0 k f sp
/-- len(rules) -/
structure LenO (P : Program) (w : World) (K : PySem.W.Frag) (mg : Str → Option Value) (base : Heap) (C : Addr) (sp : Sp) (l : Nat) where
  f : Addr
  fi : PySem.W.findIn K (.ref C) "__len__" = some (some (.ref f))
  fn : PySem.W.isFn K (.ref f) = true
  ok : ∀ k, l ≤ k → FnR P w K mg base CX0 k f sp
section
variable {P : Program} {w : World} {K : PySem.W.Frag} {mg : Str → Option Value} {base : Heap} {kA : Addr}
end
end CC
/-! repr(x) by the own __repr__ -/
namespace OC
open PySem PySem.Spec PySem.Calls PySem.W PyProof.Rows L2
section
variable {X : Cx} {CX : CXT} {k : Nat} {sp : Sp} {E : XK} {C : Addr}
def rReprO (C : Addr) (sp : Sp) (E : XK) : List V → Hp → VK → Prop := fun xs H Q => ∃ a dx fs, xs = [.ref a] ∧ H a = some (.ins C dx fs) ∧ sp [.ref a] H (fun v H' => ∃ t : Str, v = .str t ∧ Q (.str t) H') E
theorem call_reprO {g : Addr} (hs : PySem.W.findIn X.K (.ref C) "__repr__" = some (some (.ref g))) (hf : PySem.W.isFn X.K (.ref g) = true) (F : FnR X.prog X.w X.K X.mg X.base CX k g sp) (hr : Room (k + 1) X.A) (hx : Passes CX X E) : CallR X (.builtin "repr") (rReprO C sp E) := by
  intro pins s σ H xs us Q I r h
  obtain ⟨a, dx, fs, rfl, ha, q⟩ := h
  rw [Vals.ref1 r]
  obtain ⟨mA, J, _⟩ := ins_get I.hok ha
  obtain ⟨od, J, _⟩ := J.look
  obtain ⟨m, hF⟩ := I.fr
  have hu := hr.in1.un
  refine PySem.W.repr_K (by omega) hF I.ok.mod.kin J hs hf ?_
  refine wpAny_mono (wpAny_call (SlX.run_at (us := [.ref a]) (ws := [.ref a]) F hr.in1 I.env0.in1 hx I (.cons rfl .nil) q)) (fun w s' z => ?_) fun _ _ x => x
  obtain ⟨z', H', I', rz, t, rfl, qz⟩ := z
  obtain ⟨tk, rfl⟩ := (show ∃ tk, w = Value.str t tk from rz)
  exact ⟨.str t, H', I', ⟨_, rfl⟩, qz⟩
end
end OC
/-! repr of a list or a tuple that holds one instance with an own __repr__ -/
namespace RPI
open PySem PySem.Spec PySem.Calls PySem.W PyProof.Rows L2
open Builtin Builtin.List
theorem loop_depth {A : Around} {args : Args} : (A.under (.builtin "list.__repr__.loop" args)).depth ≤ A.depth + 1 := by
  first | exact Nat.le_refl _ | simp [Around.under, Code.weight, Code.isCreation, Code.isGuard, Code.isCaller, Code.frames, Code.isFrame, guardIds]
theorem tup_depth {A : Around} {args : Args} : (A.under (.builtin "tuple.__repr__" args)).depth ≤ A.depth + 1 := by
  first | exact Nat.le_refl _ | simp [Around.under, Code.weight, Code.isCreation, Code.isGuard, Code.isCaller, Code.frames, Code.isFrame, guardIds]
theorem room_loop {k : Nat} {A : Around} (r : Room (k + 1) A) (args : Args) : Room k (A.under (.builtin "list.__repr__.loop" args)) :=
  ⟨r.hd, by have := r.dp; have := @loop_depth A args; omega, by have := r.un; rw [units_under_list_loop]; omega⟩
theorem room_tup {k : Nat} {A : Around} (r : Room (k + 1) A) (args : Args) : Room k (A.under (.builtin "tuple.__repr__" args)) :=
  ⟨r.hd, by have := r.dp; have := @tup_depth A args; omega, by have := r.un; rw [units_under_tuple_repr]; omega⟩
theorem env_loop {P : Program} {w : World} {K : PySem.W.Frag} {mg : Str → Option Value} {base : Heap} {A : Around} {outer : List Env} {s : Shared} {H : Hp} (e : Env0 P w K mg base A outer s H) (args : Args) :
    Env0 P w K mg base (A.under (.builtin "list.__repr__.loop" args)) outer s H := ⟨by first | exact e.frames | simpa [Around.under] using e.frames, e.mod, e.bs, e.bsz, e.funs, e.frf, e.hok, e.bare⟩
theorem env_tup {P : Program} {w : World} {K : PySem.W.Frag} {mg : Str → Option Value} {base : Heap} {A : Around} {outer : List Env} {s : Shared} {H : Hp} (e : Env0 P w K mg base A outer s H) (args : Args) :
    Env0 P w K mg base (A.under (.builtin "tuple.__repr__" args)) outer s H := ⟨by first | exact e.frames | simpa [Around.under] using e.frames, e.mod, e.bs, e.bsz, e.funs, e.frf, e.hok, e.bare⟩
section
variable {X : Cx} {CX : CXT} {k : Nat} {sp : Sp} {E : XK} {C : Addr}
/-- an instance's own __repr__, under a container's -/
theorem under_own {h₀ : Heap} {L : Addr} {m : Str → Option Value} {prog : Program} {w : World} {A : Around} {Ex : Value → Shared → Prop} {s : Shared} {K : PySem.W.Frag} {x f C : Addr} {ox : Obj} {od : Option Obj} {b : Nat} {Q : Str → Shared → Prop} (hb : b ≤ sizeLine) (hu : A.units < cLine) (F : Fr h₀ L s.heap m) (X₀ : K.In h₀) (I : InstAt s.heap x ox C od) (hs : findIn K (.ref C) "__repr__" = some (some (.ref f))) (hf : isFn K (.ref f) = true)
    (h : wpAny (model prog w) A (call (.ref f) [.ref x]) (fun v s' => ∃ t u, v = .str t u ∧ Q t s') Ex s) : wpAny (model prog w) A (pyReprUnder b (.ref x)) Q Ex s := by
  refine wpAny_pyReprUnder_ref hb ?_
  unfold pyReprObjUnder pyReprObjBy
  refine wpAny_bind (wpAny_cRoomFor hu ?_)
  refine wpAny_bind (wpAny_bind (I.type.here ((looks_findIn (X₀.keeps F.keep) hs).here ?_)))
  show wpAny _ _ (if (some (Value.ref f)).isNone = true then _ else _) _ _ _
  rw [if_neg (by simp)]
  have nt : reprUnder? (Value.ref f) = none := rfl
  have fin : wpAny (model prog w) A (call (.ref f) [.ref x] >>= fun v => pure (some v)) (fun a s' => wpAny (model prog w) A (match a with
      | some r => do
        let b ← isInstance r (.type "str")
        if b = true then pure r else raiseError "TypeError" s!"__repr__ returned non-string (type {← typeNameOf r})"
      | none => unsupported "repr:special-get-raises") (fun v s' => ∃ t u, v = .str t u ∧ Q t s') Ex s') Ex s :=
    wpAny_bind (wpAny_mono h (fun v s' hv => wpAny_pure (by
      obtain ⟨t, u, rfl, q⟩ := hv
      exact wpAny_bind (wpAny_isInstance (T := "str") (b := true) rfl isSubtype_str_str (wpAny_pure ⟨_, _, rfl, q⟩)))) fun _ _ e => e)
  refine wpAny_bind ?_
  unfold callSpecialIfBoundBy? bindSpecialIfBound?
  refine wpAny_holding (wpAny_bind (wpAny_bind (wpAny_bind (I.type.here ((looks_findIn (X₀.keeps F.keep) hs).here ?_)))))
  refine wpAny_bind (wpAny_askSetting (wpAny_ite ?_))
  split
  · exact wpAny_bind ((bind_fn (X₀.keeps F.keep) _ (beq_iff_eq.mp hf)).here (wpAny_pure (by exact fin)))
  · exact wpAny_tryCatch (wpAny_bind ((bind_fn (X₀.keeps F.keep) _ (beq_iff_eq.mp hf)).here (wpAny_pure (by exact fin))))
def rReprL1 (C : Addr) (sp : Sp) (E : XK) : List V → Hp → VK → Prop := fun xs H Q => ∃ (l x dx : Addr) (fs : List (Str × V)) (t : Str), xs = [.ref l] ∧ H l = some (.lst [.ref x]) ∧ H x = some (.ins C dx fs) ∧ t.length ≤ 100 ∧ (∀ H', L2.Same H H' → sp [.ref x] H' (fun v H2 => v = .str t ∧ H2 = H') E) ∧ ∀ H', L2.Same H H' → Q (.str (listText [t])) H'
theorem text_len (t : Str) (h : t.length ≤ 100) : (listText [t]).length ≤ 104 ∧ (tupleText [t]).length ≤ 104 := by
  have e1 : listText [t] = (("[" : Str) ++ ("" : String) ++ t) ++ "]" := rfl
  have e2 : tupleText [t] = ("(" : Str) ++ t ++ (",)" : String) := rfl
  refine ⟨?_, ?_⟩
  · rw [e1, Str.length_append, Str.length_append, Str.length_append]
    have a : (("[" : String) : Str).length = 1 := rfl
    have b : (("" : String) : Str).length = 0 := rfl
    have c : (("]" : String) : Str).length = 1 := rfl
    omega
  · rw [e2, Str.length_append, Str.length_append]
    have a : (("(" : String) : Str).length = 1 := rfl
    have c : ((",)" : String) : Str).length = 2 := rfl
    omega
theorem call_reprL1 {g : Addr} (hs : PySem.W.findIn X.K (.ref C) "__repr__" = some (some (.ref g))) (hf : PySem.W.isFn X.K (.ref g) = true) (F : FnR X.prog X.w X.K X.mg X.base CX k g sp) (hr : Room (k + 2) X.A) (calm : X.A.guards = some []) (hx : Passes CX X E) : CallR X (.builtin "repr") (rReprL1 C sp E) := by
  intro pins s σ H xs us Q I r h
  obtain ⟨l, x, dx, fs, t, rfl, hl, ha, tl, hsp, q⟩ := h
  rw [Vals.ref1 r]
  obtain ⟨_, its, n, rv, rl, e⟩ := I.lstM hl
  obtain ⟨u, rfl, ru⟩ := vals1 rv
  cases ru
  have hu := hr.un
  have hTy : s.TypeIs (.ref l) "list" := ⟨_, e, rfl⟩
  obtain ⟨len1, _⟩ := text_len t tl
  have big : ∀ {n : Nat}, n ≤ 104 → n ≤ sizeLine := fun h => Nat.le_trans h (by decide)
  refine call_repr_slot (by omega) hTy PySem.F.slot_list_repr.toG ?_
  refine wpAny_call (codeAny_call_builtin PySem.F.slot_list_repr.plain PySem.F.entry_list_repr (PySem.F.slot_list_repr.check _ _ _ _ _ _ _ _ hTy (PySem.F.args_list_repr_1 _) ?_))
  refine wpAny_list_repr_head (b := 0) (x := .ref x) (l := []) calm (fun _ _ _ h => nomatch h) e rfl ?_
  refine wpAny_bind (m := newList []) (wpAny_newObj_type ?_)
  refine wpAny_pure ⟨PySem.F.quiet_list_repr_loop _, ?_⟩
  have I1 := I.lnew (t' := s.toks) (its := []) (ys := []) .nil (Nat.zero_le _)
  have nP : H s.heap.objs.size = none := I.fresh
  have s1 : L2.Same H (upd H s.heap.objs.size (.lst [])) := CC.same_new nP
  have hP : (upd H s.heap.objs.size (.lst [])) s.heap.objs.size = some (.lst []) := upd_same
  generalize upd H s.heap.objs.size (.lst []) = H1 at I1 s1 hP
  have eP : (s.heap.push { cls := .type "list", data := .seq ([] : List Value).toArray }).get? l = _ := Heap.get?_push_of_some _ e
  refine codeAny_builtin PySem.F.entry_list_repr_loop ?_
  show wpAny _ _ («list.__repr__.loop» ⟨[.ref l, .int 0 0, .ref s.heap.objs.size, .int 0 0], []⟩) _ _ _
  rw [repr_loop_tree]
  refine wpAny_bind (wpAny_listItems eP rfl ?_)
  show wpAny _ _ (do
      let s ← holding [.ref x] (pyReprUnder (0 + 1) (.ref x))
      let signs := 0 + (s.length + 2)
      let r ← mkStr s
      listUpdate (.ref _) (·.push r)
      again (.builtin "list.__repr__.loop" ⟨[.ref l, rawInt (0 + 1), .ref _, rawInt signs], []⟩)) _ _ _
  obtain ⟨mA, J, _⟩ := ins_get I1.hok (s1 _ _ ha)
  obtain ⟨od, J, _⟩ := J.look
  obtain ⟨m, hF⟩ := I1.fr
  refine wpAny_bind (wpAny_holding (under_own (by decide) (by rw [units_under_list_loop]; show X.A.units + 1 + 1 < _; omega) hF I1.ok.mod.kin J hs hf ?_))
  refine wpAny_mono (wpAny_call (SlX.run_at (us := [.ref x]) (ws := [.ref x]) F (room_loop hr.in1 _) (env_loop I1.env0.in1 _) hx I1 (.cons rfl .nil) (hsp _ s1))) (fun w s' z => ?_) fun _ _ x => x
  obtain ⟨_, H2, I2, rz, rfl, eH⟩ := z
  rw [eH] at I2
  obtain ⟨tk, rfl⟩ := (show ∃ tk, w = Value.str t tk from rz)
  refine ⟨t, tk, rfl, ?_⟩
  have I2 := I2.tok (s'.toks + 1)
  have same2 : ∀ t', { ({ s' with toks := t' } : Shared) with toks := t' } = ({ s' with toks := t' } : Shared) := fun _ => rfl
  refine wpAny_bind (wpAny_mkStr ?_ (big (by omega)))
  refine wpAny_bind ?_
  show wpAny _ _ (updateSeq s.heap.objs.size _) _ _ _
  obtain ⟨_, its2, n2, rv2, rl2, e2⟩ := I2.lstM hP
  cases rv2
  refine wpAny_updateSeq e2 rfl (wpAny_pure ⟨PySem.F.quiet_list_repr_loop _, ?_⟩) (by show 0 ≤ sizeLine; exact Nat.zero_le _)
  have I3 := I2.lset (t' := s'.toks + 1) (its' := [.str t s'.toks]) (ys := [.str t]) hP e2 (f := (·.push (.str t s'.toks))) rfl (.cons ⟨_, rfl⟩ .nil) (by show 1 ≤ sizeLine; decide)
  have s3 : L2.Same H (upd H1 s.heap.objs.size (.lst [.str t])) := fun b o h => by
    rw [upd_ne (ne_of_none h nP)]
    exact s1 b o h
  have hP3 : (upd H1 s.heap.objs.size (.lst [.str t])) s.heap.objs.size = some (.lst [.str t]) := upd_same
  generalize upd H1 s.heap.objs.size (.lst [.str t]) = H3 at I3 s3 hP3
  obtain ⟨_, its3, n3, rv3, rl3, e3⟩ := I3.lstM (s3 _ _ hl)
  obtain ⟨u3, rfl, ru3⟩ := vals1 rv3
  cases ru3
  obtain ⟨_, its4, n4, rv4, rl4, e4⟩ := I3.lstM hP3
  obtain ⟨u4, rfl, ru4⟩ := vals1 rv4
  obtain ⟨t4, rfl⟩ := (show ∃ tk, u4 = Value.str t tk from ru4)
  refine codeAny_builtin PySem.F.entry_list_repr_loop ?_
  show wpAny _ _ («list.__repr__.loop» ⟨[.ref l, .int 1 0, .ref s.heap.objs.size, .int ((0 + (t.length + 2) : Nat) : Int) 0], []⟩) _ _ _
  rw [repr_loop_tree]
  refine wpAny_bind (wpAny_listItems e3 rfl ?_)
  show wpAny _ _ (reprEnd (.ref _)) _ _ _
  unfold reprEnd
  refine wpAny_bind (wpAny_listItems e4 rfl ?_)
  rw [show ([Value.str t t4].toArray).toList = strValues [(t, t4)] from rfl, repr_fold]
  refine wpAny_bind (wpAny_pure ?_)
  refine wpAny_bind (wpAny_mkStr (wpAny_pure ?_) (big len1))
  exact ⟨_, _, rfl, .str (listText [t]), H3, I3.tok _, ⟨_, rfl⟩, q _ s3⟩
def rReprT1 (C : Addr) (sp : Sp) (E : XK) : List V → Hp → VK → Prop := fun xs H Q => ∃ (l x dx : Addr) (fs : List (Str × V)) (t : Str), xs = [.ref l] ∧ H l = some (.tup [.ref x]) ∧ H x = some (.ins C dx fs) ∧ t.length ≤ 100 ∧ sp [.ref x] H (fun v H2 => v = .str t ∧ H2 = H) E ∧ Q (.str (tupleText [t])) H
theorem call_reprT1 {g : Addr} (hs : PySem.W.findIn X.K (.ref C) "__repr__" = some (some (.ref g))) (hf : PySem.W.isFn X.K (.ref g) = true) (F : FnR X.prog X.w X.K X.mg X.base CX k g sp) (hr : Room (k + 2) X.A) (calm : X.A.guards = some []) (hx : Passes CX X E) : CallR X (.builtin "repr") (rReprT1 C sp E) := by
  intro pins s σ H xs us Q I r h
  obtain ⟨l, x, dx, fs, t, rfl, hl, ha, tl, hsp, q⟩ := h
  rw [Vals.ref1 r]
  obtain ⟨_, its, rv, o, e, hc, n, hd⟩ := (show ObjOk X.prog X.w H s.heap l (.tup [.ref x]) from I.hok l _ hl)
  obtain ⟨u, rfl, ru⟩ := vals1 rv
  cases ru
  have hu := hr.un
  have hTy : s.TypeIs (.ref l) "tuple" := ⟨_, e, hc⟩
  obtain ⟨_, len1⟩ := text_len t tl
  have big : ∀ {n : Nat}, n ≤ 104 → n ≤ sizeLine := fun h => Nat.le_trans h (by decide)
  refine call_repr_slot (by omega) hTy PySem.F.slot_tuple_repr ?_
  refine wpAny_call (codeAny_call_builtin_own (Code.quiet_builtin _ (by decide +kernel)) PySem.F.entry_tuple_repr (PySem.F.slot_tuple_repr.check _ _ _ _ _ _ _ _ hTy (PySem.F.args_tuple_repr_1 _) ?_))
  show wpOwn _ _ _ (Builtin.tupleReprAt 0 ⟨[.ref l], []⟩) _ _ _
  rw [tuple_repr_tree, tupleReprUnderWay_eq]
  refine wpOwn_bind (wpOwn_stackTailAny calm (tupGuardF_off _) (tupGuardF_pos _) ?_)
  refine wpOwn_of_wpAny ?_
  show wpAny _ _ (tupleReprRest 0 (.ref l)) _ _ _
  unfold tupleReprRest Builtin.Tuple.tupleItemsOf
  refine wpAny_bind (wpAny_bind (wpAny_seqItems e hd (wpAny_pure ?_)))
  rw [← Array.forIn_toList]
  show wpAny _ _ (forIn [Value.ref x] (⟨#[], 0⟩ : (Array Str × Nat)) tupBody >>= _) _ _ _
  rw [List.forIn_cons]
  obtain ⟨mA, J, _⟩ := ins_get I.hok ha
  obtain ⟨od, J, _⟩ := J.look
  obtain ⟨m, hF⟩ := I.fr
  refine wpAny_bind (wpAny_bind (wpAny_bind (under_own (by decide) (by rw [units_under_tuple_repr]; show X.A.units + 1 + 1 < _; omega) hF I.ok.mod.kin J hs hf ?_)))
  refine wpAny_mono (wpAny_call (SlX.run_at (us := [.ref x]) (ws := [.ref x]) F (room_tup (Room.mono hr.in1 (by omega)) _) (env_tup I.env0.in1 _) hx I (.cons rfl .nil) hsp)) (fun w s' z => ?_) fun _ _ x => x
  obtain ⟨_, H2, I2, rz, rfl, eH⟩ := z
  rw [eH] at I2
  obtain ⟨tk, rfl⟩ := (show ∃ tk, w = Value.str t tk from rz)
  refine ⟨t, tk, rfl, wpAny_pure ?_⟩
  simp only [List.forIn_nil]
  refine wpAny_pure ?_
  refine wpAny_bind (wpAny_mkStr (wpAny_pure ?_) ?_)
  · exact ⟨_, _, rfl, .str (tupleText [t]), H, I2.tok _, ⟨_, rfl⟩, q⟩
  · exact big len1
end
end RPI
namespace CC
open PySem L2 TL
abbrev sTrp : Stmt := inClass (tp 27) 5
/-- what repr tells of a table or of a list of rules -/
def reprO (nm tl : Str) (m n : Nat) : Str := Str.empty ++ nm ++ num m ++ " columns, " ++ num n ++ tl
def tRl (w n : Nat) : Str := reprO "Rules(" " rules)" w n
def tTb (w n : Nat) : Str := reprO "Table(" " rows)" w n
def spRrp (K : PySem.W.Frag) (C : Addr) : Sp := fun vs H Q _ => ∃ (x : Addr) (w : Nat) (rs : List R), vs = [.ref x] ∧ RulesAt K C H x w rs ∧ w ≤ 6 ∧ rs.length ≤ 400 ∧ Q (.str (tRl w rs.length)) H
def spTrp (K : PySem.W.Frag) (C : Addr) : Sp := fun vs H Q _ => ∃ (x : Addr) (w : Nat) (rows : List (List Nat)), vs = [.ref x] ∧ TableAt K C H x w rows ∧ w ≤ 6 ∧ rows.length ≤ 400 ∧ Q (.str (tTb w rows.length)) H
theorem reprO_len {nm tl : Str} {m n : Nat} (hm : m ≤ 9999) (h : n ≤ 9999) (hn : nm.length ≤ 6) (ht : tl.length ≤ 7) : (Str.empty ++ nm).length ≤ 40 ∧ (Str.empty ++ nm ++ num m).length ≤ 40 ∧ (Str.empty ++ nm ++ num m ++ " columns, ").length ≤ 40 ∧ (Str.empty ++ nm ++ num m ++ " columns, " ++ num n).length ≤ 40 ∧ (reprO nm tl m n).length ≤ 40 := by
  have a := num_len h
  have a2 := num_len hm
  have e : (Str.empty ++ nm).length = nm.length := by rw [Str.length_append]; exact Nat.zero_add _
  have b : (Str.empty ++ nm ++ num m).length = nm.length + (num m).length := by rw [Str.length_append, e]
  have c : (" columns, " : Str).length = 10 := by decide +kernel
  have d : (Str.empty ++ nm ++ num m ++ " columns, ").length = nm.length + (num m).length + 10 := by rw [Str.length_append, b, c]
  have d2 : (Str.empty ++ nm ++ num m ++ " columns, " ++ num n).length = nm.length + (num m).length + 10 + (num n).length := by rw [Str.length_append, d]
  refine ⟨by omega, by omega, by omega, by omega, ?_⟩
  unfold reprO
  rw [Str.length_append, d2]
  omega
theorem tRl_len {w n : Nat} (w6 : w ≤ 6) (h : n ≤ 400) : (tRl w n).length ≤ 40 := (reprO_len (by omega) (by omega) (by decide +kernel) (by decide +kernel)).2.2.2.2
theorem tTb_len {w n : Nat} (w6 : w ≤ 6) (h : n ≤ 400) : (tTb w n).length ≤ 40 := (reprO_len (by omega) (by omega) (by decide +kernel) (by decide +kernel)).2.2.2.2
section
variable {P : Program} {w : World} {K : PySem.W.Frag} {mg : Str → Option Value} {base : Heap} {kA : Addr}
theorem scTrp : FnScope ["self"] ["self"] (defScope sTrp) := ⟨rfl, rfl, rfl, by decide +kernel, rfl, by decide +kernel, by decide +kernel⟩
theorem ok_trp {f C : Addr} {fd : FuncData} {k : Nat} (F : Fun K "__repr__" "Table.__repr__" sTrp f fd) (T : Glb K mg kA) (TC : TxtT K mg C) : FnOk P w K mg base CX0 (k + 1) f fd ["self"] (spTrp K C) := by
  refine F.ok scTrp (fun vs H Q E h => ?_) (fun cdv A outer s H vs Q E hr h => ?_)
  · obtain ⟨x, m, rs, rfl, _⟩ := h
    rfl
  · obtain ⟨x, m, rs, rfl, ⟨dx, g, us, h1, h2, h3⟩, m6, few, q⟩ := h
    refine ⟨_, (pss_one (ps_ret (pe_joined (.cons pe_str (.cons (pe_fmt (pe_fld (pv 0) rfl)) (.cons pe_str (.cons (pe_fmt (pe_callB call_len_seq (by rfl) T.len PySem.boot_len (pa_cons (pe_fld (pv 0) rfl) pa_nil))) (.cons pe_str .nil)))))))), ?_⟩
    obtain ⟨l1, l2, l3, l4, l5⟩ := reprO_len (nm := "Table(") (tl := " rows)") (m := m) (n := rs.length) (by omega) (by omega) (by decide +kernel) (by decide +kernel)
    have big : ∀ {n : Nat}, n ≤ 40 → n ≤ sizeLine := fun h => Nat.le_trans h (by decide)
    refine ⟨_, rfl, big l1, ?_⟩
    refine ⟨_, rfl, x, C, dx, _, _, rfl, h1, TC.cl, TC.nS, fldT_span _ _, ?_⟩
    refine .inr ⟨_, rfl, Nat.lt_of_le_of_lt (Nat.log2_le_self _) (Nat.lt_of_le_of_lt m6 (by decide)), _, rfl, big l2, _, rfl, big l3, ?_⟩
    refine ⟨_, rfl, x, C, dx, _, _, rfl, h1, TC.cl, TC.nL, fldT_lines _ _, g, us, rfl, .inr (.inl (.inl h2)), ?_⟩
    rw [show us.length = rs.length by rw [dps_len h3, List.length_map]]
    exact .inr ⟨_, rfl, Nat.lt_of_le_of_lt (Nat.log2_le_self _) (Nat.lt_of_le_of_lt few (by decide)), _, rfl, big l4, _, rfl, big l5, q⟩
end
/-! ### repr of what is no list of rules: data, {}, a table, a list or a tuple of one list of rules -/
/-- an own __repr__ that tells of what stands in the heap and leaves it -/
structure ReprC (P : Program) (w : World) (K : PySem.W.Frag) (mg : Str → Option Value) (base : Heap) (C : Addr) (sp : Sp) where
  f : Addr
  hs : PySem.W.findIn K (.ref C) "__repr__" = some (some (.ref f))
  hf : PySem.W.isFn K (.ref f) = true
  ok : ∀ k, 1 ≤ k → FnR P w K mg base CX0 k f sp
def rReprDE : List V → Hp → VK → Prop := fun xs H Q => ∃ a, xs = [.ref a] ∧ H a = some (.dK []) ∧ Q (.str "{}") H
theorem call_reprDE {X : Cx} (calm : X.A.guards = some []) (hu : X.A.units + 66 < cLine) : CallR X (.builtin "repr") rReprDE := by
  intro pins s σ H xs us Q I r h
  obtain ⟨a, rfl, ha, q⟩ := h
  rw [Vals.ref1 r]
  obtain ⟨_, ne, vs, kv, o, es, ep, e, ed, hd, _, ps, _⟩ := dk_of I.hok ha
  cases kv
  have e0 : es.toList = [] := by
    cases hh : es.toList with
    | nil => rfl
    | cons x l =>
      rw [hh] at ps
      cases ps
  have e1 : es = #[] := by
    cases es
    simpa using e0
  subst e1
  have rd : Reads s.heap (.ref a) (.dict []) ([a] ++ [] ++ []) := .dict e ed.1 hd .nil .nil
  exact repr_of_reads' rd rfl (fun _ hm => by
    simp only [List.append_nil, List.mem_singleton] at hm
    subst hm
    simp at ne) calm (by show X.A.units + _ < _; have : (PyData.dict []).depth ≤ 4 := by decide
                         omega) (fun _ _ e => e) (fun h' u tk hk => ⟨.str _, H, I.kept hk, ⟨_, rfl⟩, q⟩)
theorem call_or {X : Cx} {f : Value} {r1 r2 : List V → Hp → VK → Prop} (h1 : CallR X f r1) (h2 : CallR X f r2) : CallR X f (fun xs H Q => r1 xs H Q ∨ r2 xs H Q) := by
  intro pins s σ H xs us Q I r h
  rcases h with h | h
  · exact h1 pins s σ H xs us Q I r h
  · exact h2 pins s σ H xs us Q I r h
/-- what repr tells of a value -/
inductive ReprV (K : PySem.W.Frag) (C CT : Addr) (H : Hp) : V → Str → Prop where
  | data {v : V} {d : PyData} (h : Dp K H v d) (s : d.showable = true) (n : d.hasDict = false) (e : d.depth ≤ 64) (z : d.shown.length ≤ sizeLine) : ReprV K C CT H v d.shown
  | dict {a : Addr} (h : H a = some (.dK [])) : ReprV K C CT H (.ref a) "{}"
  | tab {x : Addr} {w : Nat} {rows : List (List Nat)} (h : TableAt K CT H x w rows) (w6 : w ≤ 6) (few : rows.length ≤ 400) : ReprV K C CT H (.ref x) (tTb w rows.length)
  | lst {l x : Addr} {w : Nat} {rs : List R} (hl : H l = some (.lst [.ref x])) (h : RulesAt K C H x w rs) (w6 : w ≤ 6) (few : rs.length ≤ 400) : ReprV K C CT H (.ref l) (listText [tRl w rs.length])
  | tup {l x : Addr} {w : Nat} {rs : List R} (hl : H l = some (.tup [.ref x])) (h : RulesAt K C H x w rs) (w6 : w ≤ 6) (few : rs.length ≤ 400) : ReprV K C CT H (.ref l) (tupleText [tRl w rs.length])
def rReprV (K : PySem.W.Frag) (C CT : Addr) : List V → Hp → VK → Prop := fun xs H Q => ∃ v t, xs = [v] ∧ ReprV K C CT H v t ∧ ∀ H', Same H H' → Q (.str t) H'
theorem call_reprV {X : Cx} {C CT : Addr} {k : Nat} (RC : ReprC X.prog X.w X.K X.mg X.base C (spRrp X.K C)) (RT : ReprC X.prog X.w X.K X.mg X.base CT (spTrp X.K CT)) (hr : Room (k + 3) X.A) (calm : X.A.guards = some []) (hx : Passes CX0 X (fun _ _ _ => False)) : CallR X (.builtin "repr") (rReprV X.K C CT) := by
  intro pins s σ H xs us Q I r h
  obtain ⟨v, t, rfl, h, q⟩ := h
  have hu := hr.un
  cases h with
  | data h s n e z => exact GD.call_reprD calm (by omega) pins _ σ H _ us Q I r ⟨v, _, rfl, h, s, n, e, z, q _ (Same.refl _)⟩
  | dict h => exact call_reprDE calm (by omega) pins _ σ H _ us Q I r ⟨_, rfl, h, q _ (Same.refl _)⟩
  | tab h w6 few =>
    obtain ⟨dx, g, us', h1, h2, h3⟩ := id h
    exact OC.call_reprO RT.hs RT.hf (RT.ok (k + 2) (by omega)) hr hx pins _ σ H _ us Q I r ⟨_, dx, _, rfl, h1, _, _, _, rfl, h, w6, few, _, rfl, q _ (Same.refl _)⟩
  | lst hl h w6 few =>
    obtain ⟨dx, g, us', h1, h2, h3⟩ := id h
    exact RPI.call_reprL1 RC.hs RC.hf (RC.ok (k + 1) (by omega)) hr calm hx pins _ σ H _ us Q I r ⟨_, _, dx, _, _, rfl, hl, h1, Nat.le_trans (tRl_len w6 few) (by decide), fun H' s' => ⟨_, _, _, rfl, h.same s', w6, few, rfl, rfl⟩, q⟩
  | tup hl h w6 few =>
    obtain ⟨dx, g, us', h1, h2, h3⟩ := id h
    exact RPI.call_reprT1 RC.hs RC.hf (RC.ok (k + 1) (by omega)) hr calm hx pins _ σ H _ us Q I r ⟨_, _, dx, _, _, rfl, hl, h1, Nat.le_trans (tRl_len w6 few) (by decide), ⟨_, _, _, rfl, h, w6, few, rfl, rfl⟩, q _ (Same.refl _)⟩
theorem ReprV.same {K : PySem.W.Frag} {C CT : Addr} {H H' : Hp} {v : V} {t : Str} (h : ReprV K C CT H v t) (e : Same H H') : ReprV K C CT H' v t := by
  cases h with
  | data h s n e' z => exact .data (dp_same e _ _ h) s n e' z
  | dict h => exact .dict (e _ _ h)
  | tab h w6 few => exact .tab (h.same e) w6 few
  | lst hl h w6 few => exact .lst (e _ _ hl) (h.same e) w6 few
  | tup hl h w6 few => exact .tup (e _ _ hl) (h.same e) w6 few
end CC
namespace CC
open PySem L2 TL
abbrev sSd1 : Stmt := tp 39
abbrev sDu1 : Stmt := tp 40
/-- what a table tells of itself -/
noncomputable def dSd1 (w : Nat) (rs : List (List Nat)) : PyData := .list [.int (w : Int), .tuple (rs.map gd), .int (rs.length : Int), .str (tTb w rs.length), .str (textT rs), .bool true]
/-- what is said of a width and values -/
def Sd1H (K : PySem.W.Frag) (H : Hp) (wv : V) (us : List V) (Q : VK) : Prop :=
  Bt1H K H wv us (∀ H', Same H H' → Q (.str "width") H') (∀ H', Same H H' → Q (.str "rows") H') fun w rs => ∀ (z : V) (H' : Hp), Same H H' → Dp K H' z (dSd1 w rs) → Q z H'
def spSd1 (K : PySem.W.Frag) : Sp := fun vs H Q _ => ∃ (wv : V) (g : Addr) (us : List V), vs = [wv, .ref g] ∧ H g = some (.lst us) ∧ us.length ≤ 4 ∧ Sd1H K H wv us Q
theorem exm_is {K : PySem.W.Frag} {cls : Value} {D : Addr} {r : Bool} (b : PySem.W.subIn K (.ref D) (.type "BaseException") = some true) (t : PySem.W.typeIn K (.ref D) = some (.type "type")) (i : (PySem.W.clsIn K D).isSome = true) (s : PySem.W.subIn K cls (.ref D) = some r) : PySem.W.exmOne K cls (.ref D) = some r := by
  simp only [PySem.W.exmOne, PySem.W.kitCls, b, t, i, s]
  simp
structure ExcTwo (K : PySem.W.Frag) (CW CN : Addr) : Prop where
  ww : PySem.W.exmOne K (.ref CW) (.ref CW) = some true
  nw : PySem.W.exmOne K (.ref CN) (.ref CW) = some false
  nn : PySem.W.exmOne K (.ref CN) (.ref CN) = some true
theorem fldT_txt (w : Nat) (g : Addr) : (fldT w g).lookup ("text" : Str) = none := by
  unfold fldT flT0
  rw [lookup_putF, if_neg (by decide +kernel), lookup_putF, if_neg (by decide +kernel)]
  rfl
theorem rev_at {α : Type} {l : List α} {i : Nat} {x : α} (h : l.reverse[i]? = some x) : ∃ j, j + i + 1 = l.length ∧ l[j]? = some x := by
  have hi : i < l.length := by
    have := (List.getElem?_eq_some_iff.mp h).1
    simpa using this
  rw [List.getElem?_reverse hi] at h
  exact ⟨_, by omega, h⟩
theorem Bt1H.rev {K : PySem.W.Frag} {H : Hp} {w : Nat} {us : List V} {os : List (Option (List Nat))} (hl : us.length = os.length) (h : ∀ (i : Nat) v o, us[i]? = some v → os[i]? = some o → RwV K H w v o) : ∀ (i : Nat) v o, us.reverse[i]? = some v → os.reverse[i]? = some o → RwV K H w v o := fun i v o h1 h2 => by
  obtain ⟨j, e1, e2⟩ := rev_at h1
  obtain ⟨j', e3, e4⟩ := rev_at h2
  have : j = j' := by omega
  subst this
  exact h j v o e2 e4
section
variable {P : Program} {w : World} {K : PySem.W.Frag} {mg : Str → Option Value} {base : Heap} {kA : Addr}
abbrev nSd1 : List Str := ["_law_width", "_law_some", "_law_made"]
theorem scSd1 : FnScope nSd1 ["_law_width", "_law_some"] (defScope sSd1) := ⟨rfl, rfl, rfl, by decide +kernel, rfl, by decide +kernel, by decide +kernel⟩
theorem ok_sd1 {f C CW CN : Addr} {fd : FuncData} {k : Nat} (F : Fun K "_law_said" "_law_said" sSd1 f fd) (T : Glb K mg kA) (TC : TxtT K mg C) (gW : mg "NoWidth" = some (.ref CW)) (gN : mg "NoRows" = some (.ref CN)) (two : ExcTwo K CW CN)
    (cB : CalX P w K mg base "_law_built" ["_law_width", "_law_some"] (spBt1 K C CW CN) 5) (pW : Prp P w K mg base C "width" "span") (pR : Prp P w K mg base C "rows" "lines") (ln : LenT P w K mg base C (spTLen K C) 1) (RC : ReprC P w K mg base C (spTrp K C)) (tx : TxtTM P w K mg base C 1) (eq : EqO P w K mg base C (spTEq K C) 1) : FnOk P w K mg base CX0 (k + 6) f fd ["_law_width", "_law_some"] (spSd1 K) := by
  have GB := cB.ok (k + 5) (by omega)
  have GL := ln.ok (k + 4) (by omega)
  have GX := tx.ok (k + 5) (by omega)
  have GP := RC.ok (k + 4) (by omega)
  have GE := eq.ok (k + 5) (by omega)
  refine F.ok scSd1 (fun vs H Q E h => ?_) (fun cdv A outer s H vs Q E hr h => ?_)
  · obtain ⟨wv, g, us, rfl, _⟩ := h
    rfl
  · obtain ⟨wv, g, us, rfl, hg, u4, h⟩ := h
    have n := scSd1.nd
    refine ⟨_, (pss_cons (ps_try_many rfl rfl takes0 (fun W pn xe tk _ => (pss_one (ps_set (i := 2) n rfl (.inl rfl) (show PE _ _ (tCallS (spBt1 K C CW CN) (WE W) (tCons (tVar 0) (tCons (tVar 1) tNil))) from pe_callS GB hr rfl cB.g cB.kp cB.b (fun σ => passAt tk σ) (pa_cons (pv 0) (pa_cons (pv 1) pa_nil))))))
        (HdsOk.cons ⟨rfl, by decide, .inl gW⟩ (fun a oe cls d pn _ _ => (pss_one (ps_ret pe_str))) (HdsOk.cons ⟨rfl, by decide, .inl gN⟩ (fun a oe cls d pn _ _ => (pss_one (ps_ret pe_str))) .nil)))
      (pss_one (ps_ret (pe_lst (pa_cons (pe_prop (pv 2) TC.cl pW.hp (pW.ok (k + 4) (by omega)) hr pW.b .nil pass0 rfl) (pa_cons (pe_prop (pv 2) TC.cl pR.hp (pR.ok (k + 4) (by omega)) hr pR.b .nil pass0 rfl) (pa_cons (pe_callB (OC.call_lenO ln.fi ln.fn GL hr pass0) (by rfl) T.len PySem.boot_len (pa_cons (pv 2) pa_nil))
        (pa_cons (pe_callB (OC.call_reprO RC.hs RC.hf GP hr pass0) (by rfl) T.rep (by decide +kernel) (pa_cons (pv 2) pa_nil)) (pa_cons (pe_meth0 (pv 2) TC.cl tx.m GX hr tx.b .nil pass0) (pa_cons (pe_cmpR (OC.op_eqO eq.fi eq.fn GE hr pass0) (pv 2) (pe_call GB hr rfl cB.g cB.kp cB.b .nil passL (pa_cons (pv 0) (pa_cons (pe_revL (pv 1)) pa_nil))) (nomark _)) pa_nil)))))))))), ?_⟩
    rcases h with ⟨no, q⟩ | ⟨m, os, rfl, w1, w6, ul, hrl, h⟩
    · refine ⟨_, rfl, _, rfl, wv, g, us, rfl, hg, u4, .inl ⟨no, fun H' s' => ?_⟩⟩
      exact ⟨true, two.ww, fun _ a ha => q H' s', fun z => nomatch z⟩
    refine ⟨_, rfl, _, rfl, .int (m : Int), g, us, rfl, hg, u4, .inr ⟨m, os, rfl, w1, w6, ul, hrl, ?_⟩⟩
    rcases h with ⟨bad, q⟩ | ⟨rs, e, q⟩
    · refine .inl ⟨bad, fun H' s' => ?_⟩
      exact ⟨false, two.nw, (fun z => nomatch z), fun _ => ⟨true, two.nn, fun _ a ha => q H' s', fun z => nomatch z⟩⟩
    refine .inr ⟨rs, e, fun z H1 s1 nz rz => ?_⟩
    obtain ⟨dz, gz, uz, z1, z2, z3⟩ := id rz
    have rl : rs.length ≤ 4 := by
      have := congrArg List.length e
      rw [List.length_map] at this
      omega
    have ok : ∀ r ∈ rs, RowOk m r := by
      obtain ⟨rs', e', _, ok⟩ := all_rows (H := H) ul hrl (by rw [e, List.all_map]; simp)
      rw [e] at e'
      rw [(List.map_inj_right (fun _ _ h => Option.some.inj h)).mp e']
      exact ok
    refine ⟨_, rfl, z, dz, _, rfl, z1, z, dz, _, _, rfl, z1, fldT_span _ _, _, rfl, z, dz, _, rfl, z1, z, dz, _, _, rfl, z1, fldT_lines _ _, _, rfl, z, dz, _, rfl, z1, z, m, rs, rfl, rz, rs.length, rfl, by omega, ?_⟩
    refine ⟨_, rfl, z, dz, _, rfl, z1, z, m, rs, rfl, rz, w6, by omega, _, rfl, ?_⟩
    refine ⟨_, rfl, z, dz, _, rfl, z1, fldT_txt _ _, z, m, rs, rfl, rz, w6, ok, by omega, fun H2 s2 => ?_⟩
    have s12 := s1.trans s2
    have hg2 := s12 _ _ hg
    refine ⟨_, rfl, _, rfl, _, rfl, g, us, rfl, SqL.of hg2, fun l nl => ?_⟩
    have s3 : Same H2 (upd H2 l (.lst us.reverse)) := same_new nl
    have hl3 : (upd H2 l (.lst us.reverse)) l = some (.lst us.reverse) := upd_same
    generalize upd H2 l (.lst us.reverse) = H3 at s3 hl3
    have s13 := s12.trans s3
    refine ⟨.int (m : Int), l, us.reverse, rfl, hl3, by simpa using u4, .inr ⟨m, os.reverse, rfl, w1, w6, by simpa using ul, Bt1H.rev ul fun i v o h1 h2 => (hrl i v o h1 h2).same s13, .inr ⟨rs.reverse, by rw [e, List.map_reverse], fun y H4 s4 ny ry => ?_⟩⟩⟩
    obtain ⟨dy, gy, uy, y1, y2, y3⟩ := id ry
    have s24 := s2.trans (s3.trans s4)
    refine ⟨z, dz, _, y, dy, _, rfl, rfl, s24 _ _ z1, y1, z, y, m, m, rs, rs.reverse, rfl, rz.same s24, ry, w1, ok, (fun r hr => ok r (List.mem_reverse.mp hr)), fun b H5 s5 hb => ?_⟩
    have eb : b = true := hb.mpr ⟨rfl, (List.reverse_perm rs).symm⟩
    subst eb
    have s25 := s24.trans s5
    refine ⟨(by show 6 ≤ sizeLine; decide), fun p np => ?_⟩
    have s6 := s25.trans (same_new (o := .lst [.int (m : Int), .ref gz, .int (rs.length : Int), .str (tTb m rs.length), .str (textT rs), .bl true]) np)
    exact q (.ref p) _ (s1.trans s6) (.lst (SqL.of upd_same) (.cons (.int _) (.cons (.tup (.inl (.inl (s6 _ _ z2))) (dps_same s6 _ _ z3)) (.cons (.int _) (.cons (.str _) (.cons (.str _) (.cons (.bl _) .nil)))))))
abbrev nDu1 : List Str := ["_law_width", "_law_some", "_law_about", "_law_one"]
theorem scDu1 : FnScope nDu1 ["_law_width", "_law_some"] (defScope sDu1) := ⟨rfl, rfl, rfl, by decide +kernel, rfl, by decide +kernel, by decide +kernel⟩
theorem about_eq (m n : Nat) : ("Table(" : Str) ++ num m ++ " columns, " ++ num n ++ " rows)" = tTb m n := by
  unfold tTb reprO
  rw [show Str.empty ++ ("Table(" : Str) = ("Table(" : Str) from by decide +kernel]
theorem ok_du1 {f : Addr} {fd : FuncData} {k : Nat} (F : Fun K "_law_due" "_law_due" sDu1 f fd) (T : Glb K mg kA) (cW : Cal P w K mg base "_law_is_whole" ["_law_thing", "_law_low", "_law_high"] (spWho K) 1) (cO : Cal P w K mg base "_law_is_line" ["_law_thing", "_law_width"] (spLn1 K) 2) (cX : Cal P w K mg base "_law_text" ["_law_lines_here"] (spTTx K) 1) : FnOk P w K mg base CX0 (k + 3) f fd ["_law_width", "_law_some"] (spSd1 K) := by
  have GW := cW.ok (k + 2) (by omega)
  have GO := cO.ok (k + 2) (by omega)
  have GX := cX.ok (k + 2) (by omega)
  refine F.ok scDu1 (fun vs H Q E h => ?_) (fun cdv A outer s H vs Q E hr h => ?_)
  · obtain ⟨wv, g, us, rfl, _⟩ := h
    rfl
  · obtain ⟨wv, g, us, rfl, hg, u4, h⟩ := h
    have n := scDu1.nd
    have hu65 : (A.deeper (PyProof.Rows.envOfC (Str.ofString "_law_due") (defScope sDu1) s.heap.objs.size f cdv)).units + 65 < cLine := by
      have := hr.un
      omega
    have hu64 : (A.deeper (PyProof.Rows.envOfC (Str.ofString "_law_due") (defScope sDu1) s.heap.objs.size f cdv)).units + 64 < cLine := by omega
    refine ⟨_, (pss_cons (ps_if (pt_not (pt_val (pe_call GW hr rfl cW.g cW.kp cW.b .nil pass0 (pa_cons (pv 0) (pa_cons pe_int (pa_cons pe_int pa_nil)))))) (pss_one (ps_ret pe_str)) pss_nil)
      (pss_cons (ps_if (pt_cmpR (op_neD hu64) (pe_lc (own := [("_law_one", 3)]) (g := gName 3) (tt := tNot (tTest (tCall (spLn1 K) [] E0 (tCons (tVar 3) (tCons (tVar 0) tNil))))) (te := tC (.int 1)) rfl n (pi_list (pv 1)) (blkOk_by (N := nDu1) (sc := defScope sDu1) (by decide +kernel))
          (fun _ _ _ _ _ => (pg_name (i := 3) n rfl (.inl rfl))) (fun _ _ _ _ _ => pts_one (pt_not (pt_val (pe_call GO hr rfl cO.g cO.kp cO.b .nil pass0 (pa_cons (pv 3) (pa_cons (pv 0) pa_nil)))))) (fun _ _ _ _ _ => pe_int)) (pe_lst pa_nil) (nomark _))
        (pss_one (ps_ret pe_str)) pss_nil)
      (pss_cons (ps_set (i := 2) n rfl (.inl rfl) (pe_op op_addSt (pe_op op_addSt (pe_op op_addSt (pe_op op_addSt pe_str (pe_callTy call_strI (by rfl) T.str (by decide +kernel) (pa_cons (pv 0) pa_nil))) pe_str) (pe_callTy call_strI (by rfl) T.str (by decide +kernel) (pa_cons (pe_callB call_len_seq (by rfl) T.len PySem.boot_len (pa_cons (pv 1) pa_nil)) pa_nil))) pe_str))
      (pss_one (ps_ret (pe_lst (pa_cons (pv 0) (pa_cons (pe_callTy call_tuple_of (by rfl) T.tup (by decide +kernel) (pa_cons (pv 1) pa_nil)) (pa_cons (pe_callB call_len_seq (by rfl) T.len PySem.boot_len (pa_cons (pv 1) pa_nil)) (pa_cons (pv 2) (pa_cons (pe_call GX hr rfl cX.g cX.kp cX.b .nil pass0 (pa_cons (pv 1) pa_nil)) (pa_cons pe_bl pa_nil)))))))))))), ?_⟩
    rcases h with ⟨no, q⟩ | ⟨m, os, rfl, w1, w6, ul, hrl, h⟩
    · refine ⟨_, rfl, ?_⟩
      rcases no with no | ⟨z, rfl, hz⟩
      · exact ⟨wv, 1, 6, rfl, .inl ⟨no, _, rfl, iteT (q H (Same.refl _))⟩⟩
      · refine ⟨.int z, 1, 6, rfl, .inr ⟨z, rfl, _, rfl, iteT' ?_ (q H (Same.refl _))⟩⟩
        rw [decide_eq_false hz]
        rfl
    refine ⟨_, rfl, .int (m : Int), 1, 6, rfl, .inr ⟨(m : Int), rfl, _, rfl, iteF' ?_ ?_⟩⟩
    · rw [decide_eq_true (show (1 : Int) ≤ (m : Int) ∧ (m : Int) ≤ 6 by omega)]
      rfl
    -- whether all are rows
    refine ⟨_, rfl, g, rfl, ⟨_, SqL.of hg⟩, fun D nD => ?_⟩
    refine lc_list (xs := us) (fun i H1 => Same H (wo H1 D) ∧ H1 D = some (.lst (List.replicate ((os.take i).filter Option.isNone).length (V.int 1))) ∧ ((os.take i).filter Option.isNone).length ≤ i) ⟨?_, ?_, by simp⟩ (fun i H1 _ z => SqL.of (wo_le D _ _ (z.1 _ _ hg))) ?_ ?_
    · rw [wo_upd]
      exact fun b o e => by rw [wo_ne (ne_of_none e nD)]; exact e
    · exact upd_same
    · rintro i v H1 hv ⟨e1, e2, e3⟩
      have il : i < us.length := (List.getElem?_eq_some_iff.mp hv).1
      obtain ⟨o, ho⟩ : ∃ o, os[i]? = some o := ⟨_, List.getElem?_eq_getElem (by omega)⟩
      have rl := (hrl i v o hv ho).same (e1.trans (wo_le D))
      refine ⟨rfl, ⟨_, rfl, _, rfl, v, m, o, rfl, w6, rl, fun H2 s2 => ⟨_, rfl, ?_⟩⟩⟩
      rw [take1 ho, List.filter_append]
      have e12 : Same H (wo H2 D) := e1.trans (wo_same s2)
      cases o with
      | some r =>
        rw [List.filter_cons_of_neg (by simp), List.filter_nil, List.append_nil]
        exact iteF ⟨e12, s2 _ _ e2, by omega⟩
      | none =>
        rw [List.filter_cons_of_pos (by simp), List.filter_nil, List.length_append, List.length_singleton]
        refine iteT ⟨_, s2 _ _ e2, small1000 (by simp; omega), ?_, ?_, by omega⟩
        · rw [wo_upd]
          exact e12
        · rw [upd_same, List.replicate_succ']
    rintro H1 ⟨e1, e2, e3⟩
    rw [ul, List.take_length] at e2 e3
    generalize hN : (os.filter Option.isNone).length = N at e2 e3
    have s1 : Same H H1 := e1.trans (wo_le D)
    refine ⟨Nat.zero_le _, fun l1 nl1 => ?_⟩
    have s2 : Same H1 (upd H1 l1 (.lst [])) := same_new nl1
    have hl1 : (upd H1 l1 (.lst [])) l1 = some (.lst []) := upd_same
    generalize upd H1 l1 (.lst []) = H2 at s2 hl1
    have s02 := s1.trans s2
    refine ⟨.list (List.replicate N (.int 1)), .list [], .lst (SqL.of (s2 _ _ e2)) (ones_dp N), .lst (SqL.of hl1) .nil, ones_shaped (by omega), by decide +kernel, _, rfl, ?_⟩
    rw [ones_eqv]
    by_cases n0' : ¬ N = 0
    · have n0 := n0'
      refine iteT' (by rw [decide_eq_false n0]; rfl) ?_
      rcases h with ⟨_, q⟩ | ⟨rs, e, _⟩
      · exact q H2 s02
      · exfalso
        apply n0
        rw [← hN, e]
        simp
    have n0 := Decidable.not_not.mp n0'
    refine iteF' (by rw [decide_eq_true n0]; rfl) ?_
    have ha : os.all Option.isSome = true := by
      rw [List.all_eq_true]
      intro o ho
      have := List.length_eq_zero_iff.mp (hN.trans n0)
      rw [List.filter_eq_nil_iff] at this
      have := this o ho
      cases o with
      | none => simp at this
      | some r => rfl
    obtain ⟨rs, eo, dp, ok⟩ := all_rows (H := H) ul hrl ha
    have ur : us.length = rs.length := by rw [dps_len dp, List.length_map]
    rcases h with ⟨bad, _⟩ | ⟨rs', e, q⟩
    · rw [bad] at ha
      cases ha
    have er : rs' = rs := by
      rw [eo] at e
      exact ((List.map_inj_right (fun _ _ h => Option.some.inj h)).mp e).symm
    subst er
    have hg4 := s02 _ _ hg
    have few : rs'.length ≤ 4 := by omega
    have nl : ∀ j, j ≤ 6 → (num j).length ≤ 10 := by decide +kernel
    have big : ∀ {n : Nat}, n ≤ 100 → n ≤ sizeLine := fun h => Nat.le_trans h (by decide)
    have l1 := nl m w6
    have l2' := nl us.length (by omega)
    have c1 : ("Table(" : Str).length = 6 := by decide +kernel
    have c2 : (" columns, " : Str).length = 10 := by decide +kernel
    have c3 : (" rows)" : Str).length = 6 := by decide +kernel
    refine ⟨_, rfl, _, rfl, by omega, _, _, rfl, rfl, big (by omega), _, _, rfl, rfl, big (by rw [Str.length_append]; omega), _, rfl, g, us, rfl, .inl (SqL.of hg4), _, rfl, by omega, _, _, rfl, rfl, big (by rw [Str.length_append, Str.length_append]; omega), _, _, rfl, rfl, big (by rw [Str.length_append, Str.length_append, Str.length_append]; omega), ?_⟩
    rw [about_eq]
    refine ⟨_, rfl, _, rfl, g, us, rfl, .inl ⟨SqL.of hg4, fun t nt => ?_⟩⟩
    have s5 : Same H2 (upd H2 t (.tup us)) := same_new nt
    have ht : (upd H2 t (.tup us)) t = some (.tup us) := upd_same
    generalize upd H2 t (.tup us) = H5 at s5 ht
    have s05 := s02.trans s5
    refine ⟨_, rfl, g, us, rfl, .inl (SqL.of (s5 _ _ hg4)), _, rfl, _, rfl, g, us, m, rs', rfl, SqL.of (s5 _ _ hg4), dps_same s05 _ _ dp, w6, ok, by omega, fun H6 s6 => ?_⟩
    refine ⟨(by show 6 ≤ sizeLine; decide), fun l nl => ?_⟩
    rw [ur]
    have s7 := s6.trans (same_new (o := .lst [.int (m : Int), .ref t, .int (rs'.length : Int), .str (tTb m rs'.length), .str (textT rs'), .bl true]) nl)
    exact q (.ref l) _ (s05.trans s7) (.lst (SqL.of upd_same) (.cons (.int _) (.cons (.tup (.inl (.inl (s7 _ _ ht))) (dps_same (s05.trans s7) _ _ dp)) (.cons (.int _) (.cons (.str _) (.cons (.str _) (.cons (.bl _) .nil)))))))
end
end CC
namespace CC
open PySem L2 TL
theorem sd_textT {w : Nat} {rows : List (List Nat)} (w6 : w ≤ 6) (ok : ∀ r ∈ rows, RowOk w r) (few : rows.length ≤ 400) : GD.SD 12400 0 (.str (textT rows)) := by
  have low : ∀ c ∈ tl (textT rows), c < 128 := fun c hc => by
    rw [textT_eq, tl_lines] at hc
    obtain ⟨l, hl, hc⟩ := List.mem_flatten.mp hc
    obtain ⟨y, hy, rfl⟩ := List.mem_map.mp hl
    obtain ⟨r, hr, rfl⟩ := List.mem_map.mp hy
    rcases List.mem_append.mp hc with z | z
    · unfold rowS at z
      rw [join_eq, tl_join] at z
      rcases joinL_in z with y | ⟨p, hp, y⟩
      · rw [show tl (" " : Str) = [32] by decide +kernel] at y
        rw [List.mem_singleton.mp y]
        decide
      · obtain ⟨q, hq, rfl⟩ := List.mem_map.mp hp
        obtain ⟨n, _, rfl⟩ := List.mem_map.mp hq
        rw [tl_n] at y
        have := numL_digits n c y
        omega
    · rw [List.mem_singleton.mp z]
      decide
  refine GD.SD.str ?_ ?_ fun c hc => Nat.lt_trans (low c hc) (by decide)
  · unfold PyData.strOk
    rw [← Array.all_toList, List.all_eq_true]
    exact fun c hc => decide_eq_true (Nat.lt_trans (low c hc) (by decide))
  · have := textT_len ok w6
    omega
end CC
namespace CC
open PySem L2 TL
abbrev sIsEq : Stmt := tp 33
section
variable {P : Program} {w : World} {K : PySem.W.Frag} {mg : Str → Option Value} {base : Heap} {kA : Addr}
theorem scIsEq : FnScope ["_law_actual", "_law_expected"] ["_law_actual", "_law_expected"] (defScope sIsEq) := ⟨rfl, rfl, rfl, by decide +kernel, rfl, by decide +kernel, by decide +kernel⟩
theorem ok_iseq {f : Addr} {fd : FuncData} {k : Nat} (F : Fun K "_law_is_equal" "_law_is_equal" sIsEq f fd) (T : Glb K mg kA) : FnOk P w K mg base CX0 (k + 1) f fd ["_law_actual", "_law_expected"] spIsEq := by
  refine F.ok scIsEq (fun vs H Q E h => ?_) (fun cdv A outer s H vs Q E hr h => ?_)
  · obtain ⟨b, c, rfl, _⟩ := h
    rfl
  · obtain ⟨b, c, rfl, q⟩ := h
    refine ⟨_, pss_one (ps_ret (pe_cmpR op_eq (pe_callB call_repr_bl (by rfl) T.rep (by decide +kernel) (pa_cons (pv 0) pa_nil)) (pe_callB call_repr_bl (by rfl) T.rep (by decide +kernel) (pa_cons (pv 1) pa_nil)) (nomark _))), ?_⟩
    refine ⟨_, rfl, b, rfl, _, rfl, c, rfl, rfl, ?_⟩
    have e : decide (V.str (if b then "True" else "False") = V.str (if c then "True" else "False")) = (b == c) := by
      cases b <;> cases c <;> decide +kernel
    show Q (.bl (decide (V.str (if b then "True" else "False") = V.str (if c then "True" else "False")))) H
    rw [e]
    exact q
end
end CC
namespace GD
open PySem L2 CC
section
variable {P : Program} {w : World} {K : PySem.W.Frag} {mg : Str → Option Value} {base : Heap} {kA : Addr}
theorem ok_iseqD {f : Addr} {fd : FuncData} {k : Nat} (F : Fun K "_law_is_equal" "_law_is_equal" sIsEq f fd) (T : Glb K mg kA) : FnG P w K mg base CX0 (k + 1) f fd ["_law_actual", "_law_expected"] (spEqD K) := by
  refine fun_okG F scIsEq (fun vs H Q E h => ?_) (fun cdv A outer s H vs Q E calm hr h => ?_)
  · obtain ⟨v, u, d, rfl, _⟩ := h
    rfl
  · obtain ⟨v, u, d, rfl, dv, du, sd, q⟩ := h
    have hu := hu66 hr
    refine ⟨_, pss_one (ps_ret (pe_cmpR op_eq (pe_callB (call_reprD calm hu) (by rfl) T.rep (by decide +kernel) (pa_cons (pv 0) pa_nil)) (pe_callB (call_reprD calm hu) (by rfl) T.rep (by decide +kernel) (pa_cons (pv 1) pa_nil)) (nomark _))), ?_⟩
    have fit := sd.fits (by decide)
    refine ⟨_, rfl, v, d, rfl, dv, sd.shw, sd.nodict, sd.dep, fit, _, rfl, u, d, rfl, du, sd.shw, sd.nodict, sd.dep, fit, rfl, ?_⟩
    show Q (.bl (decide (V.str d.shown = V.str d.shown))) H
    rw [decide_eq_true rfl]
    exact q
end
end GD
namespace CC
open PySem L2 TL LamX
/-! ### what is said and what is due, as data -/
theorem sd_tTb : ∀ w, w < 7 → ∀ n, n < 5 → PyData.strOk (tTb w n) = true ∧ (tTb w n).length ≤ 100 ∧ ∀ c ∈ (tTb w n).cps.toList, c < 128 := by decide +kernel
theorem sd_gdr {w : Nat} {r : List Nat} (ok : RowOk w r) (w6 : w ≤ 6) : GD.SD 126 1 (gd r) :=
  GD.SD.tuple (m := 20) (n := 0) (k := 6) (fun d hd => by
    obtain ⟨y, hy, rfl⟩ := List.mem_map.mp hd
    exact GD.SD.nat (by have := ok.2 y hy; omega)) (by rw [List.length_map]; have := ok.1; omega)
theorem sd_said1 {w : Nat} {rs : List (List Nat)} (w6 : w ≤ 6) (ok : ∀ r ∈ rs, RowOk w r) (few : rs.length ≤ 4) : GD.SD 1000000 64 (dSd1 w rs) := by
  obtain ⟨t1, t2, t3⟩ := sd_tTb w (by omega) rs.length (by omega)
  refine (GD.SD.list (m := 12400) (n := 2) (k := 6) (fun d hd => ?_) (by show 6 ≤ 6; decide)).up (by decide) (by decide)
  rcases List.mem_cons.mp hd with rfl | hd
  · exact (GD.SD.nat (by omega)).up (by decide) (by decide)
  rcases List.mem_cons.mp hd with rfl | hd
  · exact (GD.SD.tuple (m := 126) (n := 1) (k := 4) (fun d hd => by
      obtain ⟨r, hr, rfl⟩ := List.mem_map.mp hd
      exact sd_gdr (ok r hr) w6) (by rw [List.length_map]; exact few)).up (by decide) (by decide)
  rcases List.mem_cons.mp hd with rfl | hd
  · exact (GD.SD.nat (by omega)).up (by decide) (by decide)
  rcases List.mem_cons.mp hd with rfl | hd
  · exact (GD.SD.str (m := 100) t1 t2 fun c hc => Nat.lt_trans (t3 c hc) (by decide)).up (by decide) (by decide)
  rcases List.mem_cons.mp hd with rfl | hd
  · exact (sd_textT w6 ok (by omega)).up (by decide) (by decide)
  rcases List.mem_cons.mp hd with rfl | hd
  · exact (GD.SD.bl _).up (by decide) (by decide)
  · cases hd
/-- a width that is none, or a width and values -/
def Bt3 (K : PySem.W.Frag) (H : Hp) (wv : V) (us : List V) : Prop := NoWidT K H wv ∨ ∃ (w : Nat) (os : List (Option (List Nat))), wv = .int (w : Int) ∧ 1 ≤ w ∧ w ≤ 6 ∧ us.length = os.length ∧ ∀ (i : Nat) v o, us[i]? = some v → os[i]? = some o → RwV K H w v o
section
variable {K : PySem.W.Frag} {H : Hp} {wv : V} {us : List V} {g : Addr} {σ : L2.St} {i j : Nat}
theorem said_go (u4 : us.length ≤ 4) (h : Bt3 K H wv us) : ∃ d : PyData, GD.SD 1000000 64 d ∧ ∀ H', Same H H' → ∀ Q : VK, (∀ z H'', Same H' H'' → Dp K H'' z d → Q z H'') → Sd1H K H' wv us Q := by
  rcases h with no | ⟨w, os, rfl, w1, w6, ul, hr⟩
  · exact ⟨.str "width", (GD.SD.str (m := 100) (by decide +kernel) (by decide +kernel) (by decide +kernel)).up (by decide) (by decide), fun H' s' Q q => .inl ⟨no.same s', fun H'' s'' => q _ _ s'' (.str _)⟩⟩
  · by_cases good : os.all Option.isSome = true
    · obtain ⟨rs, e, _, ok⟩ := all_rows (H := H) ul hr good
      have few : rs.length ≤ 4 := by
        have := congrArg List.length e
        rw [List.length_map] at this
        omega
      exact ⟨dSd1 w rs, sd_said1 w6 ok few, fun H' s' Q q => .inr ⟨w, os, rfl, w1, w6, ul, fun i v o h1 h2 => (hr i v o h1 h2).same s', .inr ⟨rs, e, fun z H'' s'' dz => q z H'' s'' dz⟩⟩⟩
    · exact ⟨.str "rows", (GD.SD.str (m := 100) (by decide +kernel) (by decide +kernel) (by decide +kernel)).up (by decide) (by decide), fun H' s' Q q => .inr ⟨w, os, rfl, w1, w6, ul, fun i v o h1 h2 => (hr i v o h1 h2).same s', .inl ⟨by simpa using good, fun H'' s'' => q _ _ s'' (.str _)⟩⟩⟩
/-- not is_equal(said(w, l), due(w, l)) -/
theorem sd_go {Q : Bool → Hp → Prop} (hi : σ[i]? = some (some wv)) (hj : σ[j]? = some (some (.ref g))) (hg : H g = some (.lst us)) (u4 : us.length ≤ 4) (h : Bt3 K H wv us) (q : ∀ H', Same H H' → Q false H') :
    tNot (tB (tCall (GD.spEqD K) [] E0 (tCons (tCall (spSd1 K) [] E0 (tCons (tVar i) (tCons (tVar j) tNil))) (tCons (tCall (spSd1 K) [] E0 (tCons (tVar i) (tCons (tVar j) tNil))) tNil)))) σ H Q := by
  obtain ⟨d, sd, go⟩ := said_go u4 h
  refine ⟨_, hi, _, hj, wv, g, us, rfl, hg, u4, go H (Same.refl _) _ fun z1 H1 s1 d1 => ?_⟩
  refine ⟨_, hi, _, hj, wv, g, us, rfl, s1 _ _ hg, u4, go H1 s1 _ fun z2 H2 s2 d2 => ?_⟩
  exact ⟨z1, z2, d, rfl, dp_same s2 _ _ d1, d2, sd, true, rfl, q H2 (s1.trans s2)⟩
end
end CC
/-! ### displays of trees, beside a pen -/
namespace CC
open PySem L2 TL
/-- the heap without some addresses -/
def hid (X : List Addr) (H : Hp) : Hp := fun b => if b ∈ X then none else H b
/-- the addresses hold lists -/
def Occ (X : List Addr) (H : Hp) : Prop := ∀ b ∈ X, ∃ us, H b = some (.lst us)
section
variable {X : List Addr} {H H' : Hp} {s : Addr} {c c' : Nat}
theorem hid_ne {b : Addr} (h : b ∉ X) : hid X H b = H b := if_neg h
theorem hid_at {b : Addr} {o : HO} (h : hid X H b = some o) : H b = some o ∧ b ∉ X := by
  unfold hid at h
  by_cases e : b ∈ X
  · rw [if_pos e] at h
    cases h
  · rw [if_neg e] at h
    exact ⟨h, e⟩
theorem hid_same (e : Same H H') : Same (hid X H) (hid X H') := fun b o h => by
  obtain ⟨h1, h2⟩ := hid_at h
  rw [hid_ne h2]
  exact e _ _ h1
theorem hid_le : Same (hid X H) H := fun b o h => (hid_at h).1
theorem Occ.same (h : Occ X H) (e : Same H H') : Occ X H' := fun b hb => by
  obtain ⟨us, hu⟩ := h b hb
  exact ⟨us, e _ _ hu⟩
theorem Occ.new (h : Occ X H) {b : Addr} (n : H b = none) : b ∉ X := fun hb => by
  obtain ⟨us, hu⟩ := h b hb
  rw [n] at hu
  cases hu
theorem hid_T (h : Occ X H) : SameT H (hid X H) := by
  constructor
  · intro b xs e
    rw [hid_ne fun hb => by
      obtain ⟨us, hu⟩ := h b hb
      rw [e] at hu
      cases hu]
    exact e
  · intro b o xs e
    rw [hid_ne fun hb => by
      obtain ⟨us, hu⟩ := h b hb
      rw [e] at hu
      cases hu]
    exact e
theorem Occ.upd {l : Addr} {us : List V} (h : Occ X H) : Occ X (upd H l (.lst us)) := fun b hb => by
  by_cases e : b = l
  · rw [e]
    exact ⟨us, upd_same⟩
  · obtain ⟨vs, hv⟩ := h b hb
    exact ⟨vs, by rw [upd_ne e]; exact hv⟩
end
def Stb (P : Hp → V → Prop) : Prop := ∀ (H H' : Hp) (v : V), Same H H' → P H v → P H' v
theorem set_go {te : TE} {i : Nat} {u : TS} {D : Ends} {σ : L2.St} {H : Hp} (h : te σ H fun v H1 => u D (σ.set i (some v)) H1) : tSeq (tAsg te (gName i)) u D σ H := h
/-- the reading gives a value with the property, and only adds to the heap -/
def EvE (σ : L2.St) (H0 : Hp) (P : Hp → V → Prop) (t : TE) : Prop := ∀ H Q, Same H0 H → (∀ v H', Same H H' → P H' v → Q v H') → t σ H Q
def EvA (σ : L2.St) (H0 : Hp) (P : Hp → V → Prop) (n : Nat) (t : TA) : Prop := ∀ H Q, Same H0 H → (∀ vs H', Same H H' → vs.length = n → (∀ v ∈ vs, P H' v) → Q vs H') → t σ H Q
/-- a list of such values -/
def PL (X : List Addr) (P : Hp → V → Prop) (n : Nat) (B H : Hp) (v : V) : Prop := ∃ (l : Addr) (us : List V), v = .ref l ∧ (l ∉ X ∧ B l = none) ∧ H l = some (.lst us) ∧ us.length = n ∧ ∀ u ∈ us, P (wo H l) u
section
variable {K : PySem.W.Frag} {CS X : List Addr} {CT s : Addr} {σ : L2.St} {B H0 H H' : Hp} {P P' : Hp → V → Prop} {t te ta tb : TE} {ts : TA} {n m i : Nat} {v : V} {o : HO}
theorem pl_stb (st : Stb P) : Stb (PL X P n B) := fun H H' v e ⟨l, us, h1, h2, h3, h4, h5⟩ => ⟨l, us, h1, h2, e _ _ h3, h4, fun u hu => st _ _ _ (wo_same e) (h5 u hu)⟩
theorem same_wo {p : Addr} (np : H p = none) : Same H (wo (upd H p o) p) := fun b u e => by
  rw [wo_upd, wo_ne (fun z => by rw [z, np] at e; cases e)]
  exact e
/-- what is new is not the pen -/
theorem wo_new {p : Addr} {xs : List V} (os : Occ X H) (np : H p = none) : (hid X (upd H p (.tup xs))) p = some (.tup xs) := by
  rw [hid_ne (os.new np), upd_same]
theorem ev_sub (h : EvE σ H0 P t) (i : ∀ H v, Same H0 H → P H v → P' H v) : EvE σ H0 P' t := fun H Q s q => h H Q s fun v H' s' p => q v H' s' (i _ _ (s.trans s') p)
theorem ev_var (st : Stb P) (hs : σ[i]? = some (some v)) (h : P H0 v) : EvE σ H0 P (tVar i) := fun H Q s q => ⟨v, hs, q v H (Same.refl _) (st _ _ _ s h)⟩
theorem ev_c (h : ∀ H, P H v) : EvE σ H0 P (tC v) := fun H Q _ q => q v H (Same.refl _) (h H)
theorem eva_nil : EvA σ H0 P 0 tNil := fun H Q s q => q [] H (Same.refl _) rfl (fun _ h => nomatch h)
theorem eva_cons (st : Stb P) (h1 : EvE σ H0 P t) (h2 : EvA σ H0 P n ts) : EvA σ H0 P (n + 1) (tCons t ts) := fun H Q s q => h1 H _ s fun v H1 s1 p1 => h2 H1 _ (s.trans s1) fun vs H2 s2 l2 p2 =>
  q (v :: vs) H2 (s1.trans s2) (by rw [List.length_cons, l2]) fun u hu => (List.mem_cons.mp hu).elim (fun e => by rw [e]; exact st _ _ _ s2 p1) (p2 u)
theorem ev_lst (st : Stb P) (hB : ∀ l, H0 l = none → B l = none) (os : Occ X H0) (hn : n ≤ 100) (h : EvA σ H0 P n ts) : EvE σ H0 (PL X P n B) (tLst ts) := fun H Q s1 q => h H _ s1 fun vs H1 s2 l p => ⟨Nat.le_trans (show vs.length ≤ 100 by omega) (by decide), fun p1 np => q _ _ (s2.trans (same_new np))
  ⟨p1, vs, rfl, ⟨(os.same (s1.trans s2)).new np, hB _ ((s1.trans s2).free np)⟩, upd_same, l, fun u hu => st _ _ _ (same_wo np) (p u hu)⟩⟩
theorem ev_catL (st : Stb P) (hB : ∀ l, H0 l = none → B l = none) (os : Occ X H0) (hn : n + m ≤ 100) (h1 : EvE σ H0 (PL X P n B) ta) (h2 : EvE σ H0 (PL X P m B) tb) : EvE σ H0 (PL X P (n + m) B) (tOp rCat ta tb) := fun H Q s0 q => h1 H _ s0 fun x H1 s1 p1 => h2 H1 _ (s0.trans s1) fun y H2 s2 p2 => by
  obtain ⟨l, us, rfl, a1, a2, a3, a4⟩ := pl_stb st _ _ _ s2 p1
  obtain ⟨l', us', rfl, b1, b2, b3, b4⟩ := p2
  refine ⟨l, l', us, us', rfl, rfl, a2, b2, Nat.le_trans (show _ ≤ 100 by omega) (by decide), fun p np => q _ _ (s1.trans (s2.trans (same_new np))) ⟨p, _, rfl, ⟨(os.same (s0.trans (s1.trans s2))).new np, hB _ ((s0.trans (s1.trans s2)).free np)⟩, upd_same, by rw [List.length_append, a3, b3], fun u hu => ?_⟩⟩
  · refine st _ _ _ (same_wo np) ?_
    rcases List.mem_append.mp hu with z | z
    · exact st _ _ _ (wo_le l) (a4 u z)
    · exact st _ _ _ (wo_le l') (b4 u z)
theorem cut_len (xs : List V) (lo hi : Option Int) : (cutV xs lo hi).length ≤ xs.length := by
  unfold cutV
  simp
  omega
theorem cut_mem {xs : List V} {lo hi : Option Int} {x : V} (h : x ∈ cutV xs lo hi) : x ∈ xs := by
  unfold cutV at h
  exact List.mem_of_mem_drop (List.mem_of_mem_take h)
/-- what the ends of a slice read: ints, the heap stays -/
def Ends1 (σ : L2.St) (t : TO) : Prop := ∀ H Q, (∀ l, Q l H) → t σ H Q
theorem en_no : Ends1 σ tNoPart := fun H Q q => q none
theorem en_c {k : Int} : Ends1 σ (tPart (tC (.int k))) := fun H Q q => ⟨k, rfl, q _⟩
theorem en_neg {k : Int} : Ends1 σ (tPart (tUn (rU fun i => .int (-i)) (tC (.int k)))) := fun H Q q => ⟨k, rfl, _, rfl, q _⟩
theorem en_var {k : Int} (hs : σ[i]? = some (some (.int k))) : Ends1 σ (tPart (tVar i)) := fun H Q q => ⟨_, hs, _, rfl, q _⟩
theorem en_succ {k j : Int} (hs : σ[i]? = some (some (.int k))) : Ends1 σ (tPart (tOp (rI0 fun i j => .int (i + j)) (tVar i) (tC (.int j)))) := fun H Q q => ⟨_, hs, _, _, rfl, rfl, _, rfl, q _⟩
/-- a list of six, by any index -/
theorem at6 {us : List V} (h : us.length = 6) {i : Int} (h1 : -6 ≤ i) (h2 : i ≤ 5) : ∃ v ∈ us, atI us i = some v := by
  match us, h with
  | [a, b, c, d, e, f], _ =>
    have hi : i = -6 ∨ i = -5 ∨ i = -4 ∨ i = -3 ∨ i = -2 ∨ i = -1 ∨ i = 0 ∨ i = 1 ∨ i = 2 ∨ i = 3 ∨ i = 4 ∨ i = 5 := by omega
    rcases hi with rfl | rfl | rfl | rfl | rfl | rfl | rfl | rfl | rfl | rfl | rfl | rfl
    · exact ⟨a, by simp, rfl⟩
    · exact ⟨b, by simp, rfl⟩
    · exact ⟨c, by simp, rfl⟩
    · exact ⟨d, by simp, rfl⟩
    · exact ⟨e, by simp, rfl⟩
    · exact ⟨f, by simp, rfl⟩
    · exact ⟨a, by simp, rfl⟩
    · exact ⟨b, by simp, rfl⟩
    · exact ⟨c, by simp, rfl⟩
    · exact ⟨d, by simp, rfl⟩
    · exact ⟨e, by simp, rfl⟩
    · exact ⟨f, by simp, rfl⟩
/-- a list of such values, weaker -/
def PLw (X : List Addr) (P : Hp → V → Prop) (n : Nat) (H : Hp) (v : V) : Prop := ∃ (l : Addr) (us : List V), v = .ref l ∧ l ∉ X ∧ H l = some (.lst us) ∧ us.length ≤ n ∧ ∀ u ∈ us, P H u
theorem plw_stb (st : Stb P) : Stb (PLw X P n) := fun H H' v e ⟨l, us, h1, h2, h3, h4, h5⟩ => ⟨l, us, h1, h2, e _ _ h3, h4, fun u hu => st _ _ _ e (h5 u hu)⟩
theorem ev_lstW (st : Stb P) (os : Occ X H0) (hn : n ≤ 100) (h : EvA σ H0 P n ts) : EvE σ H0 (PLw X P n) (tLst ts) := ev_sub (ev_lst (B := fun _ => none) st (fun _ _ => rfl) os hn h) fun H v s ⟨l, us, h1, ⟨h2, _⟩, h3, h4, h5⟩ => ⟨l, us, h1, h2, h3, Nat.le_of_eq h4, fun u hu => st _ _ _ (wo_le l) (h5 u hu)⟩
theorem ev_catW (st : Stb P) (os : Occ X H0) (hn : n + m ≤ 100) (h1 : EvE σ H0 (PLw X P n) ta) (h2 : EvE σ H0 (PLw X P m) tb) : EvE σ H0 (PLw X P (n + m)) (tOp rCat ta tb) := fun H Q s0 q => h1 H _ s0 fun x H1 s1 p1 => h2 H1 _ (s0.trans s1) fun y H2 s2 p2 => by
  obtain ⟨l, us, rfl, a1, a2, a3, a4⟩ := plw_stb st _ _ _ s2 p1
  obtain ⟨l', us', rfl, b1, b2, b3, b4⟩ := p2
  refine ⟨l, l', us, us', rfl, rfl, a2, b2, Nat.le_trans (show _ ≤ 100 by omega) (by decide), fun p np => q _ _ (s1.trans (s2.trans (same_new np))) ⟨p, _, rfl, (os.same (s0.trans (s1.trans s2))).new np, upd_same, by rw [List.length_append]; omega, fun u hu => ?_⟩⟩
  refine st _ _ _ (same_new np) ?_
  rcases List.mem_append.mp hu with z | z
  · exact a4 u z
  · exact b4 u z
theorem hid_upd {l : Addr} (h : l ∈ X) : hid X (upd H l o) = hid X H := by
  funext b
  unfold hid
  by_cases e : b ∈ X
  · rw [if_pos e, if_pos e]
  · rw [if_neg e, if_neg e, upd_ne (fun z : b = l => e (by rw [z]; exact h))]
theorem hid_sub {Y : List Addr} (h : ∀ b ∈ X, b ∈ Y) : Same (hid Y H) (hid X H) := fun b o e => by
  obtain ⟨h1, h2⟩ := hid_at e
  rw [hid_ne fun z => h2 (h b z)]
  exact h1
theorem ev_ix {a : Addr} {xs : List V} {k : Int} {x : V} (hs : σ[i]? = some (some (.ref a))) (h : SqT K H0 a xs) (hk : atI xs k = some x) (hp : ∀ H, P H x) : EvE σ H0 P (tOp (rIxT K) (tVar i) (tC (.int k))) := fun H Q s0 q => ⟨_, hs, a, xs, k, x, rfl, rfl, same_t s0 h, hk, q _ _ (Same.refl _) (hp _)⟩
end
end CC
namespace CC
open PySem L2 TL
theorem asg_go {te : TE} {i : Nat} {D : Ends} {σ : L2.St} {H : Hp} (h : te σ H fun v H1 => D.nx (σ.set i (some v)) H1) : tAsg te (gName i) D σ H := h
theorem set_goL {te : TE} {i : Nat} {u : TS} {D : Ends} {σ : L2.St} {H : Hp} (L : V → L2.St) (e : ∀ v, σ.set i (some v) = L v) (h : te σ H fun v H1 => u D (L v) H1) : tSeq (tAsg te (gName i)) u D σ H :=
  set_go (by simp only [e]; exact h)
theorem asg_goL {te : TE} {i : Nat} {D : Ends} {σ : L2.St} {H : Hp} (L : V → L2.St) (e : ∀ v, σ.set i (some v) = L v) (h : te σ H fun v H1 => D.nx (L v) H1) : tAsg te (gName i) D σ H := by
  show te σ H fun v H1 => D.nx (σ.set i (some v)) H1
  simp only [e]
  exact h
theorem ret_go {te : TE} {D : Ends} {σ : L2.St} {H : Hp} (h : te σ H D.rt) : tRet te D σ H := h
theorem evt {P : Hp → V → Prop} {σ : L2.St} {H0 : Hp} {ts : TA} (xs : List V) (g : ∀ (H : Hp) (Q : List V → Hp → Prop), Same H0 H → Q xs H → ts σ H Q) (hn : xs.length ≤ 100) (hp : ∀ H p, Same H0 H → H p = some (.tup xs) → P H (.ref p)) : EvE σ H0 P (tTup ts) := fun H Q s q =>
  g H _ s ⟨Nat.le_trans hn (by decide), fun p np => q _ _ (same_new np) (hp _ p (s.trans (same_new np)) upd_same)⟩
theorem evl {P : Hp → V → Prop} {σ : L2.St} {H0 : Hp} {ts : TA} (xs : List V) (g : ∀ (H : Hp) (Q : List V → Hp → Prop), Same H0 H → Q xs H → ts σ H Q) (hn : xs.length ≤ 100) (hp : ∀ H p, Same H0 H → H p = some (.lst xs) → P H (.ref p)) : EvE σ H0 P (tLst ts) := fun H Q s q =>
  g H _ s ⟨Nat.le_trans hn (by decide), fun p np => q _ _ (same_new np) (hp _ p (s.trans (same_new np)) upd_same)⟩
/-- displays, beside some addresses -/
theorem evth {P : Hp → V → Prop} {X : List Addr} {σ : L2.St} {H0 : Hp} {ts : TA} (os : Occ X H0) (xs : List V) (g : ∀ (H : Hp) (Q : List V → Hp → Prop), Same H0 H → Q xs H → ts σ H Q) (hn : xs.length ≤ 100) (hp : ∀ H p, Same H0 H → (hid X H) p = some (.tup xs) → P H (.ref p)) : EvE σ H0 P (tTup ts) := fun H Q s q =>
  g H _ s ⟨Nat.le_trans hn (by decide), fun p np => q _ _ (same_new np) (hp _ p (s.trans (same_new np)) (by rw [hid_ne ((os.same s).new np), upd_same]))⟩
theorem evlh {P : Hp → V → Prop} {X : List Addr} {σ : L2.St} {H0 : Hp} {ts : TA} (os : Occ X H0) (xs : List V) (g : ∀ (H : Hp) (Q : List V → Hp → Prop), Same H0 H → Q xs H → ts σ H Q) (hn : xs.length ≤ 100) (hp : ∀ H p, Same H0 H → (hid X H) p = some (.lst xs) → P H (.ref p)) : EvE σ H0 P (tLst ts) := fun H Q s q =>
  g H _ s ⟨Nat.le_trans hn (by decide), fun p np => q _ _ (same_new np) (hp _ p (s.trans (same_new np)) (by rw [hid_ne ((os.same s).new np), upd_same]))⟩
theorem hid_one {s : Addr} {H : Hp} : hid [s] H = wo H s := by
  funext b
  unfold hid wo
  by_cases e : b = s
  · simp [e]
  · simp [e]
end CC
/-! ### repr of any value: data, {}, instances of which repr tells (PR), tuples of all these, a list of these -/
namespace CC
open PySem PySem.Spec PySem.Calls PySem.W PyProof.Rows L2 TL
open Builtin Builtin.List
inductive RTr where
  | pur (d : PyData)
  | obj (t : Str)
  | tup (ts : List RTr)
mutual
def RTr.text : RTr → Str
  | .pur d => d.shown
  | .obj t => t
  | .tup ts => tupleText (RTr.texts ts)
def RTr.texts : List RTr → List Str
  | [] => []
  | t :: ts => RTr.text t :: RTr.texts ts
end
mutual
def RTr.dep : RTr → Nat
  | .pur d => d.depth
  | .obj _ => 0
  | .tup ts => RTr.deps ts + 1
def RTr.deps : List RTr → Nat
  | [] => 0
  | t :: ts => max (RTr.dep t) (RTr.deps ts)
end
/-- instances, and what repr tells of them -/
structure PrOk (PR : Hp → Addr → Str → Prop) : Prop where
  same : ∀ {H H' : Hp} {x : Addr} {t : Str}, PR H x t → Same H H' → PR H' x t
  ins : ∀ {H : Hp} {x : Addr} {t : Str}, PR H x t → ∃ D dx fs, H x = some (.ins D dx fs)
structure PrRp (P : Program) (w : World) (K : PySem.W.Frag) (mg : Str → Option Value) (base : Heap) (PR : Hp → Addr → Str → Prop) : Prop where
  ok : PrOk PR
  rp : ∀ {H : Hp} {x : Addr} {t : Str}, PR H x t → ∃ (D g0 dx : Addr) (fs : List (Str × V)) (sp : Sp), PySem.W.findIn K (.ref D) "__repr__" = some (some (.ref g0)) ∧ PySem.W.isFn K (.ref g0) = true ∧ (∀ k, 1 ≤ k → FnR P w K mg base CX0 k g0 sp) ∧ H x = some (.ins D dx fs) ∧ ∀ Q : VK, Q (.str t) H → sp [.ref x] H Q (fun _ _ _ => False)
inductive Rg (K : PySem.W.Frag) (PR : Hp → Addr → Str → Prop) (H : Hp) : V → RTr → Prop where
  | dp {v : V} {d : PyData} (h : Dp K H v d) (s : d.showable = true) (n : d.hasDict = false) : Rg K PR H v (.pur d)
  | dic {a : Addr} (h : H a = some (.dK [])) : Rg K PR H (.ref a) (.pur (.dict []))
  | ins {x : Addr} {t : Str} (h : PR H x t) : Rg K PR H (.ref x) (.obj t)
  | tup {a : Addr} {xs : List V} {ts : List RTr} (h : SqT K H a xs) (hl : xs.length = ts.length) (hs : ∀ (i : Nat) x t, xs[i]? = some x → ts[i]? = some t → Rg K PR H x t) : Rg K PR H (.ref a) (.tup ts)
theorem Rg.same {K : PySem.W.Frag} {PR : Hp → Addr → Str → Prop} (po : PrOk PR) {H H' : Hp} {v : V} {t : RTr} (h : Rg K PR H v t) (e : Same H H') : Rg K PR H' v t := by
  induction h with
  | dp h s n => exact .dp (dp_same e _ _ h) s n
  | dic h => exact .dic (e _ _ h)
  | ins h => exact .ins (po.same h e)
  | tup h hl hs ih => exact .tup (same_t e h) hl ih
section
variable {X : Cx} {pins : List (Addr × Obj)} {σ : L2.St} {H : Hp} {s : Shared} {PR : Hp → Addr → Str → Prop} {v : V} {u : Value} {T S : RTr} {d : PyData} {as : List Addr}
theorem relv_ex : ∀ v : V, ∃ u, RelV v u
  | .non => ⟨_, rfl⟩
  | .bl _ => ⟨_, rfl⟩
  | .int _ => ⟨.int _ 0, 0, rfl⟩
  | .str _ => ⟨.str _ 0, 0, rfl⟩
  | .byt _ => ⟨.bytes _ 0, 0, rfl⟩
  | .flt _ => ⟨.float _ 0, 0, rfl⟩
  | .ref _ => ⟨_, rfl⟩
  | .ty _ => ⟨_, rfl⟩
theorem reads_dic {a : Addr} (I : Inv X pins σ H s) (ha : H a = some (.dK [])) : ∃ as, Reads s.heap (.ref a) (.dict []) as ∧ sysModules ∉ as := by
  obtain ⟨_, ne, vs, kv, o, es, ep, e, ed, hd, _, ps, _⟩ := dk_of I.hok ha
  cases kv
  have e0 : es.toList = [] := by
    cases hh : es.toList with
    | nil => rfl
    | cons x l =>
      rw [hh] at ps
      cases ps
  have e1 : es = #[] := by
    cases es
    simpa using e0
  subst e1
  refine ⟨[a] ++ [] ++ [], .dict e ed.1 hd .nil .nil, fun hm => ?_⟩
  simp only [List.append_nil, List.mem_singleton] at hm
  subst hm
  simp at ne
theorem reads_ins {x dx D : Addr} {fs : List (Str × V)} (I : Inv X pins σ H s) (hx : H x = some (.ins D dx fs)) (r : Reads s.heap (.ref x) d as) : False := by
  obtain ⟨mA, J, _⟩ := ins_get I.hok hx
  have e := J.obj
  cases r with
  | list h1 h2 _ _ => rw [e] at h1; cases h1; exact nomatch h2
  | tuple h1 h2 _ _ => rw [e] at h1; cases h1; exact nomatch h2
  | dict h1 h2 _ _ _ => rw [e] at h1; cases h1; exact nomatch h2
theorem tup_ins {x dx D : Addr} {fs : List (Str × V)} {xs : List V} (I : Inv X pins σ H s) (hx : H x = some (.ins D dx fs)) (h : SqT X.K H x xs) : False := by
  obtain ⟨mA, J, _⟩ := ins_get I.hok hx
  obtain ⟨its, _, ⟨o, e, hc, _⟩, _⟩ := I.tuple h
  rw [J.obj] at e
  cases e
  exact nomatch hc
theorem deps_reads {h₀ : Heap} : ∀ {xs : List V} {ts : List RTr} {its : List Value} {ds : List PyData} {as : List Addr}, Vals xs its → xs.length = ts.length →
    (∀ (i : Nat) x t, xs[i]? = some x → ts[i]? = some t → ∀ u d as, RelV x u → Reads h₀ u d as → d.depth = t.dep) → ReadsAll h₀ its ds as → PyData.depthAll ds = RTr.deps ts
  | [], [], _, _, _, .nil, _, _, .nil => by simp only [PyData.depthAll, RTr.deps]
  | x :: xs, t :: ts, _, _, _, .cons r rs, hl, h, .cons q qs => by
    simp only [PyData.depthAll, RTr.deps]
    rw [h 0 x t rfl rfl _ _ _ r q, deps_reads rs (by simpa using hl) (fun i y z h1 h2 => h (i + 1) y z (by simpa using h1) (by simpa using h2)) qs]
/-- what can be read as data has the tree's depth -/
theorem rv_depth (po : PrOk PR) (I : Inv X pins σ H s) (h : Rg X.K PR H v T) : ∀ u d as, RelV v u → Reads s.heap u d as → d.depth = T.dep := by
  induction h with
  | dp h _ _ =>
    intro u d as r q
    obtain ⟨bs, q2⟩ := Dp.reads I _ _ u h r
    rw [(PyProof.Rows.reads_det (fun _ _ e _ => e) q q2).1]
    simp only [RTr.dep]
  | dic h =>
    intro u d as r q
    cases r
    obtain ⟨bs, q2, _⟩ := reads_dic I h
    rw [(PyProof.Rows.reads_det (fun _ _ e _ => e) q q2).1]
    simp only [RTr.dep]
  | ins h =>
    intro u d as r q
    cases r
    obtain ⟨_, _, _, e⟩ := po.ins h
    exact (reads_ins I e q).elim
  | tup h hl hs ih =>
    intro u d as r q
    cases r
    obtain ⟨its, rv, ⟨o, e, hc, n, hd⟩, _⟩ := I.tuple h
    cases q with
    | list h1 h2 _ _ =>
      rw [e] at h1
      cases h1
      rw [hc] at h2
      exact nomatch h2
    | dict h1 h2 _ _ _ =>
      rw [e] at h1
      cases h1
      rw [hc] at h2
      exact nomatch h2
    | tuple h1 h2 h3 h4 =>
      rw [e] at h1
      cases h1
      rw [hd] at h3
      cases h3
      simp only [PyData.depth, RTr.dep]
      rw [deps_reads rv hl ih (by simpa using h4)]
theorem deps_eq : ∀ {ts ss : List RTr}, ts.length = ss.length → (∀ (i : Nat) (t s : RTr), ts[i]? = some t → ss[i]? = some s → t.dep = s.dep) → RTr.deps ts = RTr.deps ss
  | [], [], _, _ => rfl
  | t :: ts, s :: ss, hl, h => by
    simp only [RTr.deps]
    rw [h 0 t s rfl rfl, deps_eq (by simpa using hl) fun i a b h1 h2 => h (i + 1) a b (by simpa using h1) (by simpa using h2)]
theorem pur_reads (I : Inv X pins σ H s) (h : Rg X.K PR H v (.pur d)) (r : RelV v u) : ∃ as, Reads s.heap u d as ∧ d.showable = true ∧ (d.hasDict = true → sysModules ∉ as) := by
  cases h with
  | dp h q n =>
    obtain ⟨as, rd⟩ := Dp.reads I _ _ u h r
    exact ⟨as, rd, q, PyData.noDict_hsm n⟩
  | dic h =>
    cases r
    obtain ⟨as, rd, n⟩ := reads_dic I h
    exact ⟨as, rd, rfl, fun _ => n⟩
/-- two trees of a value have one depth -/
theorem rv_dep (po : PrOk PR) (I : Inv X pins σ H s) (h : Rg X.K PR H v T) : ∀ S, Rg X.K PR H v S → T.dep = S.dep := by
  have pure_ : ∀ {v d} {S : RTr}, Rg X.K PR H v (.pur d) → Rg X.K PR H v S → d.depth = S.dep := fun {v d S} h1 h2 => by
    obtain ⟨u, r⟩ := relv_ex v
    obtain ⟨as, q, _⟩ := pur_reads I h1 r
    exact rv_depth po I h2 u d as r q
  have ins_ : ∀ {x dx D : Addr} {fs : List (Str × V)} {S : RTr}, H x = some (.ins D dx fs) → Rg X.K PR H (.ref x) S → S.dep = 0 := fun {x dx D fs S} e h2 => by
    cases h2 with
    | dp h s n =>
      obtain ⟨as, q⟩ := Dp.reads I _ _ _ h (rfl : RelV (.ref x) (.ref x))
      exact (reads_ins I e q).elim
    | dic h => rw [e] at h; cases h
    | ins _ => simp only [RTr.dep]
    | tup h _ _ => exact (tup_ins I e h).elim
  induction h with
  | dp h q n =>
    intro S h2
    rw [← pure_ (.dp h q n) h2]
    simp only [RTr.dep]
  | dic h =>
    intro S h2
    rw [← pure_ (.dic h) h2]
    simp only [RTr.dep]
  | ins h =>
    intro S h2
    obtain ⟨_, _, _, e⟩ := po.ins h
    rw [ins_ e h2]
    simp only [RTr.dep]
  | tup h hl hs ih =>
    intro S h2
    cases h2 with
    | dp h3 q n => exact (pure_ (.dp h3 q n) (.tup h hl hs)).symm.trans (by simp only [RTr.dep])
    | dic h3 => exact (pure_ (.dic h3) (.tup h hl hs)).symm.trans (by simp only [RTr.dep])
    | ins h3 =>
      obtain ⟨_, _, _, e⟩ := po.ins h3
      exact (tup_ins I e h).elim
    | tup h3 hl3 hs3 =>
      have e := I.tuple_inj h h3
      subst e
      simp only [RTr.dep]
      rw [deps_eq (hl.symm.trans hl3) fun i t s h1 h2 => ?_]
      have : i < _ := (List.getElem?_eq_some_iff.mp h1).1
      rw [← hl] at this
      exact ih i _ t (List.getElem?_eq_getElem this) h1 s (hs3 i _ s (List.getElem?_eq_getElem this) h2)
end
theorem undr_depth {A : Around} {args : Args} : (A.under (.builtin "tuple.__repr__.under" args)).depth ≤ A.depth + 1 := by
  first | exact Nat.le_refl _ | simp [Around.under, Code.weight, Code.isCreation, Code.isGuard, Code.isCaller, Code.frames, Code.isFrame, guardIds]
theorem undr_frames {A : Around} {args : Args} : (A.under (.builtin "tuple.__repr__.under" args)).frames = A.frames := by
  first | rfl | simp [Around.under]
theorem tupr_frames {A : Around} {args : Args} : (A.under (.builtin "tuple.__repr__" args)).frames = A.frames := by
  first | rfl | simp [Around.under]
/-- none of the calls around is about a value of such a depth -/
structure ClrP (X : Cx) (pins : List (Addr × Obj)) (σ : L2.St) (H : Hp) (PR : Hp → Addr → Str → Prop) (g : List Code) (n : Nat) : Prop where
  rd : ∀ s, Inv X pins σ H s → ∀ b d as, Reads s.heap (.ref b) d as → d.depth ≤ n → Clear g b
  rv : ∀ b S, Rg X.K PR H (.ref b) S → S.dep ≤ n → Clear g b
def RpJ (X : Cx) (pins : List (Addr × Obj)) (σ : L2.St) (H : Hp) (PR : Hp → Addr → Str → Prop) (n : Nat) (x : Value) (t : Str) : Prop :=
  ∀ (base : Nat), base + t.length ≤ sizeLine → ∀ (A : Around) (g : List Code) (s : Shared) (Q : Str → Shared → Prop), A.guards = some g → A.frames = some X.stack → Room (n + 2) A → ClrP X pins σ H PR g n → Inv X pins σ H s →
    (∀ s', Inv X pins σ H s' → Q t s') → wpAny (model X.prog X.w) A (pyReprUnder base x) Q X.xe s
inductive RpAll (X : Cx) (pins : List (Addr × Obj)) (σ : L2.St) (H : Hp) (PR : Hp → Addr → Str → Prop) (n : Nat) : List Value → List Str → Prop
  | nil : RpAll X pins σ H PR n [] []
  | cons {x : Value} {t : Str} {l : List Value} {ts : List Str} : RpJ X pins σ H PR n x t → RpAll X pins σ H PR n l ts → RpAll X pins σ H PR n (x :: l) (t :: ts)
theorem RpAll.length_eq {X : Cx} {pins : List (Addr × Obj)} {σ : L2.St} {H : Hp} {PR : Hp → Addr → Str → Prop} {n : Nat} : ∀ {l : List Value} {ts : List Str}, RpAll X pins σ H PR n l ts → ts.length = l.length
  | _, _, .nil => rfl
  | _, _, .cons _ h => by simp [h.length_eq]
section
variable {X : Cx} {pins : List (Addr × Obj)} {σ : L2.St} {H : Hp} {PR : Hp → Addr → Str → Prop} {v : V} {u : Value} {T S : RTr} {d : PyData} {n k : Nat}
theorem env0_to {P : Program} {w : World} {K : PySem.W.Frag} {mg : Str → Option Value} {base : Heap} {A A' : Around} {outer : List Env} {s : Shared} {H : Hp} (e : Env0 P w K mg base A outer s H) (h : A'.frames = some outer) :
    Env0 P w K mg base A' outer s H := ⟨h, e.mod, e.bs, e.bsz, e.funs, e.frf, e.hok, e.bare⟩
theorem rpj_pur (h : Rg X.K PR H v (.pur d)) (r : RelV v u) (hn : d.depth ≤ n) : RpJ X pins σ H PR n u d.shown := by
  intro base hb A g s Q hg hf hr hc I q
  obtain ⟨as, rd, sh, sm⟩ := pur_reads I h r
  obtain ⟨bs, hbs, hk⟩ := ReprK.of_reads (prog := X.prog) (w := X.w) rd sh sm (by omega)
  have hu := hr.un
  exact hk base hb A g X.xe s Q hg (fun b hm => by
    obtain ⟨d', as', r', hd'⟩ := hbs b hm
    exact hc.rd s I b d' as' r' (by omega)) (by omega) (fun _ _ e => e) fun h' tk hk => q _ (I.kept hk)
theorem rpj_ins {D x dx g0 : Addr} {fs : List (Str × V)} {sp : Sp} {t : Str} (hs : PySem.W.findIn X.K (.ref D) "__repr__" = some (some (.ref g0))) (hf0 : PySem.W.isFn X.K (.ref g0) = true) (F : ∀ k, 1 ≤ k → FnR X.prog X.w X.K X.mg X.base CX0 k g0 sp) (hx : Passes CX0 X (fun _ _ _ => False))
    (ha : H x = some (.ins D dx fs)) (hsp : sp [.ref x] H (fun v H2 => v = .str t ∧ H2 = H) (fun _ _ _ => False)) : RpJ X pins σ H PR n (.ref x) t := by
  intro base hb A g s Q hg hf hr hc I q
  have hu := hr.un
  obtain ⟨mA, J, _⟩ := ins_get I.hok ha
  obtain ⟨od, J, _⟩ := J.look
  obtain ⟨m, hF⟩ := I.fr
  refine RPI.under_own (by omega) (by omega) hF I.ok.mod.kin J hs hf0 ?_
  refine wpAny_mono (wpAny_call (SlX.run_at (us := [.ref x]) (ws := [.ref x]) (F (n + 2) (by omega)) hr (env0_to I.env0 hf) hx I (.cons rfl .nil) hsp)) (fun w s' z => ?_) fun _ _ x => x
  obtain ⟨_, H2, I2, rz, rfl, eH⟩ := z
  rw [eH] at I2
  obtain ⟨tk, rfl⟩ := (show ∃ tk, w = Value.str t tk from rz)
  exact ⟨t, tk, rfl, q _ I2⟩
theorem wpAny_tupFoldJ {A : Around} {g : List Code} (hg : A.guards = some g) (hf : A.frames = some X.stack) (hr : Room (n + 2) A) (hc : ClrP X pins σ H PR g n) : ∀ (l : List Value) (ts : List Str) (acc : Array Str) (m : Nat) (s : Shared) (Q : (Array Str × Nat) → Shared → Prop), RpAll X pins σ H PR n l ts → m + piled ts ≤ sizeLine →
    Inv X pins σ H s → (∀ s', Inv X pins σ H s' → Q ⟨acc ++ ts.toArray, m + piled ts⟩ s') →
    wpAny (model X.prog X.w) A (forIn l (⟨acc, m⟩ : (Array Str × Nat)) tupBody) Q X.xe s := by
  intro l
  induction l with
  | nil =>
    intro ts acc m s Q hT _ I h
    cases hT
    have h0 := h s I
    simp only [List.forIn_nil]
    exact wpAny_pure (by simpa [piled] using h0)
  | cons x l ih =>
    intro ts acc m s Q hT hn I h
    cases hT with
    | cons hx hl =>
      rename_i t ts'
      rw [piled_cons] at hn
      rw [List.forIn_cons]
      refine wpAny_bind (wpAny_bind (hx (m + 1) (by omega) _ _ _ _ hg hf hr hc I fun s' I' => wpAny_pure ?_))
      refine ih ts' (acc.push t) (m + (t.length + 2)) _ Q hl (by omega) I' fun s'' I2 => ?_
      have h1 := h s'' I2
      have e : m + piled (t :: ts') = m + (t.length + 2) + piled ts' := by rw [piled_cons]; omega
      rw [e] at h1
      simpa using h1
theorem wpOwn_tupJ (po : PrOk PR) {a : Addr} {ts : List Str} {T : RTr} (hv : Rg X.K PR H (.ref a) T) (hd1 : T.dep = n + 1) {xs : List V} (hq : SqT X.K H a xs) {s : Shared} (I : Inv X pins σ H s) (hT : ∀ its, Vals xs its → RpAll X pins σ H PR n its ts)
    {A : Around} {g : List Code} {R : Result → Shared → Prop} {base : Nat} {id : String} {rest : List Value}
    (hcg : (Code.builtin id ⟨.ref a :: rest, []⟩).isGuard = true) (hfr : (A.under (.builtin id ⟨.ref a :: rest, []⟩)).frames = A.frames) (hrm : Room (n + 2) (A.under (.builtin id ⟨.ref a :: rest, []⟩)))
    (hg : A.guards = some g) (hf : A.frames = some X.stack) (hc : ClrP X pins σ H PR g (n + 1))
    (hR : ∀ u s', Inv X pins σ H s' → R (.ok (.ret (.str (tupleText ts) u))) s') (hE : ∀ e s', X.xe e s' → R (.error e) s')
    (hsz : base + (tupleText ts).length ≤ sizeLine) :
    wpOwn (model X.prog X.w) A (.builtin id ⟨.ref a :: rest, []⟩) (Builtin.tupleReprAt base ⟨[.ref a], []⟩) (fun fin s' => match fin with | .done f => R (.ok f) s' | .again c' => c'.quiet = true ∧ codeAny (model X.prog X.w) A c' R s') (fun e s' => R (.error e) s') s := by
  obtain ⟨its, rv, ⟨o, ha, hcl, nn, hd⟩, _⟩ := I.tuple hq
  have hT := hT its rv
  have hca : Clear g a := hc.rv a T hv (by omega)
  have hlen : ts.length = its.toArray.size := by simpa using hT.length_eq
  have hp := piled_le_tupleText ts
  have hsz0 : (tupleText ts).length ≤ sizeLine := by omega
  rw [tuple_repr_tree, tupleReprUnderWay_eq]
  refine wpOwn_bind (wpOwn_stackTailAny hg (tupGuardF_off _) (tupGuardF_pos _) ?_)
  have hn : (g.any fun c => tupGuardF (.ref a) (c, default)) = false := by
    rw [List.any_eq_false]
    intro c hcm
    rw [tupGuardF_of_clear hca c hcm]
    exact Bool.false_ne_true
  rw [hn]
  refine wpOwn_of_wpAny ?_
  show wpAny _ _ (tupleReprRest base (.ref a)) _ _ s
  unfold tupleReprRest Builtin.Tuple.tupleItemsOf
  refine wpAny_bind (wpAny_bind (wpAny_seqItems ha hd (wpAny_pure ?_)))
  rw [← Array.forIn_toList]
  have clr : ClrP X pins σ H PR (.builtin id ⟨.ref a :: rest, []⟩ :: g) n := ⟨fun s' I' b d as r hd' => (hc.rd s' I' b d as r (by omega)).cons (a := a) fun e => by
      subst e
      have := rv_depth po I' hv _ d as rfl r
      omega, fun b S hS hd' => (hc.rv b S hS (by omega)).cons (a := a) fun e => by
      subst e
      have := rv_dep po I hv S hS
      omega⟩
  refine wpAny_mono (wpAny_bind (wpAny_tupFoldJ (guards_under_guard hcg hg) (hfr.trans hf) hrm clr _ ts _ _ _ _ (by simpa using hT) (by omega) I fun s' I' => ?_)) (fun _ _ x => x) hE
  refine wpAny_bind (wpAny_mkStr (wpAny_pure ?_) (by simpa [tupleText, hlen] using hsz0))
  have h1 := hR s'.toks _ (I'.tok (s'.toks + 1))
  simpa [tupleText, hlen] using h1
theorem ClrP.mono {g : List Code} {m : Nat} (h : ClrP X pins σ H PR g n) (e : m ≤ n) : ClrP X pins σ H PR g m := ⟨fun s I b d as r hd => h.rd s I b d as r (Nat.le_trans hd e), fun b S r hd => h.rv b S r (Nat.le_trans hd e)⟩
theorem RpJ.mono {x : Value} {t : Str} {m : Nat} (h : RpJ X pins σ H PR m x t) (e : m ≤ n) : RpJ X pins σ H PR n x t := fun base hb A g s Q hg hf hr hc I q =>
  h base hb A g s Q hg hf (hr.mono (by omega)) (hc.mono e) I q
theorem room_undr {A : Around} (r : Room (k + 1) A) (args : Args) : Room k (A.under (.builtin "tuple.__repr__.under" args)) :=
  ⟨r.hd, by have := r.dp; have := @undr_depth A args; omega, by have := r.un; rw [units_under_tuple_repr_under]; omega⟩
theorem rpj_tup (po : PrOk PR) {a : Addr} {ts : List RTr} {xs : List V} (hv : Rg X.K PR H (.ref a) (.tup ts)) (hq : SqT X.K H a xs) (hT : ∀ its, Vals xs its → RpAll X pins σ H PR (RTr.deps ts) its (RTr.texts ts)) : RpJ X pins σ H PR (RTr.deps ts + 1) (.ref a) (tupleText (RTr.texts ts)) := by
  intro base hb A g s Q hg hf hr hc I q
  obtain ⟨its, rv, ⟨o, ha, hcl, nn, hd⟩, _⟩ := I.tuple hq
  have hu := hr.un
  refine wpAny_pyReprUnder_ref (by omega) ?_
  refine wpAny_pyReprObjUnder_twin (twin := "tuple.__repr__.under") ⟨o, ha, hcl⟩ PySem.F.slot_tuple_repr rfl (by omega) ?_
  refine call_twin_own (PySem.F.quiet_tuple_repr_under _) PySem.F.entry_tuple_repr_under PySem.F.check_tuple_repr_under ⟨o, ha, hcl⟩ PySem.F.slot_tuple_repr (PySem.F.args_tuple_repr_1 _) ?_
  exact wpOwn_tupJ po (R := callEnd _ X.xe) hv (by simp only [RTr.dep]) hq I hT (isGuard_tuple_repr_under _) undr_frames (room_undr hr _) hg hf hc (fun u s' I' => ⟨⟨_, _, rfl⟩, _, _, rfl, q s' I'⟩) (fun e s' h => h) hb
theorem rpall_of : ∀ {xs : List V} {ts : List RTr} {its : List Value}, Vals xs its → xs.length = ts.length → (∀ (i : Nat) x t, xs[i]? = some x → ts[i]? = some t → ∀ u n, RelV x u → t.dep ≤ n → RpJ X pins σ H PR n u t.text) → RTr.deps ts ≤ n → RpAll X pins σ H PR n its (RTr.texts ts)
  | [], [], _, .nil, _, _, _ => by
    simp only [RTr.texts]
    exact .nil
  | x :: xs, t :: ts, _, .cons r rs, hl, h, hn => by
    simp only [RTr.deps] at hn
    simp only [RTr.texts]
    exact .cons (h 0 x t rfl rfl _ _ r (by omega)) (rpall_of rs (by simpa using hl) (fun i y z h1 h2 => h (i + 1) y z (by simpa using h1) (by simpa using h2)) (by omega))
theorem rpj (pp : PrRp X.prog X.w X.K X.mg X.base PR) (hx : Passes CX0 X (fun _ _ _ => False)) (h : Rg X.K PR H v T) : ∀ u n, RelV v u → T.dep ≤ n → RpJ X pins σ H PR n u T.text := by
  induction h with
  | dp h q z =>
    intro u n r hn
    simp only [RTr.dep] at hn
    simp only [RTr.text]
    exact rpj_pur (.dp h q z) r hn
  | dic h =>
    intro u n r hn
    simp only [RTr.dep] at hn
    simp only [RTr.text]
    exact rpj_pur (.dic h) r hn
  | ins h =>
    intro u n r hn
    cases r
    obtain ⟨D, g0, dx, fs, sp, f1, f2, f3, h1, f4⟩ := pp.rp h
    simp only [RTr.text]
    exact rpj_ins f1 f2 f3 hx h1 (f4 _ ⟨rfl, rfl⟩)
  | tup h hl hs ih =>
    intro u n r hn
    cases r
    simp only [RTr.dep] at hn
    simp only [RTr.text]
    exact (rpj_tup pp.ok (.tup h hl hs) h fun its rv => rpall_of rv hl ih (Nat.le_refl _)).mono hn
end
def rReprDG : List V → Hp → VK → Prop := fun xs H Q => ∃ a, xs = [.ref a] ∧ H a = some (.dK []) ∧ Q (.str "{}") H
theorem call_reprDG {X : Cx} (calm : X.A.guards = some []) (hu : X.A.units + 66 < cLine) : CallR X (.builtin "repr") rReprDG := by
  intro pins s σ H xs us Q I r h
  obtain ⟨a, rfl, ha, q⟩ := h
  rw [Vals.ref1 r]
  obtain ⟨as, rd, nm⟩ := reads_dic I ha
  have dd : (PyData.dict []).depth ≤ 4 := by decide
  exact repr_of_reads' rd rfl (fun _ => nm) calm (by omega) (fun _ _ e => e) (fun h' u tk hk => ⟨.str _, H, I.kept hk, ⟨_, rfl⟩, q⟩)
def rReprG (K : PySem.W.Frag) (PR : Hp → Addr → Str → Prop) : List V → Hp → VK → Prop := fun xs H Q => ∃ v T, xs = [v] ∧ Rg K PR H v T ∧ T.dep ≤ 20 ∧ T.text.length ≤ sizeLine ∧ Q (.str T.text) H
/-- repr(x) of any of these -/
theorem call_reprG {X : Cx} {PR : Hp → Addr → Str → Prop} {k : Nat} (pp : PrRp X.prog X.w X.K X.mg X.base PR) (hr : Room (k + 24) X.A) (calm : X.A.guards = some []) (hx : Passes CX0 X (fun _ _ _ => False)) : CallR X (.builtin "repr") (rReprG X.K PR) := by
  intro pins s σ H xs us Q I r h
  obtain ⟨v, T, rfl, h, hd, hl, q⟩ := h
  have hu := hr.un
  cases h with
  | dp h q2 z =>
    simp only [RTr.dep] at hd
    simp only [RTr.text] at hl q
    exact GD.call_reprD calm (by omega) pins _ σ H _ us Q I r ⟨v, _, rfl, h, q2, z, by omega, hl, q⟩
  | dic h =>
    simp only [RTr.text] at hl q
    have e : (PyData.dict []).shown = "{}" := by decide +kernel
    rw [e] at q
    exact call_reprDG calm (by omega) pins _ σ H _ us Q I r ⟨_, rfl, h, q⟩
  | ins h =>
    simp only [RTr.text] at q
    obtain ⟨D, g0, dx, fs, sp, f1, f2, f3, h1, f4⟩ := pp.rp h
    exact OC.call_reprO f1 f2 (f3 (k + 23) (by omega)) hr hx pins _ σ H _ us Q I r ⟨_, dx, fs, rfl, h1, f4 _ ⟨_, rfl, q⟩⟩
  | @tup a xs ts h hl2 hs =>
    simp only [RTr.dep] at hd
    simp only [RTr.text] at hl q
    rw [Vals.ref1 r]
    obtain ⟨its, rv, ⟨o, ha, hcl, nn, hdd⟩, _⟩ := I.tuple h
    have hTy : s.TypeIs (.ref a) "tuple" := ⟨o, ha, hcl⟩
    refine call_repr_slot (by omega) hTy PySem.F.slot_tuple_repr ?_
    refine wpAny_call (codeAny_call_builtin_own (Code.quiet_builtin _ (by decide +kernel)) PySem.F.entry_tuple_repr (PySem.F.slot_tuple_repr.check _ _ _ _ _ _ _ _ hTy (PySem.F.args_tuple_repr_1 _) ?_))
    refine wpOwn_tupJ pp.ok (n := RTr.deps ts) (PR := PR) (g := []) (R := callEnd _ X.xe) (base := 0) (.tup h hl2 hs) (by simp only [RTr.dep]) h I (fun its rv => rpall_of rv hl2 (fun i x t h1 h2 u n r hn => rpj pp hx (hs i x t h1 h2) u n r hn) (Nat.le_refl _)) (isGuard_tuple_repr _) tupr_frames (RPI.room_tup (k := RTr.deps ts + 2) (Room.mono hr.in1 (by omega)) _) calm I.ok.frames ⟨fun s I b d as r hd => Clear.nil b, fun b S hS hd => Clear.nil b⟩ (fun u s' I' => ⟨_, _, rfl, .str _, H, I', ⟨_, rfl⟩, q⟩) (fun e s' h => h) (by omega)
/-! ### a list of these -/
theorem vals_strs : ∀ {ts : List Str} {us : List Value}, Vals (ts.map V.str) us → ∃ done : List (Str × Tok), us = strValues done ∧ done.map (·.1) = ts
  | [], _, .nil => ⟨[], rfl, rfl⟩
  | t :: ts, _, .cons ⟨tk, e⟩ rs => by
    subst e
    obtain ⟨d, rfl, rfl⟩ := vals_strs rs
    exact ⟨(t, tk) :: d, rfl, rfl⟩
theorem texts_len : ∀ ts : List RTr, (RTr.texts ts).length = ts.length
  | [] => rfl
  | t :: ts => by
    simp only [RTr.texts, List.length_cons]
    rw [texts_len ts]
theorem texts_at : ∀ {ts : List RTr} {i : Nat} {t : RTr}, ts[i]? = some t → (RTr.texts ts)[i]? = some t.text
  | [], _, _, h => by simp at h
  | t :: ts, 0, _, h => by
    cases h
    simp only [RTr.texts]
    rfl
  | t :: ts, i + 1, s, h => by
    simp only [RTr.texts]
    exact texts_at (ts := ts) (i := i) (by simpa using h)
theorem dep_le_deps : ∀ {ts : List RTr} {i : Nat} {t : RTr}, ts[i]? = some t → t.dep ≤ RTr.deps ts
  | [], _, _, h => by simp at h
  | t :: ts, 0, _, h => by
    cases h
    simp only [RTr.deps]
    omega
  | t :: ts, i + 1, s, h => by
    have := dep_le_deps (ts := ts) (i := i) (t := s) (by simpa using h)
    simp only [RTr.deps]
    omega
section
variable {X : Cx} {pins : List (Addr × Obj)} {σ : L2.St} {H : Hp} {s : Shared} {PR : Hp → Addr → Str → Prop} {l : Addr} {vs : List V} {ts : List RTr}
theorem list_rd (po : PrOk PR) (I : Inv X pins σ H s) (hl : H l = some (.lst vs)) (hlen : vs.length = ts.length) (hs : ∀ (i : Nat) x t, vs[i]? = some x → ts[i]? = some t → Rg X.K PR H x t) : ∀ d as, Reads s.heap (.ref l) d as → d.depth = RTr.deps ts + 1 := by
  intro d as q
  obtain ⟨_, its, n, rv, rl, e⟩ := I.lstM hl
  cases q with
  | tuple h1 h2 _ _ =>
    rw [e] at h1
    cases h1
    exact absurd h2 (by simp)
  | dict h1 h2 _ _ _ =>
    rw [e] at h1
    cases h1
    exact absurd h2 (by simp)
  | list h1 h2 h3 h4 =>
    rw [e] at h1
    cases h1
    cases h3
    simp only [PyData.depth]
    rw [deps_reads rv hlen (fun i x t h1 h2 u d as r q => rv_depth po I (hs i x t h1 h2) u d as r q) (by simpa using h4)]
theorem list_rv (po : PrOk PR) (I : Inv X pins σ H s) (hl : H l = some (.lst vs)) (hlen : vs.length = ts.length) (hs : ∀ (i : Nat) x t, vs[i]? = some x → ts[i]? = some t → Rg X.K PR H x t) : ∀ S, Rg X.K PR H (.ref l) S → S.dep = RTr.deps ts + 1 := by
  intro S h
  cases h with
  | dp h _ _ =>
    obtain ⟨as, q⟩ := Dp.reads I _ _ _ h (rfl : RelV (.ref l) (.ref l))
    simp only [RTr.dep]
    exact list_rd po I hl hlen hs _ _ q
  | dic h => rw [hl] at h; cases h
  | ins h =>
    obtain ⟨_, _, _, e⟩ := po.ins h
    rw [hl] at e
    cases e
  | tup h _ _ =>
    obtain ⟨its, _, ⟨o, e, hc, _⟩, _⟩ := I.tuple h
    obtain ⟨_, its2, n, rv, rl, e2⟩ := I.lstM hl
    rw [e2] at e
    cases e
    exact absurd hc (by simp)
/-- the turns of repr over a list -/
theorem list_turns (pp : PrRp X.prog X.w X.K X.mg X.base PR) (hx : Passes CX0 X (fun _ _ _ => False)) {P : Addr} {n : Nat} (hP : H P = none) (hl : H l = some (.lst vs)) (hlen : vs.length = ts.length) (hs : ∀ (i : Nat) x t, vs[i]? = some x → ts[i]? = some t → Rg X.K PR H x t) (hn : RTr.deps ts ≤ n)
    {A : Around} (hg : A.guards = some []) (hf : A.frames = some X.stack) (hr : Room (n + 3) A) (hu : A.units + 2 < cLine) {R : Result → Shared → Prop} (hsz : (listText (RTr.texts ts)).length ≤ sizeLine)
    (hR : ∀ u s' H', Same H H' → Inv X pins σ H' s' → R (.ok (.ret (.str (listText (RTr.texts ts)) u))) s') (hE : ∀ e s', X.xe e s' → R (.error e) s') :
    ∀ (k i : Nat) (s : Shared), vs.length - i = k → i ≤ vs.length → Inv X pins σ (upd H P (.lst (((RTr.texts ts).take i).map V.str))) s →
      codeAny (model X.prog X.w) A (.builtin "list.__repr__.loop" ⟨[.ref l, rawInt i, .ref P, rawInt ((0 + piled ((RTr.texts ts).take i) : Nat) : Int)], []⟩) R s := by
  have tl := texts_len ts
  have big := piled_le_listText (RTr.texts ts)
  have one : ∀ t ∈ RTr.texts ts, t.length ≤ sizeLine := fun t ht => by
    have := (textFrom_len (RTr.texts ts) 0 "[").2.1 t ht
    have e : (listText (RTr.texts ts)).length = (textFrom 0 "[" (RTr.texts ts)).length + 1 := by
      show (textFrom 0 "[" (RTr.texts ts) ++ "]").length = _
      rw [strLen_append]; rfl
    omega
  have cnt : ts.length ≤ sizeLine := by
    have h1 := (textFrom_len (RTr.texts ts) 0 "[").1
    rw [if_neg (Nat.lt_irrefl 0)] at h1
    have e : (listText (RTr.texts ts)).length = (textFrom 0 "[" (RTr.texts ts)).length + 1 := by
      show (textFrom 0 "[" (RTr.texts ts) ++ "]").length = _
      rw [strLen_append]; rfl
    omega
  have lP : l ≠ P := ne_of_none hl hP
  intro k
  induction k with
  | zero =>
    intro i s hk hi I
    have hin : i = vs.length := by omega
    obtain ⟨_, its, nn, rv, rl, e⟩ := I.lstM (show (upd H P _) l = _ by rw [upd_ne lP]; exact hl)
    obtain ⟨_, its2, nn2, rv2, rl2, e2⟩ := I.lstM (upd_same (a := P))
    obtain ⟨done, rfl, hdone⟩ := vals_strs rv2
    refine codeAny_builtin PySem.F.entry_list_repr_loop ?_
    show wpAny _ _ («list.__repr__.loop» ⟨[.ref l, .int i 0, .ref P, .int ((0 + piled ((RTr.texts ts).take i) : Nat) : Int) 0], []⟩) _ _ _
    rw [repr_loop_tree]
    refine wpAny_bind (wpAny_listItems e rfl ?_)
    have hnone : its.toArray[(i : Int).toNat]? = none := by
      have := rv.length
      simp [hin, this]
    simp only [hnone]
    unfold reprEnd
    refine wpAny_bind (wpAny_listItems e2 rfl ?_)
    rw [repr_fold]
    refine wpAny_bind (wpAny_pure ?_)
    have hall : done.map (·.1) = RTr.texts ts := by rw [hdone, hin, hlen, ← tl, List.take_length]
    rw [hall]
    refine wpAny_bind (wpAny_mkStr (wpAny_pure ?_) hsz)
    exact hR _ _ _ (same_new hP) (I.tok _)
  | succ k ih =>
    intro i s hk hi I
    have hlt : i < vs.length := by omega
    obtain ⟨v, hv⟩ : ∃ v, vs[i]? = some v := ⟨_, List.getElem?_eq_getElem hlt⟩
    obtain ⟨t, ht⟩ : ∃ t, ts[i]? = some t := ⟨_, List.getElem?_eq_getElem (by omega)⟩
    have htx := texts_at ht
    have sP : Same H (upd H P (.lst (((RTr.texts ts).take i).map V.str))) := same_new hP
    have hl' : (upd H P (.lst (((RTr.texts ts).take i).map V.str))) l = some (.lst vs) := by rw [upd_ne lP]; exact hl
    have hs' : ∀ (i' : Nat) x t, vs[i']? = some x → ts[i']? = some t → Rg X.K PR (upd H P (.lst (((RTr.texts ts).take i).map V.str))) x t := fun i' x t h1 h2 => (hs i' x t h1 h2).same pp.ok sP
    have hp1 := piled_take_succ htx
    have hp2 := piled_take_le (RTr.texts ts) (i + 1)
    obtain ⟨_, its, nn, rv, rl, e⟩ := I.lstM hl'
    obtain ⟨u, hu1, hu2⟩ := rv.get hv
    refine codeAny_builtin PySem.F.entry_list_repr_loop ?_
    show wpAny _ _ («list.__repr__.loop» ⟨[.ref l, .int i 0, .ref P, .int ((0 + piled ((RTr.texts ts).take i) : Nat) : Int) 0], []⟩) _ _ _
    rw [repr_loop_tree]
    refine wpAny_bind (wpAny_listItems e rfl ?_)
    have hsome : its.toArray[(i : Int).toNat]? = some u := by simpa using hu1
    simp only [hsome]
    rw [Int.toNat_natCast]
    have I0 := I
    generalize hHi : upd H P (.lst (((RTr.texts ts).take i).map V.str)) = Hi at I hl' hs' sP
    have rp := rpj (pins := pins) (σ := σ) pp hx (hs' i v t hv ht) u n hu2 (Nat.le_trans (dep_le_deps ht) hn)
    have clr : ClrP X pins σ Hi PR (.builtin "list.__repr__.loop" ⟨[.ref l, rawInt i, .ref P, rawInt ((0 + piled ((RTr.texts ts).take i) : Nat) : Int)], []⟩ :: []) (RTr.deps ts) :=
      ⟨fun s I b d as r hd => (Clear.nil b).cons fun e => by
        subst e
        have := list_rd pp.ok I hl' hlen hs' d as r
        omega, fun b S hS hd => (Clear.nil b).cons fun e => by
        subst e
        have := list_rv pp.ok I hl' hlen hs' S hS
        omega⟩
    have rp2 := rpj (pins := pins) (σ := σ) pp hx (hs' i v t hv ht) u (RTr.deps ts) hu2 (dep_le_deps ht)
    refine wpAny_bind (wpAny_holding (wpAny_mono (rp2 (0 + piled ((RTr.texts ts).take i) + 1) (by omega) _ _ _ _ (guards_under_guard (isGuard_list_loop _) hg) (by first | exact hf | simpa [Around.under] using hf) ((RPI.room_loop (k := n + 2) hr _).mono (by omega)) clr I fun s' I' => ?_) (fun _ _ x => x) hE))
    refine wpAny_bind (wpAny_mkStr ?_ (one _ (List.mem_of_getElem? htx)))
    refine wpAny_bind ?_
    show wpAny _ _ (updateSeq P _) _ _ _
    have I2 := I'.tok (s'.toks + 1)
    subst hHi
    obtain ⟨_, its2, nn2, rv2, rl2, e2⟩ := I2.lstM (upd_same (a := P))
    have il : (((RTr.texts ts).take i).map V.str).length ≤ i := by
      rw [List.length_map, List.length_take]
      omega
    have a2 := rv2.length
    refine wpAny_updateSeq e2 rfl (wpAny_pure ⟨PySem.F.quiet_list_repr_loop _, ?_⟩) (by show its2.toArray.size ≤ sizeLine; simp; omega)
    have I3 := I2.lset (t' := s'.toks + 1) (its' := its2 ++ [.str t.text s'.toks]) (ys := ((RTr.texts ts).take i).map V.str ++ [.str t.text]) upd_same e2 (f := (·.push (.str t.text s'.toks))) (by simp) (rv2.append (.cons (show RelV (.str t.text) (.str t.text s'.toks) from ⟨_, rfl⟩) .nil)) (by simp; omega)
    have e1 : ((i : Int) + 1) = ((i + 1 : Nat) : Int) := by omega
    have e3 : 0 + piled ((RTr.texts ts).take i) + (t.text.length + 2) = 0 + piled ((RTr.texts ts).take (i + 1)) := by omega
    rw [e1, e3]
    refine ih (i + 1) _ (by omega) hlt ?_
    have ek : upd (upd H P (.lst (((RTr.texts ts).take i).map V.str))) P (.lst (((RTr.texts ts).take i).map V.str ++ [.str t.text])) = upd H P (.lst (((RTr.texts ts).take (i + 1)).map V.str)) := by
      rw [List.take_add_one, htx]
      funext b
      by_cases hb : b = P
      · rw [hb, upd_same, upd_same]
        simp
      · rw [upd_ne hb, upd_ne hb, upd_ne hb]
    rw [ek] at I3
    exact I3
end
def rReprGL (K : PySem.W.Frag) (PR : Hp → Addr → Str → Prop) : List V → Hp → VK → Prop := fun xs H Q => ∃ (l : Addr) (vs : List V) (ts : List RTr), xs = [.ref l] ∧ H l = some (.lst vs) ∧ vs ≠ [] ∧ vs.length = ts.length ∧ (∀ (i : Nat) x t, vs[i]? = some x → ts[i]? = some t → Rg K PR H x t) ∧ RTr.deps ts ≤ 19 ∧ (listText (RTr.texts ts)).length ≤ sizeLine ∧ ∀ H', Same H H' → Q (.str (listText (RTr.texts ts))) H'
/-- repr(l), l a list of any of these -/
theorem call_reprGL {X : Cx} {PR : Hp → Addr → Str → Prop} {k : Nat} (pp : PrRp X.prog X.w X.K X.mg X.base PR) (hr : Room (k + 24) X.A) (calm : X.A.guards = some []) (hx : Passes CX0 X (fun _ _ _ => False)) : CallR X (.builtin "repr") (rReprGL X.K PR) := by
  intro pins s σ H xs us Q I r h
  obtain ⟨l, vs, ts, rfl, hl, hne, hlen, hs, hd, hsz, q⟩ := h
  rw [Vals.ref1 r]
  obtain ⟨_, its, n, rv, rl, e⟩ := I.lstM hl
  have hu := hr.un
  have hTy : s.TypeIs (.ref l) "list" := ⟨_, e, rfl⟩
  refine call_repr_slot (by omega) hTy PySem.F.slot_list_repr.toG ?_
  refine wpAny_call (codeAny_call_builtin PySem.F.slot_list_repr.plain PySem.F.entry_list_repr (PySem.F.slot_list_repr.check _ _ _ _ _ _ _ _ hTy (PySem.F.args_list_repr_1 _) ?_))
  obtain ⟨u0, its', rfl⟩ : ∃ u0 its', its = u0 :: its' := by
    cases vs with
    | nil => exact (hne rfl).elim
    | cons v vs =>
      cases rv
      exact ⟨_, _, rfl⟩
  refine wpAny_list_repr_head (b := 0) (x := u0) (l := its') calm (fun _ _ _ h => nomatch h) e rfl ?_
  refine wpAny_bind (m := newList []) (wpAny_newObj_type ?_)
  refine wpAny_pure ⟨PySem.F.quiet_list_repr_loop _, ?_⟩
  have I1 := I.lnew (t' := s.toks) (its := []) (ys := []) .nil (Nat.zero_le _)
  have nP : H s.heap.objs.size = none := I.fresh
  exact list_turns pp hx (n := 19) nP hl hlen hs hd (A := X.A.in1) calm I.ok.frames (Room.mono hr.in1 (by omega)) (by show X.A.units + 1 + 2 < _; omega) hsz (fun u s' H' hs I' => ⟨_, _, rfl, .str _, H', I', ⟨_, rfl⟩, q H' hs⟩) (fun e s' h => h) _ 0 _ rfl (Nat.zero_le _) (by simpa using I1)
end CC
/-! ### values near a row -/
namespace CC
open PySem L2 TL LamX
/-- tables, and what repr tells of them -/
def PRt (K : PySem.W.Frag) (C : Addr) : Hp → Addr → Str → Prop := fun H x t => ∃ (w : Nat) (rs : List (List Nat)), TableAt K C H x w rs ∧ w ≤ 6 ∧ rs.length ≤ 400 ∧ t = tTb w rs.length
theorem prt_ok {K : PySem.W.Frag} {C : Addr} : PrOk (PRt K C) :=
  ⟨fun ⟨w, rs, h, a, b, c⟩ e => ⟨w, rs, h.same e, a, b, c⟩, fun ⟨w, rs, h, _⟩ => by
    obtain ⟨dx, g, us, h1, _⟩ := h
    exact ⟨C, dx, _, h1⟩⟩
theorem prt_rp {P : Program} {w : World} {K : PySem.W.Frag} {mg : Str → Option Value} {base : Heap} {C : Addr} (RC : ReprC P w K mg base C (spTrp K C)) : PrRp P w K mg base (PRt K C) :=
  ⟨prt_ok, fun {H x t} ⟨m, rs, h, a, b, c⟩ => by
    obtain ⟨dx, g, us, h1, _⟩ := id h
    exact ⟨C, RC.f, dx, _, _, RC.hs, RC.hf, RC.ok, h1, fun Q q => ⟨x, m, rs, rfl, h, a, b, by rw [← c]; exact q⟩⟩⟩
section
theorem piled_le {m : Nat} : ∀ {ts : List Str}, (∀ t ∈ ts, t.length ≤ m) → piled ts ≤ ts.length * (m + 2)
  | [], _ => Nat.zero_le _
  | t :: ts, h => by
    have h1 := h t List.mem_cons_self
    have h2 := piled_le (ts := ts) fun x hx => h x (List.mem_cons_of_mem _ hx)
    rw [piled_cons, List.length_cons, Nat.add_mul]
    omega
theorem join_le {m : Nat} {ts : List Str} (h : ∀ t ∈ ts, t.length ≤ m) : (Str.join ", " ts).length ≤ ts.length * (m + 2) := by
  cases ts with
  | nil => exact Nat.zero_le _
  | cons t ts =>
    have := join_length_add (t :: ts) (by simp)
    have := piled_le h
    omega
theorem tupText_le {m : Nat} {ts : List Str} (h : ∀ t ∈ ts, t.length ≤ m) : (tupleText ts).length ≤ ts.length * (m + 2) + 3 := by
  have := join_le h
  unfold tupleText
  rw [Str.length_append, Str.length_append]
  have a : (("(" : String) : Str).length = 1 := rfl
  have b : ((if ts.length == 1 then ",)" else ")" : String) : Str).length ≤ 2 := by
    split
    · exact Nat.le_refl _
    · exact Nat.le_succ _
  omega
theorem lstText_le {m : Nat} {ts : List Str} (h : ∀ t ∈ ts, t.length ≤ m) : (listText ts).length ≤ ts.length * (m + 2) + 3 := by
  have := join_le h
  rw [listText_eq_join]
  rw [Str.length_append, Str.length_append]
  have a : (("[" : String) : Str).length = 1 := rfl
  have b : (("]" : String) : Str).length = 1 := rfl
  omega
theorem texts_mem {m : Nat} : ∀ {ts : List RTr}, (∀ t ∈ ts, t.text.length ≤ m) → ∀ s ∈ RTr.texts ts, s.length ≤ m
  | [], _, s, hs => by
    simp only [RTr.texts] at hs
    exact nomatch hs
  | t :: ts, h, s, hs => by
    simp only [RTr.texts, List.mem_cons] at hs
    rcases hs with rfl | hs
    · exact h t List.mem_cons_self
    · exact texts_mem (fun x hx => h x (List.mem_cons_of_mem _ hx)) s hs
theorem deps_le {d : Nat} : ∀ {ts : List RTr}, (∀ t ∈ ts, t.dep ≤ d) → RTr.deps ts ≤ d
  | [], _ => by simp only [RTr.deps, Nat.zero_le]
  | t :: ts, h => by
    simp only [RTr.deps]
    have := h t List.mem_cons_self
    have := deps_le (ts := ts) fun x hx => h x (List.mem_cons_of_mem _ hx)
    omega
end
/-- a part of a row, or none -/
def PwV (K : PySem.W.Frag) (C : Addr) (H : Hp) (v : V) : Prop := ∃ T : RTr, Rg K (PRt K C) H v T ∧ T.dep ≤ 3 ∧ T.text.length ≤ 10000 ∧ OddE K H v
/-- a row of the width, or none -/
def OwV (K : PySem.W.Frag) (C : Addr) (w : Nat) (H : Hp) (v : V) : Prop := ∃ (T : RTr) (o : Option (List Nat)), Rg K (PRt K C) H v T ∧ T.dep ≤ 4 ∧ T.text.length ≤ 100000 ∧ RwV K H w v o
section
variable {K : PySem.W.Frag} {C : Addr} {w : Nat} {H H' : Hp} {v x : V} {t : Addr} {T : RTr} {r : List Nat} {d : PyData}
theorem pwv_stb : Stb (PwV K C) := fun H H' v e ⟨T, h1, h2, h3, h4⟩ => ⟨T, h1.same prt_ok e, h2, h3, h4.ext (ExtN.of e)⟩
theorem owv_stb : Stb (OwV K C w) := fun H H' v e ⟨T, o, h1, h2, h3, h4⟩ => ⟨T, o, h1.same prt_ok e, h2, h3, h4.same e⟩
theorem sd_len {m n : Nat} (sd : GD.SD m n d) : d.shown.length ≤ 15 * m + 13 := by
  have := PySem.PyData.shown_le 13 (by decide) d sd.lvs
  have := sd.wt
  omega
theorem sd_row (ok : RowOk w r) (w6 : w ≤ 6) : GD.SD 126 1 (gd r) :=
  GD.SD.tuple (m := 20) (n := 0) (k := 6) (fun d hd => by
    obtain ⟨y, hy, rfl⟩ := List.mem_map.mp hd
    exact GD.SD.nat (by have := ok.2 y hy; omega)) (by rw [List.length_map]; have := ok.1; omega)
theorem pw_sd (dp : Dp K H v d) (sd : GD.SD 600 3 d) (o : OddE K H v) : PwV K C H v :=
  ⟨.pur d, .dp dp sd.shw sd.nodict, by simp only [RTr.dep]; exact sd.dep, by simp only [RTr.text]; exact Nat.le_trans (sd_len sd) (by decide), o⟩
theorem pw_nat {n : Nat} (h : n ≤ 9999) : PwV K C H (.int (n : Int)) := pw_sd (.int _) ((GD.SD.nat (by omega)).up (by decide) (by decide)) (.inr ⟨n, rfl, h⟩)
theorem pw_dic {a : Addr} (h : H a = some (.dK [])) : PwV K C H (.ref a) := ⟨.pur (.dict []), .dic h, by decide +kernel, by decide +kernel, .inl (.inl (.inr ⟨_, .base (.dK h), kit_ty (by decide +kernel)⟩))⟩
theorem pw_all (ok : ∀ n ∈ r, n ≤ 9999) : ∀ u ∈ nms r, PwV K C H u := fun u hu => by
  unfold nms at hu
  obtain ⟨y, hy, rfl⟩ := List.mem_map.mp hu
  exact pw_nat (ok y hy)
theorem ow_no (rg : Rg K (PRt K C) H v T) (dp : T.dep ≤ 4) (l : T.text.length ≤ 100000) (n : NoTupT K H v) : OwV K C w H v := ⟨T, none, rg, dp, l, .inl n⟩
theorem ow_sd (dp : Dp K H v d) (sd : GD.SD 600 3 d) (n : NoTupT K H v) : OwV K C w H v :=
  ow_no (T := .pur d) (.dp dp sd.shw sd.nodict) (by simp only [RTr.dep]; exact Nat.le_trans sd.dep (by decide)) (by simp only [RTr.text]; exact Nat.le_trans (sd_len sd) (by decide)) n
/-- trees of parts -/
theorem pw_trees : ∀ {us : List V}, (∀ u ∈ us, PwV K C H u) → ∃ ts : List RTr, us.length = ts.length ∧ (∀ (i : Nat) x t, us[i]? = some x → ts[i]? = some t → Rg K (PRt K C) H x t) ∧ ∀ t ∈ ts, t.dep ≤ 3 ∧ t.text.length ≤ 10000
  | [], _ => ⟨[], rfl, (fun i x t h => by simp at h), fun t h => nomatch h⟩
  | u :: us, h => by
    obtain ⟨T, h1, h2, h3, _⟩ := h u List.mem_cons_self
    obtain ⟨ts, e1, e2, e3⟩ := pw_trees (us := us) fun x hx => h x (List.mem_cons_of_mem _ hx)
    refine ⟨T :: ts, by rw [List.length_cons, List.length_cons, e1], fun i x t a b => ?_, fun t ht => ?_⟩
    · cases i with
      | zero =>
        cases a
        cases b
        exact h1
      | succ i => exact e2 i x t (by simpa using a) (by simpa using b)
    · rcases List.mem_cons.mp ht with rfl | ht
      · exact ⟨h2, h3⟩
      · exact e3 t ht
theorem nats_ex : ∀ {us : List V}, (∀ u ∈ us, ∃ n : Nat, u = .int (n : Int) ∧ n ≤ 9999) → ∃ r : List Nat, us = nms r ∧ ∀ n ∈ r, n ≤ 9999
  | [], _ => ⟨[], rfl, fun n h => nomatch h⟩
  | u :: us, h => by
    obtain ⟨n, rfl, hn⟩ := h u List.mem_cons_self
    obtain ⟨r, rfl, hr⟩ := nats_ex (us := us) fun x hx => h x (List.mem_cons_of_mem _ hx)
    exact ⟨n :: r, rfl, fun x hx => by
      rcases List.mem_cons.mp hx with rfl | hx
      · exact hn
      · exact hr x hx⟩
/-- a tuple of parts -/
theorem ow_tup {us : List V} (ht : SqT K H t us) (hl : us.length ≤ 7) (h : ∀ u ∈ us, PwV K C H u) : OwV K C w H (.ref t) := by
  classical
  obtain ⟨ts, e1, e2, e3⟩ := pw_trees h
  have rg : Rg K (PRt K C) H (.ref t) (.tup ts) := .tup ht e1 e2
  have hd : (RTr.tup ts).dep ≤ 4 := by
    simp only [RTr.dep]
    have := deps_le (d := 3) fun t ht => (e3 t ht).1
    omega
  have hx : (RTr.tup ts).text.length ≤ 100000 := by
    simp only [RTr.text]
    have := tupText_le (texts_mem (m := 10000) fun t ht => (e3 t ht).2)
    rw [texts_len] at this
    have : ts.length * (10000 + 2) ≤ 7 * (10000 + 2) := Nat.mul_le_mul_right _ (by omega)
    omega
  by_cases lw : us.length = w
  · by_cases bad : ∃ u ∈ us, ElB K H u
    · exact ⟨_, none, rg, hd, hx, .inr ⟨t, us, rfl, ht, .inr ⟨lw, fun u hu => (h u hu).choose_spec.2.2.2, bad⟩⟩⟩
    · obtain ⟨r, rfl, hr⟩ := nats_ex (us := us) fun u hu => by
        obtain ⟨_, _, _, _, o⟩ := h u hu
        rcases o with o | o
        · exact (bad ⟨u, hu, o⟩).elim
        · exact o
      exact ⟨_, some r, rg, hd, hx, dp_gd ht, by rw [← lw, nms_len], hr⟩
  · exact ⟨_, none, rg, hd, hx, .inr ⟨t, us, rfl, ht, .inl lw⟩⟩
end
end CC
/-! tuple * int, the int 1 among them (the same tuple) -/
namespace RP1
open PySem PySem.Spec PyProof.Rows L2
theorem tuple_mul1 (l : Addr) (items : Array Value) (n : Nat) (dd : Option Addr) (sl : Array (Option Value)) (u : Tok) :
    Meets (Builtin.«tuple.__mul__» ⟨[.ref l, .int 1 u], []⟩) (fun _ R s => s.heap.get? l = some { cls := .type "tuple", dict := dd, data := .seq items n, slots := sl } ∧ R (.ok (.ret (Value.ref l))) { s with toks := s.toks }) :=
  .of_wp fun prog w A R s h => by
    obtain ⟨hp, g, d, tk, os⟩ := s
    obtain ⟨hl, h⟩ := h
    have f1 := AutoSeq1.idx_int
    wp_walk using wpAny_loadPart' hl
    repeat (first
      | (refine wpAny_ite_false (decide_eq_false (by decide)) ?_; wp_walk using wpAny_loadPart' hl)
      | (refine wpAny_ite_true (by rw [Bool.or_eq_true]; exact .inr rfl) ?_; wp_walk using wpAny_loadPart' hl))
    exact ⟨_, rfl, h⟩
def rRepA (K : PySem.W.Frag) : R2 := fun x y H Q => ∃ l k xs, x = .ref l ∧ y = .int k ∧ SqT K H l xs ∧ xs ≠ [] ∧ 1 ≤ k ∧ k ≤ 1000 ∧ xs.length ≤ 1000 ∧ ∀ p H', Same H H' → SqT K H' p (List.replicate k.toNat xs).flatten → Q (.ref p) H'
theorem op_repA {X : Cx} : OpR X (binaryOp .Mult) (rRepA X.K) := by
  intro pins s σ H x y v u Q I rx ry h
  obtain ⟨l, k, xs, rfl, rfl, hT, hne, h1, h2, hz, q⟩ := h
  by_cases e : k = 1
  case neg => exact op_repT pins s σ H _ _ v u Q I rx ry ⟨l, k, xs, rfl, rfl, hT, hne, by omega, h2, hz, fun p np => q p _ (CC.same_new np) (.inl (.inl upd_same))⟩
  subst e
  cases rx
  obtain ⟨t, rfl⟩ := ry
  obtain ⟨its, r, ⟨⟨cls, dd, data, sl⟩, ho, hc, n, hd⟩, hs⟩ := I.tuple hT
  simp only at hc hd
  subst hc hd
  refine wpAny_binaryOp_repeat_ref (T := "tuple") (U := "int") (by decide) ⟨_, ho, rfl⟩ (fun s' => typeIs_int s' 1 t) noFill_tuple_mul F.fills_int_mul F.slot_int_rmul repeat_tuple F.slot_int_index.lookup
    (call_meets F.slot_int_rmul (typeIs_int s 1 t) F.entry_int_rmul (F.args_int_rmul_2 _ _) (int_rmul_tuple 1 t l its.toArray n dd sl)
      ⟨ho, rfl, ⟨_, ho, rfl⟩, call_meets F.slot_tuple_mul ⟨_, ho, rfl⟩ F.entry_tuple_mul (F.args_tuple_mul_2 _ _) (tuple_mul1 l its.toArray n dd sl t) ⟨ho, ?_⟩⟩)
  refine ⟨.ref l, H, I, rfl, q l H (Same.refl H) ?_⟩
  have e : (List.replicate (1 : Int).toNat xs).flatten = xs := by simp
  rw [e]
  exact hT
end RP1
/-! t[::-1], t a tuple -/
namespace HT
open PySem PySem.Spec PyProof.Rows
section
variable {prog : Program} {w : World} {A : Around} {E : Value → Shared → Prop} {s : Shared}
theorem places_rev (n : Nat) : Builtin.Slice.slicePlaces ((n : Int) - 1) (-1) (-1) = n := by
  unfold Builtin.Slice.slicePlaces
  have h1 : ¬ ((-1 : Int) > 0) := by omega
  simp only [h1, if_false]
  split
  · have : (-(-1 : Int)) = 1 := by decide
    rw [this, Int.ediv_one]
    omega
  · omega
theorem sliceApplied_rev {sl : Addr} {vl vu vs : Value} {n : Nat} {Q : Int × Int × Nat → Shared → Prop} (hs : s.heap.IsSliceOf sl vl vu vs) (pl : IsPart vl none) (pu : IsPart vu none) (ps : IsPart vs (some (-1)))
    (h : Q ((n : Int) - 1, -1, n) s) : wpAny (model prog w) A (Builtin.Slice.sliceApplied (.ref sl) (pure (n : Int))) Q E s := by
  obtain ⟨os, hos, hcs, hds⟩ := id hs
  unfold Builtin.Slice.sliceApplied Builtin.Slice.sliceFields
  refine wpAny_bind (wpAny_bind (wpAny_field hos hds (x := vl) rfl (wpAny_bind (wpAny_field hos hds (x := vu) rfl (wpAny_bind (wpAny_field hos hds (x := vs) rfl (wpAny_pure ?_)))))))
  refine wpAny_bind (slicePart_ ps ?_)
  show wpAny _ _ (if ((-1 : Int) == 0) = true then _ else _) _ _ s
  rw [if_neg (by decide)]
  refine wpAny_bind (slicePart_ pl (wpAny_bind (slicePart_ pu (wpAny_bind (wpAny_pure ?_)))))
  show wpAny _ _ (pure ((n : Int) - 1, (-1 : Int), Builtin.Slice.slicePlaces ((n : Int) - 1) (-1) (-1))) _ _ s
  rw [places_rev]
  exact wpAny_pure h
theorem pick_rev (xs : Array Value) : ((List.range xs.size).filterMap fun (m : Nat) => xs[(((xs.size : Nat) : Int) - 1 + (m : Int) * (-1)).toNat]?).toArray = xs.toList.reverse.toArray := by
  congr 1
  refine List.ext_getElem? fun i => ?_
  have key : ∀ k, k ≤ xs.size → (List.range k).filterMap (fun (m : Nat) => xs[(((xs.size : Nat) : Int) - 1 + (m : Int) * (-1)).toNat]?) = xs.toList.reverse.take k := by
    intro k
    induction k with
    | zero => intro _; simp
    | succ k ih =>
      intro hk
      rw [List.range_succ, List.filterMap_append, ih (by omega)]
      have lt : xs.size - 1 - k < xs.size := by omega
      have e : (((xs.size : Nat) : Int) - 1 + (k : Int) * (-1)).toNat = xs.size - 1 - k := by omega
      have g : xs[(((xs.size : Nat) : Int) - 1 + (k : Int) * (-1)).toNat]? = some xs[xs.size - 1 - k] := by
        rw [e]
        exact Array.getElem?_eq_getElem lt
      have g2 : xs.toList.reverse[k]? = some xs[xs.size - 1 - k] := by
        rw [List.getElem?_reverse (by rw [Array.length_toList]; omega)]
        simp
      rw [List.filterMap_cons, g, List.filterMap_nil, List.take_succ, g2]
      rfl
  rw [key _ (Nat.le_refl _), List.take_of_length_le (by simp)]
theorem getItem_tuple_rev {t sl : Addr} {items : Array Value} {vl vu vs : Value} {Q : Value → Shared → Prop} (ht : IsTup s.heap t items) (hs : s.heap.IsSliceOf sl vl vu vs) (pl : IsPart vl none) (pu : IsPart vu none) (ps : IsPart vs (some (-1)))
    (h : Q (.ref s.heap.objs.size) { s with heap := s.heap.push { cls := .type "tuple", data := .seq items.toList.reverse.toArray } })
    (hsz : items.size ≤ sizeLine) : wpAny (model prog w) A (getItem (.ref t) (.ref sl)) Q E s := by
  have htake : sizeOk (.seq items.toList.reverse.toArray) := by
    show items.toList.reverse.toArray.size ≤ sizeLine
    rw [List.size_toArray, List.length_reverse, Array.length_toList]
    omega
  obtain ⟨os, hos, hcs, hds⟩ := id hs
  have hTs : s.TypeIs (.ref sl) "slice" := ⟨os, hos, hcs⟩
  unfold getItem
  try with_reducible refine wpAny_holding ?_
  first | refine wpAny_bind (wpAny_pure ?_) | skip
  refine wpAny_bind (wpAny_sequenceKey ht.typeIs (by decide) ?_)
  refine wpAny_bind (wpAny_callSpecial?_slot (name := Str.ofString "__getitem__") ht.typeIs PyProof.Rows.slot_tuple_getitem
    (wpAny_call_entry PyProof.Rows.slot_tuple_getitem ht.typeIs entry_tuple_getitem ?_ (args_tuple_getitem _ _)))
  show wpAny _ _ (Builtin.Tuple.tupleItemsOf (.ref t) >>= _) _ _ s
  refine wpAny_bind (tupleItemsOf_ ht ?_)
  refine wpAny_bind (wpAny_typeOf hTs ?_)
  rw [if_pos (by decide)]
  refine wpAny_bind (sliceApplied_rev hs pl pu ps ?_)
  show wpAny _ _ (if (((items.size : Nat) : Int) - 1 == 0 && (-1 : Int) == 1 && items.size == items.size) = true then _ else _) _ _ s
  rw [if_neg (by
    rw [show ((-1 : Int) == 1) = false by decide, Bool.and_false, Bool.false_and]
    exact Bool.false_ne_true), pick_rev]
  first
    | exact wpAny_bind (m := Builtin.Tuple.tupleExact _) (wpAny_newObj_type (wpAny_pure ⟨_, rfl, wpAny_pure h⟩) htake)
    | exact wpAny_bind (m := Builtin.Tuple.tupleExact _) (wpAny_newObj_type (wpAny_bind (wpAny_pure (wpAny_pure ⟨_, rfl, wpAny_pure h⟩))) htake)
    | exact wpAny_bind (wpAny_bind (m := Builtin.Tuple.tupleExact _) (wpAny_newObj_type (wpAny_pure (wpAny_pure ⟨_, rfl, wpAny_pure h⟩)) htake))
    | exact wpAny_bind (wpAny_bind (m := Builtin.Tuple.tupleExact _) (wpAny_newObj_type (wpAny_pure ⟨_, rfl, wpAny_pure h⟩) htake))
end
end HT
namespace L2
open PySem PySem.Spec PyProof.Rows
section
variable {X : Cx}
def tRevT (K : PySem.W.Frag) (te : TE) : TE := fun σ H Q => te σ H fun x H1 => ∃ a xs, x = .ref a ∧ SqT K H1 a xs ∧ ∀ p, H1 p = none → Q (.ref p) (upd H1 p (.tup xs.reverse))
theorem pe_revT {e : Expr} {te : TE} {k : Nat} {p1 p2 p3 pos : Pos} (he : PE X e te) : PE X (.Subscript e (.Slice none none (some (.UnaryOp .USub (.Constant (.int 1) k p1) p2)) p3) pos) (tRevT X.K te) := by
  refine ⟨fun pins s σ H Q I h => ?_⟩
  refine Subscript_ (thn (he.run pins s σ H _ I h) fun v s1 ⟨x, H1, I1, r1, q1⟩ => ?_)
  obtain ⟨a, xs, ex, hx, q⟩ := q1
  subst ex
  cases r1
  have hst : PO X (some (.UnaryOp .USub (.Constant (.int 1) k p1) p2)) (tPart (tUn (rU fun i => .int (-i)) (tC (.int 1)))) := po_some (pe_un un_neg pe_int)
  refine wpAny_Slice (thn (po_none.run pins s1 σ H1 (fun o H2 => o = none ∧ H2 = H1) I1 ⟨rfl, rfl⟩) fun vl s2 ⟨l, H2, I2, pl, el, e2⟩ => ?_)
  subst el e2
  refine thn (po_none.run pins s2 σ H2 (fun o H3 => o = none ∧ H3 = H2) I2 ⟨rfl, rfl⟩) fun vu s3 ⟨u, H3, I3, pu, eu, e3⟩ => ?_
  subst eu e3
  refine thn (hst.run pins s3 σ H3 (fun o H4 => o = some (-1) ∧ H4 = H3) I3 ⟨1, rfl, -1, rfl, rfl, rfl⟩) fun vs s4 ⟨o, H4, I4, ps, eo, e4⟩ => ?_
  subst eo e4
  have I5 : Inv X pins σ H4 { s4 with heap := s4.heap.push { cls := .type "slice", data := .fields #[vl, vu, vs] } } := I4.kept (t' := s4.toks) fun b ob q => Heap.get?_push_of_some _ q
  obtain ⟨its, r, ht, hz⟩ := I5.tuple hx
  have hlen := r.length
  show wpAny (model X.prog X.w) X.A (subscriptTail e (.Slice none none (some (.UnaryOp .USub (.Constant (.int 1) k p1) p2)) p3) (.ref a) (.ref s4.heap.objs.size)) (EP X pins σ Q) X.xe { s4 with heap := s4.heap.push { cls := .type "slice", data := .fields #[vl, vu, vs] } }
  refine tail_any (ops := [.ref a, .ref s4.heap.objs.size]) ht.typeIs (PyProof.Rows.slot_tuple_getitem.lookup) ?_ (by with_unfolding_all rfl)
  refine HT.getItem_tuple_rev ht (Heap.IsSliceOf.new _ vl vu vs) pl pu ps ?_ (by rw [List.size_toArray]; omega)
  refine ⟨.ref _, _, I5.laid (t' := s4.toks) (o := .tup xs.reverse) (fun b ob q => Heap.get?_push_of_some _ q) (Nat.le_refl _) ?_, rfl, q _ (I5.hok.fresh (Nat.le_refl _))⟩
  exact ⟨by rw [List.length_reverse]; exact hz, _, r.reverse, IsTup.new _ _⟩
end
end L2
namespace CC
open PySem L2 TL LamX
abbrev sOdT : Stmt := tp 41
/-- which kinds the class is not -/
structure KitT (K : PySem.W.Frag) (C : Addr) : Prop where
  ic : C8.InsC K C
  ct : PySem.W.kitOne K (.ref C) (.type "tuple") = some false
  ci : PySem.W.kitOne K (.ref C) (.type "int") = some false
section
variable {K : PySem.W.Frag} {C : Addr} {H H' : Hp} {w : Nat} {x : Addr} {rs : List (List Nat)} {v : V} {d : PyData} {r : List Nat}
theorem ta_ty (kt : KitT K C) (h : TableAt K C H x w rs) : TyX K H (.ref x) (.ref C) := by
  obtain ⟨dx, g, us, h1, _⟩ := h
  exact .base (.ins h1 kt.ic.cl kt.ic.ha kt.ic.hn kt.ic.htk kt.ic.hm)
theorem pw_tab (kt : KitT K C) (h : TableAt K C H x w rs) (w6 : w ≤ 6) (l : rs.length ≤ 400) (t : (tTb w rs.length).length ≤ 10000) : PwV K C H (.ref x) :=
  ⟨.obj (tTb w rs.length), .ins ⟨w, rs, h, w6, l, rfl⟩, by simp only [RTr.dep]; omega, by simp only [RTr.text]; exact t, .inl (.inl (.inr ⟨_, ta_ty kt h, kt.ci⟩))⟩
theorem ow_tab (kt : KitT K C) {m : Nat} (h : TableAt K C H x m rs) (w6 : m ≤ 6) (l : rs.length ≤ 400) (t : (tTb m rs.length).length ≤ 10000) : OwV K C w H (.ref x) :=
  ow_no (T := .obj (tTb m rs.length)) (.ins ⟨m, rs, h, w6, l, rfl⟩) (by simp only [RTr.dep]; omega) (by simp only [RTr.text]; omega) ⟨_, ta_ty kt h, kt.ct⟩
theorem pw_c (dp : Dp K H v d) (h : (d.showable && !d.hasDict && decide (d.depth ≤ 3) && decide (d.shown.length ≤ 10000)) = true) (o : OddE K H v) : PwV K C H v := by
  simp only [Bool.and_eq_true, Bool.not_eq_true', decide_eq_true_eq] at h
  exact ⟨.pur d, .dp dp h.1.1.1 h.1.1.2, by simp only [RTr.dep]; exact h.1.2, by simp only [RTr.text]; exact h.2, o⟩
theorem ow_c (dp : Dp K H v d) (h : (d.showable && !d.hasDict && decide (d.depth ≤ 3) && decide (d.shown.length ≤ 10000)) = true) (n : NoTupT K H v) : OwV K C w H v := by
  simp only [Bool.and_eq_true, Bool.not_eq_true', decide_eq_true_eq] at h
  exact ow_no (T := .pur d) (.dp dp h.1.1.1 h.1.1.2) (by simp only [RTr.dep]; have := h.1.2; omega) (by simp only [RTr.text]; have := h.2; omega) n
/-- what a call of the class with rows asks -/
theorem mkTn_go {us : List V} {Q : VK} {E : XK} (w1 : 1 ≤ w) (w6 : w ≤ 6) (hl : us.length ≤ 60) (dp : DpAll K H us (rs.map gd)) (ok : ∀ r ∈ rs, RowOk w r) (q : ∀ (x : Addr) (H' : Hp), Same H H' → H x = none → TableAt K C H' x w rs → Q (.ref x) H')
    (x dx : Addr) (nx : H x = Option.none) (ndx : H dx = Option.none) (ne : dx ≠ x) : spTInitR K C (V.ref x :: .int (w : Int) :: us) (upd (upd H dx (.own x)) x (.ins C dx [])) (fun v H2 => v = .non ∧ Q (.ref x) H2) E := by
  refine ⟨[.ref x, .int (w : Int)], us, rfl, rfl, Nat.le_trans hl (by decide), fun p np => ?_⟩
  have gx : x ≠ p := fun z => by rw [← z, upd_same] at np; cases np
  have gdx : dx ≠ p := fun z => by rw [← z, upd_ne ne, upd_same] at np; cases np
  have np1 : H p = none := by
    rw [upd_ne gx.symm, upd_ne gdx.symm] at np
    exact np
  have keep : Same H (upd (upd (upd H dx (.own x)) x (.ins C dx [])) p (.tup us)) := fun b o e => by
    rw [upd_ne (ne_of_none e np1), upd_ne (ne_of_none e nx), upd_ne (ne_of_none e ndx)]
    exact e
  have ll : rs.length ≤ 400 := by
    have := dps_len dp
    rw [List.length_map] at this
    omega
  refine ⟨x, dx, w, p, us, rs, rfl, by rw [upd_ne gx]; exact upd_same, w1, w6, upd_same, dps_same (fun b o e => ?_) _ _ dp, ok, ll, fun H' k1 k2 => ⟨rfl, q x H' (fun b o e => k1 b o (keep b o e) (ne_of_none e nx)) nx ⟨dx, p, us, k2, k1 p _ upd_same gx.symm, dps_same (fun b o e => k1 b o (keep b o e) (ne_of_none e nx)) _ _ dp⟩⟩⟩
  rw [wo_ne (ne_of_none e nx)]
  exact keep b o e
end
/-- beside some addresses -/
abbrev OwH (K : PySem.W.Frag) (C : Addr) (w : Nat) (X : List Addr) : Hp → V → Prop := fun H v => OwV K C w (hid X H) v
abbrev PwH (K : PySem.W.Frag) (C : Addr) (X : List Addr) : Hp → V → Prop := fun H v => PwV K C (hid X H) v
theorem ta_hid {K : PySem.W.Frag} {C : Addr} {X : List Addr} {H : Hp} {x : Addr} {w : Nat} {rs : List (List Nat)} (os : Occ X H) (h : TableAt K C H x w rs) : TableAt K C (hid X H) x w rs := by
  obtain ⟨dx, g, us, h1, h2, h3⟩ := h
  have no : ∀ {b : Addr} {o : HO}, H b = some o → (∀ us, o ≠ .lst us) → (hid X H) b = some o := fun {b o} e n => by
    rw [hid_ne fun z => by
      obtain ⟨us, hu⟩ := os b z
      rw [e] at hu
      exact n us (Option.some.inj hu)]
    exact e
  exact ⟨dx, g, us, no h1 (fun us z => nomatch z), no h2 (fun us z => nomatch z), gds_T (hid_T os) h3⟩
/-- an empty table -/
theorem ev_mkT {K : PySem.W.Frag} {C : Addr} {σ : L2.St} {H0 : Hp} {E : XK} {ta : TA} (w : Nat) (w1 : 1 ≤ w) (w6 : w ≤ 6) (hta : ∀ (H : Hp) (Q : List V → Hp → Prop), Q [V.int (w : Int)] H → ta σ H Q) : EvE σ H0 (fun H v => ∃ x, v = .ref x ∧ TableAt K C H x w []) (StX.tMakeR C (spTInitR K C) E ta) := fun H Q s q =>
  hta H _ fun x dx nx ndx ne => mkTn_go (Q := Q) (rs := []) (us := []) w1 w6 (by simp) .nil (fun r hr => nomatch hr) (fun x H' s' _ ra => q _ _ s' ⟨x, rfl, ra⟩) x dx nx ndx ne
theorem tup1_go {t : TE} {ts : TA} {σ : L2.St} {H : Hp} {Q : VK} (h : t σ H fun x H1 => ts σ H1 fun xs H2 => (x :: xs).length ≤ sizeLine ∧ ∀ p, H2 p = none → Q (.ref p) (upd H2 p (.tup (x :: xs)))) : tTup (tCons t ts) σ H Q := h
def spOdT (K : PySem.W.Frag) (C : Addr) : Sp := fun vs H Q _ => ∃ (v : V) (w : Nat) (r : List Nat) (X : List Addr), vs = [v] ∧ Occ X H ∧ Dp K (hid X H) v (gd r) ∧ RowOk w r ∧ 1 ≤ w ∧ w ≤ 6 ∧ ∀ (l : Addr) (us : List V) (H' : Hp), Same H H' → H' l = some (.lst us) → us.length ≤ 60 → us ≠ [] → l ∉ X → (∀ u ∈ us, OwH K C w X H' u) → Q (.ref l) H'
section
variable {P : Program} {w : World} {K : PySem.W.Frag} {mg : Str → Option Value} {base : Heap} {kA : Addr}
abbrev nOdT : List Str := ["_law_row", "_law_found", "_law_part"]
theorem scOdT : FnScope nOdT ["_law_row"] (defScope sOdT) := ⟨rfl, rfl, rfl, by decide +kernel, rfl, by decide +kernel, by decide +kernel⟩
theorem ok_odT {f C : Addr} {fd : FuncData} {k : Nat} (F : Fun K "_law_odd" "_law_odd" sOdT f fd) (T : Glb K mg kA) (TC : TxtT K mg C) (kt : KitT K C) (mk : MakeT P w K mg base C 3) : FnOk P w K mg base CX0 (k + 5) f fd ["_law_row"] (spOdT K C) := by
  have GM := mk.ok (k + 3) (by omega)
  refine F.ok scOdT (fun vs H Q E h => ?_) (fun cdv A outer s H vs Q E hr h => ?_)
  · obtain ⟨v, m, r, X, rfl, _⟩ := h
    rfl
  · obtain ⟨v, m, r, X, rfl, os, dr, ok, w1, m6, q⟩ := h
    have n := scOdT.nd
    refine ⟨_, (pss_cons (ps_set (i := 1) n rfl (.inl rfl) (pe_lst (pa_cons (pe_op op_catA (pv 0) (pe_tup (pa_cons pe_int pa_nil))) (pa_cons (pe_slice sl_tupA (pv 0) (po_some pe_int) po_none) (pa_cons (pe_callTy call_list_of (by rfl) T.lst (by decide +kernel) (pa_cons (pv 0) pa_nil)) (pa_cons (pe_tup (pa_cons (pv 0) pa_nil)) (pa_cons pe_non (pa_cons pe_bl (pa_cons pe_str (pa_cons pe_dnewK (pa_cons (pe_tup pa_nil) (pa_cons (pe_lst (pa_cons (pv 0) pa_nil)) (pa_cons pe_int (pa_cons (pe_revT (pv 0)) (pa_cons (pe_op op_catA (pe_slice sl_tupA (pv 0) po_none (po_some (pe_un un_neg pe_int))) (pe_tup (pa_cons pe_int pa_nil))) pa_nil)))))))))))))))
      (pss_cons (ps_set (i := 1) n rfl (.inl rfl) (pe_op op_cat (pv 1) (pe_lst (pa_cons (StX.pe_makeR mk.M GM hr rfl TC.mgC pass0 (pa_cons pe_int (pa_cons (pe_tup (pa_cons pe_int pa_nil)) pa_nil))) (pa_cons (pe_op RP1.op_repA (pe_tup (pa_cons (StX.pe_makeR mk.M GM hr rfl TC.mgC pass0 (pa_cons pe_int pa_nil)) pa_nil)) (pe_callB call_len_seq (by rfl) T.len PySem.boot_len (pa_cons (pv 0) pa_nil))) pa_nil)))))
      (pss_cons (ps_for PassesOwn.never rfl (pi_list (pe_lst (pa_cons pe_non (pa_cons pe_bl (pa_cons pe_bl (pa_cons (pe_un un_neg pe_int) (pa_cons pe_int (pa_cons pe_str (pa_cons pe_str (pa_cons (pe_tup pa_nil) (pa_cons (pe_tup (pa_cons pe_int pa_nil)) (pa_cons (pe_lst pa_nil) (pa_cons (pe_lst (pa_cons pe_int pa_nil)) (pa_cons pe_dnewK (pa_cons (pe_op op_pow pe_int pe_int) (pa_cons pe_int (pa_cons (StX.pe_makeR mk.M GM hr rfl TC.mgC pass0 (pa_cons pe_int pa_nil)) pa_nil))))))))))))))))) (pg_name (i := 2) n rfl (.inl rfl))
        (pss_one (ps_set (i := 1) n rfl (.inl rfl) (pe_op op_cat (pv 1) (pe_lst (pa_cons (pe_op op_catA (pe_tup (pa_cons (pv 2) pa_nil)) (pe_slice sl_tupA (pv 0) (po_some pe_int) po_none)) (pa_cons (pe_op op_catA (pe_slice sl_tupA (pv 0) po_none (po_some (pe_un un_neg pe_int))) (pe_tup (pa_cons (pv 2) pa_nil))) pa_nil)))))))
      (pss_one (ps_ret (pv 1)))))), ?_⟩
    obtain ⟨tr, rfl, htr⟩ := gd_at dr
    have st : Stb (OwH K C m X) := fun H H' v e h => owv_stb _ _ _ (hid_same e) h
    have pt : Stb (PwH K C X) := fun H H' v e h => pwv_stb _ _ _ (hid_same e) h
    have hid1 : ∀ {H1 : Hp}, Same H H1 → ∀ {t : Addr} {xs : List V}, SqT K H1 t xs → SqT K (hid X H1) t xs := by
      intro H1 s t xs h
      exact sqt_T (hid_T (os.same s)) h
    have nw : ∀ {H1 : Hp} {p : Addr} {o : HO}, Same H H1 → H1 p = none → (hid X (upd H1 p o)) p = some o := fun s n => by rw [hid_ne ((os.same s).new n), upd_same]
    have row : ∀ {H1 : Hp}, Same H H1 → SqT K H1 tr (nms r) := fun s => same_t ((hid_same s).trans hid_le) htr
    have rl : (nms r).length = m := by rw [nms_len]; exact ok.1
    have pr : ∀ {H1 : Hp} {u : V}, u ∈ nms r → PwV K C H1 u := fun hu => pw_all ok.2 _ hu
    have cl : ∀ lo hi, (cutV (nms r) lo hi).length ≤ 6 := fun lo hi => Nat.le_trans (cut_len _ _ _) (by omega)
    have noT : ∀ {H : Hp} {v : V} {t : Value}, TyX K H v t → PySem.W.kitOne K t (.type "tuple") = some false → NoTupT K H v := fun h1 h2 => ⟨_, h1, h2⟩
    have nI : ∀ {H : Hp} {v : V} {t : Value}, TyX K H v t → PySem.W.kitOne K t (.type "int") = some false → OddE K H v := fun h1 h2 => .inl (.inl (.inr ⟨_, h1, h2⟩))
    have prow : ∀ {H1 : Hp}, Same H H1 → PwH K C X H1 (.ref tr) := fun s => pw_sd (dp_same (hid_same s) _ _ dr) ((sd_row ok m6).up (by decide) (by decide)) (nI (ty_tup (same_t (hid_same s) htr)) (kit_ty (by decide +kernel)))
    let B : Hp := fun _ => none
    have hB : ∀ {H1 : Hp} (l : Addr), H1 l = none → B l = none := fun _ _ => rfl
    -- a part beside the row
    have catR : ∀ {H1 : Hp} {v : V} {Q : VK} {lo hi : Option Int}, Same H H1 → PwH K C X H1 v → (∀ z H', Same H1 H' → OwH K C m X H' z → Q z H') → ∀ (t : Addr) (H2 : Hp), Same H1 H2 → SqT K H2 t (cutV (nms r) lo hi) → 1 ≤ sizeLine ∧ ∀ p, H2 p = none → rCatA K (.ref t) (.ref p) (upd H2 p (.tup [v])) Q := by
      intro H1 v Q lo hi s pv_ q t H2 s2 ht
      refine ⟨by decide, fun p np => ?_⟩
      have s3 : Same H2 (upd H2 p (.tup [v])) := same_new np
      refine cat_all (same_t s3 ht) (.inl (.inl upd_same)) (Nat.le_trans (Nat.add_le_add (cl lo hi) (Nat.le_refl _)) (show 6 + 1 ≤ sizeLine by decide)) fun t2 H3 s4 ht2 => ?_
      have s13 := s2.trans (s3.trans s4)
      refine q _ _ s13 (ow_tup (hid1 (s.trans s13) ht2) (by have := cl lo hi; rw [List.length_append]; simp; omega) fun u hu => ?_)
      rcases List.mem_append.mp hu with hu | hu
      · exact pr (cut_mem hu)
      · rw [List.mem_singleton.mp hu]
        exact pt _ _ _ s13 pv_
    try dsimp only
    refine set_goL (fun v => [some (.ref tr), some v, none]) (fun _ => rfl) ?_
    refine ev_lst (n := 13) (X := X) (B := B) (P := OwH K C m X) st hB os (by decide) ?_ H _ (Same.refl _) fun l1 H1 s1 pl1 => ?_
    · refine eva_cons st (fun H Q s q => ⟨_, rfl, (by show 1 ≤ sizeLine; decide), fun p np => cat_all (row (s.trans (same_new np))) (.inl (.inl upd_same)) (by rw [rl]; exact Nat.le_trans (show m + 1 ≤ 7 by omega) (by decide)) fun t H2 s2 ht => q _ _ ((same_new np).trans s2) (ow_tup (hid1 (s.trans ((same_new np).trans s2)) ht) (by rw [List.length_append, rl]; simp; omega) fun u hu => by
        rcases List.mem_append.mp hu with hu | hu
        · exact pr hu
        · rw [List.mem_singleton.mp hu]
          exact pw_nat (n := 0) (by decide))⟩) ?_
      refine eva_cons st (fun H Q s q => ⟨_, rfl, 1, rfl, sl_all (row s) fun t H2 s2 ht => q _ _ s2 (ow_tup (hid1 (s.trans s2) ht) (Nat.le_trans (cl _ _) (by decide)) fun u hu => pr (cut_mem hu))⟩) ?_
      refine eva_cons st (fun H Q s q => ⟨_, rfl, tr, _, rfl, .inr (row s), fun l nl => q _ _ (same_new nl) (ow_sd (d := .list (r.map fun (n : Nat) => PyData.int (n : Int))) (.lst (SqL.of (nw s nl)) (dps_nms r)) ((GD.SD.list (m := 20) (n := 0) (k := 6) (fun d hd => by
        obtain ⟨y, hy, rfl⟩ := List.mem_map.mp hd
        exact GD.SD.nat (by have := ok.2 y hy; omega)) (by rw [List.length_map]; have := ok.1; omega)).up (by decide) (by decide)) (noT (.base (.lst (nw s nl))) (kit_ty (by decide +kernel))))⟩) ?_
      refine eva_cons st (evth os [.ref tr] (fun H Q s q => ⟨_, rfl, q⟩) (by simp) fun H p s h => ow_tup (.inl (.inl h)) (by simp) fun u hu => by rw [List.mem_singleton.mp hu]; exact prow s) ?_
      refine eva_cons st (ev_c fun H => ow_c (d := .none) .non (by decide +kernel) (noT (.base .non) (kit_ty (by decide +kernel)))) ?_
      refine eva_cons st (ev_c fun H => ow_c (d := .bool true) (.bl _) (by decide +kernel) (noT (.base (.bl _)) (kit_ty (by decide +kernel)))) ?_
      refine eva_cons st (ev_c fun H => ow_c (d := .str "0 1") (.str _) (by decide +kernel) (noT (.base (.str _)) (kit_ty (by decide +kernel)))) ?_
      refine eva_cons st (fun H Q s q p np => q _ _ (same_new np) (ow_no (T := .pur (.dict [])) (.dic (nw s np)) (by decide +kernel) (by decide +kernel) (noT (.base (.dK (nw s np))) (kit_ty (by decide +kernel))))) ?_
      refine eva_cons st (evth os [] (fun H Q s q => q) (by decide) fun H p s h => ow_tup (.inl (.inl h)) (by simp) fun u hu => nomatch hu) ?_
      refine eva_cons st (evlh os [.ref tr] (fun H Q s q => ⟨_, rfl, q⟩) (by simp) fun H p s h => ow_sd (d := .list [gd r]) (.lst (SqL.of h) (.cons (dp_same (hid_same s) _ _ dr) .nil)) ((GD.SD.list (m := 126) (n := 1) (k := 1) (fun d hd => by rw [List.mem_singleton.mp hd]; exact sd_row ok m6) (by simp)).up (by decide) (by decide)) (noT (.base (.lst h)) (kit_ty (by decide +kernel)))) ?_
      refine eva_cons st (ev_c fun H => ow_c (d := .int 0) (.int _) (by decide +kernel) (noT (.base (.int _)) (kit_ty (by decide +kernel)))) ?_
      refine eva_cons st (fun H Q s q => ⟨_, rfl, tr, _, rfl, row s, fun p np => q _ _ (same_new np) (ow_tup (.inl (.inl (nw s np))) (by rw [List.length_reverse]; omega) fun u hu => pr (List.mem_reverse.mp hu))⟩) ?_
      exact eva_cons st (fun H Q s q => ⟨_, rfl, _, rfl, _, rfl, sl_all (row s) fun t H2 s2 ht => catR (v := .int 9999) s (pw_nat (n := 9999) (by decide)) q t H2 s2 ht⟩) eva_nil
    try dsimp only
    refine set_goL (fun v => [some (.ref tr), some v, none]) (fun _ => rfl) ?_
    refine ev_catL (n := 13) (m := 2) (X := X) (B := B) (P := OwH K C m X) st hB (os.same s1) (by decide) (ev_var (pl_stb st) rfl pl1) (ev_lst (n := 2) (X := X) (B := B) st hB (os.same s1) (by decide) ?_) H1 _ (Same.refl _) fun l2 H2 s2 pl2 => ?_
    · refine eva_cons st (fun H Q s q => ⟨(by show 1 ≤ sizeLine; decide), fun p np => mkTn_go (w := 1) (us := [.ref p]) (rs := [[0]]) (by decide) (by decide) (by simp) (.cons (dp_gd (m := [0]) (.inl (.inl upd_same))) .nil) (fun r hr => by
        rw [List.mem_singleton.mp hr]
        exact ⟨rfl, by decide⟩) fun x H' s' nx ra => q _ _ ((same_new np).trans s') (ow_tab kt (ta_hid (os.same (s1.trans (s.trans ((same_new np).trans s')))) ra) (by decide) (by decide) (by decide +kernel))⟩) ?_
      exact eva_cons st (fun H Q s q => by
        refine tup1_go ?_
        refine ev_mkT (K := K) (C := C) (H0 := H) (ta := tCons (tC (.int 1)) tNil) (E := E0) 1 (by decide) (by decide) (fun H Q q => q) H _ (Same.refl _) fun v H' s' hv => ?_
        obtain ⟨x, rfl, ra⟩ := hv
        refine ⟨(by show 1 ≤ sizeLine; decide), fun p2 n2 => ?_⟩
        have s3 : Same H' (upd H' p2 (.tup [.ref x])) := same_new n2
        have g1 := s1.trans (s.trans (s'.trans s3))
        refine ⟨_, rfl, tr, _, rfl, .inr (row g1), p2, _, _, rfl, rfl, .inl (.inl upd_same), by simp, by rw [rl]; omega, by rw [rl]; omega, by simp, fun p H3 s4 hp => ?_⟩
        refine q _ _ (s'.trans (s3.trans s4)) (ow_tup (hid1 (g1.trans s4) hp) ?_ fun u hu => ?_)
        · rw [rl]
          simp
          omega
        · have : u = .ref x := (show _ ∧ u = .ref x by simpa using hu).2
          rw [this]
          exact pw_tab kt ((ta_hid (os.same (g1.trans s4)) (ra.same (s3.trans s4)))) (by decide) (by decide) (by decide +kernel)) eva_nil
    have s02 := s1.trans s2
    try dsimp only
    unfold tSeq tFor iList
    refine ev_lstW (n := 15) (X := X) (P := PwH K C X) pt (os.same s02) (by decide) ?_ H2 _ (Same.refl _) fun l5 H5 s5 pl5 => ?_
    · refine eva_cons pt (ev_c fun H => pw_c (d := .none) .non (by decide +kernel) (nI (.base .non) (kit_ty (by decide +kernel)))) ?_
      refine eva_cons pt (ev_c fun H => pw_c (d := .bool true) (.bl _) (by decide +kernel) (.inl (.inl (.inl ⟨_, rfl⟩)))) ?_
      refine eva_cons pt (ev_c fun H => pw_c (d := .bool false) (.bl _) (by decide +kernel) (.inl (.inl (.inl ⟨_, rfl⟩)))) ?_
      refine eva_cons pt (fun H Q s q => ⟨_, rfl, q _ H (Same.refl _) (pw_c (d := .int (-1)) (.int _) (by decide +kernel) (.inl (.inr ⟨_, rfl, by omega⟩)))⟩) ?_
      refine eva_cons pt (ev_c fun H => pw_c (d := .int 10000) (.int _) (by decide +kernel) (.inl (.inr ⟨_, rfl, by omega⟩))) ?_
      refine eva_cons pt (ev_c fun H => pw_c (d := .str "0") (.str _) (by decide +kernel) (nI (.base (.str _)) (kit_ty (by decide +kernel)))) ?_
      refine eva_cons pt (ev_c fun H => pw_c (d := .str "") (.str _) (by decide +kernel) (nI (.base (.str _)) (kit_ty (by decide +kernel)))) ?_
      refine eva_cons pt (evth (os.same s02) [] (fun H Q s q => q) (by decide) fun H p s h => pw_c (d := .tuple []) (.tup (.inl (.inl h)) .nil) (by decide +kernel) (nI (.base (.tup h)) (kit_ty (by decide +kernel)))) ?_
      refine eva_cons pt (evth (os.same s02) [.int 0] (fun H Q s q => q) (by decide) fun H p s h => pw_c (d := .tuple [.int 0]) (.tup (.inl (.inl h)) (.cons (.int _) .nil)) (by decide +kernel) (nI (.base (.tup h)) (kit_ty (by decide +kernel)))) ?_
      refine eva_cons pt (evlh (os.same s02) [] (fun H Q s q => q) (by decide) fun H p s h => pw_c (d := .list []) (.lst (SqL.of h) .nil) (by decide +kernel) (nI (.base (.lst h)) (kit_ty (by decide +kernel)))) ?_
      refine eva_cons pt (evlh (os.same s02) [.int 0] (fun H Q s q => q) (by decide) fun H p s h => pw_c (d := .list [.int 0]) (.lst (SqL.of h) (.cons (.int _) .nil)) (by decide +kernel) (nI (.base (.lst h)) (kit_ty (by decide +kernel)))) ?_
      refine eva_cons pt (fun H Q s q p np => q _ _ (same_new np) (pw_dic (nw (s02.trans s) np))) ?_
      refine eva_cons pt (fun H Q s q => ⟨_, _, rfl, rfl, ⟨by decide, by decide, by decide⟩, q _ H (Same.refl _) (pw_c (d := .int (10 ^ 12)) (.int _) (by decide +kernel) (.inl (.inr ⟨_, rfl, by decide⟩)))⟩) ?_
      refine eva_cons pt (ev_c fun H => pw_nat (n := 0) (by decide)) ?_
      exact eva_cons pt (fun H Q s q => by
        refine ev_mkT (K := K) (C := C) (H0 := H) (ta := tCons (tC (.int 2)) tNil) (E := E0) 2 (by decide) (by decide) (fun H Q q => q) H _ (Same.refl _) fun v H' s' hv => ?_
        obtain ⟨x, rfl, ra⟩ := hv
        exact q _ _ s' (pw_tab kt (ta_hid (os.same (s02.trans (s.trans s'))) ra) (by decide) (by decide) (by decide +kernel))) eva_nil
    have s05 := s02.trans s5
    obtain ⟨lp, up, rfl, _, hlp, lenp, pp⟩ := pl5
    have pl2' := pl_stb st _ _ _ s5 pl2
    refine ⟨lp, rfl, ⟨_, SqL.of hlp⟩, ?_⟩
    refine for_list (xs := up) (fun i σ H' => Same H5 H' ∧ ∃ y1 y2, σ = [some (.ref tr), some y1, y2] ∧ PL X (OwH K C m X) (15 + 2 * i) B H' y1) ⟨Same.refl _, _, _, rfl, pl2'⟩ (fun i σ H' _ z => SqL.of (z.1 _ _ hlp)) ?_ ?_
    · rintro i x σ H6 hx ⟨s6, y1, y2, rfl, pl6⟩
      have il := (List.getElem?_eq_some_iff.mp hx).1
      have px : PwH K C X H6 x := pt _ _ _ s6 (pp x (List.mem_of_getElem? hx))
      show tAsg _ _ _ _ _
      refine asg_goL (fun v => [some (.ref tr), some v, some x]) (fun _ => rfl) ?_
      refine ev_catL (n := 15 + 2 * i) (m := 2) (X := X) (B := B) (P := OwH K C m X) st hB (os.same (s05.trans s6)) (by omega) (ev_var (pl_stb st) rfl pl6) (ev_lst (n := 2) (X := X) (B := B) st hB (os.same (s05.trans s6)) (by decide) ?_) H6 _ (Same.refl _) fun l7 H7 s7 pl7 => ?_
      · refine eva_cons st (fun H7 Q s q => ?_) ?_
        · refine ⟨_, rfl, (by show 1 ≤ sizeLine; decide), fun p np => ⟨_, rfl, 1, rfl, ?_⟩⟩
          delta tNoPart
          have s3 : Same H7 (upd H7 p (.tup [x])) := same_new np
          refine sl_all (row (s05.trans (s6.trans (s.trans s3)))) fun t H2 s2 ht => ?_
          refine cat_all (.inl (.inl (s2 _ _ upd_same))) ht (Nat.le_trans (Nat.add_le_add (Nat.le_refl _) (cl _ _)) (show 1 + 6 ≤ sizeLine by decide)) fun t2 H3 s4 ht2 => ?_
          have s13 := s3.trans (s2.trans s4)
          refine q _ _ s13 (ow_tup (hid1 (s05.trans (s6.trans (s.trans s13))) ht2) (by have := cl (some 1) none; rw [List.length_append]; simp; omega) fun u hu => ?_)
          rcases List.mem_append.mp hu with hu | hu
          · rw [List.mem_singleton.mp hu]
            exact pt _ _ _ (s.trans s13) px
          · exact pr (cut_mem hu)
        · exact eva_cons st (fun H7 Q s q => ⟨_, rfl, _, rfl, _, rfl, sl_all (row (s05.trans (s6.trans s))) fun t H2 s2 ht => ⟨_, rfl, catR (v := x) (s05.trans (s6.trans s)) (pt _ _ _ s px) q t H2 s2 ht⟩⟩) eva_nil
      · exact ⟨s6.trans s7, _, _, rfl, pl7⟩
    · rintro σ H6 ⟨s6, y1, y2, rfl, l6, us, rfl, ⟨nX, _⟩, h6, len6, p6⟩
      refine ⟨_, rfl, q l6 us H6 (s05.trans s6) h6 (by omega) (fun z => by rw [z] at len6; simp at len6; omega) nX fun u hu => st _ _ _ (wo_le _) (p6 u hu)⟩
end
end CC
namespace CC
open PySem L2
abbrev sSource : Stmt := tp 30
abbrev sDraw : Stmt := tp 31
abbrev sChoose : Stmt := tp 32
section
variable {P : Program} {w : World} {K : PySem.W.Frag} {mg : Str → Option Value} {base : Heap}
theorem scSource : FnScope ["_law_cell_here"] ["_law_cell_here"] (defScope sSource) := ⟨rfl, rfl, rfl, by decide +kernel, rfl, by decide +kernel, by decide +kernel⟩
theorem ok_source {f : Addr} {fd : FuncData} {k : Nat} (F : Fun K "_law_source" "_law_source" sSource f fd) (mm : mg "max" = none) : FnOk P w K mg base CX0 (k + 1) f fd ["_law_cell_here"] spSource := by
  refine F.ok scSource (fun vs H Q E h => ?_) (fun cdv A outer s H vs Q E hr h => ?_)
  · obtain ⟨z, rfl, _⟩ := h
    rfl
  · obtain ⟨z, rfl, q⟩ := h
    refine ⟨_, pss_one (ps_ret (pe_lst (pa_cons (pe_callB (call_max2 rfl) (by rfl) mm (by decide +kernel) (pa_cons pe_int (pa_cons (pe_op op_sub (pv 0) (pe_op op_pow pe_int pe_int)) pa_nil))) (pa_cons (pe_op op_add (pe_op op_mod (pv 0) pe_int) pe_int) (pa_cons pe_int pa_nil))))), ?_⟩
    refine ⟨_, rfl, _, _, rfl, rfl, ⟨by decide, by decide, by decide⟩, _, _, rfl, rfl, _, _, rfl, _, rfl, _, _, rfl, rfl, (by show (0 : Int) < 2147483629; decide), _, _, rfl, rfl, (by show 3 ≤ sizeLine; decide), fun p hp => ?_⟩
    exact q p _ hp ⟨_, _, _, rfl, by omega, by omega⟩
theorem scDraw : FnScope ["_law_source_here", "_law_many", "_law_found", "_law_mixed"] ["_law_source_here", "_law_many"] (defScope sDraw) := ⟨rfl, rfl, rfl, by decide +kernel, rfl, by decide +kernel, by decide +kernel⟩
theorem ok_draw {f : Addr} {fd : FuncData} {k : Nat} (F : Fun K "_law_draw" "_law_draw" sDraw f fd) : FnOk P w K mg base CX0 (k + 1) f fd ["_law_source_here", "_law_many"] spDraw := by
  refine F.ok scDraw (fun vs H Q E h => ?_) (fun cdv A outer s H vs Q E hr h => ?_)
  · obtain ⟨a, m, o, rfl, _⟩ := h
    rfl
  · obtain ⟨a, m, o, rfl, ho, ⟨x, y, z, rfl, y0, y1⟩, m0, m1, q⟩ := h
    refine ⟨_, pss_cons (ps_if (pt_cmpR op_gt (pe_ix ix_list (pv 0) pe_int (fun _ _ => rfl)) pe_int (nomark _))
        (pss_cons (ps_set (i := 2) scDraw.nd rfl (.inl rfl) (pe_op op_mod (pe_ix ix_list (pv 0) pe_int (fun _ _ => rfl)) (pv 1)))
        (pss_cons (ps_asg (pe_op op_fdiv (pe_ix ix_list (pv 0) pe_int (fun _ _ => rfl)) (pv 1)) (pg_sub (pv 0) pe_int set_list))
        (pss_one (ps_ret (pv 2))))) pss_nil)
      (pss_cons (ps_asg (pe_op op_add (pe_ix ix_list (pv 0) pe_int (fun _ _ => rfl)) pe_int) (pg_sub (pv 0) pe_int set_list))
      (pss_cons (ps_asg (pe_op op_mod (pe_op op_add (pe_op op_add (pe_op op_mul (pe_ix ix_list (pv 0) pe_int (fun _ _ => rfl)) pe_int) (pe_op op_mul pe_int (pe_ix ix_list (pv 0) pe_int (fun _ _ => rfl)))) pe_int) pe_int) (pg_sub (pv 0) pe_int set_list))
      (pss_cons (ps_set (i := 3) scDraw.nd rfl (.inl rfl) (pe_op op_mod (pe_op op_add (pe_op op_add (pe_op op_mul (pe_ix ix_list (pv 0) pe_int (fun _ _ => rfl)) (pe_ix ix_list (pv 0) pe_int (fun _ _ => rfl))) (pe_op op_mul pe_int (pe_ix ix_list (pv 0) pe_int (fun _ _ => rfl)))) pe_int) pe_int))
      (pss_cons (ps_set (i := 3) scDraw.nd rfl (.inl rfl) (pe_op op_mod (pe_op op_add (pe_op op_mul (pv 3) (pv 3)) (pe_op op_mul pe_int (pv 3))) pe_int))
      (pss_one (ps_ret (pe_op op_mod (pe_op op_fdiv (pv 3) pe_int) (pv 1)))))))), ?_⟩
    have hA : SqL K H a [.int x, .int y, .int z] := SqL.of ho
    refine ⟨_, rfl, a, _, _, _, rfl, rfl, hA, rfl, _, _, rfl, rfl, _, rfl, ite2 (fun e => ?_) (fun e => ?_)⟩
    · refine ⟨_, rfl, a, _, _, _, rfl, rfl, hA, rfl, _, rfl, _, _, rfl, rfl, m0, ?_⟩
      refine ⟨_, rfl, a, _, _, _, rfl, rfl, hA, rfl, _, rfl, _, _, rfl, rfl, ⟨m0, by omega⟩, _, rfl, a, _, _, 0, rfl, rfl, ho, rfl, ?_⟩
      exact ⟨_, rfl, q _ _ (Int.emod_nonneg _ (by omega)) (Int.emod_lt_of_pos _ m0) ⟨_, _, _, rfl, y0, y1⟩⟩
    · refine ⟨_, rfl, a, _, _, _, rfl, rfl, hA, rfl, _, _, rfl, rfl, _, rfl, a, _, _, 2, rfl, rfl, ho, rfl, ?_⟩
      have h1 : (upd H a (.lst [.int x, .int y, .int (z + 1)])) a = some (.lst [.int x, .int y, .int (z + 1)]) := upd_same
      refine ⟨_, rfl, a, _, _, _, rfl, rfl, SqL.of h1, rfl, _, _, rfl, rfl, .inl ⟨by omega, by omega⟩, _, rfl, a, _, _, _, rfl, rfl, SqL.of h1, rfl, _, _, rfl, rfl, .inl ⟨by decide, by decide⟩, _, _, rfl, rfl, _, _, rfl, rfl, _, _, rfl, rfl, (by show (0 : Int) < 2147483647; decide), _, rfl, a, _, _, 1, rfl, rfl, h1, rfl, ?_⟩
      obtain ⟨y', hy⟩ : ∃ y' : Int, y' = (y * 48271 + 1009 * (z + 1) + 7) % 2147483647 := ⟨_, rfl⟩
      have b0 : 0 ≤ y' := by omega
      have b1 : y' < 2147483648 := by omega
      have h2 : (upd (upd H a (.lst [.int x, .int y, .int (z + 1)])) a (.lst [.int x, .int ((y * 48271 + 1009 * (z + 1) + 7) % 2147483647), .int (z + 1)])) a = some (.lst [.int x, .int y', .int (z + 1)]) := by
        rw [hy]
        exact upd_same
      refine ⟨_, rfl, a, _, _, _, rfl, rfl, SqL.of h2, rfl, _, rfl, a, _, _, _, rfl, rfl, SqL.of h2, rfl, _, _, rfl, rfl, .inl ⟨by omega, by omega⟩, _, rfl, a, _, _, _, rfl, rfl, SqL.of h2, rfl, _, _, rfl, rfl, .inl ⟨by decide, by decide⟩, _, _, rfl, rfl, _, _, rfl, rfl, _, _, rfl, rfl, (by show (0 : Int) < 2147483629; decide), ?_⟩
      obtain ⟨m2, hm⟩ : ∃ m2 : Int, m2 = (y' * y' + 69621 * y' + 11) % 2147483629 := ⟨_, rfl⟩
      have c0 : 0 ≤ (y' * y' + 69621 * y' + 11) % 2147483629 := Int.emod_nonneg _ (by decide)
      have c1 : (y' * y' + 69621 * y' + 11) % 2147483629 < 2147483629 := Int.emod_lt_of_pos _ (by decide)
      refine ⟨_, rfl, _, rfl, _, _, rfl, rfl, .inl ⟨Int.lt_of_lt_of_le (by decide) c0, Int.lt_trans c1 (by decide)⟩, _, rfl, _, _, rfl, rfl, .inl ⟨by decide, by decide⟩, _, _, rfl, rfl, _, _, rfl, rfl, (by show (0 : Int) < 2147483587; decide), ?_⟩
      refine ⟨_, rfl, _, _, rfl, rfl, ⟨by decide, by decide⟩, _, rfl, _, _, rfl, rfl, m0, ?_⟩
      rw [upd_upd]
      exact q _ _ (Int.emod_nonneg _ (by omega)) (Int.emod_lt_of_pos _ m0) ⟨x, y', z + 1, by rw [hy]; rfl, b0, b1⟩
end
end CC
namespace CC
open PySem L2 TL
section
variable {P : Program} {w : World} {K : PySem.W.Frag} {mg : Str → Option Value} {base : Heap} {kA : Addr}
theorem ok_draw2 {f : Addr} {fd : FuncData} {k : Nat} (F : Fun K "_law_draw" "_law_draw" sDraw f fd) : FnOk P w K mg base CX0 (k + 1) f fd ["_law_source_here", "_law_many"] spDraw2 := by
  have G : FnOk P w K mg base CX0 (k + 1) f fd ["_law_source_here", "_law_many"] spDraw := ok_draw F
  refine ⟨fun vs H Q E h => ?_, fun A outer s H args us vs Q E hr e0 hb r h => G.run A outer s H args us vs Q E hr e0 hb r ?_⟩
  · obtain ⟨s, m, rfl, _⟩ := h
    rfl
  · obtain ⟨a, m, rfl, ⟨o, h1, h2⟩, m0, m1, q⟩ := h
    refine ⟨a, m, o, rfl, h1, h2, by omega, by omega, fun r o' r0 r1 ho => ?_⟩
    have e : r = ((r.toNat : Nat) : Int) := by omega
    rw [e]
    exact q _ _ (by omega) (.one ho)
theorem scChoose : FnScope ["_law_source_here", "_law_values"] ["_law_source_here", "_law_values"] (defScope sChoose) := ⟨rfl, rfl, rfl, by decide +kernel, rfl, by decide +kernel, by decide +kernel⟩
theorem ok_choose {f : Addr} {fd : FuncData} {k : Nat} (F : Fun K "_law_choose" "_law_choose" sChoose f fd) (T : Glb K mg kA) (cD : Cal P w K mg base "_law_draw" ["_law_source_here", "_law_many"] spDraw2 1) :
    FnOk P w K mg base CX0 (k + 2) f fd ["_law_source_here", "_law_values"] (spChoose K) := by
  have GD := cD.ok (k + 1) (by omega)
  refine F.ok scChoose (fun vs H Q E h => ?_) (fun cdv A outer s H vs Q E hr h => ?_)
  · obtain ⟨s, v, rfl, _⟩ := h
    rfl
  · obtain ⟨sr, v, rfl, hs, h⟩ := h
    refine ⟨_, pss_one (ps_ret (pe_ix ix_seq (pv 1) (pe_call GD hr rfl cD.g cD.kp cD.b .nil pass0 (pa_cons (pv 0) (pa_cons (pe_callB call_len (by rfl) T.len PySem.boot_len (pa_cons (pv 1) pa_nil)) pa_nil))) (fun _ _ => rfl))), ?_⟩
    rcases h with ⟨a, xs, rfl, ha, l0, l1, q⟩ | ⟨z, rfl, l0, l1, q⟩
    · refine ⟨_, rfl, _, rfl, _, rfl, _, xs.length, rfl, .inl ⟨xs, same_l (wo_le sr) ha, rfl⟩, sr, xs.length, rfl, hs, l0, by omega, fun r H' hr2 rn => ?_⟩
      have e : xs[r]? = some xs[r] := List.getElem?_eq_getElem hr2
      exact .inl ⟨a, xs, _, _, rfl, rfl, same_l (rn.same.trans (wo_le sr)) ha, atI_nat e, q r _ H' e rn⟩
    · refine ⟨_, rfl, _, rfl, _, rfl, _, z.length, rfl, ⟨Nat.le_of_lt (small1000 (by omega)), rfl⟩, sr, z.length, rfl, hs, l0, by omega, fun r H' hr2 rn => ?_⟩
      rw [len_tl] at hr2
      have e : (tl z)[r]? = some (tl z)[r] := List.getElem?_eq_getElem hr2
      exact .inr (.inr ⟨z, _, _, rfl, rfl, Nat.le_of_lt (small1000 (by omega)), atI_nat e, q _ H' rn⟩)
end
end CC
/-! ### drawn rows -/
namespace CC
open PySem L2 TL
theorem Ran.put {H H1 : Hp} {s p : Addr} {o : HO} (r : Ran H H1 s) (hp : H p = none) (n : p ≠ s) : Ran H (upd H1 p o) s := by
  refine ⟨fun b u e => ?_, ?_⟩
  · have hb : b ≠ s := fun z => by
      rw [z, wo_at] at e
      cases e
    have bp : b ≠ p := fun z => by
      rw [wo_ne hb, z, hp] at e
      cases e
    have := r.same b u e
    rw [wo_ne hb] at this ⊢
    rw [upd_ne bp]
    exact this
  · obtain ⟨o', h1, h2⟩ := r.src
    exact ⟨o', by rw [upd_ne (Ne.symm n)]; exact h1, h2⟩
/-- rows of values up to v -/
def RowV (w v : Nat) (r : List Nat) : Prop := r.length = w ∧ ∀ x ∈ r, x ≤ v
structure LR (K : PySem.W.Frag) (H H' : Hp) (s l : Addr) (w v m : Nat) : Prop where
  ran : Ran H H' s
  new : H l = none
  nes : l ≠ s
  lst : ∃ (us : List V) (rows : List (List Nat)), H' l = some (.lst us) ∧ DpAll K H' us (rows.map gd) ∧ (∀ r ∈ rows, RowV w v r) ∧ rows.length = m
section
variable {K : PySem.W.Frag} {H H' H'' : Hp} {s l p : Addr} {w v m : Nat}
theorem LR.grow (a : LR K H H' s l w v m) (e : Same H' H'') : LR K H H'' s l w v m := by
  obtain ⟨us, rs, h1, h2, h3, h4⟩ := a.lst
  exact ⟨a.ran.grow e, a.new, a.nes, us, rs, e _ _ h1, dps_same e _ _ h2, h3, h4⟩
theorem LR.run (a : LR K H H' s l w v m) (e : Ran H' H'' s) : LR K H H'' s l w v m := by
  obtain ⟨us, rs, h1, h2, h3, h4⟩ := a.lst
  exact ⟨a.ran.trans e, a.new, a.nes, us, rs, e.at_ h1 a.nes, gds_T (e.T a.ran.src) h2, h3, h4⟩
theorem LR.fresh (a : Ran H H' s) (h : H' l = none) : LR K H (upd H' l (.lst [])) s l w v 0 :=
  ⟨a.grow (same_new h), a.free h, a.ne h, [], [], upd_same, .nil, (fun r hr => nomatch hr), rfl⟩
theorem LR.push (a : LR K H H' s l w v m) {x : V} {r : List Nat} (d : Dp K H' x (gd r)) (hr : RowV w v r) : ∃ acc, H' l = some (.lst acc) ∧ acc.length = m ∧ LR K H (upd H' l (.lst (acc ++ [x]))) s l w v (m + 1) := by
  obtain ⟨us, rs, h1, h2, h3, h4⟩ := a.lst
  have ul : us.length = rs.length := by rw [dps_len h2, List.length_map]
  refine ⟨us, h1, by omega, a.ran.put a.new a.nes, a.new, a.nes, us ++ [x], rs ++ [r], upd_same, ?_, ?_, ?_⟩
  · rw [List.map_append]
    exact dps_app (gds_T (upd_T h1) h2) (.cons (gd_T (upd_T h1) d) .nil)
  · intro y hy
    rcases List.mem_append.mp hy with z | z
    · exact h3 y z
    · rw [List.mem_singleton.mp z]
      exact hr
  · rw [List.length_append, List.length_singleton]
    omega
theorem LR.put {o : HO} {us : List V} (a : LR K H H' s l w v m) (hp : H' p = some (.lst us)) (hn : H p = none) (n : p ≠ s) (nl : l ≠ p) : LR K H (upd H' p o) s l w v m := by
  obtain ⟨vs, rs, h1, h2, h3, h4⟩ := a.lst
  exact ⟨a.ran.put hn n, a.new, a.nes, vs, rs, by rw [upd_ne nl]; exact h1, gds_T (upd_T hp) h2, h3, h4⟩
end
/-- a row in the making -/
def RowAt (H0 H' : Hp) (s l D : Addr) (w v : Nat) : Prop := ∃ r, H' D = some (.lst (nms r)) ∧ RowV w v r ∧ H0 D = none ∧ D ≠ s ∧ l ≠ D
theorem nms_set {r : List Nat} {j x : Nat} : (nms r).set j (.int (x : Int)) = nms (r.set j x) := by
  unfold nms
  rw [List.map_set]
theorem rowv_set {w v : Nat} {r : List Nat} {j x : Nat} (h : RowV w v r) (hx : x ≤ v) : RowV w v (r.set j x) := by
  refine ⟨by rw [List.length_set]; exact h.1, fun y hy => ?_⟩
  rcases List.mem_or_eq_of_mem_set hy with z | z
  · exact h.2 y z
  · rw [z]
    exact hx
theorem ix_ok {n j : Nat} (h : j < n) : ixN n (j : Int) = some j := by
  unfold ixN
  rw [if_pos (by omega), if_pos (by omega)]
  simp
theorem gdl_shp (ms : List (List Nat)) : SeqAt.shaped (.list (ms.map gd)) = true := by
  have h : PyData.canLayAll0 (ms.map gd) = true ∧ PyData.depthAll (ms.map gd) ≤ 1 := by
    induction ms with
    | nil => simp [PyData.canLayAll0, PyData.depthAll]
    | cons m ms ih =>
      have g : PyData.canLayAll0 (m.map fun (n : Nat) => PyData.int (n : Int)) = true ∧ PyData.depthAll (m.map fun (n : Nat) => PyData.int (n : Int)) = 0 := by
        clear ih
        induction m with
        | nil => simp [PyData.canLayAll0, PyData.depthAll]
        | cons x m ih2 => simp [PyData.canLayAll0, PyData.depthAll, PyData.canLay0, PyData.depth, ih2.1, ih2.2]
      simp only [List.map_cons, PyData.canLayAll0, PyData.depthAll, gd, PyData.canLay0, PyData.depth, g.1, g.2, Bool.true_and]
      refine ⟨ih.1, ?_⟩
      have := ih.2
      unfold gd at this
      omega
  show ((PyData.list (ms.map gd)).canLay0 && decide ((PyData.list (ms.map gd)).depth ≤ 64)) = true
  simp only [PyData.canLay0, PyData.depth, h.1, Bool.true_and]
  exact decide_eq_true (by have := h.2; omega)
end CC
namespace CC
open PySem L2 TL LamX
abbrev sTaT : Stmt := tp 42
/-- a row -/
def RoV (K : PySem.W.Frag) (w : Nat) (H : Hp) (v : V) : Prop := ∃ r : List Nat, Dp K H v (gd r) ∧ RowOk w r
/-- a list of rows -/
def LwV (K : PySem.W.Frag) (w : Nat) (H : Hp) (v : V) : Prop := ∃ (l : Addr) (xs : List V), v = .ref l ∧ H l = some (.lst xs) ∧ xs.length ≤ 8 ∧ ∀ u ∈ xs, RoV K w H u
section
variable {K : PySem.W.Frag} {w : Nat} {H H' : Hp}
theorem rov_stb : Stb (RoV K w) := fun H H' v e ⟨r, h1, h2⟩ => ⟨r, dp_same e _ _ h1, h2⟩
theorem lwv_stb : Stb (LwV K w) := fun H H' v e ⟨l, xs, h1, h2, h3, h4⟩ => ⟨l, xs, h1, e _ _ h2, h3, fun u hu => rov_stb _ _ _ e (h4 u hu)⟩
theorem rows_of_all : ∀ {xs : List V}, (∀ u ∈ xs, RoV K w H u) → ∃ rs : List (List Nat), DpAll K H xs (rs.map gd) ∧ ∀ r ∈ rs, RowOk w r
  | [], _ => ⟨[], .nil, fun r h => nomatch h⟩
  | x :: xs, h => by
    obtain ⟨r, d, ok⟩ := h x List.mem_cons_self
    obtain ⟨rs, ds, oks⟩ := rows_of_all (xs := xs) fun u hu => h u (List.mem_cons_of_mem _ hu)
    exact ⟨r :: rs, .cons d ds, fun y hy => by
      rcases List.mem_cons.mp hy with rfl | hy
      · exact ok
      · exact oks y hy⟩
theorem all_of_rows {xs : List V} {rs : List (List Nat)} (h : DpAll K H xs (rs.map gd)) (ok : ∀ r ∈ rs, RowOk w r) : ∀ u ∈ xs, RoV K w H u := fun u hu => by
  obtain ⟨i, hi⟩ := List.mem_iff_getElem?.mp hu
  obtain ⟨r, hr, d⟩ := dps_gat h hi
  exact ⟨r, d, ok r (List.mem_of_getElem? hr)⟩
end
theorem nm_go {i : Nat} {v : V} {σ : L2.St} {H : Hp} {k : L2.St → Hp → Prop} (h : k (σ.set i (some v)) H) : gName i v σ H k := h
theorem ao_go {r : R2} {ta tb tc : TE} {D : Ends} {σ : L2.St} {H : Hp} (h : ta σ H fun x H1 => tb σ H1 fun y H2 => r x y H2 fun v H3 => ∃ k, v = .bl k ∧ if k = true then tc σ H3 D.rt else D.rt (.bl false) H3) : tRet (tAndV (tOp r ta tb) tc) D σ H := by
  exact h
theorem no_go {r : R2} {ta tb : TE} {Q : VK} {σ : L2.St} {H : Hp} (h : ta σ H fun x H1 => tb σ H1 fun y H2 => r x y H2 fun v H3 => ∃ k, v = .bl k ∧ Q (.bl (!k)) H3) : tNotV (tOp r ta tb) σ H Q := by
  exact h
def spTaT (K : PySem.W.Frag) : Sp := fun vs H Q _ => ∃ (s g : Addr) (w : Nat) (us : List V) (rs : List (List Nat)), vs = [.ref s, .int (w : Int), .ref g] ∧ Src H s ∧ g ≠ s ∧ H g = some (.lst us) ∧ DpAll K (wo H s) us (rs.map gd) ∧ (∀ r ∈ rs, RowOk w r) ∧ rs.length ≤ 4 ∧ 1 ≤ w ∧ w ≤ 6 ∧ ∀ H', Ran H H' s → Q (.bl true) H'
section
variable {P : Program} {w : World} {K : PySem.W.Frag} {mg : Str → Option Value} {base : Heap} {kA : Addr}
abbrev nTaT : List Str := ["_law_source_here", "_law_width", "_law_some", "_law_made", "_law_at", "_law_near", "_law_row", "_law_lines_here", "_law_other", "_law_same"]
theorem scTaT : FnScope nTaT ["_law_source_here", "_law_width", "_law_some"] (defScope sTaT) := ⟨rfl, rfl, rfl, by decide +kernel, rfl, by decide +kernel, by decide +kernel⟩
theorem ok_taT {f C CW CN : Addr} {fd : FuncData} {k : Nat} (F : Fun K "_law_are_told_apart" "_law_are_told_apart" sTaT f fd) (T : Glb K mg kA) (TC : TxtT K mg C) (mk : MakeT P w K mg base C 3) (rd : ReadT P w K mg base C 5) (eq : EqO P w K mg base C (spTEq K C) 1)
    (cB : CalX P w K mg base "_law_built" ["_law_width", "_law_some"] (spBt1 K C CW CN) 5) (cD : Cal P w K mg base "_law_draw" ["_law_source_here", "_law_many"] spDraw2 1) (cX : Cal P w K mg base "_law_text" ["_law_lines_here"] (spTTx K) 1) (cE : GD.CalG P w K mg base "_law_is_equal" ["_law_actual", "_law_expected"] (GD.spEqD K) 1) : GD.FnG P w K mg base CX0 (k + 6) f fd ["_law_source_here", "_law_width", "_law_some"] (spTaT K) := by
  have GB := cB.ok (k + 5) (by omega)
  have GDr := cD.ok (k + 5) (by omega)
  have GX := cX.ok (k + 5) (by omega)
  have GE := cE.ok (k + 5) (by omega)
  have GR := rd.ok (k + 5) (by omega)
  have GM := mk.ok (k + 4) (by omega)
  have GQ := eq.ok (k + 5) (by omega)
  have GQ1 := eq.ok (k + 4) (by omega)
  refine GD.fun_okG F scTaT (fun vs H Q E h => ?_) (fun cdv A outer s H vs Q E calm hr h => ?_)
  · obtain ⟨s, g, m, us, rs, rfl, _⟩ := h
    rfl
  · obtain ⟨s0, g, m, us, rs, rfl, src, gs, hg, dg, ok, few, w1, w6, q⟩ := h
    have n := scTaT.nd
    have hu64 : (A.deeper (PyProof.Rows.envOfC (Str.ofString "_law_are_told_apart") (defScope sTaT) s.heap.objs.size f cdv)).units + 64 < cLine := by
      have := hr.un
      omega
    refine ⟨_, (pss_cons (ps_par (i := 3) (j := 4) rfl n rfl rfl (by decide) rfl rfl (pa_cons (pe_call GB hr rfl cB.g cB.kp cB.b .nil passL (pa_cons (pv 1) (pa_cons (pv 2) pa_nil))) (pa_cons (pe_call GDr hr rfl cD.g cD.kp cD.b .nil pass0 (pa_cons (pv 0) (pa_cons (pv 1) pa_nil))) pa_nil)) (by rfl))
 (pss_cons (ps_set (i := 5) n rfl (.inl rfl) (pe_lst (pa_cons (pe_slice (r := rSlL K) sl_list (pv 2) (po_some pe_int) po_none) (pa_cons (pe_revL (pv 2)) (pa_cons (pe_op op_cat (pv 2) (pe_slice (r := rSlL K) sl_list (pv 2) po_none (po_some pe_int))) (pa_cons (pe_op op_cat (pe_slice (r := rSlL K) sl_list (pv 2) po_none (po_some (pe_un un_neg pe_int))) (pe_slice (r := rSlL K) sl_list (pv 2) po_none (po_some pe_int))) (pa_cons (pe_op op_cat (pv 2) (pe_lst (pa_cons (pe_op RP1.op_repA (pe_tup (pa_cons pe_int pa_nil)) (pv 1)) pa_nil))) pa_nil)))))))
 (C8.pss_cut (ps_if (pt_cmpR (op_neD hu64) (pv 2) (pe_lst pa_nil) (nomark _)) (pss_cons (ps_set (i := 6) n rfl (.inl rfl) (pe_ix ix_list (pv 2) pe_int (fun _ _ => rfl)))
 (pss_one (ps_expr (pe_bm PySem.F.plainAttrs_list PySem.F.slot_list_append PySem.F.type_list_append mt_append (pv 5) (pa_cons (pe_op op_cat (pe_lst (pa_cons (pe_op op_catA (pe_op op_catA (pe_slice sl_tupA (pv 6) po_none (po_some (pv 4))) (pe_tup (pa_cons (pe_op op_mod (pe_op op_add (pe_ix ix_tup (pv 6) (pv 4) (fun _ _ => rfl)) pe_int) pe_int) pa_nil))) (pe_slice sl_tupA (pv 6) (po_some (pe_op op_add (pv 4) pe_int)) po_none)) pa_nil)) (pe_slice (r := rSlL K) sl_list (pv 2) (po_some pe_int) po_none)) pa_nil))))) pss_nil)
 (C8.pss_cut (ps_for PassesOwn.never rfl (pi_list (pv 5)) (pg_name (i := 7) n rfl (.inl rfl)) (pss_cons (ps_par (i := 8) (j := 9) rfl n rfl rfl (by decide) rfl rfl (pa_cons (ClX.pe_cmeth (pe_glob (v := .ref C) rfl TC.mgC rfl) rd.rD rd.cD GR hr pass0 (pa_cons (pv 1) (pa_cons (pe_call GX hr rfl cX.g cX.kp cX.b .nil pass0 (pa_cons (pv 7) pa_nil)) pa_nil))) (pa_cons (pe_cmpR (op_eqD hu64) (pe_callB (SoD.cr_sortedD hu64) (by rfl) T.srt (by decide +kernel) (pa_cons (pv 7) pa_nil)) (pe_callB (SoD.cr_sortedD hu64) (by rfl) T.srt (by decide +kernel) (pa_cons (pv 2) pa_nil)) (nomark _)) pa_nil)) (by rfl))
 (pss_one (ps_if (pt_not (pt_val (GD.pe_callG GE calm hr rfl cE.g cE.kp cE.b pass0 (pa_cons (pe_lst (pa_cons (pe_cmpR (r := rOwnB C (spTEq K C) E0) (OC.op_eqO eq.fi eq.fn GQ hr pass0) (pv 3) (pv 8) (nomark _)) (pa_cons (pe_cmpR (r := rOwnB C (spTEq K C) E0) (OC.op_eqO eq.fi eq.fn GQ hr pass0) (pv 8) (pv 3) (nomark _)) (pa_cons (pe_cmpR (r := OC.rOwnN C (spTEq K C) E0) (OC.op_neO eq.fi eq.fn eq.ne eq.mo GQ1 hr pass0) (pv 3) (pv 8) (nomark _)) pa_nil)))) (pa_cons (pe_lst (pa_cons (pv 9) (pa_cons (pv 9) (pa_cons (pe_not (pv 9)) pa_nil)))) pa_nil))))) (pss_one (ps_ret pe_bl)) pss_nil))))
 (pss_one (ps_ret (pe_and (pe_cmpR (r := OC.rOwnN C (spTEq K C) E0) (OC.op_neO eq.fi eq.fn eq.ne eq.mo GQ1 hr pass0) (StX.pe_makeR mk.M GM hr rfl TC.mgC pass0 (pa_cons (pv 1) pa_nil)) (StX.pe_makeR mk.M GM hr rfl TC.mgC pass0 (pa_cons (pe_op op_add (pe_op op_mod (pv 1) pe_int) pe_int) pa_nil)) (nomark _)) (pe_one (pe_not (pe_cmpR (r := rOwnB C (spTEq K C) E0) (OC.op_eqO eq.fi eq.fn GQ hr pass0) (StX.pe_makeR mk.M GM hr rfl TC.mgC pass0 (pa_cons (pv 1) pa_nil)) (StX.pe_makeR mk.M GM hr rfl TC.mgC pass0 (pa_cons (pe_op op_add (pe_op op_mod (pv 1) pe_int) pe_int) pa_nil)) (nomark _))))))))))), ?_⟩
    have dgH : DpAll K H us (rs.map gd) := dps_same (wo_le s0) _ _ dg
    have ul : us.length = rs.length := by rw [dps_len dg, List.length_map]
    have rv : ∀ {H' : Hp}, Same H H' → ∀ u ∈ us, RoV K m H' u := fun e => all_of_rows (dps_same e _ _ dgH) ok
    -- the table, the column
    have hrl : us.length = (rs.map some).length ∧ ∀ (i : Nat) v o, us[i]? = some v → (rs.map some)[i]? = some o → RwV K H m v o := ⟨by rw [List.length_map]; exact ul, fun i v o h1 h2 => by
      obtain ⟨r, hr2, dr⟩ := dps_gat dgH h1
      rw [List.getElem?_map, hr2] at h2
      cases h2
      exact ⟨dr, ok r (List.mem_of_getElem? hr2)⟩⟩
    refine ⟨_, rfl, _, rfl, .int (m : Int), g, us, rfl, hg, by omega, .inr ⟨m, rs.map some, rfl, w1, w6, hrl.1, hrl.2, .inr ⟨rs, rfl, fun x H1 s1 nx tx => ?_⟩⟩⟩
    have src1 : Src H1 s0 := by
      obtain ⟨o, h1, h2⟩ := src
      exact ⟨o, s1 _ _ h1, h2⟩
    have xs0 : x ≠ s0 := fun z => by
      obtain ⟨o, h1, _⟩ := src
      rw [z, h1] at nx
      cases nx
    refine ⟨_, rfl, _, rfl, s0, m, rfl, src1, by omega, by omega, fun c H2 hc r2 => ⟨_, _, rfl, ?_⟩⟩
    have r02 : Ran H H2 s0 := ⟨(wo_same s1).trans r2.same, r2.src⟩
    have tx2 : TableAt K C H2 x m rs := by
      have := ta_hid (X := [s0]) (fun b hb => by
        obtain ⟨o, h1, h2⟩ := src1
        obtain ⟨a, b', c', rfl, _⟩ := h2
        rw [List.mem_singleton.mp hb]
        exact ⟨_, h1⟩) tx
      rw [hid_one] at this
      exact (this.same r2.same).same (wo_le s0)
    have hg2 : H2 g = some (.lst us) := r02.at_ hg gs
    have dg2 : DpAll K H2 us (rs.map gd) := dps_same (wo_le s0) _ _ (dps_same r02.same _ _ dg)
    have src2 : Src H2 s0 := r2.src
    clear tx hrl src1
    have rv : ∀ {H' : Hp}, Same H2 H' → ∀ u ∈ us, RoV K m H' u := fun e => all_of_rows (dps_same e _ _ dg2) ok
    have sq2 : ∀ {H' : Hp}, Same H2 H' → SqL K H' g us := fun e => SqL.of (e _ _ hg2)
    have st : Stb (LwV K m) := lwv_stb
    have big : ∀ {n : Nat}, n ≤ 100 → n ≤ sizeLine := fun h => Nat.le_trans h (by decide)
    have cl : ∀ lo hi, (cutV us lo hi).length ≤ 4 := fun lo hi => Nat.le_trans (cut_len _ _ _) (by omega)
    try dsimp only
    refine set_goL (fun v => [some (.ref s0), some (.int (m : Int)), some (.ref g), some (.ref x), some (.int (c : Int)), some v, none, none, none, none]) (fun _ => rfl) ?_
    refine ev_lst (n := 5) (X := []) (P := LwV K m) (B := H2) st (fun _ h => h) (fun b hb => nomatch hb) (by decide) ?_ H2 _ (Same.refl _) fun pnv H3 s3 pl3 => ?_
    · refine eva_cons st (fun H Q s q => ⟨_, rfl, 1, rfl, g, us, rfl, sq2 s, fun p np => q _ _ (same_new np) ⟨p, _, rfl, upd_same, Nat.le_trans (cl _ _) (by decide), fun u hu => rv (s.trans (same_new np)) u (cut_mem hu)⟩⟩) ?_
      refine eva_cons st (fun H Q s q => ⟨_, rfl, g, us, rfl, sq2 s, fun p np => q _ _ (same_new np) ⟨p, _, rfl, upd_same, by rw [List.length_reverse]; omega, fun u hu => rv (s.trans (same_new np)) u (List.mem_reverse.mp hu)⟩⟩) ?_
      refine eva_cons st (fun H Q s q => ⟨_, rfl, _, rfl, 1, rfl, g, us, rfl, sq2 s, fun p np => ⟨g, p, us, _, rfl, rfl, (s.trans (same_new np)) _ _ hg2, upd_same, big (by have := cl none (some 1); omega), fun p2 np2 => q _ _ ((same_new np).trans (same_new np2)) ⟨p2, _, rfl, upd_same, by have := cl none (some 1); rw [List.length_append]; omega, fun u hu => rv (s.trans ((same_new np).trans (same_new np2))) u (by
        rcases List.mem_append.mp hu with hu | hu
        · exact hu
        · exact cut_mem hu)⟩⟩⟩) ?_
      refine eva_cons st (fun H Q s q => ⟨_, rfl, _, rfl, _, rfl, g, us, rfl, sq2 s, fun p np => ⟨_, rfl, 1, rfl, g, us, rfl, sq2 (s.trans (same_new np)), fun p1 np1 => ⟨p, p1, _, _, rfl, rfl, same_new np1 _ _ upd_same, upd_same, big (by have := cl none (some 1); have := cl none (some (-1)); omega), fun p2 np2 => q _ _ ((same_new np).trans ((same_new np1).trans (same_new np2))) ⟨p2, _, rfl, upd_same, by have := cl none (some 1); have := cl none (some (-1)); rw [List.length_append]; omega, fun u hu => rv (s.trans ((same_new np).trans ((same_new np1).trans (same_new np2)))) u (by
        rcases List.mem_append.mp hu with hu | hu
        · exact cut_mem hu
        · exact cut_mem hu)⟩⟩⟩⟩) ?_
      exact eva_cons st (fun H Q s q => ⟨_, rfl, (by show 1 ≤ sizeLine; decide), fun p np => ⟨_, rfl, p, _, _, rfl, rfl, .inl (.inl upd_same), by simp, by omega, by omega, by simp, fun t H4 s4 ht => ⟨(by show 1 ≤ sizeLine; decide), fun p1 np1 => ⟨g, p1, us, _, rfl, rfl, (s.trans ((same_new np).trans (s4.trans (same_new np1)))) _ _ hg2, upd_same, big (by simp; omega), fun p2 np2 => by
        have s5 : Same H (upd (upd H4 p1 (.lst [.ref t])) p2 (.lst (us ++ [.ref t]))) := (same_new np).trans (s4.trans ((same_new np1).trans (same_new np2)))
        refine q _ _ s5 ⟨p2, _, rfl, upd_same, by rw [List.length_append]; simp; omega, fun u hu => ?_⟩
        rcases List.mem_append.mp hu with hu | hu
        · exact rv (s.trans s5) u hu
        · rw [List.mem_singleton.mp hu]
          refine ⟨List.replicate m 7, dp_gd (same_t ((same_new np1).trans (same_new np2)) ?_), by rw [List.length_replicate], fun y hy => by rw [(List.mem_replicate.mp hy).2]; decide⟩
          rw [show nms (List.replicate m 7) = (List.replicate ((m : Int)).toNat [V.int 7]).flatten by
            rw [Int.toNat_natCast]
            simp [nms]]
          exact ht⟩⟩⟩⟩) eva_nil
    obtain ⟨pn, ns, rfl, ⟨_, pn2⟩, hpn, ln, pu⟩ := pl3
    have pns : pn ≠ s0 := fun z => by
      obtain ⟨o, h1, _⟩ := src2
      rw [z, h1] at pn2
      cases pn2
    have gpn : g ≠ pn := ne_of_none hg2 pn2
    have e3 : Same H2 (wo H3 pn) := fun b o e => by
      rw [wo_ne (ne_of_none e pn2)]
      exact s3 _ _ e
    -- one more list
    refine ⟨fun σ' H' => ∃ y6 ns, σ' = [some (.ref s0), some (.int (m : Int)), some (.ref g), some (.ref x), some (.int (c : Int)), some (.ref pn), y6, none, none, none] ∧ Same H2 (wo H' pn) ∧ H' pn = some (.lst ns) ∧ ns.length ≤ 6 ∧ ∀ u ∈ ns, LwV K m (wo H' pn) u, ?_, ?_⟩
    · refine ⟨_, rfl, Nat.zero_le _, fun l0 nl0 => ?_⟩
      have s4 : Same H3 (upd H3 l0 (.lst [])) := same_new nl0
      have hl0 : (upd H3 l0 (.lst [])) l0 = some (.lst []) := upd_same
      generalize upd H3 l0 (.lst []) = H4 at s4 hl0
      have e4 : Same H2 (wo H4 pn) := e3.trans (wo_same s4)
      have s24 : Same H2 H4 := e4.trans (wo_le pn)
      have pu4 : ∀ u ∈ ns, LwV K m (wo H4 pn) u := fun u hu => st _ _ _ (wo_same s4) (pu u hu)
      have hpn4 := s4 _ _ hpn
      refine ⟨.list (rs.map gd), .list [], .lst (SqL.of (s24 _ _ hg2)) (dps_same s24 _ _ dg2), .lst (SqL.of hl0) .nil, RW.gdl_shp _, by decide +kernel, _, rfl, ?_⟩
      cases rs with
      | nil =>
        refine iteF' (by decide +kernel) ?_
        exact ⟨_, ns, rfl, e4, hpn4, by omega, pu4⟩
      | cons r0 rt =>
        have ne0 : PyData.eqv (.list ((r0 :: rt).map gd)) (.list []) = false := by simp [PyData.eqv, PyData.eqvAll]
        refine iteT' (by rw [ne0]; rfl) ?_
        obtain ⟨u0, ut, rfl⟩ : ∃ u0 ut, us = u0 :: ut := by
          cases us with
          | nil => simp at ul
          | cons u0 ut => exact ⟨u0, ut, rfl⟩
        obtain ⟨r0', hr0, d0⟩ := dps_gat dg2 (i := 0) rfl
        cases hr0
        have okr : RowOk m r0 := ok r0 List.mem_cons_self
        obtain ⟨tr, rfl, htr⟩ := gd_at d0
        have row : ∀ {H' : Hp}, Same H2 H' → SqT K H' tr (nms r0) := fun e => same_t e htr
        have cr : c < r0.length := by rw [okr.1]; exact hc
        have atc : atI (nms r0) (c : Int) = some (.int ((r0[c] : Nat) : Int)) := atI_nat (j := c) (by simp [nms, cr])
        refine ⟨_, rfl, g, _, 0, .ref tr, rfl, rfl, sq2 s24, atI_nat (j := 0) rfl, ?_⟩
        try dsimp only
        refine ⟨_, rfl, .inl ⟨rfl, _, SqL.of hpn4⟩, _, rfl, _, rfl, _, rfl, sl_all (row s24) fun t1 H5 s5 ht1 => ?_⟩
        refine ⟨_, rfl, _, rfl, tr, _, _, _, rfl, rfl, row (s24.trans s5), atc, _, _, rfl, rfl, ?_⟩
        have l1 : (cutV (nms r0) none (some (c : Int))).length ≤ 6 := Nat.le_trans (cut_len _ _ _) (by rw [nms_len, okr.1]; exact w6)
        have l2 : (cutV (nms r0) (some ((c : Int) + 1)) none).length ≤ 6 := Nat.le_trans (cut_len _ _ _) (by rw [nms_len, okr.1]; exact w6)
        refine ⟨_, _, rfl, rfl, (by show (0 : Int) < 10000; decide), (by show 1 ≤ sizeLine; decide), fun p1 np1 => ?_⟩
        have s6 : Same H5 (upd H5 p1 (.tup [.int ((((r0[c] : Nat) : Int) + 1) % 10000)])) := same_new np1
        refine cat_all (same_t s6 ht1) (.inl (.inl upd_same)) (Nat.le_trans (Nat.add_le_add l1 (Nat.le_refl _)) (show 6 + 1 ≤ sizeLine by decide)) fun t2 H6 s7 ht2 => ?_
        have s46 : Same H4 H6 := s5.trans (s6.trans s7)
        clear s5 s6 s7 ht1 np1
        refine ⟨_, rfl, _, rfl, _, _, rfl, rfl, _, rfl, ?_⟩
        delta tNoPart
        refine sl_all (row (s24.trans s46)) fun t3 H7 s7 ht3 => ?_
        refine cat_all (same_t s7 ht2) ht3 (Nat.le_trans (Nat.add_le_add (show (cutV (nms r0) none (some (c : Int)) ++ [V.int ((((r0[c] : Nat) : Int) + 1) % 10000)]).length ≤ 7 by rw [List.length_append]; simp; omega) l2) (show 7 + 6 ≤ sizeLine by decide)) fun t4 H8 s8 ht4 => ?_
        have s48 : Same H4 H8 := s46.trans (s7.trans s8)
        have okn : RowOk m (r0.take c ++ [(r0[c] + 1) % 10000] ++ r0.drop (c + 1)) := by
          refine ⟨?_, fun y hy => ?_⟩
          · have := okr.1
            simp
            omega
          · simp only [List.mem_append, List.mem_singleton] at hy
            rcases hy with (hy | hy) | hy
            · exact okr.2 y (List.mem_of_mem_take hy)
            · omega
            · exact okr.2 y (List.mem_of_mem_drop hy)
        have hn4 : SqT K H8 t4 (nms (r0.take c ++ [(r0[c] + 1) % 10000] ++ r0.drop (c + 1))) := by
          have e : nms (r0.take c ++ [(r0[c] + 1) % 10000] ++ r0.drop (c + 1)) = cutV (nms r0) none (some (c : Int)) ++ [V.int ((((r0[c] : Nat) : Int) + 1) % 10000)] ++ cutV (nms r0) (some ((c : Int) + 1)) none := by
            rw [cut_to, show ((c : Int) + 1) = ((c + 1 : Nat) : Int) by omega, cut_from, nms_app, nms_app]
            unfold nms
            rw [List.map_take, List.map_drop]
            rfl
          rw [e]
          exact ht4
        clear ht4 ht3 ht2 s7 s8 s46 l1 l2
        refine ⟨(by show 1 ≤ sizeLine; decide), fun p2 np2 => ⟨_, rfl, 1, rfl, g, _, rfl, sq2 (s24.trans (s48.trans (same_new np2))), fun p3 np3 => ?_⟩⟩
        have lc := cl (some 1) none
        refine ⟨p2, p3, _, _, rfl, rfl, same_new np3 _ _ upd_same, upd_same, big (by simp; omega), fun p4 np4 => ?_⟩
        have s49 := s48.trans ((same_new (o := .lst [.ref t4]) np2).trans ((same_new (o := .lst (cutV (.ref tr :: ut) (some 1) none)) np3).trans (same_new (o := .lst ([.ref t4] ++ cutV (.ref tr :: ut) (some 1) none)) np4)))
        have s89 := (same_new (o := .lst [.ref t4]) np2).trans ((same_new (o := .lst (cutV (.ref tr :: ut) (some 1) none)) np3).trans (same_new (o := .lst ([.ref t4] ++ cutV (.ref tr :: ut) (some 1) none)) np4))
        have h4 : (upd (upd (upd H8 p2 (.lst [.ref t4])) p3 (.lst (cutV (.ref tr :: ut) (some 1) none))) p4 (.lst ([.ref t4] ++ cutV (.ref tr :: ut) (some 1) none))) p4 = some (.lst ([.ref t4] ++ cutV (.ref tr :: ut) (some 1) none)) := upd_same
        have n4 : p4 ≠ pn := (ne_of_none ((same_new (o := .lst (cutV (.ref tr :: ut) (some 1) none)) np3) _ _ ((same_new (o := .lst [.ref t4]) np2) _ _ (s48 _ _ hpn4))) np4).symm
        generalize upd (upd (upd H8 p2 (.lst [.ref t4])) p3 (.lst (cutV (.ref tr :: ut) (some 1) none))) p4 (.lst ([.ref t4] ++ cutV (.ref tr :: ut) (some 1) none)) = H9 at s49 s89 h4
        have hpn9 := s49 _ _ hpn4
        have wt : SameT H9 (wo H9 pn) := wo_T hpn9
        refine ⟨pn, ns, .ref p4, rfl, rfl, hpn9, small1000 (by omega), ?_⟩
        refine ⟨_, ns ++ [.ref p4], rfl, ?_, upd_same, by rw [List.length_append, ln]; simp, fun u hu => ?_⟩
        · rw [wo_upd]
          exact e4.trans (wo_same s49)
        · rw [wo_upd]
          rcases List.mem_append.mp hu with hu | hu
          · exact st _ _ _ (wo_same s49) (pu4 u hu)
          · rw [List.mem_singleton.mp hu]
            refine ⟨p4, _, rfl, by rw [wo_ne n4]; exact h4, by rw [List.length_append]; simp; omega, fun z hz => ?_⟩
            rcases List.mem_append.mp hz with hz | hz
            · rw [List.mem_singleton.mp hz]
              exact ⟨_, gd_T wt (dp_gd (same_t s89 hn4)), okn⟩
            · obtain ⟨r, d, o⟩ := rv (s24.trans s49) z (cut_mem hz)
              exact ⟨r, gd_T wt d, o⟩
    rintro σ' H5 ⟨y6, ns', rfl, e5, hpn5, ln5, pu5⟩
    clear e3 pu hpn s3
    have s25 : Same H2 H5 := e5.trans (wo_le pn)
    have r05 : Ran H H5 s0 := r02.grow s25
    have tx5 := tx2.same s25
    have dg5 := dps_same s25 _ _ dg2
    have hg5 := s25 _ _ hg2
    have pu5' : ∀ u ∈ ns', LwV K m H5 u := fun u hu => st _ _ _ (wo_le pn) (pu5 u hu)
    refine ⟨fun σ' H' => ∃ y6 y7 y8 y9, σ' = [some (.ref s0), some (.int (m : Int)), some (.ref g), some (.ref x), some (.int (c : Int)), some (.ref pn), y6, y7, y8, y9] ∧ Same H5 H', ?_, ?_⟩
    · refine ⟨_, rfl, pn, rfl, ⟨_, SqL.of hpn5⟩, ?_⟩
      refine for_list (xs := ns') (fun i σ' H' => ∃ y6 y7 y8 y9, σ' = [some (.ref s0), some (.int (m : Int)), some (.ref g), some (.ref x), some (.int (c : Int)), some (.ref pn), y6, y7, y8, y9] ∧ Same H5 H') ⟨_, _, _, _, rfl, Same.refl _⟩ (fun i σ' H' _ z => by
        obtain ⟨_, _, _, _, _, e⟩ := z
        exact SqL.of (e _ _ hpn5)) ?_ ?_
      · rintro i v σ' H6 hv ⟨y6, y7, y8, y9, rfl, s6⟩
        obtain ⟨l, xs, rfl, hl, lx, px⟩ := st _ _ _ s6 (pu5' v (List.mem_of_getElem? hv))
        obtain ⟨ts, dt, okt⟩ := rows_of_all px
        have tl : ts.length ≤ 8 := by
          have := dps_len dt
          rw [List.length_map] at this
          omega
        refine nm_go ?_
        refine ⟨rfl, _, rfl, _, rfl, l, xs, m, ts, rfl, SqL.of hl, dt, w6, okt, by omega, fun H7 s7 => ?_⟩
        refine ⟨m, ts, rfl, w1, w6, okt, by omega, fun y H8 s8 ny ty => ?_⟩
        have s78 := s7.trans s8
        refine ⟨_, rfl, l, xs, ts.map gd, rfl, SqL.of (s78 _ _ hl), dps_same s78 _ _ dt, gds_alike ts, gds_sortable w1 okt, gds_dep ts, fun zs p1 dz np1 => ?_⟩
        have s9 : Same H8 (upd H8 p1 (.lst zs)) := same_new np1
        have hp1 : (upd H8 p1 (.lst zs)) p1 = some (.lst zs) := upd_same
        have dz9 := dps_same s9 _ _ dz
        generalize upd H8 p1 (.lst zs) = H9 at s9 hp1 dz9
        have s69 := s78.trans s9
        have s59 := s6.trans s69
        refine ⟨_, rfl, g, us, rs.map gd, rfl, SqL.of (s59 _ _ hg5), dps_same s59 _ _ dg5, gds_alike rs, gds_sortable w1 ok, gds_dep rs, fun zs2 p2 dz2 np2 => ?_⟩
        have s10 : Same H9 (upd H9 p2 (.lst zs2)) := same_new np2
        have hp2 : (upd H9 p2 (.lst zs2)) p2 = some (.lst zs2) := upd_same
        have dz10 := dps_same s10 _ _ dz2
        generalize upd H9 p2 (.lst zs2) = H10 at s10 hp2 dz10
        have key := rows_sort ts rs
        obtain ⟨L1, e1⟩ := sort_gd ts
        obtain ⟨L2, e2⟩ := sort_gd rs
        rw [e1] at dz9 key
        rw [e2] at dz10 key
        refine ⟨.list (L1.map gd), .list (L2.map gd), .lst (SqL.of (s10 _ _ hp1)) (dps_same s10 _ _ dz9), .lst (SqL.of hp2) dz10, RW.gdl_shp _, RW.gdl_shp _, _, _, rfl, ?_⟩
        obtain ⟨sm, hsm, hk⟩ : ∃ sm : Bool, PyData.eqv (.list (L1.map gd)) (.list (L2.map gd)) = sm ∧ (sm = true ↔ ts.Perm rs) := by
          refine ⟨_, rfl, ?_⟩
          show PyData.eqvAll (L1.map gd) (L2.map gd) = true ↔ _
          rw [gdl_eqv, decide_eq_true_iff, ← key]
          constructor
          · intro z
            rw [z]
          · intro z
            have z2 := congrArg (List.map ungd) z
            rw [List.map_map, List.map_map, show ungd ∘ gd = id from funext ungd_gd, List.map_id, List.map_id] at z2
            exact z2
        rw [hsm]
        clear hsm key e1 e2 dz9 dz10 dz dz2
        have s8t := s9.trans s10
        have ty10 := ty.same s8t
        have s510 := s59.trans s10
        have tx10 := tx5.same s510
        obtain ⟨dx, gx, _, x1, _⟩ := id tx10
        obtain ⟨dy, gy, _, y1, _⟩ := id ty10
        refine ⟨_, rfl, _, rfl, x, dx, _, y, dy, _, rfl, rfl, x1, y1, x, y, m, m, rs, ts, rfl, tx10, ty10, w1, ok, okt, fun b1 H11 s11 hb1 => ?_⟩
        refine ⟨_, rfl, _, rfl, y, dy, _, x, dx, _, rfl, rfl, s11 _ _ y1, s11 _ _ x1, y, x, m, m, ts, rs, rfl, ty10.same s11, tx10.same s11, w1, okt, ok, fun b2 H12 s12 hb2 => ?_⟩
        have s012 := s11.trans s12
        refine ⟨_, rfl, _, rfl, x, dx, _, y, dy, _, rfl, rfl, s012 _ _ x1, s012 _ _ y1, x, y, m, m, rs, ts, rfl, tx10.same s012, ty10.same s012, w1, ok, okt, fun b3 H13 s13 hb3 => ⟨b3, rfl, ?_⟩⟩
        have f1 : b1 = sm := Bool.eq_iff_iff.mpr (hb1.trans ⟨fun z => hk.mpr z.2.symm, fun z => ⟨rfl, (hk.mp z).symm⟩⟩)
        have f2 : b2 = sm := Bool.eq_iff_iff.mpr (hb2.trans ⟨fun z => hk.mpr z.2, fun z => ⟨rfl, hk.mp z⟩⟩)
        have f3 : b3 = sm := Bool.eq_iff_iff.mpr (hb3.trans ⟨fun z => hk.mpr z.2.symm, fun z => ⟨rfl, (hk.mp z).symm⟩⟩)
        subst f1 f2 f3
        clear hb1 hb2 hb3 hk
        refine ⟨(by show 3 ≤ sizeLine; decide), fun l9 nl9 => ?_⟩
        have s14 : Same H13 (upd H13 l9 (.lst [.bl b3, .bl b3, .bl (!b3)])) := same_new nl9
        have hl9 : (upd H13 l9 (.lst [.bl b3, .bl b3, .bl (!b3)])) l9 = some (.lst [.bl b3, .bl b3, .bl (!b3)]) := upd_same
        generalize upd H13 l9 (.lst [.bl b3, .bl b3, .bl (!b3)]) = H14 at s14 hl9
        refine ⟨_, rfl, _, rfl, _, rfl, _, rfl, (by show 3 ≤ sizeLine; decide), fun l10 nl10 => ?_⟩
        have s15 : Same H14 (upd H14 l10 (.lst [.bl b3, .bl b3, .bl (!b3)])) := same_new nl10
        have hl10 : (upd H14 l10 (.lst [.bl b3, .bl b3, .bl (!b3)])) l10 = some (.lst [.bl b3, .bl b3, .bl (!b3)]) := upd_same
        generalize upd H14 l10 (.lst [.bl b3, .bl b3, .bl (!b3)]) = H15 at s15 hl10
        refine ⟨.ref l9, .ref l10, .list [.bool b3, .bool b3, .bool (!b3)], rfl, .lst (SqL.of (s15 _ _ hl9)) (.cons (.bl _) (.cons (.bl _) (.cons (.bl _) .nil))), .lst (SqL.of hl10) (.cons (.bl _) (.cons (.bl _) (.cons (.bl _) .nil))), ?_, _, rfl, iteF ?_⟩
        · refine (GD.SD.list (m := 0) (n := 0) (k := 3) (fun d hd => ?_) (by show 3 ≤ 3; decide)).up (by decide) (by decide)
          rcases List.mem_cons.mp hd with rfl | hd
          · exact GD.SD.bl _
          rcases List.mem_cons.mp hd with rfl | hd
          · exact GD.SD.bl _
          rcases List.mem_cons.mp hd with rfl | hd
          · exact GD.SD.bl _
          · cases hd
        exact ⟨_, _, _, _, rfl, s510.trans (s012.trans (s13.trans (s14.trans s15)))⟩
      · rintro σ' H6 ⟨y6, y7, y8, y9, rfl, s6⟩
        exact ⟨_, _, _, _, rfl, s6⟩
    rintro σ' H6 ⟨y6, y7, y8, y9, rfl, s6⟩
    -- tables of other widths
    have wz : ((m : Int) % 6 + 1) = ((m % 6 + 1 : Nat) : Int) := by omega
    have wne : m ≠ m % 6 + 1 := by omega
    have noR : ∀ r ∈ ([] : List (List Nat)), RowOk m r := fun r h => nomatch h
    have two : ∀ (H : Hp) (Q : V → V → Hp → Prop), (∀ xa xb H', Same H H' → TableAt K C H' xa m [] → TableAt K C H' xb (m % 6 + 1) [] → Q (.ref xa) (.ref xb) H') → (StX.tMakeR C (spTInitR K C) E0 (tCons (tVar 1) tNil)) [some (.ref s0), some (.int (m : Int)), some (.ref g), some (.ref x), some (.int (c : Int)), some (.ref pn), y6, y7, y8, y9] H fun u H1 => (StX.tMakeR C (spTInitR K C) E0 (tCons (tOp (rI0 fun i j => .int (i + j)) (tOp (rI (fun _ j => 0 < j) fun i j => .int (i % j)) (tVar 1) (tC (.int 6))) (tC (.int 1))) tNil)) [some (.ref s0), some (.int (m : Int)), some (.ref g), some (.ref x), some (.int (c : Int)), some (.ref pn), y6, y7, y8, y9] H1 fun v H2 => Q u v H2 := fun H Q q => by
      refine ev_mkT (K := K) (C := C) (H0 := H) (ta := tCons (tVar 1) tNil) (E := E0) m w1 w6 (fun H Q q => ⟨_, rfl, q⟩) H _ (Same.refl _) fun u Ha sa hu => ?_
      obtain ⟨xa, rfl, ta⟩ := hu
      refine ev_mkT (K := K) (C := C) (H0 := Ha) (ta := tCons (tOp (rI0 fun i j => .int (i + j)) (tOp (rI (fun _ j => 0 < j) fun i j => .int (i % j)) (tVar 1) (tC (.int 6))) (tC (.int 1))) tNil) (E := E0) (m % 6 + 1) (by omega) (by omega) (fun H Q q => ⟨_, rfl, _, _, rfl, rfl, (by show (0 : Int) < 6; decide), _, _, rfl, rfl, by
        dsimp only
        rw [wz]
        exact q⟩) Ha _ (Same.refl _) fun v Hb sb hv => ?_
      obtain ⟨xb, rfl, tb⟩ := hv
      exact q xa xb Hb (sa.trans sb) (ta.same sb) tb
    refine ao_go (two H6 _ fun xa xb Ha sa ta tb => ?_)
    obtain ⟨da, ga, _, a1, _⟩ := id ta
    obtain ⟨db, gb, _, b1, _⟩ := id tb
    refine ⟨xa, da, _, xb, db, _, rfl, rfl, a1, b1, xa, xb, m, m % 6 + 1, [], [], rfl, ta, tb, w1, (fun r h => nomatch h), (fun r h => nomatch h), fun c1 Hc sc hc1 => ⟨c1, rfl, ?_⟩⟩
    have z1 : c1 = false := by
      cases c1 with
      | false => rfl
      | true => exact absurd (hc1.mp rfl).1 wne
    subst z1
    refine ⟨_, rfl, iteT ?_⟩
    refine no_go (two Hc _ fun xd xe Hd sd td te => ?_)
    obtain ⟨dd, gd_, _, d1, _⟩ := id td
    obtain ⟨de, ge, _, e1, _⟩ := id te
    refine ⟨xd, dd, _, xe, de, _, rfl, rfl, d1, e1, xd, xe, m, m % 6 + 1, [], [], rfl, td, te, w1, (fun r h => nomatch h), (fun r h => nomatch h), fun c2 Hf sf hc2 => ?_⟩
    have z2 : c2 = false := by
      cases c2 with
      | false => rfl
      | true => exact absurd (hc2.mp rfl).1 wne
    subst z2
    exact ⟨_, rfl, q Hf (r05.grow (s6.trans (sa.trans (sc.trans (sd.trans sf)))))⟩
end
end CC
/-! ### plain value == an instance with its own == -/
namespace PySem.W
open PySem PySem.Spec PyProof.Rows
section
variable {prog : Program} {w : World} {A : Around} {E : Value → Shared → Prop} {s : Shared} {K : Frag} {x C L f : Addr} {h₀ : Heap} {m : Str → Option Value} {ox : Obj} {od : Option Obj}
theorem rc_own_right {a : Value} {Ta ida : String} {Q : Value → Shared → Prop} (hu : A.units < cLine) (F : Fr h₀ L s.heap m) (X₀ : K.In h₀) (I : InstAt s.heap x ox C od) (ha : s.TypeIs a Ta) (hsub : subIn K (.ref C) (.type Ta) = some false) (h1 : Slot Ta (cmpInfo .Eq).2.1 ida)
    (hc1 : ∀ Q' : Value → Shared → Prop, Q' .notImplemented s → wpAny (model prog w) A (call (.builtin ida) [a, .ref x]) Q' E s)
    (hs : findIn K (.ref C) (cmpInfo .Eq).2.2 = some (some (.ref f))) (hf : isFn K (.ref f) = true)
    (h : wpAny (model prog w) A (call (.ref f) [.ref x, a]) (CmpBack Q) E s) : wpAny (model prog w) A (richCompare .Eq a (.ref x)) Q E s := by
  have X := X₀.keeps F.keep
  have one : wpAny (model prog w) A (tryCompare (.ref x) (cmpInfo .Eq).2.2 a) (fun r s' => ∃ v, r = some v ∧ Q v s') E s := by
    unfold tryCompare
    refine wpAny_bind (ifBound_K X I hs hf (wpAny_mono h (fun v s' hv => ?_) fun _ _ e => e))
    cases v <;> first | exact hv.elim | exact wpAny_pure ⟨_, rfl, hv⟩
  rcases hi : cmpInfo CmpOp.Eq with ⟨sym, fn, r⟩
  rw [hi] at h1 one
  simp only [richCompare, hi, ha.oneThing_none]
  try with_reducible refine wpAny_holding ?_
  refine wpAny_bind (wpAny_cRoomFor hu ?_)
  refine wpAny_bind (wpAny_typeOf ha (wpAny_bind (I.type.here ?_)))
  have hne : (Value.type Ta != Value.ref C) = true := by simp
  simp only [hne, if_true]
  refine wpAny_bind ((looks_subIn X hsub).here ?_)
  simp only [Bool.false_eq_true, if_false, Bool.not_false, if_true]
  refine wpAny_bind (m := tryCompare a _ (.ref x)) (wpAny_tryCompare_declines ha h1 (hc1 _ ⟨rfl, ?_⟩))
  refine wpAny_bind (m := tryCompare (.ref x) _ a) (wpAny_mono one (fun r' s' z => ?_) fun _ _ e => e)
  obtain ⟨v, rfl, hq⟩ := z
  exact wpAny_pure hq
end
end PySem.W
namespace CC
open PySem PySem.SeqAt L2 PyProof.Rows GQ
open AutoSeq1 (wpAny_loadPart')
section
variable {prog : Program} {w : World} {A : Around} {E : Value → Shared → Prop} {s : Shared} {Q : Value → Shared → Prop} {x : Addr}
theorem dec_list {l : Addr} {items : Array Value} {n : Nat} {dd : Option Addr} {sl : Array (Option Value)} (hl : s.heap.get? l = some { cls := .type "list", dict := dd, data := .seq items n, slots := sl }) (hin : PySem.W.Looks (model prog w) s.heap (isInstance (.ref x) (.type "list")) false) (q : Q .notImplemented s) :
    wpAny (model prog w) A (call (.builtin "list.__eq__") [.ref l, .ref x]) Q E s := by
  refine GQ.call_here F.slot_list_eq ⟨_, hl, rfl⟩ F.entry_list_eq (F.args_list_eq_2 _ _) ?_
  obtain ⟨hp, g, d, tk, os⟩ := s
  wp_walk using wpAny_loadPart' hl, hin.here
  exact q
theorem dec_tuple {l : Addr} {items : Array Value} {n : Nat} {dd : Option Addr} {sl : Array (Option Value)} (hl : s.heap.get? l = some { cls := .type "tuple", dict := dd, data := .seq items n, slots := sl }) (hin : PySem.W.Looks (model prog w) s.heap (isInstance (.ref x) (.type "tuple")) false) (q : Q .notImplemented s) :
    wpAny (model prog w) A (call (.builtin "tuple.__eq__") [.ref l, .ref x]) Q E s := by
  refine GQ.call_here F.slot_tuple_eq ⟨_, hl, rfl⟩ F.entry_tuple_eq (F.args_tuple_eq_2 _ _) ?_
  obtain ⟨hp, g, d, tk, os⟩ := s
  wp_walk using wpAny_loadPart' hl, hin.here
  exact q
theorem dec_dict {l : Addr} {es : Array DictEntry} {n : Nat} {dd : Option Addr} {sl : Array (Option Value)} (hl : s.heap.get? l = some { cls := .type "dict", dict := dd, data := .dict es n, slots := sl }) (hin : PySem.W.Looks (model prog w) s.heap (isInstance (.ref x) (.type "dict")) false) (q : Q .notImplemented s) :
    wpAny (model prog w) A (call (.builtin "dict.__eq__") [.ref l, .ref x]) Q E s := by
  refine GQ.call_here F.slot_dict_eq ⟨_, hl, rfl⟩ F.entry_dict_eq (F.args_dict_eq_2 _ _) ?_
  obtain ⟨hp, g, d, tk, os⟩ := s
  wp_walk using wpAny_loadPart' hl, hin.here
  exact q
theorem dec_str {z : Str} {t : Tok} {C dx : Addr} (hx : s.heap.get? x = some (PySem.W.instObj C dx)) (q : Q .notImplemented s) :
    wpAny (model prog w) A (call (.builtin "str.__eq__") [.str z t, .ref x]) Q E s := by
  refine GQ.call_here F.slot_str_eq rfl F.entry_str_eq (F.args_str_eq_2 _ _) ?_
  obtain ⟨hp, g, d, tk, os⟩ := s
  unfold PySem.W.instObj at hx
  wp_walk using wpAny_loadPart' hx
  exact q
theorem dec_int {i : Int} {t : Tok} {C dx : Addr} (hx : s.heap.get? x = some (PySem.W.instObj C dx)) (q : Q .notImplemented s) :
    wpAny (model prog w) A (call (.builtin "int.__eq__") [.int i t, .ref x]) Q E s := by
  refine GQ.call_here F.slot_int_eq rfl F.entry_int_eq (F.args_int_eq_2 _ _) ?_
  obtain ⟨hp, g, d, tk, os⟩ := s
  unfold PySem.W.instObj at hx
  wp_walk using wpAny_loadPart' hx
  exact q
theorem dec_bool {b : Bool} {C dx : Addr} (hx : s.heap.get? x = some (PySem.W.instObj C dx)) (q : Q .notImplemented s) :
    wpAny (model prog w) A (call (.builtin "int.__eq__") [.bool b, .ref x]) Q E s := by
  refine GQ.call_here F.slot_bool_eq rfl F.entry_int_eq (F.args_int_eq_2 _ _) ?_
  obtain ⟨hp, g, d, tk, os⟩ := s
  unfold PySem.W.instObj at hx
  wp_walk using wpAny_loadPart' hx
  exact q
theorem dec_none (q : Q .notImplemented s) :
    wpAny (model prog w) A (call (.builtin "NoneType.__eq__") [.none, .ref x]) Q E s := by
  refine GQ.call_here F.slot_NoneType_eq rfl F.entry_NoneType_eq (F.args_NoneType_eq_2 _ _) ?_
  obtain ⟨hp, g, d, tk, os⟩ := s
  wp_walk
  exact q
end
end CC
namespace CC
open PySem L2 TL
/-! ### an own == beside other values -/
/-- an own == beside what is no instance of the class -/
def spEqN (K : PySem.W.Frag) (C : Addr) : Sp := fun vs H Q _ => ∃ (a dx : Addr) (fs : List (Str × V)) (y : V), vs = [.ref a, y] ∧ H a = some (.ins C dx fs) ∧ NTy K C H y ∧ Q (.bl false) H
structure EqN (P : Program) (w : World) (K : PySem.W.Frag) (mg : Str → Option Value) (base : Heap) (C : Addr) where
  f : Addr
  fi : PySem.W.findIn K (.ref C) "__eq__" = some (some (.ref f))
  fn : PySem.W.isFn K (.ref f) = true
  nf : PySem.W.notFirst K C (.type "tuple") = true
  nt : PySem.W.kitOne K (.type "tuple") (.ref C) = some false
  ok : ∀ k, 1 ≤ k → FnR P w K mg base CX0 k f (spEqN K C)
end CC
/-! ### x == y, x plain, y an instance with its own == -/
namespace CC
open PySem L2 TL PyProof.Rows
/-- a plain value: none, a bool, an int, a text, a list, a tuple, {} -/
inductive PlV (K : PySem.W.Frag) (H : Hp) : V → Prop where
  | non : PlV K H .non
  | bl (b : Bool) : PlV K H (.bl b)
  | int (i : Int) : PlV K H (.int i)
  | str (z : Str) : PlV K H (.str z)
  | lst {a : Addr} {xs : List V} (h : H a = some (.lst xs)) : PlV K H (.ref a)
  | tup {a : Addr} {xs : List V} (h : SqT K H a xs) : PlV K H (.ref a)
  | dic {a : Addr} (h : H a = some (.dK [])) : PlV K H (.ref a)
/-- the class is below none of the plain kinds -/
structure SubN (K : PySem.W.Frag) (C : Addr) : Prop where
  no : NoIns K C
  sub : ∀ n ∈ (["NoneType", "bool", "int", "str", "list", "tuple", "dict"] : List String), PySem.W.subIn K (.ref C) (.type n) = some false
def rEqRO (K : PySem.W.Frag) (C : Addr) : R2 := fun x y H Q => ∃ b dx fs, y = .ref b ∧ H b = some (.ins C dx fs) ∧ PlV K H x ∧ Q (.bl false) H
section
variable {X : Cx} {C : Addr} {k : Nat}
theorem PlV.nty {K : PySem.W.Frag} {H : Hp} {x : V} (no : NoIns K C) (h : PlV K H x) : NTy K C H x := by
  cases h with
  | non => exact ⟨_, .base .non, no.kit "NoneType" (by decide)⟩
  | bl b => exact ⟨_, .base (.bl b), no.kit "bool" (by decide)⟩
  | int i => exact ⟨_, .base (.int i), no.kit "int" (by decide)⟩
  | str z => exact ⟨_, .base (.str z), no.kit "str" (by decide)⟩
  | lst h => exact ⟨_, .base (.lst h), no.kit "list" (by decide)⟩
  | tup h => exact ⟨_, ty_tup h, no.kit "tuple" (by decide)⟩
  | dic h => exact ⟨_, .base (.dK h), no.kit "dict" (by decide)⟩
theorem op_eqRO (EN : EqN X.prog X.w X.K X.mg X.base C) (sn : SubN X.K C) (hr : Room (k + 1) X.A) (hx : Passes CX0 X fun _ _ _ => False) : OpR X (compareOp .Eq) (rEqRO X.K C) := by
  intro pins s σ H x y v u Q I rx ry h
  obtain ⟨b, dx, fs, rfl, hb, pl, q⟩ := h
  cases (show u = Value.ref b from ry)
  obtain ⟨mA, J, _⟩ := ins_get I.hok hb
  have hob := J.obj
  obtain ⟨od, J, _⟩ := J.look
  obtain ⟨m, hF⟩ := I.fr
  have X₀ := I.ok.mod.kin
  have Xk := X₀.keeps hF.keep
  have fin : wpAny (model X.prog X.w) X.A (call (.ref EN.f) [.ref b, v]) (PySem.W.CmpBack (fun w s' => ∃ z H', L2.Inv X pins σ H' s' ∧ RelV z w ∧ Q z H')) X.xe s := by
    refine wpAny_mono (wpAny_call (run_fnR (us := [.ref b, v]) (vs := [.ref b, x]) (EN.ok (k + 1) (by omega)) hr hx I (.cons rfl (.cons rx .nil)) ⟨b, dx, fs, _, rfl, hb, pl.nty sn.no, q⟩)) (fun w s' z => ?_) fun _ _ x => x
    obtain ⟨z', H', I', rz, qz⟩ := z
    exact SlX.cmpback rz ⟨z', H', I', rz, qz⟩
  have isN : ∀ n ∈ (["NoneType", "bool", "int", "str", "list", "tuple", "dict"] : List String), PySem.W.Looks (model X.prog X.w) s.heap (isInstance (.ref b) (.type n)) false := fun n hn => J.type.andThen (PySem.W.looks_subIn Xk (sn.sub n hn))
  cases pl with
  | non =>
    cases rx
    exact PySem.W.rc_own_right hr.units0 hF X₀ J (Ta := "NoneType") rfl (sn.sub _ (by decide)) F.slot_NoneType_eq (fun Q' q' => dec_none q') EN.fi EN.fn fin
  | bl b' =>
    cases rx
    exact PySem.W.rc_own_right hr.units0 hF X₀ J (Ta := "bool") rfl (sn.sub _ (by decide)) F.slot_bool_eq (fun Q' q' => dec_bool hob q') EN.fi EN.fn fin
  | int i =>
    obtain ⟨t, rfl⟩ := rx
    exact PySem.W.rc_own_right hr.units0 hF X₀ J (Ta := "int") rfl (sn.sub _ (by decide)) F.slot_int_eq (fun Q' q' => dec_int hob q') EN.fi EN.fn fin
  | str z =>
    obtain ⟨t, rfl⟩ := rx
    exact PySem.W.rc_own_right hr.units0 hF X₀ J (Ta := "str") rfl (sn.sub _ (by decide)) F.slot_str_eq (fun Q' q' => dec_str hob q') EN.fi EN.fn fin
  | lst h =>
    cases rx
    obtain ⟨_, its, n, _, _, e⟩ := I.lstM h
    exact PySem.W.rc_own_right hr.units0 hF X₀ J (Ta := "list") ⟨_, e, rfl⟩ (sn.sub _ (by decide)) F.slot_list_eq (fun Q' q' => dec_list e (isN "list" (by decide)) q') EN.fi EN.fn fin
  | tup h =>
    cases rx
    obtain ⟨its, _, ⟨⟨cls, dd, data, sl⟩, e, hc, n, hd⟩, _⟩ := I.tuple h
    simp only at hc hd
    subst hc hd
    exact PySem.W.rc_own_right hr.units0 hF X₀ J (Ta := "tuple") ⟨_, e, rfl⟩ (sn.sub _ (by decide)) F.slot_tuple_eq (fun Q' q' => dec_tuple e (isN "tuple" (by decide)) q') EN.fi EN.fn fin
  | dic h =>
    cases rx
    obtain ⟨_, ne, vs, kv, ⟨cls, dd, data, sl⟩, es, ep, e, ed, hd, _⟩ := dk_of I.hok h
    have hc := ed.1
    simp only at hc hd
    subst hc hd
    exact PySem.W.rc_own_right hr.units0 hF X₀ J (Ta := "dict") ⟨_, e, rfl⟩ (sn.sub _ (by decide)) F.slot_dict_eq (fun Q' q' => dec_dict e (isN "dict" (by decide)) q') EN.fi EN.fn fin
end
end CC
/-! ### x == y, x != y, x an instance with its own ==, y plain -/
namespace PySem.W
open PySem PySem.Spec PyProof.Rows
section
variable {prog : Program} {w : World} {A : Around} {E : Value → Shared → Prop} {s : Shared} {K : Frag} {x C f L : Addr} {h₀ : Heap} {m : Str → Option Value} {ox : Obj} {od : Obj} {b : Value} {n : String}
theorem ne_plain {Q : Value → Shared → Prop} (hu : A.units + 1 < cLine) (F : Fr h₀ L s.heap m) (X₀ : K.In h₀) (I : InstAt s.heap x ox C od) (hb : Looks (model prog w) s.heap (typeOf b) (.type n)) (hs : subIn K (.type n) (.ref C) = some false)
    (hr : findIn K (.ref C) "__eq__" = some (some (.ref f))) (hf : isFn K (.ref f) = true) (hn : findIn K (.ref C) "__ne__" = some (some (.builtin "object.__ne__"))) (hm : mroIn K C (.type "object") = some true)
    (h : wpAny (model prog w) A.in1 (call (.ref f) [.ref x, b]) (BoolBack fun r s' => Q (.bool (!r)) s') E s) : wpAny (model prog w) A (richCompare .NotEq (.ref x) b) Q E s := by
  have X := X₀.keeps F.keep
  have one : wpAny (model prog w) A (tryCompare (.ref x) (cmpInfo .NotEq).2.1 b) (fun r s' => ∃ v, r = some v ∧ Q v s') E s := by
    unfold tryCompare
    refine wpAny_bind (OC.ifBound_b X I hn PySem.F.slot_object_ne.bind (OC.call_ne hu X I hm hr hf (wpAny_mono h (fun v s' hv => ?_) fun _ _ e => e)))
    cases v <;> first | exact hv.elim | exact wpAny_pure ⟨_, rfl, hv⟩
  unfold richCompare
  simp only [oneThing_ref]
  refine wpAny_holding (wpAny_bind (wpAny_cRoomFor (Nat.lt_of_succ_lt hu) ?_))
  refine wpAny_bind (I.type.here (wpAny_bind (hb.here ?_)))
  rw [show (Value.ref C != Value.type n) = true from by simp]
  simp only [if_true]
  refine wpAny_bind ((looks_subIn X hs).here ?_)
  simp only [Bool.false_eq_true, if_false]
  refine wpAny_bind (wpAny_mono one (fun r s' z => ?_) fun _ _ e => e)
  obtain ⟨v, rfl, hq⟩ := z
  exact wpAny_pure hq
end
end PySem.W
namespace CC
open PySem L2 TL PyProof.Rows
theorem PlV.ty {K : PySem.W.Frag} {H : Hp} {x : V} (h : PlV K H x) : ∃ n, n ∈ OC.oddTys ∧ TyX K H x (.type n) := by
  cases h with
  | non => exact ⟨_, by decide, .base .non⟩
  | bl b => exact ⟨_, by decide, .base (.bl b)⟩
  | int i => exact ⟨_, by decide, .base (.int i)⟩
  | str z => exact ⟨_, by decide, .base (.str z)⟩
  | lst h => exact ⟨_, by decide, .base (.lst h)⟩
  | tup h => exact ⟨_, by decide, ty_tup h⟩
  | dic h => exact ⟨_, by decide, .base (.dK h)⟩
def rEqLO (K : PySem.W.Frag) (C : Addr) : R2 := fun x y H Q => ∃ a dx fs, x = .ref a ∧ H a = some (.ins C dx fs) ∧ PlV K H y ∧ Q (.bl false) H
def rNeLO (K : PySem.W.Frag) (C : Addr) : R2 := fun x y H Q => ∃ a dx fs, x = .ref a ∧ H a = some (.ins C dx fs) ∧ PlV K H y ∧ Q (.bl true) H
section
variable {X : Cx} {C : Addr} {k : Nat}
theorem op_eqLO (EN : EqN X.prog X.w X.K X.mg X.base C) (no : NoIns X.K C) (hr : Room (k + 1) X.A) (hx : Passes CX0 X fun _ _ _ => False) : OpR X (compareOp .Eq) (rEqLO X.K C) := by
  intro pins s σ H x y v u Q I rx ry h
  obtain ⟨a, dx, fs, rfl, ha, pl, q⟩ := h
  cases (show v = Value.ref a from rx)
  obtain ⟨mA, J, _⟩ := ins_get I.hok ha
  obtain ⟨od, J, _⟩ := J.look
  obtain ⟨m, hF⟩ := I.fr
  obtain ⟨n, hn, ty⟩ := pl.ty
  obtain ⟨PP, Z, pp, _⟩ := kit_of I ry ty
  have nf : PySem.W.notFirst X.K C (.type n) = true := by
    unfold PySem.W.notFirst
    rw [no.sub n hn]
    simp
  refine PySem.W.cmp_K (op := .Eq) (tb := .type n) hr.units0 hF I.ok.mod.kin J (Z.ty _ _ I.kIn pp) nf EN.fi EN.fn ?_
  refine wpAny_mono (wpAny_call (run_fnR (us := [.ref a, u]) (vs := [.ref a, y]) (EN.ok (k + 1) (by omega)) hr hx I (.cons rfl (.cons ry .nil)) ⟨a, dx, fs, _, rfl, ha, pl.nty no, q⟩)) (fun w s' z => ?_) fun _ _ x => x
  obtain ⟨z', H', I', rz, qz⟩ := z
  exact SlX.cmpback rz ⟨z', H', I', rz, qz⟩
theorem op_neLO (EN : EqN X.prog X.w X.K X.mg X.base C) (no : NoIns X.K C) (hn : PySem.W.findIn X.K (.ref C) "__ne__" = some (some (.builtin "object.__ne__"))) (hm : PySem.W.mroIn X.K C (.type "object") = some true) (hr : Room (k + 2) X.A) (hx : Passes CX0 X fun _ _ _ => False) : OpR X (compareOp .NotEq) (rNeLO X.K C) := by
  intro pins s σ H x y v u Q I rx ry h
  obtain ⟨a, dx, fs, rfl, ha, pl, q⟩ := h
  cases (show v = Value.ref a from rx)
  obtain ⟨mA, J, _⟩ := ins_get I.hok ha
  obtain ⟨od, J, _⟩ := J.look
  obtain ⟨m, hF⟩ := I.fr
  obtain ⟨n, hnn, ty⟩ := pl.ty
  obtain ⟨PP, Z, pp, _⟩ := kit_of I ry ty
  refine PySem.W.ne_plain (by have := hr.un; omega) hF I.ok.mod.kin J (Z.ty _ _ I.kIn pp) (no.sub n hnn) EN.fi EN.fn hn hm ?_
  refine wpAny_mono (wpAny_call (SlX.run_at (us := [.ref a, u]) (ws := [.ref a, y]) (EN.ok (k + 1) (by omega)) hr.in1 I.env0.in1 hx I (.cons rfl (.cons ry .nil)) (Q := fun v H' => ∃ c, v = .bl c ∧ Q (.bl (!c)) H') ⟨a, dx, fs, _, rfl, ha, pl.nty no, _, rfl, q⟩)) (fun w s' z => ?_) fun _ _ x => x
  obtain ⟨z', H', I', rz, c, rfl, qz⟩ := z
  cases rz
  exact ⟨.bl (!c), H', I', rfl, qz⟩
end
end CC
namespace CC
open PySem L2
def rowP (w a : Nat) : List (Nat × Nat) := ((List.range w).filter fun b => decide (a ≠ b)).map fun b => (a, b)
def allP (w : Nat) : List (Nat × Nat) := (List.range w).flatMap fun a => rowP w a
def toR (k : Bool) (p : Nat × Nat) : R := ⟨k, p.1, p.2⟩
theorem allP_R {w : Nat} (h : w ≤ 6) : (allP w).map (toR true) ++ (allP w).map (toR false) = allR w ∧ (allP w).length ≤ 30 := by
  have z : ∀ w : Fin 7, ((allP w.1).map (toR true) ++ (allP w.1).map (toR false) = allR w.1) ∧ (allP w.1).length ≤ 30 := by decide +kernel
  exact z ⟨w, by omega⟩
theorem rowP_len (w a : Nat) : (rowP w a).length ≤ w := by
  unfold rowP
  rw [List.length_map]
  have := List.length_filter_le (fun b => decide (a ≠ b)) (List.range w)
  rw [List.length_range] at this
  exact this
theorem prds_at {K : PySem.W.Frag} {H : Hp} {us : List V} {ps : List (Nat × Nat)} {i : Nat} {v : V} (h : DpAll K H us (ps.map prd)) (e : us[i]? = some v) : ∃ p, ps[i]? = some p ∧ Dp K H v (prd p) := by
  obtain ⟨d, h1, h2⟩ := dps_at h e
  rw [List.getElem?_map] at h1
  cases q : ps[i]? with
  | none => rw [q] at h1; cases h1
  | some m =>
    rw [q] at h1
    cases h1
    exact ⟨m, rfl, h2⟩
section
variable {P : Program} {w : World} {K : PySem.W.Frag} {mg : Str → Option Value} {base : Heap} {kA : Addr}
abbrev nAl : List Str := ["_law_width", "_law_pairs", "_law_a", "_law_b"]
end
end CC
namespace CC
open PySem L2 TL LamX
abbrev sLaw : Stmt := tp 43
def spLaw (K : PySem.W.Frag) : Sp := fun vs H Q _ => ∃ (a : Addr) (ns : List Int), vs = [.ref a] ∧ SqL K H a (ns.map V.int) ∧ ns.length ≤ 63 ∧ ∀ H', Q (.bl true) H'
theorem new_view {H : Hp} {p : Addr} {o : HO} (h : H p = none) : Same H (wo (upd H p o) p) := fun b u e => by
  rw [wo_ne (ne_of_none e h), upd_ne (ne_of_none e h)]
  exact e
section
variable {K : PySem.W.Frag} {C a p g x : Addr} {ns : List Int} {us : List V} {w : Nat} {rs : List (List Nat)} {H H' : Hp}
theorem src_lst4 {s : Addr} (h : Src H s) : ∃ us, H s = some (.lst us) := by
  obtain ⟨o, h1, h2⟩ := h
  obtain ⟨u, v, w, rfl, _⟩ := h2
  exact ⟨_, h1⟩
theorem occ4 {s : Addr} (h : Src H s) : Occ [s] H := fun b hb => by
  rw [List.mem_singleton.mp hb]
  exact src_lst4 h
theorem or_go {a b : TT} {σ : L2.St} {H : Hp} {Q : Bool → Hp → Prop} (h : a σ H fun c H1 => if c = true then Q true H1 else b σ H1 Q) : tOr a b σ H Q := h
theorem ifs_go {c : TT} {t u : TS} {D : Ends} {σ : L2.St} {H : Hp} (h : c σ H fun b H1 => if b = true then t D σ H1 else u D σ H1) : tIfS c t u D σ H := h
/-- what stands while the source turns -/
structure WT (K : PySem.W.Frag) (a p g : Addr) (ns : List Int) (us : List V) (w : Nat) (rs : List (List Nat)) (H : Hp) : Prop where
  src : Src H p
  sc : SqL K (wo H p) a (ns.map V.int)
  hg : (wo H p) g = some (.lst us)
  dg : DpAll K (wo H p) us (rs.map gd)
theorem WT.step (h : WT K a p g ns us w rs H) (e : Ran H H' p) : WT K a p g ns us w rs H' := ⟨e.src, same_l e.same h.sc, e.same _ _ h.hg, dps_same e.same _ _ h.dg⟩
theorem ran_same (s : Src H p) (e : Same H H') : Ran H H' p := ⟨wo_same e, by
  obtain ⟨o, h1, h2⟩ := s
  exact ⟨o, e _ _ h1, h2⟩⟩
theorem WT.grow (h : WT K a p g ns us w rs H) (e : Same H H') : WT K a p g ns us w rs H' := h.step (ran_same h.src e)
theorem rwv_rs (h : DpAll K H us (rs.map gd)) (ok : ∀ r ∈ rs, RowOk w r) : us.length = (rs.map some).length ∧ ∀ (i : Nat) v o, us[i]? = some v → (rs.map some)[i]? = some o → RwV K H w v o := by
  refine ⟨by rw [dps_len h, List.length_map, List.length_map], fun i v o h1 h2 => ?_⟩
  obtain ⟨r, hr, dr⟩ := dps_gat h h1
  rw [List.getElem?_map, hr] at h2
  cases h2
  exact ⟨dr, ok r (List.mem_of_getElem? hr)⟩
theorem ta_wo (s : Src H p) (h : TableAt K C H x w rs) : TableAt K C (wo H p) x w rs := by
  have := ta_hid (occ4 s) h
  rwa [hid_one] at this
theorem ow_row {v : V} {r : List Nat} (w6 : w ≤ 6) (d : Dp K H v (gd r)) (ok : RowOk w r) : OwV K C w H v := by
  obtain ⟨t, rfl, ht⟩ := gd_at d
  exact ow_tup ht (by rw [nms_len, ok.1]; omega) (pw_all ok.2)
theorem owv_all : ∀ {xs : List V}, (∀ u ∈ xs, OwV K C w H u) → ∃ (ts : List RTr) (os : List (Option (List Nat))), xs.length = ts.length ∧ xs.length = os.length ∧ (∀ (i : Nat) x t, xs[i]? = some x → ts[i]? = some t → Rg K (PRt K C) H x t) ∧ (∀ (i : Nat) v o, xs[i]? = some v → os[i]? = some o → RwV K H w v o) ∧ ∀ t ∈ ts, t.dep ≤ 4 ∧ t.text.length ≤ 100000
  | [], _ => ⟨[], [], rfl, rfl, fun i x t h => by simp at h, fun i x t h => by simp at h, fun t h => nomatch h⟩
  | x :: xs, h => by
    obtain ⟨T, o, h1, h2, h3, h4⟩ := h x List.mem_cons_self
    obtain ⟨ts, os, l1, l2, a1, a2, a3⟩ := owv_all (xs := xs) fun u hu => h u (List.mem_cons_of_mem _ hu)
    refine ⟨T :: ts, o :: os, by simpa using l1, by simpa using l2, fun i y t e1 e2 => ?_, fun i y t e1 e2 => ?_, fun t ht => ?_⟩
    · cases i with
      | zero =>
        cases e1
        cases e2
        exact h1
      | succ i => exact a1 i y t (by simpa using e1) (by simpa using e2)
    · cases i with
      | zero =>
        cases e1
        cases e2
        exact h4
      | succ i => exact a2 i y t (by simpa using e1) (by simpa using e2)
    · rcases List.mem_cons.mp ht with rfl | ht
      · exact ⟨h2, h3⟩
      · exact a3 t ht
theorem PlV.same {v : V} (h : PlV K H v) (e : Same H H') : PlV K H' v := by
  cases h with
  | non => exact .non
  | bl b => exact .bl b
  | int i => exact .int i
  | str z => exact .str z
  | lst h => exact .lst (e _ _ h)
  | tup h => exact .tup (same_t e h)
  | dic h => exact .dic (e _ _ h)
/-- a width that is there, or none -/
abbrev BdV (K : PySem.W.Frag) (p : Addr) (w : Nat) : Hp → V → Prop := fun H v => v = .int (w : Int) ∨ NoWidT K (wo H p) v
theorem bdv_stb : Stb (BdV K p w) := fun H H' v e h => h.imp id fun h => h.same (wo_same e)
theorem WT.bt3 (h : WT K a p g ns us w rs H) (w1 : 1 ≤ w) (w6 : w ≤ 6) (ok : ∀ r ∈ rs, RowOk w r) {v : V} (b : BdV K p w H v) : Bt3 K H v us := by
  rcases b with rfl | no
  · have dg := dps_same (wo_le p) _ _ h.dg
    obtain ⟨h1, h2⟩ := rwv_rs (w := w) dg ok
    exact .inr ⟨w, rs.map some, rfl, w1, w6, h1, h2⟩
  · exact .inl (no.same (wo_le p))
end
section
variable {P : Program} {w : World} {K : PySem.W.Frag} {mg : Str → Option Value} {base : Heap} {kA : Addr}
abbrev nLw : List Str := ["_law_script", "_law_k", "_law_source_here", "_law_many", "_law_width", "_law_some", "_law_bad", "_law_at", "_law_turn", "_law_bent", "_law_kept", "_law_made", "_law_odd_here", "_law_column"]
abbrev scIn : Scope := { kind := .function, names := [(".0", .local), ("_law_turn", .local), ("tuple", .globalImplicit), ("range", .globalImplicit), ("_law_source_here", .free), ("_law_width", .free)], isGenerator := false, isCoroutine := false }
theorem scLaw : FnScope nLw ["_law_script"] (defScope sLaw) := ⟨rfl, rfl, rfl, by decide +kernel, rfl, by decide +kernel, by decide +kernel⟩
theorem ok_law {k : Nat} {C CW CN CE f : Addr} {fd : FuncData} (F : Fun K "law" "law" sLaw f fd) (T : Glb K mg kA) (TC : TxtT K mg C) (no : NoIns K C) (sn : SubN K C) (gE : mg "ColumnError" = some (.ref CE)) (RC : ReprC P w K mg base C (spTrp K C)) (pR : Prp P w K mg base C "rows" "lines") (eq : EqO P w K mg base C (spTEq K C) 1) (EN : EqN P w K mg base C) (tx : TxtTM P w K mg base C 1)
    (cS : Cal P w K mg base "_law_source" ["_law_cell_here"] spSource 1) (cK : Cal P w K mg base "_law_cell" ["_law_script", "_law_index"] (spCell K) 1) (cD : Cal P w K mg base "_law_draw" ["_law_source_here", "_law_many"] spDraw2 1) (cC : Cal P w K mg base "_law_choose" ["_law_source_here", "_law_values"] (spChoose K) 2)
    (cB : CalX P w K mg base "_law_built" ["_law_width", "_law_some"] (spBt1 K C CW CN) 5) (cI : Cal P w K mg base "_law_said" ["_law_width", "_law_some"] (spSd1 K) 6) (cU : Cal P w K mg base "_law_due" ["_law_width", "_law_some"] (spSd1 K) 3) (cO : Cal P w K mg base "_law_odd" ["_law_row"] (spOdT K C) 5) (cE : GD.CalG P w K mg base "_law_is_equal" ["_law_actual", "_law_expected"] (GD.spEqD K) 1) (cT : GD.CalG P w K mg base "_law_are_told_apart" ["_law_source_here", "_law_width", "_law_some"] (spTaT K) 6) : GD.FnG P w K mg base CX0 (k + 26) f fd ["_law_script"] (spLaw K) := by
  have GS := cS.ok (k + 25) (by omega)
  have GK := cK.ok (k + 25) (by omega)
  have GDr := cD.ok (k + 25) (by omega)
  have GC := cC.ok (k + 25) (by omega)
  have GB := cB.ok (k + 25) (by omega)
  have GI := cI.ok (k + 25) (by omega)
  have GU := cU.ok (k + 25) (by omega)
  have GO := cO.ok (k + 25) (by omega)
  have GE := cE.ok (k + 25) (by omega)
  have GT := cT.ok (k + 25) (by omega)
  have GX := tx.ok (k + 25) (by omega)
  have pp : PrRp P w K mg base (PRt K C) := prt_rp RC
  refine GD.fun_okG F scLaw (fun vs H Q E h => ?_) (fun cdv A outer s H vs Q E calm hr h => ?_)
  · obtain ⟨a, ns, rfl, _⟩ := h
    rfl
  · obtain ⟨a, ns, rfl, ha, hl, q⟩ := h
    have n := scLaw.nd
    have hu64 : (A.deeper (PyProof.Rows.envOfC (Str.ofString "law") (defScope sLaw) s.heap.objs.size f cdv)).units + 64 < cLine := by
      have := hr.un
      omega
    refine ⟨_, (pss_one (ps_try_only rfl rfl ⟨rfl, by decide, .inl gE⟩ L2.takes0 (fun W pn xe tk po => (pss_cons (ps_for po rfl (pi_range1 (by rfl) T.rng (pa_cons (pe_callB (call_max2 rfl) (by rfl) T.max (by decide +kernel) (pa_cons pe_int (pa_cons (pe_callB (call_min2 rfl) (by rfl) T.min (by decide +kernel) (pa_cons (pe_callB (r := rLenSq K) call_lenSq (by rfl) T.len PySem.boot_len (pa_cons (pv 0) pa_nil)) (pa_cons pe_int pa_nil))) pa_nil))) pa_nil)) (pg_name (i := 1) n rfl (.inl rfl))
 (pss_cons (ps_set (i := 2) n rfl (.inr rfl) (pe_call GS hr rfl cS.g cS.kp cS.b .nil pass0 (pa_cons (pe_call GK hr rfl cK.g cK.kp cK.b .nil pass0 (pa_cons (pv 0) (pa_cons (pv 1) pa_nil))) pa_nil)))
 (pss_one (ps_for po rfl (pi_range1 (by rfl) T.rng (pa_cons pe_int pa_nil)) (pg_name (i := 3) n rfl (.inl rfl))
 (pss_cons (ps_set (i := 4) n rfl (.inr rfl) (pe_op op_add pe_int (pe_call GDr hr rfl cD.g cD.kp cD.b .nil pass0 (pa_cons (pv 2) (pa_cons pe_int pa_nil)))))
 (C8.pss_cut (ps_setLc (i := 5) (own := [("_law_turn", 8)]) (g := gName 8) (tt := tYes) (te := tCB (rTupOf K) (tCons (tLc (iRng1 (tCons (tVar 4) tNil)) (gName 13) tYes (tCall spDraw2 [] E0 (tCons (tVar 2) (tCons (tC (.int 10000)) tNil))) [13]) tNil)) rfl n rfl rfl (sw_true rfl rfl rfl (by decide +kernel)) (pi_range1 (by rfl) T.rng (pa_cons (pv 3) pa_nil)) (blkOk_by (N := nLw) (sc := defScope sLaw) (by decide +kernel)) (fun _ _ _ _ _ => (pg_name (i := 8) n rfl (.inl rfl))) (fun _ _ _ _ _ => pts_nil) (fun _ _ _ _ _ => (pe_callTy call_tuple_of (by rfl) T.tup (by decide +kernel) (pa_cons (pe_lc (own := [("_law_column", 13)]) (g := gName 13) (tt := tYes) (te := tCall spDraw2 [] E0 (tCons (tVar 2) (tCons (tC (.int 10000)) tNil))) rfl n (pi_range1 (by rfl) T.rng (pa_cons (pv 4) pa_nil)) (blkOk_by (N := nLw) (sc := relS scIn (defScope sLaw)) (by decide +kernel)) (fun _ _ _ _ _ => (pg_name (i := 13) n rfl (.inl rfl))) (fun _ _ _ _ _ => pts_nil) (fun _ _ _ _ _ => (pe_call GDr hr rfl cD.g cD.kp cD.b .nil pass0 (pa_cons (pv 2) (pa_cons pe_int pa_nil))))) pa_nil))))
 (C8.pss_cut (ps_for po rfl (show PI _ _ _ (iList K _) from pi_list (pe_lst (pa_cons (pv 4) (pa_cons (pe_call GC hr rfl cC.g cC.kp cC.b .nil pass0 (pa_cons (pv 2) (pa_cons (pe_lst (pa_cons pe_int (pa_cons pe_int (pa_cons (pe_un un_neg pe_int) (pa_cons pe_non (pa_cons pe_bl (pa_cons pe_bl (pa_cons pe_str (pa_cons (pe_tup (pa_cons pe_int pa_nil)) (pa_cons (pe_lst (pa_cons pe_int pa_nil)) (pa_cons (pe_op op_pow pe_int pe_int) (pa_cons pe_dnewK pa_nil)))))))))))) pa_nil))) pa_nil)))) (pg_name (i := 6) n rfl (.inl rfl))
 (pss_one (ps_if (pt_not (pt_val (GD.pe_callG GE calm hr rfl cE.g cE.kp cE.b pass0 (pa_cons (pe_call GI hr rfl cI.g cI.kp cI.b .nil pass0 (pa_cons (pv 6) (pa_cons (pv 5) pa_nil))) (pa_cons (pe_call GU hr rfl cU.g cU.kp cU.b .nil pass0 (pa_cons (pv 6) (pa_cons (pv 5) pa_nil))) pa_nil))))) (pss_one (ps_ret pe_bl)) pss_nil)))
 (C8.pss_cut (ps_for po rfl (pi_range1 (by rfl) T.rng (pa_cons (pv 3) pa_nil)) (pg_name (i := 7) n rfl (.inl rfl))
 (pss_one (ps_for po rfl (pi_range1 (by rfl) T.rng (pa_cons pe_int pa_nil)) (pg_name (i := 8) n rfl (.inl rfl))
 (pss_cons (ps_set (i := 9) n rfl (.inl rfl) (pe_op op_cat (pe_op op_cat (pe_slice (r := rSlL K) sl_list (pv 5) po_none (po_some (pv 7))) (pe_lst (pa_cons (pe_call GC hr rfl cC.g cC.kp cC.b .nil pass0 (pa_cons (pv 2) (pa_cons (pe_call GO hr rfl cO.g cO.kp cO.b .nil pass0 (pa_cons (pe_ix (r := rIxL K) ix_list (pv 5) (pv 7) (fun _ _ => rfl)) pa_nil)) pa_nil))) pa_nil))) (pe_slice (r := rSlL K) sl_list (pv 5) (po_some (pe_op op_add (pv 7) pe_int)) po_none)))
 (pss_cons (ps_set (i := 10) n rfl (.inl rfl) (pe_callB (r := rReprGL K (PRt K C)) (call_reprGL (k := k + 1) pp hr calm pass0) (by rfl) T.rep (by decide +kernel) (pa_cons (pv 9) pa_nil)))
 (pss_one (ps_if (PW.pt (pw_or (pt_not (pt_val (GD.pe_callG GE calm hr rfl cE.g cE.kp cE.b pass0 (pa_cons (pe_call GI hr rfl cI.g cI.kp cI.b .nil pass0 (pa_cons (pv 4) (pa_cons (pv 9) pa_nil))) (pa_cons (pe_call GU hr rfl cU.g cU.kp cU.b .nil pass0 (pa_cons (pv 4) (pa_cons (pv 9) pa_nil))) pa_nil))))) (pw_or1 (pt_cmpR op_ne (pe_callB (r := rReprGL K (PRt K C)) (call_reprGL (k := k + 1) pp hr calm pass0) (by rfl) T.rep (by decide +kernel) (pa_cons (pv 9) pa_nil)) (pv 10) (nomark _))))) (pss_one (ps_ret pe_bl)) pss_nil)))))))
 (pss_cons (ps_set (i := 11) n rfl (.inl rfl) (show PE _ _ (tCallS (spBt1 K C CW CN) (WE W) (tCons (tVar 4) (tCons (tVar 5) tNil))) from pe_callS GB hr rfl cB.g cB.kp cB.b (fun σ => passAt tk σ) (pa_cons (pv 4) (pa_cons (pv 5) pa_nil))))
 (C8.pss_cut (ps_if (pt_not (pt_val (GD.pe_callG GT calm hr rfl cT.g cT.kp cT.b pass0 (pa_cons (pv 2) (pa_cons (pv 4) (pa_cons (pv 5) pa_nil)))))) (pss_one (ps_ret pe_bl)) pss_nil)
 (pss_one (ps_for po rfl (show PI _ _ _ (iList K _) from pi_list (pe_lst (pa_cons pe_non (pa_cons pe_int (pa_cons pe_bl (pa_cons pe_str (pa_cons (pe_meth0 (pv 11) TC.cl tx.m GX hr tx.b .nil pass0) (pa_cons (pe_prop (pv 11) TC.cl pR.hp (pR.ok (k + 24) (by omega)) hr pR.b .nil pass0 rfl) (pa_cons (pv 5) (pa_cons pe_dnewK (pa_cons (pe_lst (pa_cons (pv 11) pa_nil)) (pa_cons (pe_tup pa_nil) pa_nil)))))))))))) (pg_name (i := 12) n rfl (.inl rfl))
 (pss_one (ps_if (PW.pt (pw_or (pt_cmpR (r := rEqLO K C) (op_eqLO (k := k + 24) EN no hr pass0) (pv 11) (pv 12) (nomark _)) (pw_or (pt_cmpR (r := rEqRO K C) (op_eqRO (k := k + 24) EN sn hr pass0) (pv 12) (pv 11) (nomark _)) (pw_or1 (pt_not (pt_cmpR (r := rNeLO K C) (op_neLO (k := k + 23) EN no eq.ne eq.mo hr pass0) (pv 11) (pv 12) (nomark _))))))) (pss_one (ps_ret pe_bl)) pss_nil))))))))))))))
 (pss_one (ps_ret pe_bl)))) (fun a oe cls d pn _ _ => (pss_one (ps_ret pe_bl))))), ?_⟩
    refine ⟨_, rfl, a, _, rfl, .inl ha, _, _, rfl, _, _, rfl, _, rfl, ?_, ?_, ?_⟩
    · split <;> split <;> omega
    · rw [List.length_map]
      split <;> split <;> omega
    generalize (if (if (3 : Int) < (((ns.map V.int).length : Nat) : Int) then (3 : Int) else (((ns.map V.int).length : Nat) : Int)) > 1 then (if (3 : Int) < (((ns.map V.int).length : Nat) : Int) then (3 : Int) else (((ns.map V.int).length : Nat) : Int)) else (1 : Int)) = top
    refine for_range (lo := 0) (n := top.toNat) (fun i σ H1 => ∃ y1 y2 y3 y4 y5 y6 y7 y8 y9 y10 y11 y12 y13, σ = [some (.ref a), y1, y2, y3, y4, y5, y6, y7, y8, y9, y10, y11, y12, y13] ∧ SqL K H1 a (ns.map V.int)) ⟨none, none, none, none, none, none, none, none, none, none, none, none, none, rfl, ha⟩ ?_ ?_
    rotate_left
    · rintro σ H1 ⟨y1, y2, y3, y4, y5, y6, y7, y8, y9, y10, y11, y12, y13, rfl, ha1⟩
      exact q H1
    rintro i σ H1 hi ⟨y1, y2, y3, y4, y5, y6, y7, y8, y9, y10, y11, y12, y13, rfl, ha1⟩
    refine ⟨_, rfl, _, rfl, a, ns, i, by rw [Int.zero_add]; rfl, ha1, fun z => ?_⟩
    refine ⟨z, rfl, fun p o np ho => ?_⟩
    have v2 : SqL K (wo (upd H1 p o) p) a (ns.map V.int) := same_l (new_view np) ha1
    have s2 : Src (upd H1 p o) p := ⟨o, upd_same, ho⟩
    generalize upd H1 p o = H2 at v2 s2
    clear ha1 np ho
    refine ⟨_, rfl, by decide, by decide, ?_⟩
    refine for_range (lo := 0) (n := ((5 : Int)).toNat) (fun j σ H3 => ∃ y1 y3 y4 y5 y6 y7 y8 y9 y10 y11 y12 y13, σ = [some (.ref a), y1, some (.ref p), y3, y4, y5, y6, y7, y8, y9, y10, y11, y12, y13] ∧ SqL K (wo H3 p) a (ns.map V.int) ∧ Src H3 p) ⟨_, _, _, _, _, _, _, _, _, _, _, _, rfl, v2, s2⟩ ?_ ?_
    rotate_left
    · rintro σ H3 ⟨y1, y3, y4, y5, y6, y7, y8, y9, y10, y11, y12, y13, rfl, v3, s3⟩
      exact ⟨_, _, _, _, _, _, _, _, _, _, _, _, _, rfl, same_l (wo_le p) v3⟩
    rintro j σ H3 hj ⟨y1, y3, y4, y5, y6, y7, y8, y9, y10, y11, y12, y13, rfl, v3, s3⟩
    have j4 : j ≤ 4 := by omega
    rw [Int.zero_add]
    refine ⟨_, rfl, p, 6, rfl, s3, by decide, by decide, fun d H4 hd r4 => ⟨_, _, rfl, rfl, ?_⟩⟩
    dsimp only
    rw [show (1 + (d : Int)) = ((d + 1 : Nat) : Int) by omega]
    obtain ⟨m, em⟩ : ∃ m, m = d + 1 := ⟨_, rfl⟩
    rw [← em]
    have w1 : 1 ≤ m := by omega
    have w6 : m ≤ 6 := by omega
    clear hd
    refine ⟨fun σ' H' => ∃ y1 y6 y7 y8 y9 y10 y11 y12 y13 g us rs, σ' = [some (.ref a), y1, some (.ref p), some (.int (j : Int)), some (.int (m : Int)), some (.ref g), y6, y7, y8, y9, y10, y11, y12, y13] ∧ WT K a p g ns us m rs H' ∧ rs.length = j ∧ g ≠ p ∧ (∀ r ∈ rs, RowOk m r), ?_, ?_⟩
    · refine ⟨_, rfl, _, rfl, by omega, by omega, fun D nD => ?_⟩
      have p4 : LR K H4 (upd H4 D (.lst [])) p D m 9999 0 := .fresh ⟨Same.refl _, r4.src⟩ nD
      refine lc_range (lo := 0) (n := ((j : Nat) : Int).toNat) (fun i H' => LR K H4 H' p D m 9999 i) p4 ?_ ?_
      · rintro i5 H5 hi5 p5
        refine ⟨rfl, yes_if ⟨_, rfl, _, rfl, by omega, by omega, fun D2 nD2 => ?_⟩⟩
        refine lc_range (lo := 0) (n := ((m : Nat) : Int).toNat) (fun jj H' => LR K H4 H' p D m 9999 i5 ∧ H4 D2 = none ∧ D2 ≠ p ∧ D ≠ D2 ∧ (∃ r, H' D2 = some (.lst (nms r)) ∧ r.length = jj ∧ ∀ x ∈ r, x ≤ 9999) ∧ jj ≤ 6) ⟨p5.grow (same_new nD2), p5.ran.free nD2, p5.ran.ne nD2, ?_, ⟨[], upd_same, rfl, (fun x hx => nomatch hx)⟩, by omega⟩ ?_ ?_
        · obtain ⟨us, _, hu, _⟩ := p5.lst
          exact ne_of_none hu nD2
        · rintro jj H7 hjj ⟨p7, nD0, Ds, fD, ⟨r, hD7, rl, rv⟩, j6⟩
          refine ⟨rfl, yes_if ⟨_, rfl, p, 10000, rfl, p7.ran.src, by decide, by decide, fun x H8 hx r8 => ?_⟩⟩
          have hD8 := r8.at_ hD7 Ds
          refine ⟨_, hD8, small1000 (by rw [nms_len]; omega), (p7.run r8).put hD8 nD0 Ds fD, nD0, Ds, fD, ⟨r ++ [x], ?_, ?_, ?_⟩, by omega⟩
          · rw [upd_same, nms_app]
            rfl
          · rw [List.length_append, List.length_singleton, rl]
          · intro y hy
            rcases List.mem_append.mp hy with z | z
            · exact rv y z
            · rw [List.mem_singleton.mp z]
              omega
        rintro H7 ⟨p7, nD0, Ds, fD, ⟨r, hD7, rl, rv⟩, _⟩
        rw [Int.toNat_natCast] at rl
        refine ⟨D2, _, rfl, .inl ⟨SqL.of hD7, fun t nt => ?_⟩⟩
        have p8 := p7.grow (same_new (o := .tup (nms r)) nt)
        obtain ⟨acc, h1, h2, p9⟩ := p8.push (x := .ref t) (r := r) (dp_gd (.inl (.inl upd_same))) ⟨rl, rv⟩
        exact ⟨acc, h1, small1000 (by omega), p9⟩
      · rintro H5 p5
        rw [Int.toNat_natCast] at p5
        obtain ⟨us, rs, h1, h2, h3, h4⟩ := p5.lst
        obtain ⟨ul, hu⟩ := src_lst4 p5.ran.src
        exact ⟨_, _, _, _, _, _, _, _, _, D, us, rs, rfl, ⟨p5.ran.src, same_l (r4.trans p5.ran).same v3, by rw [wo_ne p5.nes]; exact h1, gds_T (wo_T hu) h2⟩, h4, p5.nes, fun r hr => h3 r hr⟩
    clear v3 s3 r4
    rintro σ' H5 ⟨y1, y6, y7, y8, y9, y10, y11, y12, y13, g, us, rs, rfl, W5, rj, gp, ok⟩
    have rs4 : rs.length ≤ 4 := by omega
    have u4 : us.length ≤ 4 := by rw [dps_len W5.dg, List.length_map]; exact rs4
    have uj : us.length = j := by rw [dps_len W5.dg, List.length_map]; exact rj
    -- widths that are none
    refine ⟨fun σ' H' => ∃ y1 y6 y7 y8 y9 y10 y11 y12 y13, σ' = [some (.ref a), y1, some (.ref p), some (.int (j : Int)), some (.int (m : Int)), some (.ref g), y6, y7, y8, y9, y10, y11, y12, y13] ∧ WT K a p g ns us m rs H', ?_, ?_⟩
    · refine ⟨_, rfl, _, rfl, ?_⟩
      have occ := occ4 W5.src
      have st : Stb (BdV K p m) := bdv_stb
      have nwo : ∀ {H' : Hp} {b : Addr} {o : HO}, Same H5 H' → H' b = none → (wo (upd H' b o) p) b = some o := fun {H' b o} s' nb => by
        have bp : b ≠ p := fun z => (occ.same s').new nb (List.mem_singleton.mpr z)
        rw [wo_ne bp, upd_same]
      have nT : ∀ {H' : Hp} {v : V} {t : Value}, TyX K (wo H' p) v t → PySem.W.kitOne K t (.type "int") = some false → BdV K p m H' v := fun h1 h2 => .inr (.inl (.inr ⟨_, h1, h2⟩))
      refine ev_lst (n := 11) (X := [p]) (P := BdV K p m) (B := fun _ => none) st (fun _ _ => rfl) occ (by decide) ?_ H5 _ (Same.refl _) fun lv H6 s6 pl6 => ?_
      · refine eva_cons st (ev_c fun H => .inr (.inr ⟨0, rfl, by decide⟩)) ?_
        refine eva_cons st (ev_c fun H => .inr (.inr ⟨7, rfl, by decide⟩)) ?_
        refine eva_cons st (fun H Q s q => ⟨_, rfl, q _ H (Same.refl _) (.inr (.inr ⟨-1, rfl, by decide⟩))⟩) ?_
        refine eva_cons st (ev_c fun H => nT (.base .non) (kit_ty (by decide +kernel))) ?_
        refine eva_cons st (ev_c fun H => .inr (.inl (.inl ⟨_, rfl⟩))) ?_
        refine eva_cons st (ev_c fun H => .inr (.inl (.inl ⟨_, rfl⟩))) ?_
        refine eva_cons st (ev_c fun H => nT (.base (.str _)) (kit_ty (by decide +kernel))) ?_
        refine eva_cons st (fun H Q s q => ⟨(by show 1 ≤ sizeLine; decide), fun b nb => q _ _ (same_new nb) (nT (.base (.tup (nwo s nb))) (kit_ty (by decide +kernel)))⟩) ?_
        refine eva_cons st (fun H Q s q => ⟨(by show 1 ≤ sizeLine; decide), fun b nb => q _ _ (same_new nb) (nT (.base (.lst (nwo s nb))) (kit_ty (by decide +kernel)))⟩) ?_
        refine eva_cons st (fun H Q s q => ⟨_, _, rfl, rfl, ⟨by decide, by decide, by decide⟩, q _ H (Same.refl _) (.inr (.inr ⟨10 ^ 12, rfl, by decide⟩))⟩) ?_
        exact eva_cons st (fun H Q s q b nb => q _ _ (same_new nb) (nT (.base (.dK (nwo s nb))) (kit_ty (by decide +kernel)))) eva_nil
      obtain ⟨l, ul, rfl, ⟨lX, _⟩, hl6, ll, pu⟩ := pl6
      have lp : l ≠ p := fun z => lX (List.mem_singleton.mpr z)
      have W6 := W5.grow s6
      refine ⟨p, .ref l, rfl, W6.src, .inl ⟨l, ul, rfl, SqL.of (by rw [wo_ne lp]; exact hl6), by omega, by omega, fun i5 x H7 hx r7 => ?_⟩⟩
      have bx : BdV K p m H7 x := (st _ _ _ (wo_le l) (pu x (List.mem_of_getElem? hx))).imp id fun h => h.same r7.same
      have W7 := W6.step r7
      refine ⟨(by show 2 ≤ sizeLine; decide), fun lb nlb => ?_⟩
      have s8 : Same H7 (upd H7 lb (.lst [.int (m : Int), x])) := same_new nlb
      have hlb : (upd H7 lb (.lst [.int (m : Int), x])) lb = some (.lst [.int (m : Int), x]) := upd_same
      generalize upd H7 lb (.lst [.int (m : Int), x]) = H8 at s8 hlb
      have W8 := W7.grow s8
      refine ⟨lb, rfl, ⟨_, SqL.of hlb⟩, ?_⟩
      refine for_list (xs := [.int (m : Int), x]) (fun i σ' H' => ∃ y1 y6 y7 y8 y9 y10 y11 y12 y13, σ' = [some (.ref a), y1, some (.ref p), some (.int (j : Int)), some (.int (m : Int)), some (.ref g), y6, y7, y8, y9, y10, y11, y12, y13] ∧ Same H8 H') ⟨_, _, _, _, _, _, _, _, _, rfl, Same.refl _⟩ (fun i σ' H' _ z => by
        obtain ⟨y1, y6, y7, y8, y9, y10, y11, y12, y13, _, e⟩ := z
        exact SqL.of (e _ _ hlb)) ?_ ?_
      · rintro i6 v σ' H9 hv ⟨y1, y6, y7, y8, y9, y10, y11, y12, y13, rfl, s9⟩
        have W9 := W8.grow s9
        have bv : BdV K p m H9 v := by
          match i6, hv with
          | 0, hv =>
            cases hv
            exact .inl rfl
          | 1, hv =>
            cases hv
            exact st _ _ _ (s8.trans s9) bx
          | _ + 2, hv => simp at hv
        refine nm_go (ifs_go (sd_go (i := 6) (j := 5) rfl rfl (wo_le p _ _ W9.hg) u4 (W9.bt3 w1 w6 ok bv) fun H' s' => iteF ?_))
        exact ⟨_, _, _, _, _, _, _, _, _, rfl, s9.trans s'⟩
      · rintro σ' H9 ⟨y1, y6, y7, y8, y9, y10, y11, y12, y13, rfl, s9⟩
        exact ⟨_, _, _, _, _, _, _, _, _, rfl, W8.grow s9⟩
    clear W5
    rintro σ' H6 ⟨y1, y6, y7, y8, y9, y10, y11, y12, y13, rfl, W6⟩
    -- values near each row
    refine ⟨fun σ' H' => ∃ y1 y6 y7 y8 y9 y10 y11 y12 y13, σ' = [some (.ref a), y1, some (.ref p), some (.int (j : Int)), some (.int (m : Int)), some (.ref g), y6, y7, y8, y9, y10, y11, y12, y13] ∧ WT K a p g ns us m rs H', ?_, ?_⟩
    · refine ⟨_, rfl, _, rfl, by omega, by omega, ?_⟩
      refine for_range (lo := 0) (n := ((j : Nat) : Int).toNat) (fun i σ H' => ∃ y1 y6 y7 y8 y9 y10 y11 y12 y13, σ = [some (.ref a), y1, some (.ref p), some (.int (j : Int)), some (.int (m : Int)), some (.ref g), y6, y7, y8, y9, y10, y11, y12, y13] ∧ WT K a p g ns us m rs H') ⟨_, _, _, _, _, _, _, _, _, rfl, W6⟩ ?_ ?_
      rotate_left
      · rintro σ H8 ⟨y1, y6, y7, y8, y9, y10, y11, y12, y13, rfl, W8⟩
        exact ⟨_, _, _, _, _, _, _, _, _, rfl, W8⟩
      rintro i σ H8 hi ⟨y1, y6, y7, y8, y9, y10, y11, y12, y13, rfl, W8⟩
      have iu : i < us.length := by omega
      obtain ⟨u, hu⟩ : ∃ u, us[i]? = some u := ⟨_, List.getElem?_eq_getElem iu⟩
      rw [Int.zero_add]
      refine ⟨_, rfl, by decide, by decide, ?_⟩
      refine for_range (lo := 0) (n := ((8 : Int)).toNat) (fun t σ H' => ∃ y1 y6 y8 y9 y10 y11 y12 y13, σ = [some (.ref a), y1, some (.ref p), some (.int (j : Int)), some (.int (m : Int)), some (.ref g), y6, some (.int (i : Int)), y8, y9, y10, y11, y12, y13] ∧ WT K a p g ns us m rs H') ⟨_, _, _, _, _, _, _, _, rfl, W8⟩ ?_ ?_
      rotate_left
      · rintro σ H12 ⟨y1, y6, y8, y9, y10, y11, y12, y13, rfl, W12⟩
        exact ⟨_, _, _, _, _, _, _, _, _, rfl, W12⟩
      rintro tn σ H12 htn ⟨y1, y6, y8, y9, y10, y11, y12, y13, rfl, W12⟩
      have hg12 := wo_le p _ _ W12.hg
      refine ⟨_, rfl, _, rfl, _, rfl, g, us, rfl, SqL.of hg12, fun c1 nc1 => ?_⟩
      rw [show cutV us none (some (i : Int)) = us.take i from cut_to _ _]
      have c1p : c1 ≠ p := fun z => (occ4 W12.src).new nc1 (List.mem_singleton.mpr z)
      have s13 : Same H12 (upd H12 c1 (.lst (us.take i))) := same_new nc1
      have hc1 : (upd H12 c1 (.lst (us.take i))) c1 = some (.lst (us.take i)) := upd_same
      generalize upd H12 c1 (.lst (us.take i)) = H13 at s13 hc1
      have W13 := W12.grow s13
      obtain ⟨r, hr2, dr⟩ := dps_gat W13.dg hu
      have okr := ok r (List.mem_of_getElem? hr2)
      refine ⟨_, rfl, _, rfl, _, rfl, g, us, (i : Int), u, rfl, rfl, SqL.of (wo_le p _ _ W13.hg), atI_nat hu, u, m, r, [p], rfl, occ4 W13.src, by rw [hid_one]; exact dr, okr, w1, w6, fun l6 uo Ho so hl6 len6 ne6 l6p pu6 => ?_⟩
      have Wo := W13.grow so
      have l6p' : l6 ≠ p := fun z => l6p (List.mem_singleton.mpr z)
      refine ⟨p, .ref l6, rfl, Wo.src, .inl ⟨l6, uo, rfl, SqL.of (by rw [wo_ne l6p']; exact hl6), List.length_pos_iff.mpr ne6, by omega, fun i5 v H14 hv r14 => ?_⟩⟩
      have W14 := Wo.step r14
      have ov : OwV K C m (wo H14 p) v := by
        have h : OwV K C m (hid [p] Ho) v := pu6 v (List.mem_of_getElem? hv)
        rw [hid_one] at h
        exact owv_stb _ _ _ r14.same h
      have hc1' : H14 c1 = some (.lst (us.take i)) := r14.at_ (so _ _ hc1) c1p
      refine ⟨(by show 1 ≤ sizeLine; decide), fun l1 nl1 => ?_⟩
      have s15 : Same H14 (upd H14 l1 (.lst [v])) := same_new nl1
      have hl1 : (upd H14 l1 (.lst [v])) l1 = some (.lst [v]) := upd_same
      generalize upd H14 l1 (.lst [v]) = H15 at s15 hl1
      refine ⟨c1, l1, us.take i, [v], rfl, rfl, s15 _ _ hc1', hl1, Nat.le_trans (show (us.take i).length + [v].length ≤ 100 by rw [List.length_take]; simp; omega) (by decide), fun b1 nb1 => ?_⟩
      have s16 : Same H15 (upd H15 b1 (.lst (us.take i ++ [v]))) := same_new nb1
      have hb1 : (upd H15 b1 (.lst (us.take i ++ [v]))) b1 = some (.lst (us.take i ++ [v])) := upd_same
      generalize upd H15 b1 (.lst (us.take i ++ [v])) = H16 at s16 hb1
      have s1416 := s15.trans s16
      have W16 := W14.grow s1416
      refine ⟨_, rfl, _, rfl, _, _, rfl, rfl, _, rfl, g, us, rfl, SqL.of (wo_le p _ _ W16.hg), fun c2 nc2 => ?_⟩
      rw [show cutV us (some ((i : Int) + 1)) none = us.drop (i + 1) from by
        rw [show ((i : Int) + 1) = ((i + 1 : Nat) : Int) by omega]
        exact cut_from _ _]
      have s17 : Same H16 (upd H16 c2 (.lst (us.drop (i + 1)))) := same_new nc2
      have hc2 : (upd H16 c2 (.lst (us.drop (i + 1)))) c2 = some (.lst (us.drop (i + 1))) := upd_same
      generalize upd H16 c2 (.lst (us.drop (i + 1))) = H17 at s17 hc2
      have lenb : (us.take i ++ [v] ++ us.drop (i + 1)).length ≤ 4 := by
        rw [List.length_append, List.length_append, List.length_take, List.length_drop, List.length_singleton]
        omega
      refine ⟨b1, c2, us.take i ++ [v], us.drop (i + 1), rfl, rfl, s17 _ _ hb1, hc2, Nat.le_trans (show _ ≤ 100 by rw [← List.length_append]; omega) (by decide), fun lb nlb => ?_⟩
      have s18 : Same H17 (upd H17 lb (.lst (us.take i ++ [v] ++ us.drop (i + 1)))) := same_new nlb
      have hlb : (upd H17 lb (.lst (us.take i ++ [v] ++ us.drop (i + 1)))) lb = some (.lst (us.take i ++ [v] ++ us.drop (i + 1))) := upd_same
      generalize upd H17 lb (.lst (us.take i ++ [v] ++ us.drop (i + 1))) = H18 at s18 hlb
      have s1418 := s1416.trans (s17.trans s18)
      have W18 := W14.grow s1418
      have ob : ∀ y ∈ us.take i ++ [v] ++ us.drop (i + 1), OwV K C m H18 y := fun y hy => by
        have old : y ∈ us → OwV K C m H18 y := fun h => by
          obtain ⟨jj, hj'⟩ := List.mem_iff_getElem?.mp h
          obtain ⟨r2, hr3, dr2⟩ := dps_gat (dps_same (wo_le p) _ _ W18.dg) hj'
          exact ow_row w6 dr2 (ok r2 (List.mem_of_getElem? hr3))
        rcases List.mem_append.mp hy with h | h
        · rcases List.mem_append.mp h with h | h
          · exact old (List.mem_of_mem_take h)
          · rw [List.mem_singleton.mp h]
            exact owv_stb _ _ _ ((wo_same s1418).trans (wo_le p)) ov
        · exact old (List.mem_of_mem_drop h)
      have neb : us.take i ++ [v] ++ us.drop (i + 1) ≠ [] := by simp
      generalize us.take i ++ [v] ++ us.drop (i + 1) = bent at hlb lenb ob neb
      obtain ⟨ts, os, tl1, ol1, rgs, rls, tb⟩ := owv_all ob
      have dps_ : RTr.deps ts ≤ 19 := Nat.le_trans (deps_le fun t ht => (tb t ht).1) (by decide)
      have size_ : (listText (RTr.texts ts)).length ≤ sizeLine := by
        have h1 := lstText_le (m := 100000) (texts_mem fun t ht => (tb t ht).2)
        rw [texts_len, ← tl1] at h1
        exact Nat.le_trans (show _ ≤ 1000000 by omega) (by decide)
      refine ⟨_, rfl, lb, bent, ts, rfl, hlb, neb, tl1, rgs, dps_, size_, fun H19 s19 => ?_⟩
      have bl : Bt3 K H19 (.int (m : Int)) bent := .inr ⟨m, os, rfl, w1, w6, ol1, fun j y o h1 h2 => (rls j y o h1 h2).same s19⟩
      refine nm_go (ifs_go (or_go (sd_go (i := 4) (j := 9) rfl rfl (s19 _ _ hlb) lenb bl fun H20 s20 => iteF ?_)))
      have s1820 := s19.trans s20
      refine ⟨_, rfl, lb, bent, ts, rfl, s1820 _ _ hlb, neb, tl1, fun j y t h1 h2 => (rgs j y t h1 h2).same prt_ok s1820, dps_, size_, fun H21 s21 => ⟨_, rfl, rfl, _, rfl, iteF' (by simp) ?_⟩⟩
      have s1821 := s1820.trans s21
      have r1421 := ran_same W14.src (s1418.trans s1821)
      exact ⟨_, _, _, _, _, _, _, _, rfl, W14.step r1421⟩
    clear W6
    rintro σ' H6 ⟨y1, y6, y7, y8, y9, y10, y11, y12, y13, rfl, W6⟩
    -- the table
    obtain ⟨h1, h2⟩ := rwv_rs (w := m) (dps_same (wo_le p) _ _ W6.dg) ok
    refine ⟨_, rfl, _, rfl, .int (m : Int), g, us, rfl, wo_le p _ _ W6.hg, u4, .inr ⟨m, rs.map some, rfl, w1, w6, h1, h2, .inr ⟨rs, rfl, fun x H7 s7 nx ta => ?_⟩⟩⟩
    have W7 := W6.grow s7
    have R7 : TableAt K C (wo H7 p) x m rs := ta_wo W7.src ta
    clear W6 ta nx s7 h1 h2
    refine ⟨fun σ' H' => ∃ y1 y6 y7 y8 y9 y10 y12 y13, σ' = [some (.ref a), y1, some (.ref p), some (.int (j : Int)), some (.int (m : Int)), some (.ref g), y6, y7, y8, y9, y10, some (.ref x), y12, y13] ∧ WT K a p g ns us m rs H' ∧ TableAt K C (wo H' p) x m rs, ?_, ?_⟩
    · refine ⟨_, rfl, _, rfl, _, rfl, p, g, m, us, rs, rfl, W7.src, gp, wo_le p _ _ W7.hg, W7.dg, ok, rs4, w1, w6, fun H8 r8 => ⟨true, rfl, iteF ?_⟩⟩
      exact ⟨_, _, _, _, _, _, _, _, rfl, W7.step r8, R7.same r8.same⟩
    clear W7 R7
    rintro σ' H8 ⟨y1, y6, y7, y8, y9, y10, y12, y13, rfl, W8, R8⟩
    have occ := occ4 W8.src
    have st : Stb (fun H v => PlV K (wo H p) v) := fun H H' v e h => h.same (wo_same e)
    have nwo : ∀ {H' : Hp} {b : Addr} {o : HO}, Same H8 H' → H' b = none → (wo (upd H' b o) p) b = some o := fun {H' b o} s' nb => by
      have bp : b ≠ p := fun z => (occ.same s').new nb (List.mem_singleton.mpr z)
      rw [wo_ne bp, upd_same]
    have RA := R8.same (wo_le p)
    obtain ⟨dx, gg, uu, x1, x2, x3⟩ := id RA
    obtain ⟨_, gg', uu', z1, z2, z3⟩ := id R8
    have egg : gg' = gg := by
      have := wo_le p _ _ z1
      rw [x1] at this
      have e2 := (HO.ins.inj (Option.some.inj this)).2.2
      have : (fldT m gg).lookup ("lines" : Str) = (fldT m gg').lookup ("lines" : Str) := by rw [e2]
      rw [fldT_lines, fldT_lines] at this
      injection this with this
      injection this with this
      exact this.symm
    subst egg
    have sqg : ∀ {H' : Hp}, Same H8 H' → SqT K (wo H' p) gg' uu' := fun s' => .inl (.inl (wo_same s' _ _ z2))
    unfold tFor iList
    refine ev_lst (n := 10) (X := [p]) (P := fun H v => PlV K (wo H p) v) (B := fun _ => none) st (fun _ _ => rfl) occ (by decide) ?_ H8 _ (Same.refl _) fun lv H9 s9 pl9 => ?_
    · refine eva_cons st (ev_c fun H => .non) ?_
      refine eva_cons st (ev_c fun H => .int _) ?_
      refine eva_cons st (ev_c fun H => .bl _) ?_
      refine eva_cons st (ev_c fun H => .str _) ?_
      refine eva_cons st (fun H Q s q => ⟨_, rfl, x, dx, _, rfl, s _ _ x1, fldT_txt _ _, x, m, rs, rfl, RA.same s, w6, ok, by omega, fun H' s' => q _ _ s' (.str _)⟩) ?_
      refine eva_cons st (fun H Q s q => ⟨_, rfl, x, dx, _, rfl, s _ _ x1, x, dx, _, _, rfl, s _ _ x1, fldT_lines _ _, q _ H (Same.refl _) (.tup (sqg s))⟩) ?_
      refine eva_cons st (ev_var st rfl (.lst W8.hg)) ?_
      refine eva_cons st (fun H Q s q b nb => q _ _ (same_new nb) (.dic (nwo s nb))) ?_
      refine eva_cons st (fun H Q s q => ⟨_, rfl, (by show 1 ≤ sizeLine; decide), fun b nb => q _ _ (same_new nb) (.lst (nwo s nb))⟩) ?_
      exact eva_cons st (fun H Q s q => ⟨Nat.zero_le _, fun b nb => q _ _ (same_new nb) (.tup (.inl (.inl (nwo s nb))))⟩) eva_nil
    obtain ⟨l, ul, rfl, ⟨lX, _⟩, hl9, ll, pu⟩ := pl9
    have W9 := W8.grow s9
    refine ⟨l, rfl, ⟨_, SqL.of hl9⟩, ?_⟩
    refine for_list (xs := ul) (fun j' σ' H' => ∃ y1 y6 y7 y8 y9 y10 y12 y13, σ' = [some (.ref a), y1, some (.ref p), some (.int (j : Int)), some (.int (m : Int)), some (.ref g), y6, y7, y8, y9, y10, some (.ref x), y12, y13] ∧ Same H9 H') ⟨_, _, _, _, _, _, _, _, rfl, Same.refl _⟩ (fun j' σ' H' _ z => by
      obtain ⟨y1, y6, y7, y8, y9, y10, y12, y13, _, e⟩ := z
      exact SqL.of (e _ _ hl9)) ?_ ?_
    rotate_left
    · rintro σ' H10 ⟨y1, y6, y7, y8, y9, y10, y12, y13, rfl, s10⟩
      have W10 := W9.grow s10
      exact ⟨_, _, _, _, _, _, _, _, _, _, _, _, rfl, W10.sc, W10.src⟩
    rintro j' v σ' H10 hv ⟨y1, y6, y7, y8, y9, y10, y12, y13, rfl, s10⟩
    have pl := (st _ _ _ s10 (st _ _ _ (wo_le l) (pu v (List.mem_of_getElem? hv)))).same (wo_le p)
    have x10 := (s9.trans s10) _ _ x1
    refine ⟨_, rfl, _, rfl, x, dx, _, rfl, x10, pl, _, rfl, iteF ?_⟩
    refine ⟨_, rfl, _, rfl, x, dx, _, rfl, x10, pl, _, rfl, iteF ?_⟩
    refine ⟨_, rfl, _, rfl, x, dx, _, rfl, x10, pl, _, rfl, iteF ?_⟩
    exact ⟨_, _, _, _, _, _, _, _, rfl, s10⟩
end
end CC
namespace CC
open PySem L2 TL
theorem no_sub {K : PySem.W.Frag} {C : Addr} : ∀ n ∈ OC.oddTys, PySem.W.subIn K (.type n) (.ref C) = some false := by
  intro n hn
  simp only [OC.oddTys, List.mem_cons, List.not_mem_nil, or_false] at hn
  rcases hn with rfl | rfl | rfl | rfl | rfl | rfl | rfl <;> rfl
theorem no_ins {K : PySem.W.Frag} {C : Addr} (i : PySem.W.isClsIn K C = true) (t : PySem.W.typeIn K (.ref C) = some (.type "type")) : NoIns K C := by
  refine ⟨fun n hn => ?_, no_sub⟩
  have i' : (PySem.W.clsIn K C).isSome = true := i
  have s := no_sub (K := K) (C := C) n hn
  have e : ((Value.type n) == (Value.ref C)) = false := by simp
  simp only [PySem.W.kitOne, PySem.W.kitCls, e, i', t, s]
  simp
theorem kit_tyK {K : PySem.W.Frag} {E : Addr} {n : String} {r : Bool} (m : PySem.W.kitMeta n = true) (s : PySem.W.subIn K (.ref E) (.type n) = some r) : PySem.W.kitOne K (.ref E) (.type n) = some r := by
  have e : ((Value.ref E) == (Value.type n)) = false := rfl
  simp only [PySem.W.kitOne, PySem.W.kitCls, e, m, s]
  simp
theorem nf_ty {K : PySem.W.Frag} {C : Addr} : PySem.W.notFirst K C (.type "tuple") = true := by
  have s := no_sub (K := K) (C := C) "tuple" (by decide)
  unfold PySem.W.notFirst
  rw [s]
  rfl
/-- which kinds the class of tables is not -/
structure KitF (K : PySem.W.Frag) (C : Addr) : Prop where
  sn : SubN K C
  ct : PySem.W.kitOne K (.ref C) (.type "tuple") = some false
  ci : PySem.W.kitOne K (.ref C) (.type "int") = some false
theorem mk_kit {K : PySem.W.Frag} {h : Heap} {mg : Str → Option Value} {R_ : Addr} (X : K.In h) (G : h.Ns mainGlobals mg) (a : PySem.W.nsIn K mainGlobals "Table" = some (some (.ref R_)))
    (t : PySem.W.typeIn K (.ref R_) = some (.type "type")) (i : PySem.W.isClsIn K R_ = true) (u1 : PySem.W.subIn K (.ref R_) (.type "NoneType") = some false) (u2 : PySem.W.subIn K (.ref R_) (.type "bool") = some false) (u3 : PySem.W.subIn K (.ref R_) (.type "int") = some false) (u4 : PySem.W.subIn K (.ref R_) (.type "str") = some false) (u5 : PySem.W.subIn K (.ref R_) (.type "list") = some false) (u6 : PySem.W.subIn K (.ref R_) (.type "tuple") = some false) (u7 : PySem.W.subIn K (.ref R_) (.type "dict") = some false) :
    ∀ C, mg "Table" = some (.ref C) → KitF K C := fun C e => by
  have a' := PySem.W.mg_of X G a
  rw [e] at a'
  cases a'
  refine ⟨⟨no_ins i t, fun n hn => ?_⟩, kit_tyK (by decide +kernel) u6, kit_tyK (by decide +kernel) u3⟩
  simp only [List.mem_cons, List.not_mem_nil, or_false] at hn
  rcases hn with rfl | rfl | rfl | rfl | rfl | rfl | rfl
  · exact u1
  · exact u2
  · exact u3
  · exact u4
  · exact u5
  · exact u6
  · exact u7
theorem mk_two {K : PySem.W.Frag} {h : Heap} {mg : Str → Option Value} {CN CU : Addr} (X : K.In h) (G : h.Ns mainGlobals mg) (aN : PySem.W.nsIn K mainGlobals "NoWidth" = some (some (.ref CN)))
    (xN : PySem.W.excIn K CN [.type "ValueError", .type "Exception", .type "BaseException", .type "object"] "ValueError.__new__" = true) (kN : PySem.W.keepIn K (.ref CN) = true) (bN : PySem.W.subIn K (.ref CN) (.type "BaseException") = some true) (tN : PySem.W.typeIn K (.ref CN) = some (.type "type")) (iN : PySem.W.isClsIn K CN = true) (sN : PySem.W.subIn K (.ref CN) (.ref CN) = some true)
    (aU : PySem.W.nsIn K mainGlobals "NoRows" = some (some (.ref CU))) (xU : PySem.W.excIn K CU [.type "ValueError", .type "Exception", .type "BaseException", .type "object"] "ValueError.__new__" = true) (kU : PySem.W.keepIn K (.ref CU) = true) (bU : PySem.W.subIn K (.ref CU) (.type "BaseException") = some true) (tU : PySem.W.typeIn K (.ref CU) = some (.type "type")) (iU : PySem.W.isClsIn K CU = true) (sU : PySem.W.subIn K (.ref CU) (.ref CU) = some true)
    (dU : PySem.W.subIn K (.ref CU) (.ref CN) = some false) : ∃ CN CU, ExcK K mg "NoWidth" CN ∧ ExcK K mg "NoRows" CU ∧ ExcTwo K CN CU :=
  ⟨CN, CU, ⟨PySem.W.mg_of X G aN, xN, kN, bN, tN⟩, ⟨PySem.W.mg_of X G aU, xU, kU, bU, tU⟩, exm_is bN tN iN sN, exm_is bN tN iN dU, exm_is bU tU iU sU⟩
end CC
namespace CC
open PySem L2 TL
/-! ### table == what is no table -/
section
variable {P : Program} {w : World} {K : PySem.W.Frag} {mg : Str → Option Value} {base : Heap} {kA : Addr}
theorem scTEqN : FnScope ["self", "other"] ["self", "other"] (defScope sTEq) := ⟨rfl, rfl, rfl, by decide +kernel, rfl, by decide +kernel, by decide +kernel⟩
theorem ok_teqN {f C : Addr} {fd : FuncData} {k : Nat} (F : Fun K "__eq__" "Table.__eq__" sTEq f fd) (T : Glb K mg kA) (TC : TxtT K mg C) (ic : C8.InsC K C) : FnOk P w K mg base CX0 (k + 1) f fd ["self", "other"] (spEqN K C) := by
  refine F.ok scTEqN (fun vs H Q E h => ?_) (fun cdv A outer s H vs Q E hr h => ?_)
  · obtain ⟨a, dx, fs, y, rfl, _⟩ := h
    rfl
  · obtain ⟨a, dx, fs, y, rfl, ha, no, q⟩ := h
    have n := scTEqN.nd
    refine ⟨_, (pss_cons (ps_if (PW.pt (pw_or (pt_not (pt_val (pe_callB (isG_ty ic rfl) (by rfl) T.isi (by decide +kernel) (pa_cons (pv 1) (pa_cons (pe_glob (v := .ref C) rfl TC.mgC rfl) pa_nil))))) (pw_or1 (pt_cmpR op_ne (pe_fld (pv 0) rfl) (pe_fld (pv 1) rfl) (nomark _))))) (pss_one (ps_ret pe_bl)) pss_nil)
      pss_never), ?_⟩
    exact ⟨_, rfl, .inr ⟨y, rfl, no, _, rfl, iteT q⟩⟩
end
end CC
namespace CC
open PySem L2 TL
theorem df_mk {K : PySem.W.Frag} {h : Heap} {mg : Str → Option Value} {x : Str} {st : Stmt} {ps : List Str} {f : Addr} {fd : FuncData} (X : K.In h) (G : h.Ns mainGlobals mg) (a : PySem.W.nsIn K mainGlobals x = some (some (.ref f))) (F : Fun K x x st f fd) (b : Binds K fd ps []) : Nonempty (Df K mg x st ps) := ⟨⟨f, fd, F, b, PySem.W.mg_of X G a⟩⟩
theorem kit_self {K : PySem.W.Frag} {C : Addr} : PySem.W.kitOne K (.ref C) (.ref C) = some true := by
  unfold PySem.W.kitOne
  exact if_pos (by simp)
theorem raw0 {P : Program} {w : World} {K : PySem.W.Frag} {mg : Str → Option Value} {base : Heap} {CX : CXT} {k : Nat} {f : Addr} {fd : FuncData} {ps : List Str} {sp : Sp} (F : FnOk P w K mg base CX k f fd ps sp) (b : Binds K fd ps []) : FnR P w K mg base CX k f sp :=
  (F.raw b .nil).imp fun vs H Q E h => by
    show sp (vs ++ []) H Q E
    rw [List.append_nil]
    exact h
theorem mk_l_source {K : PySem.W.Frag} {h : Heap} {mg : Str → Option Value} {f : Addr} {od an : Option Addr} {sl : Array (Option Value)} {oc kV dc pm cd ct : Value} (X : K.In h) (G : h.Ns mainGlobals mg) (a : PySem.W.nsIn K mainGlobals "_law_source" = some (some (.ref f)))
    (l : K.lookup f = some ⟨oc, od, .func (PySem.W.fnOf "_law_source" "_law_source" (defArgs sSource) (defBody sSource) (defScope sSource) .none kV dc pm an cd ct), sl⟩) (c : PySem.W.codeIn K cd "_law_source" = true) (k : PySem.W.keepIn K (.ref f) = true) : Nonempty (Df K mg "_law_source" sSource ["_law_cell_here"]) :=
  have F := fun_mk (st := sSource) l c k
  df_mk X G a F (F.binds (ps := ["_law_cell_here"]) fun _ _ _ _ _ _ us hl => match us, hl with | [_], _ => rfl)
theorem mk_l_cell {K : PySem.W.Frag} {h : Heap} {mg : Str → Option Value} {f : Addr} {od an : Option Addr} {sl : Array (Option Value)} {oc kV dc pm cd ct : Value} (X : K.In h) (G : h.Ns mainGlobals mg) (a : PySem.W.nsIn K mainGlobals "_law_cell" = some (some (.ref f)))
    (l : K.lookup f = some ⟨oc, od, .func (PySem.W.fnOf "_law_cell" "_law_cell" (defArgs sCell) (defBody sCell) (defScope sCell) .none kV dc pm an cd ct), sl⟩) (c : PySem.W.codeIn K cd "_law_cell" = true) (k : PySem.W.keepIn K (.ref f) = true) : Nonempty (Df K mg "_law_cell" sCell ["_law_script", "_law_index"]) :=
  have F := fun_mk (st := sCell) l c k
  df_mk X G a F (F.binds (ps := ["_law_script", "_law_index"]) fun _ _ _ _ _ _ us hl => match us, hl with | [_, _], _ => rfl)
theorem mk_l_draw {K : PySem.W.Frag} {h : Heap} {mg : Str → Option Value} {f : Addr} {od an : Option Addr} {sl : Array (Option Value)} {oc kV dc pm cd ct : Value} (X : K.In h) (G : h.Ns mainGlobals mg) (a : PySem.W.nsIn K mainGlobals "_law_draw" = some (some (.ref f)))
    (l : K.lookup f = some ⟨oc, od, .func (PySem.W.fnOf "_law_draw" "_law_draw" (defArgs sDraw) (defBody sDraw) (defScope sDraw) .none kV dc pm an cd ct), sl⟩) (c : PySem.W.codeIn K cd "_law_draw" = true) (k : PySem.W.keepIn K (.ref f) = true) : Nonempty (Df K mg "_law_draw" sDraw ["_law_source_here", "_law_many"]) :=
  have F := fun_mk (st := sDraw) l c k
  df_mk X G a F (F.binds (ps := ["_law_source_here", "_law_many"]) fun _ _ _ _ _ _ us hl => match us, hl with | [_, _], _ => rfl)
theorem mk_l_choose {K : PySem.W.Frag} {h : Heap} {mg : Str → Option Value} {f : Addr} {od an : Option Addr} {sl : Array (Option Value)} {oc kV dc pm cd ct : Value} (X : K.In h) (G : h.Ns mainGlobals mg) (a : PySem.W.nsIn K mainGlobals "_law_choose" = some (some (.ref f)))
    (l : K.lookup f = some ⟨oc, od, .func (PySem.W.fnOf "_law_choose" "_law_choose" (defArgs sChoose) (defBody sChoose) (defScope sChoose) .none kV dc pm an cd ct), sl⟩) (c : PySem.W.codeIn K cd "_law_choose" = true) (k : PySem.W.keepIn K (.ref f) = true) : Nonempty (Df K mg "_law_choose" sChoose ["_law_source_here", "_law_values"]) :=
  have F := fun_mk (st := sChoose) l c k
  df_mk X G a F (F.binds (ps := ["_law_source_here", "_law_values"]) fun _ _ _ _ _ _ us hl => match us, hl with | [_, _], _ => rfl)
theorem mk_is_an_integer {K : PySem.W.Frag} {h : Heap} {mg : Str → Option Value} {f : Addr} {od an : Option Addr} {sl : Array (Option Value)} {oc kV dc pm cd ct : Value} (X : K.In h) (G : h.Ns mainGlobals mg) (a : PySem.W.nsIn K mainGlobals "is_an_integer" = some (some (.ref f)))
    (l : K.lookup f = some ⟨oc, od, .func (PySem.W.fnOf "is_an_integer" "is_an_integer" (defArgs sIsInt) (defBody sIsInt) (defScope sIsInt) .none kV dc pm an cd ct), sl⟩) (c : PySem.W.codeIn K cd "is_an_integer" = true) (k : PySem.W.keepIn K (.ref f) = true) : Nonempty (Df K mg "is_an_integer" sIsInt ["thing"]) :=
  have F := fun_mk (st := sIsInt) l c k
  df_mk X G a F (F.binds (ps := ["thing"]) fun _ _ _ _ _ _ us hl => match us, hl with | [_], _ => rfl)
theorem mk_is_width {K : PySem.W.Frag} {h : Heap} {mg : Str → Option Value} {f : Addr} {od an : Option Addr} {sl : Array (Option Value)} {oc kV dc pm cd ct : Value} (X : K.In h) (G : h.Ns mainGlobals mg) (a : PySem.W.nsIn K mainGlobals "is_width" = some (some (.ref f)))
    (l : K.lookup f = some ⟨oc, od, .func (PySem.W.fnOf "is_width" "is_width" (defArgs sIsWidth) (defBody sIsWidth) (defScope sIsWidth) .none kV dc pm an cd ct), sl⟩) (c : PySem.W.codeIn K cd "is_width" = true) (k : PySem.W.keepIn K (.ref f) = true) : Nonempty (Df K mg "is_width" sIsWidth ["thing"]) :=
  have F := fun_mk (st := sIsWidth) l c k
  df_mk X G a F (F.binds (ps := ["thing"]) fun _ _ _ _ _ _ us hl => match us, hl with | [_], _ => rfl)
theorem mk_is_row {K : PySem.W.Frag} {h : Heap} {mg : Str → Option Value} {f : Addr} {od an : Option Addr} {sl : Array (Option Value)} {oc kV dc pm cd ct : Value} (X : K.In h) (G : h.Ns mainGlobals mg) (a : PySem.W.nsIn K mainGlobals "is_row" = some (some (.ref f)))
    (l : K.lookup f = some ⟨oc, od, .func (PySem.W.fnOf "is_row" "is_row" (defArgs sIsRow) (defBody sIsRow) (defScope sIsRow) .none kV dc pm an cd ct), sl⟩) (c : PySem.W.codeIn K cd "is_row" = true) (k : PySem.W.keepIn K (.ref f) = true) : Nonempty (Df K mg "is_row" sIsRow ["width", "thing"]) :=
  have F := fun_mk (st := sIsRow) l c k
  df_mk X G a F (F.binds (ps := ["width", "thing"]) fun _ _ _ _ _ _ us hl => match us, hl with | [_, _], _ => rfl)
theorem mk_l_built {K : PySem.W.Frag} {h : Heap} {mg : Str → Option Value} {f : Addr} {od an : Option Addr} {sl : Array (Option Value)} {oc kV dc pm cd ct : Value} (X : K.In h) (G : h.Ns mainGlobals mg) (a : PySem.W.nsIn K mainGlobals "_law_built" = some (some (.ref f)))
    (l : K.lookup f = some ⟨oc, od, .func (PySem.W.fnOf "_law_built" "_law_built" (defArgs sBt1) (defBody sBt1) (defScope sBt1) .none kV dc pm an cd ct), sl⟩) (c : PySem.W.codeIn K cd "_law_built" = true) (k : PySem.W.keepIn K (.ref f) = true) : Nonempty (Df K mg "_law_built" sBt1 ["_law_width", "_law_some"]) :=
  have F := fun_mk (st := sBt1) l c k
  df_mk X G a F (F.binds (ps := ["_law_width", "_law_some"]) fun _ _ _ _ _ _ us hl => match us, hl with | [_, _], _ => rfl)
theorem mk_l_said {K : PySem.W.Frag} {h : Heap} {mg : Str → Option Value} {f : Addr} {od an : Option Addr} {sl : Array (Option Value)} {oc kV dc pm cd ct : Value} (X : K.In h) (G : h.Ns mainGlobals mg) (a : PySem.W.nsIn K mainGlobals "_law_said" = some (some (.ref f)))
    (l : K.lookup f = some ⟨oc, od, .func (PySem.W.fnOf "_law_said" "_law_said" (defArgs sSd1) (defBody sSd1) (defScope sSd1) .none kV dc pm an cd ct), sl⟩) (c : PySem.W.codeIn K cd "_law_said" = true) (k : PySem.W.keepIn K (.ref f) = true) : Nonempty (Df K mg "_law_said" sSd1 ["_law_width", "_law_some"]) :=
  have F := fun_mk (st := sSd1) l c k
  df_mk X G a F (F.binds (ps := ["_law_width", "_law_some"]) fun _ _ _ _ _ _ us hl => match us, hl with | [_, _], _ => rfl)
theorem mk_l_is_whole {K : PySem.W.Frag} {h : Heap} {mg : Str → Option Value} {f : Addr} {od an : Option Addr} {sl : Array (Option Value)} {oc kV dc pm cd ct : Value} (X : K.In h) (G : h.Ns mainGlobals mg) (a : PySem.W.nsIn K mainGlobals "_law_is_whole" = some (some (.ref f)))
    (l : K.lookup f = some ⟨oc, od, .func (PySem.W.fnOf "_law_is_whole" "_law_is_whole" (defArgs sWho) (defBody sWho) (defScope sWho) .none kV dc pm an cd ct), sl⟩) (c : PySem.W.codeIn K cd "_law_is_whole" = true) (k : PySem.W.keepIn K (.ref f) = true) : Nonempty (Df K mg "_law_is_whole" sWho ["_law_thing", "_law_low", "_law_high"]) :=
  have F := fun_mk (st := sWho) l c k
  df_mk X G a F (F.binds (ps := ["_law_thing", "_law_low", "_law_high"]) fun _ _ _ _ _ _ us hl => match us, hl with | [_, _, _], _ => rfl)
theorem mk_l_is_line {K : PySem.W.Frag} {h : Heap} {mg : Str → Option Value} {f : Addr} {od an : Option Addr} {sl : Array (Option Value)} {oc kV dc pm cd ct : Value} (X : K.In h) (G : h.Ns mainGlobals mg) (a : PySem.W.nsIn K mainGlobals "_law_is_line" = some (some (.ref f)))
    (l : K.lookup f = some ⟨oc, od, .func (PySem.W.fnOf "_law_is_line" "_law_is_line" (defArgs sLn1) (defBody sLn1) (defScope sLn1) .none kV dc pm an cd ct), sl⟩) (c : PySem.W.codeIn K cd "_law_is_line" = true) (k : PySem.W.keepIn K (.ref f) = true) : Nonempty (Df K mg "_law_is_line" sLn1 ["_law_thing", "_law_width"]) :=
  have F := fun_mk (st := sLn1) l c k
  df_mk X G a F (F.binds (ps := ["_law_thing", "_law_width"]) fun _ _ _ _ _ _ us hl => match us, hl with | [_, _], _ => rfl)
theorem mk_l_text {K : PySem.W.Frag} {h : Heap} {mg : Str → Option Value} {f : Addr} {od an : Option Addr} {sl : Array (Option Value)} {oc kV dc pm cd ct : Value} (X : K.In h) (G : h.Ns mainGlobals mg) (a : PySem.W.nsIn K mainGlobals "_law_text" = some (some (.ref f)))
    (l : K.lookup f = some ⟨oc, od, .func (PySem.W.fnOf "_law_text" "_law_text" (defArgs sTTx) (defBody sTTx) (defScope sTTx) .none kV dc pm an cd ct), sl⟩) (c : PySem.W.codeIn K cd "_law_text" = true) (k : PySem.W.keepIn K (.ref f) = true) : Nonempty (Df K mg "_law_text" sTTx ["_law_lines_here"]) :=
  have F := fun_mk (st := sTTx) l c k
  df_mk X G a F (F.binds (ps := ["_law_lines_here"]) fun _ _ _ _ _ _ us hl => match us, hl with | [_], _ => rfl)
theorem mk_l_due {K : PySem.W.Frag} {h : Heap} {mg : Str → Option Value} {f : Addr} {od an : Option Addr} {sl : Array (Option Value)} {oc kV dc pm cd ct : Value} (X : K.In h) (G : h.Ns mainGlobals mg) (a : PySem.W.nsIn K mainGlobals "_law_due" = some (some (.ref f)))
    (l : K.lookup f = some ⟨oc, od, .func (PySem.W.fnOf "_law_due" "_law_due" (defArgs sDu1) (defBody sDu1) (defScope sDu1) .none kV dc pm an cd ct), sl⟩) (c : PySem.W.codeIn K cd "_law_due" = true) (k : PySem.W.keepIn K (.ref f) = true) : Nonempty (Df K mg "_law_due" sDu1 ["_law_width", "_law_some"]) :=
  have F := fun_mk (st := sDu1) l c k
  df_mk X G a F (F.binds (ps := ["_law_width", "_law_some"]) fun _ _ _ _ _ _ us hl => match us, hl with | [_, _], _ => rfl)
theorem mk_l_odd {K : PySem.W.Frag} {h : Heap} {mg : Str → Option Value} {f : Addr} {od an : Option Addr} {sl : Array (Option Value)} {oc kV dc pm cd ct : Value} (X : K.In h) (G : h.Ns mainGlobals mg) (a : PySem.W.nsIn K mainGlobals "_law_odd" = some (some (.ref f)))
    (l : K.lookup f = some ⟨oc, od, .func (PySem.W.fnOf "_law_odd" "_law_odd" (defArgs sOdT) (defBody sOdT) (defScope sOdT) .none kV dc pm an cd ct), sl⟩) (c : PySem.W.codeIn K cd "_law_odd" = true) (k : PySem.W.keepIn K (.ref f) = true) : Nonempty (Df K mg "_law_odd" sOdT ["_law_row"]) :=
  have F := fun_mk (st := sOdT) l c k
  df_mk X G a F (F.binds (ps := ["_law_row"]) fun _ _ _ _ _ _ us hl => match us, hl with | [_], _ => rfl)
theorem mk_l_is_equal {K : PySem.W.Frag} {h : Heap} {mg : Str → Option Value} {f : Addr} {od an : Option Addr} {sl : Array (Option Value)} {oc kV dc pm cd ct : Value} (X : K.In h) (G : h.Ns mainGlobals mg) (a : PySem.W.nsIn K mainGlobals "_law_is_equal" = some (some (.ref f)))
    (l : K.lookup f = some ⟨oc, od, .func (PySem.W.fnOf "_law_is_equal" "_law_is_equal" (defArgs sIsEq) (defBody sIsEq) (defScope sIsEq) .none kV dc pm an cd ct), sl⟩) (c : PySem.W.codeIn K cd "_law_is_equal" = true) (k : PySem.W.keepIn K (.ref f) = true) : Nonempty (Df K mg "_law_is_equal" sIsEq ["_law_actual", "_law_expected"]) :=
  have F := fun_mk (st := sIsEq) l c k
  df_mk X G a F (F.binds (ps := ["_law_actual", "_law_expected"]) fun _ _ _ _ _ _ us hl => match us, hl with | [_, _], _ => rfl)
theorem mk_is_numeral {K : PySem.W.Frag} {h : Heap} {mg : Str → Option Value} {f : Addr} {od an : Option Addr} {sl : Array (Option Value)} {oc kV dc pm cd ct : Value} (X : K.In h) (G : h.Ns mainGlobals mg) (a : PySem.W.nsIn K mainGlobals "is_numeral" = some (some (.ref f)))
    (l : K.lookup f = some ⟨oc, od, .func (PySem.W.fnOf "is_numeral" "is_numeral" (defArgs sIsNum) (defBody sIsNum) (defScope sIsNum) .none kV dc pm an cd ct), sl⟩) (c : PySem.W.codeIn K cd "is_numeral" = true) (k : PySem.W.keepIn K (.ref f) = true) : Nonempty (Df K mg "is_numeral" sIsNum ["word"]) :=
  have F := fun_mk (st := sIsNum) l c k
  df_mk X G a F (F.binds (ps := ["word"]) fun _ _ _ _ _ _ us hl => match us, hl with | [_], _ => rfl)
theorem mk_rows_of {K : PySem.W.Frag} {h : Heap} {mg : Str → Option Value} {f : Addr} {od an : Option Addr} {sl : Array (Option Value)} {oc kV dc pm cd ct : Value} (X : K.In h) (G : h.Ns mainGlobals mg) (a : PySem.W.nsIn K mainGlobals "rows_of" = some (some (.ref f)))
    (l : K.lookup f = some ⟨oc, od, .func (PySem.W.fnOf "rows_of" "rows_of" (defArgs sRowsOf) (defBody sRowsOf) (defScope sRowsOf) .none kV dc pm an cd ct), sl⟩) (c : PySem.W.codeIn K cd "rows_of" = true) (k : PySem.W.keepIn K (.ref f) = true) : Nonempty (Df K mg "rows_of" sRowsOf ["width", "text"]) :=
  have F := fun_mk (st := sRowsOf) l c k
  df_mk X G a F (F.binds (ps := ["width", "text"]) fun _ _ _ _ _ _ us hl => match us, hl with | [_, _], _ => rfl)
theorem mk_l_are_told_apart {K : PySem.W.Frag} {h : Heap} {mg : Str → Option Value} {f : Addr} {od an : Option Addr} {sl : Array (Option Value)} {oc kV dc pm cd ct : Value} (X : K.In h) (G : h.Ns mainGlobals mg) (a : PySem.W.nsIn K mainGlobals "_law_are_told_apart" = some (some (.ref f)))
    (l : K.lookup f = some ⟨oc, od, .func (PySem.W.fnOf "_law_are_told_apart" "_law_are_told_apart" (defArgs sTaT) (defBody sTaT) (defScope sTaT) .none kV dc pm an cd ct), sl⟩) (c : PySem.W.codeIn K cd "_law_are_told_apart" = true) (k : PySem.W.keepIn K (.ref f) = true) : Nonempty (Df K mg "_law_are_told_apart" sTaT ["_law_source_here", "_law_width", "_law_some"]) :=
  have F := fun_mk (st := sTaT) l c k
  df_mk X G a F (F.binds (ps := ["_law_source_here", "_law_width", "_law_some"]) fun _ _ _ _ _ _ us hl => match us, hl with | [_, _, _], _ => rfl)
theorem mk_glb {K : PySem.W.Frag} {h : Heap} {mg : Str → Option Value} {kA : Addr} {t t1 t2 : Tok} {od : Option Addr} {n : Nat} {sl : Array (Option Value)} (X : K.In h) (G : h.Ns mainGlobals mg) (len : PySem.W.nsIn K mainGlobals "len" = some none) (max : PySem.W.nsIn K mainGlobals "max" = some none) (min : PySem.W.nsIn K mainGlobals "min" = some none) (isi : PySem.W.nsIn K mainGlobals "isinstance" = some none) (int : PySem.W.nsIn K mainGlobals "int" = some none) (bool : PySem.W.nsIn K mainGlobals "bool" = some none) (str : PySem.W.nsIn K mainGlobals "str" = some none) (tup : PySem.W.nsIn K mainGlobals "tuple" = some none) (rng : PySem.W.nsIn K mainGlobals "range" = some none) (lst : PySem.W.nsIn K mainGlobals "list" = some none) (all : PySem.W.nsIn K mainGlobals "all" = some none) (set : PySem.W.nsIn K mainGlobals "set" = some none) (enu : PySem.W.nsIn K mainGlobals "enumerate" = some none) (rep : PySem.W.nsIn K mainGlobals "repr" = some none) (srt : PySem.W.nsIn K mainGlobals "sorted" = some none) (zip : PySem.W.nsIn K mainGlobals "zip" = some none) (any : PySem.W.nsIn K mainGlobals "any" = some none) (sum : PySem.W.nsIn K mainGlobals "sum" = some none) (rev : PySem.W.nsIn K mainGlobals "reversed" = some none) (dic : PySem.W.nsIn K mainGlobals "dict" = some none) (typ : PySem.W.nsIn K mainGlobals "type" = some none)
    (wid : PySem.W.nsIn K mainGlobals "WIDEST" = some (some (.int 6 t))) (knd : PySem.W.nsIn K mainGlobals "KINDS" = some (some (.ref kA))) (kl : K.lookup kA = some ⟨.type "tuple", od, .seq #[.str "settles" t1, .str "within" t2] n, sl⟩) : Nonempty { z : Unit // ∃ kA, Glb K mg kA } :=
  ⟨⟨(), kA, ⟨PySem.W.mg_none_of X G len, PySem.W.mg_none_of X G max, PySem.W.mg_none_of X G min, PySem.W.mg_none_of X G isi, PySem.W.mg_none_of X G int, PySem.W.mg_none_of X G bool, PySem.W.mg_none_of X G str, PySem.W.mg_none_of X G tup, PySem.W.mg_none_of X G rng, PySem.W.mg_none_of X G lst, PySem.W.mg_none_of X G all, PySem.W.mg_none_of X G set, PySem.W.mg_none_of X G enu, PySem.W.mg_none_of X G rep, PySem.W.mg_none_of X G srt, PySem.W.mg_none_of X G zip, PySem.W.mg_none_of X G any, PySem.W.mg_none_of X G sum, PySem.W.mg_none_of X G rev, PySem.W.mg_none_of X G dic, PySem.W.mg_none_of X G typ, ⟨t, PySem.W.mg_of X G wid⟩, PySem.W.mg_of X G knd, ⟨_, _, _, kl, rfl, rfl, by show 2 ≤ sizeLine; decide, .cons ⟨t1, rfl⟩ (.cons ⟨t2, rfl⟩ .nil)⟩⟩⟩⟩
structure KlsT (K : PySem.W.Frag) (mg : Str → Option Value) where
  C : Addr
  TC : TxtT K mg C
  fN : Addr
  dN : FuncData
  FN : Fun K "__init__" "Table.__init__" sTInit fN dN
  M : Mk K C fN
  fD : Addr
  dD : FuncData
  FD : Fun K "read" "Table.read" sTRead fD dD
  bD : Binds K dD ["cls", "width", "text"] []
  mc : Value
  pD : Addr
  rD : ClX.CRead K C mc
  cD : ClX.CMet K C mc "read" pD fD
  ic : C8.InsC K C
  fW : Addr
  dW : FuncData
  FW : Fun K "width" "Table.width" sTW fW dW
  bW : Binds K dW ["self"] []
  pW : Addr
  qW : PropOf K C "width" pW fW
  fR : Addr
  dR : FuncData
  FR : Fun K "rows" "Table.rows" sTR fR dR
  bR : Binds K dR ["self"] []
  pR : Addr
  qR : PropOf K C "rows" pR fR
  fE : Addr
  dE : FuncData
  FE : Fun K "__eq__" "Table.__eq__" sTEq fE dE
  bE : Binds K dE ["self", "other"] []
  aE : PySem.W.findIn K (.ref C) "__eq__" = some (some (.ref fE))
  iE : PySem.W.isFn K (.ref fE) = true
  nE : PySem.W.findIn K (.ref C) "__ne__" = some (some (.builtin "object.__ne__"))
  mE : PySem.W.mroIn K C (.type "object") = some true
  fL : Addr
  dL : FuncData
  FL : Fun K "__len__" "Table.__len__" sTLen fL dL
  bL : Binds K dL ["self"] []
  aL : PySem.W.findIn K (.ref C) "__len__" = some (some (.ref fL))
  iL : PySem.W.isFn K (.ref fL) = true
  fX : Addr
  dX : FuncData
  FX : Fun K "text" "Table.text" sTText fX dX
  bX : Binds K dX ["self"] []
  mX : Meth K C "text" fX
  fP : Addr
  dP : FuncData
  FP : Fun K "__repr__" "Table.__repr__" sTrp fP dP
  bP : Binds K dP ["self"] []
  aP : PySem.W.findIn K (.ref C) "__repr__" = some (some (.ref fP))
  iP : PySem.W.isFn K (.ref fP) = true
theorem mk_clsT {K : PySem.W.Frag} {h : Heap} {mg : Str → Option Value} {C fN fD fW fR fE fL fX fP : Addr} {odN anN : Option Addr} {slN : Array (Option Value)} {ocN kVN dcN pmN cdN ctN : Value} {pD : Addr} {rest : List Value} {odD anD : Option Addr} {slD : Array (Option Value)} {ocD kVD dcD pmD cdD ctD : Value} {pW : Addr} {restW : List Value} {odW anW : Option Addr} {slW : Array (Option Value)} {ocW kVW dcW pmW cdW ctW : Value} {pR : Addr} {restR : List Value} {odR anR : Option Addr} {slR : Array (Option Value)} {ocR kVR dcR pmR cdR ctR : Value} {odE anE : Option Addr} {slE : Array (Option Value)} {ocE kVE dcE pmE cdE ctE : Value} {odL anL : Option Addr} {slL : Array (Option Value)} {ocL kVL dcL pmL cdL ctL : Value} {odX anX : Option Addr} {slX : Array (Option Value)} {ocX kVX dcX pmX cdX ctX : Value} {odP anP : Option Addr} {slP : Array (Option Value)} {ocP kVP dcP pmP cdP ctP : Value} (X : K.In h) (G : h.Ns mainGlobals mg)
    (aC : PySem.W.nsIn K mainGlobals "Table" = some (some (.ref C))) (pg : PySem.W.plainGet K C Str.empty = true) (hd : PySem.W.hasDictIn K C = true) (po : PySem.W.plainOver K C = true) (sa : PySem.W.findIn K (.ref C) "__setattr__" = some (some (.builtin "object.__setattr__"))) (kc : PySem.W.keepIn K (.ref C) = true) (nS : PySem.W.findIn K (.ref C) "span" = some none) (nL : PySem.W.findIn K (.ref C) "lines" = some none) (mk : PySem.W.makesIn K C = true) (aN : PySem.W.findIn K (.ref C) "__init__" = some (some (.ref fN))) (iN : PySem.W.isFn K (.ref fN) = true) (lN : K.lookup fN = some ⟨ocN, odN, .func (PySem.W.fnOf "__init__" "Table.__init__" (defArgs sTInit) (defBody sTInit) (defScope sTInit) .none kVN dcN pmN anN cdN ctN), slN⟩) (cN : PySem.W.codeIn K cdN "Table.__init__" = true) (kN : PySem.W.keepIn K (.ref fN) = true) (rd : PySem.W.readsIn K C (.type "type") = true) (ga : PySem.W.specialIn K (.ref C) "__getattribute__" = some (some (.builtin "type.__getattribute__"))) (aD : PySem.W.findCls K (.ref C) (.type "type") "read" = some (.get (.builtin "classmethod.__get__") (.ref pD) .none (.ref C))) (rD : PySem.W.recIn K pD "classmethod" = some (.ref fD :: rest)) (iD : PySem.W.fnIn K fD = true) (lD : K.lookup fD = some ⟨ocD, odD, .func (PySem.W.fnOf "read" "Table.read" (defArgs sTRead) (defBody sTRead) (defScope sTRead) .none kVD dcD pmD anD cdD ctD), slD⟩) (cD : PySem.W.codeIn K cdD "Table.read" = true) (kD : PySem.W.keepIn K (.ref fD) = true) (i1 : PySem.W.findIn K (.ref C) "__class__" = some (some (.builtin "object.__class__"))) (i2 : PySem.W.specialIn K (.builtin "object.__class__") "__get__" = some (some (.builtin "getset_descriptor.__get__"))) (i3 : PySem.W.takesIn K (.builtin "object.__class__") = some true) (i4 : PySem.W.mroIn K C (.type "object") = some true) (q1W : PySem.W.findIn K (.ref C) "width" = some (some (.ref pW))) (q2W : PySem.W.specialIn K (.ref pW) "__get__" = some (some (.builtin "property.__get__"))) (q3W : PySem.W.takesIn K (.ref pW) = some true) (q4W : PySem.W.recIn K pW "property" = some (.ref fW :: restW)) (lW : K.lookup fW = some ⟨ocW, odW, .func (PySem.W.fnOf "width" "Table.width" (defArgs sTW) (defBody sTW) (defScope sTW) .none kVW dcW pmW anW cdW ctW), slW⟩) (cW : PySem.W.codeIn K cdW "Table.width" = true) (kW : PySem.W.keepIn K (.ref fW) = true) (q1R : PySem.W.findIn K (.ref C) "rows" = some (some (.ref pR))) (q2R : PySem.W.specialIn K (.ref pR) "__get__" = some (some (.builtin "property.__get__"))) (q3R : PySem.W.takesIn K (.ref pR) = some true) (q4R : PySem.W.recIn K pR "property" = some (.ref fR :: restR)) (lR : K.lookup fR = some ⟨ocR, odR, .func (PySem.W.fnOf "rows" "Table.rows" (defArgs sTR) (defBody sTR) (defScope sTR) .none kVR dcR pmR anR cdR ctR), slR⟩) (cR : PySem.W.codeIn K cdR "Table.rows" = true) (kR : PySem.W.keepIn K (.ref fR) = true) (aE : PySem.W.findIn K (.ref C) "__eq__" = some (some (.ref fE))) (iE : PySem.W.isFn K (.ref fE) = true) (nE : PySem.W.findIn K (.ref C) "__ne__" = some (some (.builtin "object.__ne__"))) (mE : PySem.W.mroIn K C (.type "object") = some true) (lE : K.lookup fE = some ⟨ocE, odE, .func (PySem.W.fnOf "__eq__" "Table.__eq__" (defArgs sTEq) (defBody sTEq) (defScope sTEq) .none kVE dcE pmE anE cdE ctE), slE⟩) (cE : PySem.W.codeIn K cdE "Table.__eq__" = true) (kE : PySem.W.keepIn K (.ref fE) = true) (aL : PySem.W.findIn K (.ref C) "__len__" = some (some (.ref fL))) (iL : PySem.W.isFn K (.ref fL) = true) (lL : K.lookup fL = some ⟨ocL, odL, .func (PySem.W.fnOf "__len__" "Table.__len__" (defArgs sTLen) (defBody sTLen) (defScope sTLen) .none kVL dcL pmL anL cdL ctL), slL⟩) (cL : PySem.W.codeIn K cdL "Table.__len__" = true) (kL : PySem.W.keepIn K (.ref fL) = true) (aX : PySem.W.findIn K (.ref C) "text" = some (some (.ref fX))) (iX : PySem.W.isFn K (.ref fX) = true) (lX : K.lookup fX = some ⟨ocX, odX, .func (PySem.W.fnOf "text" "Table.text" (defArgs sTText) (defBody sTText) (defScope sTText) .none kVX dcX pmX anX cdX ctX), slX⟩) (cX : PySem.W.codeIn K cdX "Table.text" = true) (kX : PySem.W.keepIn K (.ref fX) = true) (aP : PySem.W.findIn K (.ref C) "__repr__" = some (some (.ref fP))) (iP : PySem.W.isFn K (.ref fP) = true) (lP : K.lookup fP = some ⟨ocP, odP, .func (PySem.W.fnOf "__repr__" "Table.__repr__" (defArgs sTrp) (defBody sTrp) (defScope sTrp) .none kVP dcP pmP anP cdP ctP), slP⟩) (cP : PySem.W.codeIn K cdP "Table.__repr__" = true) (kP : PySem.W.keepIn K (.ref fP) = true) : Nonempty (KlsT K mg) :=
  have FN := fun_mk (st := sTInit) lN cN kN
  have FD := fun_mk (st := sTRead) lD cD kD
  have FW := fun_mk (st := sTW) lW cW kW
  have FR := fun_mk (st := sTR) lR cR kR
  have FE := fun_mk (st := sTEq) lE cE kE
  have FL := fun_mk (st := sTLen) lL cL kL
  have FX := fun_mk (st := sTText) lX cX kX
  have FP := fun_mk (st := sTrp) lP cP kP
  ⟨⟨C, ⟨⟨pg, hd, po, sa⟩, nS, nL, PySem.W.mg_of X G aC⟩, fN, _, FN, ⟨mk, aN, iN, kc⟩, fD, _, FD, FD.binds (ps := ["cls", "width", "text"]) (fun _ _ _ _ _ _ us hl => match us, hl with | [_, _, _], _ => rfl), .type "type", pD, ⟨rd, ga⟩, ⟨aD, ⟨rest, rD⟩, iD⟩, ⟨⟨pg, hd, po, sa⟩, i1, i2, i3, i4, kit_self⟩, fW, _, FW, FW.binds (ps := ["self"]) (fun _ _ _ _ _ _ us hl => match us, hl with | [_], _ => rfl), pW, ⟨q1W, q2W, q3W, ⟨restW, q4W⟩⟩, fR, _, FR, FR.binds (ps := ["self"]) (fun _ _ _ _ _ _ us hl => match us, hl with | [_], _ => rfl), pR, ⟨q1R, q2R, q3R, ⟨restR, q4R⟩⟩, fE, _, FE, FE.binds (ps := ["self", "other"]) (fun _ _ _ _ _ _ us hl => match us, hl with | [_, _], _ => rfl), aE, iE, nE, mE, fL, _, FL, FL.binds (ps := ["self"]) (fun _ _ _ _ _ _ us hl => match us, hl with | [_], _ => rfl), aL, iL, fX, _, FX, FX.binds (ps := ["self"]) (fun _ _ _ _ _ _ us hl => match us, hl with | [_], _ => rfl), ⟨aX, iX, kX⟩, fP, _, FP, FP.binds (ps := ["self"]) (fun _ _ _ _ _ _ us hl => match us, hl with | [_], _ => rfl), aP, iP⟩⟩
theorem mk_glbT {K : PySem.W.Frag} {h : Heap} {mg : Str → Option Value} {t1 t2 : Tok} (X : K.In h) (G : h.Ns mainGlobals mg) (a : PySem.W.nsIn K mainGlobals "LARGEST_VALUE" = some (some (.int 9999 t1))) (b : PySem.W.nsIn K mainGlobals "MOST_ROWS" = some (some (.int 400 t2))) : GlbT mg := ⟨⟨t1, PySem.W.mg_of X G a⟩, ⟨t2, PySem.W.mg_of X G b⟩⟩
theorem mk_exc_ColumnError {K : PySem.W.Frag} {h : Heap} {mg : Str → Option Value} {CE : Addr} (X : K.In h) (G : h.Ns mainGlobals mg) (a : PySem.W.nsIn K mainGlobals "ColumnError" = some (some (.ref CE))) : ∃ CE, mg "ColumnError" = some (.ref CE) := ⟨CE, PySem.W.mg_of X G a⟩
theorem all_mk {l : PySem.W.OpenLaw} {w : World} {K : PySem.W.Frag} {h : Heap} {mg : Str → Option Value} {fa f : Addr} {od an : Option Addr} {sl : Array (Option Value)} {oc kV dc pm cd ct : Value} (X : K.In h) (G : h.Ns mainGlobals mg) (hfa : mg "law" = some (.ref fa))
    (a : PySem.W.nsIn K mainGlobals "law" = some (some (.ref f))) (l1 : K.lookup f = some ⟨oc, od, .func (PySem.W.fnOf "law" "law" (defArgs sLaw) (defBody sLaw) (defScope sLaw) .none kV dc pm an cd ct), sl⟩) (c : PySem.W.codeIn K cd "law" = true) (k : PySem.W.keepIn K (.ref f) = true)
    (gb : Nonempty { z : Unit // ∃ kA, Glb K mg kA }) (kt : Nonempty (KlsT K mg)) (TT : GlbT mg) (ex_ColumnError : ∃ CE, mg "ColumnError" = some (.ref CE)) (mo_two : ∃ CN CU, ExcK K mg "NoWidth" CN ∧ ExcK K mg "NoRows" CU ∧ ExcTwo K CN CU) (mo_kt : ∀ C, mg "Table" = some (.ref C) → KitF K C) (m_l_source : Nonempty (Df K mg "_law_source" sSource ["_law_cell_here"])) (m_l_cell : Nonempty (Df K mg "_law_cell" sCell ["_law_script", "_law_index"])) (m_l_draw : Nonempty (Df K mg "_law_draw" sDraw ["_law_source_here", "_law_many"])) (m_l_choose : Nonempty (Df K mg "_law_choose" sChoose ["_law_source_here", "_law_values"])) (m_is_an_integer : Nonempty (Df K mg "is_an_integer" sIsInt ["thing"])) (m_is_width : Nonempty (Df K mg "is_width" sIsWidth ["thing"])) (m_is_row : Nonempty (Df K mg "is_row" sIsRow ["width", "thing"])) (m_l_built : Nonempty (Df K mg "_law_built" sBt1 ["_law_width", "_law_some"])) (m_l_said : Nonempty (Df K mg "_law_said" sSd1 ["_law_width", "_law_some"])) (m_l_is_whole : Nonempty (Df K mg "_law_is_whole" sWho ["_law_thing", "_law_low", "_law_high"])) (m_l_is_line : Nonempty (Df K mg "_law_is_line" sLn1 ["_law_thing", "_law_width"])) (m_l_text : Nonempty (Df K mg "_law_text" sTTx ["_law_lines_here"])) (m_l_due : Nonempty (Df K mg "_law_due" sDu1 ["_law_width", "_law_some"])) (m_l_odd : Nonempty (Df K mg "_law_odd" sOdT ["_law_row"])) (m_l_is_equal : Nonempty (Df K mg "_law_is_equal" sIsEq ["_law_actual", "_law_expected"])) (m_is_numeral : Nonempty (Df K mg "is_numeral" sIsNum ["word"])) (m_rows_of : Nonempty (Df K mg "rows_of" sRowsOf ["width", "text"])) (m_l_are_told_apart : Nonempty (Df K mg "_law_are_told_apart" sTaT ["_law_source_here", "_law_width", "_law_some"])) :
    ∃ fd : FuncData, (∀ (s : Shared) (v : Value), BindsTo s fd ⟨[v], []⟩ [("_law_script", v)]) ∧ ∀ base : Heap, K.In base → base.Ns mainGlobals mg → GD.FnG l.prog w K mg base CX0 26 fa fd ["_law_script"] (spLaw K) := by
  have e := hfa.symm.trans (PySem.W.mg_of X G a)
  cases e
  obtain ⟨⟨_, kA, T⟩⟩ := gb
  obtain ⟨Z⟩ := kt
  obtain ⟨E_ColumnError, g_ColumnError⟩ := ex_ColumnError
  obtain ⟨CW, CN, eW, eN, two⟩ := mo_two
  obtain kt0 := mo_kt
  have kf := mo_kt _ Z.TC.mgC
  obtain ⟨x_l_source⟩ := m_l_source
  obtain ⟨x_l_cell⟩ := m_l_cell
  obtain ⟨x_l_draw⟩ := m_l_draw
  obtain ⟨x_l_choose⟩ := m_l_choose
  obtain ⟨x_is_an_integer⟩ := m_is_an_integer
  obtain ⟨x_is_width⟩ := m_is_width
  obtain ⟨x_is_row⟩ := m_is_row
  obtain ⟨x_l_built⟩ := m_l_built
  obtain ⟨x_l_said⟩ := m_l_said
  obtain ⟨x_l_is_whole⟩ := m_l_is_whole
  obtain ⟨x_l_is_line⟩ := m_l_is_line
  obtain ⟨x_l_text⟩ := m_l_text
  obtain ⟨x_l_due⟩ := m_l_due
  obtain ⟨x_l_odd⟩ := m_l_odd
  obtain ⟨x_l_is_equal⟩ := m_l_is_equal
  obtain ⟨x_is_numeral⟩ := m_is_numeral
  obtain ⟨x_rows_of⟩ := m_rows_of
  obtain ⟨x_l_are_told_apart⟩ := m_l_are_told_apart
  refine ⟨PySem.W.fnOf "law" "law" (defArgs sLaw) (defBody sLaw) (defScope sLaw) .none kV dc pm an cd ct, fun s v => .of_eq rfl, fun base _ _ => ?_⟩
  have icT : C8.InsC K Z.C := Z.ic
  have kt4 : KitT K Z.C := ⟨icT, kf.ct, kf.ci⟩
  have RC : ReprC l.prog w K mg base Z.C (spTrp K Z.C) := ⟨Z.fP, Z.aP, Z.iP, from_le fun k => raw0 (ok_trp (k := k) Z.FP T Z.TC) Z.bP⟩
  have pTR : Prp l.prog w K mg base Z.C "rows" "lines" := ⟨Z.pR, Z.fR, Z.dR, Z.qR, from_le fun k => ok_trows (k := k) Z.FR Z.TC, Z.bR⟩
  have eqT : EqO l.prog w K mg base Z.C (spTEq K Z.C) 1 := ⟨Z.fE, Z.aE, Z.iE, Z.nE, Z.mE, from_le fun k => raw0 (ok_teq (k := k) Z.FE T Z.TC icT) Z.bE⟩
  have EN : EqN l.prog w K mg base Z.C := ⟨Z.fE, Z.aE, Z.iE, nf_ty, kf.sn.no.kit "tuple" (by decide), from_le fun k => raw0 (ok_teqN (k := k) Z.FE T Z.TC icT) Z.bE⟩
  have txT : TxtTM l.prog w K mg base Z.C 1 := ⟨Z.fX, Z.dX, Z.mX, from_le fun k => ok_ttext (k := k) Z.FX T Z.TC, Z.bX⟩
  have c__law_source : Cal l.prog w K mg base "_law_source" ["_law_cell_here"] spSource 1 := Df.cal x_l_source fun k => ok_source (k := k) x_l_source.F T.max
  have c__law_cell : Cal l.prog w K mg base "_law_cell" ["_law_script", "_law_index"] (spCell K) 1 := Df.cal x_l_cell fun k => ok_cell (k := k) x_l_cell.F T.len
  have c__law_draw : Cal l.prog w K mg base "_law_draw" ["_law_source_here", "_law_many"] spDraw2 1 := Df.cal x_l_draw fun k => ok_draw2 (k := k) x_l_draw.F
  have c__law_choose : Cal l.prog w K mg base "_law_choose" ["_law_source_here", "_law_values"] (spChoose K) 2 := Df.cal x_l_choose fun k => ok_choose (k := k) x_l_choose.F T c__law_draw
  have c_is_an_integer : Cal l.prog w K mg base "is_an_integer" ["thing"] (spIsIntT K) 1 := Df.cal x_is_an_integer fun k => ok_isintT (k := k) x_is_an_integer.F T
  have c_is_width : Cal l.prog w K mg base "is_width" ["thing"] (spIsWidthI K) 2 := Df.cal x_is_width fun k => ok_iswidthI (k := k) x_is_width.F T c_is_an_integer
  have c_is_row : Cal l.prog w K mg base "is_row" ["width", "thing"] (spIsRowI K) 2 := Df.cal x_is_row fun k => ok_isrowI (k := k) x_is_row.F T TT c_is_an_integer
  have mx : MakeTX l.prog w K mg base Z.C CW CN 3 := ⟨Z.fN, Z.M, from_le fun k => ok_tinitX (k := k) Z.FN T TT Z.TC eW eN c_is_width c_is_row⟩
  have c__law_built : CalX l.prog w K mg base "_law_built" ["_law_width", "_law_some"] (spBt1 K Z.C CW CN) 5 := ⟨x_l_built.f, x_l_built.fd, from_le fun k => ok_bt1 (k := k) x_l_built.F T Z.TC.mgC mx, x_l_built.F.kp, x_l_built.b, x_l_built.g⟩
  have pTW : Prp l.prog w K mg base Z.C "width" "span" := ⟨Z.pW, Z.fW, Z.dW, Z.qW, from_le fun k => ok_tw (k := k) Z.FW Z.TC, Z.bW⟩
  have lnT : LenT l.prog w K mg base Z.C (spTLen K Z.C) 1 := ⟨Z.fL, Z.aL, Z.iL, from_le fun k => raw0 (ok_tlen (k := k) Z.FL T Z.TC) Z.bL⟩
  have c__law_said : Cal l.prog w K mg base "_law_said" ["_law_width", "_law_some"] (spSd1 K) 6 := Df.cal x_l_said fun k => ok_sd1 (k := k) x_l_said.F T Z.TC eW.g eN.g two c__law_built pTW pTR lnT RC txT eqT
  have c__law_is_whole : Cal l.prog w K mg base "_law_is_whole" ["_law_thing", "_law_low", "_law_high"] (spWho K) 1 := Df.cal x_l_is_whole fun k => ok_who (k := k) x_l_is_whole.F T
  have c__law_is_line : Cal l.prog w K mg base "_law_is_line" ["_law_thing", "_law_width"] (spLn1 K) 2 := Df.cal x_l_is_line fun k => ok_ln1 (k := k) x_l_is_line.F T c__law_is_whole
  have c__law_text : Cal l.prog w K mg base "_law_text" ["_law_lines_here"] (spTTx K) 1 := Df.cal x_l_text fun k => ok_ttx (k := k) x_l_text.F T
  have c__law_due : Cal l.prog w K mg base "_law_due" ["_law_width", "_law_some"] (spSd1 K) 3 := Df.cal x_l_due fun k => ok_du1 (k := k) x_l_due.F T c__law_is_whole c__law_is_line c__law_text
  have mkT : MakeT l.prog w K mg base Z.C 3 := ⟨Z.fN, Z.M, from_le fun k => ok_tinit (k := k) Z.FN T TT Z.TC (c_is_width.imp fun _ _ _ _ h => .inl h) (c_is_row.imp fun _ _ _ _ h => .inl h)⟩
  have c__law_odd : Cal l.prog w K mg base "_law_odd" ["_law_row"] (spOdT K Z.C) 5 := Df.cal x_l_odd fun k => ok_odT (k := k) x_l_odd.F T Z.TC kt4 mkT
  have c__law_is_equal : GD.CalG l.prog w K mg base "_law_is_equal" ["_law_actual", "_law_expected"] (GD.spEqD K) 1 := GD.calG x_l_is_equal fun k => GD.ok_iseqD (k := k) x_l_is_equal.F T
  have c_is_numeral : Cal l.prog w K mg base "is_numeral" ["word"] spIsNum 1 := Df.cal x_is_numeral fun k => ok_isnum (k := k) x_is_numeral.F T TT
  have c_rows_of : Cal l.prog w K mg base "rows_of" ["width", "text"] (spRowsOf K) 2 := Df.cal x_rows_of fun k => ok_rowsof (k := k) x_rows_of.F T TT c_is_numeral
  have rdT : ReadT l.prog w K mg base Z.C 5 := ⟨Z.mc, Z.pD, Z.fD, Z.rD, Z.cD, from_le fun k => raw0 (ok_tread (k := k) Z.FD T mkT (c_is_width.imp fun _ _ _ _ h => .inl h) c_rows_of) Z.bD⟩
  have c__law_are_told_apart : GD.CalG l.prog w K mg base "_law_are_told_apart" ["_law_source_here", "_law_width", "_law_some"] (spTaT K) 6 := GD.calG x_l_are_told_apart fun k => ok_taT (k := k) x_l_are_told_apart.F T Z.TC mkT rdT eqT c__law_built c__law_draw c__law_text c__law_is_equal
  exact ok_law (k := 0) (fun_mk (st := sLaw) l1 c k) T Z.TC kf.sn.no kf.sn g_ColumnError RC pTR eqT EN txT c__law_source c__law_cell c__law_draw c__law_choose c__law_built c__law_said c__law_due c__law_odd c__law_is_equal c__law_are_told_apart
end CC
open PySem PySem.W PyProof.Rows
set_option maxHeartbeats 0 in
theorem PySem.Challenge.cw_countcycles_k01_tables_made_holds : PySem.Challenge.rw_countcycles_k01_tables_made.Holds := by
  w_on; o_law; k_head; (case hw => w_witness2)
  k_fill
  refine GD.walk_ofG (l := PySem.Challenge.rw_countcycles_k01_tables_made) (n := 63) (k := 26) (x := "_law_script") (CX := fun _ => L2.CX0) (sp := fun w => CC.spLaw _) rfl (by decide) rfl ⟨rfl, by decide, by decide⟩ (fun w h Y => PySem.W.kIn_of Y) ?F (fun _ _ a ns hl _ hS => ⟨a, ns, rfl, hS, hl, fun _ => rfl⟩) (fun _ _ _ _ _ h => h)
  case F =>
    intro w mg fa h KX G hmg
    refine' CC.all_mk KX G hmg ?a ?l ?c ?k ?gb ?kt ?tt ?ex_ColumnError ?mo_two ?mo_kt ?m_l_source ?m_l_cell ?m_l_draw ?m_l_choose ?m_is_an_integer ?m_is_width ?m_is_row ?m_l_built ?m_l_said ?m_l_is_whole ?m_l_is_line ?m_l_text ?m_l_due ?m_l_odd ?m_l_is_equal ?m_is_numeral ?m_rows_of ?m_l_are_told_apart
    (case a => k_is); (case l => k_is); (case c => k_is); (case k => k_is)
    case gb =>
      refine' CC.mk_glb KX G ?z_len ?z_max ?z_min ?z_isi ?z_int ?z_bool ?z_str ?z_tup ?z_rng ?z_lst ?z_all ?z_set ?z_enu ?z_rep ?z_srt ?z_zip ?z_any ?z_sum ?z_rev ?z_dic ?z_typ ?z1 ?z2 ?z3
      (case z_len => k_is); (case z_max => k_is); (case z_min => k_is); (case z_isi => k_is); (case z_int => k_is); (case z_bool => k_is); (case z_str => k_is); (case z_tup => k_is); (case z_rng => k_is); (case z_lst => k_is); (case z_all => k_is); (case z_set => k_is); (case z_enu => k_is); (case z_rep => k_is); (case z_srt => k_is); (case z_zip => k_is); (case z_any => k_is); (case z_sum => k_is); (case z_rev => k_is); (case z_dic => k_is); (case z_typ => k_is); (case z1 => k_is); (case z2 => k_is); (case z3 => k_is)
    case kt =>
      refine' CC.mk_clsT KX G ?y_aC ?y_pg ?y_hd ?y_po ?y_sa ?y_kc ?y_nS ?y_nL ?y_mk ?y_aN ?y_iN ?y_lN ?y_cN ?y_kN ?y_rd ?y_ga ?y_aD ?y_rD ?y_iD ?y_lD ?y_cD ?y_kD ?y_i1 ?y_i2 ?y_i3 ?y_i4 ?y_q1W ?y_q2W ?y_q3W ?y_q4W ?y_lW ?y_cW ?y_kW ?y_q1R ?y_q2R ?y_q3R ?y_q4R ?y_lR ?y_cR ?y_kR ?y_aE ?y_iE ?y_nE ?y_mE ?y_lE ?y_cE ?y_kE ?y_aL ?y_iL ?y_lL ?y_cL ?y_kL ?y_aX ?y_iX ?y_lX ?y_cX ?y_kX ?y_aP ?y_iP ?y_lP ?y_cP ?y_kP
      (case y_aC => k_is)
      (case y_pg => k_is)
      (case y_hd => k_is)
      (case y_po => k_is)
      (case y_sa => k_is)
      (case y_kc => k_is)
      (case y_nS => k_is)
      (case y_nL => k_is)
      (case y_mk => k_is)
      (case y_aN => k_is)
      (case y_iN => k_is)
      (case y_lN => k_is)
      (case y_cN => k_is)
      (case y_kN => k_is)
      (case y_rd => k_is)
      (case y_ga => k_is)
      (case y_aD => k_is)
      (case y_rD => k_is)
      (case y_iD => k_is)
      (case y_lD => k_is)
      (case y_cD => k_is)
      (case y_kD => k_is)
      (case y_i1 => k_is)
      (case y_i2 => k_is)
      (case y_i3 => k_is)
      (case y_i4 => k_is)
      (case y_q1W => k_is)
      (case y_q2W => k_is)
      (case y_q3W => k_is)
      (case y_q4W => k_is)
      (case y_lW => k_is)
      (case y_cW => k_is)
      (case y_kW => k_is)
      (case y_q1R => k_is)
      (case y_q2R => k_is)
      (case y_q3R => k_is)
      (case y_q4R => k_is)
      (case y_lR => k_is)
      (case y_cR => k_is)
      (case y_kR => k_is)
      (case y_aE => k_is)
      (case y_iE => k_is)
      (case y_nE => k_is)
      (case y_mE => k_is)
      (case y_lE => k_is)
      (case y_cE => k_is)
      (case y_kE => k_is)
      (case y_aL => k_is)
      (case y_iL => k_is)
      (case y_lL => k_is)
      (case y_cL => k_is)
      (case y_kL => k_is)
      (case y_aX => k_is)
      (case y_iX => k_is)
      (case y_lX => k_is)
      (case y_cX => k_is)
      (case y_kX => k_is)
      (case y_aP => k_is)
      (case y_iP => k_is)
      (case y_lP => k_is)
      (case y_cP => k_is)
      (case y_kP => k_is)
    (case tt => (refine' CC.mk_glbT KX G ?a ?b; (case a => k_is); (case b => k_is)))
    (case ex_ColumnError => (refine' CC.mk_exc_ColumnError KX G ?a; (case a => k_is)))
    case mo_two =>
      refine' CC.mk_two KX G ?aN ?xN ?kN ?bN ?tN ?iN ?sN ?aU ?xU ?kU ?bU ?tU ?iU ?sU ?dU
      (case aN => k_is)
      (case aU => k_is)
      (case xN => k_exc)
      (case kN => k_is)
      (case bN => k_is)
      (case tN => k_is)
      (case iN => k_is)
      (case sN => first | rfl | k_is)
      (case xU => k_exc)
      (case kU => k_is)
      (case bU => k_is)
      (case tU => k_is)
      (case iU => k_is)
      (case sU => first | rfl | k_is)
      (case dU => k_is)
    case mo_kt =>
      refine' CC.mk_kit KX G ?a ?t ?i ?u1 ?u2 ?u3 ?u4 ?u5 ?u6 ?u7
      (case a => k_is)
      (case t => k_is)
      (case i => k_is)
      (case u1 => k_is)
      (case u2 => k_is)
      (case u3 => k_is)
      (case u4 => k_is)
      (case u5 => k_is)
      (case u6 => k_is)
      (case u7 => k_is)
    (case m_l_source => (refine' CC.mk_l_source KX G ?a ?l ?c ?k; (case a => k_is); (case l => k_is); (case c => k_is); (case k => k_is)))
    (case m_l_cell => (refine' CC.mk_l_cell KX G ?a ?l ?c ?k; (case a => k_is); (case l => k_is); (case c => k_is); (case k => k_is)))
    (case m_l_draw => (refine' CC.mk_l_draw KX G ?a ?l ?c ?k; (case a => k_is); (case l => k_is); (case c => k_is); (case k => k_is)))
    (case m_l_choose => (refine' CC.mk_l_choose KX G ?a ?l ?c ?k; (case a => k_is); (case l => k_is); (case c => k_is); (case k => k_is)))
    (case m_is_an_integer => (refine' CC.mk_is_an_integer KX G ?a ?l ?c ?k; (case a => k_is); (case l => k_is); (case c => k_is); (case k => k_is)))
    (case m_is_width => (refine' CC.mk_is_width KX G ?a ?l ?c ?k; (case a => k_is); (case l => k_is); (case c => k_is); (case k => k_is)))
    (case m_is_row => (refine' CC.mk_is_row KX G ?a ?l ?c ?k; (case a => k_is); (case l => k_is); (case c => k_is); (case k => k_is)))
    (case m_l_built => (refine' CC.mk_l_built KX G ?a ?l ?c ?k; (case a => k_is); (case l => k_is); (case c => k_is); (case k => k_is)))
    (case m_l_said => (refine' CC.mk_l_said KX G ?a ?l ?c ?k; (case a => k_is); (case l => k_is); (case c => k_is); (case k => k_is)))
    (case m_l_is_whole => (refine' CC.mk_l_is_whole KX G ?a ?l ?c ?k; (case a => k_is); (case l => k_is); (case c => k_is); (case k => k_is)))
    (case m_l_is_line => (refine' CC.mk_l_is_line KX G ?a ?l ?c ?k; (case a => k_is); (case l => k_is); (case c => k_is); (case k => k_is)))
    (case m_l_text => (refine' CC.mk_l_text KX G ?a ?l ?c ?k; (case a => k_is); (case l => k_is); (case c => k_is); (case k => k_is)))
    (case m_l_due => (refine' CC.mk_l_due KX G ?a ?l ?c ?k; (case a => k_is); (case l => k_is); (case c => k_is); (case k => k_is)))
    (case m_l_odd => (refine' CC.mk_l_odd KX G ?a ?l ?c ?k; (case a => k_is); (case l => k_is); (case c => k_is); (case k => k_is)))
    (case m_l_is_equal => (refine' CC.mk_l_is_equal KX G ?a ?l ?c ?k; (case a => k_is); (case l => k_is); (case c => k_is); (case k => k_is)))
    (case m_is_numeral => (refine' CC.mk_is_numeral KX G ?a ?l ?c ?k; (case a => k_is); (case l => k_is); (case c => k_is); (case k => k_is)))
    (case m_rows_of => (refine' CC.mk_rows_of KX G ?a ?l ?c ?k; (case a => k_is); (case l => k_is); (case c => k_is); (case k => k_is)))
    (case m_l_are_told_apart => (refine' CC.mk_l_are_told_apart KX G ?a ?l ?c ?k; (case a => k_is); (case l => k_is); (case c => k_is); (case k => k_is)))
