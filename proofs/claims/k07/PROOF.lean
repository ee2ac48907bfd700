import PyProof.Rows.All
import Wide.All
import OpenK.AllK
import Wide.FinOn
import HandS.ForMost
import HandS.Deep
import HandS.IsInst
import HandS.FStr
import HandS.Conv
import HandS.Strs
import HandS.SetFor
import HandS.TupSets
import HandS.StrMore
import HandS.Star
import HandS.ClsMeth
import HandS.Property
import HandS.SetBool
import HandS.DictComp
import HandS.Zip
import HandS.Set
import PyProof.FactsAll.set_2
import HandS.SlotsOwn
import PyProof.FactsAll.object_2
import PyProof.ReprRoads
import HandS.More
import HandS.Lambda
import HandS.EndBits
import KE.KNestM
import HandS.SortInts
import HandS.TupLe
import HandS.Style
import HandS.Codes
import PyProof.ReprLen
import HandS.TryOnly
import HandS.WordsExc
import PySem.Challenge.RW_countcycles_k07_rules_that_hold
set_option Elab.async false
set_option linter.all false
set_option maxRecDepth 100000
set_option maxHeartbeats 16000000
namespace CC
open PySem L2
def tp (i : Nat) : Stmt := PySem.Challenge.pw_countcycles_k07_rules_that_hold.main.body.getD i (.Pass ⟨0, 0, 0, 0⟩)
abbrev sCell : Stmt := tp 42
/-- a source of draws: three numbers -/
def IsSrc (o : HO) : Prop := ∃ a b c : Int, o = .lst [.int a, .int b, .int c] ∧ 0 ≤ b ∧ b < 2147483648
def spCell (K : PySem.W.Frag) : Sp := fun vs H Q _ => ∃ (a : Addr) (ns : List Int) (k : Nat), vs = [.ref a, .int (k : Int)] ∧ SqL K H a (ns.map V.int) ∧ ∀ z : Int, Q (.int z) H
def spSource : Sp := fun vs H Q _ => ∃ z : Int, vs = [.int z] ∧ ∀ p o, H p = none → IsSrc o → Q (.ref p) (upd H p o)
def spDraw : Sp := fun vs H Q _ => ∃ (s : Addr) (m : Int) (o : HO), vs = [.ref s, .int m] ∧ H s = some o ∧ IsSrc o ∧ 0 < m ∧ m < 1000000 ∧ ∀ (r : Int) (o' : HO), 0 ≤ r → r < m → IsSrc o' → Q (.int r) (upd H s o')
section
variable {P : Program} {w : World} {K : PySem.W.Frag} {mg : Str → Option Value} {base : Heap}
theorem scCell : FnScope ["_law_script", "_law_index"] ["_law_script", "_law_index"] (defScope sCell) := ⟨rfl, rfl, rfl, by decide +kernel, rfl, by decide +kernel, by decide +kernel⟩
theorem ok_cell {f : Addr} {fd : FuncData} {k : Nat} (F : Fun K "_law_cell" "_law_cell" sCell f fd) (ml : mg "len" = none) : FnOk P w K mg base CX0 (k + 1) f fd ["_law_script", "_law_index"] (spCell K) := by
  refine F.ok scCell (fun vs H Q E h => ?_) (fun cdv A outer s H vs Q E hr h => ?_)
  · obtain ⟨a, ns, k, rfl, _⟩ := h
    rfl
  · obtain ⟨a, ns, k, rfl, hS, q⟩ := h
    refine ⟨_, pss_cons (ps_if (pt_cmpR op_lt (pv 1) (pe_callB call_len_seq (by rfl) ml PySem.boot_len (pa_cons (pv 0) pa_nil)) (nomark _)) (pss_one (ps_ret (pe_ix ix_list (pv 0) (pv 1) (fun _ _ => rfl)))) pss_nil) (pss_one (ps_ret pe_int)), ?_⟩
    refine ⟨_, rfl, _, rfl, a, _, rfl, .inl hS, _, _, rfl, rfl, _, rfl, ite2 (fun e => ?_) (fun e => ?_)⟩
    · have e1 : (k : Int) < ((ns.map V.int).length : Int) := of_decide_eq_true e
      have e2 : k < ns.length := by
        rw [List.length_map] at e1
        omega
      have e3 : (ns.map V.int)[k]? = some (.int ns[k]) := by
        rw [List.getElem?_map, List.getElem?_eq_getElem e2]
        rfl
      exact ⟨_, rfl, _, rfl, a, _, _, _, rfl, rfl, hS, atI_nat e3, q _⟩
    · exact q 0
end
end CC
namespace CC
open PySem L2
/-! ### data in the heap -/
section
variable {K : PySem.W.Frag} {H H' : Hp}
theorem same_rd {a : Addr} {u : HO} (e : Same H H') (h : Rd H a u) : Rd H' a u := by
  rcases h with h | ⟨o, h⟩
  · exact .inl (e a _ h)
  · exact .inr ⟨o, e a _ h⟩
theorem same_l {a : Addr} {xs : List V} (e : Same H H') (h : SqL K H a xs) : SqL K H' a xs := by
  rcases h with h | h
  · exact .inl (same_rd e h)
  · exact .inr h
theorem same_t {a : Addr} {xs : List V} (e : Same H H') (h : SqT K H a xs) : SqT K H' a xs := by
  rcases h with h | h
  · exact .inl (same_rd e h)
  · exact .inr h
mutual
theorem dp_same (e : Same H H') : ∀ (d : PyData) (v : V), Dp K H v d → Dp K H' v d
  | .none, _, h => by cases h; exact .non
  | .bool b, _, h => by cases h; exact .bl b
  | .int i, _, h => by cases h; exact .int i
  | .str x, _, h => by cases h; exact .str x
  | .list ds, _, h => by
    cases h with
    | lst hs ha => exact .lst (same_l e hs) (dps_same e ds _ ha)
  | .tuple ds, _, h => by
    cases h with
    | tup hs ha => exact .tup (same_t e hs) (dps_same e ds _ ha)
  | .dict _, _, h => by cases h
theorem dps_same (e : Same H H') : ∀ (ds : List PyData) (vs : List V), DpAll K H vs ds → DpAll K H' vs ds
  | [], _, h => by cases h; exact .nil
  | d :: ds, _, h => by
    cases h with
    | cons h1 h2 => exact .cons (dp_same e d _ h1) (dps_same e ds _ h2)
end
theorem dps_len : ∀ {ds : List PyData} {vs : List V}, DpAll K H vs ds → vs.length = ds.length
  | [], _, h => by cases h; rfl
  | d :: ds, _, h => by
    cases h with
    | cons h1 h2 => exact congrArg (· + 1) (dps_len h2)
theorem dps_at : ∀ {ds : List PyData} {vs : List V} {i : Nat} {v : V}, DpAll K H vs ds → vs[i]? = some v → ∃ d, ds[i]? = some d ∧ Dp K H v d
  | [], _, i, v, h, e => by
    cases h
    simp at e
  | d :: ds, _, 0, v, h, e => by
    cases h with
    | cons h1 h2 => exact ⟨d, rfl, by simp at e; subst e; exact h1⟩
  | d :: ds, _, i + 1, v, h, e => by
    cases h with
    | cons h1 h2 => exact dps_at (i := i) h2 (by simpa using e)
theorem dps_to : ∀ {ds : List PyData} {vs : List V} {i : Nat} {d : PyData}, DpAll K H vs ds → ds[i]? = some d → ∃ v, vs[i]? = some v ∧ Dp K H v d
  | [], _, i, v, h, e => by
    cases h
    simp at e
  | d :: ds, _, 0, v, h, e => by
    cases h with
    | cons h1 h2 => exact ⟨_, rfl, by simp at e; subst e; exact h1⟩
  | d :: ds, _, i + 1, v, h, e => by
    cases h with
    | cons h1 h2 => exact dps_to (i := i) h2 (by simpa using e)
theorem dps_app : ∀ {ds es : List PyData} {vs us : List V}, DpAll K H vs ds → DpAll K H us es → DpAll K H (vs ++ us) (ds ++ es)
  | [], _, _, _, h, g => by
    cases h
    exact g
  | d :: ds, _, _, _, h, g => by
    cases h with
    | cons h1 h2 => exact .cons h1 (dps_app h2 g)
theorem dps_take : ∀ {ds : List PyData} {vs : List V} (n : Nat), DpAll K H vs ds → DpAll K H (vs.take n) (ds.take n)
  | _, _, 0, _ => .nil
  | [], _, n + 1, h => by
    cases h
    exact .nil
  | d :: ds, _, n + 1, h => by
    cases h with
    | cons h1 h2 => exact .cons h1 (dps_take n h2)
theorem dps_drop : ∀ {ds : List PyData} {vs : List V} (n : Nat), DpAll K H vs ds → DpAll K H (vs.drop n) (ds.drop n)
  | _, _, 0, h => h
  | [], _, n + 1, h => by
    cases h
    exact .nil
  | d :: ds, _, n + 1, h => by
    cases h with
    | cons h1 h2 => exact dps_drop n h2
theorem dps_one {v : V} {d : PyData} (h : Dp K H v d) : DpAll K H [v] [d] := .cons h .nil
theorem dps_ints : ∀ ns : List Int, DpAll K H (ns.map V.int) (ns.map PyData.int)
  | [] => .nil
  | n :: ns => .cons (.int n) (dps_ints ns)
theorem dps_bls : ∀ ns : List Bool, DpAll K H (ns.map V.bl) (ns.map PyData.bool)
  | [] => .nil
  | n :: ns => .cons (.bl n) (dps_bls ns)
theorem dp_l {v : V} {ds : List PyData} (h : Dp K H v (.list ds)) : ∃ p vs, v = .ref p ∧ SqL K H p vs ∧ DpAll K H vs ds := by
  cases h with
  | lst hs ha => exact ⟨_, _, rfl, hs, ha⟩
theorem dp_t {v : V} {ds : List PyData} (h : Dp K H v (.tuple ds)) : ∃ p vs, v = .ref p ∧ SqT K H p vs ∧ DpAll K H vs ds := by
  cases h with
  | tup hs ha => exact ⟨_, _, rfl, hs, ha⟩
theorem dp_int {v : V} {i : Int} (h : Dp K H v (.int i)) : v = .int i := by
  cases h
  rfl
theorem dp_str {v : V} {i : Str} (h : Dp K H v (.str i)) : v = .str i := by
  cases h
  rfl
theorem same_new {p : Addr} {o : HO} (h : H p = none) : Same H (upd H p o) := fun b x e => by
  rw [upd_ne (ne_of_none e h)]
  exact e
theorem same_mut {p : Addr} {o : HO} (e : Same H H') (h : H p = none) : Same H (upd H' p o) := fun b x q => by
  rw [upd_ne (ne_of_none q h)]
  exact e b x q
/-- the heap without one object -/
def wo (H : Hp) (s : Addr) : Hp := fun b => if b = s then none else H b
theorem wo_at (s : Addr) : wo H s s = none := by
  unfold wo
  rw [if_pos rfl]
theorem wo_ne {s b : Addr} (h : b ≠ s) : wo H s b = H b := by
  unfold wo
  rw [if_neg h]
theorem wo_le (s : Addr) : Same (wo H s) H := fun b o e => by
  by_cases h : b = s
  · subst h
    rw [wo_at] at e
    cases e
  · rw [wo_ne h] at e
    exact e
theorem wo_upd (s : Addr) (o : HO) : wo (upd H s o) s = wo H s := by
  funext b
  by_cases h : b = s
  · subst h
    rw [wo_at, wo_at]
  · rw [wo_ne h, wo_ne h, upd_ne h]
theorem wo_upd_ne {s p : Addr} (o : HO) (h : p ≠ s) : wo (upd H p o) s = upd (wo H s) p o := by
  funext b
  by_cases hb : b = s
  · subst hb
    rw [wo_at, upd_ne (Ne.symm h), wo_at]
  · rw [wo_ne hb]
    by_cases hp : b = p
    · subst hp
      rw [upd_same, upd_same]
    · rw [upd_ne hp, upd_ne hp, wo_ne hb]
theorem wo_same {s : Addr} (e : Same H H') : Same (wo H s) (wo H' s) := fun b o q => by
  by_cases h : b = s
  · subst h
    rw [wo_at] at q
    cases q
  · rw [wo_ne h] at q ⊢
    exact e b o q
theorem wo_ext {s : Addr} {o : HO} (e : Same (wo H s) (wo H' s)) (h' : H' s = some o) (h : H s = some o) : Same H H' := fun b u q => by
  by_cases hb : b = s
  · subst hb
    rw [h] at q
    rw [h', q]
  · have := e b u (by rw [wo_ne hb]; exact q)
    rw [wo_ne hb] at this
    exact this
end
/-! ### rules and pairs as data -/
structure R where
  k : Bool
  a : Nat
  b : Nat
  deriving DecidableEq
def kd (k : Bool) : Str := if k then "settles" else "within"
def R.d (r : R) : PyData := .tuple [.str (kd r.k), .int (r.a : Int), .int (r.b : Int)]
def prd (p : Nat × Nat) : PyData := .tuple [.int (p.1 : Int), .int (p.2 : Int)]
theorem kd_inj {j k : Bool} (h : kd j = kd k) : j = k := by
  revert h
  cases j <;> cases k <;> decide +kernel
theorem kd_ok (k : Bool) : PyData.strOk (kd k) = true := by
  cases k <;> decide +kernel
theorem rd_shaped (r : R) : SeqAt.shaped r.d = true := by
  show (r.d.canLay0 && decide (r.d.depth ≤ 64)) = true
  simp [R.d, PyData.canLay0, PyData.canLayAll0, PyData.depth, PyData.depthAll, kd_ok]
theorem prd_shaped (r : Nat × Nat) : SeqAt.shaped (prd r) = true := by
  show ((prd r).canLay0 && decide ((prd r).depth ≤ 64)) = true
  simp [prd, PyData.canLay0, PyData.canLayAll0, PyData.depth, PyData.depthAll]
theorem lay_all : ∀ {ds : List PyData}, (∀ d ∈ ds, SeqAt.shaped d = true) → PyData.canLayAll0 ds = true ∧ PyData.depthAll ds ≤ 64
  | [], _ => by simp [PyData.canLayAll0, PyData.depthAll]
  | d :: ds, h => by
    have h1 := h d (List.mem_cons_self)
    have h2 := lay_all (ds := ds) fun e he => h e (List.mem_cons_of_mem _ he)
    have h1 : (d.canLay0 && decide (d.depth ≤ 64)) = true := h1
    rw [Bool.and_eq_true, decide_eq_true_eq] at h1
    simp only [PyData.canLayAll0, PyData.depthAll, Bool.and_eq_true]
    refine ⟨⟨h1.1, h2.1⟩, ?_⟩
    omega
theorem rds_shaped (rs : List R) : SeqAt.shaped (.list (rs.map R.d)) = true := by
  have h : PyData.canLayAll0 (rs.map R.d) = true ∧ PyData.depthAll (rs.map R.d) ≤ 2 := by
    induction rs with
    | nil => simp [PyData.canLayAll0, PyData.depthAll]
    | cons r rs ih =>
      simp only [List.map_cons, PyData.canLayAll0, PyData.depthAll, R.d, PyData.canLay0, PyData.depth, Bool.and_eq_true]
      refine ⟨⟨by simp [kd_ok], ih.1⟩, ?_⟩
      have := ih.2
      omega
  show ((PyData.list (rs.map R.d)).canLay0 && decide ((PyData.list (rs.map R.d)).depth ≤ 64)) = true
  simp only [PyData.canLay0, PyData.depth, h.1, Bool.true_and]
  exact decide_eq_true (by have := h.2; omega)
theorem prds_shaped (rs : List (Nat × Nat)) : SeqAt.shaped (.list (rs.map prd)) = true := by
  have h : PyData.canLayAll0 (rs.map prd) = true ∧ PyData.depthAll (rs.map prd) ≤ 2 := by
    induction rs with
    | nil => simp [PyData.canLayAll0, PyData.depthAll]
    | cons r rs ih =>
      simp only [List.map_cons, PyData.canLayAll0, PyData.depthAll, prd, PyData.canLay0, PyData.depth, Bool.and_eq_true]
      refine ⟨⟨by simp, ih.1⟩, ?_⟩
      have := ih.2
      omega
  show ((PyData.list (rs.map prd)).canLay0 && decide ((PyData.list (rs.map prd)).depth ≤ 64)) = true
  simp only [PyData.canLay0, PyData.depth, h.1, Bool.true_and]
  exact decide_eq_true (by have := h.2; omega)
theorem rd_eqv (r s : R) : PyData.eqv r.d s.d = decide (r = s) := by
  obtain ⟨k, a, b⟩ := r
  obtain ⟨k', a', b'⟩ := s
  simp only [R.d, PyData.eqv, PyData.eqvAll, Bool.and_true]
  by_cases h : (⟨k, a, b⟩ : R) = ⟨k', a', b'⟩
  · rw [decide_eq_true h]
    cases h
    simp
  · rw [decide_eq_false h]
    by_cases hk : k = k'
    · subst hk
      have : ¬ (a = a' ∧ b = b') := fun z => h (by rw [z.1, z.2])
      simp
      intro z
      omega
    · have : ¬ kd k = kd k' := fun z => hk (kd_inj z)
      simp [this]
theorem prd_eqv (r s : Nat × Nat) : PyData.eqv (prd r) (prd s) = decide (r = s) := by
  obtain ⟨a, b⟩ := r
  obtain ⟨a', b'⟩ := s
  simp only [prd, PyData.eqv, PyData.eqvAll, Bool.and_true]
  by_cases h : (a, b) = (a', b')
  · rw [decide_eq_true h]
    cases h
    simp
  · rw [decide_eq_false h]
    have : ¬ (a = a' ∧ b = b') := fun z => h (by rw [z.1, z.2])
    simp
    intro z
    omega
theorem rds_any (rs : List R) (r : R) : ((rs.map R.d).any fun z => PyData.eqv z r.d) = decide (r ∈ rs) := by
  induction rs with
  | nil => simp
  | cons x rs ih =>
    rw [List.map_cons, List.any_cons, ih, rd_eqv]
    by_cases h : x = r
    · simp [h]
    · have : ¬ r = x := fun z => h z.symm
      simp [h, this]
theorem prds_any (rs : List (Nat × Nat)) (r : Nat × Nat) : ((rs.map prd).any fun z => PyData.eqv z (prd r)) = decide (r ∈ rs) := by
  induction rs with
  | nil => simp
  | cons x rs ih =>
    rw [List.map_cons, List.any_cons, ih, prd_eqv]
    by_cases h : x = r
    · simp [h]
    · have : ¬ r = x := fun z => h z.symm
      simp [h, this]
section
variable {K : PySem.W.Frag} {H H' : Hp}
theorem dp_r {v : V} {r : R} (h : Dp K H v r.d) : ∃ p, v = .ref p ∧ SqT K H p [.str (kd r.k), .int (r.a : Int), .int (r.b : Int)] := by
  obtain ⟨p, vs, rfl, hs, ha⟩ := dp_t h
  cases ha with
  | cons h1 h2 =>
    cases h2 with
    | cons h2 h3 =>
      cases h3 with
      | cons h3 h4 =>
        cases h4
        cases dp_str h1
        cases dp_int h2
        cases dp_int h3
        exact ⟨p, rfl, hs⟩
theorem r_dp {p : Addr} {r : R} (h : SqT K H p [.str (kd r.k), .int (r.a : Int), .int (r.b : Int)]) : Dp K H (.ref p) r.d := .tup h (.cons (.str _) (.cons (.int _) (.cons (.int _) .nil)))
theorem dp_p {v : V} {r : Nat × Nat} (h : Dp K H v (prd r)) : ∃ p, v = .ref p ∧ SqT K H p [.int (r.1 : Int), .int (r.2 : Int)] := by
  obtain ⟨p, vs, rfl, hs, ha⟩ := dp_t h
  cases ha with
  | cons h1 h2 =>
    cases h2 with
    | cons h2 h3 =>
      cases h3
      cases dp_int h1
      cases dp_int h2
      exact ⟨p, rfl, hs⟩
theorem p_dp {p : Addr} {r : Nat × Nat} (h : SqT K H p [.int (r.1 : Int), .int (r.2 : Int)]) : Dp K H (.ref p) (prd r) := .tup h (.cons (.int _) (.cons (.int _) .nil))
theorem dps_rat {rs : List R} {vs : List V} {i : Nat} {v : V} (h : DpAll K H vs (rs.map R.d)) (e : vs[i]? = some v) : ∃ r, rs[i]? = some r ∧ Dp K H v r.d := by
  obtain ⟨d, h1, h2⟩ := dps_at h e
  rw [List.getElem?_map] at h1
  cases q : rs[i]? with
  | none =>
    rw [q] at h1
    cases h1
  | some r =>
    rw [q] at h1
    cases h1
    exact ⟨r, rfl, h2⟩
theorem dps_pat {rs : List (Nat × Nat)} {vs : List V} {i : Nat} {v : V} (h : DpAll K H vs (rs.map prd)) (e : vs[i]? = some v) : ∃ r, rs[i]? = some r ∧ Dp K H v (prd r) := by
  obtain ⟨d, h1, h2⟩ := dps_at h e
  rw [List.getElem?_map] at h1
  cases q : rs[i]? with
  | none =>
    rw [q] at h1
    cases h1
  | some r =>
    rw [q] at h1
    cases h1
    exact ⟨r, rfl, h2⟩
end
end CC
namespace CC
open PySem L2
/-- what the top has left: the built-ins' names are free, the two constants -/
structure Glb (K : PySem.W.Frag) (mg : Str → Option Value) (kA : Addr) : Prop where
  len : mg "len" = none
  max : mg "max" = none
  min : mg "min" = none
  isi : mg "isinstance" = none
  int : mg "int" = none
  bool : mg "bool" = none
  str : mg "str" = none
  tup : mg "tuple" = none
  rng : mg "range" = none
  lst : mg "list" = none
  all : mg "all" = none
  set : mg "set" = none
  enu : mg "enumerate" = none
  rep : mg "repr" = none
  srt : mg "sorted" = none
  zip : mg "zip" = none
  any : mg "any" = none
  sum : mg "sum" = none
  rev : mg "reversed" = none
  dic : mg "dict" = none
  typ : mg "type" = none
  wid : ∃ t, mg "WIDEST" = some (.int 6 t)
  knd : mg "KINDS" = some (.ref kA)
  kseq : ∃ (o : Obj) (its : Array Value) (n : Nat), K.lookup kA = some o ∧ o.cls = .type "tuple" ∧ o.data = .seq its n ∧ its.size ≤ sizeLine ∧ Vals [.str "settles", .str "within"] its.toList
/-- a def of the top, as it stands -/
structure Df (K : PySem.W.Frag) (mg : Str → Option Value) (x : Str) (st : Stmt) (ps : List Str) where
  f : Addr
  fd : FuncData
  F : Fun K x x st f fd
  b : Binds K fd ps []
  g : mg x = some (.ref f)
/-- a def that keeps a promise -/
structure Cal (P : Program) (w : World) (K : PySem.W.Frag) (mg : Str → Option Value) (base : Heap) (x : Str) (ps : List Str) (sp : Sp) (l : Nat) where
  f : Addr
  fd : FuncData
  ok : ∀ k, l ≤ k → FnOk P w K mg base CX0 k f fd ps sp
  kp : PySem.W.keepIn K (.ref f) = true
  b : Binds K fd ps []
  g : mg x = some (.ref f)
def Df.cal {P : Program} {w : World} {K : PySem.W.Frag} {mg : Str → Option Value} {base : Heap} {x : Str} {st : Stmt} {ps : List Str} {sp : Sp} {l : Nat} (d : Df K mg x st ps) (h : ∀ k, FnOk P w K mg base CX0 (k + l) d.f d.fd ps sp) : Cal P w K mg base x ps sp l :=
  ⟨d.f, d.fd, fun k hk => (Nat.sub_add_cancel hk) ▸ h (k - l), d.F.kp, d.b, d.g⟩
abbrev sIsInt : Stmt := tp 6
abbrev sIsWidth : Stmt := tp 7
abbrev sIsCol : Stmt := tp 8
abbrev sIsRule : Stmt := tp 10
def spIsInt : Sp := fun vs H Q _ => ∃ z : Int, vs = [.int z] ∧ Q (.bl true) H
def spIsWidth : Sp := fun vs H Q _ => ∃ z : Nat, vs = [.int (z : Int)] ∧ 1 ≤ z ∧ z ≤ 6 ∧ Q (.bl true) H
def spIsCol : Sp := fun vs H Q _ => ∃ w z : Nat, vs = [.int (w : Int), .int (z : Int)] ∧ z < w ∧ Q (.bl true) H
/-- a rule for the width -/
def R.ok (w : Nat) (r : R) : Prop := r.a < w ∧ r.b < w ∧ r.a ≠ r.b
def spIsRule (K : PySem.W.Frag) : Sp := fun vs H Q _ => ∃ (w : Nat) (v : V) (r : R), vs = [.int (w : Int), v] ∧ Dp K H v r.d ∧ r.ok w ∧ Q (.bl true) H
section
variable {P : Program} {w : World} {K : PySem.W.Frag} {mg : Str → Option Value} {base : Heap} {kA : Addr}
theorem ty_tup {H : Hp} {p : Addr} {xs : List V} (h : SqT K H p xs) : TyX K H (.ref p) (.type "tuple") := by
  rcases h with (h | ⟨o, h⟩) | ⟨o, its, n, h, c, _⟩
  · exact .base (.tup h)
  · exact .fTuple h
  · exact .kTuple h c
theorem scIsInt : FnScope ["thing"] ["thing"] (defScope sIsInt) := ⟨rfl, rfl, rfl, by decide +kernel, rfl, by decide +kernel, by decide +kernel⟩
theorem ok_isint {f : Addr} {fd : FuncData} {k : Nat} (F : Fun K "is_an_integer" "is_an_integer" sIsInt f fd) (T : Glb K mg kA) : FnOk P w K mg base CX0 (k + 1) f fd ["thing"] spIsInt := by
  refine F.ok scIsInt (fun vs H Q E h => ?_) (fun cdv A outer s H vs Q E hr h => ?_)
  · obtain ⟨z, rfl, _⟩ := h
    rfl
  · obtain ⟨z, rfl, q⟩ := h
    refine ⟨_, pss_one (ps_ret (pe_and (pe_callB call_isi (by rfl) T.isi (by decide +kernel) (pa_cons (pv 0) (pa_cons (pe_bltn (v := .ty "int") (by rfl) T.int (by decide +kernel) rfl) pa_nil)))
      (pe_one (pe_not (pe_callB call_isi (by rfl) T.isi (by decide +kernel) (pa_cons (pv 0) (pa_cons (pe_bltn (v := .ty "bool") (by rfl) T.bool (by decide +kernel) rfl) pa_nil))))))), ?_⟩
    refine ⟨_, rfl, _, _, _, _, true, rfl, .ty _, .base (.int z), kit_ty (by decide +kernel), _, rfl, iteT ?_⟩
    exact ⟨_, rfl, _, _, _, _, false, rfl, .ty _, .base (.int z), kit_ty (by decide +kernel), _, rfl, q⟩
theorem scIsWidth : FnScope ["thing"] ["thing"] (defScope sIsWidth) := ⟨rfl, rfl, rfl, by decide +kernel, rfl, by decide +kernel, by decide +kernel⟩
theorem ok_iswidth {f : Addr} {fd : FuncData} {k : Nat} (F : Fun K "is_width" "is_width" sIsWidth f fd) (T : Glb K mg kA) (cI : Cal P w K mg base "is_an_integer" ["thing"] spIsInt 1) : FnOk P w K mg base CX0 (k + 2) f fd ["thing"] spIsWidth := by
  have GI := cI.ok (k + 1) (by omega)
  refine F.ok scIsWidth (fun vs H Q E h => ?_) (fun cdv A outer s H vs Q E hr h => ?_)
  · obtain ⟨z, rfl, _⟩ := h
    rfl
  · obtain ⟨z, rfl, h1, h2, q⟩ := h
    obtain ⟨tw, hw⟩ := T.wid
    refine ⟨_, pss_one (ps_ret (pe_and (pe_call GI hr rfl cI.g cI.kp cI.b .nil pass0 (pa_cons (pv 0) pa_nil))
      (pe_one (pe_chain op_le op_le pe_int (pv 0) (pe_glob (v := .int 6) rfl hw ⟨_, rfl⟩))))), ?_⟩
    refine ⟨_, rfl, _, rfl, _, rfl, iteT ?_⟩
    have e1 : decide ((1 : Int) ≤ (z : Int)) = true := decide_eq_true (by omega)
    have e2 : decide ((z : Int) ≤ (6 : Int)) = true := decide_eq_true (by omega)
    refine ⟨_, rfl, _, _, rfl, rfl, _, rfl, ?_⟩
    rw [e1]
    refine iteT ⟨_, _, rfl, rfl, ?_⟩
    show Q (.bl (decide ((z : Int) ≤ (6 : Int)))) H
    rw [e2]
    exact q
theorem scIsCol : FnScope ["width", "thing"] ["width", "thing"] (defScope sIsCol) := ⟨rfl, rfl, rfl, by decide +kernel, rfl, by decide +kernel, by decide +kernel⟩
theorem ok_iscol {f : Addr} {fd : FuncData} {k : Nat} (F : Fun K "is_column" "is_column" sIsCol f fd) (T : Glb K mg kA) (cI : Cal P w K mg base "is_an_integer" ["thing"] spIsInt 1) : FnOk P w K mg base CX0 (k + 2) f fd ["width", "thing"] spIsCol := by
  have GI := cI.ok (k + 1) (by omega)
  refine F.ok scIsCol (fun vs H Q E h => ?_) (fun cdv A outer s H vs Q E hr h => ?_)
  · obtain ⟨w, z, rfl, _⟩ := h
    rfl
  · obtain ⟨w, z, rfl, h1, q⟩ := h
    refine ⟨_, pss_one (ps_ret (pe_and (pe_call GI hr rfl cI.g cI.kp cI.b .nil pass0 (pa_cons (pv 1) pa_nil))
      (pe_one (pe_chain op_le op_lt pe_int (pv 1) (pv 0))))), ?_⟩
    refine ⟨_, rfl, _, rfl, _, rfl, iteT ?_⟩
    have e1 : decide ((0 : Int) ≤ (z : Int)) = true := decide_eq_true (by omega)
    have e2 : decide ((z : Int) < (w : Int)) = true := decide_eq_true (by omega)
    refine ⟨_, rfl, _, _, rfl, rfl, _, rfl, ?_⟩
    rw [e1]
    refine iteT ⟨_, rfl, _, _, rfl, rfl, ?_⟩
    show Q (.bl (decide ((z : Int) < (w : Int)))) H
    rw [e2]
    exact q
theorem scIsRule : FnScope ["width", "thing", "kind", "first", "second"] ["width", "thing"] (defScope sIsRule) := ⟨rfl, rfl, rfl, by decide +kernel, rfl, by decide +kernel, by decide +kernel⟩
theorem ok_isrule {f : Addr} {fd : FuncData} {k : Nat} (F : Fun K "is_rule" "is_rule" sIsRule f fd) (T : Glb K mg kA) 
 (cC : Cal P w K mg base "is_column" ["width", "thing"] spIsCol 2) : FnOk P w K mg base CX0 (k + 3) f fd ["width", "thing"] (spIsRule K) := by
  have GC := cC.ok (k + 2) (by omega)
  refine F.ok scIsRule (fun vs H Q E h => ?_) (fun cdv A outer s H vs Q E hr h => ?_)
  · obtain ⟨w, v, r, rfl, _⟩ := h
    rfl
  · obtain ⟨w, v, r, rfl, hd, ⟨h1, h2, h3⟩, q⟩ := h
    obtain ⟨p, rfl, hp⟩ := dp_r hd
    have hk : SqT K H kA [.str "settles", .str "within"] := .inr T.kseq
    have nd := scIsRule.nd
    refine ⟨_, pss_cons (ps_if (PW.pt (pw_or (pt_not (pt_val (pe_callB call_isi (by rfl) T.isi (by decide +kernel) (pa_cons (pv 1) (pa_cons (pe_bltn (v := .ty "tuple") (by rfl) T.tup (by decide +kernel) rfl) pa_nil)))))
          (pw_or1 (pt_cmpR op_ne (pe_callB call_len_seq (by rfl) T.len PySem.boot_len (pa_cons (pv 1) pa_nil)) pe_int (nomark _))))) (pss_one (ps_ret pe_bl)) pss_nil)
      (pss_cons (ps_asg (pv 1) (pg_tup rfl (pgs_cons (pg_name (i := 2) nd rfl (.inl rfl)) (pgs_cons (pg_name (i := 3) nd rfl (.inl rfl)) (pgs_cons (pg_name (i := 4) nd rfl (.inl rfl)) pgs_nil)))))
      (pss_cons (ps_if (PW.pt (pw_or (pt_not (pt_val (pe_callB call_isi (by rfl) T.isi (by decide +kernel) (pa_cons (pv 2) (pa_cons (pe_bltn (v := .ty "str") (by rfl) T.str (by decide +kernel) rfl) pa_nil)))))
          (pw_or1 (pt_cmpR op_notIn_seq (pv 2) (pe_glob (v := .ref kA) rfl T.knd rfl) (by rfl))))) (pss_one (ps_ret pe_bl)) pss_nil)
      (pss_one (ps_ret (pe_and (pe_call GC hr rfl cC.g cC.kp cC.b .nil pass0 (pa_cons (pv 0) (pa_cons (pv 3) pa_nil)))
        (pe_and (pe_call GC hr rfl cC.g cC.kp cC.b .nil pass0 (pa_cons (pv 0) (pa_cons (pv 4) pa_nil))) (pe_one (pe_cmpR op_ne (pv 3) (pv 4) (nomark _))))))))), ?_⟩
    refine ⟨_, rfl, _, _, _, _, true, rfl, .ty _, ty_tup hp, kit_ty (by decide +kernel), _, rfl, iteF ?_⟩
    refine ⟨_, rfl, p, _, rfl, .inr hp, rfl, _, rfl, iteF ?_⟩
    refine ⟨_, rfl, p, _, rfl, hp, rfl, _, _, rfl, _, _, rfl, _, _, rfl, rfl, ?_⟩
    refine ⟨_, rfl, _, _, _, _, true, rfl, .ty _, .base (.str _), kit_ty (by decide +kernel), _, rfl, iteF ?_⟩
    have ek : inV (.str (kd r.k)) [.str "settles", .str "within"] = true := by
      cases r.k <;> decide +kernel
    refine ⟨_, rfl, kA, _, rfl, .inr hk, rfl, rfl, _, rfl, ?_⟩
    rw [ek]
    refine iteF ?_
    refine ⟨_, rfl, _, rfl, w, r.a, rfl, h1, _, rfl, iteT ?_⟩
    refine ⟨_, rfl, _, rfl, w, r.b, rfl, h2, _, rfl, iteT ?_⟩
    refine ⟨_, rfl, _, rfl, rfl, ?_⟩
    have e3 : (!decide (V.int (r.a : Int) = V.int (r.b : Int))) = true := by
      rw [decide_eq_false (fun z => h3 (by injection z with z; omega))]
      rfl
    show Q (.bl (!decide (V.int (r.a : Int) = V.int (r.b : Int)))) H
    rw [e3]
    exact q
end
end CC
namespace CC
open PySem L2 TL
def num (n : Nat) : Str := Str.ofString (toString (n : Int))
theorem tl_app (a b : Str) : tl (a ++ b) = tl a ++ tl b := tl_append a b
end CC
/-! ### the texts of rows -/
namespace CC
open PySem L2 TL
def rowS (row : List Nat) : Str := Txt.join " " (row.map num)
def textT (rows : List (List Nat)) : Str := Txt.join "" (rows.map fun r => rowS r ++ "\n")
/-- a row for a width -/
def RowOk (w : Nat) (row : List Nat) : Prop := row.length = w ∧ ∀ v ∈ row, v ≤ 9999
theorem tl_n (n : Nat) : tl (num n) = numL n := tl_num n
theorem joinL_flat (l : List (List Nat)) : joinL (tl ("" : Str)) l = l.flatten := by
  rw [show tl ("" : Str) = [] by decide +kernel]
  induction l with
  | nil => rfl
  | cons x l ih =>
    cases l with
    | nil => simp [joinL]
    | cons y l =>
      show x ++ ([] ++ joinL [] (y :: l)) = _
      rw [ih, List.nil_append]
      simp
theorem joinL_in {sep : List Nat} {c : Nat} : ∀ {l : List (List Nat)}, c ∈ joinL sep l → c ∈ sep ∨ ∃ p ∈ l, c ∈ p
  | [], h => by simp [joinL] at h
  | [x], h => by
    simp [joinL] at h
    exact .inr ⟨x, by simp, h⟩
  | x :: y :: l, h => by
    have h' : c ∈ x ++ (sep ++ joinL sep (y :: l)) := h
    rcases List.mem_append.mp h' with z | z
    · exact .inr ⟨x, by simp, z⟩
    · rcases List.mem_append.mp z with z | z
      · exact .inl z
      · rcases joinL_in z with q | ⟨p, hp, hc⟩
        · exact .inl q
        · exact .inr ⟨p, List.mem_cons_of_mem _ hp, hc⟩
theorem joinL_le {sep : List Nat} {k : Nat} : ∀ {l : List (List Nat)}, (∀ p ∈ l, p.length ≤ k) → (joinL sep l).length ≤ l.length * (k + sep.length)
  | [], _ => by simp [joinL]
  | [x], h => by
    have := h x (by simp)
    simp [joinL]
    omega
  | x :: y :: l, h => by
    have h1 := h x (by simp)
    have h2 := joinL_le (sep := sep) (l := y :: l) fun p hp => h p (List.mem_cons_of_mem _ hp)
    show (x ++ (sep ++ joinL sep (y :: l))).length ≤ _
    rw [List.length_append, List.length_append, List.length_cons (a := x), Nat.succ_mul]
    omega
theorem row_free {row : List Nat} : 10 ∉ tl (rowS row) := fun h => by
  unfold rowS at h
  rw [join_eq, tl_join] at h
  rcases joinL_in h with z | ⟨p, hp, z⟩
  · rw [show tl (" " : Str) = [32] by decide +kernel] at z
    simp at z
  · obtain ⟨q, hq, rfl⟩ := List.mem_map.mp hp
    obtain ⟨n, _, rfl⟩ := List.mem_map.mp hq
    rw [tl_n] at z
    exact numL_free (.inl (by decide)) z
theorem num_len {n : Nat} (h : n ≤ 9999) : (num n).length ≤ 4 := by
  rw [len_tl, tl_n]
  exact numL_len (by decide) (by omega)
theorem rowS_len {w : Nat} {row : List Nat} (h : RowOk w row) (hw : w ≤ 6) : (rowS row).length ≤ 30 := by
  rw [len_tl]
  unfold rowS
  rw [join_eq, tl_join]
  refine Nat.le_trans (joinL_le (k := 4) fun p hp => ?_) ?_
  · obtain ⟨q, hq, rfl⟩ := List.mem_map.mp hp
    obtain ⟨n, hn, rfl⟩ := List.mem_map.mp hq
    rw [← len_tl]
    exact num_len (h.2 n hn)
  · rw [List.length_map, List.length_map, h.1, show tl (" " : Str) = [32] by decide +kernel]
    show w * 5 ≤ 30
    omega
theorem split_row {row : List Nat} (h : row ≠ []) : Txt.split (rowS row) " " = row.map num := by
  refine split_join (s := 32) (S := []) (by decide +kernel) (by decide +kernel) (fun e => h (List.map_eq_nil_iff.mp e)) fun p hp => ?_
  obtain ⟨n, _, rfl⟩ := List.mem_map.mp hp
  rw [tl_n]
  exact numL_free (.inl (by decide))
theorem tl_lines (L : List Str) : tl (Txt.join "" (L.map fun l => l ++ "\n")) = (L.map fun l => tl l ++ [10]).flatten := by
  rw [join_eq, tl_join, joinL_flat, List.map_map]
  congr 1
  refine List.map_congr_left fun l _ => ?_
  show tl (l ++ "\n") = _
  rw [tl_app, show tl ("\n" : Str) = [10] by decide +kernel]
theorem split_lines {L : List Str} (h : ∀ l ∈ L, 10 ∉ tl l) : Txt.split (Txt.join "" (L.map fun l => l ++ "\n")) "\n" = L ++ [Str.empty] := by
  have e : Txt.join "" (L.map fun l => l ++ "\n") = Txt.join "\n" (L ++ [Str.empty]) := by
    refine ext_tl ?_
    show tl _ = tl _
    rw [tl_lines, join_eq, tl_join, show tl ("\n" : Str) = [10] by decide +kernel]
    clear h
    induction L with
    | nil => decide +kernel
    | cons r L ih =>
      rw [List.map_cons, List.flatten_cons, ih]
      cases L with
      | nil =>
        show tl r ++ [10] ++ tl Str.empty = tl r ++ ([10] ++ tl Str.empty)
        rw [List.append_assoc]
      | cons s L =>
        show tl r ++ [10] ++ _ = tl r ++ ([10] ++ _)
        rw [List.append_assoc]
        rfl
  rw [e]
  refine split_join (s := 10) (S := []) (by decide +kernel) (by decide +kernel) (by simp) fun p hp => ?_
  rcases List.mem_append.mp hp with z | z
  · exact h p z
  · rw [List.mem_singleton.mp z]
    decide +kernel
theorem textT_eq (rows : List (List Nat)) : textT rows = Txt.join "" ((rows.map rowS).map fun l => l ++ "\n") := by
  unfold textT
  rw [List.map_map]
  rfl
theorem split_textT (rows : List (List Nat)) : Txt.split (textT rows) "\n" = rows.map rowS ++ [Str.empty] := by
  rw [textT_eq]
  refine split_lines fun l hl => ?_
  obtain ⟨r, _, rfl⟩ := List.mem_map.mp hl
  exact row_free
theorem textT_len {w : Nat} {rows : List (List Nat)} (h : ∀ r ∈ rows, RowOk w r) (hw : w ≤ 6) : (textT rows).length ≤ 31 * rows.length := by
  rw [len_tl, textT_eq, tl_lines, List.map_map]
  induction rows with
  | nil => simp
  | cons r rows ih =>
    have h1 := rowS_len (h r List.mem_cons_self) hw
    rw [len_tl] at h1
    have h3 := ih fun s hs => h s (List.mem_cons_of_mem _ hs)
    rw [List.map_cons, List.flatten_cons, List.length_append, List.length_cons]
    show (tl (rowS r) ++ [10]).length + _ ≤ _
    rw [List.length_append, List.length_singleton]
    omega
theorem dig_ok : ∀ c : Fin 58, 48 ≤ c.1 → Unicode.isDigit c.1 = true := by decide +kernel
theorem num_digit (n : Nat) : Txt.isdigit (num n) = true := by
  unfold Txt.isdigit
  rw [Bool.and_eq_true]
  refine ⟨decide_eq_true ?_, ?_⟩
  · rw [len_tl, tl_n]
    exact List.length_pos_iff.mpr (numL_ne n)
  · rw [Array.all_eq_true_iff_forall_mem]
    intro c hc
    have m : c ∈ numL n := by
      rw [← tl_n]
      exact Array.mem_def.mp hc
    have := numL_digits n c m
    exact dig_ok ⟨c, by omega⟩ this.1
theorem num_ascii (n : Nat) : Txt.isascii (num n) = true := by
  unfold Txt.isascii
  rw [Array.all_eq_true_iff_forall_mem]
  intro c hc
  have m : c ∈ numL n := by
    rw [← tl_n]
    exact Array.mem_def.mp hc
  have := numL_digits n c m
  exact decide_eq_true (by omega)
theorem num_int {n : Nat} (h : n ≤ 9999) : intText? (num n) = some (n : Int) := int_num (Nat.le_trans (numL_len (k := 4) (by decide) (by omega)) (by decide))
theorem small10k {n : Nat} (h : n ≤ 9999) : (n : Int).natAbs.log2 < 1920 := by
  rw [Int.natAbs_natCast]
  have : n.log2 ≤ n := Nat.log2_le_self n
  by_cases e : n = 0
  · subst e
    decide
  · have := (Nat.log2_lt e (k := 14)).mpr (by omega)
    omega
end CC
/-! A list comprehension of three clauses. -/
namespace C3
open PySem PySem.Spec PyProof.Rows L2
abbrev no : Value → Shared → Prop := fun _ _ => False
def turnOf (c : Expr) (k : Nat) (tg : Expr) (ps : Pos) (fs : List Expr) (env : Env) (acc : Value) (body : Sem Unit) (it : Value) : Sem Fin := do
  standAt ps
  match ← pyNext it with
  | none => pure (.done .next)
  | some v =>
    letOwnedTupleGo tg it v
    assign tg env v
    let mut ok := true
    for cd in fs do
      if ok then ok ← isTrue cd env (eval cd env)
    if ok then body
    again (.compLoop c k it acc env)
def nextOf (c : Expr) (k : Nat) (ix : Expr) (env : Env) (acc : Value) : Sem Unit := do
  let x ← eval ix env
  standAt ix.pos
  let x ← foldedSetIterable ix env x
  let _ ← runOwn (.compStart c k (← holding [x] (pyIter x)) acc env) env
def pushOf (ex : Expr) (env : Env) (acc : Value) : Sem Unit := do
  let _ ← call (.builtin "list.append") [acc, ← eval ex env]
section
variable {ex t0 i0 t1 i1 t2 i2 : Expr} {f0 f1 f2 : List Expr} {sc : Scope} {pos : Pos} {it acc : Value} {env : Env}
abbrev lc3 (ex t0 i0 t1 i1 t2 i2 : Expr) (f0 f1 f2 : List Expr) (sc : Scope) (pos : Pos) : Expr := .ListComp ex [⟨t0, i0, f0, 0⟩, ⟨t1, i1, f1, 0⟩, ⟨t2, i2, f2, 0⟩] sc pos
theorem turn0 : compTurn (lc3 ex t0 i0 t1 i1 t2 i2 f0 f1 f2 sc pos) 0 it acc env = turnOf (lc3 ex t0 i0 t1 i1 t2 i2 f0 f1 f2 sc pos) 0 t0 i0.pos f0 env acc (nextOf (lc3 ex t0 i0 t1 i1 t2 i2 f0 f1 f2 sc pos) 1 i1 env acc) it := by
  unfold turnOf
  refine congrArg (standAt i0.pos >>= ·) (funext fun _ => congrArg (pyNext it >>= ·) (funext fun r => ?_))
  cases r with
  | none => rfl
  | some v =>
    refine congrArg (letOwnedTupleGo t0 it v >>= ·) (funext fun _ => congrArg (assign t0 env v >>= ·) (funext fun _ => ?_))
    refine congrArg (fun k => forIn f0 true (fun c r => if r = true then do let ok ← isTrue c env (eval c env); pure (ForInStep.yield ok) else pure (ForInStep.yield r)) >>= k) (funext fun ok => ?_)
    cases ok with
    | false => rfl
    | true =>
      unfold nextOf
      simp only [bind_assoc, pure_bind, if_true]
      rfl
theorem turn1 : compTurn (lc3 ex t0 i0 t1 i1 t2 i2 f0 f1 f2 sc pos) 1 it acc env = turnOf (lc3 ex t0 i0 t1 i1 t2 i2 f0 f1 f2 sc pos) 1 t1 i1.pos f1 env acc (nextOf (lc3 ex t0 i0 t1 i1 t2 i2 f0 f1 f2 sc pos) 2 i2 env acc) it := by
  unfold turnOf
  refine congrArg (standAt i1.pos >>= ·) (funext fun _ => congrArg (pyNext it >>= ·) (funext fun r => ?_))
  cases r with
  | none => rfl
  | some v =>
    refine congrArg (letOwnedTupleGo t1 it v >>= ·) (funext fun _ => congrArg (assign t1 env v >>= ·) (funext fun _ => ?_))
    refine congrArg (fun k => forIn f1 true (fun c r => if r = true then do let ok ← isTrue c env (eval c env); pure (ForInStep.yield ok) else pure (ForInStep.yield r)) >>= k) (funext fun ok => ?_)
    cases ok with
    | false => rfl
    | true =>
      unfold nextOf
      simp only [bind_assoc, pure_bind, if_true]
      rfl
theorem turn2 : compTurn (lc3 ex t0 i0 t1 i1 t2 i2 f0 f1 f2 sc pos) 2 it acc env = turnOf (lc3 ex t0 i0 t1 i1 t2 i2 f0 f1 f2 sc pos) 2 t2 i2.pos f2 env acc (pushOf ex env acc) it := by rfl
end
section
variable {P : Program} {w : World} {A : Around} {R : Result → Shared → Prop} {s : Shared} {ex : Expr} {gs : List Comprehension} {sc : Scope} {pos : Pos} {k : Nat} {tg : Expr} {ps : Pos} {fs : List Expr} {it acc : Value} {env : Env} {body : Sem Unit}
theorem loopAny (e : compTurn (.ListComp ex gs sc pos) k it acc env = turnOf (.ListComp ex gs sc pos) k tg ps fs env acc body it) (J : Nat → Shared → Prop)
    (turn : ∀ n s, J n s → wpAny (model P w) A (pyNext it) (fun r s1 => match r with
      | none => R (.ok .next) s1
      | some v => wpAny (model P w) A (letOwnedTupleGo tg it v) (fun _ s2 => wpAny (model P w) A (assign tg env v) (fun _ s3 =>
          wpAny (model P w) A (forIn fs true fun c r => if r = true then do let ok ← isTrue c env (eval c env); pure (ForInStep.yield ok) else pure (ForInStep.yield r)) (fun ok s4 =>
            if ok = true then wpAny (model P w) A body (fun _ s5 => ∃ m, m < n ∧ J m s5) no s4 else ∃ m, m < n ∧ J m s4) no s3) no s2) no s1) no s)
    (n : Nat) (h : J n s) : codeAny (model P w) A (.compLoop (.ListComp ex gs sc pos) k it acc env) R s := by
  refine codeAny_loop rfl J (fun n s j => ?_) n h
  show wpAny _ A ((compTurn (.ListComp ex gs sc pos) k it acc env).onRaise (fun x => do noteFrame x env; theTreesLotGoes x)) _ _ s
  refine wpAny_noted ?_
  rw [e]
  unfold turnOf
  refine wpAny_bind (wpAny_standAt (wpAny_bind (thnF (turn n s j) fun r s1 h1 => ?_)))
  cases r with
  | none => exact wpAny_pure h1
  | some v =>
    refine wpAny_bind (thnF h1 fun _ s2 h2 => ?_)
    refine wpAny_bind (thnF h2 fun _ s3 h3 => wpAny_bind (thnF h3 fun ok s4 h4 => ?_))
    cases ok with
    | false => exact wpAny_pure ⟨rfl, h4⟩
    | true =>
      first
        | exact wpAny_bind (thnF h4 fun _ s5 h5 => wpAny_pure ⟨rfl, h5⟩)
        | exact wpAny_bind (wpAny_bind (thnF h4 fun _ s5 h5 => wpAny_pure (wpAny_pure ⟨rfl, h5⟩)))
end
/-! ### a clause within the block -/
abbrev TB := L2.St → Hp → (Hp → Prop) → Prop
def tPush (te : TE) (D : Addr) : TB := fun σ H N => te σ H fun y H1 => ∃ l, H1 D = some (.lst l) ∧ l.length < sizeLine ∧ N (upd H1 D (.lst (l ++ [y])))
def tTurn (J : It) (g : TG) (tt : TT) (vs : List Nat) (b : TB) (σ : L2.St) (W : Nat → Nat → Hp → Prop) (N : Hp → Prop) : Prop := ∀ i m H, W i m H →
  (J.stop i H ∧ N H) ∨ (J.go i H ∧ ∃ M : Hp → Prop, (∀ H', M H' → ∃ m', m' < m ∧ W (i + 1) m' H') ∧ ∀ x H', J.yld i H x H' → g x (wipe σ vs) H' fun τ H1 => wipe τ vs = wipe σ vs ∧ tt τ H1 fun y H2 => if y = true then b τ H2 M else M H2)
def tCl (wi : TI) (g : TG) (tt : TT) (vs : List Nat) (b : TB) : TB := fun σ H N => wi σ H fun J H1 => ∃ W : Nat → Nat → Hp → Prop, (∃ m, W 0 m H1) ∧ tTurn J g tt vs b σ W N
section
variable {X : Cx} {s0 : Shared} {H0 : Hp} {sc : Scope} {ce : Env} {fp : List Addr}
abbrev Bk (X : Cx) (s0 : Shared) (H0 : Hp) (sc : Scope) (ce : Env) (fp : List Addr) : Cx := X.blk s0 H0 sc ce fp
/-- what the body of a clause does, and which slots it forgets -/
def Does (X : Cx) (s0 : Shared) (H0 : Hp) (sc : Scope) (ce : Env) (fp : List Addr) (body : Sem Unit) (t : TB) (us : List Nat) : Prop :=
  ∀ (pins : List (Addr × Obj)) (s : Shared) (σ : L2.St) (H : Hp) (N : Hp → Prop), Inv (Bk X s0 H0 sc ce fp) pins σ H s → t σ H N →
    wpAny (model X.prog X.w) X.A body (fun _ s' => ∃ H', Inv (Bk X s0 H0 sc ce fp) pins (wipe σ us) H' s' ∧ N H') no s
theorem does_push {ex : Expr} {te : TE} {D : Addr} (pe : PE (Bk X s0 H0 sc ce fp) ex te) : Does X s0 H0 sc ce fp (pushOf ex ce (.ref D)) (tPush te D) [] := by
  intro pins s σ H N I h
  unfold pushOf
  refine wpAny_bind (thnF (pe.run pins s σ H _ I h) fun z s1 ⟨y, H1, I1, r, l, hl, hz, n⟩ => ?_)
  exact wpAny_bind (thnF (app_ok (E := no) (X := Bk X s0 H0 sc ce fp) (Q := fun _ s' => ∃ H', Inv (Bk X s0 H0 sc ce fp) pins (wipe σ []) H' s' ∧ N H') I1 hl hz r fun s2 I2 => ⟨_, I2, n⟩) fun _ s2 q => wpAny_pure q)
theorem level {ex : Expr} {gs : List Comprehension} {sb : Scope} {pos : Pos} {k : Nat} {tg : Expr} {ps : Pos} {fs : List Expr} {acc : Value} {body : Sem Unit} {g : TG} {tt : TT} {b : TB} {vs us : List Nat} (hc : X.calm = true) (te : ∀ it, compTurn (.ListComp ex gs sb pos) k it acc ce = turnOf (.ListComp ex gs sb pos) k tg ps fs ce acc body it)
    (pg : PG (Bk X s0 H0 sc ce fp) tg g) (pt : PTs (Bk X s0 H0 sc ce fp) fs tt) (bd : Does X s0 H0 sc ce fp body b us) (sub : ∀ i ∈ us, i ∈ vs)
    {pins : List (Addr × Obj)} {s : Shared} {σ : L2.St} {H : Hp} {N : Hp → Prop} {it : Addr} {fq : List Addr} {tn : Nat → Heap → Prop} {J : It} {W : Nat → Nat → Hp → Prop} {m : Nat} {R : Result → Shared → Prop}
    (I : Inv (Bk X s0 H0 sc ce fp) pins σ H s) (T : Turn X.prog X.w X.K tg J fq it tn) (st : tn 0 s.heap) (fo : ∀ b ∈ fq, FpOk (Bk X s0 H0 sc ce fp) pins H b) (w0 : W 0 m H) (tu : tTurn J g tt vs b σ W N)
    (fin : ∀ s' H', Inv (Bk X s0 H0 sc ce fp) pins (wipe σ vs) H' s' → N H' → R (.ok .next) s') :
    codeAny (model X.prog X.w) X.A (.compLoop (.ListComp ex gs sb pos) k (.ref it) acc ce) R s := by
  have fok : ∀ {H' : Hp}, (∀ b ∈ fq, H' b = none) → ∀ b ∈ fq, FpOk (Bk X s0 H0 sc ce fp) pins H' b := fun hn b hb => ⟨hn b hb, (fo b hb).2⟩
  refine loopAny (te _) (fun n s' => ∃ i H', Inv (Bk X s0 H0 sc ce fp) pins (wipe σ vs) H' s' ∧ tn i s'.heap ∧ (∀ b ∈ fq, H' b = none) ∧ W i n H') ?_ m ⟨0, H, I.weak (wipe_length _ _) (fun j v e => (wipe_some e).1), st, fun b hb => (fo b hb).1, w0⟩
  rintro n s1 ⟨i, H1, I1, st1, n1, w1⟩
  rcases tu i n H1 w1 with ⟨stop, nn⟩ | ⟨go, M, hM, step⟩
  · refine thnF (T.done (Bk X s0 H0 sc ce fp) rfl rfl rfl hc i _ s1 _ H1 no I1 (fok n1) st1 stop) fun r s2 ⟨hr, I2⟩ => ?_
    subst hr
    exact fin s2 H1 I2 nn
  · refine thnF (T.item (Bk X s0 H0 sc ce fp) rfl rfl rfl hc i _ s1 _ H1 no I1 (fok n1) st1 go) fun r s2 ⟨u, hr, h2⟩ => ?_
    subst hr
    refine thnF h2 fun _ s3 ⟨x, H3, I3, r3, y3, st3, n3⟩ => ?_
    have I3' := I3.pinned (fok n3) (T.obj _ _ st3)
    refine thnF (pg.run _ s3 _ H3 x u _ I3' r3 (step x H3 y3)) fun _ s4 ⟨τ, H4, I4, hw, q4⟩ => ?_
    refine thnF (pt.run _ s4 τ H4 _ I4 q4) fun ok s5 ⟨H5, I5, q5⟩ => ?_
    have ended : ∀ {s' : Shared} {H' : Hp}, Inv (Bk X s0 H0 sc ce fp) (pins ++ pinsAt fq s3.heap) (wipe τ us) H' s' → M H' → ∃ m, m < n ∧ ∃ i H', Inv (Bk X s0 H0 sc ce fp) pins (wipe σ vs) H' s' ∧ tn i s'.heap ∧ (∀ b ∈ fq, H' b = none) ∧ W i m H' := fun {s' H'} I' mm => by
      obtain ⟨m', hm, w'⟩ := hM H' mm
      have kp : ∀ b ∈ fq, ∀ o, s3.heap.get? b = some o → s'.heap.get? b = some o ∧ H' b = none := fun b hb o e =>
        have z := I'.pin (b, o) (List.mem_append_right _ (List.mem_append_right _ (mem_pinsAt hb e)))
        ⟨z.1, z.2.1⟩
      refine ⟨m', hm, i + 1, H', I'.unpinned.weak (by rw [wipe_length, wipe_length, ← wipe_length τ vs, hw, wipe_length]) (fun j v e => ?_), T.keep _ _ _ st3 fun b hb o e => (kp b hb o e).1, fun b hb => ?_, w'⟩
      · rw [← hw] at e
        obtain ⟨e1, e2⟩ := wipe_some e
        rw [wipe_out fun z => e2 (sub j z)]
        exact e1
      · obtain ⟨o, e, _⟩ := T.obj _ _ st3 b hb
        exact (kp b hb o e).2
    cases ok with
    | false =>
      simp only [Bool.false_eq_true, if_false] at q5 ⊢
      exact ended (I5.weak (wipe_length _ _) fun j v e => (wipe_some e).1) q5
    | true =>
      simp only [if_true] at q5 ⊢
      exact thnF (bd _ s5 τ H5 _ I5 q5) fun _ s6 ⟨H6, I6, q6⟩ => ended I6 q6
theorem does_next {ex : Expr} {gs : List Comprehension} {sb : Scope} {pos : Pos} {k : Nat} {tg ix : Expr} {ps : Pos} {fs : List Expr} {D : Addr} {body : Sem Unit} {wi : TI} {g : TG} {tt : TT} {b : TB} {vs us : List Nat} (hc : X.calm = true) (hce : (Bk X s0 H0 sc ce fp).env = ce)
    (te : ∀ it, compTurn (.ListComp ex gs sb pos) k it (.ref D) ce = turnOf (.ListComp ex gs sb pos) k tg ps fs ce (.ref D) body it)
    (cs : ∀ {it : Value} {R : Result → Shared → Prop} {s : Shared}, codeAny (model X.prog X.w) X.A (.compLoop (.ListComp ex gs sb pos) k it (.ref D) ce) R s → wpAny (model X.prog X.w) X.A (pyIter it) (fun it' s' => codeAny (model X.prog X.w) X.A (.compLoop (.ListComp ex gs sb pos) k it' (.ref D) ce) R s') no s → codeAny (model X.prog X.w) X.A (.compStart (.ListComp ex gs sb pos) k it (.ref D) ce) R s)
    (fo : ∀ x, foldedSetIterable ix ce x = pure x) (pi : PI (Bk X s0 H0 sc ce fp) tg ix wi) (pg : PG (Bk X s0 H0 sc ce fp) tg g) (pt : PTs (Bk X s0 H0 sc ce fp) fs tt) (bd : Does X s0 H0 sc ce fp body b us) (sub : ∀ i ∈ us, i ∈ vs) :
    Does X s0 H0 sc ce fp (nextOf (.ListComp ex gs sb pos) k ix ce (.ref D)) (tCl wi g tt vs b) vs := by
  intro pins s σ H N I h
  unfold nextOf
  refine wpAny_bind (thnF (pi.run pins s σ H _ I h) fun xv s1 hx => ?_)
  refine wpAny_bind (wpAny_standAt (wpAny_bind (wpAny_of_eq (fo xv) (wpAny_bind (wpAny_holding (thnF hx fun itv s2 h2 => ?_))))))
  obtain ⟨it, fq, tn, J, H2, rfl, I2, T, st2, f2, W, ⟨m, w0⟩, tu⟩ := h2
  refine wpAny_bind (wpAny_runOwn ?_)
  rw [Around.mark_none]
  have lp : codeAny (model X.prog X.w) X.A (.compLoop (.ListComp ex gs sb pos) k (.ref it) (.ref D) ce) (fun r s' => match r with
      | .ok _ => ∃ H', Inv (Bk X s0 H0 sc ce fp) pins (wipe σ vs) H' s' ∧ N H'
      | .error _ => False) s2 := level hc te pg pt bd sub I2 T st2 f2 w0 tu fun s' H' I' n => ⟨H', I', n⟩
  refine codeAny_mono (cs lp (T.self X.A 0 _ _ _ st2 lp)) fun r s' hr => ?_
  cases r with
  | ok f => exact wpAny_pure hr
  | error e => exact hr.elim
end
section
variable {P : Program} {w : World} {A : Around} {R : Result → Shared → Prop} {s : Shared} {ex t0 i0 t1 i1 t2 i2 : Expr} {f0 f1 f2 : List Expr} {sc : Scope} {pos : Pos} {it acc : Value} {env : Env}
theorem start1 (h0 : codeAny (model P w) A (.compLoop (lc3 ex t0 i0 t1 i1 t2 i2 f0 f1 f2 sc pos) 1 it acc env) R s)
    (h : wpAny (model P w) A (pyIter it) (fun it' s' => codeAny (model P w) A (.compLoop (lc3 ex t0 i0 t1 i1 t2 i2 f0 f1 f2 sc pos) 1 it' acc env) R s') no s) :
    codeAny (model P w) A (.compStart (lc3 ex t0 i0 t1 i1 t2 i2 f0 f1 f2 sc pos) 1 it acc env) R s := by
  refine codeAny_of_tree ?_
  show wpAny _ _ ((compStart (lc3 ex t0 i0 t1 i1 t2 i2 f0 f1 f2 sc pos) 1 it acc env).onRaise (fun x => do noteFrame x env; standAt theWindowsPlace)) _ _ s
  refine wpAny_notedAt ?_
  unfold compStart
  show wpAny _ _ (ask >>= _) _ _ s
  refine wpAny_bind (wpAny_askSetting (wpAny_ite ?_))
  split
  · first
      | exact wpAny_bind (wpAny_pure (wpAny_pure ⟨rfl, h0⟩))
      | exact wpAny_pure ⟨rfl, h0⟩
  · refine wpAny_bind (wpAny_rule ?_)
    show wpAny _ _ (standAt i1.pos >>= _) _ _ s
    exact wpAny_bind (wpAny_standAt (wpAny_bind (thnF h fun it' s' h' => wpAny_pure ⟨rfl, h'⟩)))
theorem start2 (h0 : codeAny (model P w) A (.compLoop (lc3 ex t0 i0 t1 i1 t2 i2 f0 f1 f2 sc pos) 2 it acc env) R s)
    (h : wpAny (model P w) A (pyIter it) (fun it' s' => codeAny (model P w) A (.compLoop (lc3 ex t0 i0 t1 i1 t2 i2 f0 f1 f2 sc pos) 2 it' acc env) R s') no s) :
    codeAny (model P w) A (.compStart (lc3 ex t0 i0 t1 i1 t2 i2 f0 f1 f2 sc pos) 2 it acc env) R s := by
  refine codeAny_of_tree ?_
  show wpAny _ _ ((compStart (lc3 ex t0 i0 t1 i1 t2 i2 f0 f1 f2 sc pos) 2 it acc env).onRaise (fun x => do noteFrame x env; standAt theWindowsPlace)) _ _ s
  refine wpAny_notedAt ?_
  unfold compStart
  show wpAny _ _ (ask >>= _) _ _ s
  refine wpAny_bind (wpAny_askSetting (wpAny_ite ?_))
  split
  · first
      | exact wpAny_bind (wpAny_pure (wpAny_pure ⟨rfl, h0⟩))
      | exact wpAny_pure ⟨rfl, h0⟩
  · refine wpAny_bind (wpAny_rule ?_)
    show wpAny _ _ (standAt i2.pos >>= _) _ _ s
    exact wpAny_bind (wpAny_standAt (wpAny_bind (thnF h fun it' s' h' => wpAny_pure ⟨rfl, h'⟩)))
end
section
variable {X : Cx}
def tLc3 (wi : TI) (g : TG) (tt : TT) (b : Addr → TB) (ws : List Nat) : TE := fun σ H Q => wi σ H fun J H1 => ∀ D, H1 D = none → ∃ W : Nat → Nat → Hp → Prop, (∃ m, W 0 m (upd H1 D (.lst []))) ∧ tTurn J g tt ws (b D) (wipe σ ws) W fun H' => Q (.ref D) H'
theorem pe_lc3 {ex t0 i0 t1 i1 t2 i2 : Expr} {f0 f1 f2 : List Expr} {scope : Scope} {pos : Pos} {own : List (Str × Nat)} {v1 v2 : List Nat} {w0 w1 w2 : TI} {g0 g1 g2 : TG} {e0 e1 e2 : TT} {te : TE} (hc : X.calm = true) (hN : X.N.Nodup) (hi : PI X t0 i0 w0)
    (ok : BlkOk X.N X.env.scope scope own) (sub1 : ∀ i ∈ v1, i ∈ own.map (·.2)) (sub2 : ∀ i ∈ v2, i ∈ v1)
    (hg : ∀ (s : Shared) (H : Hp) (C : Addr) (cl : List (Str × Addr)) (fp : List Addr), PG (X.blk s H scope (compEnvC scope cl C X.env) fp) t0 g0) (ht : ∀ (s : Shared) (H : Hp) (C : Addr) (cl : List (Str × Addr)) (fp : List Addr), PTs (X.blk s H scope (compEnvC scope cl C X.env) fp) f0 e0) (hi1 : ∀ (s : Shared) (H : Hp) (C : Addr) (cl : List (Str × Addr)) (fp : List Addr), PI (X.blk s H scope (compEnvC scope cl C X.env) fp) t1 i1 w1) (hg1 : ∀ (s : Shared) (H : Hp) (C : Addr) (cl : List (Str × Addr)) (fp : List Addr), PG (X.blk s H scope (compEnvC scope cl C X.env) fp) t1 g1) (ht1 : ∀ (s : Shared) (H : Hp) (C : Addr) (cl : List (Str × Addr)) (fp : List Addr), PTs (X.blk s H scope (compEnvC scope cl C X.env) fp) f1 e1)
    (hi2 : ∀ (s : Shared) (H : Hp) (C : Addr) (cl : List (Str × Addr)) (fp : List Addr), PI (X.blk s H scope (compEnvC scope cl C X.env) fp) t2 i2 w2) (hg2 : ∀ (s : Shared) (H : Hp) (C : Addr) (cl : List (Str × Addr)) (fp : List Addr), PG (X.blk s H scope (compEnvC scope cl C X.env) fp) t2 g2) (ht2 : ∀ (s : Shared) (H : Hp) (C : Addr) (cl : List (Str × Addr)) (fp : List Addr), PTs (X.blk s H scope (compEnvC scope cl C X.env) fp) f2 e2) (he : ∀ (s : Shared) (H : Hp) (C : Addr) (cl : List (Str × Addr)) (fp : List Addr), PE (X.blk s H scope (compEnvC scope cl C X.env) fp) ex te)
    (fs0 : ∀ x, foldedSetIterable i0 X.env x = pure x := by intro _; rfl) (fs1 : ∀ env x, foldedSetIterable i1 env x = pure x := by intro _ _; rfl) (fs2 : ∀ env x, foldedSetIterable i2 env x = pure x := by intro _ _; rfl) :
    PE X (lc3 ex t0 i0 t1 i1 t2 i2 f0 f1 f2 scope pos) (tLc3 w0 g0 e0 (fun D => tCl w1 g1 e1 v1 (tCl w2 g2 e2 v2 (tPush te D))) (own.map (·.2))) := by
  refine ⟨fun pins s σ H Q I h => ?_⟩
  rw [eval_ListComp]
  have fre : ∀ y ∈ scope.names, y.2 = .free → ∃ c, X.env.cells.lookup y.1 = some c := fun y hy e => by
    rcases ok.free y hy e with z | z
    · exact I.ok.has _ (.inl z)
    · exact I.ok.has _ (.inr z)
  refine wpAny_comprehension_free (use := none) rfl fs0 (closure_ok fre) ok.kind (fun y hy e => by rw [ok.uniq y hy, e]) (thn (hi.run pins s σ H _ I h) fun xv s1 hx => thn hx fun itv s2 h2 => ?_)
  obtain ⟨it, fp, tn, J, H2, rfl, I2, T, st2, f2', q⟩ := h2
  refine wpAny_newObj_type (newEnv_comp ?_) (by show 0 ≤ sizeLine; decide)
  obtain ⟨D, hD⟩ : ∃ D, D = s2.heap.objs.size := ⟨_, rfl⟩
  rw [← hD]
  obtain ⟨W, ⟨m0, wz⟩, turn⟩ := q D (I2.hok.fresh (by rw [hD]; exact Nat.le_refl _))
  obtain ⟨nl, hnl⟩ : ∃ nl : Obj, nl = { cls := .type "list", data := .seq ([] : List Value).toArray } := ⟨_, rfl⟩
  rw [← hnl]
  obtain ⟨s3, hs3⟩ : ∃ s3 : Shared, s3 = { s2 with heap := s2.heap.push nl } := ⟨_, rfl⟩
  have I3 : Inv X pins σ (upd H2 D (.lst [])) s3 := by
    rw [hs3]
    refine I2.laid (t' := s2.toks) (fun b o e => Heap.get?_push_of_some _ e) (by rw [hD]; exact Nat.le_refl _) ⟨Nat.zero_le _, [], 0, .nil, ?_⟩
    rw [hD, hnl]
    exact Heap.get?_push_size _ rfl
  have lt2 : ∀ b ∈ fp, b < s2.heap.objs.size := fun b hb => by
    obtain ⟨o, e, _⟩ := T.obj _ _ st2 b hb
    exact Heap.lt_size e
  have f3 : ∀ b ∈ fp, FpOk X pins (upd H2 D (.lst [])) b ∧ b < s3.heap.objs.size := fun b hb => by
    have z := lt2 b hb
    refine ⟨⟨?_, (f2' b hb).2⟩, by rw [hs3]; show b < (s2.heap.push nl).objs.size; rw [Heap.size_push]; exact Nat.lt_succ_of_lt z⟩
    rw [upd_ne (by rw [hD]; exact Nat.ne_of_lt z)]
    exact (f2' b hb).1
  have st3 : tn 0 s3.heap := T.keep _ _ _ st2 fun b _ o e => by
    rw [hs3]
    exact Heap.get?_push_of_some _ e
  have I4 := block_start I3 ok hN f3
  obtain ⟨cl, hcl⟩ : ∃ cl, cl = cellsFrom (s3.heap.objs.size + 1) scope.names (cloFrom X.env.cells scope.names []) := ⟨_, rfl⟩
  obtain ⟨H3, hH3⟩ : ∃ H3, H3 = upd H2 D (.lst []) := ⟨_, rfl⟩
  obtain ⟨ce, hce⟩ : ∃ ce, ce = compEnvC scope cl s3.heap.objs.size X.env := ⟨_, rfl⟩
  obtain ⟨s4, hs4⟩ : ∃ s4 : Shared, s4 = { s3 with heap := pushCells (s3.heap.push { cls := .type "dict", data := .dict #[] }) scope.names } := ⟨_, rfl⟩
  have cL : ce.locals = s3.heap.objs.size := by
    rw [hce]
    rfl
  have st4 : tn 0 s4.heap := T.keep _ _ _ st3 fun b _ o e => by
    rw [hs4]
    exact pushCells_keeps _ _ _ _ (Heap.get?_push_of_some _ e)
  have p0 := hg s3 H3 s3.heap.objs.size cl fp
  have p1 := ht s3 H3 s3.heap.objs.size cl fp
  have p2 := hi1 s3 H3 s3.heap.objs.size cl fp
  have p3 := hg1 s3 H3 s3.heap.objs.size cl fp
  have p4 := ht1 s3 H3 s3.heap.objs.size cl fp
  have p5 := hi2 s3 H3 s3.heap.objs.size cl fp
  have p6 := hg2 s3 H3 s3.heap.objs.size cl fp
  have p7 := ht2 s3 H3 s3.heap.objs.size cl fp
  have p8 := he s3 H3 s3.heap.objs.size cl fp
  rw [← hcl, ← hH3, ← hce, ← hs4] at I4
  rw [← hce] at p0 p1 p2 p3 p4 p5 p6 p7 p8
  rw [← hH3] at I3 f3 wz
  have stat : ∀ b ∈ fp, FpOk (Bk X s3 H3 scope ce fp) [] H3 b := fun b hb =>
    ⟨(f3 b hb).1.1, (I4.ok.exf b hb).1, I4.ok.exfs b hb, .inl hb, fun x c e => (I4.ok.exf b hb).2 x c e, fun p hp => absurd (show p ∈ ([] : List (Addr × Obj)) ++ [] from hp) (by simp)⟩
  have d2 := does_push (D := D) p8
  have d1 := does_next (D := D) (body := pushOf ex ce (.ref D)) hc rfl (fun it => turn2 (ex := ex) (t0 := t0) (i0 := i0) (t1 := t1) (i1 := i1) (t2 := t2) (i2 := i2) (f2 := f2) (f0 := f0) (f1 := f1) (sc := scope) (pos := pos)) start2 (fs2 ce) p5 p6 p7 d2 (vs := v2) (fun i hi => nomatch hi)
  have d0 := does_next (D := D) hc rfl (fun it => turn1 (ex := ex) (t0 := t0) (i0 := i0) (t1 := t1) (i1 := i1) (f1 := f1) (t2 := t2) (i2 := i2) (f0 := f0) (f2 := f2) (sc := scope) (pos := pos)) start1 (fs1 ce) p2 p3 p4 d1 (vs := v1) sub2
  have loop : codeAny (model X.prog X.w) X.A (.compLoop (lc3 ex t0 i0 t1 i1 t2 i2 f0 f1 f2 scope pos) 0 (.ref it) (.ref D) ce) (compPost (model X.prog X.w) X.A X.xe none (EP X pins σ Q) (.ref D) s3.heap.objs.size) s4 := by
    refine level hc (fun it => turn0) p0 p1 d0 sub1 I4 T st4 stat wz turn fun s6 H6 I6 nn => ?_
    have I7 : Inv X pins σ H6 s6 := I3.call' (ch := fp) I6.os I6.base I6.hok I6.bare fun b hb => ⟨(f3 b hb).1.2.2.2.1, (f3 b hb).1.2.1, (f3 b hb).1.2.2.2.2.1, (f3 b hb).1.2.2.2.2.2⟩
    have nC : H6 s3.heap.objs.size = none := by
      rw [← cL]
      exact I6.free
    obtain ⟨m, hn, _⟩ := I6.loc
    have hn : s6.heap.Ns ce.locals m := hn
    rw [cL] at hn
    refine ⟨m, hn, fun h'' sb => ?_⟩
    obtain ⟨y0, y1, y2, y3, y4, y5⟩ := I3.fpOk (Nat.le_refl _) nC
    exact ⟨.ref D, H6, I7.turned (t' := s6.toks) (fun b o hb e => (sb.2 b hb).trans e) y0 y1 y3 y4 y5, rfl, nn⟩
  have done := codeAny_compStart_list loop (T.self X.A 0 _ _ _ st4 loop)
  rw [hce, hcl, hs4, hs3] at done
  exact done
end
end C3
namespace CC
open PySem L2
/-! ### a list that is being made at D, its items seen through a view of the heap that D is not part of -/
section
variable {K : PySem.W.Frag} {D : Addr} {H0 H H' : Hp} {Vw : Hp → Hp} {G : Hp → Prop} {P : Nat → List PyData → Prop} {i : Nat} {us : List V} {ds : List PyData}
structure Made (K : PySem.W.Frag) (Vw : Hp → Hp) (G : Hp → Prop) (P : Nat → List PyData → Prop) (H0 : Hp) (D : Addr) (i : Nat) (H : Hp) (us : List V) (ds : List PyData) : Prop where
  same : Same (Vw H0) (Vw H)
  more : G H
  lst : H D = some (.lst us)
  dat : DpAll K (Vw H) us ds
  inv : P i ds
  len : us.length ≤ i
def MadeI (K : PySem.W.Frag) (Vw : Hp → Hp) (G : Hp → Prop) (P : Nat → List PyData → Prop) (H0 : Hp) (D : Addr) (i : Nat) (H : Hp) : Prop := ∃ us ds, Made K Vw G P H0 D i H us ds
theorem Made.start (v1 : ∀ H o, Vw (upd H D o) = Vw H) (v3 : ∀ H o, G H → G (upd H D o)) (g0 : G H0) (p0 : P 0 []) : MadeI K Vw G P H0 D 0 (upd H0 D (.lst [])) :=
  ⟨[], [], by rw [v1]; exact Same.refl _, v3 _ _ g0, upd_same, .nil, p0, Nat.le_refl _⟩
theorem Made.push (p : Made K Vw G P H0 D i H us ds) (h9 : i < 100000) (v1 : ∀ H o, Vw (upd H D o) = Vw H) (v3 : ∀ H o, G H → G (upd H D o)) {y : V} {d : PyData} {j : Nat} (hj : i < j) (q1 : Dp K (Vw H') y d) (q2 : P j (ds ++ [d])) (q3 : Same (Vw H) (Vw H')) (q4 : H' D = H D) (q5 : G H') :
    ∃ acc, H' D = some (.lst acc) ∧ acc.length < sizeLine ∧ MadeI K Vw G P H0 D j (upd H' D (.lst (acc ++ [y]))) := by
  refine ⟨us, q4.trans p.lst, Nat.lt_of_le_of_lt p.len (Nat.lt_of_lt_of_le h9 (by decide)), us ++ [y], ds ++ [d], ?_, v3 _ _ q5, upd_same, ?_, q2, by rw [List.length_append]; exact Nat.le_trans (Nat.succ_le_succ p.len) hj⟩
  · rw [v1]
    exact p.same.trans q3
  · rw [v1]
    exact dps_app (dps_same q3 _ _ p.dat) (dps_one q1)
theorem Made.skip (p : Made K Vw G P H0 D i H us ds) {j : Nat} (hj : i ≤ j) (q2 : P j ds) (q3 : Same (Vw H) (Vw H')) (q4 : H' D = H D) (q5 : G H') : MadeI K Vw G P H0 D j H' :=
  ⟨us, ds, p.same.trans q3, q5, q4.trans p.lst, dps_same q3 _ _ p.dat, q2, Nat.le_trans p.len hj⟩
end
/-! the plain view: the heap without D -/
abbrev Tr : Hp → Prop := fun _ => True
abbrev MadeP (K : PySem.W.Frag) (P : Nat → List PyData → Prop) (H0 : Hp) (D : Addr) (i : Nat) (H : Hp) : Prop := MadeI K (fun H => wo H D) Tr P H0 D i H
section
variable {K : PySem.W.Frag} {D : Addr} {H0 H H' : Hp} {P : Nat → List PyData → Prop} {i : Nat} {us : List V} {ds : List PyData}
theorem madeP_start (p0 : P 0 []) : MadeP K P H0 D 0 (upd H0 D (.lst [])) := Made.start (fun H o => wo_upd D o) (fun _ _ z => z) trivial p0
theorem madeP_push (p : Made K (fun H => wo H D) Tr P H0 D i H us ds) (h9 : i < 100000) {y : V} {d : PyData} {j : Nat} (hj : i < j) (q3 : Same H H') (q1 : Dp K (wo H' D) y d) (q2 : P j (ds ++ [d])) :
    ∃ acc, H' D = some (.lst acc) ∧ acc.length < sizeLine ∧ MadeP K P H0 D j (upd H' D (.lst (acc ++ [y]))) :=
  p.push h9 (fun H o => wo_upd D o) (fun _ _ z => z) hj q1 q2 (wo_same q3) ((q3 _ _ p.lst).trans p.lst.symm) trivial
theorem madeP_skip (p : Made K (fun H => wo H D) Tr P H0 D i H us ds) {j : Nat} (hj : i ≤ j) (q3 : Same H H') (q2 : P j ds) : MadeP K P H0 D j H' :=
  p.skip hj q2 (wo_same q3) ((q3 _ _ p.lst).trans p.lst.symm) trivial
/-- what stood before the list, still stands -/
theorem Made.old (p : Made K (fun H => wo H D) Tr P H0 D i H us ds) (n : H0 D = none) : Same H0 H := fun b o e => wo_le D _ _ (p.same b o (by rw [wo_ne (ne_of_none e n)]; exact e))
/-- a new tuple in the view -/
theorem tup_new {t : Addr} {xs : List V} {u : HO} (hD : H D = some u) (n : H t = none) : SqT K (wo (upd H t (.tup xs)) D) t xs := by
  have ne : t ≠ D := (ne_of_none hD n).symm
  rw [wo_upd_ne _ ne]
  exact .inl (.inl upd_same)
/-- the made list, whole -/
theorem Made.dp (p : Made K (fun H => wo H D) Tr P H0 D i H us ds) : Dp K H (.ref D) (.list ds) := .lst (.inl (.inl p.lst)) (dps_same (wo_le D) _ _ p.dat)
end
theorem yes_if {σ : L2.St} {H : Hp} {A B : Hp → Prop} (h : A H) : tYes σ H fun y H3 => if y = true then A H3 else B H3 := by
  show if true = true then A H else B H
  exact iteT h
/-! ### the columns 0 .. z - 1 as values -/
def cols (z : Nat) : List V := (List.range z).map fun (i : Nat) => V.int (i : Int)
theorem cols_len (z : Nat) : (cols z).length = z := by rw [cols, List.length_map, List.length_range]
theorem cols_at {z i : Nat} {x : V} (h : (cols z)[i]? = some x) : i < z ∧ x = .int (i : Int) := by
  rw [cols, List.getElem?_map] at h
  by_cases hi : i < z
  · rw [List.getElem?_range hi] at h
    exact ⟨hi, (Option.some.inj h).symm⟩
  · rw [List.getElem?_eq_none (by rw [List.length_range]; omega)] at h
    cases h
theorem cols_rg (z : Nat) : rgV 0 (z : Int) = cols z := by
  unfold rgV cols
  rw [show ((z : Int) - 0).toNat = z by omega]
  refine List.map_congr_left fun i _ => ?_
  rw [Int.zero_add]
/-! ### all rules for a width -/
def row (w a : Nat) (k : Bool) : List R := ((List.range w).filter fun b => decide (a ≠ b)).map fun b => ⟨k, a, b⟩
def allR (w : Nat) : List R := [true, false].flatMap fun k => (List.range w).flatMap fun a => row w a k
end CC
namespace CC
open PySem L2
/-! ### a list of things of one shape that is being made at D -/
section
variable {α : Type} {f : α → PyData} {K : PySem.W.Frag} {H0 H H' : Hp} {D : Addr} {n m : Nat} {rs rs' : List α}
def MadeF (f : α → PyData) (K : PySem.W.Frag) (H0 : Hp) (D : Addr) (n : Nat) (H : Hp) (rs : List α) : Prop := ∃ us, Same (wo H0 D) (wo H D) ∧ H D = some (.lst us) ∧ DpAll K (wo H D) us (rs.map f) ∧ us.length ≤ n
theorem MadeF.start : MadeF f K H0 D 0 (upd H0 D (.lst [])) [] := by
  refine ⟨[], ?_, upd_same, .nil, Nat.le_refl _⟩
  rw [wo_upd]
  exact Same.refl _
theorem MadeF.up (p : MadeF f K H0 D n H rs) (h : n ≤ m) (e : rs = rs') : MadeF f K H0 D m H rs' := by
  obtain ⟨us, p1, p2, p3, p4⟩ := p
  subst e
  exact ⟨us, p1, p2, p3, Nat.le_trans p4 h⟩
theorem MadeF.push {r : α} {y : V} (p : MadeF f K H0 D n H rs) (h9 : n < 100000) (hm : n < m) (q3 : Same H H') (q1 : Dp K (wo H' D) y (f r)) :
    ∃ acc, H' D = some (.lst acc) ∧ acc.length < sizeLine ∧ MadeF f K H0 D m (upd H' D (.lst (acc ++ [y]))) (rs ++ [r]) := by
  obtain ⟨us, p1, p2, p3, p4⟩ := p
  refine ⟨us, q3 _ _ p2, Nat.lt_of_le_of_lt p4 (Nat.lt_of_lt_of_le h9 (by decide)), us ++ [y], ?_, upd_same, ?_, ?_⟩
  · rw [wo_upd]
    exact p1.trans (wo_same q3)
  · rw [wo_upd, List.map_append]
    exact dps_app (dps_same (wo_same q3) _ _ p3) (dps_one q1)
  · rw [List.length_append]
    exact Nat.le_trans (Nat.succ_le_succ p4) hm
theorem MadeF.keep (p : MadeF f K H0 D n H rs) (q3 : Same H H') (h : n ≤ m) (e : rs = rs') : MadeF f K H0 D m H' rs' := by
  obtain ⟨us, p1, p2, p3, p4⟩ := p
  subst e
  exact ⟨us, p1.trans (wo_same q3), q3 _ _ p2, dps_same (wo_same q3) _ _ p3, Nat.le_trans p4 h⟩
theorem MadeF.old (p : MadeF f K H0 D n H rs) (h : H0 D = none) : Same H0 H := fun b o e => by
  obtain ⟨us, p1, _⟩ := p
  exact wo_le D _ _ (p1 b o (by rw [wo_ne (ne_of_none e h)]; exact e))
theorem MadeF.tup {t : Addr} {xs : List V} (p : MadeF f K H0 D n H rs) (nt : H t = none) : SqT K (wo (upd H t (.tup xs)) D) t xs := by
  obtain ⟨us, _, p2, _⟩ := p
  exact tup_new p2 nt
theorem free_back (e : Same H H') {a : Addr} (h : H' a = none) : H a = none := e.free h
end
/-- what a def that hands back a new list of such things promises -/
def NewF {α : Type} (f : α → PyData) (K : PySem.W.Frag) (H : Hp) (rs : List α) (Q : VK) : Prop := ∀ (p : Addr) (us : List V) (H' : Hp), Same H H' → H p = none → H' p = some (.lst us) → DpAll K (wo H' p) us (rs.map f) → Q (.ref p) H'
theorem MadeF.out {α : Type} {f : α → PyData} {K : PySem.W.Frag} {H H0 H' : Hp} {D : Addr} {n : Nat} {rs : List α} {Q : VK} (p : MadeF f K H0 D n H' rs) (h : H0 D = none) (s : Same H H0) (q : NewF f K H rs Q) : Q (.ref D) H' := by
  have o := p.old h
  obtain ⟨us, p1, p2, p3, p4⟩ := p
  exact q D us H' (s.trans o) (s.free h) p2 p3
abbrev g3 (K : PySem.W.Frag) (i j k : Nat) : TG := gTup K 3 (gCons (gName i) (gCons (gName j) (gCons (gName k) gNil)))
abbrev g2 (K : PySem.W.Frag) (i j : Nat) : TG := gTup K 2 (gCons (gName i) (gCons (gName j) gNil))
end CC
/-! A set made of a list or tuple of things of one kind, and how many members it has. -/
namespace SG
open PySem PySem.Spec PyProof.Rows L2
section kinds
variable {P : Program} {w : World} {κ : Type} [DecidableEq κ] {kn : KeyKind P w κ} {A : Around} {E : Value → Shared → Prop} {s : Shared}
/-- things of the kind come from no class statement, and hash by their value -/
structure Tame (kn : KeyKind P w κ) : Prop where
  cls : ∀ (n : Nat) (k : κ) (v : Value), kn.is k v = true → ofAClassStatement n v = pure false
  byv : ∀ (n : Nat) (k : κ) (v : Value), kn.is k v = true → ∃ b, hashByValue n v = pure b
theorem tame_mix : Tame (mixKind P w) := by
  constructor
  · intro n k v h
    rcases keyIs_shape h with ⟨i, t, _, rfl⟩ | ⟨x, t, _, rfl⟩ <;> cases n <;> rfl
  · intro n k v h
    rcases keyIs_shape h with ⟨i, t, _, rfl⟩ | ⟨x, t, _, rfl⟩ <;> exact ⟨_, hashByValue_scannable n rfl⟩
theorem each_is {ks : List κ} {us : List Value} (h : ItemsAre kn ks us) : ∀ u ∈ us, ∃ k, kn.is k u = true := by
  induction h with
  | nil => exact fun u hu => nomatch hu
  | @cons k v _ _ q _ ih =>
    intro u hu
    cases hu with
    | head => exact ⟨k, q⟩
    | tail _ hu => exact ih u hu
theorem tup_cls (Tm : Tame kn) {ks : List κ} {b : Addr} {Q : Bool → Shared → Prop} (hb : IsTupleKey kn s.heap ks b) (q : Q false s) : wpAny (model P w) A (ofAClassStatement 8 (.ref b)) Q E s := by
  have ty := hb.typeIs
  obtain ⟨ob, its, m, g1, _, g2, g3⟩ := hb
  unfold ofAClassStatement
  refine wpAny_bind (wpAny_typeOf ty ?_)
  dsimp only
  have e0 : (("tuple" : String) == "tuple") = true := by decide
  simp only [e0, if_true, Bool.not_true, Bool.false_eq_true, if_false]
  try refine wpAny_bind (wpAny_pure ?_)
  try simp only [Bool.not_true, Bool.false_eq_true, if_false]
  show wpAny _ _ (seqItems? (.ref b) >>= _) _ _ s
  refine wpAny_bind (wpAny_seqItems g1 g2 ?_)
  dsimp only
  refine wpAny_bind ?_
  show wpAny _ _ (forIn its _ _) _ _ s
  rw [← Array.forIn_toList]
  refine wpAny_forIn_list _ (fun left r s' => r.1 = none ∧ s' = s ∧ ∀ u ∈ left, ∃ k, kn.is k u = true) _ ?_ ?_ _ _ ⟨rfl, rfl, each_is g3⟩
  · rintro u left r s' ⟨hr, rfl, al⟩
    obtain ⟨k, hk⟩ := al u List.mem_cons_self
    rw [Tm.cls _ k u hk]
    refine wpAny_bind (wpAny_pure ?_)
    simp only [Bool.false_eq_true, if_false]
    exact wpAny_pure ⟨rfl, rfl, fun x hx => al x (List.mem_cons_of_mem _ hx)⟩
  · rintro ⟨r1, r2⟩ s' ⟨hr, rfl, _⟩
    simp only at hr
    subst hr
    exact wpAny_pure q
theorem tup_byv (Tm : Tame kn) {ks : List κ} {b : Addr} {Q : Bool → Shared → Prop} (hb : IsTupleKey kn s.heap ks b) (q : ∀ y, Q y s) : wpAny (model P w) A (hashByValue 8 (.ref b)) Q E s := by
  have ty := hb.typeIs
  obtain ⟨ob, its, m, g1, _, g2, g3⟩ := hb
  unfold hashByValue
  refine wpAny_bind (wpAny_specialOf ty F.slot_tuple_hash.lookup ?_)
  show wpAny _ _ (seqItems? (.ref b) >>= _) _ _ s
  refine wpAny_bind (wpAny_seqItems g1 g2 ?_)
  refine wpAny_bind ?_
  show wpAny _ _ (forIn its _ _) _ _ s
  rw [← Array.forIn_toList]
  refine wpAny_forIn_list _ (fun left r s' => s' = s ∧ ∀ u ∈ left, ∃ k, kn.is k u = true) _ ?_ ?_ _ _ ⟨rfl, each_is g3⟩
  · rintro u left r s' ⟨rfl, al⟩
    obtain ⟨k, hk⟩ := al u List.mem_cons_self
    obtain ⟨y, hy⟩ := Tm.byv 7 k u hk
    rw [hy]
    refine wpAny_bind (wpAny_pure ?_)
    cases y with
    | true =>
      simp only [Bool.not_true, Bool.false_eq_true, if_false]
      exact wpAny_pure ⟨rfl, fun x hx => al x (List.mem_cons_of_mem _ hx)⟩
    | false =>
      simp only [Bool.not_false, if_true]
      exact wpAny_pure (wpAny_pure (q _))
  · rintro ⟨r1, r2⟩ s' ⟨rfl, _⟩
    cases r1 with
    | none => exact wpAny_pure (q _)
    | some y => exact wpAny_pure (q _)
theorem tup_unseen (Tm : Tame kn) {ks : List κ} {b : Addr} {Q : Bool → Shared → Prop} (hb : IsTupleKey kn s.heap ks b) {us : List Value} (hus : ∀ u ∈ us, ∃ js c, u = Value.ref c ∧ IsTupleKey kn s.heap js c) (q : Q false s) :
    wpAny (model P w) A (searchCouldBeSeen (.ref b) us) Q E s := by
  unfold searchCouldBeSeen
  refine wpAny_bind ?_
  refine wpAny_forIn_list _ (fun left r s' => r.1 = none ∧ s' = s ∧ ∀ u ∈ left, ∃ js c, u = Value.ref c ∧ IsTupleKey kn s.heap js c) _ ?_ ?_ _ _ ⟨rfl, rfl, hus⟩
  · rintro u left r s' ⟨hr, rfl, al⟩
    obtain ⟨js, c, rfl, hc⟩ := al u List.mem_cons_self
    have al2 : ∀ x ∈ left, ∃ js c, x = Value.ref c ∧ IsTupleKey kn s'.heap js c := fun x hx => al x (List.mem_cons_of_mem _ hx)
    dsimp only
    by_cases hv : (b == c || (carriedByValue (.ref b) && carriedByValue (.ref c))) = true
    · exact wp_if_pos hv (wpAny_pure ⟨rfl, rfl, al2⟩)
    · refine wp_if_neg hv (wpAny_bind (wpAny_eqIsQuiet_tuple hb ?_))
      simp only [Bool.not_true, Bool.false_eq_true, if_false]
      refine wpAny_bind (wpAny_eqIsQuiet_tuple hc ?_)
      simp only [Bool.not_true, Bool.false_eq_true, if_false]
      refine wpAny_bind (tup_cls Tm hb ?_)
      simp only [Bool.false_eq_true, if_false]
      refine wpAny_bind (tup_cls Tm hc ?_)
      simp only [Bool.false_eq_true, if_false]
      exact wpAny_pure ⟨rfl, rfl, al2⟩
  · rintro ⟨r1, r2⟩ s' ⟨hr, rfl, _⟩
    simp only at hr
    subst hr
    exact wpAny_pure q
/-! ### a set of tuples of the kind -/
abbrev hs (kn : KeyKind P w κ) (k : List κ) : Int := tupleKeyHash kn k
abbrev Mem (κ : Type) := Addr × List κ
def ents (kn : KeyKind P w κ) (M : List (Mem κ)) : List (Int × Value) := M.map fun m => (hs kn m.2, Value.ref m.1)
structure TSet (kn : KeyKind P w κ) (h : Heap) (a : Addr) (M : List (Mem κ)) (es : Array (Int × Value)) (ep : Nat) (t : SetTable) : Prop where
  obj : ∃ o, h.get? a = some o ∧ o.ExactSet ∧ o.data = .set es ep t
  ent : es.toList = ents kn M
  tok : TabOk t (M.map fun m => hs kn m.2)
  uni : (M.map (·.2)).Nodup
  mem : ∀ m ∈ M, IsTupleKey kn h m.2 m.1
  led : w.params.followText "set-order" = true ∨ t.led = true
  rom : M.length * 5 < t.mask * 3
  few : M.length < 64
variable {a : Addr} {M : List (Mem κ)} {es : Array (Int × Value)} {ep : Nat} {t : SetTable}
theorem ents_len (e : es.toList = ents kn M) : es.size = M.length := by
  have q := congrArg List.length e
  rw [ents, List.length_map, Array.length_toList] at q
  exact q
theorem ents_at (e : es.toList = ents kn M) {i : Nat} {m : Mem κ} (h : M[i]? = some m) : es[i]? = some (hs kn m.2, Value.ref m.1) := by
  rw [← Array.getElem?_toList, e, ents, List.getElem?_map, h]
  rfl
theorem fits_of (T : TabOk t (M.map fun m => hs kn m.2)) (n : es.size = M.length) (r : M.length ≤ t.mask) : t.fits es.size = true := by
  have z := T.sz
  rw [List.length_map] at z
  unfold SetTable.fits SetTable.fill
  rw [T.dm, Bool.and_eq_true, beq_iff_eq, decide_eq_true_eq]
  show t.place.size = es.size ∧ t.place.size + 0 ≤ t.mask
  omega
theorem TSet.fit (S : TSet kn s.heap a M es ep t) : t.fits es.size = true := fits_of S.tok (ents_len S.ent) (by have := S.rom; omega)
theorem nodummy (m : Nat) : ∀ (n : Nat) (p : SetTable.Probe), p.dummy = none → (nth m p n).dummy = none
  | 0, _, h => h
  | n + 1, p, h => nodummy m n (adv m p) (by unfold adv; split <;> exact h)
abbrev st0 (m : Nat) (h : Int) : SetTable.Probe := runAt m (SetTable.bits h % (m + 1)) (SetTable.bits h)
/-- the search along the way, from its c-th step -/
theorem look (Tm : Tame kn) (S : TSet kn s.heap a M es ep t) {x : Addr} {k : List κ} (hx : IsTupleKey kn s.heap k x) (hu : A.units < cLine) {N : Nat} (hN : N < 10 * SetTable.turns t.mask)
    (fr : way t.mask (hs kn k) N ∉ t.place.toList) (oc : ∀ c, c < N → way t.mask (hs kn k) c ∈ t.place.toList) {Q : SetFound → Shared → Prop}
    (yes : k ∈ M.map (·.2) → Q (.there none) s) (no : k ∉ M.map (·.2) → Q (.free (way t.mask (hs kn k) N) false) s) :
    ∀ (f c : Nat) (sd : Option SetTable.Probe), sd.getD (t.probeStart (hs kn k)) = nth t.mask (st0 t.mask (hs kn k)) c → c ≤ N → N - c < f →
      (∀ (i : Nat) m, M[i]? = some m → m.2 = k → ∃ d, c ≤ d ∧ d < N ∧ t.place.toList[i]? = some (way t.mask (hs kn k) d)) →
      wpAny (model P w) A (setSearchFrom a (.ref x) (hs kn k) true f sd) Q E s
  | 0, _, _, _, _, z, _ => absurd z (Nat.not_lt_zero _)
  | f + 1, c, sd, hsd, hc, hf, ahead => by
    obtain ⟨ob, g1, g2, g3⟩ := S.obj
    rw [setSearchFrom_succ]
    refine wpAny_bind (wpAny_setState_of g1 g3 S.fit ?_)
    dsimp only
    have gw : ¬ t.gaveWay = true := by
      unfold SetTable.gaveWay
      rw [mask_odd S.tok.mok]
      decide
    refine wp_if_neg gw ?_
    try refine wpAny_bind (wpAny_pure ?_)
    have shift : ∀ q, nth t.mask (nth t.mask (st0 t.mask (hs kn k)) c) q = nth t.mask (st0 t.mask (hs kn k)) (c + q) := fun q => (nth_add t.mask c _ q).symm
    have at_ : ∀ q, (nth t.mask (nth t.mask (st0 t.mask (hs kn k)) c) q).j = way t.mask (hs kn k) (c + q) := fun q => congrArg SetTable.Probe.j (shift q)
    have last : c + (N - c) = N := by omega
    have told := go_spec t S.tok.ris S.tok.dm (fun i => (es[i]?.map (·.1)).getD 0) (hs kn k) (10 * SetTable.turns t.mask) (N - c) _ (nodummy t.mask c (st0 t.mask (hs kn k)) rfl) (by omega)
      (fun q hq => by rw [at_]; exact oc _ (by omega)) (by rw [at_, last]; exact fr)
    have hsh : ∀ (i : Nat) m, M[i]? = some m → (fun i => (es[i]?.map (·.1)).getD 0) i = hs kn m.2 := fun i m hm => by
      show (es[i]?.map (·.1)).getD 0 = _
      rw [ents_at S.ent hm]
      rfl
    rcases told with ⟨q, i, hq, hi, _, before, ans⟩ | ⟨before, ans⟩
    · have ans' : t.probe (fun i => (es[i]?.map (·.1)).getD 0) (hs kn k) (sd.getD (t.probeStart (hs kn k))) = some (.candidate (way t.mask (hs kn k) (c + q)) i (nth t.mask (st0 t.mask (hs kn k)) (c + (q + 1)))) := by
        rw [hsd, ← at_, ← shift]
        exact ans
      rw [ans']
      dsimp only
      rw [at_] at hi
      have il : i < M.length := by
        have z1 := (List.getElem?_eq_some_iff.mp hi).1
        have z2 := S.tok.sz
        rw [List.length_map] at z2
        rw [Array.length_toList] at z1
        omega
      obtain ⟨m, hm⟩ : ∃ m, M[i]? = some m := ⟨_, List.getElem?_eq_getElem il⟩
      have mm : m ∈ M := List.mem_of_getElem? hm
      have go : wpAny (model P w) A (searchRest a (.ref x) (hs kn k) true f es t (way t.mask (hs kn k) (c + q)) i (nth t.mask (st0 t.mask (hs kn k)) (c + (q + 1)))) Q E s := by
        unfold searchRest
        rw [ents_at S.ent hm]
        dsimp only
        refine wpAny_bind (wpAny_holding (wpAny_eqBool_tuple hu (S.mem m mm) hx ?_))
        refine wpAny_bind (wpAny_setState_of g1 g3 S.fit ?_)
        dsimp only
        by_cases same : m.2 = k
        · exact wp_if_pos (by simp [same]) (wpAny_pure (yes (List.mem_map.mpr ⟨m, mm, same⟩)))
        · refine wp_if_neg (by simp [same]) ?_
          try refine wpAny_bind (wpAny_pure ?_)
          rw [sameMem]
          dsimp only
          have live : t.slot (way t.mask (hs kn k) (c + q)) = .live i := slot_live S.tok.ris hi
          simp only [if_true, live, ents_at S.ent hm]
          refine wpAny_bind (wpAny_isSame_ref_self (wpAny_bind (wpAny_pure ?_)))
          simp only [if_true]
          refine wp_if_neg (by simp [same]) ?_
          refine look Tm S hx hu hN fr oc yes no f (c + (q + 1)) _ rfl (by omega) (by omega) fun j n hj hn => ?_
          obtain ⟨d, d1, d2, d3⟩ := ahead j n hj hn
          refine ⟨d, ?_, d2, d3⟩
          rcases Nat.lt_trichotomy d (c + q) with z | z | z
          · have z0 : c + (d - c) = d := by omega
            refine absurd ((hsh j n hj).trans (congrArg (hs kn) hn)) (before (d - c) j (by omega) ?_)
            rw [at_, z0]
            exact d3
          · rw [z] at d3
            have z1 := slot_live S.tok.ris d3
            rw [live] at z1
            injection z1 with z1
            rw [← z1, hm] at hj
            exact absurd ((congrArg Prod.snd (Option.some.inj hj)).trans hn) same
          · omega
      by_cases hl : t.led = true
      · refine wp_if_neg (by simp [hl]) ?_
        try refine wpAny_bind (wpAny_pure ?_)
        exact go
      · refine wp_if_pos (by simp [hl]) ?_
        refine wpAny_bind (tup_unseen Tm hx (fun u hu2 => ?_) ?_)
        · obtain ⟨e, he, ee⟩ := List.mem_map.mp hu2
          have he1 : e ∈ es ∧ e.1 = hs kn k := by simpa using he
          have he2 : e ∈ es.toList := by simpa using he1.1
          rw [S.ent] at he2
          obtain ⟨n, hn, rfl⟩ := List.mem_map.mp he2
          exact ⟨n.2, n.1, ee.symm, S.mem n hn⟩
        · refine wp_if_neg (by decide) ?_
          try refine wpAny_bind (wpAny_pure ?_)
          exact go
    · have ans' : t.probe (fun i => (es[i]?.map (·.1)).getD 0) (hs kn k) (sd.getD (t.probeStart (hs kn k))) = some (.empty (way t.mask (hs kn k) N) none) := by
        have z : way t.mask (hs kn k) N = (nth t.mask (nth t.mask (st0 t.mask (hs kn k)) c) (N - c)).j := by rw [at_, last]
        rw [hsd, z]
        exact ans
      rw [ans']
      dsimp only
      refine wpAny_pure (no fun hm => ?_)
      obtain ⟨m, mm, ek⟩ := List.mem_map.mp hm
      obtain ⟨j, hj⟩ := List.mem_iff_getElem?.mp mm
      obtain ⟨d, d1, d2, d3⟩ := ahead j m hj ek
      have z0 : c + (d - c) = d := by omega
      refine absurd ((hsh j m hj).trans (congrArg (hs kn) ek)) (before (d - c) j (by omega) ?_)
      rw [at_, z0]
      exact d3
theorem look0 (Tm : Tame kn) (S : TSet kn s.heap a M es ep t) {x : Addr} {k : List κ} (hx : IsTupleKey kn s.heap k x) (hu : A.units < cLine) {Q : SetFound → Shared → Prop} (yes : k ∈ M.map (·.2) → Q (.there none) s)
    (no : ∀ N, k ∉ M.map (·.2) → way t.mask (hs kn k) N ∉ t.place.toList → (∀ c, c < N → way t.mask (hs kn k) c ∈ t.place.toList) → Q (.free (way t.mask (hs kn k) N) false) s) :
    wpAny (model P w) A (setSearch a (.ref x) (hs kn k) true) Q E s := by
  have rm := S.rom
  obtain ⟨N, n1, n2, n3⟩ := S.tok.first (by rw [List.length_map]; omega) (hs kn k)
  have big : N < 100000 := by
    have : 10 * SetTable.turns t.mask ≤ 1420 := by
      unfold SetTable.turns
      rcases S.tok.mok with e | e | e <;> omega
    omega
  unfold setSearch
  refine look Tm S hx hu n1 n2 n3 yes (fun z => no N z n2 n3) 100000 0 none rfl (Nat.zero_le _) (by omega) fun i m hm ek => ?_
  have z1 : (M.map fun m => hs kn m.2)[i]? = some (hs kn k) := by
    rw [List.getElem?_map, hm, ← ek]
    rfl
  have z2 : i < t.place.toList.length := by
    have y1 : i < M.length := (List.getElem?_eq_some_iff.mp hm).1
    have y2 := S.tok.sz
    rw [List.length_map] at y2
    rw [Array.length_toList]
    omega
  obtain ⟨d, d1, d2⟩ := S.tok.before n2 z1 (List.getElem?_eq_getElem z2)
  exact ⟨d, Nat.zero_le _, d1, by rw [List.getElem?_eq_getElem z2, d2]⟩
/-! ### laid anew, and added to -/
theorem key_else {h h' : Heap} {k : List κ} {b : Addr} {o : Obj} (hb : IsTupleKey kn h k b) (ho : h.get? a = some o) (hd : o.data = .set es ep t) (sb : Heap.SameBut a h h') : IsTupleKey kn h' k b := by
  obtain ⟨o2, its, n, g1, g2, g3, g4⟩ := hb
  have ne : b ≠ a := fun z => by
    rw [z, ho] at g1
    rw [← Option.some.inj g1, hd] at g3
    exact nomatch g3
  exact ⟨o2, its, n, (sb.2 b ne).trans g1, g2, g3, g4⟩
theorem pick_len {α : Type} (l : List α) : ∀ n, n ≤ l.length → (List.range n).filterMap (fun i => l[i]?) = l.take n
  | 0, _ => by simp
  | n + 1, h => by
    rw [List.range_succ, List.filterMap_append, pick_len l n (by omega), List.take_succ, List.getElem?_eq_getElem h]
    simp [List.filterMap, List.getElem?_eq_getElem h]
theorem pick (e : es.toList = ents kn M) : ∀ js : List Nat, (∀ j ∈ js, j < M.length) →
    js.filterMap (fun j => es[j]?) = ents kn (js.filterMap fun j => M[j]?) ∧ ((js.filterMap fun j => M[j]?).map fun m => hs kn m.2) = js.map fun j => (es.map (·.1)).getD j 0
  | [], _ => ⟨rfl, rfl⟩
  | j :: js, h => by
    have hj : j < M.length := h j List.mem_cons_self
    obtain ⟨i1, i2⟩ := pick e js fun i hi => h i (List.mem_cons_of_mem _ hi)
    have g := List.getElem?_eq_getElem hj
    have z : (es.map (·.1)).getD j 0 = hs kn M[j].2 := by
      have z1 : (es.map (·.1))[j]? = some (hs kn M[j].2) := by
        rw [Array.getElem?_map, ents_at e g]
        rfl
      simp [Array.getD_eq_getD_getElem?, z1]
    constructor
    · rw [List.filterMap_cons_some (ents_at e g), List.filterMap_cons_some g, i1]
      rfl
    · rw [List.filterMap_cons_some g, List.map_cons, List.map_cons, i2, z]
theorem grow {o : Obj} (g1 : s.heap.get? a = some o) (g2 : o.ExactSet) (g3 : o.data = .set es ep t) (en : es.toList = ents kn M) (T : TabOk t (M.map fun m => hs kn m.2)) (fl : M.length ≤ t.mask)
    (un : (M.map (·.2)).Nodup) (me : ∀ m ∈ M, IsTupleKey kn s.heap m.2 m.1) (ld : w.params.followText "set-order" = true ∨ t.led = true) (fw : M.length < 64) {want B : Nat}
    (w1 : SetTable.sizeAbove want - 1 = B) (w2 : MaskOk B) (w3 : SetTable.sizeAbove want ≤ 128) (w4 : M.length * 5 < B * 3) {Q : Unit → Shared → Prop}
    (q : ∀ h' M' es' ep' t', Heap.SameBut a s.heap h' → TSet kn h' a M' es' ep' t' → M'.Perm M → Q () { s with heap := h' }) : wpAny (model P w) A (setRelay a want) Q E s := by
  have n := ents_len en
  obtain ⟨t', order, e1, pm, T', e2, e3, _, _⟩ := relaid_ok t (hs := es.map (·.1)) (wanted := want) w1 w2 (by rw [Array.size_map, n]; omega)
  rw [Array.size_map, n] at pm
  obtain ⟨p1, p2⟩ := pick en order.toList fun j hj => List.mem_range.mp (pm.mem_iff.mp hj)
  have pm2 : (order.toList.filterMap fun j => M[j]?).Perm M := by
    have z := pm.filterMap fun j => M[j]?
    rw [pick_len M M.length (Nat.le_refl _), List.take_length] at z
    exact z
  generalize order.toList.filterMap (fun j => M[j]?) = M' at p1 p2 pm2
  rw [← p2] at T'
  have p3 : (order.filterMap (es[·]?)).toList = ents kn M' := by
    first
      | (rw [Array.toList_filterMap]; exact p1)
      | simpa using p1
  have n2 := ents_len p3
  have n3 := pm2.length_eq
  rw [setRelay_eq]
  refine wpAny_bind (wpAny_setState_of g1 g3 (fits_of T n fl) ?_)
  dsimp only
  refine wp_if_neg (by rw [sizeLine_eq]; omega) ?_
  try refine wpAny_bind (wpAny_pure ?_)
  rw [e1]
  dsimp only
  refine wpAny_bind (wp_if_neg (by rw [n2, n3, n]; simp) ?_)
  try refine wpAny_bind (wpAny_pure ?_)
  refine wpAny_pure ?_
  dsimp only
  refine wpAny_storeSet_of g1 g3 ?_ (by rw [n2, n3, sizeLine_eq]; omega)
  have sb : Heap.SameBut a s.heap (s.heap.update a (Obj.putSet (order.filterMap (es[·]?)) t')) := Heap.SameBut.update ..
  refine q _ M' _ (ep + 1) t' sb ⟨⟨_, store_at g1 g3, ⟨g2.1, g2.2.1, g2.2.2⟩, rfl⟩, p3, T', (pm2.map (·.2)).nodup_iff.mpr un, fun m hm => key_else (me m (pm2.mem_iff.mp hm)) g1 g3 sb, by rw [e3]; exact ld, by rw [n3, e2]; exact w4, by rw [n3]; exact fw⟩ pm2
theorem more (Tm : Tame kn) (S : TSet kn s.heap a M es ep t) {x : Addr} {k : List κ} (hx : IsTupleKey kn s.heap k x) (hu : A.units < cLine) (fw : M.length + 1 < 64) {Q : Bool → Shared → Prop}
    (q : ∀ b h' M' es' ep' t', Heap.SameBut a s.heap h' → TSet kn h' a M' es' ep' t' → (k ∈ M.map (·.2) → M' = M) → (k ∉ M.map (·.2) → M'.Perm ((x, k) :: M)) → Q b { s with heap := h' }) :
    wpAny (model P w) A (setAddHashed a (.ref x) (hs kn k)) Q E s := by
  obtain ⟨o, g1, g2, g3⟩ := S.obj
  have n := ents_len S.ent
  have rm := S.rom
  unfold setAddHashed
  refine wpAny_holding ?_
  rw [show (100000 : Nat) = 99999 + 1 from rfl, setAddHashedIn_succ]
  refine wpAny_bind (wpAny_setState_of g1 g3 S.fit ?_)
  dsimp only
  refine wp_if_neg (by simp [byScan, Value.scannable]) ?_
  try refine wpAny_bind (wpAny_pure ?_)
  refine wpAny_bind (look0 Tm S hx hu (fun hm => ?_) fun N hm f1 f2 => ?_)
  · exact wpAny_pure (q false s.heap M es ep t (Heap.SameBut.refl a s.heap) S (fun _ => rfl) fun z => absurd hm z)
  · dsimp only
    refine wpAny_bind (wpAny_setState_of g1 g3 S.fit ?_)
    dsimp only
    obtain ⟨q1, q2, q3, q4, q5, q6, q7, q8, q9⟩ := S.tok.put f1 f2
    generalize t.put (way t.mask (hs kn k) N) = pt at q1 q3 q4 q5 q6 q7 q8 q9 ⊢
    obtain ⟨t1, p⟩ := pt
    dsimp only at q1 q3 q4 q5 q6 q7 q8 q9 ⊢
    subst q1
    have hin : (SetTable.insertAt es (SetTable.below t.place (way t.mask (hs kn k) N)) (hs kn k, Value.ref x)).toList = ents kn (M.take (SetTable.below t.place (way t.mask (hs kn k) N)) ++ (x, k) :: M.drop (SetTable.below t.place (way t.mask (hs kn k) N))) := by
      rw [SetTable.toList_insertAt, S.ent, ents, ents, List.map_append, List.map_cons, List.map_take, List.map_drop]
    generalize SetTable.below t.place (way t.mask (hs kn k) N) = b at q2 q3 hin ⊢
    have pm := put_perm M b (x, k)
    have ln : (M.take b ++ (x, k) :: M.drop b).length = M.length + 1 := pm.length_eq
    have hh : (M.take b ++ (x, k) :: M.drop b).map (fun m => hs kn m.2) = (M.map fun m => hs kn m.2).take b ++ hs kn k :: (M.map fun m => hs kn m.2).drop b := by
      rw [List.map_append, List.map_cons, List.map_take, List.map_drop]
    rw [← hh] at q3
    have un1 : ((M.take b ++ (x, k) :: M.drop b).map (·.2)).Nodup := by
      refine (pm.map (·.2)).nodup_iff.mpr ?_
      rw [List.map_cons]
      exact List.nodup_cons.mpr ⟨hm, S.uni⟩
    have n1 := ents_len hin
    rw [ln] at n1
    generalize SetTable.insertAt es b (hs kn k, Value.ref x) = es1 at hin n1 ⊢
    generalize M.take b ++ (x, k) :: M.drop b = M1 at pm ln q3 un1 hin
    have tail : ∀ t2 : SetTable, TabOk t2 (M1.map fun m => hs kn m.2) → t2.mask = t.mask → t2.led = t1.led → t2.tooFull = t1.tooFull →
        wpAny (model P w) A (do
          storeSet a es1 t2
          if !false && t2.tooFull then setRelay a (SetTable.grown (es.size + 1))
          return true) Q E s := by
      intro t2 T2 mk ldd tf
      refine wpAny_bind (wpAny_storeSet_of g1 g3 ?_ (by rw [n1, sizeLine_eq]; omega))
      have sb : Heap.SameBut a s.heap (s.heap.update a (Obj.putSet es1 t2)) := Heap.SameBut.update ..
      have so := store_at (es' := es1) (t' := t2) g1 g3
      generalize s.heap.update a (Obj.putSet es1 t2) = h1 at sb so ⊢
      have me1 : ∀ m ∈ M1, IsTupleKey kn h1 m.2 m.1 := fun m hm1 => by
        rcases List.mem_cons.mp (pm.mem_iff.mp hm1) with z | z
        · rw [z]
          exact key_else hx g1 g3 sb
        · exact key_else (S.mem m z) g1 g3 sb
      have ld1 : w.params.followText "set-order" = true ∨ t2.led = true := by
        rw [ldd, q5]
        exact S.led
      by_cases hf : t1.tooFull = true
      · have hf2 : t2.tooFull = true := tf.trans hf
        first
          | (refine wpAny_bind ?_; refine wp_if_pos (by simp [hf2]) ?_)
          | (refine wp_if_pos (by simp [hf2]) ?_; refine wpAny_bind ?_)
        have full : (M.length + 1) * 5 ≥ t1.mask * 3 := by
          have z := hf
          unfold SetTable.tooFull at z
          rw [decide_eq_true_eq, q9, List.length_map] at z
          exact z
        rw [n]
        have two : (t.mask = 7 ∧ M.length = 4) ∨ (t.mask = 31 ∧ M.length = 18) := by
          rcases S.tok.mok with e | e | e
          · left
            rw [q4, e] at full
            rw [e] at rm
            exact ⟨e, by omega⟩
          · right
            rw [q4, e] at full
            rw [e] at rm
            exact ⟨e, by omega⟩
          · exfalso
            rw [q4, e] at full
            omega
        have go : ∀ B, SetTable.sizeAbove (SetTable.grown (M.length + 1)) - 1 = B → MaskOk B → SetTable.sizeAbove (SetTable.grown (M.length + 1)) ≤ 128 → (M.length + 1) * 5 < B * 3 →
            wpAny (model P w) A (setRelay a (SetTable.grown (M.length + 1))) (fun _ s' => wpAny (model P w) A (pure true) Q E s') E { s with heap := h1 } := fun B b1 b2 b3 b4 => by
          refine grow (s := { s with heap := h1 }) so ⟨g2.1, g2.2.1, g2.2.2⟩ rfl hin T2 (by rw [ln, mk]; rcases two with ⟨z, z2⟩ | ⟨z, z2⟩ <;> omega) un1 me1 ld1 (by rw [ln]; exact fw) b1 b2 b3 (by rw [ln]; exact b4) ?_
          intro h2 M2 es2 ep2 t3 sb2 S2 pm2
          exact wpAny_pure (q true h2 M2 es2 ep2 t3 (sb.trans sb2) S2 (fun z => absurd z hm) fun _ => pm2.trans pm)
        rcases two with ⟨_, z⟩ | ⟨_, z⟩
        · exact go 31 (by rw [z, size_20]) (.inr (.inl rfl)) (by rw [z, size_20]; decide) (by omega)
        · exact go 127 (by rw [z, size_76]) (.inr (.inr rfl)) (by rw [z, size_76]; decide) (by omega)
      · have hf2 : ¬ t2.tooFull = true := by
          rw [tf]
          exact hf
        first
          | refine wp_if_neg (by simp [hf2]) ?_
          | (refine wpAny_bind ?_; refine wp_if_neg (by simp [hf2]) ?_; refine wpAny_pure ?_)
        refine wpAny_pure (q true h1 M1 es1 (ep + 1) t2 sb ⟨⟨_, so, ⟨g2.1, g2.2.1, g2.2.2⟩, rfl⟩, hin, T2, un1, me1, ld1, ?_, by rw [ln]; exact fw⟩ (fun z => absurd z hm) fun _ => pm)
        have z := hf
        unfold SetTable.tooFull at z
        rw [decide_eq_true_eq, q9, List.length_map, q4] at z
        rw [ln, mk]
        omega
    have both : ∀ y : Bool, wpAny (model P w) A (do
        storeSet a es1 (if y then t1 else { t1 with plain := false })
        if !false && (if y then t1 else { t1 with plain := false } : SetTable).tooFull then setRelay a (SetTable.grown (es.size + 1))
        return true) Q E s := by
      intro y
      cases y with
      | true => exact tail t1 q3 q4 rfl rfl
      | false => exact tail { t1 with plain := false } ⟨q3.ris, q3.dm, q3.sz, q3.mok, q3.bd, q3.reach⟩ q4 rfl rfl
    by_cases pl : t1.plain = true
    · first
        | (refine wpAny_bind ?_; refine wp_if_pos pl ?_; refine tup_byv Tm hx fun y => ?_)
        | refine wp_if_pos pl (wpAny_bind (tup_byv Tm hx fun y => ?_))
      exact both y
    · first
        | (refine wpAny_bind ?_; refine wp_if_neg pl ?_; refine wpAny_pure ?_)
        | refine wp_if_neg pl (wpAny_bind (wpAny_pure ?_))
      exact both true
end kinds
end SG
namespace SG
open PySem PySem.Spec PyProof.Rows L2
/-- what a set at S, filled one by one, is known to be behind i things; base: what stood before it -/
structure Fills (P : Program) (w : World) (A : Around) (S : Addr) (base : Heap) (n : Nat) (Pv : Nat → Value → Prop) (J : Nat → Heap → Prop) : Prop where
  stay : ∀ (i : Nat) (h h' : Heap), J i h → (∀ b o, (b = S ∨ ∃ x, base.get? b = some x) → h.get? b = some o → h'.get? b = some o) → J i h'
  adds : ∀ (i : Nat) (v : Value) (s : Shared) (Q : Shared → Prop) (E : Value → Shared → Prop), i < n → Pv i v → J i s.heap →
    (∀ (h' : Heap) (tk : Nat), s.toks ≤ tk → Heap.SameBut S s.heap h' → J (i + 1) h' → Q { s with heap := h', toks := tk }) → wpAny (model P w) A (setAdd S v) (fun _ s' => Q s') E s
section
variable {P : Program} {w : World} {A : Around} {s : Shared}
theorem fill {I S : Addr} {fp wr : List Addr} {G : Array GenState → Array GenState → Prop} {n : Nat} {Pv : Nat → Value → Prop} {St : Nat → Shared → Prop} {R : Result → Shared → Prop} {base : Heap} {J : Nat → Heap → Prop}
    (W : WalksS P w A.in1 I fp wr G n Pv St) (Fi : Fills P w A.in1 S base n Pv J) (off : S ∉ fp) (old : ∀ b ∈ wr, base.get? b = none) : ∀ (d i : Nat) (s : Shared), n - i = d → i ≤ n → St i s → J i s.heap →
      (∀ s', Moved (S :: wr) G s s' → J n s'.heap → R (.ok (.ret .none)) s') → codeAny (model P w) A (.builtin "set.update.loop" ⟨[.ref S, .ref I], []⟩) R s := by
  have up : ∀ b ∈ wr, b ∈ S :: wr := fun b hb => List.mem_cons_of_mem _ hb
  have still : ∀ {i : Nat} {s s' : Shared}, Moved wr G s s' → J i s.heap → J i s'.heap := fun {i s s'} mv j => Fi.stay i _ _ j fun b o hb e => mv.heap b o (fun hw => by
    rcases hb with z | ⟨x, z⟩
    · exact off (W.sub _ (z ▸ hw))
    · rw [old b hw] at z
      cases z) e
  intro d
  induction d with
  | zero =>
    intro i s hd hi st j fin
    have e : i = n := by omega
    subst e
    refine codeAny_builtin F.entry_set_update_loop ?_
    rw [Around.under_plainId F.plain_set_update_loop _]
    show wpAny _ A.in1 (pyNext (.ref I) >>= _) _ _ s
    refine wpAny_bind (W.done s _ _ st fun s' mv => ?_)
    exact wpAny_pure (fin s' (mv.mono up) (still mv j))
  | succ d ih =>
    intro i s hd hi st j fin
    have lt : i < n := by omega
    refine codeAny_builtin F.entry_set_update_loop ?_
    rw [Around.under_plainId F.plain_set_update_loop _]
    show wpAny _ A.in1 (pyNext (.ref I) >>= _) _ _ s
    refine wpAny_bind (W.item i s _ _ lt st fun v s' pv st' mv => ?_)
    show wpAny _ A.in1 (holding [v] (setAdd S v) >>= _) _ _ s'
    refine wpAny_bind (wpAny_holding (Fi.adds i v s' _ _ lt pv (still mv j) fun h' tk ht sb j' => ?_))
    have out : ∀ b o, b ∉ S :: wr → s'.heap.get? b = some o → h'.get? b = some o := fun b o hb e => by
      rw [sb.2 b fun z => hb (by rw [z]; exact List.mem_cons_self)]
      exact e
    refine wpAny_pure ⟨plainId_quiet F.plain_set_update_loop _, ih (i + 1) _ (by omega) lt (W.frame _ s' _ _ st' ht fun b hb o e => ?_) j' fun s2 mv2 j2 => ?_⟩
    · rw [sb.2 b fun z => off (z ▸ hb)]
      exact e
    · exact fin s2 (Moved.trans W.gtrans ((mv.mono up).then_heap ht out) mv2) j2
end
abbrev bare (w : World) : Obj := { cls := .type "set", dict := none, data := .set #[] 0 (.fresh 0 0 (!w.params.followText "set-order")) }
section
variable {P : Program} {w : World} {A : Around} {E : Value → Shared → Prop} {s : Shared}
theorem make {l : Addr} {its : Array Value} {J : Nat → Heap → Prop} {Q : Value → Shared → Prop} (hh : A.handled = none) (hl : s.heap.IsList l its ∨ s.heap.IsTuple l its)
    (Fi : Fills P w A.in1.in1.in1 s.heap.objs.size s.heap its.size (fun i v => its[i]? = some v) J)
    (j0 : ∀ h : Heap, h.get? s.heap.objs.size = some (bare w) → (∀ b o, s.heap.get? b = some o → h.get? b = some o) → J 0 h)
    (q : ∀ (h' : Heap) (tk : Nat), J its.size h' → (∀ b o, s.heap.get? b = some o → h'.get? b = some o) → Q (.ref s.heap.objs.size) { s with heap := h', toks := tk }) :
    wpAny (model P w) A (call (.type "set") [.ref l]) Q E s := by
  obtain ⟨c, tl, hmro⟩ := F.called_set.mro
  have hmade := F.called_set.made
  have hsub := F.called_set.sub
  refine wpAny_call (codeAny_of_tree ?_)
  show wpAny _ _ (callAny (.type "set") _) _ _ _
  refine wpAny_pure ⟨Code.quiet_builtin _ (by decide +kernel), codeAny_builtin F.entry_type_call ?_⟩
  rw [Around.under_plain (weight_type_call_type "set" [.ref l] []) rfl]
  have h1 := F.called_set.notType
  have h2 := F.called_set.canCreate
  have h3 := F.typeCall_set_1 (.ref l)
  repeat (any_goals (first | assumption | wp_step))
  refine codeAny_mono (code_set_led1 (.ref l) (E := E) (Q₁ := fun ob s1 => ob = .ref s.heap.objs.size ∧ s1 = { s with heap := s.heap.push (bare w) }) ⟨rfl, rfl⟩) fun r s1 hr => ?_
  cases r with
  | error e => exact hr
  | ok fl =>
    cases fl with
    | ret ob =>
      obtain ⟨rfl, rfl⟩ := hr
      have g0 : (s.heap.push (bare w)).get? s.heap.objs.size = some (bare w) := Heap.get?_push_size _ rfl
      have ty : Shared.TypeIs { s with heap := s.heap.push (bare w) } (.ref s.heap.objs.size) "set" := ⟨_, g0, rfl⟩
      have h4 := F.called_set.init.lookup
      have h5 := F.called_set.init.bind (.ref s.heap.objs.size)
      repeat (any_goals (first | assumption | wp_step))
      refine codeAny_mono (codeAny_call_builtin (R := wants (fun r s2 => r = .none ∧ ∃ h' tk, s2 = { s with heap := h', toks := tk } ∧ J its.size h' ∧ ∀ b o, s.heap.get? b = some o → h'.get? b = some o) E) F.called_set.init.plain F.entry_set_init (check_set_init_1 ty ?_)) fun r2 s2 hr2 => ?_
      · have lt : ∀ {b o}, s.heap.get? b = some o → b < s.heap.objs.size := fun e => Heap.lt_size e
        have nw : ∀ b, s.heap.objs.size ≤ b → s.heap.get? b = none := fun b hb => by
          cases z : s.heap.get? b with
          | none => rfl
          | some o => exact absurd (Nat.lt_of_lt_of_le (lt z) hb) (Nat.lt_irrefl _)
        have hh3 : A.in1.in1.in1.handled = none := by simp [hh]
        have z1 : (s.heap.push (bare w)).objs.size = s.heap.objs.size + 1 := Heap.size_push ..
        have ends : ∀ (s' : Shared), Moved [s.heap.objs.size, (s.heap.push (bare w)).objs.size] (fun a b => b = a) { s with heap := (s.heap.push (bare w)) } s' → J its.size s'.heap →
            ∃ h' tk, s' = { s with heap := h', toks := tk } ∧ J its.size h' ∧ ∀ b o, s.heap.get? b = some o → h'.get? b = some o := fun s' mv j => by
          obtain ⟨h', g', d', tk, os'⟩ := s'
          have e1 : g' = s.gens := mv.gens
          have e2 : d' = s.drawn := mv.drawn
          have e3 : os' = s.os := mv.os
          subst e1 e2 e3
          refine ⟨h', tk, rfl, j, fun b o e => mv.heap b o (fun hb => ?_) (Heap.get?_push_of_some _ e)⟩
          have hb2 := lt e
          simp only [List.mem_cons, List.not_mem_nil, or_false] at hb
          rcases hb with z | z
          · rw [z] at hb2
            exact Nat.lt_irrefl _ hb2
          · rw [z, z1] at hb2
            exact absurd hb2 (Nat.not_lt.mpr (Nat.le_succ _))
        rcases hl with hl | hl
        · obtain ⟨⟨ocls, odict, odata, oslots⟩, hol, hcl, nl, hdl⟩ := hl
          simp only at hcl hdl
          subst hcl hdl
          have hol' := Heap.get?_push_of_some (bare w) hol
          have hl1 : (s.heap.push (bare w)).IsList l its := ⟨_, hol', rfl, nl, rfl⟩
          have h6 := F.sub_list_set
          have h7 := F.sub_list_frozenset
          have h8 : (Value.type "list" == Value.type "dict") = false := by decide
          unfold Builtin.«set.__init__» noKeywords Builtin.Frozenset.updateFrom
          generalize hPI : pyIter = PI
          wp_walk
          subst hPI
          refine wpAny_pyIter_list hl1 (wpAny_bind (wpAny_runValue ?_))
          have hls := lt hol
          refine fill ((Walks.list hh3 _ l (by rw [z1]; exact Nat.ne_of_lt (Nat.lt_succ_of_lt hls)) its).toS) Fi (by rw [z1]; simp only [List.mem_cons, List.not_mem_nil, or_false, not_or]; exact ⟨Nat.ne_of_lt (Nat.lt_succ_self _), (Nat.ne_of_lt hls).symm⟩) (fun b hb => nw b (by rw [List.mem_singleton.mp hb, z1]; exact Nat.le_succ _)) (its.size - 0) 0 _ (by omega) (Nat.zero_le _)
            ⟨⟨_, Heap.get?_push_size _ rfl, rfl, rfl⟩, hl1.push _⟩ (j0 _ (Heap.get?_push_of_some _ g0) fun b o e => Heap.get?_push_of_some _ (Heap.get?_push_of_some _ e)) fun s' mv j => ?_
          refine wpAny_pure ?_
          obtain ⟨h', tk, e1, e2, e3⟩ := ends s' ⟨fun b o hb e => mv.heap b o hb (Heap.get?_push_of_some _ e), mv.gens, mv.drawn, mv.os, mv.toks⟩ j
          exact wpAny_pure ⟨rfl, h', tk, e1, e2, e3⟩
        · obtain ⟨⟨ocls, odict, odata, oslots⟩, hol, hcl, nl, hdl⟩ := hl
          simp only at hcl hdl
          subst hcl hdl
          have hol' := Heap.get?_push_of_some (bare w) hol
          have hl1 : (s.heap.push (bare w)).IsTuple l its := ⟨_, hol', rfl, nl, rfl⟩
          have h6 := F.sub_tuple_set
          have h7 := F.sub_tuple_frozenset
          have h8 : (Value.type "tuple" == Value.type "dict") = false := by decide
          unfold Builtin.«set.__init__» noKeywords Builtin.Frozenset.updateFrom
          generalize hPI : pyIter = PI
          wp_walk
          subst hPI
          refine wpAny_pyIter_tuple hl1 (wpAny_bind (wpAny_runValue ?_))
          have hls := lt hol
          refine fill ((Walks.tuple hh3 _ l (by rw [z1]; exact Nat.ne_of_lt (Nat.lt_succ_of_lt hls)) its).toS) Fi (by rw [z1]; simp only [List.mem_cons, List.not_mem_nil, or_false, not_or]; exact ⟨Nat.ne_of_lt (Nat.lt_succ_self _), (Nat.ne_of_lt hls).symm⟩) (fun b hb => nw b (by rw [List.mem_singleton.mp hb, z1]; exact Nat.le_succ _)) (its.size - 0) 0 _ (by omega) (Nat.zero_le _)
            ⟨⟨_, Heap.get?_push_size _ rfl, rfl, rfl⟩, hl1.push _⟩ (j0 _ (Heap.get?_push_of_some _ g0) fun b o e => Heap.get?_push_of_some _ (Heap.get?_push_of_some _ e)) fun s' mv j => ?_
          refine wpAny_pure ?_
          obtain ⟨h', tk, e1, e2, e3⟩ := ends s' ⟨fun b o hb e => mv.heap b o hb (Heap.get?_push_of_some _ e), mv.gens, mv.drawn, mv.os, mv.toks⟩ j
          exact wpAny_pure ⟨rfl, h', tk, e1, e2, e3⟩
      · cases r2 with
        | error e => exact hr2
        | ok fl2 =>
          cases fl2 with
          | ret r =>
            obtain ⟨rfl, h', tk, rfl, j, kp⟩ := hr2
            repeat (any_goals (first | assumption | wp_step))
            exact q _ _ j kp
          | _ => exact hr2.elim
    | _ => exact hr.elim
end
end SG
namespace SG
open PySem PySem.Spec PyProof.Rows L2
/-! ### how many different ones -/
section
variable {α : Type} [DecidableEq α]
theorem sub_len : ∀ {l r : List α}, l.Nodup → (∀ x ∈ l, x ∈ r) → l.length ≤ r.length
  | [], _, _, _ => Nat.zero_le _
  | x :: l, r, nd, h => by
    have h1 := List.nodup_cons.mp nd
    have hx := h x List.mem_cons_self
    have h2 : ∀ y ∈ l, y ∈ r.erase x := fun y hy => (List.mem_erase_of_ne (a := y) (b := x) fun e => h1.1 (by rw [← e]; exact hy)).mpr (h y (List.mem_cons_of_mem _ hy))
    have h3 := sub_len h1.2 h2
    rw [List.length_erase_of_mem hx] at h3
    have h4 : 0 < r.length := List.length_pos_of_mem hx
    rw [List.length_cons]
    omega
theorem less : ∀ {r : List α}, ¬ r.Nodup → ∃ l : List α, l.length < r.length ∧ ∀ x ∈ r, x ∈ l
  | [], h => absurd List.nodup_nil h
  | x :: r, h => by
    by_cases hx : x ∈ r
    · refine ⟨r, by simp, fun y hy => ?_⟩
      rcases List.mem_cons.mp hy with e | e
      · rw [e]
        exact hx
      · exact e
    · obtain ⟨l, h1, h2⟩ := less fun nd => h (List.nodup_cons.mpr ⟨hx, nd⟩)
      refine ⟨x :: l, by simpa using h1, fun y hy => ?_⟩
      rcases List.mem_cons.mp hy with e | e
      · rw [e]
        exact List.mem_cons_self
      · exact List.mem_cons_of_mem _ (h2 y e)
theorem as_many {l r : List α} (nd : l.Nodup) (h1 : ∀ x ∈ l, x ∈ r) (h2 : ∀ x ∈ r, x ∈ l) : l.length ≤ r.length ∧ (l.length = r.length ↔ r.Nodup) := by
  refine ⟨sub_len nd h1, fun e => ?_, fun nr => Nat.le_antisymm (sub_len nd h1) (sub_len nr h2)⟩
  rcases Classical.em r.Nodup with z | z
  · exact z
  · obtain ⟨l', q1, q2⟩ := less z
    have := sub_len nd fun x hx => q2 x (h1 x hx)
    omega
theorem take_one {l : List α} {i : Nat} {x : α} (h : l[i]? = some x) : l.take (i + 1) = l.take i ++ [x] := by
  rw [List.take_succ, h]
  rfl
end
section
variable {P : Program} {w : World} {A : Around} {E : Value → Shared → Prop} {s : Shared}
/-! ### tuples of texts and ints -/
theorem fills_tup {ks : List (Mem Key)} {its : Array Value} (e : its.toList = ks.map fun m => Value.ref m.1) (hk : ∀ m ∈ ks, IsTupleKey (mixKind P w) s.heap m.2 m.1) (few : ks.length < 64) (hu : A.units < cLine) :
    Fills P w A s.heap.objs.size s.heap its.size (fun i v => its[i]? = some v) fun i h => (∀ b o, s.heap.get? b = some o → h.get? b = some o) ∧
      ∃ M es ep t, TSet (mixKind P w) h s.heap.objs.size M es ep t ∧ (∀ m ∈ M, m ∈ ks.take i) ∧ (∀ m ∈ ks.take i, m.2 ∈ M.map (·.2)) ∧ M.length ≤ i := by
  have nw : s.heap.get? s.heap.objs.size = none := by
    cases z : s.heap.get? s.heap.objs.size with
    | none => rfl
    | some o => exact absurd (Heap.lt_size z) (Nat.lt_irrefl _)
  have up : ∀ {h : Heap} {m : Mem Key}, (∀ b o, s.heap.get? b = some o → h.get? b = some o) → m ∈ ks → IsTupleKey (mixKind P w) h m.2 m.1 := fun {h m} k hm => by
    obtain ⟨o, items, n, g, r⟩ := hk m hm
    exact ⟨o, items, n, k _ _ g, r⟩
  constructor
  · rintro i h h' ⟨k0, M, es, ep, t, S, m1, m2, m3⟩ kp
    have k1 : ∀ b o, s.heap.get? b = some o → h'.get? b = some o := fun b o q => kp b o (.inr ⟨o, q⟩) (k0 b o q)
    obtain ⟨o, g1, g2⟩ := S.obj
    exact ⟨k1, M, es, ep, t, ⟨⟨o, kp _ _ (.inl rfl) g1, g2⟩, S.ent, S.tok, S.uni, fun m hm => up k1 (List.mem_of_mem_take (m1 m hm)), S.led, S.rom, S.few⟩, m1, m2, m3⟩
  · rintro i v s' Q E' lt pv ⟨k0, M, es, ep, t, S, m1, m2, m3⟩ q
    have z : its.toList[i]? = some v := by
      rw [Array.getElem?_toList]
      exact pv
    rw [e, List.getElem?_map] at z
    obtain ⟨m, hm, rfl⟩ : ∃ m, ks[i]? = some m ∧ v = .ref m.1 := by
      cases y : ks[i]? with
      | none =>
        rw [y] at z
        cases z
      | some m =>
        rw [y] at z
        exact ⟨m, rfl, (Option.some.inj z).symm⟩
    have mm := List.mem_of_getElem? hm
    have il : i < ks.length := (List.getElem?_eq_some_iff.mp hm).1
    have hx := up k0 mm
    unfold setAdd
    refine wpAny_holding (wpAny_bind (wpAny_pyHash_tuple hu hx ?_))
    refine more (s := { s' with toks := s'.toks + (m.2.length + 1) }) tame_mix S hx hu (by omega) fun b h' M' es' ep' t' sb S' c1 c2 => ?_
    refine q h' _ (Nat.le_add_right _ _) sb ⟨fun b o g => (sb.2 b fun y => by rw [y, nw] at g; cases g).trans (k0 b o g), M', es', ep', t', S', ?_⟩
    rw [take_one hm]
    by_cases hin : m.2 ∈ M.map (·.2)
    · rw [c1 hin]
      refine ⟨fun n hn => List.mem_append_left _ (m1 n hn), fun n hn => ?_, by omega⟩
      rcases List.mem_append.mp hn with y | y
      · exact m2 n y
      · rw [List.mem_singleton.mp y]
        exact hin
    · have pm := c2 hin
      refine ⟨fun n hn => ?_, fun n hn => ?_, by rw [pm.length_eq, List.length_cons]; omega⟩
      · rcases List.mem_cons.mp (pm.mem_iff.mp hn) with y | y
        · rw [y]
          exact List.mem_append_right _ (List.mem_singleton.mpr rfl)
        · exact List.mem_append_left _ (m1 n y)
      · rw [(pm.map (·.2)).mem_iff, List.map_cons]
        rcases List.mem_append.mp hn with y | y
        · exact List.mem_cons_of_mem _ (m2 n y)
        · rw [List.mem_singleton.mp y]
          exact List.mem_cons_self
theorem fresh_tup {h : Heap} {a : Addr} (g : h.get? a = some (bare w)) : TSet (mixKind P w) h a [] #[] 0 (.fresh 0 0 (!w.params.followText "set-order")) where
  obj := ⟨_, g, ⟨rfl, rfl, rfl⟩, rfl⟩
  ent := rfl
  tok := ⟨List.Pairwise.nil, rfl, rfl, .inl rfl, (fun x hx => nomatch hx), (fun i h j hi => by simp at hi)⟩
  uni := List.nodup_nil
  mem := fun m hm => nomatch hm
  led := by
    show _ ∨ (!w.params.followText "set-order") = true
    cases w.params.followText "set-order"
    · exact .inr rfl
    · exact .inl rfl
  rom := by
    show 0 * 5 < 7 * 3
    decide
  few := by
    show 0 < 64
    decide
/-! ### texts -/
theorem fills_str {xs : List Str} {its : Array Value} (e : ∀ (i : Nat) v, its[i]? = some v → ∃ x t, xs[i]? = some x ∧ v = Value.str x t) (few : xs.length < 64) :
    Fills P w A s.heap.objs.size s.heap its.size (fun i v => its[i]? = some v) fun i h => (∀ b o, s.heap.get? b = some o → h.get? b = some o) ∧
      ∃ (Sf : Str → Bool) (l : List Str), h.SetOf (PySem.strKind P w) s.heap.objs.size Sf l.length ∧ (∀ k, Sf k = true ↔ k ∈ xs.take i) ∧ l.Nodup ∧ (∀ k, k ∈ l ↔ k ∈ xs.take i) ∧ l.length ≤ i := by
  have nw : s.heap.get? s.heap.objs.size = none := by
    cases z : s.heap.get? s.heap.objs.size with
    | none => rfl
    | some o => exact absurd (Heap.lt_size z) (Nat.lt_irrefl _)
  constructor
  · rintro i h h' ⟨k0, Sf, l, ⟨o, es, ep, t, g, r⟩, m⟩ kp
    exact ⟨fun b o q => kp b o (.inr ⟨o, q⟩) (k0 b o q), Sf, l, ⟨o, es, ep, t, kp _ _ (.inl rfl) g, r⟩, m⟩
  · rintro i v s' Q E' lt pv ⟨k0, Sf, l, S, m1, m2, m3, m4⟩ q
    obtain ⟨x, t, hx, rfl⟩ := e i v pv
    have il : i < xs.length := (List.getElem?_eq_some_iff.mp hx).1
    unfold setAdd
    refine wpAny_holding (wpAny_bind ((PySem.strKind P w).pyHash (k := x) (strKind_is _ _ _ _) ?_))
    refine wpAny_setAddHashed_of (knd := PySem.strKind P w) (s := { s' with toks := s'.toks + 1 }) (strKind_is _ _ _ _) rfl S (by unfold scanBound; omega) fun h' sb S' => ?_
    refine q h' _ (Nat.le_add_right _ _) sb ⟨fun b o g => (sb.2 b fun y => by rw [y, nw] at g; cases g).trans (k0 b o g), ?_⟩
    rw [take_one hx]
    have mem : ∀ k, (Sf k || decide (k = x)) = true ↔ k ∈ xs.take i ++ [x] := fun k => by
      rw [Bool.or_eq_true, decide_eq_true_eq, m1, List.mem_append, List.mem_singleton]
    by_cases hin : Sf x = true
    · rw [hin, if_pos rfl] at S'
      refine ⟨_, l, S', mem, m2, fun k => ?_, by omega⟩
      rw [m3, List.mem_append, List.mem_singleton]
      exact ⟨.inl, fun y => y.elim id fun y => by rw [y]; exact (m1 x).mp hin⟩
    · rw [if_neg hin] at S'
      have hn : x ∉ l := fun y => hin ((m1 x).mpr ((m3 x).mp y))
      refine ⟨_, x :: l, S', mem, List.nodup_cons.mpr ⟨hn, m2⟩, fun k => ?_, by rw [List.length_cons]; omega⟩
      rw [List.mem_cons, m3, List.mem_append, List.mem_singleton]
      exact ⟨fun y => y.elim .inr .inl, fun y => y.elim .inr .inl⟩
end
/-! ### len(set(e)) -/
section
variable {X : Cx}
def tLenSetD (K : PySem.W.Frag) (ta : TE) : TE := fun σ H Q => ta σ H fun x H1 => ∃ l : Addr, x = .ref l ∧
  ((∃ xs : List Str, (SqL K H1 l (xs.map V.str) ∨ SqT K H1 l (xs.map V.str)) ∧ xs.length < 64 ∧ ∀ n : Nat, n ≤ xs.length → (n = xs.length ↔ xs.Nodup) → Q (.int n) H1) ∨
  ∃ ks : List (Mem Key), (SqL K H1 l (ks.map fun m => V.ref m.1) ∨ SqT K H1 l (ks.map fun m => V.ref m.1)) ∧ (∀ m ∈ ks, SqT K H1 m.1 (m.2.map kV)) ∧ ks.length < 64 ∧
    ∀ n : Nat, n ≤ ks.length → (n = ks.length ↔ (ks.map (·.2)).Nodup) → Q (.int n) H1)
theorem its_keys {P : Program} {w : World} : ∀ {k : List Key} {us : List Value}, Vals (k.map kV) us → ItemsAre (mixKind P w) k us
  | [], _, .nil => .nil
  | .inl i :: ks, _, .cons r t => by
    obtain ⟨tk, rfl⟩ := r
    exact .cons (mixKind_int P w i tk) (its_keys t)
  | .inr x :: ks, _, .cons r t => by
    obtain ⟨tk, rfl⟩ := r
    exact .cons (mixKind_str P w x tk) (its_keys t)
theorem its_refs : ∀ {ks : List (Mem Key)} {us : List Value}, Vals (ks.map fun m => V.ref m.1) us → us = ks.map fun m => Value.ref m.1
  | [], _, .nil => rfl
  | m :: ks, _, .cons r t => by
    cases r
    rw [its_refs t]
    rfl
theorem its_strs {xs : List Str} {us : List Value} (r : Vals (xs.map V.str) us) (i : Nat) (v : Value) (h : us[i]? = some v) : ∃ x t, xs[i]? = some x ∧ v = Value.str x t := by
  induction xs generalizing us i with
  | nil =>
    cases r
    simp at h
  | cons y ys ih =>
    cases r with
    | cons r t =>
      obtain ⟨tk, rfl⟩ := r
      cases i with
      | zero =>
        simp at h
        exact ⟨y, tk, rfl, h.symm⟩
      | succ i => exact ih t i (by simpa using h)
theorem pe_lenSetD {a : Expr} {ta : TE} {p p2 q pos : Pos} (hc : X.calm = true) (hu : X.A.units + 3 < cLine) (hg : Gl X "len") (hm : X.mg "len" = none) (hg2 : Gl X "set") (hm2 : X.mg "set" = none) (ha : PE X a ta)
    (na : starEach [a] X.env = (false, eval a X.env) :: starEach [] X.env := by rfl) : PE X (.Call (.Name "len" p) [.Call (.Name "set" p2) [a] [] q] [] pos) (tLenSetD X.K ta) := by
  refine ⟨fun pins s σ H Q I h => ?_⟩
  refine Call_ (ld_blt I hg hm boot_len ?_)
  refine PyProof.Rows.callWith_builtin1 (PyProof.Rows.args_cons ?_ rfl) rfl rfl
  refine Call_ (ld_blt I hg2 hm2 boot_set ?_)
  refine PyProof.Rows.callWith_type1 (PyProof.Rows.args_cons (thn (ha.run pins s σ H _ I h) fun v s1 ⟨x, H1, I1, r1, q1⟩ => PyProof.Rows.args_nil ?_) na) na rfl
  obtain ⟨l, rfl, q1⟩ := q1
  cases r1
  have seq : ∀ {vs : List V}, (SqL X.K H1 l vs ∨ SqT X.K H1 l vs) → ∃ its : Array Value, Vals vs its.toList ∧ (s1.heap.IsList l its ∨ s1.heap.IsTuple l its) := fun {vs} hq => by
    rcases hq with hq | hq
    · obtain ⟨its, r, pl, _⟩ := I1.list hq
      exact ⟨its.toArray, by simpa using r, .inl pl.isList⟩
    · obtain ⟨its, r, pl, _⟩ := I1.tuple hq
      exact ⟨its.toArray, by simpa using r, .inr pl⟩
  have fin : ∀ (h' : Heap) (tk : Nat) (o : Obj) (es : Array (Int × Value)) (ep : Nat) (t : SetTable), h'.get? s1.heap.objs.size = some o → o.ExactSet → o.data = .set es ep t → t.fits es.size = true → (es.size : Int) < 2 ^ 63 →
      (∀ b o, s1.heap.get? b = some o → h'.get? b = some o) → Q (.int es.size) H1 →
      wpAny (model X.prog X.w) X.A (spliced (backTo pos (starEach [] X.env))) (fun vs s2 => wpAny (model X.prog X.w) X.A (call (.builtin "len") (Value.ref s1.heap.objs.size :: vs)) (EP X pins σ Q) X.xe s2) X.xe { s1 with heap := h', toks := tk } := fun h' tk o es ep t g1 g2 g3 g4 g5 kp qq => by
    have I2 : Inv X pins σ H1 { s1 with heap := h', toks := tk } := I1.kept fun b o e => kp b o e
    exact PyProof.Rows.args_nil (call_len_set g1 g2 g3 g4 g5 ⟨.int es.size, H1, I2.tok _, ⟨_, rfl⟩, qq⟩)
  rcases q1 with ⟨xs, hq, few, q1⟩ | ⟨ks, hq, hk, few, q1⟩
  · obtain ⟨its, r, hl⟩ := seq hq
    refine make (I1.ok.hd hc) hl (fills_str (xs := xs) (fun i v hv => its_strs r i v (by rw [Array.getElem?_toList]; exact hv)) few)
      (fun h g kp => ⟨kp, fun _ => false, [], ?_, fun k => by simp, List.nodup_nil, fun k => by simp, Nat.le_refl _⟩) fun h' tk ⟨_, Sf, ls, S, _, m2, m3, m4⟩ kp => ?_
    · exact SetOf_congr ((setObjOf_fresh (knd := PySem.strKind X.prog X.w) (!X.w.params.followText "set-order")).setOf g (by unfold scanBound; omega)) (fun _ => rfl) rfl
    · have n : its.size = xs.length := by
        have z := r.length
        rw [List.length_map, Array.length_toList] at z
        exact z.symm
      rw [n, List.take_length] at m3
      obtain ⟨a1, a2⟩ := as_many m2 (fun x hx => (m3 x).mp hx) fun x hx => (m3 x).mpr hx
      obtain ⟨o, es, ep, t, g1, g2, g3, _, _, _, g4, g5⟩ := S
      refine fin h' tk o es ep t g1 g2 g3 g4 (by rw [g5]; omega) kp ?_
      rw [g5]
      exact q1 _ a1 a2
  · obtain ⟨its, r, hl⟩ := seq hq
    have hx : ∀ m ∈ ks, IsTupleKey (mixKind X.prog X.w) s1.heap m.2 m.1 := fun m hm => by
      obtain ⟨us, ru, ⟨o, g1, g2, n, g3⟩, _⟩ := I1.tuple (hk m hm)
      exact ⟨o, _, n, g1, g2, g3, by simpa using its_keys ru⟩
    refine make (I1.ok.hd hc) hl (fills_tup (its_refs r) hx few hu) (fun h g kp => ⟨kp, [], #[], 0, _, fresh_tup g, (fun m hm => nomatch hm), (fun m hm => by simp at hm), Nat.le_refl _⟩) fun h' tk ⟨_, M, es, ep, t, S, m1, m2, m3⟩ kp => ?_
    have n : its.size = ks.length := by
      have z := r.length
      rw [List.length_map, Array.length_toList] at z
      exact z.symm
    rw [n, List.take_length] at m1 m2
    have zz : (M.map (·.2)).length ≤ (ks.map (·.2)).length ∧ ((M.map (·.2)).length = (ks.map (·.2)).length ↔ (ks.map (·.2)).Nodup) := as_many S.uni (fun x hx2 => by
        obtain ⟨m, hm, rfl⟩ := List.mem_map.mp hx2
        exact List.mem_map.mpr ⟨m, m1 m hm, rfl⟩) fun x hx2 => by
        obtain ⟨m, hm, rfl⟩ := List.mem_map.mp hx2
        exact m2 m hm
    rw [List.length_map, List.length_map] at zz
    obtain ⟨o, g1, g2, g3⟩ := S.obj
    have sz := ents_len S.ent
    refine fin h' tk o es ep t g1 g2 g3 (fits_of S.tok sz (by have := S.rom; omega)) (by rw [sz]; have := S.few; omega) kp ?_
    rw [sz]
    exact q1 _ zz.1 zz.2
end
end SG
namespace CC
open PySem L2
/-! ### where pairs lead -/
inductive Rch (ps : List (Nat × Nat)) (a : Nat) : Nat → Prop
  | refl : Rch ps a a
  | step {b c : Nat} : Rch ps a b → (b, c) ∈ ps → Rch ps a c
theorem Rch.trans {ps : List (Nat × Nat)} {a b c : Nat} (h1 : Rch ps a b) (h2 : Rch ps b c) : Rch ps a c := by
  induction h2 with
  | refl => exact h1
  | step _ h ih => exact ih.step h
theorem Rch.mono {ps qs : List (Nat × Nat)} (h : ∀ x ∈ ps, x ∈ qs) {a b : Nat} (r : Rch ps a b) : Rch qs a b := by
  induction r with
  | refl => exact .refl
  | step _ q ih => exact ih.step (h _ q)
theorem Rch.lt {ps : List (Nat × Nat)} {w a b : Nat} (h : ∀ x ∈ ps, x.1 < w ∧ x.2 < w) (ha : a < w) (r : Rch ps a b) : b < w := by
  cases r with
  | refl => exact ha
  | step _ q => exact (h _ q).2
/-- a set that is closed under the pairs holds all that is reached -/
theorem Rch.within {ps : List (Nat × Nat)} {a b : Nat} {S : Nat → Prop} (ha : S a) (hc : ∀ x y, S x → (x, y) ∈ ps → S y) (r : Rch ps a b) : S b := by
  induction r with
  | refl => exact ha
  | step _ q ih => exact hc _ _ ih q
def nms (ns : List Nat) : List V := ns.map fun (n : Nat) => V.int (n : Int)
theorem nms_len (ns : List Nat) : (nms ns).length = ns.length := List.length_map _
theorem nms_app (ns ms : List Nat) : nms (ns ++ ms) = nms ns ++ nms ms := List.map_append
theorem nms_flat (ns : List Nat) : (nms ns).all flatV = true := by
  rw [List.all_eq_true]
  intro v hv
  obtain ⟨n, _, rfl⟩ := List.mem_map.mp hv
  rfl
theorem nms_in (ns : List Nat) (n : Nat) : inV (.int (n : Int)) (nms ns) = decide (n ∈ ns) := by
  induction ns with
  | nil => simp [inV, nms]
  | cons m ns ih =>
    have e : inV (.int (n : Int)) (nms (m :: ns)) = (((m : Int) == (n : Int)) || inV (.int (n : Int)) (nms ns)) := rfl
    rw [e, ih]
    by_cases h : m = n
    · subst h
      simp
    · have h2 : ¬ n = m := fun z => h z.symm
      have h3 : ((m : Int) == (n : Int)) = false := by
        rw [beq_eq_false_iff_ne]
        omega
      rw [h3]
      simp [h2]
theorem few6 {fs : List Nat} (nd : fs.Nodup) (h : ∀ x ∈ fs, x < 6) : fs.length ≤ 6 := by
  have := SG.sub_len (r := List.range 6) nd fun x hx => List.mem_range.mpr (h x hx)
  rw [List.length_range] at this
  exact this
end CC
namespace CC
open PySem L2 TL
abbrev sIsRow : Stmt := tp 9
abbrev sIsNum : Stmt := tp 36
structure GlbT (mg : Str → Option Value) : Prop where
  lv : ∃ t, mg "LARGEST_VALUE" = some (.int 9999 t)
  mr : ∃ t, mg "MOST_ROWS" = some (.int 400 t)
def spIsRow (K : PySem.W.Frag) : Sp := fun vs H Q _ => ∃ (w : Nat) (t : Addr) (row : List Nat), vs = [.int (w : Int), .ref t] ∧ SqT K H t (nms row) ∧ RowOk w row ∧ w ≤ 6 ∧ ∀ H', Same H H' → Q (.bl true) H'
def spIsNum : Sp := fun vs H Q _ => ∃ n : Nat, vs = [.str (num n)] ∧ n ≤ 9999 ∧ Q (.bl true) H
theorem all_true (m : Nat) : (List.replicate m true).all id = true := by
  rw [List.all_eq_true]
  intro b hb
  rw [List.eq_of_mem_replicate hb]
  rfl
theorem nms_get? {ns : List Nat} {i : Nat} {x : V} (h : (nms ns)[i]? = some x) : ∃ m, ns[i]? = some m ∧ x = .int (m : Int) := by
  rw [nms, List.getElem?_map] at h
  cases z : ns[i]? with
  | none =>
    rw [z] at h
    cases h
  | some m =>
    rw [z] at h
    exact ⟨m, rfl, (Option.some.inj h).symm⟩
section
variable {P : Program} {w : World} {K : PySem.W.Frag} {mg : Str → Option Value} {base : Heap} {kA : Addr}
abbrev nIRow : List Str := ["width", "thing", "part"]
theorem scIsRow : FnScope nIRow ["width", "thing"] (defScope sIsRow) := ⟨rfl, rfl, rfl, by decide +kernel, rfl, by decide +kernel, by decide +kernel⟩
theorem ok_isrow {f : Addr} {fd : FuncData} {k : Nat} (F : Fun K "is_row" "is_row" sIsRow f fd) (T : Glb K mg kA) (TT : GlbT mg) (cI : Cal P w K mg base "is_an_integer" ["thing"] spIsInt 1) : FnOk P w K mg base CX0 (k + 2) f fd ["width", "thing"] (spIsRow K) := by
  have GI := cI.ok (k + 1) (by omega)
  refine F.ok scIsRow (fun vs H Q E h => ?_) (fun cdv A outer s H vs Q E hr h => ?_)
  · obtain ⟨w, t, row, rfl, _⟩ := h
    rfl
  · obtain ⟨w, t, row, rfl, ht, ⟨rl, rv⟩, w6, q⟩ := h
    obtain ⟨tl, hlv⟩ := TT.lv
    have n := scIsRow.nd
    refine ⟨_, (pss_cons (ps_if (PW.pt (pw_or (pt_not (pt_val (pe_callB call_isi (by rfl) T.isi (by decide +kernel) (pa_cons (pv 1) (pa_cons (pe_bltn (v := .ty "tuple") (by rfl) T.tup (by decide +kernel) rfl) pa_nil))))) (pw_or1 (pt_cmpR op_ne (pe_callB call_len_seq (by rfl) T.len PySem.boot_len (pa_cons (pv 1) pa_nil)) (pv 0) (nomark _))))) (pss_one (ps_ret pe_bl)) pss_nil)
      (pss_one (ps_ret (pe_callB (cr_all rfl) (by rfl) T.all (by decide +kernel) (pa_cons (pe_lc (own := [("part", 2)]) (g := gName 2) (tt := tYes) rfl n (pi_tup (pv 1)) (blkOk_by (N := nIRow) (sc := defScope sIsRow) (by decide +kernel))
        (fun _ _ _ _ _ => (pg_name (i := 2) n rfl (.inl rfl))) (fun _ _ _ _ _ => pts_nil) (fun _ _ _ _ _ => (pe_and (pe_call GI hr rfl cI.g cI.kp cI.b .nil pass0 (pa_cons (pv 2) pa_nil)) (pe_one (pe_chain op_le op_le pe_int (pv 2) (pe_glob (v := .int 9999) rfl hlv ⟨_, rfl⟩)))))) pa_nil))))), ?_⟩
    refine ⟨_, rfl, _, _, _, _, true, rfl, .ty _, ty_tup ht, kit_ty (by decide +kernel), _, rfl, iteF ?_⟩
    refine ⟨_, rfl, t, _, rfl, .inr ht, _, rfl, rfl, _, rfl, ?_⟩
    have e0 : (!decide (V.int (((nms row).length : Nat) : Int) = V.int (w : Int))) = false := by
      rw [nms_len, rl]
      simp
    rw [e0]
    refine iteF ?_
    refine ⟨_, rfl, t, rfl, ⟨_, ht⟩, fun D nD => ?_⟩
    refine lc_tup (xs := nms row) (fun i H1 => Same H (wo H1 D) ∧ H1 D = some (.lst ((List.replicate i true).map V.bl)) ∧ i ≤ 6) ⟨?_, upd_same, by omega⟩ (fun i H1 _ z => same_t (z.1.trans (wo_le D)) ht) ?_ ?_
    · rw [wo_upd]
      exact fun b o e => by rw [wo_ne (ne_of_none e nD)]; exact e
    · rintro i v H1 hv ⟨e1, e2, e3⟩
      obtain ⟨y, hy, rfl⟩ := nms_get? hv
      have il := (List.getElem?_eq_some_iff.mp hy).1
      have yv := rv y (List.mem_of_getElem? hy)
      have c1 : decide ((0 : Int) ≤ (y : Int)) = true := decide_eq_true (by omega)
      have c2 : decide ((y : Int) ≤ (9999 : Int)) = true := decide_eq_true (by omega)
      refine ⟨rfl, yes_if ⟨_, rfl, _, rfl, _, rfl, iteT ⟨_, rfl, _, _, rfl, rfl, _, rfl, ?_⟩⟩⟩
      rw [c1]
      refine iteT ⟨_, _, rfl, rfl, ?_⟩
      dsimp only
      rw [c2]
      refine ⟨_, e2, small1000 (by simp; omega), ?_, ?_, by omega⟩
      · rw [wo_upd]
        exact e1
      · rw [upd_same, List.replicate_succ', List.map_append]
        rfl
    rintro H1 ⟨e1, e2, _⟩
    refine ⟨D, _, rfl, SqL.of e2, ?_⟩
    rw [all_true]
    exact q H1 (e1.trans (wo_le D))
theorem scIsNum : FnScope ["word"] ["word"] (defScope sIsNum) := ⟨rfl, rfl, rfl, by decide +kernel, rfl, by decide +kernel, by decide +kernel⟩
theorem ok_isnum {f : Addr} {fd : FuncData} {k : Nat} (F : Fun K "is_numeral" "is_numeral" sIsNum f fd) (T : Glb K mg kA) (TT : GlbT mg) : FnOk P w K mg base CX0 (k + 1) f fd ["word"] spIsNum := by
  refine F.ok scIsNum (fun vs H Q E h => ?_) (fun cdv A outer s H vs Q E hr h => ?_)
  · obtain ⟨m, rfl, _⟩ := h
    rfl
  · obtain ⟨m, rfl, hm, q⟩ := h
    obtain ⟨tl, hlv⟩ := TT.lv
    refine ⟨_, (pss_cons (ps_if (PW.pt (pw_or (pt_cmpR op_gt (pe_callB call_len_str (by rfl) T.len PySem.boot_len (pa_cons (pv 0) pa_nil)) (pe_callB call_len_str (by rfl) T.len PySem.boot_len (pa_cons (pe_callTy call_str_int (by rfl) T.str (by decide +kernel) (pa_cons (pe_glob (v := .int 9999) rfl hlv ⟨_, rfl⟩) pa_nil)) pa_nil)) (nomark _))
        (pw_or (pt_not (pt_val (pe_m0 PySem.F.slot_str_isascii PySem.F.type_str_isascii mt_isascii (pv 0)))) (pw_or1 (pt_not (pt_val (pe_m0 PySem.F.slot_str_isdigit PySem.F.type_str_isdigit mt_isdigit (pv 0)))))))) (pss_one (ps_ret pe_bl)) pss_nil)
      (pss_one (ps_ret (pe_cmpR op_eq (pe_callTy call_str_int (by rfl) T.str (by decide +kernel) (pa_cons (pe_callTy call_int_str (by rfl) T.int (by decide +kernel) (pa_cons (pv 0) pa_nil)) pa_nil)) (pv 0) (nomark _))))), ?_⟩
    have ln := num_len hm
    have l4 : (Str.ofString (toString (9999 : Int))).length = 4 := by decide +kernel
    have big : ∀ {a : Nat}, a ≤ 4 → a ≤ sizeLine := fun h => Nat.le_trans h (by decide)
    refine ⟨_, rfl, _, rfl, big ln, _, rfl, (by decide +kernel), _, rfl, big (Nat.le_of_eq l4), _, _, rfl, rfl, _, rfl, ?_⟩
    have g1 : decide ((((num m).length : Nat) : Int) > (((Str.ofString (toString (9999 : Int))).length : Nat) : Int)) = false := decide_eq_false (by rw [l4]; omega)
    rw [g1]
    refine iteF ⟨_, rfl, ⟨_, rfl⟩, _, rfl, rfl, trivial, _, rfl, ?_⟩
    rw [num_ascii]
    refine iteF ⟨_, rfl, ⟨_, rfl⟩, _, rfl, rfl, trivial, _, rfl, ?_⟩
    rw [num_digit]
    refine iteF ?_
    refine ⟨_, rfl, _, _, rfl, num_int hm, Nat.le_trans ln (by decide), _, rfl, small10k hm, _, rfl, rfl, ?_⟩
    show Q (.bl (decide (V.str (num m) = V.str (num m)))) H
    rw [decide_eq_true rfl]
    exact q
end
end CC
namespace CC
open PySem L2 TL
/-- the source at s is one again, all else that stood still stands -/
structure Ran (H H' : Hp) (s : Addr) : Prop where
  same : Same (wo H s) (wo H' s)
  src : ∃ o, H' s = some o ∧ IsSrc o
theorem Ran.one {H : Hp} {s : Addr} {o : HO} (h : IsSrc o) : Ran H (upd H s o) s := ⟨by rw [wo_upd]; exact Same.refl _, o, upd_same, h⟩
theorem Ran.trans {H H1 H2 : Hp} {s : Addr} (a : Ran H H1 s) (b : Ran H1 H2 s) : Ran H H2 s := ⟨a.same.trans b.same, b.src⟩
theorem Ran.grow {H H1 H2 : Hp} {s : Addr} (a : Ran H H1 s) (b : Same H1 H2) : Ran H H2 s := by
  obtain ⟨o, h1, h2⟩ := a.src
  exact ⟨a.same.trans (wo_same b), o, b _ _ h1, h2⟩
theorem Ran.at_ {H H1 : Hp} {s b : Addr} {o : HO} (a : Ran H H1 s) (h : H b = some o) (n : b ≠ s) : H1 b = some o := wo_le s _ _ (a.same b o (by rw [wo_ne n]; exact h))
theorem Ran.free {H H1 : Hp} {s b : Addr} (a : Ran H H1 s) (h : H1 b = none) : H b = none := by
  by_cases e : b = s
  · obtain ⟨o, h1, _⟩ := a.src
    rw [e, h1] at h
    cases h
  · cases z : H b with
    | none => rfl
    | some o =>
      rw [a.at_ z e] at h
      cases h
theorem Ran.ne {H H1 : Hp} {s b : Addr} (a : Ran H H1 s) (h : H1 b = none) : b ≠ s := fun e => by
  obtain ⟨o, h1, _⟩ := a.src
  rw [e, h1] at h
  cases h
def Src (H : Hp) (s : Addr) : Prop := ∃ o, H s = some o ∧ IsSrc o
def spDraw2 : Sp := fun vs H Q _ => ∃ (s : Addr) (m : Nat), vs = [.ref s, .int (m : Int)] ∧ Src H s ∧ 0 < m ∧ m < 1000000 ∧ ∀ (r : Nat) (H' : Hp), r < m → Ran H H' s → Q (.int (r : Int)) H'
def spChoose (K : PySem.W.Frag) : Sp := fun vs H Q _ => ∃ (s : Addr) (v : V), vs = [.ref s, v] ∧ Src H s ∧
  ((∃ (a : Addr) (xs : List V), v = .ref a ∧ SqL K (wo H s) a xs ∧ 0 < xs.length ∧ xs.length < 1000 ∧ ∀ (i : Nat) (x : V) (H' : Hp), xs[i]? = some x → Ran H H' s → Q x H') ∨
  ∃ z : Str, v = .str z ∧ 0 < z.length ∧ z.length < 1000 ∧ ∀ (c : Nat) (H' : Hp), Ran H H' s → Q (.str ⟨#[c]⟩) H')
def spIsEq : Sp := fun vs H Q _ => ∃ b c : Bool, vs = [.bl b, .bl c] ∧ Q (.bl (b == c)) H
def spMixed (K : PySem.W.Frag) : Sp := fun vs H Q _ => ∃ (s : Addr) (m : Nat), vs = [.ref s, .int (m : Int)] ∧ Src H s ∧ m ≤ 900 ∧
  ∀ (p : Addr) (ns : List Nat) (H' : Hp), Ran H H' s → H p = none → p ≠ s → H' p = some (.lst (nms ns)) → ns.length = m → ns.Nodup → (∀ x ∈ ns, x < m) → Q (.ref p) H'
def spStep (K : PySem.W.Frag) : Sp := fun vs H Q _ => ∃ (s : Addr) (a b : Nat) (z : Str), vs = [.ref s, .int (a : Int), .int (b : Int), .str z] ∧ Src H s ∧ 0 < z.length ∧ z.length < 1000 ∧
  ∀ (t : Addr) (r : R) (H' : Hp), (r = ⟨true, a, b⟩ ∨ r = ⟨false, b, a⟩) → Ran H H' s → H t = none → t ≠ s → Dp K (wo H' s) (.ref t) r.d → Q (.ref t) H'
section
variable {X : Cx}
theorem call_repr_bl : CallR X (.builtin "repr") (fun xs H Q => ∃ b, xs = [.bl b] ∧ Q (.str (if b then "True" else "False")) H) := by
  intro pins s σ H xs us Q I r h
  obtain ⟨b, rfl, q⟩ := h
  obtain ⟨u, rfl, rfl⟩ := vals1 r
  exact PySem.P.repr_of_bool ⟨.str _, H, I.tok _, ⟨_, by cases b <;> rfl⟩, q⟩
end
theorem nms_at {ns : List Nat} {i : Nat} {x : V} (h : (nms ns)[i]? = some x) : ∃ m, ns[i]? = some m ∧ x = .int (m : Int) := by
  rw [nms, List.getElem?_map] at h
  cases z : ns[i]? with
  | none =>
    rw [z] at h
    cases h
  | some m =>
    rw [z] at h
    exact ⟨m, rfl, (Option.some.inj h).symm⟩
theorem int_ne (a b : Nat) : (!decide (V.int (a : Int) = V.int (b : Int))) = decide (a ≠ b) := by
  by_cases e : a = b
  · subst e
    simp
  · rw [decide_eq_false (fun z => e (by injection z with z; omega)), decide_eq_true e]
    rfl
end CC
namespace CC
open PySem L2
def spAll (K : PySem.W.Frag) : Sp := fun vs H Q _ => ∃ w : Nat, vs = [.int (w : Int)] ∧ w ≤ 6 ∧ NewF R.d K H (allR w) Q
theorem MadeF.extend {α : Type} {f : α → PyData} {K : PySem.W.Frag} {H0 H H' : Hp} {D : Addr} {n m : Nat} {rs rs2 : List α} {us zs : List V} (p : MadeF f K H0 D n H rs) (hD : H D = some (.lst us)) (q3 : Same H H') (q1 : DpAll K (wo H' D) zs (rs2.map f)) (hm : n + zs.length ≤ m) :
    MadeF f K H0 D m (upd H' D (.lst (us ++ zs))) (rs ++ rs2) := by
  obtain ⟨us', p1, p2, p3, p4⟩ := p
  rw [hD] at p2
  cases p2
  refine ⟨us ++ zs, ?_, upd_same, ?_, ?_⟩
  · rw [wo_upd]
    exact p1.trans (wo_same q3)
  · rw [wo_upd, List.map_append]
    exact dps_app (dps_same (wo_same q3) _ _ p3) q1
  · rw [List.length_append]
    omega
/-! tuples never change -/
structure SameT (H H' : Hp) : Prop where
  tup : ∀ b xs, H b = some (.tup xs) → H' b = some (.tup xs)
  frz : ∀ b o xs, H b = some (.frz o (.tup xs)) → H' b = some (.frz o (.tup xs))
theorem sqt_T {K : PySem.W.Frag} {H H' : Hp} {a : Addr} {xs : List V} (e : SameT H H') (h : SqT K H a xs) : SqT K H' a xs := by
  rcases h with (h | ⟨o, h⟩) | h
  · exact .inl (.inl (e.tup _ _ h))
  · exact .inl (.inr ⟨o, e.frz _ _ _ h⟩)
  · exact .inr h
theorem rd_T {K : PySem.W.Frag} {H H' : Hp} {v : V} {r : R} (e : SameT H H') (h : Dp K H v r.d) : Dp K H' v r.d := by
  obtain ⟨p, rfl, hp⟩ := dp_r h
  exact r_dp (sqt_T e hp)
theorem rds_T {K : PySem.W.Frag} {H H' : Hp} (e : SameT H H') : ∀ {rs : List R} {us : List V}, DpAll K H us (rs.map R.d) → DpAll K H' us (rs.map R.d)
  | [], _, h => by
    cases h
    exact .nil
  | r :: rs, _, h => by
    cases h with
    | cons h1 h2 => exact .cons (rd_T e h1) (rds_T e h2)
theorem prd_T {K : PySem.W.Frag} {H H' : Hp} {v : V} {r : Nat × Nat} (e : SameT H H') (h : Dp K H v (prd r)) : Dp K H' v (prd r) := by
  obtain ⟨p, rfl, hp⟩ := dp_p h
  exact p_dp (sqt_T e hp)
theorem prds_T {K : PySem.W.Frag} {H H' : Hp} (e : SameT H H') : ∀ {rs : List (Nat × Nat)} {us : List V}, DpAll K H us (rs.map prd) → DpAll K H' us (rs.map prd)
  | [], _, h => by
    cases h
    exact .nil
  | r :: rs, _, h => by
    cases h with
    | cons h1 h2 => exact .cons (prd_T e h1) (prds_T e h2)
theorem same_T {H H' : Hp} (e : Same H H') : SameT H H' := ⟨fun b xs h => e _ _ h, fun b o xs h => e _ _ h⟩
theorem SameT.trans {H H1 H2 : Hp} (a : SameT H H1) (b : SameT H1 H2) : SameT H H2 := ⟨fun c xs h => b.tup _ _ (a.tup _ _ h), fun c o xs h => b.frz _ _ _ (a.frz _ _ _ h)⟩
/-- a list that is left out, or changed, is no tuple -/
theorem wo_T {H : Hp} {l : Addr} {us : List V} (h : H l = some (.lst us)) : SameT H (wo H l) := by
  constructor
  · intro b xs e
    rw [wo_ne (ne_of e h (by intro z; cases z))]
    exact e
  · intro b o xs e
    rw [wo_ne (ne_of e h (by intro z; cases z))]
    exact e
theorem upd_T {H : Hp} {l : Addr} {us : List V} {o : HO} (h : H l = some (.lst us)) : SameT H (upd H l o) := by
  constructor
  · intro b xs e
    rw [upd_ne (ne_of e h (by intro z; cases z))]
    exact e
  · intro b o xs e
    rw [upd_ne (ne_of e h (by intro z; cases z))]
    exact e
theorem row_len (w a : Nat) (k : Bool) : (row w a k).length ≤ w := by
  unfold row
  rw [List.length_map]
  have := List.length_filter_le (fun b => decide (a ≠ b)) (List.range w)
  rw [List.length_range] at this
  exact this
end CC
namespace CC
open PySem L2 TL
def gd (m : List Nat) : PyData := .tuple (m.map fun (n : Nat) => PyData.int (n : Int))
theorem dps_nms {K : PySem.W.Frag} {H : Hp} : ∀ fs : List Nat, DpAll K H (nms fs) (fs.map fun (n : Nat) => PyData.int (n : Int))
  | [] => .nil
  | n :: fs => .cons (.int _) (dps_nms fs)
theorem nms_dps {K : PySem.W.Frag} {H : Hp} : ∀ {fs : List Nat} {us : List V}, DpAll K H us (fs.map fun (n : Nat) => PyData.int (n : Int)) → us = nms fs
  | [], _, h => by
    cases h
    rfl
  | n :: fs, _, h => by
    cases h with
    | cons h1 h2 =>
      rw [dp_int h1, nms_dps h2]
      rfl
theorem dp_gd {K : PySem.W.Frag} {H : Hp} {t : Addr} {m : List Nat} (h : SqT K H t (nms m)) : Dp K H (.ref t) (gd m) := .tup h (dps_nms m)
theorem gd_at {K : PySem.W.Frag} {H : Hp} {v : V} {m : List Nat} (h : Dp K H v (gd m)) : ∃ t, v = .ref t ∧ SqT K H t (nms m) := by
  obtain ⟨p, us, rfl, h1, h2⟩ := dp_t h
  rw [nms_dps h2] at h1
  exact ⟨p, rfl, h1⟩
theorem gd_T {K : PySem.W.Frag} {H H' : Hp} {v : V} {m : List Nat} (e : SameT H H') (h : Dp K H v (gd m)) : Dp K H' v (gd m) := by
  obtain ⟨t, rfl, ht⟩ := gd_at h
  exact dp_gd (sqt_T e ht)
theorem gds_T {K : PySem.W.Frag} {H H' : Hp} (e : SameT H H') : ∀ {ms : List (List Nat)} {us : List V}, DpAll K H us (ms.map gd) → DpAll K H' us (ms.map gd)
  | [], _, h => by
    cases h
    exact .nil
  | m :: ms, _, h => by
    cases h with
    | cons h1 h2 => exact .cons (gd_T e h1) (gds_T e h2)
theorem dps_gat {K : PySem.W.Frag} {H : Hp} {gs : List V} {ms : List (List Nat)} {i : Nat} {v : V} (h : DpAll K H gs (ms.map gd)) (e : gs[i]? = some v) : ∃ m, ms[i]? = some m ∧ Dp K H v (gd m) := by
  obtain ⟨d, h1, h2⟩ := dps_at h e
  rw [List.getElem?_map] at h1
  cases q : ms[i]? with
  | none => rw [q] at h1; cases h1
  | some m =>
    rw [q] at h1
    cases h1
    exact ⟨m, rfl, h2⟩
def rTupOf (K : PySem.W.Frag) : List V → Hp → VK → Prop := fun xs H Q => ∃ p ys, xs = [.ref p] ∧ ((SqL K H p ys ∧ ∀ l, H l = none → Q (.ref l) (upd H l (.tup ys))) ∨ (SqT K H p ys ∧ Q (.ref p) H))
end CC
namespace CC
open PySem L2 TL
theorem Ran.T {H H' : Hp} {s : Addr} (r : Ran H H' s) (h : Src H s) : SameT H H' := by
  obtain ⟨o, h1, a, b, c, rfl, _⟩ := h
  constructor
  · intro x xs e
    exact r.at_ e (ne_of e h1 (by intro z; cases z))
  · intro x o xs e
    exact r.at_ e (ne_of e h1 (by intro z; cases z))
theorem cut_from (xs : List V) (n : Nat) : cutV xs (some (n : Int)) none = xs.drop n := by
  unfold cutV
  rw [HT.sIx_nat, HT.sIx_none]
  by_cases h : n ≤ xs.length
  · rw [Nat.min_eq_left h]
    exact List.take_of_length_le (by rw [List.length_drop]; exact Nat.le_refl _)
  · rw [Nat.min_eq_right (by omega), List.drop_eq_nil_of_le (Nat.le_refl _), List.drop_eq_nil_of_le (by omega)]
    simp
theorem cut_to (xs : List V) (n : Nat) : cutV xs none (some (n : Int)) = xs.take n := by
  unfold cutV
  rw [HT.sIx_nat, HT.sIx_none, List.drop_zero, Nat.sub_zero]
  by_cases h : n ≤ xs.length
  · rw [Nat.min_eq_left h]
  · rw [Nat.min_eq_right (by omega), List.take_of_length_le (Nat.le_refl _), List.take_of_length_le (by omega)]
theorem rot_nodup {α : Type} {l : List α} (h : l.Nodup) (n : Nat) : (l.drop n ++ l.take n).Nodup := by
  have p : (l.drop n ++ l.take n).Perm l := by
    have := (List.perm_append_comm : (l.drop n ++ l.take n).Perm (l.take n ++ l.drop n))
    rw [List.take_append_drop] at this
    exact this
  exact p.nodup_iff.mpr h
theorem rot_mem {α : Type} {l : List α} {n : Nat} {x : α} (h : x ∈ l.drop n ++ l.take n) : x ∈ l := by
  rcases List.mem_append.mp h with z | z
  · exact List.mem_of_mem_drop z
  · exact List.mem_of_mem_take z
theorem MadeF.woT {α : Type} {f : α → PyData} {K : PySem.W.Frag} {H0 H : Hp} {D : Addr} {n : Nat} {rs : List α} (p : MadeF f K H0 D n H rs) : SameT H (wo H D) := by
  obtain ⟨us, _, h, _⟩ := p
  exact wo_T h
end CC
namespace CC
/-! ### words in their order: shorter ones first, then by their signs -/
def lx : List Nat → List Nat → Prop
  | [], [] => False
  | [], _ :: _ => True
  | _ :: _, [] => False
  | a :: p, b :: q => a < b ∨ (a = b ∧ lx p q)
theorem lx_irr : ∀ p, ¬ lx p p
  | [], h => h
  | a :: p, h => by
    rcases h with h | ⟨_, h⟩
    · omega
    · exact lx_irr p h
theorem lx_trans : ∀ {p q r : List Nat}, lx p q → lx q r → lx p r
  | [], [], _, h, _ => False.elim h
  | [], _ :: _, [], _, h => False.elim h
  | [], _ :: _, _ :: _, _, _ => trivial
  | _ :: _, [], _, h, _ => False.elim h
  | _ :: _, _ :: _, [], _, h => False.elim h
  | a :: p, b :: q, c :: r, h1, h2 => by
    rcases h1 with h1 | ⟨rfl, h1⟩ <;> rcases h2 with h2 | ⟨rfl, h2⟩
    · exact .inl (by omega)
    · exact .inl h1
    · exact .inl h2
    · exact .inr ⟨rfl, lx_trans h1 h2⟩
theorem lx_tri : ∀ p q : List Nat, lx p q ∨ p = q ∨ lx q p
  | [], [] => .inr (.inl rfl)
  | [], _ :: _ => .inl trivial
  | _ :: _, [] => .inr (.inr trivial)
  | a :: p, b :: q => by
    rcases Nat.lt_trichotomy a b with h | h | h
    · exact .inl (.inl h)
    · subst h
      rcases lx_tri p q with z | z | z
      · exact .inl (.inr ⟨rfl, z⟩)
      · exact .inr (.inl (by rw [z]))
      · exact .inr (.inr (.inr ⟨rfl, z⟩))
    · exact .inr (.inr (.inl h))
theorem lx_app : ∀ {p q : List Nat} (r s : List Nat), p.length = q.length → lx p q → lx (p ++ r) (q ++ s)
  | [], [], _, _, _, h => False.elim h
  | [], _ :: _, _, _, e, _ => by simp at e
  | _ :: _, [], _, _, e, _ => by simp at e
  | a :: p, b :: q, r, s, e, h => by
    rcases h with h | ⟨h1, h⟩
    · exact .inl h
    · exact .inr ⟨h1, lx_app r s (by simpa using e) h⟩
theorem lx_last : ∀ (p : List Nat) {a b : Nat}, a < b → lx (p ++ [a]) (p ++ [b])
  | [], _, _, h => .inl h
  | _ :: p, _, _, h => .inr ⟨rfl, lx_last p h⟩
def SS (p q : List Nat) : Prop := p.length < q.length ∨ (p.length = q.length ∧ lx p q)
theorem SS.irr {p : List Nat} (h : SS p p) : False := by
  rcases h with h | ⟨_, h⟩
  · omega
  · exact lx_irr p h
theorem SS.trans {p q r : List Nat} (h1 : SS p q) (h2 : SS q r) : SS p r := by
  rcases h1 with h1 | ⟨e1, h1⟩ <;> rcases h2 with h2 | ⟨e2, h2⟩
  · exact .inl (by omega)
  · exact .inl (by omega)
  · exact .inl (by omega)
  · exact .inr ⟨by omega, lx_trans h1 h2⟩
theorem SS.tri (p q : List Nat) : SS p q ∨ p = q ∨ SS q p := by
  rcases Nat.lt_trichotomy p.length q.length with h | h | h
  · exact .inl (.inl h)
  · rcases lx_tri p q with z | z | z
    · exact .inl (.inr ⟨h, z⟩)
    · exact .inr (.inl z)
    · exact .inr (.inr (.inr ⟨h.symm, z⟩))
  · exact .inr (.inr (.inl h))
theorem SS.app {p q : List Nat} (x y : Nat) (h : SS p q) : SS (p ++ [x]) (q ++ [y]) := by
  rcases h with h | ⟨e, h⟩
  · exact .inl (by simp; omega)
  · exact .inr ⟨by simp [e], lx_app _ _ e h⟩
theorem SS.last (p : List Nat) {x y : Nat} (h : x < y) : SS (p ++ [x]) (p ++ [y]) := .inr ⟨by simp, lx_last p h⟩
theorem SS.snoc (p : List Nat) (x : Nat) : SS p (p ++ [x]) := .inl (by simp)
/-- a walk -/
inductive Wk (ps : List (Nat × Nat)) (a : Nat) : Nat → List Nat → Prop
  | one : Wk ps a a [a]
  | step {b c : Nat} {w : List Nat} : Wk ps a b w → (b, c) ∈ ps → Wk ps a c (w ++ [c])
theorem Wk.ne {ps : List (Nat × Nat)} {a b : Nat} {w : List Nat} (h : Wk ps a b w) : w ≠ [] := by
  cases h <;> simp
/-- what is found: each column that is reached, with the first of the shortest walks -/
structure FW (ps : List (Nat × Nat)) (st : Nat) (ws : List (Nat × List Nat)) : Prop where
  nd : (ws.map (·.1)).Nodup
  lt : ∀ e ∈ ws, e.1 < 6
  wk : ∀ e ∈ ws, Wk ps st e.1 e.2
  fst : ∀ c q, Wk ps st c q → ∃ v, (c, v) ∈ ws ∧ (v = q ∨ SS v q)
  len : ∀ e ∈ ws, e.2.length ≤ ws.length
/-- between two turns: n columns are through -/
structure BI (ps : List (Nat × Nat)) (st : Nat) (ws : List (Nat × List Nat)) (n : Nat) : Prop where
  nd : (ws.map (·.1)).Nodup
  lt : ∀ e ∈ ws, e.1 < 6
  wk : ∀ e ∈ ws, Wk ps st e.1 e.2
  ord : ∀ (i j : Nat) (e f : Nat × List Nat), i < j → ws[i]? = some e → ws[j]? = some f → SS e.2 f.2
  beg : (st, [st]) ∈ ws
  le : n ≤ ws.length
  len : ∀ (i : Nat) (e : Nat × List Nat), ws[i]? = some e → e.2.length ≤ i + 1
  don : ∀ (i : Nat) (e : Nat × List Nat), i < n → ws[i]? = some e → ∀ b, (e.1, b) ∈ ps → ∃ v, (b, v) ∈ ws ∧ (v = e.2 ++ [b] ∨ SS v (e.2 ++ [b]))
  low : ∀ e ∈ ws, ∀ (j : Nat) (f : Nat × List Nat), n ≤ j → ws[j]? = some f → ∀ x, SS e.2 (f.2 ++ [x])
theorem BI.start {ps : List (Nat × Nat)} {st : Nat} (h : st < 6) : BI ps st [(st, [st])] 0 where
  nd := by simp
  lt := fun e he => by rw [List.mem_singleton.mp he]; exact h
  wk := fun e he => by rw [List.mem_singleton.mp he]; exact .one
  ord := fun i j e f hij h1 h2 => by
    have := (List.getElem?_eq_some_iff.mp h2).1
    simp at this
    omega
  beg := List.mem_singleton.mpr rfl
  le := Nat.zero_le _
  len := fun i e h => by
    have : e ∈ [(st, [st])] := List.mem_of_getElem? h
    rw [List.mem_singleton.mp this]
    simp
  don := fun i e hi => absurd hi (Nat.not_lt_zero _)
  low := fun e he j f _ hf x => by
    have : f ∈ [(st, [st])] := List.mem_of_getElem? hf
    rw [List.mem_singleton.mp he, List.mem_singleton.mp this]
    exact SS.snoc _ _
theorem BI.out {ps : List (Nat × Nat)} {st : Nat} {ws : List (Nat × List Nat)} {n : Nat} (h : BI ps st ws n) (hn : ws.length ≤ n) : FW ps st ws where
  nd := h.nd
  lt := h.lt
  wk := h.wk
  fst := fun c q w => by
    induction w with
    | one => exact ⟨_, h.beg, .inl rfl⟩
    | @step b c w w1 hb ih =>
      obtain ⟨v, hv, e⟩ := ih
      obtain ⟨i, hi⟩ := List.mem_iff_getElem?.mp hv
      have il := (List.getElem?_eq_some_iff.mp hi).1
      obtain ⟨u, hu, e2⟩ := h.don i _ (by omega) hi c hb
      refine ⟨u, hu, ?_⟩
      rcases e with rfl | e
      · exact e2
      · rcases e2 with rfl | e2
        · exact .inr (e.app _ _)
        · exact .inr (e2.trans (e.app _ _))
  len := fun e he => by
    obtain ⟨i, hi⟩ := List.mem_iff_getElem?.mp he
    have := h.len i e hi
    have := (List.getElem?_eq_some_iff.mp hi).1
    omega
/-- within a turn, the column c with the way w: the new ones -/
def nws (w : List Nat) (nb : List Nat) : List (Nat × List Nat) := nb.map fun b => (b, w ++ [b])
structure TI (ps : List (Nat × Nat)) (ws : List (Nat × List Nat)) (c : Nat) (w : List Nat) (bs : List Nat) (i : Nat) (nb : List Nat) : Prop where
  inc : nb.Pairwise (· < ·)
  sub : ∀ b ∈ nb, b ∈ bs.take i
  new : ∀ b ∈ nb, b ∉ ws.map (·.1)
  all : ∀ b ∈ bs.take i, b ∈ ws.map (·.1) ∨ b ∈ nb
theorem TI.start {ps : List (Nat × Nat)} {ws : List (Nat × List Nat)} {c : Nat} {w bs : List Nat} : TI ps ws c w bs 0 [] where
  inc := .nil
  sub := fun _ h => nomatch h
  new := fun _ h => nomatch h
  all := fun _ h => by simp at h
theorem take1 {α : Type} {l : List α} {i : Nat} {x : α} (h : l[i]? = some x) : l.take (i + 1) = l.take i ++ [x] := by
  rw [List.take_succ, h]
  rfl
theorem nws_keys (w nb : List Nat) : (nws w nb).map (·.1) = nb := by
  unfold nws
  rw [List.map_map]
  exact List.map_id' nb
theorem TI.old {ps : List (Nat × Nat)} {ws : List (Nat × List Nat)} {c : Nat} {w bs nb : List Nat} {i b : Nat} (h : TI ps ws c w bs i nb) (hb : bs[i]? = some b) (hm : b ∈ (ws ++ nws w nb).map (·.1)) : TI ps ws c w bs (i + 1) nb where
  inc := h.inc
  sub := fun x hx => by
    rw [take1 hb]
    exact List.mem_append_left _ (h.sub x hx)
  new := h.new
  all := fun x hx => by
    rw [take1 hb] at hx
    rcases List.mem_append.mp hx with z | z
    · exact h.all x z
    · rw [List.mem_singleton.mp z]
      rw [List.map_append, nws_keys] at hm
      exact List.mem_append.mp hm
theorem TI.add {ps : List (Nat × Nat)} {ws : List (Nat × List Nat)} {c : Nat} {w bs nb : List Nat} {i b : Nat} (h : TI ps ws c w bs i nb) (hs : bs.Pairwise (· ≤ ·)) (hb : bs[i]? = some b) (hm : b ∉ (ws ++ nws w nb).map (·.1)) : TI ps ws c w bs (i + 1) (nb ++ [b]) where
  inc := by
    rw [List.pairwise_append]
    refine ⟨h.inc, by simp, fun x hx y hy => ?_⟩
    rw [List.mem_singleton.mp hy]
    have hx2 := h.sub x hx
    obtain ⟨j, hj⟩ := List.mem_iff_getElem?.mp hx2
    have jl := (List.getElem?_eq_some_iff.mp hj).1
    rw [List.length_take] at jl
    have ji : j < i := by omega
    rw [List.getElem?_take_of_lt ji] at hj
    have le : x ≤ b := by
      obtain ⟨l1, e1⟩ := List.getElem?_eq_some_iff.mp hj
      obtain ⟨l2, e2⟩ := List.getElem?_eq_some_iff.mp hb
      have := List.pairwise_iff_getElem.mp hs j i l1 l2 ji
      rw [e1, e2] at this
      exact this
    have ne : x ≠ b := fun e => hm (by rw [List.map_append, nws_keys, ← e]; exact List.mem_append_right _ hx)
    omega
  sub := fun x hx => by
    rw [take1 hb]
    rcases List.mem_append.mp hx with z | z
    · exact List.mem_append_left _ (h.sub x z)
    · exact List.mem_append_right _ z
  new := fun x hx => by
    rcases List.mem_append.mp hx with z | z
    · exact h.new x z
    · rw [List.mem_singleton.mp z]
      intro q
      exact hm (by rw [List.map_append]; exact List.mem_append_left _ q)
  all := fun x hx => by
    rw [take1 hb] at hx
    rcases List.mem_append.mp hx with z | z
    · rcases h.all x z with y | y
      · exact .inl y
      · exact .inr (List.mem_append_left _ y)
    · exact .inr (List.mem_append_right _ z)
theorem nws_mem {w nb : List Nat} {e : Nat × List Nat} : e ∈ nws w nb ↔ e.1 ∈ nb ∧ e.2 = w ++ [e.1] := by
  unfold nws
  rw [List.mem_map]
  constructor
  · rintro ⟨b, hb, rfl⟩
    exact ⟨hb, rfl⟩
  · rintro ⟨h1, h2⟩
    exact ⟨e.1, h1, by rw [← h2]⟩
/-- the turn's end -/
theorem BI.turn {ps : List (Nat × Nat)} {st : Nat} {ws : List (Nat × List Nat)} {n : Nat} (h : BI ps st ws n) {c : Nat} {w bs nb : List Nat} (hc : ws[n]? = some (c, w)) (hbs : ∀ b, b ∈ bs ↔ (c, b) ∈ ps) (hlt : ∀ x ∈ ps, x.1 < 6 ∧ x.2 < 6) (t : TI ps ws c w bs bs.length nb) : BI ps st (ws ++ nws w nb) (n + 1) := by
  have all : ∀ b ∈ bs, b ∈ ws.map (·.1) ∨ b ∈ nb := fun b hb => t.all b (by rw [List.take_length]; exact hb)
  have sub : ∀ b ∈ nb, (c, b) ∈ ps := fun b hb => (hbs b).mp (by have := t.sub b hb; rw [List.take_length] at this; exact this)
  have hw := h.wk _ (List.mem_of_getElem? hc)
  have nl := (List.getElem?_eq_some_iff.mp hc).1
  have at_ : ∀ {j : Nat} {f : Nat × List Nat}, (ws ++ nws w nb)[j]? = some f → (j < ws.length ∧ ws[j]? = some f) ∨ (ws.length ≤ j ∧ (nws w nb)[j - ws.length]? = some f) := fun {j f} hf => by
    by_cases lt : j < ws.length
    · rw [List.getElem?_append_left lt] at hf
      exact .inl ⟨lt, hf⟩
    · rw [List.getElem?_append_right (by omega)] at hf
      exact .inr ⟨by omega, hf⟩
  constructor
  · rw [List.map_append, nws_keys]
    refine List.nodup_append.mpr ⟨h.nd, t.inc.imp (fun h => by omega), fun x hx y hy e => ?_⟩
    subst e
    exact t.new x hy hx
  · intro e he
    rcases List.mem_append.mp he with z | z
    · exact h.lt e z
    · exact (hlt _ (sub _ (nws_mem.mp z).1)).2
  · intro e he
    rcases List.mem_append.mp he with z | z
    · exact h.wk e z
    · obtain ⟨z1, z2⟩ := nws_mem.mp z
      rw [z2]
      exact hw.step (sub _ z1)
  · intro i j e f hij hi hj
    rcases at_ hi with ⟨i1, i2⟩ | ⟨i1, i2⟩ <;> rcases at_ hj with ⟨j1, j2⟩ | ⟨j1, j2⟩
    · exact h.ord i j e f hij i2 j2
    · rw [(nws_mem.mp (List.mem_of_getElem? j2)).2]
      exact h.low e (List.mem_of_getElem? i2) n _ (Nat.le_refl _) hc _
    · omega
    · rw [(nws_mem.mp (List.mem_of_getElem? j2)).2, (nws_mem.mp (List.mem_of_getElem? i2)).2]
      refine SS.last _ ?_
      unfold nws at i2 j2
      rw [List.getElem?_map] at i2 j2
      cases hi3 : nb[i - ws.length]? with
      | none => rw [hi3] at i2; cases i2
      | some x =>
        cases hj3 : nb[j - ws.length]? with
        | none => rw [hj3] at j2; cases j2
        | some y =>
          rw [hi3] at i2
          rw [hj3] at j2
          cases i2
          cases j2
          obtain ⟨l1, e1⟩ := List.getElem?_eq_some_iff.mp hi3
          obtain ⟨l2, e2⟩ := List.getElem?_eq_some_iff.mp hj3
          have := List.pairwise_iff_getElem.mp t.inc _ _ l1 l2 (by omega)
          rw [e1, e2] at this
          exact this
  · exact List.mem_append_left _ h.beg
  · rw [List.length_append]
    omega
  · intro i e hi
    rcases at_ hi with ⟨i1, i2⟩ | ⟨i1, i2⟩
    · exact h.len i e i2
    · rw [(nws_mem.mp (List.mem_of_getElem? i2)).2, List.length_append]
      have := h.len n _ hc
      simp only [List.length_singleton] at this ⊢
      omega
  · intro i e hi he b hb
    rcases at_ he with ⟨i1, i2⟩ | ⟨i1, i2⟩
    · by_cases lt : i < n
      · obtain ⟨v, hv, q⟩ := h.don i e lt i2 b hb
        exact ⟨v, List.mem_append_left _ hv, q⟩
      · have : i = n := by omega
        subst this
        rw [hc] at i2
        cases i2
        rcases all b ((hbs b).mpr hb) with z | z
        · obtain ⟨⟨b', v⟩, hv, rfl⟩ := List.mem_map.mp z
          exact ⟨v, List.mem_append_left _ hv, .inr (h.low _ hv i _ (Nat.le_refl _) hc _)⟩
        · exact ⟨w ++ [b], List.mem_append_right _ (nws_mem.mpr ⟨z, rfl⟩), .inl rfl⟩
    · omega
  · intro e he j f hj hf x
    have old : ∀ e ∈ ws, ∀ b, SS e.2 (w ++ [b]) := fun e he b => h.low e he n _ (Nat.le_refl _) hc b
    rcases List.mem_append.mp he with z | z
    · rcases at_ hf with ⟨j1, j2⟩ | ⟨j1, j2⟩
      · exact h.low e z j f (by omega) j2 x
      · rw [(nws_mem.mp (List.mem_of_getElem? j2)).2]
        exact (old e z _).trans (SS.snoc _ _)
    · rw [(nws_mem.mp z).2]
      rcases at_ hf with ⟨j1, j2⟩ | ⟨j1, j2⟩
      · exact (h.ord n j _ _ (by omega) hc j2).app _ _
      · rw [(nws_mem.mp (List.mem_of_getElem? j2)).2]
        exact .inl (by simp)
end CC
namespace CC
open PySem L2 TL
abbrev sRowsOf : Stmt := tp 37
/-- words of a line, as data -/
def wd (row : List Nat) : PyData := .list ((row.map num).map PyData.str)
theorem dps_strs {K : PySem.W.Frag} {H : Hp} : ∀ {xs : List Str} {us : List V}, DpAll K H us (xs.map PyData.str) → us = xs.map V.str
  | [], _, h => by
    cases h
    rfl
  | x :: xs, _, h => by
    cases h with
    | cons h1 h2 =>
      rw [dp_str h1, dps_strs h2]
      rfl
theorem strs_dps {K : PySem.W.Frag} {H : Hp} : ∀ xs : List Str, DpAll K H (xs.map V.str) (xs.map PyData.str)
  | [] => .nil
  | x :: xs => .cons (.str x) (strs_dps xs)
theorem wd_at {K : PySem.W.Frag} {H : Hp} {v : V} {row : List Nat} (h : Dp K H v (wd row)) : ∃ l, v = .ref l ∧ SqL K H l ((row.map num).map V.str) := by
  obtain ⟨l, us, rfl, h1, h2⟩ := dp_l h
  rw [dps_strs h2] at h1
  exact ⟨l, rfl, h1⟩
theorem dps_wat {K : PySem.W.Frag} {H : Hp} {gs : List V} {ms : List (List Nat)} {i : Nat} {v : V} (h : DpAll K H gs (ms.map wd)) (e : gs[i]? = some v) : ∃ m, ms[i]? = some m ∧ Dp K H v (wd m) := by
  obtain ⟨d, h1, h2⟩ := dps_at h e
  rw [List.getElem?_map] at h1
  cases q : ms[i]? with
  | none => rw [q] at h1; cases h1
  | some m =>
    rw [q] at h1
    cases h1
    exact ⟨m, rfl, h2⟩
theorem word_at {row : List Nat} {i : Nat} {x : V} (h : ((row.map num).map V.str)[i]? = some x) : ∃ m, row[i]? = some m ∧ x = .str (num m) := by
  rw [List.getElem?_map, List.getElem?_map] at h
  cases z : row[i]? with
  | none =>
    rw [z] at h
    cases h
  | some m =>
    rw [z] at h
    exact ⟨m, rfl, (Option.some.inj h).symm⟩
theorem cut_butlast (xs : List V) (x : V) : cutV (xs ++ [x]) none (some (-1)) = xs := by
  unfold cutV
  have e : HT.sIx (xs ++ [x]).length (xs ++ [x]).length (some (-1)) = xs.length := by
    have := HT.clip_eq (-1) (xs ++ [x]).length (xs ++ [x]).length
    rw [if_pos (by decide)] at this
    have hl : (xs ++ [x]).length = xs.length + 1 := by simp
    omega
  rw [HT.sIx_none, e]
  simp
/-- a comprehension with two for's: the outer one over a list -/
theorem two_list {K : PySem.W.Frag} {a : Addr} {xs : List V} {g : TG} {tt : TT} {vs : List Nat} {σ : L2.St} {H1 : Hp} {D : Addr} {Qd : Hp → Prop} {B : L2.St → Hp → (Hp → Prop) → Prop} (Pv : Nat → Hp → Prop) (h0 : Pv 0 (upd H1 D (.lst []))) (hl : ∀ i H, i ≤ xs.length → Pv i H → SqL K H a xs)
    (hs : ∀ i x H, xs[i]? = some x → Pv i H → g x (wipe σ vs) H fun σ2 H2 => wipe σ2 vs = wipe σ vs ∧ tt σ2 H2 fun b H3 => if b = true then B σ2 H3 (Pv (i + 1)) else Pv (i + 1) H3) (hd : ∀ H, Pv xs.length H → Qd H) :
    ∃ W : Nat → Nat → Hp → Prop, (∃ m, W 0 m (upd H1 D (.lst []))) ∧ ∀ i m H, W i m H → ((Itl K a).stop i H ∧ Qd H) ∨ ((Itl K a).go i H ∧ ∃ Nx : Hp → Prop, (∀ H', Nx H' → ∃ m', m' < m ∧ W (i + 1) m' H') ∧ ∀ x H', (Itl K a).yld i H x H' → g x (wipe σ vs) H' fun σ2 H2 => wipe σ2 vs = wipe σ vs ∧ tt σ2 H2 fun b H3 =>
      if b = true then B σ2 H3 Nx else Nx H3) := by
  refine ⟨fun i m H => m = xs.length - i ∧ i ≤ xs.length ∧ Pv i H, ⟨xs.length, by simp, Nat.zero_le _, h0⟩, ?_⟩
  rintro i m H ⟨rfl, hi, p⟩
  have q := hl i H hi p
  by_cases lt : i < xs.length
  · refine .inr ⟨⟨xs, xs[i], q, by simp [lt]⟩, Pv (i + 1), fun H' p' => ⟨xs.length - (i + 1), by omega, rfl, lt, p'⟩, fun x H' y => ?_⟩
    obtain ⟨e, y⟩ := y
    subst e
    exact hs i x _ (y xs q) p
  · have e : i = xs.length := by omega
    subst e
    exact .inl ⟨⟨xs, q, Nat.le_refl _⟩, hd H p⟩
/-- its inner one over a list -/
theorem in_list {K : PySem.W.Frag} {a : Addr} {xs : List V} {H1 : Hp} {Qd : Hp → Prop} {B : V → Hp → (Hp → Prop) → Prop} (Pv : Nat → Hp → Prop) (h0 : Pv 0 H1) (hl : ∀ i H, i ≤ xs.length → Pv i H → SqL K H a xs) (hs : ∀ i x H, xs[i]? = some x → Pv i H → B x H (Pv (i + 1))) (hd : ∀ H, Pv xs.length H → Qd H) :
    ∃ W : Nat → Nat → Hp → Prop, (∃ m, W 0 m H1) ∧ ∀ i m H, W i m H → ((Itl K a).stop i H ∧ Qd H) ∨ ((Itl K a).go i H ∧ ∃ Nx : Hp → Prop, (∀ H', Nx H' → ∃ m', m' < m ∧ W (i + 1) m' H') ∧ ∀ x H', (Itl K a).yld i H x H' → B x H' Nx) := by
  refine ⟨fun i m H => m = xs.length - i ∧ i ≤ xs.length ∧ Pv i H, ⟨xs.length, by simp, Nat.zero_le _, h0⟩, ?_⟩
  rintro i m H ⟨rfl, hi, p⟩
  have q := hl i H hi p
  by_cases lt : i < xs.length
  · refine .inr ⟨⟨xs, xs[i], q, by simp [lt]⟩, Pv (i + 1), fun H' p' => ⟨xs.length - (i + 1), by omega, rfl, lt, p'⟩, fun x H' y => ?_⟩
    obtain ⟨e, y⟩ := y
    subst e
    exact hs i x _ (y xs q) p
  · have e : i = xs.length := by omega
    subst e
    exact .inl ⟨⟨xs, q, Nat.le_refl _⟩, hd H p⟩
def rIntS : List V → Hp → VK → Prop := fun xs H Q => ∃ a n, xs = [.str a] ∧ PySem.intText? a = some n ∧ a.length ≤ 640 ∧ Q (.int n) H
theorem call_intS {X : Cx} : CallR X (.type "int") rIntS := call_int_str
def rLenSq (K : PySem.W.Frag) : List V → Hp → VK → Prop := fun xs H Q => ∃ p ys, xs = [V.ref p] ∧ (SqL K H p ys ∨ SqT K H p ys) ∧ Q (V.int ((ys.length : Nat) : Int)) H
theorem call_lenSq {X : Cx} : CallR X (.builtin "len") (rLenSq X.K) := call_len_seq
def retVal : Stmt → Expr
  | .Return (some v) _ => v
  | _ => .Constant .none 0 ⟨0, 0, 0, 0⟩
def lcScT : Expr → Scope
  | .ListComp _ _ sc _ => sc
  | _ => { kind := .function, names := [], isGenerator := false, isCoroutine := false }
abbrev scRows5 : Scope := lcScT (retVal ((defBody sRowsOf).getD 5 (.Pass ⟨0, 0, 0, 0⟩)))
def spRowsOf (K : PySem.W.Frag) : Sp := fun vs H Q _ => ∃ (w : Nat) (rows : List (List Nat)), vs = [.int (w : Int), .str (textT rows)] ∧ 1 ≤ w ∧ w ≤ 6 ∧ (∀ r ∈ rows, RowOk w r) ∧ rows.length ≤ 400 ∧ NewF gd K H rows Q
section
variable {P : Program} {w : World} {K : PySem.W.Frag} {mg : Str → Option Value} {base : Heap} {kA : Addr}
abbrev nRow : List Str := ["width", "text", "parts", "lines", "part", "words", "word"]
theorem scRowsOf : FnScope nRow ["width", "text"] (defScope sRowsOf) := ⟨rfl, rfl, rfl, by decide +kernel, rfl, by decide +kernel, by decide +kernel⟩
theorem ok_rowsof {f : Addr} {fd : FuncData} {k : Nat} (F : Fun K "rows_of" "rows_of" sRowsOf f fd) (T : Glb K mg kA) (TT : GlbT mg) (cN : Cal P w K mg base "is_numeral" ["word"] spIsNum 1) : FnOk P w K mg base CX0 (k + 2) f fd ["width", "text"] (spRowsOf K) := by
  have GN := cN.ok (k + 1) (by omega)
  refine F.ok scRowsOf (fun vs H Q E h => ?_) (fun cdv A outer s H vs Q E hr h => ?_)
  · obtain ⟨w, rows, rfl, _⟩ := h
    rfl
  · obtain ⟨w, rows, rfl, w1, w6, ok, few, q⟩ := h
    obtain ⟨tm, hmr⟩ := TT.mr
    have n := scRowsOf.nd
    refine ⟨_, (pss_cons (ps_set (i := 2) n rfl (.inl rfl) (pe_split (pv 1) pe_str))
      (pss_cons (ps_setLc (i := 3) (own := [("part", 4)]) (g := gName 4) (tt := tYes) rfl n rfl rfl (sw_true rfl rfl rfl (by decide +kernel)) (pi_list (pe_slice sl_list (pv 2) po_none (po_some (pe_un un_neg pe_int)))) (blkOk_by (N := nRow) (sc := defScope sRowsOf) (by decide +kernel))
        (fun _ _ _ _ _ => (pg_name (i := 4) n rfl (.inl rfl))) (fun _ _ _ _ _ => pts_nil) (fun _ _ _ _ _ => (pe_split (pv 4) pe_str)))
      (pss_cons (ps_if (PW.pt (pw_or (pt_cmpR op_ne (pe_ix ix_list (pv 2) (pe_un un_neg pe_int) (fun _ _ => rfl)) pe_str (nomark _)) (pw_or1 (pt_cmpR op_gt (pe_callB call_len_seq (by rfl) T.len PySem.boot_len (pa_cons (pv 3) pa_nil)) (pe_glob (v := .int 400) rfl hmr ⟨_, rfl⟩) (nomark _))))) (pss_one (ps_ret pe_non)) pss_nil)
      (pss_cons (ps_if (pt_not (pt_val (pe_callB (cr_all rfl) (by rfl) T.all (by decide +kernel) (pa_cons (pe_lc (own := [("words", 5)]) (g := gName 5) (tt := tYes) (te := tOp rEq (tCB (rLenSq K) (tCons (tVar 5) tNil)) (tVar 0)) rfl n (pi_list (pv 3)) (blkOk_by (N := nRow) (sc := defScope sRowsOf) (by decide +kernel))
        (fun _ _ _ _ _ => (pg_name (i := 5) n rfl (.inl rfl))) (fun _ _ _ _ _ => pts_nil) (fun _ _ _ _ _ => (pe_cmpR op_eq (pe_callB call_lenSq (by rfl) T.len PySem.boot_len (pa_cons (pv 5) pa_nil)) (pv 0) (nomark _)))) pa_nil)))) (pss_one (ps_ret pe_non)) pss_nil)
      (pss_cons (ps_if (pt_not (pt_val (pe_callB (cr_all rfl) (by rfl) T.all (by decide +kernel) (pa_cons (pe_lc2 (own := [("words", 5), ("word", 6)]) (vs1 := [6]) (g := gName 5) (g1 := gName 6) (tt := tYes) (tt1 := tYes) (wi1 := iList K (tVar 5)) (te := tCall spIsNum [] E0 (tCons (tVar 6) tNil)) rfl n (pi_list (pv 3)) (blkOk_by (N := nRow) (sc := defScope sRowsOf) (by decide +kernel)) (by decide)
        (fun _ _ _ _ _ => (pg_name (i := 5) n rfl (.inl rfl))) (fun _ _ _ _ _ => pts_nil) (fun _ _ _ _ _ => (pi_list (pv 5))) (fun _ _ _ _ _ => (pg_name (i := 6) n rfl (.inl rfl))) (fun _ _ _ _ _ => pts_nil) (fun _ _ _ _ _ => (pe_call GN hr rfl cN.g cN.kp cN.b .nil pass0 (pa_cons (pv 6) pa_nil)))) pa_nil)))) (pss_one (ps_ret pe_non)) pss_nil)
      (pss_one (ps_ret (pe_lc (own := [("words", 5)]) (g := gName 5) (tt := tYes) (te := tCB (rTupOf K) (tCons (tLc (iList K (tVar 5)) (gName 6) tYes (tCB rIntS (tCons (tVar 6) tNil)) [6]) tNil)) rfl n (pi_list (pv 3)) (blkOk_by (N := nRow) (sc := defScope sRowsOf) (by decide +kernel))
        (fun _ _ _ _ _ => (pg_name (i := 5) n rfl (.inl rfl))) (fun _ _ _ _ _ => pts_nil) (fun _ _ _ _ _ => (pe_callTy call_tuple_of (by rfl) T.tup (by decide +kernel) (pa_cons (pe_lc (own := [("word", 6)]) (g := gName 6) (tt := tYes) rfl n (pi_list (pv 5)) (blkOk_by (N := nRow) (sc := relS scRows5 (defScope sRowsOf)) (by decide +kernel))
        (fun _ _ _ _ _ => (pg_name (i := 6) n rfl (.inl rfl))) (fun _ _ _ _ _ => pts_nil) (fun _ _ _ _ _ => (pe_callTy call_intS (by rfl) T.int (by decide +kernel) (pa_cons (pv 6) pa_nil)))) pa_nil))))))))))), ?_⟩
    have tlen := textT_len ok w6
    have rne : ∀ r ∈ rows, r ≠ [] := fun r hr e => by
      have := (ok r hr).1
      rw [e] at this
      simp at this
      omega
    refine ⟨_, rfl, ⟨_, rfl⟩, _, _, rfl, rfl, by decide +kernel, Nat.le_trans (show (textT rows).length + 2 ≤ 100000 by omega) (by decide), fun p3 n3 => ?_⟩
    rw [split_textT, List.map_append]
    have m3 : Same H (upd H p3 (.lst ((rows.map rowS).map V.str ++ [Str.empty].map V.str))) := same_new n3
    have h3 : (upd H p3 (.lst ((rows.map rowS).map V.str ++ [Str.empty].map V.str))) p3 = some (.lst ((rows.map rowS).map V.str ++ [V.str Str.empty])) := upd_same
    generalize upd H p3 (.lst ((rows.map rowS).map V.str ++ [Str.empty].map V.str)) = H3 at m3 h3
    -- lines
    refine ⟨_, rfl, _, rfl, _, rfl, p3, _, rfl, SqL.of h3, fun p4 n4 => ?_⟩
    rw [cut_butlast]
    have m4 : Same H3 (upd H3 p4 (.lst ((rows.map rowS).map V.str))) := same_new n4
    have h4 : (upd H3 p4 (.lst ((rows.map rowS).map V.str))) p4 = some (.lst ((rows.map rowS).map V.str)) := upd_same
    generalize upd H3 p4 (.lst ((rows.map rowS).map V.str)) = H4 at m4 h4
    refine ⟨p4, rfl, ⟨_, SqL.of h4⟩, fun D nD => ?_⟩
    refine lc_list (xs := (rows.map rowS).map V.str) (fun i H5 => MadeF wd K H4 D i H5 (rows.take i)) MadeF.start (fun i H5 _ z => SqL.of (z.old nD _ _ h4)) ?_ ?_
    · intro i v H5 hv p5
      obtain ⟨r, hr2, rfl⟩ : ∃ r, rows[i]? = some r ∧ v = .str (rowS r) := by
        rw [List.getElem?_map, List.getElem?_map] at hv
        cases z : rows[i]? with
        | none => rw [z] at hv; cases hv
        | some r => rw [z] at hv; exact ⟨r, rfl, (Option.some.inj hv).symm⟩
      have rm := List.mem_of_getElem? hr2
      have il := (List.getElem?_eq_some_iff.mp hr2).1
      have rl := rowS_len (ok r rm) w6
      refine ⟨rfl, yes_if ⟨_, rfl, ⟨_, rfl⟩, _, _, rfl, rfl, by decide +kernel, Nat.le_trans (show (rowS r).length + 2 ≤ 100000 by omega) (by decide), fun l nl => ?_⟩⟩
      rw [split_row (rne r rm), take1 hr2]
      obtain ⟨us5, _, hD5, _⟩ := id p5
      have lD : l ≠ D := (ne_of_none hD5 nl).symm
      exact p5.push (r := r) (by omega) (Nat.lt_succ_self _) (same_new nl) (.lst (.inl (.inl (by rw [wo_ne lD]; exact upd_same))) (strs_dps _))
    intro H5 p5
    rw [List.length_map, List.length_map, List.take_length] at p5
    have o5 := p5.old nD
    obtain ⟨ul, _, hD5, dl0, _⟩ := id p5
    have dl : DpAll K H5 ul (rows.map wd) := dps_same (wo_le D) _ _ dl0
    have ull : ul.length = rows.length := by rw [dps_len dl, List.length_map]
    have s05 : Same H H5 := m3.trans (m4.trans o5)
    have nD0 : H D = none := (m3.trans m4).free nD
    clear p5 dl0
    -- if parts[-1] != "" or len(lines) > 400
    refine ⟨_, rfl, _, rfl, p3, _, -1, _, rfl, rfl, SqL.of (o5 _ _ (m4 _ _ h3)), atI_last _ _, rfl, _, rfl, ?_⟩
    rw [show (!decide (V.str Str.empty = V.str (Str.ofString ""))) = false by decide +kernel]
    refine iteF ⟨_, rfl, D, _, rfl, .inl (SqL.of hD5), _, _, rfl, rfl, _, rfl, ?_⟩
    rw [show decide (((ul.length : Nat) : Int) > (400 : Int)) = false from decide_eq_false (by omega)]
    refine iteF ?_
    -- len(words) == width
    refine ⟨_, rfl, D, rfl, ⟨_, SqL.of hD5⟩, fun D2 nD2 => ?_⟩
    refine lc_list (xs := ul) (fun i H6 => Same H5 (wo H6 D2) ∧ H6 D2 = some (.lst ((List.replicate i true).map V.bl)) ∧ i ≤ 400) ⟨?_, upd_same, by omega⟩ (fun i H6 _ z => SqL.of (wo_le D2 _ _ (z.1 _ _ hD5))) ?_ ?_
    · rw [wo_upd]
      exact fun b o e => by rw [wo_ne (ne_of_none e nD2)]; exact e
    · rintro i v H6 hv ⟨e1, e2, e3⟩
      obtain ⟨r, hr2, dr⟩ := dps_wat dl hv
      have il := (List.getElem?_eq_some_iff.mp hr2).1
      obtain ⟨l, rfl, hl⟩ := wd_at (dp_same (e1.trans (wo_le D2)) _ _ dr)
      refine ⟨rfl, yes_if ⟨_, rfl, l, _, rfl, .inl hl, _, rfl, rfl, ?_⟩⟩
      have ew : decide (V.int (((((r.map num).map V.str).length : Nat)) : Int) = V.int (w : Int)) = true := decide_eq_true (by rw [List.length_map, List.length_map, (ok r (List.mem_of_getElem? hr2)).1])
      rw [ew]
      refine ⟨_, e2, small1000 (by simp; omega), ?_, ?_, by omega⟩
      · rw [wo_upd]
        exact e1
      · rw [upd_same, List.replicate_succ', List.map_append]
        rfl
    rintro H6 ⟨e1, e2, _⟩
    refine ⟨D2, _, rfl, SqL.of e2, _, rfl, ?_⟩
    rw [all_true]
    refine iteF ?_
    have s56 : Same H5 H6 := e1.trans (wo_le D2)
    clear e1 e2
    -- is_numeral(word)
    refine ⟨_, rfl, D, rfl, ⟨_, SqL.of (s56 _ _ hD5)⟩, fun D3 nD3 => ?_⟩
    refine two_list (xs := ul) (fun i H7 => Same H6 (wo H7 D3) ∧ (∃ m, H7 D3 = some (.lst ((List.replicate m true).map V.bl)) ∧ m ≤ 6 * i) ∧ i ≤ 400) ⟨?_, ⟨0, upd_same, by omega⟩, by omega⟩ (fun i H7 _ z => SqL.of (wo_le D3 _ _ (z.1 _ _ (s56 _ _ hD5)))) ?_ ?_
    · rw [wo_upd]
      exact fun b o e => by rw [wo_ne (ne_of_none e nD3)]; exact e
    · rintro i v H7 hv ⟨e1, ⟨m, e2, e3⟩, e4⟩
      obtain ⟨r, hr2, dr⟩ := dps_wat dl hv
      have il := (List.getElem?_eq_some_iff.mp hr2).1
      have rok := ok r (List.mem_of_getElem? hr2)
      obtain ⟨l, rfl, hl5⟩ := wd_at dr
      have wl : ((r.map num).map V.str).length = w := by rw [List.length_map, List.length_map, rok.1]
      refine ⟨rfl, yes_if ⟨_, rfl, l, rfl, ⟨_, same_l (s56.trans (e1.trans (wo_le D3))) hl5⟩, ?_⟩⟩
      refine in_list (xs := (r.map num).map V.str) (fun j H8 => Same H6 (wo H8 D3) ∧ (∃ m, H8 D3 = some (.lst ((List.replicate m true).map V.bl)) ∧ m ≤ 6 * i + j) ∧ j ≤ 6) ⟨e1, ⟨m, e2, by omega⟩, by omega⟩ (fun j H8 _ z => same_l (s56.trans (z.1.trans (wo_le D3))) hl5) ?_ ?_
      · rintro j y H8 hy ⟨f1, ⟨m', f2, f3⟩, f4⟩
        obtain ⟨c, hc, rfl⟩ := word_at hy
        have jl := (List.getElem?_eq_some_iff.mp hc).1
        have r1 := rok.1
        refine ⟨rfl, yes_if ⟨_, rfl, c, rfl, rok.2 c (List.mem_of_getElem? hc), _, f2, Nat.lt_of_lt_of_le (show _ < 10000 by rw [List.length_map, List.length_replicate]; omega) (by decide), ?_, ⟨m' + 1, ?_, by omega⟩, by omega⟩⟩
        · rw [wo_upd]
          exact f1
        · rw [upd_same, List.replicate_succ', List.map_append]
          rfl
      · rintro H8 ⟨f1, ⟨m', f2, f3⟩, _⟩
        rw [wl] at f3
        exact ⟨f1, ⟨m', f2, by omega⟩, by omega⟩
    rintro H7 ⟨e1, ⟨m, e2, e3⟩, _⟩
    refine ⟨D3, _, rfl, SqL.of e2, _, rfl, ?_⟩
    rw [all_true]
    refine iteF ?_
    have s57 : Same H5 H7 := s56.trans (e1.trans (wo_le D3))
    clear e1 e2
    -- the rows
    refine ⟨_, rfl, D, rfl, ⟨_, SqL.of (s57 _ _ hD5)⟩, fun D4 nD4 => ?_⟩
    refine lc_list (xs := ul) (fun i H8 => MadeF gd K H7 D4 i H8 (rows.take i)) MadeF.start (fun i H8 _ z => SqL.of (z.old nD4 _ _ (s57 _ _ hD5))) ?_ ?_
    · intro i v H8 hv p8
      obtain ⟨r, hr2, dr⟩ := dps_wat dl hv
      have il := (List.getElem?_eq_some_iff.mp hr2).1
      have rok := ok r (List.mem_of_getElem? hr2)
      obtain ⟨l, rfl, hl5⟩ := wd_at dr
      have o8 := p8.old nD4
      have wl : ((r.map num).map V.str).length = r.length := by rw [List.length_map, List.length_map]
      refine ⟨rfl, yes_if ⟨_, rfl, l, rfl, ⟨_, same_l (s57.trans o8) hl5⟩, fun D5 nD5 => ?_⟩⟩
      refine lc_list (xs := (r.map num).map V.str) (fun j H9 => Same H8 (wo H9 D5) ∧ H9 D5 = some (.lst (nms (r.take j)))) ⟨?_, upd_same⟩ (fun j H9 _ z => same_l (s57.trans (o8.trans (z.1.trans (wo_le D5)))) hl5) ?_ ?_
      · rw [wo_upd]
        exact fun b o e => by rw [wo_ne (ne_of_none e nD5)]; exact e
      · rintro j y H9 hy ⟨f1, f2⟩
        obtain ⟨c, hc, rfl⟩ := word_at hy
        have jl := (List.getElem?_eq_some_iff.mp hc).1
        have cv := rok.2 c (List.mem_of_getElem? hc)
        have r1 := rok.1
        refine ⟨rfl, yes_if ⟨_, rfl, _, _, rfl, num_int cv, Nat.le_trans (num_len cv) (by decide), _, f2, small1000 (by rw [nms_len, List.length_take]; omega), ?_, ?_⟩⟩
        · rw [wo_upd]
          exact f1
        · rw [upd_same, take1 hc, nms_app]
          rfl
      rintro H9 ⟨f1, f2⟩
      rw [wl, List.take_length] at f2
      have s89 : Same H8 H9 := f1.trans (wo_le D5)
      refine ⟨D5, _, rfl, .inl ⟨SqL.of f2, fun t nt => ?_⟩⟩
      obtain ⟨us8, _, hD8, _⟩ := id p8
      have tD : t ≠ D4 := (ne_of_none (s89 _ _ hD8) nt).symm
      rw [take1 hr2]
      exact p8.push (r := r) (by omega) (Nat.lt_succ_self _) (s89.trans (same_new nt)) (dp_gd (.inl (.inl (by rw [wo_ne tD]; exact upd_same))))
    intro H8 p8
    rw [ull, List.take_length] at p8
    exact p8.out nD4 (s05.trans s57) q
end
end CC
namespace CC
open PySem L2 TL
section
variable {X : Cx} {CX : CXT} {k i : Nat} {f C : Addr} {sp : Sp} {E : XK} {x : Str} {e : Expr} {es : List Expr} {t : TA} {p pos : Pos}
/-- c(e, *y), c a local that holds the class at C -/
theorem pe_makeLS (M : Mk X.K C f) (F : FnR X.prog X.w X.K X.mg X.base CX k f sp) (hr : Room (k + 1) X.A) (hN : X.N[i]? = some x) (hv : Vis X.env.scope x) (hx : Passes CX X E) (ha : PA X (e :: es) t) (hdb : (x == ("__debug__" : Str)) = false := by decide)
    (hcd : (x == ("__classdict__" : Str)) = false := by decide) (he : starEach (e :: es) X.env = (false, eval e X.env) :: starEach es X.env := by rfl) (hst : (backTo pos (starEach es X.env)).any (·.1) = true := by rfl) :
    PE X (.Call (.Name x p) (e :: es) [] pos) (fun σ H Q => σ[i]? = some (some (.ref C)) ∧ StX.tMakeR C sp E t σ H Q) := by
  refine ⟨fun pins s σ H Q I ⟨h1, h2⟩ => ?_⟩
  refine wpAny_Call_Name_kw (thn ((pe_var (pos := p) hN hv hdb hcd).run pins s σ H (fun v H1 => v = .ref C ∧ H1 = H) I ⟨.ref C, h1, rfl, rfl⟩) fun u s1 ⟨v, H1, I1, r1, q1⟩ => ?_)
  obtain ⟨rfl, rfl⟩ := q1
  cases r1
  refine PySem.W.callWith_S2 (h₀ := X.base) I.ok.mod.kin M.kp (thn (ha.run pos pins s1 σ _ _ I1 h2) fun us s2 ⟨vs, H2, I2, r, q⟩ => ⟨I2.kIn, ?_⟩) he hst
  exact StX.run_makeR M F hr hx I2 r q
end
theorem from_le {p : Nat → Prop} {l : Nat} (h : ∀ k, p (k + l)) : ∀ k, l ≤ k → p k := fun k hk => by
  have := h (k - l)
  rwa [Nat.sub_add_cancel hk] at this
end CC
namespace CC
open PySem L2 TL
abbrev sTInit : Stmt := inClass (tp 40) 0
abbrev sTRead : Stmt := inClass (tp 40) 12
def flT0 (w : Nat) : List (Str × V) := putF "span" (.int (w : Int)) []
def fldT (w : Nat) (g : Addr) : List (Str × V) := putF "lines" (.ref g) (flT0 w)
theorem slN : ¬ (("span" : Str) = "lines") := by decide +kernel
theorem fldT_span (w : Nat) (g : Addr) : (fldT w g).lookup ("span" : Str) = some (.int (w : Int)) := by
  unfold fldT flT0
  rw [lookup_putF, if_neg slN, lookup_putF, if_pos rfl]
theorem fldT_lines (w : Nat) (g : Addr) : (fldT w g).lookup ("lines" : Str) = some (.ref g) := by
  unfold fldT
  rw [lookup_putF, if_pos rfl]
/-- a table stands at x -/
def TableAt (K : PySem.W.Frag) (C : Addr) (H : Hp) (x : Addr) (w : Nat) (rows : List (List Nat)) : Prop := ∃ dx g us, H x = some (.ins C dx (fldT w g)) ∧ H g = some (.tup us) ∧ DpAll K H us (rows.map gd)
theorem TableAt.same {K : PySem.W.Frag} {C : Addr} {H H' : Hp} {x : Addr} {w : Nat} {rows : List (List Nat)} (h : TableAt K C H x w rows) (e : Same H H') : TableAt K C H' x w rows := by
  obtain ⟨dx, g, us, h1, h2, h3⟩ := h
  exact ⟨dx, g, us, e _ _ h1, e _ _ h2, dps_same e _ _ h3⟩
structure TxtT (K : PySem.W.Frag) (mg : Str → Option Value) (C : Addr) : Prop where
  cl : Cls K C
  nS : NoAttr K C "span"
  nL : NoAttr K C "lines"
  mgC : mg "Table" = some (.ref C)
def spTInit (K : PySem.W.Frag) (C : Addr) : Sp := fun vs H Q _ => ∃ (x dx : Addr) (w : Nat) (p : Addr) (us : List V) (rows : List (List Nat)), vs = [.ref x, .int (w : Int), .ref p] ∧ H x = some (.ins C dx []) ∧ 1 ≤ w ∧ w ≤ 6 ∧ H p = some (.tup us) ∧ DpAll K (wo H x) us (rows.map gd) ∧
  (∀ r ∈ rows, RowOk w r) ∧ rows.length ≤ 400 ∧ ∀ H', (∀ b o, H b = some o → b ≠ x → H' b = some o) → H' x = some (.ins C dx (fldT w p)) → Q .non H'
def spTInitR (K : PySem.W.Frag) (C : Addr) : Sp := fun vs H Q E => ∃ ws rest, vs = ws ++ rest ∧ ws.length = 2 ∧ rest.length ≤ sizeLine ∧ ∀ p, H p = Option.none → spTInit K C (ws ++ [V.ref p]) (upd H p (.tup rest)) Q E
def spTRead (K : PySem.W.Frag) (C : Addr) : Sp := fun vs H Q _ => ∃ (w : Nat) (rows : List (List Nat)), vs = [.ref C, .int (w : Int), .str (textT rows)] ∧ 1 ≤ w ∧ w ≤ 6 ∧ (∀ r ∈ rows, RowOk w r) ∧ rows.length ≤ 400 ∧ ∀ (x : Addr) (H' : Hp), Same H H' → H x = none → TableAt K C H' x w rows → Q (.ref x) H'
structure MakeT (P : Program) (w : World) (K : PySem.W.Frag) (mg : Str → Option Value) (base : Heap) (C : Addr) (l : Nat) where
  fN : Addr
  M : Mk K C fN
  ok : ∀ k, l ≤ k → FnR P w K mg base CX0 k fN (spTInitR K C)
structure ReadT (P : Program) (w : World) (K : PySem.W.Frag) (mg : Str → Option Value) (base : Heap) (C : Addr) (l : Nat) where
  mc : Value
  pD : Addr
  fD : Addr
  rD : ClX.CRead K C mc
  cD : ClX.CMet K C mc "read" pD fD
  ok : ∀ k, l ≤ k → FnR P w K mg base CX0 k fD (spTRead K C)
section
variable {P : Program} {w : World} {K : PySem.W.Frag} {mg : Str → Option Value} {base : Heap} {kA : Addr}
abbrev nTI : List Str := ["self", "width", "rows", "row"]
theorem scTInit : FnScope nTI ((["self", "width"] : List Str) ++ ([("rows" : Str)] : List Str)) (defScope sTInit) := ⟨rfl, rfl, rfl, by decide +kernel, rfl, by decide +kernel, by decide +kernel⟩
theorem ok_tinit {f C : Addr} {fd : FuncData} {k : Nat} (F : Fun K "__init__" "Table.__init__" sTInit f fd) (T : Glb K mg kA) (TT : GlbT mg) (TC : TxtT K mg C) (cW : Cal P w K mg base "is_width" ["thing"] spIsWidth 2) (cR : Cal P w K mg base "is_row" ["width", "thing"] (spIsRow K) 2) :
    FnR P w K mg base CX0 (k + 3) f (spTInitR K C) := by
  have GW := cW.ok (k + 2) (by omega)
  have GR := cR.ok (k + 2) (by omega)
  obtain ⟨oc, od, kV, doc, pm, an, cdv, ct, osl, rfl, lk, hcd⟩ := F.ex
  refine StX.fn_star (ps := ["self", "width"]) (pv := "rows") lk hcd scTInit StX.cxUp_none (fun us rest hl => ?_) (fun A outer s H vs Q E hr h => ?_)
  · match us, hl with
    | [a, b], _ =>
      cases rest with
      | nil => rfl
      | cons c r => rfl
  · obtain ⟨x, dx, w, p, us, rows, rfl, hx, w1, w6, hp, dp, ok, few, q⟩ := h
    obtain ⟨tm, hmr⟩ := TT.mr
    have n := scTInit.nd
    refine ⟨_, PSs.nox (pss_cons (ps_if (pt_not (pt_val (pe_call GW hr rfl cW.g cW.kp cW.b .nil pass0 (pa_cons (pv 1) pa_nil)))) (pss_one ps_never) pss_nil)
      (pss_cons (ps_if (pt_cmpR op_gt (pe_callB call_len_seq (by rfl) T.len PySem.boot_len (pa_cons (pv 2) pa_nil)) (pe_glob (v := .int 400) rfl hmr ⟨_, rfl⟩) (nomark _)) (pss_one ps_never) pss_nil)
      (pss_cons (ps_if (pt_not (pt_val (pe_callB (cr_all rfl) (by rfl) T.all (by decide +kernel) (pa_cons (pe_lc (own := [("row", 3)]) (g := gName 3) (tt := tYes) (te := tCall (spIsRow K) [] E0 (tCons (tVar 1) (tCons (tVar 3) tNil))) rfl n (pi_tup (pv 2)) (blkOk_by (N := nTI) (sc := defScope sTInit) (by decide +kernel))
        (fun _ _ _ _ _ => (pg_name (i := 3) n rfl (.inl rfl))) (fun _ _ _ _ _ => pts_nil) (fun _ _ _ _ _ => (pe_call GR hr rfl cR.g cR.kp cR.b .nil pass0 (pa_cons (pv 1) (pa_cons (pv 3) pa_nil))))) pa_nil)))) (pss_one ps_never) pss_nil)
      (pss_cons (ps_fld (pv 0) (pv 1) rfl) (pss_one (ps_fld (pv 0) (pv 2) rfl)))))), ?_⟩
    have ul : us.length = rows.length := by rw [dps_len dp, List.length_map]
    refine ⟨_, rfl, w, rfl, w1, w6, _, rfl, iteF ?_⟩
    refine ⟨_, rfl, p, us, rfl, .inr (.inl (.inl hp)), _, _, rfl, rfl, _, rfl, ?_⟩
    rw [show decide (((us.length : Nat) : Int) > (400 : Int)) = false from decide_eq_false (by omega)]
    refine iteF ?_
    refine ⟨_, rfl, p, rfl, ⟨_, .inl (.inl hp)⟩, fun D nD => ?_⟩
    refine lc_tup (xs := us) (fun i H1 => Same H (wo H1 D) ∧ H1 D = some (.lst ((List.replicate i true).map V.bl)) ∧ i ≤ 400) ⟨?_, upd_same, by omega⟩ (fun i H1 _ z => .inl (.inl (wo_le D _ _ (z.1 _ _ hp)))) ?_ ?_
    · rw [wo_upd]
      exact fun b o e => by rw [wo_ne (ne_of_none e nD)]; exact e
    · rintro i v H1 hv ⟨e1, e2, e3⟩
      obtain ⟨r, hr2, dr⟩ := dps_gat dp hv
      have il := (List.getElem?_eq_some_iff.mp hr2).1
      obtain ⟨t, rfl, ht⟩ := gd_at dr
      have sx : Same (wo H x) H1 := (wo_le x).trans (e1.trans (wo_le D))
      refine ⟨rfl, yes_if ⟨_, rfl, _, rfl, w, t, r, rfl, same_t sx ht, ok r (List.mem_of_getElem? hr2), w6, fun H2 s2 => ?_⟩⟩
      refine ⟨_, s2 _ _ e2, small1000 (by simp; omega), ?_, ?_, by omega⟩
      · rw [wo_upd]
        exact e1.trans (wo_same s2)
      · rw [upd_same, List.replicate_succ', List.map_append]
        rfl
    rintro H1 ⟨e1, e2, _⟩
    refine ⟨D, _, rfl, SqL.of e2, _, rfl, ?_⟩
    rw [all_true]
    refine iteF ?_
    have m1 : Same H H1 := e1.trans (wo_le D)
    have hx1 := m1 _ _ hx
    refine ⟨_, rfl, _, rfl, x, C, dx, _, rfl, hx1, TC.cl, TC.nS, (by show 0 < 1000; decide), ?_⟩
    refine ⟨_, rfl, _, rfl, x, C, dx, _, rfl, upd_same, TC.cl, TC.nL, (by show 1 < 1000; decide), ?_⟩
    refine q _ (fun b o e hb => ?_) upd_same
    rw [upd_ne hb, upd_ne hb]
    exact m1 _ _ e
abbrev nTR : List Str := ["cls", "width", "text", "found"]
theorem scTRead : FnScope nTR ["cls", "width", "text"] (defScope sTRead) := ⟨rfl, rfl, rfl, by decide +kernel, rfl, by decide +kernel, by decide +kernel⟩
theorem ok_tread {f C : Addr} {fd : FuncData} {k : Nat} (F : Fun K "read" "Table.read" sTRead f fd) (T : Glb K mg kA) (m : MakeT P w K mg base C 3) (cW : Cal P w K mg base "is_width" ["thing"] spIsWidth 2) (cO : Cal P w K mg base "rows_of" ["width", "text"] (spRowsOf K) 2) : FnOk P w K mg base CX0 (k + 5) f fd ["cls", "width", "text"] (spTRead K C) := by
  have GW := cW.ok (k + 4) (by omega)
  have GO := cO.ok (k + 4) (by omega)
  have GN := m.ok (k + 3) (by omega)
  refine F.ok scTRead (fun vs H Q E h => ?_) (fun cdv A outer s H vs Q E hr h => ?_)
  · obtain ⟨w, rows, rfl, _⟩ := h
    rfl
  · obtain ⟨w, rows, rfl, w1, w6, ok, few, q⟩ := h
    have n := scTRead.nd
    refine ⟨_, pss_cons (ps_if (pt_not (pt_val (pe_call GW hr rfl cW.g cW.kp cW.b .nil pass0 (pa_cons (pv 1) pa_nil)))) (pss_one ps_never) pss_nil)
      (pss_cons (ps_if (pt_not (pt_val (pe_callB call_isi (by rfl) T.isi (by decide +kernel) (pa_cons (pv 2) (pa_cons (pe_bltn (v := .ty "str") (by rfl) T.str (by decide +kernel) rfl) pa_nil))))) (pss_one ps_never) pss_nil)
      (pss_cons (ps_set (i := 3) n rfl (.inl rfl) (pe_call GO hr rfl cO.g cO.kp cO.b .nil pass0 (pa_cons (pv 1) (pa_cons (pv 2) pa_nil))))
      (pss_cons (ps_if (pt_cmpR op_isN (pv 3) pe_non (nomark _)) (pss_one ps_never) pss_nil)
      (pss_one (ps_ret (pe_makeLS (i := 0) m.M GN hr rfl (.inl rfl) pass0 (pa_cons (pv 1) (StX.pa_star (pv 3) pa_nil)))))))), ?_⟩
    refine ⟨_, rfl, w, rfl, w1, w6, _, rfl, iteF ?_⟩
    refine ⟨_, rfl, _, _, _, _, true, rfl, .ty _, .base (.str _), kit_ty (by decide +kernel), _, rfl, iteF ?_⟩
    refine ⟨_, rfl, _, rfl, w, rows, rfl, w1, w6, ok, few, fun p us H1 s1 np hp dp => ?_⟩
    refine ⟨_, rfl, rfl, _, rfl, iteF ?_⟩
    have ul : us.length = rows.length := by rw [dps_len dp, List.length_map]
    refine ⟨rfl, _, rfl, _, rfl, p, us, rfl, .inr (SqL.of hp), fun x dx nx ndx ne => ?_⟩
    rw [List.append_nil]
    refine ⟨[.ref x, .int (w : Int)], us, rfl, rfl, Nat.le_of_lt (small1000 (by omega)), fun g ng => ?_⟩
    have gx : x ≠ g := fun z => by rw [← z, upd_same] at ng; cases ng
    have gdx : dx ≠ g := fun z => by rw [← z, upd_ne ne, upd_same] at ng; cases ng
    have ng1 : H1 g = none := by
      rw [upd_ne gx.symm, upd_ne gdx.symm] at ng
      exact ng
    have keep : ∀ b o, H1 b = some o → (upd (upd (upd H1 dx (.own x)) x (.ins C dx [])) g (.tup us)) b = some o := fun b o e => by
      rw [upd_ne (ne_of_none e ng1), upd_ne (ne_of_none e nx), upd_ne (ne_of_none e ndx)]
      exact e
    refine ⟨x, dx, w, g, us, rows, rfl, by rw [upd_ne gx]; exact upd_same, w1, w6, upd_same, dps_same ?_ _ _ dp, ok, few, fun H' k1 k2 => ⟨rfl, q x H' ?_ ?_ ⟨dx, g, us, k2, ?_, ?_⟩⟩⟩
    · exact fun b o e => by
        have e1 := wo_le p _ _ e
        rw [wo_ne (ne_of_none e1 nx)]
        exact keep b o e1
    · exact fun b o e => k1 b o (keep b o (s1 _ _ e)) (ne_of_none (s1 _ _ e) nx)
    · cases z : H x with
      | none => rfl
      | some o => rw [s1 _ _ z] at nx; cases nx
    · exact k1 g _ upd_same gx.symm
    · refine dps_same (fun b o e => ?_) _ _ dp
      have e1 := wo_le p _ _ e
      exact k1 b o (keep b o e1) (ne_of_none e1 nx)
end
end CC
namespace CC
open PySem L2 TL
/-- a property of an own class: a field's value -/
structure Prp (P : Program) (w : World) (K : PySem.W.Frag) (mg : Str → Option Value) (base : Heap) (C : Addr) (f fld : Str) where
  p : Addr
  g : Addr
  fd : FuncData
  hp : PropOf K C f p g
  ok : ∀ k, 1 ≤ k → FnOk P w K mg base CX0 k g fd ["self"] (getSp C fld)
  b : Binds K fd ["self"] []
/-- a property, by its promise -/
structure PrpG (P : Program) (w : World) (K : PySem.W.Frag) (mg : Str → Option Value) (base : Heap) (C : Addr) (f : Str) (sp : Sp) where
  p : Addr
  g : Addr
  fd : FuncData
  hp : PropOf K C f p g
  ok : ∀ k, 1 ≤ k → FnOk P w K mg base CX0 k g fd ["self"] sp
  b : Binds K fd ["self"] []
end CC
/-! ### set comprehensions, by a kind of sets -/
namespace SC
open PySem PySem.Spec PyProof.Rows L2
abbrev bareS (w : World) : Obj := { cls := .type "set", dict := none, data := .set #[] 0 (.fresh 0 0 (!w.params.followText "set-order")) }
/-- what stands at the place of a set while it is filled, and what one more member makes of it -/
structure Fam (α : Type) where
  ob : Program → World → Addr → α → HO
  ini : α
  new : ∀ (P : Program) (w : World) (H : Hp) (h : Heap), ObjOk P w H (h.push (bareS w)) h.objs.size (ob P w h.objs.size ini)
  put : PySem.W.Frag → Around → Hp → α → V → α → Prop
  add : ∀ {X : Cx} {pins : List (Addr × Obj)} {σ : L2.St} {H : Hp} {s : Shared} {E : Value → Shared → Prop} {D : Addr} {a b : α} {y : V} {v : Value} {Q : Value → Shared → Prop}, Inv X pins σ H s → H D = some (ob X.prog X.w D a) → put X.K X.A H a y b → RelV y v →
    (∀ s', Inv X pins σ (upd H D (ob X.prog X.w D b)) s' → Q .none s') → wpAny (model X.prog X.w) X.A (call (.builtin "set.add") [.ref D, v]) Q E s
section
variable {X : Cx} {α : Type}
def tSF (F : Fam α) (P : Program) (w : World) (K : PySem.W.Frag) (A : Around) (wi : TI) (g : TG) (tt : TT) (te : TE) (vs : List Nat) : TE := fun σ H Q => wi σ H fun J H1 => ∀ D, H1 D = none → ∃ W : Nat → Nat → Hp → Prop, (∃ m, W 0 m (upd H1 D (F.ob P w D F.ini))) ∧
  ∀ i m H, W i m H → (J.stop i H ∧ Q (.ref D) H) ∨ (J.go i H ∧ ∃ Nx : Hp → Prop, (∀ H', Nx H' → ∃ m', m' < m ∧ W (i + 1) m' H') ∧ ∀ x H', J.yld i H x H' → g x (wipe σ vs) H' fun σ2 H2 => wipe σ2 vs = wipe σ vs ∧ tt σ2 H2 fun b H3 =>
    if b = true then te σ2 H3 fun y H4 => ∃ c c' : α, H4 D = some (F.ob P w D c) ∧ F.put K A H4 c y c' ∧ Nx (upd H4 D (F.ob P w D c')) else Nx H3)
theorem core (F : Fam α) {pins : List (Addr × Obj)} {s : Shared} {σ : L2.St} {H : Hp} {Q : VK} {elt tg iter : Expr} {ifs : List Expr} {scope : Scope} {own : List (PySem.Str × Nat)} {pos pos' : Pos} {wi : TI} {g : TG} {tt : TT} {te : TE} {Qf : Value → Shared → Prop} {use : Option (Value → Sem Unit)}
    (calm : X.calm = true) (nd : X.N.Nodup) (I0 : Inv X pins σ H s) (walk : PI X tg iter wi) (bo : BlkOk X.N X.env.scope scope own)
    (aim : ∀ s H C cl fp, PG (X.blk s H scope (compEnvC scope cl C X.env) fp) tg g) (tst : ∀ s H C cl fp, PTs (X.blk s H scope (compEnvC scope cl C X.env) fp) ifs tt)
    (val : ∀ s H C cl fp, PE (X.blk s H scope (compEnvC scope cl C X.env) fp) elt te) (plain : ∀ x, foldedSetIterable iter X.env x = pure x)
    (ask : tSF F X.prog X.w X.K X.A wi g tt te (own.map (·.2)) σ H Q)
    (out : ∀ D C s' m H', Inv X pins σ H' s' → Q (.ref D) H' → s'.heap.Ns C m → FpOk X pins H' C → compPost (model X.prog X.w) X.A X.xe use Qf (.ref D) C (.ok .next) s') :
    wpAny (model X.prog X.w) X.A (comprehension (.SetComp elt [⟨tg, iter, ifs, 0⟩] scope pos) scope X.env pos' (newSet (.type "set")) false (eval iter X.env) use) Qf X.xe s := by
  have clo : ∀ y ∈ scope.names, y.2 = .free → ∃ c, X.env.cells.lookup y.1 = some c := fun y my ey => by
    rcases bo.free y my ey with z | z
    · exact I0.ok.has _ (.inl z)
    · exact I0.ok.has _ (.inr z)
  refine wpAny_comprehension_free (use := use) rfl plain (closure_ok clo) bo.kind (fun y my ey => by rw [bo.uniq y my, ey]) (thn (walk.run pins s σ H _ I0 ask) fun v0 sa ha => thn ha fun v1 sb hb => ?_)
  obtain ⟨itA, fp, tn, J, Hb, rfl, Ib, Tn, stb, fpb, qb⟩ := hb
  refine PpSet.newSet_ok (newEnv_comp ?_)
  obtain ⟨D, eD⟩ : ∃ D, D = sb.heap.objs.size := ⟨_, rfl⟩
  have freeD : Hb D = none := Ib.hok.fresh (Nat.le_of_eq eD.symm)
  obtain ⟨W, ⟨m0, w0⟩, turn⟩ := qb D freeD
  obtain ⟨sc, esc⟩ : ∃ sc : Shared, sc = { sb with heap := sb.heap.push (bareS X.w) } := ⟨_, rfl⟩
  have Ic : Inv X pins σ (upd Hb D (F.ob X.prog X.w D F.ini)) sc := by
    rw [esc]
    refine Ib.laid (t' := sb.toks) (fun b o e => Heap.get?_push_of_some _ e) (Nat.le_of_eq eD.symm) ?_
    rw [eD]
    exact F.new _ _ _ _
  have hc : sc.heap = sb.heap.push (bareS X.w) := by rw [esc]
  have below : ∀ b ∈ fp, b < sb.heap.objs.size := fun b mb => by
    obtain ⟨o, e, _⟩ := Tn.obj _ _ stb b mb
    exact Heap.lt_size e
  have fpc : ∀ b ∈ fp, FpOk X pins (upd Hb D (F.ob X.prog X.w D F.ini)) b ∧ b < sc.heap.objs.size := fun b mb => by
    have lt := below b mb
    refine ⟨⟨?_, (fpb b mb).2⟩, by rw [hc, Heap.size_push]; exact Nat.lt_succ_of_lt lt⟩
    rw [upd_ne (by rw [eD]; exact Nat.ne_of_lt lt)]
    exact (fpb b mb).1
  have stc : tn 0 sc.heap := Tn.keep _ _ _ stb fun b _ o e => by rw [hc]; exact Heap.get?_push_of_some _ e
  have Id := block_start Ic bo nd fpc
  have hereG := aim sc (upd Hb D (F.ob X.prog X.w D F.ini)) sc.heap.objs.size (cellsFrom (sc.heap.objs.size + 1) scope.names (cloFrom X.env.cells scope.names [])) fp
  have hereT := tst sc (upd Hb D (F.ob X.prog X.w D F.ini)) sc.heap.objs.size (cellsFrom (sc.heap.objs.size + 1) scope.names (cloFrom X.env.cells scope.names [])) fp
  have hereE := val sc (upd Hb D (F.ob X.prog X.w D F.ini)) sc.heap.objs.size (cellsFrom (sc.heap.objs.size + 1) scope.names (cloFrom X.env.cells scope.names [])) fp
  rw [← eD, ← esc]
  have offH : ∀ b ∈ fp, (upd Hb D (F.ob X.prog X.w D F.ini)) b = none := fun b mb => (fpc b mb).1.1
  show codeAny _ _ (.compStart (.SetComp elt [⟨tg, iter, ifs, 0⟩] scope pos) 0 (.ref itA) (.ref D) (compEnvC scope (cellsFrom (sc.heap.objs.size + 1) scope.names (cloFrom X.env.cells scope.names [])) sc.heap.objs.size X.env)) _ { sc with heap := pushCells (sc.heap.push { cls := .type "dict", data := .dict #[] }) scope.names }
  generalize hce : compEnvC scope (cellsFrom (sc.heap.objs.size + 1) scope.names (cloFrom X.env.cells scope.names [])) sc.heap.objs.size X.env = ce at Id hereG hereT hereE ⊢
  have locs : ce.locals = sc.heap.objs.size := by subst hce; rfl
  generalize upd Hb D (F.ob X.prog X.w D F.ini) = Hc at Ic Id hereG hereT hereE w0 offH fpc
  generalize hsd : ({ sc with heap := pushCells (sc.heap.push { cls := .type "dict", data := .dict #[] }) scope.names } : Shared) = sd at Id ⊢
  have std : tn 0 sd.heap := Tn.keep _ _ _ stc fun b _ o e => by rw [← hsd]; exact pushCells_keeps _ _ _ _ (Heap.get?_push_of_some _ e)
  have own1 : ∀ {σ' : L2.St} {H' : Hp} {s' : Shared}, Inv (X.blk sc Hc scope ce fp) [] σ' H' s' → (∀ b ∈ fp, H' b = none) → ∀ b ∈ fp, FpOk (X.blk sc Hc scope ce fp) [] H' b := fun {_ H' _} Ie off b mb =>
    ⟨off b mb, (Ie.ok.exf b mb).1, Ie.ok.exfs b mb, .inl mb, fun x c e => (Ie.ok.exf b mb).2 x c e, fun p hp => absurd (show p ∈ ([] : List (Addr × Obj)) ++ [] from hp) (by simp)⟩
  have loop : codeAny (model X.prog X.w) X.A (.compLoop (.SetComp elt [⟨tg, iter, ifs, 0⟩] scope pos) 0 (.ref itA) (.ref D) ce) (compPost (model X.prog X.w) X.A X.xe use Qf (.ref D) sc.heap.objs.size) sd := by
    refine PpSet.compLoopS_any (fun k st => ∃ i He, Inv (X.blk sc Hc scope ce fp) [] (wipe σ (own.map (·.2))) He st ∧ tn i st.heap ∧ (∀ b ∈ fp, He b = none) ∧ W i k He) ?_ m0 ⟨0, Hc, Id, std, offH, w0⟩
    rintro k se ⟨i, He, Ie, ste, offe, we⟩
    rcases turn i k He we with ⟨atEnd, fin⟩ | ⟨onward, Nx, back, next⟩
    · refine thnF (Tn.done (X.blk sc Hc scope ce fp) rfl rfl rfl calm i [] se _ He (fun _ _ => False) Ie (own1 Ie offe) ste atEnd) fun r sf ⟨er, If⟩ => ?_
      subst er
      have Ig : Inv X pins σ He sf := Ic.call' (ch := fp) If.os If.base If.hok If.bare fun b mb => ⟨(fpc b mb).1.2.2.2.1, (fpc b mb).1.2.1, (fpc b mb).1.2.2.2.2.1, (fpc b mb).1.2.2.2.2.2⟩
      have noC : He sc.heap.objs.size = none := locs ▸ (show He ce.locals = none from If.free)
      obtain ⟨nm, nsf, _⟩ := If.loc
      have nsf : sf.heap.Ns sc.heap.objs.size nm := locs ▸ (show sf.heap.Ns ce.locals nm from nsf)
      exact out D sc.heap.objs.size sf nm He Ig fin nsf (Ic.fpOk (Nat.le_refl _) noC)
    · refine thnF (Tn.item (X.blk sc Hc scope ce fp) rfl rfl rfl calm i [] se _ He (fun _ _ => False) Ie (own1 Ie offe) ste onward) fun r sf ⟨u, er, hf⟩ => ?_
      subst er
      refine thnF hf fun _ sg ⟨x, Hg, Ig, rg, yg, stg, offg⟩ => ?_
      refine thnF (hereG.run _ sg _ Hg x u _ (Ig.pinned (own1 Ig offg) (Tn.obj _ _ stg)) rg (next x Hg yg)) fun _ sh ⟨σh, Hh, Ih, wh, qh⟩ => ?_
      refine thnF (hereT.run _ sh σh Hh _ Ih qh) fun b si ⟨Hi, Ii, qi⟩ => ?_
      have over : ∀ {st : Shared} {Ht : Hp}, Inv (X.blk sc Hc scope ce fp) ([] ++ pinsAt fp sg.heap) σh Ht st → Nx Ht → ∃ m, m < k ∧ ∃ i He, Inv (X.blk sc Hc scope ce fp) [] (wipe σ (own.map (·.2))) He st ∧ tn i st.heap ∧ (∀ b ∈ fp, He b = none) ∧ W i m He := fun {st Ht} It nx => by
        obtain ⟨m1, lt1, w1⟩ := back Ht nx
        have held : ∀ b ∈ fp, ∀ o, sg.heap.get? b = some o → st.heap.get? b = some o ∧ Ht b = none := fun b mb o e =>
          have z := It.pin (b, o) (List.mem_append_right _ (List.mem_append_right _ (mem_pinsAt mb e)))
          ⟨z.1, z.2.1⟩
        have ln : (wipe σ (own.map (·.2))).length = σh.length := by rw [← wh, wipe_length]
        refine ⟨m1, lt1, i + 1, Ht, (It.unpinned (pins := [])).weak ln (fun j v e => ?_), Tn.keep _ _ _ stg fun b mb o e => (held b mb o e).1, fun b mb => ?_, w1⟩
        · rw [← wh] at e
          exact (wipe_some e).1
        · obtain ⟨o, e, _⟩ := Tn.obj _ _ stg b mb
          exact (held b mb o e).2
      cases b with
      | false =>
        rw [if_neg (by decide)] at qi ⊢
        exact over Ii qi
      | true =>
        rw [if_pos rfl] at qi ⊢
        refine thnF (hereE.run _ si σh Hi _ Ii qi) fun z sj ⟨yv, Hj, Ij, rj, c, c', atD, pt, nx⟩ => ?_
        exact F.add (X := X.blk sc Hc scope ce fp) Ij atD pt rj fun sk Ik => over Ik nx
  exact PpSet.codeAny_compStart_set loop (Tn.self X.A 0 _ _ _ std loop)
/-- {elt for target in iter if ..} -/
theorem pe_setc (F : Fam α) {elt tg iter : Expr} {ifs : List Expr} {scope : Scope} {own : List (PySem.Str × Nat)} {pos : Pos} {wi : TI} {g : TG} {tt : TT} {te : TE} (calm : X.calm = true) (nd : X.N.Nodup) (walk : PI X tg iter wi) (bo : BlkOk X.N X.env.scope scope own)
    (aim : ∀ s H C cl fp, PG (X.blk s H scope (compEnvC scope cl C X.env) fp) tg g) (tst : ∀ s H C cl fp, PTs (X.blk s H scope (compEnvC scope cl C X.env) fp) ifs tt)
    (val : ∀ s H C cl fp, PE (X.blk s H scope (compEnvC scope cl C X.env) fp) elt te) (plain : ∀ x, foldedSetIterable iter X.env x = pure x := by intro _; rfl) :
    PE X (.SetComp elt [⟨tg, iter, ifs, 0⟩] scope pos) (tSF F X.prog X.w X.K X.A wi g tt te (own.map (·.2))) := by
  refine ⟨fun pins s σ H Q I0 ask => ?_⟩
  rw [PpSet.eval_SetComp]
  refine core F calm nd I0 walk bo aim tst val plain ask fun D C s1 m H1 I1 q hn fpC => ⟨m, hn, fun h2 sb => ?_⟩
  exact ⟨.ref D, H1, I1.turned (t' := s1.toks) (fun b o hb e => (sb.2 b hb).trans e) fpC.1 fpC.2.1 fpC.2.2.2.1 fpC.2.2.2.2.1 fpC.2.2.2.2.2, rfl, q⟩
end
/-- sets of ints -/
def famI : Fam ((Int → Bool) × Nat) where
  ob := fun _ w a c => SetO w a c.1 c.2
  ini := (fun _ => false, 0)
  new := fun P w H h => setO_new (setR_fresh w)
  put := fun _ _ _ c y c' => ∃ k : Int, y = .int k ∧ c.2 + 1 < scanBound ∧ c' = (fun j => c.1 j || decide (j = k), if c.1 k = true then c.2 else c.2 + 1)
  add := by
    intro X pins σ H s E D a b y v Q I hD pt rv q
    obtain ⟨k, rfl, room, rfl⟩ := pt
    obtain ⟨tk, rfl⟩ := rv
    refine setR_add (setO_get I hD) room fun h' sb new => q _ ?_
    have ⟨o, _, _, _, ho, _⟩ := new
    exact I.write (e := D) (t' := s.toks + 1) (by rw [hD]; trivial) (.inl rfl) (fun b u hb hu => (sb.2 b hb).trans hu) ⟨o, ho⟩ (setO_new new)
/-- {elt for target in iter if ..}, elt an int -/
def tSI (w : World) (wi : TI) (g : TG) (tt : TT) (te : TE) (vs : List Nat) : TE := fun σ H Q => wi σ H fun J H1 => ∀ D, H1 D = none → ∃ W : Nat → Nat → Hp → Prop, (∃ m, W 0 m (upd H1 D (SetO w D (fun _ => false) 0))) ∧
  ∀ i m H, W i m H → (J.stop i H ∧ Q (.ref D) H) ∨ (J.go i H ∧ ∃ Nx : Hp → Prop, (∀ H', Nx H' → ∃ m', m' < m ∧ W (i + 1) m' H') ∧ ∀ x H', J.yld i H x H' → g x (wipe σ vs) H' fun σ2 H2 => wipe σ2 vs = wipe σ vs ∧ tt σ2 H2 fun b H3 =>
    if b = true then te σ2 H3 fun y H4 => ∃ c c' : (Int → Bool) × Nat, H4 D = some (SetO w D c.1 c.2) ∧ (∃ k : Int, y = .int k ∧ c.2 + 1 < scanBound ∧ c' = (fun j => c.1 j || decide (j = k), if c.1 k = true then c.2 else c.2 + 1)) ∧ Nx (upd H4 D (SetO w D c'.1 c'.2)) else Nx H3)
theorem pe_setI {X : Cx} {elt tg iter : Expr} {ifs : List Expr} {scope : Scope} {own : List (PySem.Str × Nat)} {pos : Pos} {wi : TI} {g : TG} {tt : TT} {te : TE} (calm : X.calm = true) (nd : X.N.Nodup) (walk : PI X tg iter wi) (bo : BlkOk X.N X.env.scope scope own)
    (aim : ∀ s H C cl fp, PG (X.blk s H scope (compEnvC scope cl C X.env) fp) tg g) (tst : ∀ s H C cl fp, PTs (X.blk s H scope (compEnvC scope cl C X.env) fp) ifs tt)
    (val : ∀ s H C cl fp, PE (X.blk s H scope (compEnvC scope cl C X.env) fp) elt te) (plain : ∀ x, foldedSetIterable iter X.env x = pure x := by intro _; rfl) :
    PE X (.SetComp elt [⟨tg, iter, ifs, 0⟩] scope pos) (tSI X.w wi g tt te (own.map (·.2))) := ⟨fun pins s σ H Q I h => (pe_setc famI calm nd walk bo aim tst val plain).run pins s σ H Q I h⟩
end SC
namespace CC
open PySem L2 TL
/-- the different ones, in the order in which they come -/
def firsts : List Nat → List Nat
  | l => l.foldl (fun acc x => if x ∈ acc then acc else acc ++ [x]) []
def dn (l : List Nat) : Nat := (firsts l).length
def colN (rows : List (List Nat)) (c : Nat) : List Nat := rows.map fun r => r.getD c 0
theorem firsts_snoc (l : List Nat) (x : Nat) : firsts (l ++ [x]) = if x ∈ firsts l then firsts l else firsts l ++ [x] := by
  unfold firsts
  rw [List.foldl_append]
  rfl
theorem firsts_mem : ∀ (n : Nat) (l : List Nat), l.length = n → ∀ y, y ∈ firsts l ↔ y ∈ l
  | 0, l, h, y => by
    rw [List.length_eq_zero_iff.mp h]
    simp [firsts]
  | n + 1, l, h, y => by
    have ne : l ≠ [] := fun e => by rw [e] at h; cases h
    obtain ⟨u, x, rfl⟩ : ∃ u x, l = u ++ [x] := ⟨_, _, (List.dropLast_concat_getLast ne).symm⟩
    have hu : u.length = n := by
      rw [List.length_append, List.length_singleton] at h
      omega
    have ih := firsts_mem n u hu
    rw [firsts_snoc, List.mem_append, List.mem_singleton]
    by_cases e : x ∈ firsts u
    · rw [if_pos e, ih y]
      constructor
      · exact .inl
      · rintro (z | rfl)
        · exact z
        · exact (ih _).mp e
    · rw [if_neg e, List.mem_append, List.mem_singleton, ih y]
theorem mem_firsts {l : List Nat} {y : Nat} : y ∈ firsts l ↔ y ∈ l := firsts_mem _ l rfl y
theorem dn_snoc (l : List Nat) (x : Nat) : dn (l ++ [x]) = if x ∈ l then dn l else dn l + 1 := by
  unfold dn
  rw [firsts_snoc]
  by_cases e : x ∈ l
  · rw [if_pos e, if_pos (mem_firsts.mpr e)]
  · rw [if_neg e, if_neg (fun z => e (mem_firsts.mp z)), List.length_append, List.length_singleton]
theorem dn_le (l : List Nat) : ∀ n, dn (l.take n) ≤ n
  | 0 => by simp [dn, firsts]
  | n + 1 => by
    cases h : l[n]? with
    | none =>
      rw [List.take_of_length_le (by have := List.getElem?_eq_none_iff.mp h; omega), ← List.take_of_length_le (i := n) (l := l) (by have := List.getElem?_eq_none_iff.mp h; omega)]
      exact Nat.le_succ_of_le (dn_le l n)
    | some x =>
      rw [List.take_succ, h]
      show dn (l.take n ++ [x]) ≤ _
      rw [dn_snoc]
      have := dn_le l n
      split <;> omega
/-- the members of a set of such numbers -/
def memI (l : List Nat) : Int → Bool := fun k => decide (∃ n ∈ l, (n : Int) = k)
theorem memI_at (l : List Nat) (x : Nat) : memI l (x : Int) = decide (x ∈ l) := by
  unfold memI
  rw [Bool.eq_iff_iff, decide_eq_true_eq, decide_eq_true_eq]
  constructor
  · rintro ⟨n, hn, e⟩
    have : n = x := by omega
    exact this ▸ hn
  · exact fun h => ⟨x, h, rfl⟩
theorem memI_snoc (l : List Nat) (x : Nat) : (fun j => memI l j || decide (j = (x : Int))) = memI (l ++ [x]) := by
  funext j
  unfold memI
  rw [Bool.eq_iff_iff, Bool.or_eq_true, decide_eq_true_eq, decide_eq_true_eq, decide_eq_true_eq]
  constructor
  · rintro (⟨n, hn, e⟩ | e)
    · exact ⟨n, List.mem_append_left _ hn, e⟩
    · exact ⟨x, List.mem_append_right _ (List.mem_singleton.mpr rfl), e.symm⟩
  · rintro ⟨n, hn, e⟩
    rcases List.mem_append.mp hn with z | z
    · exact .inl ⟨n, z, e⟩
    · rw [List.mem_singleton.mp z] at e
      exact .inr e.symm
theorem colN_take {rows : List (List Nat)} {c i : Nat} {r : List Nat} (h : rows[i]? = some r) : colN (rows.take (i + 1)) c = colN (rows.take i) c ++ [r.getD c 0] := by
  unfold colN
  rw [take1 h, List.map_append]
  rfl
/-- over a tuple -/
theorem si_tup {w : World} {K : PySem.W.Frag} {a : Addr} {xs : List V} {g : TG} {tt : TT} {te : TE} {vs : List Nat} {σ : L2.St} {H1 : Hp} {D : Addr} {Qd : Hp → Prop} (Pv : Nat → Hp → Prop) (h0 : Pv 0 (upd H1 D (SetO w D (fun _ => false) 0))) (hl : ∀ i H, i ≤ xs.length → Pv i H → SqT K H a xs)
    (hs : ∀ i x H, xs[i]? = some x → Pv i H → g x (wipe σ vs) H fun σ2 H2 => wipe σ2 vs = wipe σ vs ∧ tt σ2 H2 fun b H3 => if b = true then te σ2 H3 fun y H4 => ∃ c c' : (Int → Bool) × Nat, H4 D = some (SetO w D c.1 c.2) ∧ (∃ k : Int, y = .int k ∧ c.2 + 1 < scanBound ∧ c' = (fun j => c.1 j || decide (j = k), if c.1 k = true then c.2 else c.2 + 1)) ∧ Pv (i + 1) (upd H4 D (SetO w D c'.1 c'.2)) else Pv (i + 1) H3) (hd : ∀ H, Pv xs.length H → Qd H) :
    ∃ W : Nat → Nat → Hp → Prop, (∃ m, W 0 m (upd H1 D (SetO w D (fun _ => false) 0))) ∧ ∀ i m H, W i m H → ((Itt K a).stop i H ∧ Qd H) ∨ ((Itt K a).go i H ∧ ∃ Nx : Hp → Prop, (∀ H', Nx H' → ∃ m', m' < m ∧ W (i + 1) m' H') ∧ ∀ x H', (Itt K a).yld i H x H' → g x (wipe σ vs) H' fun σ2 H2 => wipe σ2 vs = wipe σ vs ∧ tt σ2 H2 fun b H3 =>
      if b = true then te σ2 H3 fun y H4 => ∃ c c' : (Int → Bool) × Nat, H4 D = some (SetO w D c.1 c.2) ∧ (∃ k : Int, y = .int k ∧ c.2 + 1 < scanBound ∧ c' = (fun j => c.1 j || decide (j = k), if c.1 k = true then c.2 else c.2 + 1)) ∧ Nx (upd H4 D (SetO w D c'.1 c'.2)) else Nx H3) := by
  refine ⟨fun i m H => m = xs.length - i ∧ i ≤ xs.length ∧ Pv i H, ⟨xs.length, by simp, Nat.zero_le _, h0⟩, ?_⟩
  rintro i m H ⟨rfl, hi, p⟩
  have q := hl i H hi p
  by_cases lt : i < xs.length
  · refine .inr ⟨⟨xs, xs[i], q, by simp [lt]⟩, Pv (i + 1), fun H' p' => ⟨xs.length - (i + 1), by omega, rfl, lt, p'⟩, fun x H' y => ?_⟩
    obtain ⟨e, y⟩ := y
    subst e
    exact hs i x _ (y xs q) p
  · have e : i = xs.length := by omega
    subst e
    exact .inl ⟨⟨xs, q, Nat.le_refl _⟩, hd H p⟩
/-- len of a set of ints -/
def rLenI (w : World) : List V → Hp → VK → Prop := fun xs H Q => ∃ (a : Addr) (S : Int → Bool) (n : Nat), xs = [.ref a] ∧ H a = some (SetO w a S n) ∧ n ≤ 1000 ∧ Q (.int (n : Int)) H
theorem call_lenI {X : Cx} : CallR X (.builtin "len") (rLenI X.w) := by
  intro pins s σ H xs us Q I r h
  obtain ⟨a, S, n, rfl, ha, hn, q⟩ := h
  rw [Vals.ref1 r]
  obtain ⟨o, es, ep, t, ho, hex, hd, _, _, _, hb, hf, e, _⟩ := setO_get I ha
  exact PySem.call_len_set ho hex hd hf (by rw [e]; omega) ⟨.int (n : Int), H, I.tok _, ⟨_, by rw [e]⟩, q⟩
end CC
namespace CC
open PySem L2
abbrev sEvery : Stmt := tp 11
def spEvery (K : PySem.W.Frag) : Sp := fun vs H Q _ => ∃ w : Nat, vs = [.int (w : Int)] ∧ w ≤ 6 ∧ ∀ (p : Addr) (us : List V) (H' : Hp), Same H H' → H p = none → H' p = some (.lst us) → DpAll K (wo H' p) us ((allR w).map R.d) → Q (.ref p) H'
theorem row_step (w a : Nat) (k : Bool) (j : Nat) (hj : j < w) : ((List.range (j + 1)).filter fun b => decide (a ≠ b)) = ((List.range j).filter fun b => decide (a ≠ b)) ++ (if a = j then [] else [j]) := by
  rw [List.range_succ, List.filter_append]
  by_cases h : a = j
  · simp [h]
  · simp [h]
/-- a list of rules that is being made at D -/
def MadeR (K : PySem.W.Frag) (H0 : Hp) (D : Addr) (n : Nat) (H : Hp) (rs : List R) : Prop := ∃ us, Made K (fun H => wo H D) Tr (fun _ _ => True) H0 D n H us (rs.map R.d)
theorem MadeR.up {K : PySem.W.Frag} {H0 H : Hp} {D : Addr} {n m : Nat} {rs rs' : List R} (p : MadeR K H0 D n H rs) (h : n ≤ m) (e : rs = rs') : MadeR K H0 D m H rs' := by
  obtain ⟨us, p⟩ := p
  subst e
  exact ⟨us, p.same, trivial, p.lst, p.dat, trivial, Nat.le_trans p.len h⟩
theorem MadeR.start {K : PySem.W.Frag} {H0 : Hp} {D : Addr} : MadeR K H0 D 0 (upd H0 D (.lst [])) [] := by
  refine ⟨[], ?_, trivial, upd_same, .nil, trivial, Nat.le_refl _⟩
  show Same (wo H0 D) (wo (upd H0 D (.lst [])) D)
  rw [wo_upd]
  exact Same.refl _
theorem MadeR.push {K : PySem.W.Frag} {H0 H H' : Hp} {D : Addr} {n m : Nat} {rs : List R} {r : R} {y : V} (p : MadeR K H0 D n H rs) (h9 : n < 100000) (hm : n < m) (q3 : Same H H') (q1 : Dp K (wo H' D) y r.d) :
    ∃ acc, H' D = some (.lst acc) ∧ acc.length < sizeLine ∧ MadeR K H0 D m (upd H' D (.lst (acc ++ [y]))) (rs ++ [r]) := by
  obtain ⟨us, p⟩ := p
  obtain ⟨acc, a1, a2, us', ds', p'⟩ := madeP_push (j := m) p h9 hm q3 q1 trivial
  refine ⟨acc, a1, a2, us ++ [y], ?_, trivial, ?_, ?_, trivial, ?_⟩
  · show Same (wo H0 D) (wo (upd H' D (.lst (acc ++ [y]))) D)
    rw [wo_upd]
    exact p.same.trans (wo_same q3)
  · have e : some (HO.lst acc) = some (HO.lst us) := a1.symm.trans (q3 _ _ p.lst)
    cases e
    exact upd_same
  · show DpAll K (wo (upd H' D (.lst (acc ++ [y]))) D) _ _
    rw [wo_upd, List.map_append]
    exact dps_app (dps_same (wo_same q3) _ _ p.dat) (dps_one q1)
  · rw [List.length_append]
    exact Nat.le_trans (Nat.succ_le_succ p.len) hm
theorem MadeR.old {K : PySem.W.Frag} {H0 H : Hp} {D : Addr} {n : Nat} {rs : List R} (p : MadeR K H0 D n H rs) (h : H0 D = none) : Same H0 H := by
  obtain ⟨us, p⟩ := p
  exact p.old h
section
variable {P : Program} {w : World} {K : PySem.W.Frag} {mg : Str → Option Value} {base : Heap} {kA : Addr}
/-- a walk over a list, a clause of a comprehension -/
theorem turn_list {a : Addr} {xs : List V} {g : TG} {tt : TT} {vs : List Nat} {b : C3.TB} {σ : L2.St} {N : Hp → Prop} {H1 : Hp} (Pv : Nat → Hp → Prop) (h0 : Pv 0 H1) (hl : ∀ i H, i ≤ xs.length → Pv i H → SqL K H a xs)
    (hs : ∀ i x H, xs[i]? = some x → Pv i H → g x (wipe σ vs) H fun τ H2 => wipe τ vs = wipe σ vs ∧ tt τ H2 fun y H3 => if y = true then b τ H3 (Pv (i + 1)) else Pv (i + 1) H3) (hd : ∀ H, Pv xs.length H → N H) :
    ∃ W : Nat → Nat → Hp → Prop, (∃ m, W 0 m H1) ∧ C3.tTurn (Itl K a) g tt vs b σ W N := by
  refine ⟨fun i m H => m = xs.length - i ∧ i ≤ xs.length ∧ Pv i H, ⟨xs.length, by simp, Nat.zero_le _, h0⟩, ?_⟩
  rintro i m H ⟨rfl, hi, p⟩
  have q := hl i H hi p
  by_cases lt : i < xs.length
  · refine .inr ⟨⟨xs, xs[i], q, by simp [lt]⟩, Pv (i + 1), fun H' p' => ⟨xs.length - (i + 1), by omega, rfl, lt, p'⟩, fun x H' y => ?_⟩
    obtain ⟨e, y⟩ := y
    subst e
    exact hs i x _ (y xs q) p
  · have e : i = xs.length := by omega
    subst e
    exact .inl ⟨⟨xs, q, Nat.le_refl _⟩, hd H p⟩
theorem turn_tup {a : Addr} {xs : List V} {g : TG} {tt : TT} {vs : List Nat} {b : C3.TB} {σ : L2.St} {N : Hp → Prop} {H1 : Hp} (Pv : Nat → Hp → Prop) (h0 : Pv 0 H1) (hl : ∀ i H, i ≤ xs.length → Pv i H → SqT K H a xs)
    (hs : ∀ i x H, xs[i]? = some x → Pv i H → g x (wipe σ vs) H fun τ H2 => wipe τ vs = wipe σ vs ∧ tt τ H2 fun y H3 => if y = true then b τ H3 (Pv (i + 1)) else Pv (i + 1) H3) (hd : ∀ H, Pv xs.length H → N H) :
    ∃ W : Nat → Nat → Hp → Prop, (∃ m, W 0 m H1) ∧ C3.tTurn (Itt K a) g tt vs b σ W N := by
  refine ⟨fun i m H => m = xs.length - i ∧ i ≤ xs.length ∧ Pv i H, ⟨xs.length, by simp, Nat.zero_le _, h0⟩, ?_⟩
  rintro i m H ⟨rfl, hi, p⟩
  have q := hl i H hi p
  by_cases lt : i < xs.length
  · refine .inr ⟨⟨xs, xs[i], q, by simp [lt]⟩, Pv (i + 1), fun H' p' => ⟨xs.length - (i + 1), by omega, rfl, lt, p'⟩, fun x H' y => ?_⟩
    obtain ⟨e, y⟩ := y
    subst e
    exact hs i x _ (y xs q) p
  · have e : i = xs.length := by omega
    subst e
    exact .inl ⟨⟨xs, q, Nat.le_refl _⟩, hd H p⟩
theorem scEvery : FnScope ["width", "columns", "kind", "a", "b"] ["width"] (defScope sEvery) := ⟨rfl, rfl, rfl, by decide +kernel, rfl, by decide +kernel, by decide +kernel⟩
theorem ok_every {f : Addr} {fd : FuncData} {k : Nat} (F : Fun K "every_rule" "every_rule" sEvery f fd) (T : Glb K mg kA) : FnOk P w K mg base CX0 (k + 1) f fd ["width"] (spEvery K) := by
  refine F.ok scEvery (fun vs H Q E h => ?_) (fun cdv A outer s H vs Q E hr h => ?_)
  · obtain ⟨z, rfl, _⟩ := h
    rfl
  · obtain ⟨z, rfl, hz, q⟩ := h
    have nd := scEvery.nd
    refine ⟨_, pss_cons (ps_set (i := 1) nd rfl (.inr rfl) (pe_listRg rfl (by rfl) T.lst (prg_1 (by rfl) T.rng (pv 0))))
      (pss_one (ps_ret (C3.pe_lc3 (own := [("kind", 2), ("a", 3), ("b", 4)]) (v1 := [3, 4]) (v2 := [4]) (w1 := iList K (tVar 1)) (w2 := iList K (tVar 1)) rfl nd (pi_tup (pe_glob (v := .ref kA) rfl T.knd rfl)) (blkOk_by (N := ["width", "columns", "kind", "a", "b"]) (sc := defScope sEvery) (by decide +kernel)) (by decide) (by decide)
        (fun _ _ _ _ _ => pg_name (i := 2) nd rfl (.inl rfl)) (fun _ _ _ _ _ => pts_nil)
        (fun _ _ _ _ _ => pi_list (pv 1)) (fun _ _ _ _ _ => pg_name (i := 3) nd rfl (.inl rfl)) (fun _ _ _ _ _ => pts_nil)
        (fun _ _ _ _ _ => pi_list (pv 1)) (fun _ _ _ _ _ => pg_name (i := 4) nd rfl (.inl rfl)) (fun _ _ _ _ _ => pts_one (pt_cmpR op_ne (pv 3) (pv 4) (nomark _)))
        (fun _ _ _ _ _ => pe_tup (pa_cons (pv 2) (pa_cons (pv 3) (pa_cons (pv 4) pa_nil))))))), ?_⟩
    have hk : ∀ H, SqT K H kA [.str "settles", .str "within"] := fun H => .inr T.kseq
    refine ⟨_, rfl, _, rfl, RgOk.of_le (by omega) (by omega) (by omega) (by omega), fun c nc => ?_⟩
    rw [cols_rg]
    have cC : ∀ {H' : Hp}, Same (upd H c (.lst (cols z))) H' → SqL K H' c (cols z) := fun e => .inl (.inl (e _ _ upd_same))
    generalize hH1 : upd H c (.lst (cols z)) = H1 at cC
    have s1 : Same H H1 := by
      rw [← hH1]
      exact same_new nc
    refine ⟨kA, rfl, ⟨_, hk _⟩, fun D nD => ?_⟩
    refine turn_tup (xs := [.str "settles", .str "within"]) (fun i H => MadeR K H1 D (36 * i) H (([true, false].take i).flatMap fun k => (List.range z).flatMap fun a => row z a k)) MadeR.start (fun _ _ _ _ => hk _) ?_ ?_
    · intro i x H2 hx p
      obtain ⟨kk, rfl, hi, tk⟩ : ∃ kk : Bool, x = .str (kd kk) ∧ i < 2 ∧ [true, false].take (i + 1) = [true, false].take i ++ [kk] := by
        match i, hx with
        | 0, hx =>
          simp at hx
          exact ⟨true, hx.symm, by decide, rfl⟩
        | 1, hx =>
          simp at hx
          exact ⟨false, hx.symm, by decide, rfl⟩
        | n + 2, hx => simp at hx
      rw [tk, List.flatMap_append]
      generalize ([true, false].take i).flatMap (fun k => (List.range z).flatMap fun a => row z a k) = pre at p
      refine ⟨rfl, ?_⟩
      refine yes_if ?_
      refine ⟨_, rfl, c, rfl, ⟨_, cC (p.old nD)⟩, ?_⟩
      refine turn_list (xs := cols z) (fun j H => MadeR K H1 D (36 * i + 6 * j) H (pre ++ (List.range j).flatMap fun a => row z a kk)) (p.up (by omega) (by simp)) (fun _ _ _ p => cC (p.old nD)) ?_ ?_
      · intro j y H3 hy p3
        obtain ⟨hj, rfl⟩ := cols_at hy
        refine ⟨rfl, ?_⟩
        refine yes_if ?_
        refine ⟨_, rfl, c, rfl, ⟨_, cC (p3.old nD)⟩, ?_⟩
        refine turn_list (xs := cols z) (fun l H => MadeR K H1 D (36 * i + 6 * j + l) H ((pre ++ (List.range j).flatMap fun a => row z a kk) ++ (((List.range l).filter fun b => decide (j ≠ b)).map fun b => ⟨kk, j, b⟩))) (p3.up (by omega) (by simp)) (fun _ _ _ p => cC (p.old nD)) ?_ ?_
        · intro l v H4 hv p4
          obtain ⟨hl, rfl⟩ := cols_at hv
          refine ⟨rfl, _, rfl, _, rfl, rfl, _, rfl, ?_⟩
          rw [row_step z j kk l hl, List.map_append, ← List.append_assoc]
          by_cases e : j = l
          · have e1 : (!decide (V.int (j : Int) = V.int (l : Int))) = false := by rw [e]; simp
            rw [e1]
            refine iteF (p4.up (by omega) ?_)
            rw [if_pos e]
            simp
          · have e1 : (!decide (V.int (j : Int) = V.int (l : Int))) = true := by
              rw [decide_eq_false (fun q => e (by injection q with q; omega))]
              rfl
            rw [e1, if_neg e]
            refine iteT ⟨_, rfl, _, rfl, _, rfl, (by show 3 ≤ sizeLine; decide), fun t nt => ?_⟩
            obtain ⟨us, p5⟩ := id p4
            exact p4.push (by omega) (by omega) (same_new nt) (r_dp (r := ⟨kk, j, l⟩) (tup_new p5.lst nt))
        · intro H4 p4
          rw [cols_len] at p4
          refine p4.up (by omega) ?_
          rw [List.range_succ, List.flatMap_append]
          simp [row]
      · intro H3 p3
        rw [cols_len] at p3
        refine p3.up (by omega) (by simp)
    · intro H2 p
      obtain ⟨us, p5⟩ := id p
      exact q D us H2 (s1.trans (p.old nD)) (by
        cases z0 : H D with
        | none => rfl
        | some o =>
          rw [s1 _ _ z0] at nD
          cases nD) p5.lst p5.dat
end
end CC
namespace CC
open PySem L2 TL
/-! ### lines -/
abbrev sLine : Stmt := tp 31
def lineS (r : R) : Str := Str.empty ++ num r.a ++ " " ++ kd r.k ++ " " ++ num r.b
def textS (rs : List R) : Str := Txt.join "" (rs.map fun r => lineS r ++ "\n")
theorem lines_nodup : ((allR 6).map lineS).Nodup := by decide +kernel
theorem mem_row {w a : Nat} {k : Bool} {r : R} : r ∈ row w a k ↔ r.k = k ∧ r.a = a ∧ r.b < w ∧ a ≠ r.b := by
  obtain ⟨k', a', b'⟩ := r
  simp only [row, List.mem_map, List.mem_filter, List.mem_range, decide_eq_true_eq, R.mk.injEq]
  constructor
  · rintro ⟨b, ⟨h1, h2⟩, rfl, rfl, rfl⟩
    exact ⟨rfl, rfl, h1, h2⟩
  · rintro ⟨rfl, rfl, h1, h2⟩
    exact ⟨b', ⟨h1, h2⟩, rfl, rfl, rfl⟩
theorem mem_allR {w : Nat} {r : R} : r ∈ allR w ↔ r.ok w := by
  simp only [allR, List.mem_flatMap, List.mem_range, mem_row, R.ok, List.mem_cons, List.not_mem_nil, or_false]
  constructor
  · rintro ⟨k, _, a, h1, rfl, rfl, h2, h3⟩
    exact ⟨h1, h2, h3⟩
  · rintro ⟨h1, h2, h3⟩
    refine ⟨r.k, ?_, r.a, h1, rfl, rfl, h2, h3⟩
    cases r.k
    · exact .inr rfl
    · exact .inl rfl
theorem R.ok.up {w : Nat} {r : R} (h : r.ok w) (hw : w ≤ 6) : r.ok 6 := ⟨Nat.lt_of_lt_of_le h.1 hw, Nat.lt_of_lt_of_le h.2.1 hw, h.2.2⟩
theorem inj_of {α β : Type} {f : α → β} : ∀ {l : List α}, (l.map f).Nodup → ∀ {x y : α}, x ∈ l → y ∈ l → f x = f y → x = y
  | [], _, _, _, h, _, _ => nomatch h
  | z :: l, nd, x, y, hx, hy, e => by
    rw [List.map_cons, List.nodup_cons] at nd
    rcases List.mem_cons.mp hx with e1 | h1
    · rcases List.mem_cons.mp hy with e2 | h2
      · rw [e1, e2]
      · exact absurd (List.mem_map.mpr ⟨y, h2, by rw [← e, e1]⟩) nd.1
    · rcases List.mem_cons.mp hy with e2 | h2
      · exact absurd (List.mem_map.mpr ⟨x, h1, by rw [e, e2]⟩) nd.1
      · exact inj_of nd.2 h1 h2 e
theorem line_inj {r s : R} (hr : r.ok 6) (hs : s.ok 6) (e : lineS r = lineS s) : r = s := inj_of lines_nodup (mem_allR.mpr hr) (mem_allR.mpr hs) e
theorem lines_all : ((allR 6).all fun r => (lineS r).length ≤ 20 && !(tl (lineS r)).contains 10) = true := by decide +kernel
theorem line_of6 {r : R} (hr : r.ok 6) : (lineS r).length ≤ 20 ∧ 10 ∉ tl (lineS r) := by
  have h := List.all_eq_true.mp lines_all r (mem_allR.mpr hr)
  simp only [Bool.and_eq_true, decide_eq_true_eq, Bool.not_eq_true'] at h
  refine ⟨h.1, fun z => ?_⟩
  have := List.contains_iff_mem.mpr z
  rw [h.2] at this
  cases this
theorem allR_nodup {w : Nat} (hw : w ≤ 6) : (allR w).Nodup := by
  have h : ∀ w : Fin 7, (allR w.1).Nodup := by decide +kernel
  exact h ⟨w, by omega⟩
/-- a text of lines, and its lines -/
theorem tl_text : ∀ rs : List R, tl (textS rs) = (rs.map fun r => tl (lineS r) ++ [10]).flatten
  | [] => by decide +kernel
  | r :: rs => by
    unfold textS
    rw [join_eq, tl_join]
    have e : ∀ l : List (List Nat), joinL (tl ("" : Str)) l = l.flatten := by
      intro l
      rw [show tl ("" : Str) = [] by decide +kernel]
      induction l with
      | nil => rfl
      | cons x l ih =>
        cases l with
        | nil => simp [joinL]
        | cons y l =>
          show x ++ ([] ++ joinL [] (y :: l)) = _
          rw [ih, List.nil_append]
          simp
    rw [e, List.map_map]
    congr 1
    refine List.map_congr_left fun r _ => ?_
    show tl (lineS r ++ "\n") = _
    rw [tl_app, show tl ("\n" : Str) = [10] by decide +kernel]
theorem split_text {rs : List R} (h : ∀ r ∈ rs, r.ok 6) : Txt.split (textS rs) "\n" = rs.map lineS ++ [Str.empty] := by
  have e : textS rs = Txt.join "\n" (rs.map lineS ++ [Str.empty]) := by
    refine ext_tl ?_
    show tl (textS rs) = tl (Txt.join "\n" (rs.map lineS ++ [Str.empty]))
    rw [tl_text, join_eq, tl_join, show tl ("\n" : Str) = [10] by decide +kernel]
    induction rs with
    | nil => decide +kernel
    | cons r rs ih =>
      rw [List.map_cons, List.flatten_cons, ih fun s hs => h s (List.mem_cons_of_mem _ hs)]
      cases rs with
      | nil =>
        show tl (lineS r) ++ [10] ++ joinL [10] [tl Str.empty] = joinL [10] [tl (lineS r), tl Str.empty]
        show tl (lineS r) ++ [10] ++ tl Str.empty = tl (lineS r) ++ ([10] ++ tl Str.empty)
        rw [List.append_assoc]
      | cons s rs =>
        show tl (lineS r) ++ [10] ++ _ = tl (lineS r) ++ ([10] ++ _)
        rw [List.append_assoc]
        rfl
  rw [e]
  refine split_join (s := 10) (S := []) (by decide +kernel) (by decide +kernel) (by simp) fun p hp => ?_
  rcases List.mem_append.mp hp with z | z
  · obtain ⟨r, hr, rfl⟩ := List.mem_map.mp z
    exact (line_of6 (h r hr)).2
  · rw [List.mem_singleton.mp z]
    decide +kernel
theorem text_len {rs : List R} (h : ∀ r ∈ rs, r.ok 6) : (textS rs).length ≤ 21 * rs.length := by
  rw [len_tl, tl_text]
  induction rs with
  | nil => simp
  | cons r rs ih =>
    have h1 := (line_of6 (h r List.mem_cons_self)).1
    rw [len_tl] at h1
    have h2 : (tl (lineS r)).length ≤ 20 := h1
    have h3 := ih fun s hs => h s (List.mem_cons_of_mem _ hs)
    simp only [List.map_cons, List.flatten_cons, List.length_append, List.length_cons, List.length_nil]
    omega
def spLine (K : PySem.W.Frag) : Sp := fun vs H Q _ => ∃ (v : V) (r : R), vs = [v] ∧ Dp K H v r.d ∧ r.ok 6 ∧ Q (.str (lineS r)) H
section
variable {P : Program} {w : World} {K : PySem.W.Frag} {mg : Str → Option Value} {base : Heap} {kA : Addr}
theorem scLine : FnScope ["rule", "kind", "first", "second"] ["rule"] (defScope sLine) := ⟨rfl, rfl, rfl, by decide +kernel, rfl, by decide +kernel, by decide +kernel⟩
theorem small6 {n : Nat} (h : n < 6) : (n : Int).natAbs.log2 < 1920 := by
  have : ∀ n : Fin 6, ((n.1 : Nat) : Int).natAbs.log2 < 1920 := by decide +kernel
  exact this ⟨n, h⟩
theorem lens_all : ((allR 6).all fun r => decide ((Str.empty ++ num r.a).length ≤ 20) && decide ((Str.empty ++ num r.a ++ " ").length ≤ 20) && decide ((Str.empty ++ num r.a ++ " " ++ kd r.k).length ≤ 20) && decide ((Str.empty ++ num r.a ++ " " ++ kd r.k ++ " ").length ≤ 20)) = true := by decide +kernel
theorem ok_line {f : Addr} {fd : FuncData} {k : Nat} (F : Fun K "line_of" "line_of" sLine f fd) : FnOk P w K mg base CX0 (k + 1) f fd ["rule"] (spLine K) := by
  refine F.ok scLine (fun vs H Q E h => ?_) (fun cdv A outer s H vs Q E hr h => ?_)
  · obtain ⟨v, r, rfl, _⟩ := h
    rfl
  · obtain ⟨v, r, rfl, hd, ho, q⟩ := h
    obtain ⟨p, rfl, hp⟩ := dp_r hd
    have nd := scLine.nd
    refine ⟨_, pss_cons (ps_asg (pv 0) (pg_tup rfl (pgs_cons (pg_name (i := 1) nd rfl (.inl rfl)) (pgs_cons (pg_name (i := 2) nd rfl (.inl rfl)) (pgs_cons (pg_name (i := 3) nd rfl (.inl rfl)) pgs_nil)))))
      (pss_one (ps_ret (pe_joined (.cons (pe_fmt (pv 2)) (.cons pe_str (.cons (pe_fmt (pv 1)) (.cons pe_str (.cons (pe_fmt (pv 3)) .nil)))))))), ?_⟩
    have hl := List.all_eq_true.mp lens_all r (mem_allR.mpr ho)
    simp only [Bool.and_eq_true, decide_eq_true_eq] at hl
    obtain ⟨⟨⟨l1, l2⟩, l3⟩, l4⟩ := hl
    have l5 := (line_of6 ho).1
    have big : ∀ {n : Nat}, n ≤ 20 → n ≤ sizeLine := fun h => Nat.le_trans h (by decide)
    have lk : (kd r.k).length ≤ sizeLine := by cases r.k <;> decide +kernel
    refine ⟨_, rfl, p, _, rfl, hp, rfl, _, _, rfl, _, _, rfl, _, _, rfl, rfl, ?_⟩
    exact ⟨_, rfl, .inr ⟨_, rfl, small6 ho.1, _, rfl, big l1, _, rfl, big l2, _, rfl, .inl ⟨_, rfl, lk, _, rfl, big l3, _, rfl, big l4, _, rfl, .inr ⟨_, rfl, small6 ho.2.1, _, rfl, big l5, q⟩⟩⟩⟩
end
end CC
namespace CC
open PySem L2 TL
/-! ### lines by their rules: the dict -/
def prs (rs : List R) (us : List V) : List (Key × V) := List.zipWith (fun (r : R) (v : V) => ((Sum.inr (lineS r) : Key), v)) rs us
theorem prs_get {K : PySem.W.Frag} {H : Hp} : ∀ {rs : List R} {us : List V}, (∀ r ∈ rs, r.ok 6) → DpAll K H us (rs.map R.d) → ∀ {r : R}, r ∈ rs → ∃ v, valV (prs rs us) (Sum.inr (lineS r)) = some v ∧ Dp K H v r.d
  | [], _, _, _, _, h => nomatch h
  | s :: rs, _, ho, .cons (v := v) (vs := vs) h1 h2, r, hr => by
    by_cases e : s = r
    · subst e
      exact ⟨v, valV_pos rfl, h1⟩
    · have ne : ¬ (Sum.inr (lineS s) : Key) = Sum.inr (lineS r) := fun z => e (line_inj (ho s List.mem_cons_self) (ho r hr) (Sum.inr.inj z))
      have hr' : r ∈ rs := by
        rcases List.mem_cons.mp hr with z | z
        · exact absurd z.symm e
        · exact z
      obtain ⟨u, u1, u2⟩ := prs_get (fun x hx => ho x (List.mem_cons_of_mem _ hx)) h2 hr'
      exact ⟨u, (valV_neg (p := (Sum.inr (lineS s), v)) ne).trans u1, u2⟩
theorem val_none {kvs : List (Key × V)} {k : Key} (h : ∀ p ∈ kvs, p.1 ≠ k) : valV kvs k = none := by
  induction kvs with
  | nil => rfl
  | cons p r ih => rw [valV_neg (h p List.mem_cons_self)]; exact ih fun q hq => h q (List.mem_cons_of_mem _ hq)
theorem prs_len {rs : List R} {us : List V} (h : us.length = rs.length) : (prs rs us).length = rs.length := by
  rw [prs, List.length_zipWith, h, Nat.min_self]
theorem prs_step {rs : List R} {us : List V} {i : Nat} {r : R} {v : V} (hr : rs[i]? = some r) (hv : us[i]? = some v) : (prs rs us).take (i + 1) = (prs rs us).take i ++ [(Sum.inr (lineS r), v)] := by
  rw [List.take_succ]
  have : (prs rs us)[i]? = some (Sum.inr (lineS r), v) := by
    rw [prs, List.getElem?_zipWith, hr, hv]
  rw [this]
  rfl
theorem prs_new {rs : List R} {us : List V} {i : Nat} {r : R} (ho : ∀ r ∈ rs, r.ok 6) (nd : rs.Nodup) (hr : rs[i]? = some r) : valV ((prs rs us).take i) (Sum.inr (lineS r)) = none := by
  refine val_none fun p hp e => ?_
  obtain ⟨j, hj⟩ := List.mem_iff_getElem?.mp hp
  have hji : j < i := by
    have := (List.getElem?_eq_some_iff.mp hj).1
    rw [List.length_take] at this
    omega
  rw [List.getElem?_take_of_lt hji, prs, List.getElem?_zipWith] at hj
  cases hs : rs[j]? with
  | none => rw [hs] at hj; cases us[j]? <;> cases hj
  | some s =>
    cases hu : us[j]? with
    | none => rw [hs, hu] at hj; cases hj
    | some u =>
      rw [hs, hu] at hj
      cases hj
      have e2 := line_inj (ho s (List.mem_of_getElem? hs)) (ho r (List.mem_of_getElem? hr)) (Sum.inr.inj e)
      subst e2
      exact absurd (nd_ix nd hs hr) (by omega)
theorem cut_last (xs : List V) (x : V) : cutV (xs ++ [x]) none (some (-1)) = xs := by
  unfold cutV
  have e : HT.sIx (xs ++ [x]).length (xs ++ [x]).length (some (-1)) = xs.length := by
    have := HT.clip_eq (-1) (xs ++ [x]).length (xs ++ [x]).length
    rw [if_pos (by decide)] at this
    have hl : (xs ++ [x]).length = xs.length + 1 := by simp
    omega
  rw [HT.sIx_none, e]
  simp
/-- a dict comprehension over a list -/
theorem dc_list {K : PySem.W.Frag} {a : Addr} {xs : List V} {g : TG} {tt : TT} {tk tv : TE} {vs : List Nat} {σ : L2.St} {H1 : Hp} {D : Addr} {N : Hp → Prop} (Pv : Nat → Hp → Prop) (h0 : Pv 0 (upd H1 D (.dK []))) (hl : ∀ i H, i ≤ xs.length → Pv i H → SqL K H a xs)
    (hs : ∀ i x H, xs[i]? = some x → Pv i H → g x (wipe σ vs) H fun τ H2 => wipe τ vs = wipe σ vs ∧ tt τ H2 fun b H3 => if b = true then tk τ H3 fun y H4 => tv τ H4 fun z H5 => ∃ kvs k, y = kV k ∧ H5 D = some (.dK kvs) ∧ kvs.length < sizeLine ∧ Pv (i + 1) (upd H5 D (.dK (putK kvs k z))) else Pv (i + 1) H3)
    (hd : ∀ H, Pv xs.length H → N H) :
    ∃ W : Nat → Nat → Hp → Prop, (∃ m, W 0 m (upd H1 D (.dK []))) ∧ ∀ i m H, W i m H → ((Itl K a).stop i H ∧ N H) ∨ ((Itl K a).go i H ∧ ∃ Nx : Hp → Prop, (∀ H', Nx H' → ∃ m', m' < m ∧ W (i + 1) m' H') ∧ ∀ x H', (Itl K a).yld i H x H' →
      g x (wipe σ vs) H' fun τ H2 => wipe τ vs = wipe σ vs ∧ tt τ H2 fun b H3 => if b = true then tk τ H3 fun y H4 => tv τ H4 fun z H5 => ∃ kvs k, y = kV k ∧ H5 D = some (.dK kvs) ∧ kvs.length < sizeLine ∧ Nx (upd H5 D (.dK (putK kvs k z))) else Nx H3) := by
  refine ⟨fun i m H => m = xs.length - i ∧ i ≤ xs.length ∧ Pv i H, ⟨xs.length, by simp, Nat.zero_le _, h0⟩, ?_⟩
  rintro i m H ⟨rfl, hi, p⟩
  have q := hl i H hi p
  by_cases lt : i < xs.length
  · refine .inr ⟨⟨xs, xs[i], q, by simp [lt]⟩, Pv (i + 1), fun H' p' => ⟨xs.length - (i + 1), by omega, rfl, lt, p'⟩, fun x H' y => ?_⟩
    obtain ⟨e, y⟩ := y
    subst e
    exact hs i x _ (y xs q) p
  · have e : i = xs.length := by omega
    subst e
    exact .inl ⟨⟨xs, q, Nat.le_refl _⟩, hd H p⟩
abbrev sRulesOf : Stmt := tp 32
def spRulesOf (K : PySem.W.Frag) : Sp := fun vs H Q _ => ∃ (w : Nat) (rs : List R), vs = [.int (w : Int), .str (textS rs)] ∧ w ≤ 6 ∧ (∀ r ∈ rs, r.ok w) ∧ rs.Nodup ∧
  ∀ (p : Addr) (us : List V) (H' : Hp), Same H H' → H p = none → H' p = some (.lst us) → DpAll K (wo H' p) us (rs.map R.d) → Q (.ref p) H'
theorem few_rules {w : Nat} {rs : List R} (hw : w ≤ 6) (ho : ∀ r ∈ rs, r.ok w) (nd : rs.Nodup) : rs.length ≤ 60 := by
  have h := SG.sub_len nd fun r hr => mem_allR.mpr ((ho r hr).up hw)
  have e : (allR 6).length = 60 := by decide +kernel
  omega
section
variable {P : Program} {w : World} {K : PySem.W.Frag} {mg : Str → Option Value} {base : Heap} {kA : Addr}
abbrev nRO : List Str := ["width", "text", "known", "parts", "lines", "rule", "line"]
theorem scRulesOf : FnScope nRO ["width", "text"] (defScope sRulesOf) := ⟨rfl, rfl, rfl, by decide +kernel, rfl, by decide +kernel, by decide +kernel⟩
theorem ok_rulesof {f : Addr} {fd : FuncData} {k : Nat} (F : Fun K "rules_of" "rules_of" sRulesOf f fd) (T : Glb K mg kA) (cE : Cal P w K mg base "every_rule" ["width"] (spEvery K) 1)
 (cL : Cal P w K mg base "line_of" ["rule"] (spLine K) 1) : FnOk P w K mg base CX0 (k + 2) f fd ["width", "text"] (spRulesOf K) := by
  have GE := cE.ok (k + 1) (by omega)
  have GL := cL.ok (k + 1) (by omega)
  refine F.ok scRulesOf (fun vs H Q E h => ?_) (fun cdv A outer s H vs Q E hr h => ?_)
  · obtain ⟨w, rs, rfl, _⟩ := h
    rfl
  · obtain ⟨w, rs, rfl, hw, ho, nd, q⟩ := h
    have hu := hu_of hr
    have hu3 := Nat.lt_of_le_of_lt (Nat.add_le_add_left (by decide : 3 ≤ 64) _) hr.units
    have n := scRulesOf.nd
    have ho6 : ∀ r ∈ rs, r.ok 6 := fun r h => (ho r h).up hw
    refine ⟨_, pss_cons (ps_set (i := 2) n rfl (.inr rfl) (pe_dc (own := [("rule", 5)]) (g := gName 5) (tt := tYes) rfl n (pi_list (pe_call GE hr rfl cE.g cE.kp cE.b .nil pass0 (pa_cons (pv 0) pa_nil))) (blkOk_by (N := nRO) (sc := defScope sRulesOf) (by decide +kernel))
          (fun _ _ _ _ _ => pg_name (i := 5) n rfl (.inl rfl)) (fun _ _ _ _ _ => pts_nil) (fun _ _ _ _ _ => pe_call GL hr rfl cL.g cL.kp cL.b .nil pass0 (pa_cons (pv 5) pa_nil)) (fun _ _ _ _ _ => pv 5)))
      (pss_cons (ps_set (i := 3) n rfl (.inl rfl) (pe_split (pv 1) pe_str))
      (pss_cons (ps_set (i := 4) n rfl (.inl rfl) (pe_slice sl_list (pv 3) po_none (po_some (pe_un un_neg pe_int))))
      (pss_cons (ps_if (PW.pt (pw_or (pt_cmpR op_ne (pe_ix ix_list (pv 3) (pe_un un_neg pe_int) (fun _ _ => rfl)) pe_str (nomark _))
          (pw_or1 (pt_cmpR op_ne (SG.pe_lenSetD rfl hu3 (by rfl) T.len (by rfl) T.set (pv 4)) (pe_callB call_len_seq (by rfl) T.len PySem.boot_len (pa_cons (pv 4) pa_nil)) (nomark _))))) (pss_one (ps_ret pe_non)) pss_nil)
      (pss_cons (ps_if (pt_not (pt_val (pe_callB (cr_all rfl) (by rfl) T.all (by decide +kernel) (pa_cons (pe_lc (own := [("line", 6)]) (g := gName 6) (tt := tYes) rfl n (pi_list (pv 4)) (blkOk_by (N := nRO) (sc := defScope sRulesOf) (by decide +kernel))
          (fun _ _ _ _ _ => pg_name (i := 6) n rfl (.inl rfl)) (fun _ _ _ _ _ => pts_nil) (fun _ _ _ _ _ => pe_cmp (pc_din hu (pv 6) (pv 2)) rfl)) pa_nil)))) (pss_one (ps_ret pe_non)) pss_nil)
      (pss_one (ps_ret (pe_lc (own := [("line", 6)]) (g := gName 6) (tt := tYes) rfl n (pi_list (pv 4)) (blkOk_by (N := nRO) (sc := defScope sRulesOf) (by decide +kernel))
          (fun _ _ _ _ _ => pg_name (i := 6) n rfl (.inl rfl)) (fun _ _ _ _ _ => pts_nil) (fun _ _ _ _ _ => pe_dget hu (pv 2) (pv 6) (fun _ _ => rfl))))))))), ?_⟩
    refine ⟨_, rfl, w, rfl, hw, fun p us H1 s1 np hp dp => ⟨p, rfl, ⟨_, SqL.of hp⟩, fun D nD => ?_⟩⟩
    have dp1 : DpAll K H1 us ((allR w).map R.d) := dps_same (wo_le p) _ _ dp
    have ulen : us.length = (allR w).length := by rw [dps_len dp1, List.length_map]
    have oka : ∀ r ∈ allR w, r.ok 6 := fun r h => (mem_allR.mp h).up hw
    have nda := allR_nodup hw
    have few : (allR w).length ≤ 60 := few_rules hw (fun r h => mem_allR.mp h) nda
    have pD : p ≠ D := ne_of_none hp nD
    refine dc_list (xs := us) (fun i H => Same H1 (wo H D) ∧ H D = some (.dK ((prs (allR w) us).take i))) ⟨?_, upd_same⟩ (fun i H _ z => SqL.of (wo_le D _ _ (z.1 _ _ hp))) ?_ ?_
    · rw [wo_upd]
      exact fun b o e => by rw [wo_ne (ne_of_none e nD)]; exact e
    · rintro i v H2 hv ⟨e1, e2⟩
      obtain ⟨r, hr2, dr⟩ := dps_rat dp1 hv
      refine ⟨rfl, yes_if ?_⟩
      refine ⟨_, rfl, v, r, rfl, dp_same (e1.trans (wo_le D)) _ _ dr, oka r (List.mem_of_getElem? hr2), _, rfl, _, Sum.inr (lineS r), rfl, e2, ?_, ?_, ?_⟩
      · rw [List.length_take]
        exact Nat.lt_of_le_of_lt (Nat.min_le_right _ _) (by rw [prs_len ulen]; exact small1000 (by omega))
      · rw [wo_upd]
        exact e1
      · rw [upd_same, putK_new _ (prs_new oka nda hr2), prs_step hr2 hv]
    rintro H2 ⟨e1, e2⟩
    rw [List.take_of_length_le (by rw [prs_len ulen, ulen]; exact Nat.le_refl _)] at e2
    have dp2 : DpAll K (wo H2 D) us ((allR w).map R.d) := dps_same e1 _ _ dp1
    -- parts
    have tlen := text_len ho6
    have rlen := few_rules hw ho nd
    refine ⟨_, rfl, ⟨_, rfl⟩, _, _, rfl, rfl, by decide +kernel, Nat.le_trans (show (textS rs).length + 2 ≤ 100000 by omega) (by decide), fun p3 n3 => ?_⟩
    rw [split_text ho6, List.map_append]
    have m3 : Same H2 (upd H2 p3 (.lst ((rs.map lineS).map V.str ++ [Str.empty].map V.str))) := same_new n3
    have h3 : (upd H2 p3 (.lst ((rs.map lineS).map V.str ++ [Str.empty].map V.str))) p3 = some (.lst ((rs.map lineS).map V.str ++ [V.str Str.empty])) := upd_same
    generalize upd H2 p3 (.lst ((rs.map lineS).map V.str ++ [Str.empty].map V.str)) = H3 at m3 h3
    -- lines
    refine ⟨_, rfl, _, rfl, _, rfl, p3, _, rfl, SqL.of h3, fun p4 n4 => ?_⟩
    have e4 : cutV ((rs.map lineS).map V.str ++ [V.str Str.empty]) none (some (-1)) = (rs.map lineS).map V.str := cut_last _ _
    rw [e4]
    have m4 : Same H3 (upd H3 p4 (.lst ((rs.map lineS).map V.str))) := same_new n4
    have h4 : (upd H3 p4 (.lst ((rs.map lineS).map V.str))) p4 = some (.lst ((rs.map lineS).map V.str)) := upd_same
    generalize upd H3 p4 (.lst ((rs.map lineS).map V.str)) = H4 at m4 h4
    have h34 := m4 _ _ h3
    have nodl : (rs.map lineS).Nodup := by
      refine List.Pairwise.map _ ?_ ((List.pairwise_iff_forall_sublist.mpr ?_ : rs.Pairwise fun a b => lineS a ≠ lineS b))
      · exact fun a b h => h
      · intro a b hab e
        have ha : a ∈ rs := hab.subset (by simp)
        have hb : b ∈ rs := hab.subset (by simp)
        have e2 := line_inj (ho6 a ha) (ho6 b hb) e
        subst e2
        exact absurd (nd.sublist hab) (by simp)
    have ll : ((rs.map lineS).map V.str).length = rs.length := by rw [List.length_map, List.length_map]
    refine ⟨_, rfl, 1, rfl, p3, _, -1, _, rfl, rfl, SqL.of h34, atI_last _ _, rfl, _, rfl, ?_⟩
    refine iteF ⟨_, rfl, p4, rfl, .inl ⟨rs.map lineS, .inl (SqL.of h4), by rw [List.length_map]; omega, fun n n1 n2 => ?_⟩⟩
    have en : n = (rs.map lineS).length := n2.mpr nodl
    subst en
    refine ⟨_, rfl, p4, _, rfl, .inl (SqL.of h4), rfl, _, rfl, ?_⟩
    have e5 : (!decide (V.int (((rs.map lineS).length : Nat) : Int) = V.int ((((rs.map lineS).map V.str).length : Nat) : Int))) = false := by
      rw [ll, List.length_map]
      simp
    rw [e5]
    refine iteF ?_
    -- all([line in known for line in lines])
    have h24 : H4 D = some (.dK (prs (allR w) us)) := m4 _ _ (m3 _ _ e2)
    have m24 : Same H2 H4 := m3.trans m4
    refine ⟨_, rfl, p4, rfl, ⟨_, SqL.of h4⟩, fun D5 n5 => ?_⟩
    have at_ : ∀ {i : Nat} {x : V}, ((rs.map lineS).map V.str)[i]? = some x → ∃ r, rs[i]? = some r ∧ x = .str (lineS r) := fun {i x} h => by
      rw [List.getElem?_map, List.getElem?_map] at h
      cases z : rs[i]? with
      | none =>
        rw [z] at h
        cases h
      | some r =>
        rw [z] at h
        exact ⟨r, rfl, (Option.some.inj h).symm⟩
    refine lc_list (xs := (rs.map lineS).map V.str) (fun i H => Same H4 (wo H D5) ∧ H D5 = some (.lst ((List.replicate i true).map V.bl)) ∧ i ≤ 60) ⟨?_, upd_same, by omega⟩ (fun i H _ z => SqL.of (wo_le D5 _ _ (z.1 _ _ h4))) ?_ ?_
    · rw [wo_upd]
      exact fun b o e => by rw [wo_ne (ne_of_none e n5)]; exact e
    · rintro i x H5 hx ⟨f1, f2, f3⟩
      obtain ⟨r, hr2, rfl⟩ := at_ hx
      have il : i < rs.length := (List.getElem?_eq_some_iff.mp hr2).1
      obtain ⟨v, v1, _⟩ := prs_get oka dp2 (mem_allR.mpr (ho r (List.mem_of_getElem? hr2)))
      have h5 : H5 D = some (.dK (prs (allR w) us)) := wo_le D5 _ _ (f1 _ _ h24)
      refine ⟨rfl, yes_if ⟨_, rfl, _, rfl, D, _, rfl, DGet.k (k := Sum.inr (lineS r)) h5, _, f2, small1000 (by simp; omega), ?_, ?_, by omega⟩⟩
      · rw [wo_upd]
        exact f1
      · rw [upd_same, v1, List.replicate_succ', List.map_append]
        rfl
    rintro H5 ⟨f1, f2, _⟩
    rw [ll] at f2
    refine ⟨D5, List.replicate rs.length true, rfl, SqL.of f2, _, rfl, ?_⟩
    have e6 : (List.replicate rs.length true).all id = true := by
      rw [List.all_eq_true]
      intro b hb
      rw [List.eq_of_mem_replicate hb]
      rfl
    rw [e6]
    refine iteF ?_
    -- [known[line] for line in lines]
    have m5 : Same H4 H5 := f1.trans (wo_le D5)
    have h45 := m5 _ _ h4
    have h25 := m5 _ _ h24
    refine ⟨_, rfl, p4, rfl, ⟨_, SqL.of h45⟩, fun D6 n6 => ?_⟩
    refine lc_list (xs := (rs.map lineS).map V.str) (fun i H => MadeR K H5 D6 i H (rs.take i)) MadeR.start (fun i H _ z => SqL.of (z.old n6 _ _ h45)) ?_ ?_
    · rintro i x H6 hx p6
      obtain ⟨r, hr2, rfl⟩ := at_ hx
      have il : i < rs.length := (List.getElem?_eq_some_iff.mp hr2).1
      obtain ⟨v, v1, v2⟩ := prs_get oka dp2 (mem_allR.mpr (ho r (List.mem_of_getElem? hr2)))
      have h6 : H6 D = some (.dK (prs (allR w) us)) := p6.old n6 _ _ h25
      have g6 := DGet.k (k := Sum.inr (lineS r)) h6
      rw [v1] at g6
      refine ⟨rfl, yes_if ⟨_, rfl, _, rfl, D, v, rfl, g6, ?_⟩⟩
      rw [SG.take_one hr2]
      refine p6.push (by omega) (Nat.lt_succ_self _) (Same.refl _) (dp_same ?_ _ _ v2)
      have nD6 : wo H2 D D6 = none := by
        cases z : wo H2 D D6 with
        | none => rfl
        | some o => rw [m5 _ _ (m24 _ _ (wo_le D _ _ z))] at n6; cases n6
      exact fun b o e => by
        rw [wo_ne (ne_of_none e nD6)]
        exact p6.old n6 _ _ (m5 _ _ (m24 _ _ (wo_le D _ _ e)))
    · intro H6 p6
      rw [ll, List.take_length] at p6
      obtain ⟨us6, p7⟩ := id p6
      have sH : Same H H6 := s1.trans (e1.trans ((wo_le D).trans (m24.trans (m5.trans (p6.old n6)))))
      refine q D6 us6 H6 sH ?_ p7.lst p7.dat
      cases z : H D6 with
      | none => rfl
      | some o => rw [m5 _ _ (m24 _ _ (wo_le D _ _ (e1 _ _ (s1 _ _ z))))] at n6; cases n6
end
end CC
namespace CC
open PySem L2 TL
abbrev sInit : Stmt := inClass (tp 33) 0
abbrev sRead : Stmt := inClass (tp 33) 10
/-! ### the object -/
def fl0 (w : Nat) : List (Str × V) := putF "span" (.int (w : Int)) []
def flds (w : Nat) (g : Addr) : List (Str × V) := putF "given" (.ref g) (fl0 w)
theorem sg : ¬ (("span" : Str) = "given") := by decide +kernel
theorem flds_eq (w : Nat) (g : Addr) : flds w g = ([("span", V.int (w : Int)), ("given", V.ref g)] : List (Str × V)) := by
  show (if ("span" : Str) = "given" then [(("span" : Str), V.ref g)] else (("span" : Str), V.int (w : Int)) :: putF "given" (V.ref g) []) = _
  rw [if_neg sg]
  rfl
theorem flds_span (w : Nat) (g : Addr) : (flds w g).lookup ("span" : Str) = some (.int (w : Int)) := by
  unfold flds fl0
  rw [lookup_putF, if_neg sg, lookup_putF, if_pos rfl]
theorem flds_given (w : Nat) (g : Addr) : (flds w g).lookup ("given" : Str) = some (.ref g) := by
  unfold flds
  rw [lookup_putF, if_pos rfl]
theorem flds_no (w : Nat) (g : Addr) {m : Str} (h1 : ¬ m = "given") (h2 : ¬ m = "span") : (flds w g).lookup m = none := by
  unfold flds fl0
  rw [lookup_putF, if_neg h1, lookup_putF, if_neg h2]
  rfl
/-- a list of rules stands at x -/
def RulesAt (K : PySem.W.Frag) (C : Addr) (H : Hp) (x : Addr) (w : Nat) (rs : List R) : Prop := ∃ dx g us, H x = some (.ins C dx (flds w g)) ∧ H g = some (.tup us) ∧ DpAll K H us (rs.map R.d)
theorem RulesAt.same {K : PySem.W.Frag} {C : Addr} {H H' : Hp} {x : Addr} {w : Nat} {rs : List R} (h : RulesAt K C H x w rs) (e : Same H H') : RulesAt K C H' x w rs := by
  obtain ⟨dx, g, us, h1, h2, h3⟩ := h
  exact ⟨dx, g, us, e _ _ h1, e _ _ h2, dps_same e _ _ h3⟩
/-- what is asked of the class as the top has made it -/
structure Txt1 (K : PySem.W.Frag) (mg : Str → Option Value) (C : Addr) : Prop where
  cl : Cls K C
  nS : NoAttr K C "span"
  nG : NoAttr K C "given"
  mgC : mg "Rules" = some (.ref C)
/-! ### keys -/
def R.key (r : R) : List Key := [.inr (kd r.k), .inl (r.a : Int), .inl (r.b : Int)]
theorem key_inj {r s : R} (h : r.key = s.key) : r = s := by
  obtain ⟨k, a, b⟩ := r
  obtain ⟨k', a', b'⟩ := s
  simp only [R.key, List.cons.injEq, Sum.inr.injEq, Sum.inl.injEq, and_true] at h
  obtain ⟨h1, h2, h3⟩ := h
  have e1 := kd_inj h1
  have e2 : a = a' := by omega
  have e3 : b = b' := by omega
  rw [e1, e2, e3]
theorem keys_nodup {rs : List R} (h : rs.Nodup) : (rs.map R.key).Nodup := List.Pairwise.map _ (fun a b hab e => hab (key_inj e)) h
theorem dps_keys {K : PySem.W.Frag} {H : Hp} : ∀ {rs : List R} {us : List V}, DpAll K H us (rs.map R.d) → ∃ ks : List (SG.Mem Key), us = ks.map (fun m => V.ref m.1) ∧ ks.map (·.2) = rs.map R.key ∧ ∀ m ∈ ks, SqT K H m.1 (m.2.map kV)
  | [], _, h => by
    cases h
    exact ⟨[], rfl, rfl, fun m hm => nomatch hm⟩
  | r :: rs, _, h => by
    cases h with
    | cons h1 h2 =>
      obtain ⟨p, rfl, hp⟩ := dp_r h1
      obtain ⟨ks, e1, e2, e3⟩ := dps_keys h2
      refine ⟨(p, r.key) :: ks, by rw [e1]; rfl, by rw [List.map_cons, e2]; rfl, fun m hm => ?_⟩
      rcases List.mem_cons.mp hm with z | z
      · rw [z]
        exact hp
      · exact e3 m z
def spInit (K : PySem.W.Frag) (C : Addr) : Sp := fun vs H Q _ => ∃ (x dx : Addr) (w : Nat) (p : Addr) (us : List V) (rs : List R), vs = [.ref x, .int (w : Int), .ref p] ∧ H x = some (.ins C dx []) ∧ 1 ≤ w ∧ w ≤ 6 ∧ H p = some (.tup us) ∧ DpAll K (wo H x) us (rs.map R.d) ∧
  (∀ r ∈ rs, r.ok w) ∧ rs.Nodup ∧ ∀ H', (∀ b o, H b = some o → b ≠ x → H' b = some o) → H' x = some (.ins C dx (flds w p)) → Q .non H'
def spInitR (K : PySem.W.Frag) (C : Addr) : Sp := fun vs H Q E => ∃ ws rest, vs = ws ++ rest ∧ ws.length = 2 ∧ rest.length ≤ sizeLine ∧ ∀ p, H p = Option.none → spInit K C (ws ++ [V.ref p]) (upd H p (.tup rest)) Q E
def spRead (K : PySem.W.Frag) (C : Addr) : Sp := fun vs H Q _ => ∃ (w : Nat) (rs : List R), vs = [.ref C, .int (w : Int), .str (textS rs)] ∧ 1 ≤ w ∧ w ≤ 6 ∧ (∀ r ∈ rs, r.ok w) ∧ rs.Nodup ∧ ∀ (x : Addr) (H' : Hp), Same H H' → H x = none → RulesAt K C H' x w rs → Q (.ref x) H'
/-- C(width, *rules), C.read(width, text) -/
structure MakeR (P : Program) (w : World) (K : PySem.W.Frag) (mg : Str → Option Value) (base : Heap) (C : Addr) (l : Nat) where
  fN : Addr
  M : Mk K C fN
  ok : ∀ k, l ≤ k → FnR P w K mg base CX0 k fN (spInitR K C)
structure ReadR (P : Program) (w : World) (K : PySem.W.Frag) (mg : Str → Option Value) (base : Heap) (C : Addr) (l : Nat) where
  mc : Value
  pD : Addr
  fD : Addr
  rD : ClX.CRead K C mc
  cD : ClX.CMet K C mc "read" pD fD
  ok : ∀ k, l ≤ k → FnR P w K mg base CX0 k fD (spRead K C)
section
variable {P : Program} {w : World} {K : PySem.W.Frag} {mg : Str → Option Value} {base : Heap} {kA : Addr}
abbrev nIn : List Str := ["self", "width", "rules", "rule"]
theorem scInit : FnScope nIn ((["self", "width"] : List Str) ++ ([("rules" : Str)] : List Str)) (defScope sInit) := ⟨rfl, rfl, rfl, by decide +kernel, rfl, by decide +kernel, by decide +kernel⟩
theorem ok_init {f C : Addr} {fd : FuncData} {k : Nat} (F : Fun K "__init__" "Rules.__init__" sInit f fd) (T : Glb K mg kA) (TC : Txt1 K mg C)
 (cW : Cal P w K mg base "is_width" ["thing"] spIsWidth 2) (cR : Cal P w K mg base "is_rule" ["width", "thing"] (spIsRule K) 3) :
    FnR P w K mg base CX0 (k + 4) f (spInitR K C) := by
  have GW := cW.ok (k + 3) (by omega)
  have GR := cR.ok (k + 3) (by omega)
  obtain ⟨oc, od, kV, doc, pm, an, cdv, ct, osl, rfl, lk, hcd⟩ := F.ex
  refine StX.fn_star (ps := ["self", "width"]) (pv := "rules") lk hcd scInit StX.cxUp_none (fun us rest hl => ?_) (fun A outer s H vs Q E hr h => ?_)
  · match us, hl with
    | [a, b], _ =>
      cases rest with
      | nil => rfl
      | cons c r => rfl
  · obtain ⟨x, dx, w, p, us, rs, rfl, hx, w1, w6, hp, dp, ho, nd, q⟩ := h
    have hu3 := Nat.lt_of_le_of_lt (Nat.add_le_add_left (by decide : 3 ≤ 64) _) hr.units
    have n := scInit.nd
    refine ⟨_, PSs.nox (pss_cons (ps_if (pt_not (pt_val (pe_call GW hr rfl cW.g cW.kp cW.b .nil pass0 (pa_cons (pv 1) pa_nil)))) (pss_one ps_never) pss_nil)
      (pss_cons (ps_if (pt_not (pt_val (pe_callB (cr_all rfl) (by rfl) T.all (by decide +kernel) (pa_cons (pe_lc (own := [("rule", 3)]) (g := gName 3) (tt := tYes) rfl n (pi_tup (pv 2)) (blkOk_by (N := nIn) (sc := defScope sInit) (by decide +kernel))
          (fun _ _ _ _ _ => pg_name (i := 3) n rfl (.inl rfl)) (fun _ _ _ _ _ => pts_nil) (fun _ _ _ _ _ => pe_call GR hr rfl cR.g cR.kp cR.b .nil pass0 (pa_cons (pv 1) (pa_cons (pv 3) pa_nil)))) pa_nil)))) (pss_one ps_never) pss_nil)
      (pss_cons (ps_if (pt_cmpR op_ne (SG.pe_lenSetD rfl hu3 (by rfl) T.len (by rfl) T.set (pv 2)) (pe_callB call_len_seq (by rfl) T.len PySem.boot_len (pa_cons (pv 2) pa_nil)) (nomark _)) (pss_one ps_never) pss_nil)
      (pss_cons (ps_fld (pv 0) (pv 1) rfl) (pss_one (ps_fld (pv 0) (pv 2) rfl)))))), ?_⟩
    have rl := few_rules w6 ho nd
    have ul : us.length = rs.length := by rw [dps_len dp, List.length_map]
    refine ⟨_, rfl, w, rfl, w1, w6, _, rfl, iteF ?_⟩
    refine ⟨_, rfl, p, rfl, ⟨_, .inl (.inl hp)⟩, fun D nD => ?_⟩
    refine lc_tup (xs := us) (fun i H1 => Same H (wo H1 D) ∧ H1 D = some (.lst ((List.replicate i true).map V.bl)) ∧ i ≤ 60) ⟨?_, upd_same, by omega⟩ (fun i H1 _ z => .inl (.inl (wo_le D _ _ (z.1 _ _ hp)))) ?_ ?_
    · rw [wo_upd]
      exact fun b o e => by rw [wo_ne (ne_of_none e nD)]; exact e
    · rintro i v H1 hv ⟨e1, e2, e3⟩
      obtain ⟨r, hr2, dr⟩ := dps_rat dp hv
      have il : i < rs.length := (List.getElem?_eq_some_iff.mp hr2).1
      refine ⟨rfl, yes_if ⟨_, rfl, _, rfl, w, v, r, rfl, dp_same ((wo_le x).trans (e1.trans (wo_le D))) _ _ dr, ho r (List.mem_of_getElem? hr2), _, e2, small1000 (by simp; omega), ?_, ?_, by omega⟩⟩
      · rw [wo_upd]
        exact e1
      · rw [upd_same, List.replicate_succ', List.map_append]
        rfl
    rintro H1 ⟨e1, e2, _⟩
    rw [ul] at e2
    refine ⟨D, List.replicate rs.length true, rfl, SqL.of e2, _, rfl, ?_⟩
    have e6 : (List.replicate rs.length true).all id = true := by
      rw [List.all_eq_true]
      intro b hb
      rw [List.eq_of_mem_replicate hb]
      rfl
    rw [e6]
    refine iteF ?_
    have m1 : Same H H1 := e1.trans (wo_le D)
    obtain ⟨ks, k1, k2, k3⟩ := dps_keys (dps_same ((wo_le x).trans m1) _ _ dp)
    have hp1 := m1 _ _ hp
    have kl : ks.length = rs.length := by
      rw [← ul, k1, List.length_map]
    refine ⟨_, rfl, p, rfl, .inr ⟨ks, .inr (by rw [← k1]; exact .inl (.inl hp1)), k3, by omega, fun m z1 z2 => ?_⟩⟩
    have em : m = ks.length := z2.mpr (by rw [k2]; exact keys_nodup nd)
    subst em
    refine ⟨_, rfl, p, us, rfl, .inr (.inl (.inl hp1)), rfl, _, rfl, ?_⟩
    have e7 : (!decide (V.int (ks.length : Int) = V.int (us.length : Int))) = false := by
      rw [kl, ul]
      simp
    rw [e7]
    refine iteF ?_
    have hx1 := m1 _ _ hx
    have px : p ≠ x := ne_of hp hx (by intro z; cases z)
    refine ⟨_, rfl, _, rfl, x, C, dx, _, rfl, hx1, TC.cl, TC.nS, (by show 0 < 1000; decide), ?_⟩
    refine ⟨_, rfl, _, rfl, x, C, dx, _, rfl, upd_same, TC.cl, TC.nG, (by show 1 < 1000; decide), ?_⟩
    refine q _ (fun b o e hb => ?_) upd_same
    rw [upd_ne hb, upd_ne hb]
    exact m1 _ _ e
abbrev nRd : List Str := ["cls", "width", "text", "found"]
theorem scRead : FnScope nRd ["cls", "width", "text"] (defScope sRead) := ⟨rfl, rfl, rfl, by decide +kernel, rfl, by decide +kernel, by decide +kernel⟩
theorem ok_read {f C : Addr} {fd : FuncData} {k : Nat} (F : Fun K "read" "Rules.read" sRead f fd) (T : Glb K mg kA) (m : MakeR P w K mg base C 4)
 (cW : Cal P w K mg base "is_width" ["thing"] spIsWidth 2)
 (cO : Cal P w K mg base "rules_of" ["width", "text"] (spRulesOf K) 2) 
 : FnOk P w K mg base CX0 (k + 6) f fd ["cls", "width", "text"] (spRead K C) := by
  have GW := cW.ok (k + 5) (by omega)
  have GO := cO.ok (k + 5) (by omega)
  have GN := m.ok (k + 4) (by omega)
  refine F.ok scRead (fun vs H Q E h => ?_) (fun cdv A outer s H vs Q E hr h => ?_)
  · obtain ⟨w, rs, rfl, _⟩ := h
    rfl
  · obtain ⟨w, rs, rfl, w1, w6, ho, nd, q⟩ := h
    have n := scRead.nd
    refine ⟨_, pss_cons (ps_if (pt_not (pt_val (pe_call GW hr rfl cW.g cW.kp cW.b .nil pass0 (pa_cons (pv 1) pa_nil)))) (pss_one ps_never) pss_nil)
      (pss_cons (ps_if (pt_not (pt_val (pe_callB call_isi (by rfl) T.isi (by decide +kernel) (pa_cons (pv 2) (pa_cons (pe_bltn (v := .ty "str") (by rfl) T.str (by decide +kernel) rfl) pa_nil))))) (pss_one ps_never) pss_nil)
      (pss_cons (ps_set (i := 3) n rfl (.inl rfl) (pe_call GO hr rfl cO.g cO.kp cO.b .nil pass0 (pa_cons (pv 1) (pa_cons (pv 2) pa_nil))))
      (pss_cons (ps_if (pt_cmpR op_isN (pv 3) pe_non (nomark _)) (pss_one ps_never) pss_nil)
      (pss_one (ps_ret (pe_makeLS (i := 0) m.M GN hr rfl (.inl rfl) pass0 (pa_cons (pv 1) (StX.pa_star (pv 3) pa_nil)))))))), ?_⟩
    refine ⟨_, rfl, w, rfl, w1, w6, _, rfl, iteF ?_⟩
    refine ⟨_, rfl, _, _, _, _, true, rfl, .ty _, .base (.str _), kit_ty (by decide +kernel), _, rfl, iteF ?_⟩
    refine ⟨_, rfl, _, rfl, w, rs, rfl, w6, ho, nd, fun p us H1 s1 np hp dp => ?_⟩
    refine ⟨_, rfl, rfl, _, rfl, iteF ?_⟩
    have rl := few_rules w6 ho nd
    have ul : us.length = rs.length := by rw [dps_len dp, List.length_map]
    refine ⟨rfl, _, rfl, _, rfl, p, us, rfl, .inr (SqL.of hp), fun x dx nx ndx ne => ?_⟩
    rw [List.append_nil]
    refine ⟨[.ref x, .int (w : Int)], us, rfl, rfl, Nat.le_of_lt (small1000 (by omega)), fun g ng => ?_⟩
    have gx : x ≠ g := fun z => by rw [← z, upd_same] at ng; cases ng
    have gdx : dx ≠ g := fun z => by rw [← z, upd_ne ne, upd_same] at ng; cases ng
    have ng1 : H1 g = none := by
      rw [upd_ne gx.symm, upd_ne gdx.symm] at ng
      exact ng
    have keep : ∀ b o, H1 b = some o → (upd (upd (upd H1 dx (.own x)) x (.ins C dx [])) g (.tup us)) b = some o := fun b o e => by
      rw [upd_ne (ne_of_none e ng1), upd_ne (ne_of_none e nx), upd_ne (ne_of_none e ndx)]
      exact e
    refine ⟨x, dx, w, g, us, rs, rfl, by rw [upd_ne gx]; exact upd_same, w1, w6, upd_same, dps_same ?_ _ _ dp, ho, nd, fun H' k1 k2 => ⟨rfl, q x H' ?_ ?_ ⟨dx, g, us, k2, ?_, ?_⟩⟩⟩
    · exact fun b o e => by
        have e1 := wo_le p _ _ e
        rw [wo_ne (ne_of_none e1 nx)]
        exact keep b o e1
    · exact fun b o e => k1 b o (keep b o (s1 _ _ e)) (ne_of_none (s1 _ _ e) nx)
    · cases z : H x with
      | none => rfl
      | some o => rw [s1 _ _ z] at nx; cases nx
    · exact k1 g _ upd_same gx.symm
    · refine dps_same (fun b o e => ?_) _ _ dp
      have e1 := wo_le p _ _ e
      exact k1 b o (keep b o e1) (ne_of_none e1 nx)
end
end CC
namespace CC
open PySem L2
/-! ### steps down -/
def down (r : R) : Nat × Nat := if r.k then (r.a, r.b) else (r.b, r.a)
abbrev sDown : Stmt := tp 25
def spDown (K : PySem.W.Frag) : Sp := fun vs H Q _ => ∃ (g : Addr) (us : List V) (rs : List R), vs = [.ref g] ∧ SqT K H g us ∧ DpAll K H us (rs.map R.d) ∧ rs.length ≤ 60 ∧ NewF prd K H (rs.map down) Q
theorem kd_eq (k : Bool) : decide (V.str (kd k) = V.str "settles") = k := by
  cases k <;> decide +kernel
section
variable {P : Program} {w : World} {K : PySem.W.Frag} {mg : Str → Option Value} {base : Heap} {kA : Addr}
abbrev nDn : List Str := ["rules", "kind", "a", "b"]
theorem scDown : FnScope nDn ["rules"] (defScope sDown) := ⟨rfl, rfl, rfl, by decide +kernel, rfl, by decide +kernel, by decide +kernel⟩
theorem ok_down {f : Addr} {fd : FuncData} {k : Nat} (F : Fun K "steps_down" "steps_down" sDown f fd) : FnOk P w K mg base CX0 (k + 1) f fd ["rules"] (spDown K) := by
  refine F.ok scDown (fun vs H Q E h => ?_) (fun cdv A outer s H vs Q E hr h => ?_)
  · obtain ⟨g, us, rs, rfl, _⟩ := h
    rfl
  · obtain ⟨g, us, rs, rfl, hg, dp, hl, q⟩ := h
    have n := scDown.nd
    refine ⟨_, pss_one (ps_ret (pe_lc (own := [("kind", 1), ("a", 2), ("b", 3)]) (g := g3 K 1 2 3) (tt := tYes) rfl n (pi_tup (pv 0)) (blkOk_by (N := nDn) (sc := defScope sDown) (by decide +kernel))
      (fun _ _ _ _ _ => pg_tup rfl (pgs_cons (pg_name (i := 1) n rfl (.inl rfl)) (pgs_cons (pg_name (i := 2) n rfl (.inl rfl)) (pgs_cons (pg_name (i := 3) n rfl (.inl rfl)) pgs_nil)))) (fun _ _ _ _ _ => pts_nil)
      (fun _ _ _ _ _ => pe_ifExp (pt_cmpR op_eq (pv 1) pe_str (nomark _)) (pe_tup (pa_cons (pv 2) (pa_cons (pv 3) pa_nil))) (pe_tup (pa_cons (pv 3) (pa_cons (pv 2) pa_nil)))))), ?_⟩
    have ul : us.length = rs.length := by rw [dps_len dp, List.length_map]
    refine ⟨_, rfl, g, rfl, ⟨_, hg⟩, fun D nD => ?_⟩
    refine lc_tup (xs := us) (fun i H1 => MadeF prd K H D i H1 ((rs.take i).map down)) MadeF.start (fun i H1 _ z => same_t (z.old nD) hg) ?_ ?_
    · intro i v H1 hv p
      obtain ⟨r, hr2, dr⟩ := dps_rat dp hv
      have il : i < rs.length := (List.getElem?_eq_some_iff.mp hr2).1
      obtain ⟨t, rfl, ht⟩ := dp_r (dp_same (p.old nD) _ _ dr)
      refine ⟨t, _, rfl, ht, rfl, _, _, rfl, _, _, rfl, _, _, rfl, rfl, rfl, yes_if ?_⟩
      refine ⟨_, rfl, rfl, _, rfl, ?_⟩
      rw [SG.take_one hr2, List.map_append]
      rw [show decide (V.str (kd r.k) = V.str (Str.ofString "settles")) = r.k from kd_eq r.k]
      cases hk : r.k with
      | true =>
        refine iteT ⟨_, rfl, _, rfl, (by show 2 ≤ sizeLine; decide), fun t2 n2 => ?_⟩
        refine p.push (r := down r) (by omega) (Nat.lt_succ_self _) (same_new n2) (p_dp ?_)
        have e : down r = (r.a, r.b) := by unfold down; rw [hk]; rfl
        rw [e]
        exact p.tup n2
      | false =>
        refine iteF ⟨_, rfl, _, rfl, (by show 2 ≤ sizeLine; decide), fun t2 n2 => ?_⟩
        refine p.push (r := down r) (by omega) (Nat.lt_succ_self _) (same_new n2) (p_dp ?_)
        have e : down r = (r.b, r.a) := by unfold down; rw [hk]; rfl
        rw [e]
        exact p.tup n2
    · intro H1 p
      rw [ul, List.take_length] at p
      exact p.out nD (Same.refl _) q
end
end CC
namespace CC
/-- what law and document say of a rule and rows -/
def HoldsR (rows : List (List Nat)) (r : R) : Prop :=
  if r.k then ∀ x ∈ rows, ∀ y ∈ rows, y.getD r.a 0 = x.getD r.a 0 → y.getD r.b 0 = x.getD r.b 0
  else ∀ x ∈ rows, ∃ y ∈ rows, y.getD r.b 0 = x.getD r.a 0
theorem firsts_nodup : ∀ (n : Nat) (l : List Nat), l.length = n → (firsts l).Nodup
  | 0, l, h => by
    rw [List.length_eq_zero_iff.mp h]
    simp [firsts]
  | n + 1, l, h => by
    have ne : l ≠ [] := fun e => by rw [e] at h; cases h
    obtain ⟨u, x, rfl⟩ : ∃ u x, l = u ++ [x] := ⟨_, _, (List.dropLast_concat_getLast ne).symm⟩
    have hu : u.length = n := by
      rw [List.length_append, List.length_singleton] at h
      omega
    have ih := firsts_nodup n u hu
    rw [firsts_snoc]
    by_cases e : x ∈ firsts u
    · rw [if_pos e]
      exact ih
    · rw [if_neg e]
      refine List.nodup_append.mpr ⟨ih, by simp, fun y hy z hz ez => ?_⟩
      rw [List.mem_singleton.mp hz] at ez
      exact e (ez ▸ hy)
theorem nodup_firsts (l : List Nat) : (firsts l).Nodup := firsts_nodup _ l rfl
theorem sub_len : ∀ {u v : List Nat}, u.Nodup → (∀ x ∈ u, x ∈ v) → u.length ≤ v.length
  | [], _, _, _ => Nat.zero_le _
  | x :: u, v, h, s => by
    obtain ⟨h1, h2⟩ := List.nodup_cons.mp h
    have hx := s x List.mem_cons_self
    have := sub_len (u := u) (v := v.erase x) h2 fun y hy => (List.mem_erase_of_ne (a := y) (b := x) fun e => h1 (by rw [← e]; exact hy)).mpr (s y (List.mem_cons_of_mem _ hy))
    have l := List.length_erase_of_mem hx
    have : 0 < v.length := List.length_pos_of_mem hx
    rw [List.length_cons]
    omega
theorem dn_sub {u v : List Nat} (s : ∀ x ∈ u, x ∈ v) : dn u ≤ dn v := sub_len (nodup_firsts u) fun x hx => mem_firsts.mpr (s x (mem_firsts.mp hx))
theorem dn_img {u v : List Nat} (g : Nat → Nat) (s : ∀ x ∈ u, ∃ y ∈ v, g y = x) : dn u ≤ dn v := by
  have : (firsts u).length ≤ ((firsts v).map g).length := sub_len (nodup_firsts u) fun x hx => by
    obtain ⟨y, hy, e⟩ := s x (mem_firsts.mp hx)
    exact List.mem_map.mpr ⟨y, mem_firsts.mpr hy, e⟩
  rwa [List.length_map] at this
theorem holds_dn {rows : List (List Nat)} {r : R} (h : HoldsR rows r) : dn (colN rows (down r).2) ≤ dn (colN rows (down r).1) := by
  obtain ⟨k, a, b⟩ := r
  cases k
  · show dn (colN rows a) ≤ dn (colN rows b)
    refine dn_sub fun x hx => ?_
    obtain ⟨r, hr, rfl⟩ := List.mem_map.mp hx
    obtain ⟨y, hy, e⟩ := (h : ∀ x ∈ rows, ∃ y ∈ rows, y.getD b 0 = x.getD a 0) r hr
    exact List.mem_map.mpr ⟨y, hy, e⟩
  · show dn (colN rows b) ≤ dn (colN rows a)
    have h' : ∀ x ∈ rows, ∀ y ∈ rows, y.getD a 0 = x.getD a 0 → y.getD b 0 = x.getD b 0 := h
    refine dn_img (fun v => ((rows.find? fun r => r.getD a 0 == v).map fun r => r.getD b 0).getD 0) fun x hx => ?_
    obtain ⟨r, hr, rfl⟩ := List.mem_map.mp hx
    refine ⟨r.getD a 0, List.mem_map.mpr ⟨r, hr, rfl⟩, ?_⟩
    cases e : rows.find? (fun s => s.getD a 0 == r.getD a 0) with
    | none =>
      have := List.find?_eq_none.mp e r hr
      simp at this
    | some y =>
      have e1 := List.find?_some e
      have e2 := List.mem_of_find?_eq_some e
      exact h' r hr y e2 (eq_of_beq e1)
/-- columns a walk leads to have no more values -/
theorem rch_dn {rows : List (List Nat)} {rs : List R} (h : ∀ r ∈ rs, HoldsR rows r) : ∀ {a b : Nat}, (a, b) ∈ rs.map down → dn (colN rows b) ≤ dn (colN rows a) := by
  intro a b hab
  obtain ⟨r, hr, e⟩ := List.mem_map.mp hab
  have := holds_dn (h r hr)
  rw [e] at this
  exact this
end CC
namespace CC
open PySem L2 TL
theorem lc_zipT {K : PySem.W.Frag} {a b : Addr} {xs ys : List V} {g : TG} {tt : TT} {te : TE} {vs : List Nat} {σ : L2.St} {H1 : Hp} {D : Addr} {Qd : Hp → Prop} (hn : ys.length ≤ xs.length) (Pv : Nat → Hp → Prop) (h0 : Pv 0 (upd H1 D (.lst []))) (hl : ∀ i H, Pv i H → SqT K H a xs ∧ SqT K H b ys)
    (hs : ∀ i x y T H, xs[i]? = some x → ys[i]? = some y → Pv i H → H T = none → g (.ref T) (wipe σ vs) (upd H T (.tup [x, y])) fun σ2 H2 => wipe σ2 vs = wipe σ vs ∧ tt σ2 H2 fun b H3 =>
      if b = true then te σ2 H3 fun y H4 => ∃ acc, H4 D = some (.lst acc) ∧ acc.length < sizeLine ∧ Pv (i + 1) (upd H4 D (.lst (acc ++ [y]))) else Pv (i + 1) H3) (hd : ∀ H, Pv ys.length H → Qd H) :
    ∃ W : Nat → Nat → Hp → Prop, (∃ m, W 0 m (upd H1 D (.lst []))) ∧ ∀ i m H, W i m H →
      ((RZ.ItzT K a b).stop i H ∧ Qd H) ∨ ((RZ.ItzT K a b).go i H ∧ ∃ Nx : Hp → Prop, (∀ H', Nx H' → ∃ m', m' < m ∧ W (i + 1) m' H') ∧ ∀ x H', (RZ.ItzT K a b).yld i H x H' → g x (wipe σ vs) H' fun σ2 H2 => wipe σ2 vs = wipe σ vs ∧ tt σ2 H2 fun b H3 =>
        if b = true then te σ2 H3 fun y H4 => ∃ acc, H4 D = some (.lst acc) ∧ acc.length < sizeLine ∧ Nx (upd H4 D (.lst (acc ++ [y]))) else Nx H3) := by
  refine ⟨fun i m H => m = ys.length - i ∧ i ≤ ys.length ∧ Pv i H, ⟨ys.length, by simp, Nat.zero_le _, h0⟩, ?_⟩
  rintro i m H ⟨rfl, hi, p⟩
  obtain ⟨q1, q2⟩ := hl i H p
  by_cases lt : i < ys.length
  · have g1 : xs[i]? = some xs[i] := List.getElem?_eq_getElem (by omega)
    have g2 : ys[i]? = some ys[i] := List.getElem?_eq_getElem lt
    refine .inr ⟨⟨xs, ys, _, _, q1, q2, g1, g2⟩, Pv (i + 1), fun H' p' => ⟨ys.length - (i + 1), by omega, rfl, lt, p'⟩, fun v H' y => ?_⟩
    obtain ⟨T, x, y, rfl, nT, rfl, h1, h2⟩ := y
    exact hs i x y T H (h1 xs q1) (h2 ys q2) p nT
  · have e : i = ys.length := by omega
    subst e
    exact .inl ⟨⟨xs, ys, q1, q2, .inr (Nat.le_refl _)⟩, hd H p⟩
theorem iteT' {p q : Prop} {b : Bool} (h : b = true) (x : p) : if b = true then p else q := by
  rw [if_pos h]
  exact x
theorem iteF' {p q : Prop} {b : Bool} (h : b = false) (x : q) : if b = true then p else q := by
  rw [if_neg (by rw [h]; decide)]
  exact x
end CC
/-! the walk over a set that set - set takes -/
namespace SD
open PySem PySem.Spec PyProof.Rows L2
section
variable {P : Program} {w : World} {A : Around} {E : Value → Shared → Prop} {s : Shared} {a : Addr} {o : Obj} {es : Array (Int × Value)} {ep : Nat} {t : SetTable}
theorem walk_any {Q : Array (Int × Value) → Shared → Prop} (ho : s.heap.get? a = some o) (hd : o.data = .set es ep t) (hf : t.fits es.size = true) (hl : w.params.followText "set-order" = true ∨ t.led = true)
    (h : ∀ out d, out.toList.Perm es.toList → Q out { s with drawn := d }) : wpAny (model P w) A (setWalk a) Q E s := by
  have stay : ∀ out : Array (Int × Value), out.toList.Perm es.toList → Q out s := fun out q => h out s.drawn q
  unfold setWalk
  refine wpAny_bind (wpAny_setState_of ho hd hf ?_)
  dsimp only
  refine wpAny_bind (wpAny_byText ?_)
  by_cases bt : w.params.followText "set-order" = true
  · refine wp_if_pos bt ?_
    refine wpAny_bind (wpAny_askSetting ?_)
    exact wpAny_pure (stay _ (pick_perm _ _))
  · refine wp_if_neg bt ?_
    have led := hl.resolve_left bt
    split
    · refine wpAny_bind (drawOrder_at _ _ _ _ (by simp) fun ys d q => ?_)
      exact wpAny_pure (h _ d (by simpa using q))
    · refine wpAny_bind (m := (if (!t.led && decide (es.size > 1)) = true then unsupported "set:maker-not-led" else pure ())) (wp_if_neg (by rw [led]; simp) (wpAny_pure ?_))
      exact wpAny_pure (stay _ (List.Perm.refl _))
theorem forIn_pure {α : Type} {f : α → Option Bool × Unit → Sem (ForInStep (Option Bool × Unit))} : ∀ {l : List α}, (∀ e ∈ l, f e (none, ()) = pure (.yield (none, ()))) → (forIn l (none, ()) f : Sem (Option Bool × Unit)) = pure (none, ())
  | [], _ => rfl
  | e :: l, h => by
    rw [List.forIn_cons, h e List.mem_cons_self, pure_bind]
    exact forIn_pure fun x hx => h x (List.mem_cons_of_mem _ hx)
theorem forIn_still {M : Model} {F : Addr → Option Bool × Unit → Sem (ForInStep (Option Bool × Unit))} : ∀ {sets : List Addr} {Q : Option Bool × Unit → Shared → Prop}, (∀ a ∈ sets, ∀ Q' : ForInStep (Option Bool × Unit) → Shared → Prop, Q' (.yield (none, ())) s → wpAny M A (F a (none, ())) Q' E s) → Q (none, ()) s → wpAny M A (forIn sets (none, ()) F) Q E s
  | [], _, _, h => wpAny_pure h
  | a :: l, Q, hs, h => by
    rw [List.forIn_cons]
    exact wpAny_bind (hs a List.mem_cons_self _ (forIn_still (fun b hb => hs b (List.mem_cons_of_mem _ hb)) h))
theorem quiet_sets {Q : Bool → Shared → Prop} {sets : List Addr} (hs : ∀ a ∈ sets, ∃ S n, SetR w s.heap a S n) (h : Q true s) : wpAny (model P w) A (setsQuiet sets) Q E s := by
  unfold setsQuiet
  refine wpAny_bind (forIn_still (fun a ha Q' h' => ?_) (wpAny_pure h))
  obtain ⟨S, n, o, es, ep, t, ho, hex, hd, g, nd, m, hb, hf, hn, hr, hl⟩ := hs a ha
  refine wpAny_bind (wpAny_setEntries_of ho hd hf ?_)
  rw [← Array.forIn_toList, forIn_pure fun e he => ?_]
  · exact wpAny_bind (wpAny_pure (wpAny_pure h'))
  · obtain ⟨k, tk, e2, _⟩ := g e he
    obtain ⟨e1, v⟩ := e
    dsimp only at e2
    subst e2
    rfl
/-- what a walk gives: the members, each once -/
def Outs (S : Int → Bool) (out : Array (Int × Value)) : Prop := (∀ e ∈ out.toList, GoodE e) ∧ (out.toList.map keyOf).Nodup ∧ ∀ k, S k = true ↔ k ∈ out.toList.map keyOf
theorem Outs.perm {S : Int → Bool} {out es : Array (Int × Value)} (h : Outs S es) (p : out.toList.Perm es.toList) : Outs S out :=
  ⟨fun e he => h.1 e (p.mem_iff.mp he), (p.map keyOf).nodup_iff.mpr h.2.1, fun k => (h.2.2 k).trans (p.map keyOf).mem_iff.symm⟩
theorem walk_unseen {b r : Addr} {S Sb Sr : Int → Bool} {n nb nr : Nat} {Q : Array (Int × Value) → Shared → Prop} (Ra : SetR w s.heap a S n) (Rb : SetR w s.heap b Sb nb) (Rr : SetR w s.heap r Sr nr)
    (h : ∀ out h' d, Outs S out → Heap.SameBut r s.heap h' → SetR w h' r Sr nr → Q out { s with heap := h', drawn := d }) : wpAny (model P w) A (setWalkUnseen a [b, r] (some r)) Q E s := by
  obtain ⟨o, es, ep, t, ho, hex, hd, g, nd, m, hb, hf, hn, hr, hl⟩ := id Ra
  have oe : Outs S es := ⟨g, nd, m⟩
  unfold setWalkUnseen
  refine wpAny_bind (wpAny_setState_of ho hd hf ?_)
  dsimp only
  refine wpAny_bind (wpAny_byText ?_)
  split
  · exact walk_any ho hd hf hl fun out d p => h out s.heap d (oe.perm p) (Heap.SameBut.refl _ _) Rr
  · rename_i nb
    refine wpAny_bind (quiet_sets (fun c hc => ?_) ?_)
    · have e' : c = a ∨ c = b ∨ c = r := by simpa using hc
      rcases e' with rfl | rfl | rfl
      · exact ⟨_, _, Ra⟩
      · exact ⟨_, _, Rb⟩
      · exact ⟨_, _, Rr⟩
    refine wp_if_neg (by decide) ?_
    refine wpAny_bind (wpAny_rule ?_)
    obtain ⟨o2, es2, ep2, t2, ho2, hex2, hd2, g2, nd2, m2, hb2, hf2, hn2, hr2, hl2⟩ := id Rr
    refine wpAny_bind (wpAny_setState_of ho2 hd2 hf2 ?_)
    try dsimp only
    split
    · refine wpAny_bind (wpAny_storeSet_of ho2 hd2 ?_ (fits_of_scanBound hb2))
      refine wpAny_pure (h es _ s.drawn oe (Heap.SameBut.update _ _ _) ?_)
      refine ⟨_, es2, ep2 + 1, _, store_at ho2 hd2, hex2, rfl, g2, nd2, m2, hb2, hf2, hn2, hr2, ?_⟩
      by_cases bt : w.params.followText "set-order" = true
      · exact .inl bt
      · refine .inr ?_
        show (t2.led && t.led) = true
        rw [hl.resolve_left bt, hl2.resolve_left bt]
        rfl
    · exact wpAny_pure (h es s.heap s.drawn oe (Heap.SameBut.refl _ _) Rr)
end
end SD
namespace SD
open PySem PySem.Spec PyProof.Rows L2
section
variable {P : Program} {w : World} {A : Around} {E : Value → Shared → Prop} {s : Shared} {a : Addr}
theorem sub_set : isSubtype (.type "set") (.type "set") = pure true := by rw [isSubtype_type]; kernel_rfl
theorem type_set {S : Int → Bool} {n : Nat} (R : SetR w s.heap a S n) : s.TypeIs (.ref a) "set" := by
  obtain ⟨o, es, ep, t, ho, hex, _⟩ := R
  exact ⟨o, ho, hex.1⟩
theorem any_set {S : Int → Bool} {n : Nat} {Q : Bool → Shared → Prop} (R : SetR w s.heap a S n) (h : Q true s) : wpAny (model P w) A (Builtin.Frozenset.isAnySet (.ref a)) Q E s := by
  unfold Builtin.Frozenset.isAnySet
  refine wpAny_bind (wpAny_isInstance (T := "set") (b := true) (type_set R) sub_set ?_)
  exact wpAny_pure h
theorem size_set {S : Int → Bool} {n : Nat} {Q : Nat → Shared → Prop} (R : SetR w s.heap a S n) (h : Q n s) : wpAny (model P w) A (Builtin.Frozenset.sizeOf a) Q E s := by
  obtain ⟨o, es, ep, t, ho, hex, hd, g, nd, m, hb, hf, hn, hr, hl⟩ := R
  unfold Builtin.Frozenset.sizeOf
  refine wpAny_bind (wpAny_setEntries_of ho hd hf (wpAny_pure ?_))
  rw [hn]
  exact h
theorem base_set {S : Int → Bool} {n : Nat} {Q : Value → Shared → Prop} (R : SetR w s.heap a S n) (h : Q (.type "set") s) : wpAny (model P w) A (Builtin.Frozenset.baseOf a) Q E s := by
  unfold Builtin.Frozenset.baseOf
  exact wpAny_bind (wpAny_isInstance (T := "set") (b := true) (type_set R) sub_set (wpAny_pure h))
theorem SetR.cong {h : Heap} {S S' : Int → Bool} {n : Nat} (R : SetR w h a S n) (e : ∀ k, S k = S' k) : SetR w h a S' n := by
  have : S = S' := funext e
  rw [← this]
  exact R
theorem forIn_sub {M : Model} {r : Addr} {Sb : Int → Bool} {F : Int × Value → PUnit → Sem (ForInStep PUnit)} {B : Heap → Prop} (hB : ∀ h h', B h → Heap.SameBut r h h' → B h')
    (hF : ∀ (e : Int × Value) (s : Shared) (S0 : Int → Bool) (n0 : Nat) (Q' : ForInStep PUnit → Shared → Prop), GoodE e → B s.heap → SetR w s.heap r S0 n0 → n0 + 1 < scanBound →
      (∀ h' n1, Heap.SameBut r s.heap h' → n1 ≤ n0 + 1 → SetR w h' r (fun k => S0 k || (decide (k = keyOf e) && !Sb k)) n1 → Q' (.yield PUnit.unit) { s with heap := h' }) → wpAny M A (F e PUnit.unit) Q' E s) :
    ∀ (l : List (Int × Value)) (s : Shared) (S0 : Int → Bool) (n0 : Nat) (Q : PUnit → Shared → Prop), (∀ e ∈ l, GoodE e) → B s.heap → SetR w s.heap r S0 n0 → n0 + l.length < scanBound →
      (∀ h' n1, Heap.SameBut r s.heap h' → n1 ≤ n0 + l.length → SetR w h' r (fun k => S0 k || (decide (k ∈ l.map keyOf) && !Sb k)) n1 → Q PUnit.unit { s with heap := h' }) → wpAny M A (forIn l PUnit.unit F) Q E s
  | [], s, S0, n0, Q, _, _, R, _, h => by
    refine wpAny_pure (h s.heap n0 (Heap.SameBut.refl _ _) (Nat.le_refl _) (SetR.cong R fun k => ?_))
    simp
  | e :: l, s, S0, n0, Q, hg, hb, R, hn, h => by
    rw [List.length_cons] at hn
    rw [List.forIn_cons]
    refine wpAny_bind (hF e s S0 n0 _ (hg e List.mem_cons_self) hb R (by omega) fun h1 n1 sb1 le1 R1 => ?_)
    refine forIn_sub hB hF l _ _ n1 Q (fun x hx => hg x (List.mem_cons_of_mem _ hx)) (hB _ _ hb sb1) R1 (by omega) fun h2 n2 sb2 le2 R2 => ?_
    refine h h2 n2 (sb1.trans sb2) (by rw [List.length_cons]; omega) (SetR.cong R2 fun k => ?_)
    cases S0 k <;> cases Sb k <;> by_cases z1 : k = keyOf e <;> by_cases z2 : k ∈ l.map keyOf <;> simp [z1, z2]
theorem diff_any {b : Addr} {S Sb : Int → Bool} {n nb : Nat} {nm : String} {Q : Value → Shared → Prop} (Ra : SetR w s.heap a S n) (Rb : SetR w s.heap b Sb nb) (small : n / 4 ≤ nb)
    (h : ∀ h' d n1, (∀ c o, s.heap.get? c = some o → h'.get? c = some o) → n1 ≤ n → SetR w h' s.heap.objs.size (fun k => S k && !Sb k) n1 → Q (.ref s.heap.objs.size) { s with heap := h', drawn := d }) :
    wpAny (model P w) A (Builtin.Frozenset.difference nm a (.ref b)) Q E s := by
  unfold Builtin.Frozenset.difference
  refine wpAny_bind (any_set Rb ?_)
  simp only [Bool.not_true, Bool.false_eq_true, if_false, Bool.false_and, if_true]
  refine wpAny_bind (wpAny_of_eq (a := b) rfl ?_)
  refine wpAny_bind (size_set Rb ?_)
  refine wpAny_bind (size_set Ra ?_)
  refine wp_if_neg (by omega) ?_
  refine wpAny_bind (base_set Ra ?_)
  refine wpAny_bind (PpSet.newSet_ok ?_)
  refine wpAny_bind (wpAny_of_eq (a := s.heap.objs.size) rfl ?_)
  have kp : ∀ c o, s.heap.get? c = some o → (s.heap.push { cls := .type "set", dict := none, data := .set #[] 0 (.fresh 0 0 (!w.params.followText "set-order")) }).get? c = some o := fun c o e => Heap.get?_push_of_some _ e
  have ar : a ≠ s.heap.objs.size := Nat.ne_of_lt Ra.lt
  have br : b ≠ s.heap.objs.size := Nat.ne_of_lt Rb.lt
  have Ra1 := Ra.at (h' := s.heap.push { cls := .type "set", dict := none, data := .set #[] 0 (.fresh 0 0 (!w.params.followText "set-order")) }) fun o e => kp _ o e
  have Rb1 := Rb.at (h' := s.heap.push { cls := .type "set", dict := none, data := .set #[] 0 (.fresh 0 0 (!w.params.followText "set-order")) }) fun o e => kp _ o e
  have Rr := setR_fresh (h := s.heap) w
  generalize s.heap.push { cls := .type "set", dict := none, data := .set #[] 0 (.fresh 0 0 (!w.params.followText "set-order")) } = h0 at kp Ra1 Rb1 Rr
  obtain ⟨o, es, ep, t, ho, hex, hd, g, nd, m, hb, hf, hn, hr, hl⟩ := (show SetR w _ a S n from Ra1)
  refine wpAny_bind ?_
  unfold setEpoch
  refine wpAny_bind (wpAny_setState_of ho hd hf (wpAny_pure ?_))
  refine wpAny_bind (wpAny_holding ?_)
  refine wpAny_bind (walk_unseen Ra1 Rb1 Rr fun out h1 d oo sb1 Rr1 => ?_)
  have ol : out.toList.length = n := by
    have p : (out.toList.map keyOf).Perm (es.toList.map keyOf) := (List.perm_ext_iff_of_nodup oo.2.1 nd).mpr fun k => (oo.2.2 k).symm.trans (m k)
    have := p.length_eq
    rw [List.length_map, List.length_map, Array.length_toList, Array.length_toList] at this
    rw [Array.length_toList, this, hn]
  refine wpAny_bind ?_
  rw [← Array.forIn_toList]
  refine forIn_sub (r := s.heap.objs.size) (Sb := Sb) (B := fun hh => hh.get? a = some o ∧ SetR w hh b Sb nb) (fun x y hx sb => ⟨(sb.2 a ar).trans hx.1, hx.2.at fun o e => (sb.2 b br).trans e⟩) ?_ out.toList _ (fun _ => false) 0 _ oo.1 ⟨(sb1.2 a ar).trans ho, Rb1.at fun o e => (sb1.2 b br).trans e⟩ Rr1 (by rw [ol]; omega) fun h2 n1 sb2 le2 R2 => ?_
  · intro e s' S0 n0 Q' ge hB Rr0 room hQ
    obtain ⟨k, tk, e2, e1⟩ := ge
    obtain ⟨eh, ev⟩ := e
    dsimp only at e1 e2
    subst e1
    subst e2
    have ek : keyOf (hashInt k, Value.int k tk) = k := rfl
    rw [ek] at hQ
    have same : ∀ h', Heap.SameBut s.heap.objs.size s'.heap h' → h'.get? a = some o := fun h' sb => (sb.2 a ar).trans hB.1
    refine wpAny_bind (wpAny_holding ?_)
    refine wpAny_bind (wpAny_setFind_of (knd := intKind P w) (k := k) (intKind_is P w k tk) rfl (SetR.setOf hB.2) fun rr hrr => ?_)
    refine wpAny_bind (wpAny_pure ?_)
    have tail : ∀ {h' : Heap}, Heap.SameBut s.heap.objs.size s'.heap h' → Q' (.yield PUnit.unit) { s' with heap := h' } → wpAny (model P w) A (do Builtin.Frozenset.unchanged nm a ep; pure (ForInStep.yield PUnit.unit)) Q' E { s' with heap := h' } := fun {h'} sb q => by
      unfold Builtin.Frozenset.unchanged setEpoch
      refine wpAny_bind (wpAny_bind (wpAny_bind (wpAny_setState_of (same h' sb) hd hf (wpAny_pure ?_))))
      exact wp_if_neg (by simp) (wpAny_pure (wpAny_pure q))
    cases z : Sb k with
    | true =>
      rw [z] at hrr
      refine wp_if_neg (by rw [hrr]; decide) (wpAny_pure ?_)
      refine tail (Heap.SameBut.refl _ _) (hQ _ n0 (Heap.SameBut.refl _ _) (by omega) (SetR.cong Rr0 fun j => ?_))
      by_cases zj : j = k
      · subst zj
        rw [z]
        simp
      · rw [decide_eq_false zj]
        simp
    | false =>
      rw [z] at hrr
      refine wp_if_pos (by rw [hrr]; decide) ?_
      refine wpAny_bind (setR_add_hashed Rr0 room fun h' sb R' => wpAny_pure ?_)
      refine tail sb (hQ _ _ sb (by split <;> omega) (SetR.cong R' fun j => ?_))
      by_cases zj : j = k
      · subst zj
        rw [z]
        simp
      · rw [decide_eq_false zj]
        simp
  · refine wpAny_pure (wpAny_pure (h h2 d n1 (fun c oc ec => ?_) (by omega) (SetR.cong R2 fun k => ?_)))
    · have cr : c ≠ s.heap.objs.size := Nat.ne_of_lt (Heap.lt_size ec)
      exact (sb2.2 c cr).trans ((sb1.2 c cr).trans (kp c oc ec))
    · have := oo.2.2 k
      by_cases z : k ∈ out.toList.map keyOf
      · rw [this.mpr z, decide_eq_true z]
        simp
      · have sk : S k = false := by
          cases y : S k with
          | false => rfl
          | true => exact (z (this.mp y)).elim
        rw [sk, decide_eq_false z]
        simp
end
end SD
/-! ### set - set by a copy: the first from 8 to 15 elements, the other fewer than a fourth -/
namespace SD
open PySem PySem.Spec PyProof.Rows L2
theorem range_all {α : Type} : ∀ l : List α, (List.range l.length).filterMap (fun i => l[i]?) = l
  | [] => rfl
  | x :: l => by
    rw [List.length_cons, List.range_succ_eq_map, List.filterMap_cons]
    simp only [List.getElem?_cons_zero]
    rw [List.filterMap_map]
    congr 1
    have : ((fun i => (x :: l)[i]?) ∘ Nat.succ) = fun i => l[i]? := by
      funext i
      simp
    rw [this]
    exact range_all l
theorem order_perm {es : Array (Int × Value)} {order : Array Nat} (h : order.toList.Perm (List.range es.size)) : (order.filterMap (es[·]?)).toList.Perm es.toList := by
  rw [Array.toList_filterMap]
  have e : (fun i : Nat => es[i]?) = fun i : Nat => es.toList[i]? := by
    funext i
    rw [Array.getElem?_toList]
  rw [e]
  have := h.filterMap (fun i : Nat => es.toList[i]?)
  rw [show es.size = es.toList.length from rfl, range_all] at this
  exact this
theorem laid_ok {M f mv : Nat} {led plain : Bool} {hs : Array Int} (hM : MaskOk M) (hn : hs.size ≤ M) : ∃ t order, SetTable.laid M f mv led plain hs = some (t, order) ∧ order.toList.Perm (List.range hs.size) ∧ Ris t.place.toList ∧ t.place.size = hs.size ∧ t.mask = M ∧ t.led = led ∧ t.dummies = #[] := by
  obtain ⟨wanted, hw⟩ : ∃ wanted, SetTable.sizeAbove wanted - 1 = M := by
    rcases hM with rfl | rfl | rfl
    · exact ⟨0, by decide⟩
    · exact ⟨16, by decide⟩
    · exact ⟨64, by decide⟩
  obtain ⟨t', order, e, hp, T, em, el, epl, ed⟩ := relaid_ok ⟨0, #[], #[], f, led, mv, plain⟩ (hs := hs) (wanted := wanted) hw hM hn
  rw [relaid_eq, hw] at e
  obtain ⟨owner, e1, e2⟩ := Option.bind_eq_some_iff.mp e
  have e3 := Prod.mk.inj (Option.some.inj e2)
  have sz : t'.place.size = hs.size := by
    have h1 := T.sz
    rw [List.length_map] at h1
    rw [h1, hp.length_eq, List.length_range]
  have ri := T.ris
  rw [← e3.1] at sz ri
  refine ⟨{ mask := M, place := ((liveOf M owner).map (·.1)).toArray, dummies := #[], finger := f, led := led, moves := mv, plain := plain }, order, ?_, hp, ri, sz, rfl, rfl, rfl⟩
  show (SetTable.layClean M hs >>= fun owner => _) = _
  rw [e1, ← e3.2]
  rfl
/-- a set of ints whose table has 32 places, few of them of discarded ones -/
def SetD (w : World) (h : Heap) (a : Addr) (S : Int → Bool) (n d : Nat) : Prop :=
  ∃ o es ep t, h.get? a = some o ∧ o.ExactSet ∧ o.data = .set es ep t ∧ (∀ e ∈ es.toList, GoodE e) ∧ (es.toList.map keyOf).Nodup ∧ (∀ k, S k = true ↔ k ∈ es.toList.map keyOf) ∧
    es.size < scanBound ∧ t.fits es.size = true ∧ es.size = n ∧ Ris t.place.toList ∧ (w.params.followText "set-order" = true ∨ t.led = true) ∧ t.mask = 31 ∧ t.dummies.size ≤ d
theorem SetD.R {w : World} {h : Heap} {a : Addr} {S : Int → Bool} {n d : Nat} (D : SetD w h a S n d) : SetR w h a S n := by
  obtain ⟨o, es, ep, t, h1, h2, h3, h4, h5, h6, h7, h8, h9, h10, h11, _⟩ := D
  exact ⟨o, es, ep, t, h1, h2, h3, h4, h5, h6, h7, h8, h9, h10, h11⟩
theorem SetD.cong {w : World} {h : Heap} {a : Addr} {S S' : Int → Bool} {n d : Nat} (R : SetD w h a S n d) (e : ∀ k, S k = S' k) : SetD w h a S' n d := by
  have : S = S' := funext e
  rw [← this]
  exact R
theorem setMerge_eq (s o : Addr) (each : Sem Unit) : setMerge s o each = (do
    if s == o then return
    let (eo, epoch, to) ← setState o
    if eo.isEmpty then return
    setRoomFor s eo.size
    let (_, _, ts) ← setState s
    match ts.road to with
    | .slotForSlot => storeSet s eo { to with finger := ts.finger, led := ts.led && to.led, moves := ts.moves, plain := ts.plain && to.plain }
    | .clean =>
      let (es, t) ← (do
        let some (t, order) := SetTable.laid ts.mask ts.finger ts.moves (led := ts.led && to.led) (plain := ts.plain && to.plain) (eo.map (·.1)) | unsupported "internal:set-table-without-room"
        let es' := order.filterMap (eo[·]?)
        if es'.size != eo.size then unsupported "internal:set-table-lost-an-element"
        pure (es', t) : Sem (Array (Int × Value) × SetTable))
      storeSet s es t
    | .oneByOne =>
      for (h, x) in ← setWalkUnseen o [s] (some s) do
        let _ ← holding [x] (setAddHashed s x h)
        each
        if (← setState o).2.1 != epoch then unsupported "set.changed-during-merge") := by rfl
section
variable {P : Program} {w : World} {A : Around} {E : Value → Shared → Prop} {s : Shared} {a : Addr}
theorem road_free {ts to : SetTable} (h : ts.place = #[]) (d : ts.dummies = #[]) : ts.road to = .slotForSlot ∧ ts.mask = to.mask ∧ to.dummies = #[] ∨ ts.road to = .clean := by
  unfold SetTable.road SetTable.fill
  rw [h, d]
  by_cases e : (ts.mask == to.mask && to.dummies.isEmpty) = true
  · refine .inl ⟨by simp [e], ?_⟩
    rw [Bool.and_eq_true, beq_iff_eq] at e
    exact ⟨e.1, by simpa using e.2⟩
  · exact .inr (by simp [e])
/-- an empty set takes over another one's elements -/
theorem merge_into {r : Addr} {S : Int → Bool} {n : Nat} {o : Obj} {ep : Nat} {t : SetTable} {each : Sem Unit} {Q : Unit → Shared → Prop} (Ra : SetR w s.heap a S n) (ne : r ≠ a) (n8 : 8 ≤ n) (n15 : n ≤ 15)
    (ho : s.heap.get? r = some o) (hex : o.ExactSet) (hd : o.data = .set #[] ep t) (hm : t.mask = 7) (hp : t.place = #[]) (hdm : t.dummies = #[]) (hl : w.params.followText "set-order" = true ∨ t.led = true)
    (h : ∀ h', Heap.SameBut r s.heap h' → SetD w h' r S n 0 → Q () { s with heap := h' }) : wpAny (model P w) A (setMerge r a each) Q E s := by
  obtain ⟨oa, es, epa, ta, hoa, hexa, hda, g, nd, m, hb, hf, hn, hr, hla⟩ := id Ra
  have hft : t.fits (#[] : Array (Int × Value)).size = true := by
    unfold SetTable.fits SetTable.fill
    rw [hp, hdm, hm]
    rfl
  rw [setMerge_eq]
  refine wp_if_neg (by simpa using ne) ?_
  refine wpAny_bind (wpAny_setState_of hoa hda hf ?_)
  dsimp only
  refine wp_if_neg (by rw [Array.isEmpty_iff_size_eq_zero]; omega) ?_
  refine wpAny_bind ?_
  unfold setRoomFor
  refine wpAny_bind (wpAny_setState_of ho hd hft ?_)
  have rf : t.roomFor es.size = some (es.size * 2) := by
    unfold SetTable.roomFor SetTable.fill
    rw [hp, hdm, hm]
    rw [if_pos (by show (0 + 0 + es.size) * 5 ≥ 7 * 3; omega)]
    simp
  dsimp only
  rw [rf]
  dsimp only
  have sa : SetTable.sizeAbove (es.size * 2) = 32 := by
    have : ∀ n : Fin 16, 8 ≤ n.1 → SetTable.sizeAbove (n.1 * 2) = 32 := by decide
    exact this ⟨es.size, by omega⟩ (by show 8 ≤ es.size; omega)
  rw [setRelay_eq]
  refine wpAny_bind (wpAny_setState_of ho hd hft ?_)
  dsimp only
  refine wp_if_neg (by rw [sa, sizeLine_eq]; omega) ?_
  try refine wpAny_bind (wpAny_pure ?_)
  obtain ⟨t', order, e, hpm, T, em, el, epl, ed⟩ := relaid_ok t (hs := (#[] : Array (Int × Value)).map (·.1)) (wanted := es.size * 2) (M := 31) (by rw [sa]) (.inr (.inl rfl)) (by simp)
  rw [e]
  dsimp only
  have o0 : order = #[] := by
    have := hpm.length_eq
    simp at this
    exact this
  subst o0
  refine wpAny_bind ?_
  refine wp_if_neg (by simp) ?_
  try refine wpAny_bind (wpAny_pure ?_)
  refine wpAny_pure ?_
  dsimp only
  refine wpAny_storeSet_of ho hd ?_ (by simp)
  have tp : t'.place = #[] := by
    have := T.sz
    simp at this
    exact this
  have ho1 := store_at (es' := (#[] : Array Nat).filterMap (fun i : Nat => (#[] : Array (Int × Value))[i]?)) (t' := t') ho hd
  have sb1 : Heap.SameBut r s.heap (s.heap.update r (Obj.putSet ((#[] : Array Nat).filterMap (fun i : Nat => (#[] : Array (Int × Value))[i]?)) t')) := Heap.SameBut.update ..
  generalize s.heap.update r (Obj.putSet ((#[] : Array Nat).filterMap (fun i : Nat => (#[] : Array (Int × Value))[i]?)) t') = h1 at ho1 sb1
  have hf1 : t'.fits ((#[] : Array Nat).filterMap (fun i : Nat => (#[] : Array (Int × Value))[i]?)).size = true := by
    unfold SetTable.fits SetTable.fill
    rw [tp, ed, em]
    rfl
  refine wpAny_bind (wpAny_setState_of (s := { s with heap := h1 }) ho1 rfl hf1 ?_)
  dsimp only
  have led' : w.params.followText "set-order" = true ∨ (t'.led && ta.led) = true := by
    rcases hl with z | z
    · exact .inl z
    · rcases hla with y | y
      · exact .inl y
      · exact .inr (by rw [el, z, y]; rfl)
  have fin : ∀ (es2 : Array (Int × Value)) (t2 : SetTable), es2.toList.Perm es.toList → t2.fits es2.size = true → Ris t2.place.toList → (w.params.followText "set-order" = true ∨ t2.led = true) → t2.mask = 31 → t2.dummies = #[] → wpAny (model P w) A (storeSet r es2 t2) Q E { s with heap := h1 } := by
    intro es2 t2 p2 f2 r2 l2 m2 d2
    have sz2 : es2.size = es.size := by
      have := p2.length_eq
      rwa [Array.length_toList, Array.length_toList] at this
    refine wpAny_storeSet_of (s := { s with heap := h1 }) ho1 rfl ?_ (by rw [sz2]; exact fits_of_scanBound hb)
    refine h _ (sb1.trans (Heap.SameBut.update ..)) ?_
    refine ⟨_, es2, _, t2, store_at ho1 rfl, hex, rfl, fun e he => g e (p2.mem_iff.mp he), (p2.map keyOf).nodup_iff.mpr nd, fun k => (m k).trans (p2.map keyOf).mem_iff.symm, by rw [sz2]; exact hb, f2, by rw [sz2]; exact hn, r2, l2, m2, by rw [d2]; exact Nat.le_refl _⟩
  rcases road_free (to := ta) tp ed with ⟨rd, rm, rdm⟩ | rd
  · rw [rd]
    dsimp only
    exact fin es _ (List.Perm.refl _) hf hr led' (by show ta.mask = 31; rw [← rm, em]) rdm
  · rw [rd]
    dsimp only
    obtain ⟨t2, order, e2, hp2, ri2, sz2, m2, l2, d2⟩ := laid_ok (M := 31) (f := t'.finger) (mv := t'.moves) (led := t'.led && ta.led) (plain := t'.plain && ta.plain) (hs := es.map (·.1)) (.inr (.inl rfl)) (by rw [Array.size_map]; omega)
    rw [em, e2]
    rw [Array.size_map] at hp2 sz2
    have pm := order_perm hp2
    have szE : (order.filterMap (es[·]?)).size = es.size := by
      have := pm.length_eq
      rwa [Array.length_toList, Array.length_toList] at this
    try refine wpAny_bind (wpAny_pure ?_)
    dsimp only
    refine wpAny_bind ?_
    refine wp_if_neg (by rw [szE]; simp) ?_
    try refine wpAny_bind (wpAny_pure ?_)
    refine wpAny_pure ?_
    dsimp only
    refine fin _ t2 pm ?_ ri2 (by rw [l2]; exact led') m2 d2
    unfold SetTable.fits SetTable.fill
    rw [sz2, szE, m2, d2]
    simp
    omega
theorem erase_list {α : Type} (xs : Array α) (p : Nat) : (SetTable.eraseAt xs p).toList = xs.toList.eraseIdx p := by
  unfold SetTable.eraseAt
  rw [Array.toList_append, Array.toList_extract, Array.toList_extract, List.eraseIdx_eq_take_drop_succ]
  congr 1
  simp
  exact List.take_of_length_le (by rw [List.length_drop, Array.length_toList]; exact Nat.le_refl _)
theorem erase_size {α : Type} (xs : Array α) {p : Nat} (h : p < xs.size) : (SetTable.eraseAt xs p).size = xs.size - 1 := by
  rw [← Array.length_toList, erase_list, List.length_eraseIdx, if_pos (by rw [Array.length_toList]; exact h), Array.length_toList]
theorem insert_size {α : Type} (xs : Array α) (p : Nat) (x : α) : (SetTable.insertAt xs p x).size = xs.size + 1 := by
  unfold SetTable.insertAt
  rw [Array.size_append, Array.size_push, Array.size_extract, Array.size_extract]
  omega
theorem mem_out {L : List (Int × Value)} {i : Nat} {k : Int} (nd : (L.map keyOf).Nodup) (hi : i < L.length) (e : keyOf L[i] = k) {j : Int} : j ∈ (L.eraseIdx i).map keyOf ↔ j ∈ L.map keyOf ∧ j ≠ k := by
  have sp : L = L.take i ++ L[i] :: L.drop (i + 1) := by rw [List.getElem_cons_drop, List.take_append_drop]
  rw [List.eraseIdx_eq_take_drop_succ]
  have nd' := nd
  rw [sp, List.map_append, List.map_cons, e] at nd'
  have h1 := List.nodup_append.mp nd'
  have h2 := List.nodup_cons.mp h1.2.1
  constructor
  · intro h
    rw [List.map_append] at h
    refine ⟨?_, fun z => ?_⟩
    · rw [sp, List.map_append, List.map_cons]
      rcases List.mem_append.mp h with y | y
      · exact List.mem_append_left _ y
      · exact List.mem_append_right _ (List.mem_cons_of_mem _ y)
    · subst z
      rcases List.mem_append.mp h with y | y
      · exact h1.2.2 _ y _ List.mem_cons_self rfl
      · exact h2.1 y
  · rintro ⟨h, z⟩
    rw [sp, List.map_append, List.map_cons, e] at h
    rw [List.map_append]
    rcases List.mem_append.mp h with y | y
    · exact List.mem_append_left _ y
    · rcases List.mem_cons.mp y with y | y
      · exact (z y).elim
      · exact List.mem_append_right _ y
theorem disc_at {r : Addr} {S : Int → Bool} {n d : Nat} {k : Int} {tk : Tok} {Q : Bool → Shared → Prop} (D : SetD w s.heap r S n d)
    (hQ : ∀ b h' n', Heap.SameBut r s.heap h' → n' ≤ n → SetD w h' r (fun j => S j && !decide (j = k)) n' (d + 1) → Q b { s with heap := h' }) :
    wpAny (model P w) A (setDiscardHashed r (.int k tk) ((intKind P w).hash k)) Q E s := by
  obtain ⟨o, es, ep, t, ho, hex, hd, g, nd, hm, hb, hf, hn, hr, hl, mk, dm⟩ := id D
  have hkey : (intKind P w).is k (.int k tk) = true := intKind_is P w k tk
  have hsc : (Value.int k tk).scannable = true := rfl
  have hel : ElemsOf (intKind P w) es.toList := good_elems g
  unfold setDiscardHashed setFind setFindIn
  refine wpAny_bind (wpAny_bind (wpAny_setState_of ho hd hf ?_))
  dsimp only
  rw [byScan_of hsc hb hel]
  simp only [↓reduceIte]
  refine wpAny_bind (wpAny_rule ?_)
  refine wpAny_bind (wpAny_setScan_of hkey ho hd hf hel ?_)
  cases hfi : List.findIdx? (fun e => (intKind P w).is k e.2) es.toList with
  | none =>
    dsimp only
    have hnk : k ∉ es.toList.map keyOf := fun z => by
      obtain ⟨e, he, q⟩ := (good_mem (P := P) (w := w) g k).1 z
      have c := List.findIdx?_eq_none_iff.mp hfi e he
      rw [q] at c
      cases c
    have hSk : S k = false := by
      cases q : S k with
      | false => rfl
      | true => exact absurd ((hm k).1 q) hnk
    refine wpAny_pure (wpAny_pure (hQ false s.heap n (Heap.SameBut.refl _ _) (Nat.le_refl _) ?_))
    have D' : SetD w s.heap r S n (d + 1) := ⟨o, es, ep, t, ho, hex, hd, g, nd, hm, hb, hf, hn, hr, hl, mk, Nat.le_succ_of_le dm⟩
    refine D'.cong fun j => ?_
    by_cases e : j = k
    · subst e
      rw [hSk]
      rfl
    · rw [decide_eq_false e]
      simp
  | some i =>
    dsimp only
    obtain ⟨hj, pj, _⟩ := List.findIdx?_eq_some_iff_getElem.mp hfi
    refine wpAny_pure ?_
    rw [Nat.zero_add]
    refine wpAny_bind (wpAny_setState_of ho hd hf ?_)
    dsimp only
    have hi : i < es.size := by rwa [Array.length_toList] at hj
    have ek : keyOf es.toList[i] = k := by
      obtain ⟨k', tk', e2, _⟩ := g _ (List.getElem_mem hj)
      have z : k' = k := by
        have := (good_mem (P := P) (w := w) (l := [es.toList[i]]) (fun e he => by rw [List.mem_singleton.mp he]; exact g _ (List.getElem_mem hj)) k).2 ⟨es.toList[i], List.mem_singleton.mpr rfl, pj⟩
        rw [List.map_cons, List.map_nil, List.mem_singleton] at this
        unfold keyOf at this
        rw [e2] at this
        exact this.symm
      unfold keyOf
      rw [e2]
      exact z
    have fs : t.place.size = es.size ∧ t.fill ≤ t.mask := by
      unfold SetTable.fits at hf
      simpa using hf
    have pl : t.place[i]? = some (t.place[i]'(by omega)) := Array.getElem?_eq_getElem (by omega)
    refine wpAny_bind (wpAny_storeSet_of ho hd ?_ (by rw [erase_size es hi]; have := fits_of_scanBound hb; omega))
    refine wpAny_bind (wpAny_point ?_)
    refine wpAny_pure (hQ true _ (n - 1) (Heap.SameBut.update ..) (Nat.sub_le _ _) ?_)
    refine ⟨_, _, _, _, store_at ho hd, hex, rfl, ?_, ?_, ?_, ?_, ?_, ?_, ?_, ?_, ?_, ?_⟩
    · intro e he
      rw [erase_list] at he
      exact g e ((List.eraseIdx_sublist _ _).subset he)
    · rw [erase_list]
      exact nd.sublist ((List.eraseIdx_sublist _ _).map keyOf)
    · intro j
      rw [erase_list, mem_out nd hj ek, ← hm j]
      simp
    · rw [erase_size es hi]
      omega
    · unfold SetTable.fits SetTable.fill SetTable.drop
      rw [pl]
      dsimp only
      rw [erase_size es hi, erase_size t.place (by omega), insert_size]
      have f2 := fs.2
      unfold SetTable.fill at f2
      simp
      omega
    · rw [erase_size es hi, hn]
    · unfold SetTable.drop
      rw [pl]
      dsimp only
      rw [erase_list]
      exact List.Pairwise.sublist (List.eraseIdx_sublist _ _) hr
    · unfold SetTable.drop
      rw [pl]
      exact hl
    · unfold SetTable.drop
      rw [pl]
      exact mk
    · unfold SetTable.drop
      rw [pl]
      dsimp only
      rw [insert_size]
      omega
end
end SD
namespace SD
open PySem PySem.Spec PyProof.Rows L2
theorem entry_sub : entryFor table "set.__sub__" = some Builtin.«frozenset.__sub__» :=
  entryFor_alias (id' := "frozenset.__sub__") (by kernel_rfl) (by first | rfl | decide +kernel | (unfold String.splitOn; simp +decide [String.splitOnAux])) (by decide +kernel) (by kernel_rfl)
/-- how many are left out of a set: none exactly if all are in the other -/
theorem none_left {w : World} {h : Heap} {r : Addr} {S : Int → Bool} {n : Nat} (R : SetR w h r S n) : n = 0 ↔ ∀ k, S k = false := by
  obtain ⟨o, es, ep, t, ho, hex, hd, g, nd, m, hb, hf, hn, hr, hl⟩ := R
  constructor
  · intro e k
    cases z : S k with
    | false => rfl
    | true =>
      have q := (m k).mp z
      have : es.toList = [] := List.length_eq_zero_iff.mp (by rw [Array.length_toList]; omega)
      rw [this] at q
      cases q
  · intro e
    rw [← hn, ← Array.length_toList]
    cases z : es.toList with
    | nil => rfl
    | cons x l =>
      have := (m (keyOf x)).mpr (by rw [z]; simp)
      rw [e] at this
      cases this
/-- set - set, of ints, the first not more than four times as large -/
def rSubI (w : World) : R2 := fun x y H Q => ∃ (a b : Addr) (S Sb : Int → Bool) (n nb : Nat), x = .ref a ∧ y = .ref b ∧ H a = some (SetO w a S n) ∧ H b = some (SetO w b Sb nb) ∧ n / 4 ≤ nb ∧
  ∀ (p : Addr) (n1 : Nat), H p = none → n1 ≤ n → (n1 = 0 ↔ ∀ k, (S k && !Sb k) = false) → Q (.ref p) (upd H p (SetO w p (fun k => S k && !Sb k) n1))
theorem inv_drawn {X : Cx} {pins : List (Addr × Obj)} {σ : L2.St} {H : Hp} {s : Shared} (I : Inv X pins σ H s) (d : Drawn) : Inv X pins σ H { s with drawn := d } :=
  I.step (h' := s.heap) (H' := H) (g' := s.gens) (t' := s.toks) (d' := d) (ch := []) (fun _ z => nomatch z) (fun b o _ _ _ e _ => e) (fun b o _ _ _ e _ => ⟨o.slots, e⟩) (fun _ _ _ _ n => n) (fun b o _ e => ⟨o, e⟩) (fun _ _ e => e) (fun _ _ _ e => e) (fun b ps e => ⟨#[], by rw [e]; simp⟩) (fun m h => h) I.hok I.bare
theorem op_subI {X : Cx} : OpR X (binaryOp .Sub) (rSubI X.w) := by
  intro pins s σ H x y v u Q I rx ry h
  obtain ⟨a, b, S, Sb, n, nb, rfl, rfl, ha, hb, small, q⟩ := h
  cases rx
  cases ry
  have Ra := setO_get I ha
  have Rb := setO_get I hb
  refine wpAny_binaryOp_same (type_set Ra) (type_set Rb) F.fills_set_sub F.slot_set_sub ?_
  refine wpAny_call_entry F.slot_set_sub (type_set Ra) entry_sub ?_ (F.args_set_sub_2 _ _)
  refine wpAny_bind (m := Builtin.Frozenset.slot1 "__sub__" ⟨[.ref a, .ref b], []⟩) (wpAny_of_eq (a := (Value.ref a, Value.ref b)) rfl ?_)
  refine wpAny_bind (wpAny_bind (any_set Ra (any_set Rb ?_)))
  refine wp_if_neg (by decide) ?_
  refine wpAny_bind (wpAny_of_eq (a := a) rfl ?_)
  refine wpAny_bind (diff_any Ra Rb small fun h' d n1 kp le R' => ?_)
  refine wpAny_pure ⟨_, rfl, (by simp), ?_⟩
  have J : Inv X pins σ (upd H s.heap.objs.size (SetO X.w s.heap.objs.size (fun k => S k && !Sb k) n1)) { s with heap := h' } := I.laid (t' := s.toks) kp (Nat.le_refl _) (setO_new R')
  exact ⟨.ref s.heap.objs.size, _, inv_drawn J d, rfl, q _ n1 (I.hok.fresh (Nat.le_refl _)) le (none_left R')⟩
end SD
namespace SD
open PySem PySem.Spec PyProof.Rows L2
section
variable {P : Program} {w : World} {A : Around} {E : Value → Shared → Prop} {s : Shared} {a : Addr}
theorem walk_unseen1 {b r : Addr} {Sb Sr : Int → Bool} {nb nr : Nat} {Q : Array (Int × Value) → Shared → Prop} (Rb : SetR w s.heap b Sb nb) (Rr : SetR w s.heap r Sr nr)
    (h : ∀ out d, Outs Sb out → Q out { s with drawn := d }) : wpAny (model P w) A (setWalkUnseen b [r] none) Q E s := by
  obtain ⟨o, es, ep, t, ho, hex, hd, g, nd, m, hb, hf, hn, hr, hl⟩ := id Rb
  have oe : Outs Sb es := ⟨g, nd, m⟩
  unfold setWalkUnseen
  refine wpAny_bind (wpAny_setState_of ho hd hf ?_)
  dsimp only
  refine wpAny_bind (wpAny_byText ?_)
  split
  · exact walk_any ho hd hf hl fun out d p => h out d (oe.perm p)
  · refine wpAny_bind (quiet_sets (fun c hc => ?_) ?_)
    · have e' : c = b ∨ c = r := by simpa using hc
      rcases e' with rfl | rfl
      · exact ⟨_, _, Rb⟩
      · exact ⟨_, _, Rr⟩
    refine wp_if_neg (by decide) ?_
    refine wpAny_bind (wpAny_rule ?_)
    exact wpAny_pure (h es s.drawn oe)
theorem SetD.at {h h' : Heap} {S : Int → Bool} {n d : Nat} (R : SetD w h a S n d) (k : ∀ o, h.get? a = some o → h'.get? a = some o) : SetD w h' a S n d := by
  obtain ⟨o, es, ep, t, ho, r⟩ := R
  exact ⟨o, es, ep, t, k o ho, r⟩
theorem forIn_disc {M : Model} {r : Addr} {F : Int × Value → PUnit → Sem (ForInStep PUnit)} {B : Heap → Prop} (hB : ∀ h h', B h → Heap.SameBut r h h' → B h')
    (hF : ∀ (e : Int × Value) (s : Shared) (S0 : Int → Bool) (n0 d0 : Nat) (Q' : ForInStep PUnit → Shared → Prop), GoodE e → B s.heap → SetD w s.heap r S0 n0 d0 →
      (∀ h' n1, Heap.SameBut r s.heap h' → n1 ≤ n0 → SetD w h' r (fun k => S0 k && !decide (k = keyOf e)) n1 (d0 + 1) → Q' (.yield PUnit.unit) { s with heap := h' }) → wpAny M A (F e PUnit.unit) Q' E s) :
    ∀ (l : List (Int × Value)) (s : Shared) (S0 : Int → Bool) (n0 d0 : Nat) (Q : PUnit → Shared → Prop), (∀ e ∈ l, GoodE e) → B s.heap → SetD w s.heap r S0 n0 d0 →
      (∀ h' n1, Heap.SameBut r s.heap h' → n1 ≤ n0 → SetD w h' r (fun k => S0 k && !decide (k ∈ l.map keyOf)) n1 (d0 + l.length) → Q PUnit.unit { s with heap := h' }) → wpAny M A (forIn l PUnit.unit F) Q E s
  | [], s, S0, n0, d0, Q, _, _, R, h => by
    refine wpAny_pure (h s.heap n0 (Heap.SameBut.refl _ _) (Nat.le_refl _) (SetD.cong R fun k => ?_))
    simp
  | e :: l, s, S0, n0, d0, Q, hg, hb, R, h => by
    rw [List.forIn_cons]
    refine wpAny_bind (hF e s S0 n0 d0 _ (hg e List.mem_cons_self) hb R fun h1 n1 sb1 le1 R1 => ?_)
    refine forIn_disc hB hF l _ _ n1 (d0 + 1) Q (fun x hx => hg x (List.mem_cons_of_mem _ hx)) (hB _ _ hb sb1) R1 fun h2 n2 sb2 le2 R2 => ?_
    refine h h2 n2 (sb1.trans sb2) (by omega) ?_
    rw [List.length_cons, show d0 + (l.length + 1) = d0 + 1 + l.length by omega]
    refine SetD.cong R2 fun k => ?_
    cases S0 k <;> by_cases z1 : k = keyOf e <;> by_cases z2 : k ∈ l.map keyOf <;> simp [z1, z2]
theorem diff_copy {b : Addr} {S Sb : Int → Bool} {n nb : Nat} {nm : String} {Q : Value → Shared → Prop} (Ra : SetR w s.heap a S n) (Rb : SetR w s.heap b Sb nb) (big : nb < n / 4) (n8 : 8 ≤ n) (n15 : n ≤ 15)
    (h : ∀ h' d n1, (∀ c o, s.heap.get? c = some o → h'.get? c = some o) → n1 ≤ n → SetR w h' s.heap.objs.size (fun k => S k && !Sb k) n1 → Q (.ref s.heap.objs.size) { s with heap := h', drawn := d }) :
    wpAny (model P w) A (Builtin.Frozenset.difference nm a (.ref b)) Q E s := by
  unfold Builtin.Frozenset.difference
  refine wpAny_bind (any_set Rb ?_)
  simp only [Bool.not_true, Bool.false_eq_true, if_false, Bool.false_and, if_true]
  refine wpAny_bind (wpAny_of_eq (a := b) rfl ?_)
  refine wpAny_bind (size_set Rb ?_)
  refine wpAny_bind (size_set Ra ?_)
  refine wp_if_pos (by omega) ?_
  refine wpAny_bind (wpAny_rule ?_)
  refine wpAny_bind ?_
  unfold Builtin.Frozenset.copyOf
  refine wpAny_bind (base_set Ra ?_)
  refine wpAny_bind (PpSet.newSet_ok ?_)
  refine wpAny_bind (wpAny_of_eq (a := s.heap.objs.size) rfl ?_)
  have kp : ∀ c o, s.heap.get? c = some o → (s.heap.push { cls := .type "set", dict := none, data := .set #[] 0 (.fresh 0 0 (!w.params.followText "set-order")) }).get? c = some o := fun c o e => Heap.get?_push_of_some _ e
  have hr0 : (s.heap.push { cls := .type "set", dict := none, data := .set #[] 0 (.fresh 0 0 (!w.params.followText "set-order")) }).get? s.heap.objs.size = some { cls := .type "set", dict := none, data := .set #[] 0 (.fresh 0 0 (!w.params.followText "set-order")) } := by
    obtain ⟨o, es, ep, t, ho, hex, hd, _⟩ := setR_fresh (h := s.heap) w
    first | exact Heap.get?_push_self _ _ | simp [Heap.get?, Heap.push]
  have ar : a ≠ s.heap.objs.size := Nat.ne_of_lt Ra.lt
  have br : b ≠ s.heap.objs.size := Nat.ne_of_lt Rb.lt
  have Ra1 := Ra.at (h' := s.heap.push { cls := .type "set", dict := none, data := .set #[] 0 (.fresh 0 0 (!w.params.followText "set-order")) }) fun o e => kp _ o e
  have Rb1 := Rb.at (h' := s.heap.push { cls := .type "set", dict := none, data := .set #[] 0 (.fresh 0 0 (!w.params.followText "set-order")) }) fun o e => kp _ o e
  generalize s.heap.push { cls := .type "set", dict := none, data := .set #[] 0 (.fresh 0 0 (!w.params.followText "set-order")) } = h0 at kp Ra1 Rb1 hr0
  refine wpAny_bind (merge_into (s := { s with heap := h0 }) Ra1 ar.symm n8 n15 hr0 ⟨rfl, rfl, rfl⟩ rfl rfl rfl rfl ?_ fun h1 sb1 D1 => ?_)
  · show _ ∨ (!w.params.followText "set-order") = true
    cases w.params.followText "set-order"
    · exact .inr rfl
    · exact .inl rfl
  refine wpAny_pure ?_
  refine wpAny_bind (wpAny_of_eq (a := s.heap.objs.size) rfl ?_)
  have Rb2 : SetR w h1 b Sb nb := Rb1.at fun o e => (sb1.2 b br).trans e
  refine wpAny_bind (wpAny_holding ?_)
  unfold Builtin.Frozenset.differenceUpdate
  refine wp_if_neg (by simpa using br) ?_
  refine wpAny_bind (any_set (s := { s with heap := h1 }) Rb2 ?_)
  simp only [if_true]
  refine wpAny_bind (wpAny_of_eq (a := b) rfl ?_)
  refine wpAny_bind (size_set (s := { s with heap := h1 }) Rb2 ?_)
  refine wpAny_bind (size_set (s := { s with heap := h1 }) D1.R ?_)
  refine wp_if_neg (by omega) ?_
  obtain ⟨ob, eb, epb, tb, hob, hexb, hdb, gb, ndb, mb, hbb, hfb, hnb, hrb, hlb⟩ := id Rb2
  refine wpAny_bind ?_
  unfold setEpoch
  refine wpAny_bind (wpAny_setState_of (s := { s with heap := h1 }) hob hdb hfb (wpAny_pure ?_))
  refine wpAny_bind (wpAny_holding ?_)
  refine wpAny_bind (walk_unseen1 (s := { s with heap := h1 }) Rb2 D1.R fun out d oo => ?_)
  have ol : out.toList.length = nb := by
    have p : (out.toList.map keyOf).Perm (eb.toList.map keyOf) := (List.perm_ext_iff_of_nodup oo.2.1 ndb).mpr fun k => (oo.2.2 k).symm.trans (mb k)
    have := p.length_eq
    rw [List.length_map, List.length_map, Array.length_toList, Array.length_toList] at this
    rw [Array.length_toList, this, hnb]
  refine wpAny_bind ?_
  rw [← Array.forIn_toList]
  refine forIn_disc (r := s.heap.objs.size) (B := fun hh => hh.get? b = some ob) (fun x y hx sb => (sb.2 b br).trans hx) ?_ out.toList _ S n 0 _ oo.1 hob D1 fun h2 n1 sb2 le2 D2 => ?_
  · intro e s' S0 n0 d0 Q' ge hB D0 hQ
    obtain ⟨k, tk, e2, e1⟩ := ge
    obtain ⟨eh, ev⟩ := e
    dsimp only at e1 e2
    subst e1
    subst e2
    have ek : keyOf (hashInt k, Value.int k tk) = k := rfl
    rw [ek] at hQ
    refine wpAny_bind (wpAny_holding ?_)
    refine disc_at D0 fun bb h' n' sb le D' => ?_
    unfold Builtin.Frozenset.unchanged setEpoch
    refine wpAny_bind (wpAny_bind (wpAny_bind (wpAny_setState_of (s := { s' with heap := h' }) ((sb.2 b br).trans hB) hdb hfb (wpAny_pure ?_))))
    exact wp_if_neg (by simp) (wpAny_pure (wpAny_pure (hQ h' n' sb le D')))
  · refine wpAny_pure ?_
    obtain ⟨o, es, ep, t, ho, hex, hd, g, nd, m, hb, hf, hn, hr, hl, mk, dm⟩ := id D2
    unfold setTidy
    refine wpAny_bind (wpAny_setState_of (s := { s with heap := h2, drawn := d }) ho hd hf ?_)
    dsimp only
    refine wp_if_neg ?_ (wpAny_pure (wpAny_pure ?_))
    · unfold SetTable.tooManyDummies
      rw [mk]
      simp
      omega
    refine h h2 d n1 (fun c oc ec => ?_) le2 (SetR.cong D2.R fun k => ?_)
    · have cr : c ≠ s.heap.objs.size := Nat.ne_of_lt (Heap.lt_size ec)
      exact (sb2.2 c cr).trans ((sb1.2 c cr).trans (kp c oc ec))
    · have := oo.2.2 k
      by_cases z : k ∈ out.toList.map keyOf
      · rw [this.mpr z, decide_eq_true z]
      · have sk : Sb k = false := by
          cases y : Sb k with
          | false => rfl
          | true => exact (z (this.mp y)).elim
        rw [sk, decide_eq_false z]
end
/-- set - set, of ints, the first not more than four times as large, or with at most 15 and the other not empty -/
def rSubJ (w : World) : R2 := fun x y H Q => ∃ (a b : Addr) (S Sb : Int → Bool) (n nb : Nat), x = .ref a ∧ y = .ref b ∧ H a = some (SetO w a S n) ∧ H b = some (SetO w b Sb nb) ∧ (n / 4 ≤ nb ∨ 1 ≤ nb ∧ n ≤ 15) ∧
  ∀ (p : Addr) (n1 : Nat), H p = none → n1 ≤ n → (n1 = 0 ↔ ∀ k, (S k && !Sb k) = false) → Q (.ref p) (upd H p (SetO w p (fun k => S k && !Sb k) n1))
theorem op_subJ {X : Cx} : OpR X (binaryOp .Sub) (rSubJ X.w) := by
  intro pins s σ H x y v u Q I rx ry h
  obtain ⟨a, b, S, Sb, n, nb, rfl, rfl, ha, hb, few, q⟩ := h
  cases rx
  cases ry
  have Ra := setO_get I ha
  have Rb := setO_get I hb
  refine wpAny_binaryOp_same (type_set Ra) (type_set Rb) F.fills_set_sub F.slot_set_sub ?_
  refine wpAny_call_entry F.slot_set_sub (type_set Ra) entry_sub ?_ (F.args_set_sub_2 _ _)
  refine wpAny_bind (m := Builtin.Frozenset.slot1 "__sub__" ⟨[.ref a, .ref b], []⟩) (wpAny_of_eq (a := (Value.ref a, Value.ref b)) rfl ?_)
  refine wpAny_bind (wpAny_bind (any_set Ra (any_set Rb ?_)))
  refine wp_if_neg (by decide) ?_
  refine wpAny_bind (wpAny_of_eq (a := a) rfl ?_)
  have fin : ∀ h' d n1, (∀ c o, s.heap.get? c = some o → h'.get? c = some o) → n1 ≤ n → SetR X.w h' s.heap.objs.size (fun k => S k && !Sb k) n1 → _ := fun h' d n1 kp le R' => by
    have J : Inv X pins σ (upd H s.heap.objs.size (SetO X.w s.heap.objs.size (fun k => S k && !Sb k) n1)) { s with heap := h' } := I.laid (t' := s.toks) kp (Nat.le_refl _) (setO_new R')
    exact (⟨.ref s.heap.objs.size, _, inv_drawn J d, rfl, q _ n1 (I.hok.fresh (Nat.le_refl _)) le (none_left R')⟩ : ∃ z H', Inv X pins σ H' { s with heap := h', drawn := d } ∧ RelV z (.ref s.heap.objs.size) ∧ Q z H')
  by_cases sm : n / 4 ≤ nb
  · refine wpAny_bind (diff_any Ra Rb sm fun h' d n1 kp le R' => ?_)
    exact wpAny_pure ⟨_, rfl, (by simp), fin h' d n1 kp le R'⟩
  · have f2 := few.resolve_left sm
    refine wpAny_bind (diff_copy Ra Rb (by omega) (by omega) f2.2 fun h' d n1 kp le R' => ?_)
    exact wpAny_pure ⟨_, rfl, (by simp), fin h' d n1 kp le R'⟩
end SD
/-! ### tables of sets with 64 places, by a copy or laid anew -/
namespace SD
open PySem PySem.Spec PyProof.Rows L2
def hit63 : Bool := (List.range 64).all fun place => (List.range 64).any fun turn => lcgN 63 turn == place
theorem hit63_yes : hit63 = true := by decide +kernel
theorem hit_from0 {place : Nat} (h : place ≤ 63) : ∃ turn, turn ≤ 63 ∧ lcgN 63 turn = place := by
  obtain ⟨turn, ht, e⟩ := List.any_eq_true.mp (List.all_eq_true.mp hit63_yes place (List.mem_range.mpr (by omega)))
  have := List.mem_range.mp ht
  exact ⟨turn, by omega, beq_iff_eq.mp e⟩
theorem round63 : ∀ turn, lcgN 63 (64 + turn) = lcgN 63 turn := by
  intro turn
  induction turn with
  | zero => decide +kernel
  | succ turn ih =>
    have s1 : lcgN 63 (64 + (turn + 1)) = (lcgN 63 (64 + turn) * 5 + 1) % 64 := rfl
    have s2 : lcgN 63 (turn + 1) = (lcgN 63 turn * 5 + 1) % 64 := rfl
    rw [s1, s2, ih]
/-- of 64 places each begins a run early enough -/
theorem meets63 (hash : Int) {place : Nat} (h : place ≤ 63) : ∃ n, n ≤ 75 ∧ runI 63 (SetTable.bits hash) n = place := by
  obtain ⟨from_, f1, f2⟩ := hit_from0 (runI_le 63 (SetTable.bits hash) 12)
  obtain ⟨to_, t1, t2⟩ := hit_from0 h
  have tail : ∀ k, runI 63 (SetTable.bits hash) (12 + k) = lcgN 63 (from_ + k) := fun k => by
    rw [runI_tail (bits_lt hash), ← f2, lcgN_add]
  by_cases le : from_ ≤ to_
  · refine ⟨12 + (to_ - from_), by omega, ?_⟩
    rw [tail, show from_ + (to_ - from_) = to_ by omega, t2]
  · refine ⟨12 + (64 + to_ - from_), by omega, ?_⟩
    rw [tail, show from_ + (64 + to_ - from_) = 64 + to_ by omega, round63, t2]
theorem in63 (hash : Int) (k : Nat) : way 63 hash k ≤ 63 := by
  have lt : SetTable.bits hash % 64 < 64 := Nat.mod_lt _ (by decide)
  have bd := runEnd_bd (m := 63) (i := SetTable.bits hash % 64) (by omega)
  have all := nth_in (m := 63) k (runAt 63 (SetTable.bits hash % 64) (SetTable.bits hash)) (by
    have e : (runAt 63 (SetTable.bits hash % 64) (SetTable.bits hash)).j + (runAt 63 (SetTable.bits hash % 64) (SetTable.bits hash)).more = SetTable.bits hash % 64 + (SetTable.runEnd 63 (SetTable.bits hash % 64) - SetTable.bits hash % 64) := rfl
    omega)
  have e : way 63 hash k = (nth 63 (runAt 63 (SetTable.bits hash % 64) (SetTable.bits hash)) k).j := rfl
  omega
/-- a free place is found -/
theorem free63 (owner : Array (Option Nat)) (hash : Int) {place : Nat} (h : place ≤ 63) (none_ : oAt owner place = none) :
    ∃ k, SetTable.layClean.free 63 owner (SetTable.turns 63) (SetTable.bits hash % 64) (SetTable.bits hash) = some (way 63 hash k) ∧ oAt owner (way 63 hash k) = none := by
  obtain ⟨n, n75, en⟩ := meets63 hash h
  have there : way 63 hash (off 63 (SetTable.bits hash % 64) (SetTable.bits hash) n) = place := by
    have e : way 63 hash (off 63 (SetTable.bits hash % 64) (SetTable.bits hash) n) = (nth 63 (runAt 63 (SetTable.bits hash % 64) (SetTable.bits hash)) (off 63 (SetTable.bits hash % 64) (SetTable.bits hash) n)).j := rfl
    rw [e, nth_off, show (64 : Nat) = 63 + 1 from rfl, itL_run]
    exact en
  obtain ⟨k, k1, k2, k3⟩ := st_least (p := fun k => oAt owner (way 63 hash k) = none) _ (there ▸ none_ : oAt owner (way 63 hash (off 63 (SetTable.bits hash % 64) (SetTable.bits hash) n)) = none)
  refine ⟨k, free_spec 63 owner (SetTable.turns 63) n _ _ k (by unfold SetTable.turns; omega) k1 (fun i hi => ?_) ?_, k2⟩
  · have := k3 i hi
    rw [Option.isNone_eq_false_iff, Option.isSome_iff_ne_none]
    exact this
  · rw [Option.isNone_iff_eq_none]
    exact k2
/-- n elements have their places -/
structure Sits (n : Nat) (owner : Array (Option Nat)) : Prop where
  size : owner.size = 64
  each : ∀ k, k < n → ∃ j, j ≤ 63 ∧ oAt owner j = some k
  few : ∃ ps : List Nat, ps.length = n ∧ ∀ j, j ≤ 63 → oAt owner j ≠ none → j ∈ ps
theorem Sits.start : Sits 0 (Array.replicate 64 none) := ⟨by simp, fun k hk => absurd hk (Nat.not_lt_zero _), [], rfl, fun j hj e => (e (oAt_init (m := 63) hj)).elim⟩
theorem Sits.next {n : Nat} {owner : Array (Option Nat)} (S : Sits n owner) (room : n ≤ 63) (hash : Int) :
    ∃ j, SetTable.layClean.free 63 owner (SetTable.turns 63) (SetTable.bits hash % 64) (SetTable.bits hash) = some j ∧ Sits (n + 1) (owner.setIfInBounds j (some n)) := by
  obtain ⟨ps, pl, pin⟩ := S.few
  obtain ⟨p0, p1, p2⟩ := st_missing ps 64 (by omega)
  have free0 : oAt owner p0 = none := by
    by_cases z : oAt owner p0 = none
    · exact z
    · exact (p2 (pin p0 (by omega) z)).elim
  obtain ⟨k, e1, e2⟩ := free63 owner hash (place := p0) (by omega) free0
  have bd := in63 hash k
  have self := oAt_set_self (owner := owner) (j := way 63 hash k) (some n) (by rw [S.size]; omega)
  refine ⟨way 63 hash k, e1, by rw [Array.size_setIfInBounds, S.size], fun i hi => ?_, way 63 hash k :: ps, by rw [List.length_cons, pl], fun j hj ne => ?_⟩
  · by_cases last : i = n
    · exact ⟨_, bd, by rw [last]; exact self⟩
    · obtain ⟨j, hj, ej⟩ := S.each i (by omega)
      have other : j ≠ way 63 hash k := fun z => by
        rw [z, e2] at ej
        cases ej
      exact ⟨j, hj, by rw [oAt_set_ne _ other]; exact ej⟩
  · by_cases z : j = way 63 hash k
    · rw [z]
      exact List.mem_cons_self
    · rw [oAt_set_ne _ z] at ne
      exact List.mem_cons_of_mem _ (pin j hj ne)
theorem Sits.all : ∀ (rest : List Int) (n : Nat) (owner : Array (Option Nat)), Sits n owner → n + rest.length ≤ 63 → ∃ owner', rest.foldl (stepF 63) (some (owner, n)) = some (owner', n + rest.length) ∧ Sits (n + rest.length) owner' := by
  intro rest
  induction rest with
  | nil => exact fun n owner S _ => ⟨owner, rfl, S⟩
  | cons hash rest ih =>
    intro n owner S le
    rw [List.length_cons] at le ⊢
    obtain ⟨j, e, S'⟩ := S.next (by omega) hash
    obtain ⟨owner', f, S2⟩ := ih (n + 1) _ S' (by omega)
    rw [show n + 1 + rest.length = n + (rest.length + 1) by omega] at f S2
    refine ⟨owner', ?_, S2⟩
    rw [List.foldl_cons, stepF_some (m := 63) e]
    exact f
theorem lay63 {hs : Array Int} (le : hs.size ≤ 63) : ∃ owner, SetTable.layClean 63 hs = some owner ∧ Sits hs.size owner := by
  obtain ⟨owner, f, S⟩ := Sits.all hs.toList 0 _ Sits.start (by rw [Array.length_toList]; omega)
  rw [Nat.zero_add, Array.length_toList] at f S
  refine ⟨owner, ?_, S⟩
  rw [layClean_eq, show (63 + 1 : Nat) = 64 from rfl, f]
  rfl
theorem Sits.live {n : Nat} {owner : Array (Option Nat)} (S : Sits n owner) : (liveOf 63 owner).length = n ∧ (((liveOf 63 owner).map (·.2)).Perm (List.range n)) ∧ Ris ((liveOf 63 owner).map (·.1)) := by
  have sz : owner.size = 63 + 1 := S.size
  have up : Ris ((liveOf 63 owner).map (·.1)) := (ris_live (fun j => owner.getD j none) (List.range (63 + 1)) (by unfold Ris; exact List.pairwise_lt_range)).1
  have has : ∀ k, k < n → k ∈ (liveOf 63 owner).map (·.2) := fun k hk => by
    obtain ⟨j, hj, e⟩ := S.each k hk
    exact List.mem_map.mpr ⟨(j, k), (mem_live sz).2 ⟨hj, e⟩, rfl⟩
  have len : (liveOf 63 owner).length = n := by
    obtain ⟨ps, pl, pin⟩ := S.few
    have apart : ((liveOf 63 owner).map (·.1)).Nodup := up.imp fun lt => Nat.ne_of_lt lt
    have a := nat_nodup_len ((liveOf 63 owner).map (·.1)) ps apart fun j hj => by
      obtain ⟨⟨j', k⟩, hm, rfl⟩ := List.mem_map.mp hj
      obtain ⟨b1, b2⟩ := (mem_live sz).1 hm
      exact pin _ b1 (by rw [b2]; exact fun z => nomatch z)
    have b := nat_nodup_len (List.range n) ((liveOf 63 owner).map (·.2)) List.nodup_range fun k hk => has k (List.mem_range.mp hk)
    rw [List.length_map] at a b
    rw [List.length_range] at b
    omega
  exact ⟨len, perm_range n _ (by rw [List.length_map]; exact len) has, up⟩
theorem laid63 {f mv : Nat} {led plain : Bool} {hs : Array Int} (le : hs.size ≤ 63) : ∃ t order, SetTable.laid 63 f mv led plain hs = some (t, order) ∧ order.toList.Perm (List.range hs.size) ∧ Ris t.place.toList ∧ t.place.size = hs.size ∧ t.mask = 63 ∧ t.led = led ∧ t.dummies = #[] := by
  obtain ⟨owner, e, S⟩ := lay63 le
  obtain ⟨l1, l2, l3⟩ := S.live
  refine ⟨{ mask := 63, place := ((liveOf 63 owner).map (·.1)).toArray, dummies := #[], finger := f, led := led, moves := mv, plain := plain }, ((liveOf 63 owner).map (·.2)).toArray, ?_, l2, l3, by rw [List.size_toArray, List.length_map, l1], rfl, rfl, rfl⟩
  have d : SetTable.laid 63 f mv led plain hs = (SetTable.layClean 63 hs).bind fun owner => some ({ mask := 63, place := ((liveOf 63 owner).map (·.1)).toArray, dummies := #[], finger := f, led := led, moves := mv, plain := plain }, ((liveOf 63 owner).map (·.2)).toArray) := rfl
  rw [d, e]
  rfl
theorem relaid63 (t : SetTable) {wanted : Nat} (hw : SetTable.sizeAbove wanted = 64) : ∃ t', t.relaid #[] wanted = some (t', #[]) ∧ t'.place = #[] ∧ t'.mask = 63 ∧ t'.led = t.led ∧ t'.plain = t.plain ∧ t'.dummies = #[] := by
  obtain ⟨owner, e, S⟩ := lay63 (hs := #[]) (by decide)
  obtain ⟨l1, l2, l3⟩ := S.live
  have nil : liveOf 63 owner = [] := List.length_eq_zero_iff.mp l1
  refine ⟨tabOf t 63 owner, ?_, ?_, rfl, rfl, rfl, rfl⟩
  · rw [relaid_eq, hw, show 64 - 1 = 63 from rfl, e]
    simp [nil]
  · unfold tabOf
    rw [nil]
    rfl
end SD
/-! ### set - set by a copy: the first from 16 to 31 elements, the other fewer than a fourth -/
namespace SD
open PySem PySem.Spec PyProof.Rows L2
/-- a set of ints whose table has 64 places, few of them of discarded ones -/
def SetE (w : World) (h : Heap) (a : Addr) (S : Int → Bool) (n d : Nat) : Prop :=
  ∃ o es ep t, h.get? a = some o ∧ o.ExactSet ∧ o.data = .set es ep t ∧ (∀ e ∈ es.toList, GoodE e) ∧ (es.toList.map keyOf).Nodup ∧ (∀ k, S k = true ↔ k ∈ es.toList.map keyOf) ∧
    es.size < scanBound ∧ t.fits es.size = true ∧ es.size = n ∧ Ris t.place.toList ∧ (w.params.followText "set-order" = true ∨ t.led = true) ∧ t.mask = 63 ∧ t.dummies.size ≤ d
theorem SetE.R {w : World} {h : Heap} {a : Addr} {S : Int → Bool} {n d : Nat} (D : SetE w h a S n d) : SetR w h a S n := by
  obtain ⟨o, es, ep, t, h1, h2, h3, h4, h5, h6, h7, h8, h9, h10, h11, _⟩ := D
  exact ⟨o, es, ep, t, h1, h2, h3, h4, h5, h6, h7, h8, h9, h10, h11⟩
theorem SetE.cong {w : World} {h : Heap} {a : Addr} {S S' : Int → Bool} {n d : Nat} (R : SetE w h a S n d) (e : ∀ k, S k = S' k) : SetE w h a S' n d := by
  have : S = S' := funext e
  rw [← this]
  exact R
section
variable {P : Program} {w : World} {A : Around} {E : Value → Shared → Prop} {s : Shared} {a : Addr}
/-- an empty set takes over another one's elements -/
theorem merge_into6 {r : Addr} {S : Int → Bool} {n : Nat} {o : Obj} {ep : Nat} {t : SetTable} {each : Sem Unit} {Q : Unit → Shared → Prop} (Ra : SetR w s.heap a S n) (ne : r ≠ a) (n8 : 16 ≤ n) (n15 : n ≤ 31)
    (ho : s.heap.get? r = some o) (hex : o.ExactSet) (hd : o.data = .set #[] ep t) (hm : t.mask = 7) (hp : t.place = #[]) (hdm : t.dummies = #[]) (hl : w.params.followText "set-order" = true ∨ t.led = true)
    (h : ∀ h', Heap.SameBut r s.heap h' → SetE w h' r S n 0 → Q () { s with heap := h' }) : wpAny (model P w) A (setMerge r a each) Q E s := by
  obtain ⟨oa, es, epa, ta, hoa, hexa, hda, g, nd, m, hb, hf, hn, hr, hla⟩ := id Ra
  have hft : t.fits (#[] : Array (Int × Value)).size = true := by
    unfold SetTable.fits SetTable.fill
    rw [hp, hdm, hm]
    rfl
  rw [setMerge_eq]
  refine wp_if_neg (by simpa using ne) ?_
  refine wpAny_bind (wpAny_setState_of hoa hda hf ?_)
  dsimp only
  refine wp_if_neg (by rw [Array.isEmpty_iff_size_eq_zero]; omega) ?_
  refine wpAny_bind ?_
  unfold setRoomFor
  refine wpAny_bind (wpAny_setState_of ho hd hft ?_)
  have rf : t.roomFor es.size = some (es.size * 2) := by
    unfold SetTable.roomFor SetTable.fill
    rw [hp, hdm, hm]
    rw [if_pos (by show (0 + 0 + es.size) * 5 ≥ 7 * 3; omega)]
    simp
  dsimp only
  rw [rf]
  dsimp only
  have sa : SetTable.sizeAbove (es.size * 2) = 64 := by
    have : ∀ n : Fin 32, 16 ≤ n.1 → SetTable.sizeAbove (n.1 * 2) = 64 := by decide
    exact this ⟨es.size, by omega⟩ (by show 16 ≤ es.size; omega)
  rw [setRelay_eq]
  refine wpAny_bind (wpAny_setState_of ho hd hft ?_)
  dsimp only
  refine wp_if_neg (by rw [sa, sizeLine_eq]; omega) ?_
  try refine wpAny_bind (wpAny_pure ?_)
  obtain ⟨t', e, tp, em, el, epl, ed⟩ := relaid63 t (wanted := es.size * 2) sa
  rw [show (#[] : Array (Int × Value)).map (·.1) = #[] by simp, e]
  dsimp only
  refine wpAny_bind ?_
  refine wp_if_neg (by simp) ?_
  try refine wpAny_bind (wpAny_pure ?_)
  refine wpAny_pure ?_
  dsimp only
  refine wpAny_storeSet_of ho hd ?_ (by simp)
  have ho1 := store_at (es' := (#[] : Array Nat).filterMap (fun i : Nat => (#[] : Array (Int × Value))[i]?)) (t' := t') ho hd
  have sb1 : Heap.SameBut r s.heap (s.heap.update r (Obj.putSet ((#[] : Array Nat).filterMap (fun i : Nat => (#[] : Array (Int × Value))[i]?)) t')) := Heap.SameBut.update ..
  generalize s.heap.update r (Obj.putSet ((#[] : Array Nat).filterMap (fun i : Nat => (#[] : Array (Int × Value))[i]?)) t') = h1 at ho1 sb1
  have hf1 : t'.fits ((#[] : Array Nat).filterMap (fun i : Nat => (#[] : Array (Int × Value))[i]?)).size = true := by
    unfold SetTable.fits SetTable.fill
    rw [tp, ed, em]
    rfl
  refine wpAny_bind (wpAny_setState_of (s := { s with heap := h1 }) ho1 rfl hf1 ?_)
  dsimp only
  have led' : w.params.followText "set-order" = true ∨ (t'.led && ta.led) = true := by
    rcases hl with z | z
    · exact .inl z
    · rcases hla with y | y
      · exact .inl y
      · exact .inr (by rw [el, z, y]; rfl)
  have fin : ∀ (es2 : Array (Int × Value)) (t2 : SetTable), es2.toList.Perm es.toList → t2.fits es2.size = true → Ris t2.place.toList → (w.params.followText "set-order" = true ∨ t2.led = true) → t2.mask = 63 → t2.dummies = #[] → wpAny (model P w) A (storeSet r es2 t2) Q E { s with heap := h1 } := by
    intro es2 t2 p2 f2 r2 l2 m2 d2
    have sz2 : es2.size = es.size := by
      have := p2.length_eq
      rwa [Array.length_toList, Array.length_toList] at this
    refine wpAny_storeSet_of (s := { s with heap := h1 }) ho1 rfl ?_ (by rw [sz2]; exact fits_of_scanBound hb)
    refine h _ (sb1.trans (Heap.SameBut.update ..)) ?_
    refine ⟨_, es2, _, t2, store_at ho1 rfl, hex, rfl, fun e he => g e (p2.mem_iff.mp he), (p2.map keyOf).nodup_iff.mpr nd, fun k => (m k).trans (p2.map keyOf).mem_iff.symm, by rw [sz2]; exact hb, f2, by rw [sz2]; exact hn, r2, l2, m2, by rw [d2]; exact Nat.le_refl _⟩
  rcases road_free (to := ta) tp ed with ⟨rd, rm, rdm⟩ | rd
  · rw [rd]
    dsimp only
    exact fin es _ (List.Perm.refl _) hf hr led' (by show ta.mask = 63; rw [← rm, em]) rdm
  · rw [rd]
    dsimp only
    obtain ⟨t2, order, e2, hp2, ri2, sz2, m2, l2, d2⟩ := laid63 (f := t'.finger) (mv := t'.moves) (led := t'.led && ta.led) (plain := t'.plain && ta.plain) (hs := es.map (·.1)) (by rw [Array.size_map]; omega)
    rw [em, e2]
    rw [Array.size_map] at hp2 sz2
    have pm := order_perm hp2
    have szE : (order.filterMap (es[·]?)).size = es.size := by
      have := pm.length_eq
      rwa [Array.length_toList, Array.length_toList] at this
    try refine wpAny_bind (wpAny_pure ?_)
    dsimp only
    refine wpAny_bind ?_
    refine wp_if_neg (by rw [szE]; simp) ?_
    try refine wpAny_bind (wpAny_pure ?_)
    refine wpAny_pure ?_
    dsimp only
    refine fin _ t2 pm ?_ ri2 (by rw [l2]; exact led') m2 d2
    unfold SetTable.fits SetTable.fill
    rw [sz2, szE, m2, d2]
    simp
    omega
theorem disc_at6 {r : Addr} {S : Int → Bool} {n d : Nat} {k : Int} {tk : Tok} {Q : Bool → Shared → Prop} (D : SetE w s.heap r S n d)
    (hQ : ∀ b h' n', Heap.SameBut r s.heap h' → n' ≤ n → SetE w h' r (fun j => S j && !decide (j = k)) n' (d + 1) → Q b { s with heap := h' }) :
    wpAny (model P w) A (setDiscardHashed r (.int k tk) ((intKind P w).hash k)) Q E s := by
  obtain ⟨o, es, ep, t, ho, hex, hd, g, nd, hm, hb, hf, hn, hr, hl, mk, dm⟩ := id D
  have hkey : (intKind P w).is k (.int k tk) = true := intKind_is P w k tk
  have hsc : (Value.int k tk).scannable = true := rfl
  have hel : ElemsOf (intKind P w) es.toList := good_elems g
  unfold setDiscardHashed setFind setFindIn
  refine wpAny_bind (wpAny_bind (wpAny_setState_of ho hd hf ?_))
  dsimp only
  rw [byScan_of hsc hb hel]
  simp only [↓reduceIte]
  refine wpAny_bind (wpAny_rule ?_)
  refine wpAny_bind (wpAny_setScan_of hkey ho hd hf hel ?_)
  cases hfi : List.findIdx? (fun e => (intKind P w).is k e.2) es.toList with
  | none =>
    dsimp only
    have hnk : k ∉ es.toList.map keyOf := fun z => by
      obtain ⟨e, he, q⟩ := (good_mem (P := P) (w := w) g k).1 z
      have c := List.findIdx?_eq_none_iff.mp hfi e he
      rw [q] at c
      cases c
    have hSk : S k = false := by
      cases q : S k with
      | false => rfl
      | true => exact absurd ((hm k).1 q) hnk
    refine wpAny_pure (wpAny_pure (hQ false s.heap n (Heap.SameBut.refl _ _) (Nat.le_refl _) ?_))
    have D' : SetE w s.heap r S n (d + 1) := ⟨o, es, ep, t, ho, hex, hd, g, nd, hm, hb, hf, hn, hr, hl, mk, Nat.le_succ_of_le dm⟩
    refine D'.cong fun j => ?_
    by_cases e : j = k
    · subst e
      rw [hSk]
      rfl
    · rw [decide_eq_false e]
      simp
  | some i =>
    dsimp only
    obtain ⟨hj, pj, _⟩ := List.findIdx?_eq_some_iff_getElem.mp hfi
    refine wpAny_pure ?_
    rw [Nat.zero_add]
    refine wpAny_bind (wpAny_setState_of ho hd hf ?_)
    dsimp only
    have hi : i < es.size := by rwa [Array.length_toList] at hj
    have ek : keyOf es.toList[i] = k := by
      obtain ⟨k', tk', e2, _⟩ := g _ (List.getElem_mem hj)
      have z : k' = k := by
        have := (good_mem (P := P) (w := w) (l := [es.toList[i]]) (fun e he => by rw [List.mem_singleton.mp he]; exact g _ (List.getElem_mem hj)) k).2 ⟨es.toList[i], List.mem_singleton.mpr rfl, pj⟩
        rw [List.map_cons, List.map_nil, List.mem_singleton] at this
        unfold keyOf at this
        rw [e2] at this
        exact this.symm
      unfold keyOf
      rw [e2]
      exact z
    have fs : t.place.size = es.size ∧ t.fill ≤ t.mask := by
      unfold SetTable.fits at hf
      simpa using hf
    have pl : t.place[i]? = some (t.place[i]'(by omega)) := Array.getElem?_eq_getElem (by omega)
    refine wpAny_bind (wpAny_storeSet_of ho hd ?_ (by rw [erase_size es hi]; have := fits_of_scanBound hb; omega))
    refine wpAny_bind (wpAny_point ?_)
    refine wpAny_pure (hQ true _ (n - 1) (Heap.SameBut.update ..) (Nat.sub_le _ _) ?_)
    refine ⟨_, _, _, _, store_at ho hd, hex, rfl, ?_, ?_, ?_, ?_, ?_, ?_, ?_, ?_, ?_, ?_⟩
    · intro e he
      rw [erase_list] at he
      exact g e ((List.eraseIdx_sublist _ _).subset he)
    · rw [erase_list]
      exact nd.sublist ((List.eraseIdx_sublist _ _).map keyOf)
    · intro j
      rw [erase_list, mem_out nd hj ek, ← hm j]
      simp
    · rw [erase_size es hi]
      omega
    · unfold SetTable.fits SetTable.fill SetTable.drop
      rw [pl]
      dsimp only
      rw [erase_size es hi, erase_size t.place (by omega), insert_size]
      have f2 := fs.2
      unfold SetTable.fill at f2
      simp
      omega
    · rw [erase_size es hi, hn]
    · unfold SetTable.drop
      rw [pl]
      dsimp only
      rw [erase_list]
      exact List.Pairwise.sublist (List.eraseIdx_sublist _ _) hr
    · unfold SetTable.drop
      rw [pl]
      exact hl
    · unfold SetTable.drop
      rw [pl]
      exact mk
    · unfold SetTable.drop
      rw [pl]
      dsimp only
      rw [insert_size]
      omega
theorem SetE.at {h h' : Heap} {S : Int → Bool} {n d : Nat} (R : SetE w h a S n d) (k : ∀ o, h.get? a = some o → h'.get? a = some o) : SetE w h' a S n d := by
  obtain ⟨o, es, ep, t, ho, r⟩ := R
  exact ⟨o, es, ep, t, k o ho, r⟩
theorem forIn_disc6 {M : Model} {r : Addr} {F : Int × Value → PUnit → Sem (ForInStep PUnit)} {B : Heap → Prop} (hB : ∀ h h', B h → Heap.SameBut r h h' → B h')
    (hF : ∀ (e : Int × Value) (s : Shared) (S0 : Int → Bool) (n0 d0 : Nat) (Q' : ForInStep PUnit → Shared → Prop), GoodE e → B s.heap → SetE w s.heap r S0 n0 d0 →
      (∀ h' n1, Heap.SameBut r s.heap h' → n1 ≤ n0 → SetE w h' r (fun k => S0 k && !decide (k = keyOf e)) n1 (d0 + 1) → Q' (.yield PUnit.unit) { s with heap := h' }) → wpAny M A (F e PUnit.unit) Q' E s) :
    ∀ (l : List (Int × Value)) (s : Shared) (S0 : Int → Bool) (n0 d0 : Nat) (Q : PUnit → Shared → Prop), (∀ e ∈ l, GoodE e) → B s.heap → SetE w s.heap r S0 n0 d0 →
      (∀ h' n1, Heap.SameBut r s.heap h' → n1 ≤ n0 → SetE w h' r (fun k => S0 k && !decide (k ∈ l.map keyOf)) n1 (d0 + l.length) → Q PUnit.unit { s with heap := h' }) → wpAny M A (forIn l PUnit.unit F) Q E s
  | [], s, S0, n0, d0, Q, _, _, R, h => by
    refine wpAny_pure (h s.heap n0 (Heap.SameBut.refl _ _) (Nat.le_refl _) (SetE.cong R fun k => ?_))
    simp
  | e :: l, s, S0, n0, d0, Q, hg, hb, R, h => by
    rw [List.forIn_cons]
    refine wpAny_bind (hF e s S0 n0 d0 _ (hg e List.mem_cons_self) hb R fun h1 n1 sb1 le1 R1 => ?_)
    refine forIn_disc6 hB hF l _ _ n1 (d0 + 1) Q (fun x hx => hg x (List.mem_cons_of_mem _ hx)) (hB _ _ hb sb1) R1 fun h2 n2 sb2 le2 R2 => ?_
    refine h h2 n2 (sb1.trans sb2) (by omega) ?_
    rw [List.length_cons, show d0 + (l.length + 1) = d0 + 1 + l.length by omega]
    refine SetE.cong R2 fun k => ?_
    cases S0 k <;> by_cases z1 : k = keyOf e <;> by_cases z2 : k ∈ l.map keyOf <;> simp [z1, z2]
theorem diff_copy6 {b : Addr} {S Sb : Int → Bool} {n nb : Nat} {nm : String} {Q : Value → Shared → Prop} (Ra : SetR w s.heap a S n) (Rb : SetR w s.heap b Sb nb) (big : nb < n / 4) (n8 : 16 ≤ n) (n15 : n ≤ 31)
    (h : ∀ h' d n1, (∀ c o, s.heap.get? c = some o → h'.get? c = some o) → n1 ≤ n → SetR w h' s.heap.objs.size (fun k => S k && !Sb k) n1 → Q (.ref s.heap.objs.size) { s with heap := h', drawn := d }) :
    wpAny (model P w) A (Builtin.Frozenset.difference nm a (.ref b)) Q E s := by
  unfold Builtin.Frozenset.difference
  refine wpAny_bind (any_set Rb ?_)
  simp only [Bool.not_true, Bool.false_eq_true, if_false, Bool.false_and, if_true]
  refine wpAny_bind (wpAny_of_eq (a := b) rfl ?_)
  refine wpAny_bind (size_set Rb ?_)
  refine wpAny_bind (size_set Ra ?_)
  refine wp_if_pos (by omega) ?_
  refine wpAny_bind (wpAny_rule ?_)
  refine wpAny_bind ?_
  unfold Builtin.Frozenset.copyOf
  refine wpAny_bind (base_set Ra ?_)
  refine wpAny_bind (PpSet.newSet_ok ?_)
  refine wpAny_bind (wpAny_of_eq (a := s.heap.objs.size) rfl ?_)
  have kp : ∀ c o, s.heap.get? c = some o → (s.heap.push { cls := .type "set", dict := none, data := .set #[] 0 (.fresh 0 0 (!w.params.followText "set-order")) }).get? c = some o := fun c o e => Heap.get?_push_of_some _ e
  have hr0 : (s.heap.push { cls := .type "set", dict := none, data := .set #[] 0 (.fresh 0 0 (!w.params.followText "set-order")) }).get? s.heap.objs.size = some { cls := .type "set", dict := none, data := .set #[] 0 (.fresh 0 0 (!w.params.followText "set-order")) } := by
    obtain ⟨o, es, ep, t, ho, hex, hd, _⟩ := setR_fresh (h := s.heap) w
    first | exact Heap.get?_push_self _ _ | simp [Heap.get?, Heap.push]
  have ar : a ≠ s.heap.objs.size := Nat.ne_of_lt Ra.lt
  have br : b ≠ s.heap.objs.size := Nat.ne_of_lt Rb.lt
  have Ra1 := Ra.at (h' := s.heap.push { cls := .type "set", dict := none, data := .set #[] 0 (.fresh 0 0 (!w.params.followText "set-order")) }) fun o e => kp _ o e
  have Rb1 := Rb.at (h' := s.heap.push { cls := .type "set", dict := none, data := .set #[] 0 (.fresh 0 0 (!w.params.followText "set-order")) }) fun o e => kp _ o e
  generalize s.heap.push { cls := .type "set", dict := none, data := .set #[] 0 (.fresh 0 0 (!w.params.followText "set-order")) } = h0 at kp Ra1 Rb1 hr0
  refine wpAny_bind (merge_into6 (s := { s with heap := h0 }) Ra1 ar.symm n8 n15 hr0 ⟨rfl, rfl, rfl⟩ rfl rfl rfl rfl ?_ fun h1 sb1 D1 => ?_)
  · show _ ∨ (!w.params.followText "set-order") = true
    cases w.params.followText "set-order"
    · exact .inr rfl
    · exact .inl rfl
  refine wpAny_pure ?_
  refine wpAny_bind (wpAny_of_eq (a := s.heap.objs.size) rfl ?_)
  have Rb2 : SetR w h1 b Sb nb := Rb1.at fun o e => (sb1.2 b br).trans e
  refine wpAny_bind (wpAny_holding ?_)
  unfold Builtin.Frozenset.differenceUpdate
  refine wp_if_neg (by simpa using br) ?_
  refine wpAny_bind (any_set (s := { s with heap := h1 }) Rb2 ?_)
  simp only [if_true]
  refine wpAny_bind (wpAny_of_eq (a := b) rfl ?_)
  refine wpAny_bind (size_set (s := { s with heap := h1 }) Rb2 ?_)
  refine wpAny_bind (size_set (s := { s with heap := h1 }) D1.R ?_)
  refine wp_if_neg (by omega) ?_
  obtain ⟨ob, eb, epb, tb, hob, hexb, hdb, gb, ndb, mb, hbb, hfb, hnb, hrb, hlb⟩ := id Rb2
  refine wpAny_bind ?_
  unfold setEpoch
  refine wpAny_bind (wpAny_setState_of (s := { s with heap := h1 }) hob hdb hfb (wpAny_pure ?_))
  refine wpAny_bind (wpAny_holding ?_)
  refine wpAny_bind (walk_unseen1 (s := { s with heap := h1 }) Rb2 D1.R fun out d oo => ?_)
  have ol : out.toList.length = nb := by
    have p : (out.toList.map keyOf).Perm (eb.toList.map keyOf) := (List.perm_ext_iff_of_nodup oo.2.1 ndb).mpr fun k => (oo.2.2 k).symm.trans (mb k)
    have := p.length_eq
    rw [List.length_map, List.length_map, Array.length_toList, Array.length_toList] at this
    rw [Array.length_toList, this, hnb]
  refine wpAny_bind ?_
  rw [← Array.forIn_toList]
  refine forIn_disc6 (r := s.heap.objs.size) (B := fun hh => hh.get? b = some ob) (fun x y hx sb => (sb.2 b br).trans hx) ?_ out.toList _ S n 0 _ oo.1 hob D1 fun h2 n1 sb2 le2 D2 => ?_
  · intro e s' S0 n0 d0 Q' ge hB D0 hQ
    obtain ⟨k, tk, e2, e1⟩ := ge
    obtain ⟨eh, ev⟩ := e
    dsimp only at e1 e2
    subst e1
    subst e2
    have ek : keyOf (hashInt k, Value.int k tk) = k := rfl
    rw [ek] at hQ
    refine wpAny_bind (wpAny_holding ?_)
    refine disc_at6 D0 fun bb h' n' sb le D' => ?_
    unfold Builtin.Frozenset.unchanged setEpoch
    refine wpAny_bind (wpAny_bind (wpAny_bind (wpAny_setState_of (s := { s' with heap := h' }) ((sb.2 b br).trans hB) hdb hfb (wpAny_pure ?_))))
    exact wp_if_neg (by simp) (wpAny_pure (wpAny_pure (hQ h' n' sb le D')))
  · refine wpAny_pure ?_
    obtain ⟨o, es, ep, t, ho, hex, hd, g, nd, m, hb, hf, hn, hr, hl, mk, dm⟩ := id D2
    unfold setTidy
    refine wpAny_bind (wpAny_setState_of (s := { s with heap := h2, drawn := d }) ho hd hf ?_)
    dsimp only
    refine wp_if_neg ?_ (wpAny_pure (wpAny_pure ?_))
    · unfold SetTable.tooManyDummies
      rw [mk]
      simp
      omega
    refine h h2 d n1 (fun c oc ec => ?_) le2 (SetR.cong D2.R fun k => ?_)
    · have cr : c ≠ s.heap.objs.size := Nat.ne_of_lt (Heap.lt_size ec)
      exact (sb2.2 c cr).trans ((sb1.2 c cr).trans (kp c oc ec))
    · have := oo.2.2 k
      by_cases z : k ∈ out.toList.map keyOf
      · rw [this.mpr z, decide_eq_true z]
      · have sk : Sb k = false := by
          cases y : Sb k with
          | false => rfl
          | true => exact (z (this.mp y)).elim
        rw [sk, decide_eq_false z]
end
/-- set - set, of ints, the first not more than four times as large, or with at most 31 and the other not empty -/
def rSubK (w : World) : R2 := fun x y H Q => ∃ (a b : Addr) (S Sb : Int → Bool) (n nb : Nat), x = .ref a ∧ y = .ref b ∧ H a = some (SetO w a S n) ∧ H b = some (SetO w b Sb nb) ∧ (n / 4 ≤ nb ∨ 1 ≤ nb ∧ n ≤ 31) ∧
  ∀ (p : Addr) (n1 : Nat), H p = none → n1 ≤ n → (n1 = 0 ↔ ∀ k, (S k && !Sb k) = false) → Q (.ref p) (upd H p (SetO w p (fun k => S k && !Sb k) n1))
theorem op_subK {X : Cx} : OpR X (binaryOp .Sub) (rSubK X.w) := by
  intro pins s σ H x y v u Q I rx ry h
  obtain ⟨a, b, S, Sb, n, nb, rfl, rfl, ha, hb, few, q⟩ := h
  cases rx
  cases ry
  have Ra := setO_get I ha
  have Rb := setO_get I hb
  refine wpAny_binaryOp_same (type_set Ra) (type_set Rb) F.fills_set_sub F.slot_set_sub ?_
  refine wpAny_call_entry F.slot_set_sub (type_set Ra) entry_sub ?_ (F.args_set_sub_2 _ _)
  refine wpAny_bind (m := Builtin.Frozenset.slot1 "__sub__" ⟨[.ref a, .ref b], []⟩) (wpAny_of_eq (a := (Value.ref a, Value.ref b)) rfl ?_)
  refine wpAny_bind (wpAny_bind (any_set Ra (any_set Rb ?_)))
  refine wp_if_neg (by decide) ?_
  refine wpAny_bind (wpAny_of_eq (a := a) rfl ?_)
  have fin : ∀ h' d n1, (∀ c o, s.heap.get? c = some o → h'.get? c = some o) → n1 ≤ n → SetR X.w h' s.heap.objs.size (fun k => S k && !Sb k) n1 → _ := fun h' d n1 kp le R' => by
    have J : Inv X pins σ (upd H s.heap.objs.size (SetO X.w s.heap.objs.size (fun k => S k && !Sb k) n1)) { s with heap := h' } := I.laid (t' := s.toks) kp (Nat.le_refl _) (setO_new R')
    exact (⟨.ref s.heap.objs.size, _, inv_drawn J d, rfl, q _ n1 (I.hok.fresh (Nat.le_refl _)) le (none_left R')⟩ : ∃ z H', Inv X pins σ H' { s with heap := h', drawn := d } ∧ RelV z (.ref s.heap.objs.size) ∧ Q z H')
  by_cases sm : n / 4 ≤ nb
  · refine wpAny_bind (diff_any Ra Rb sm fun h' d n1 kp le R' => ?_)
    exact wpAny_pure ⟨_, rfl, (by simp), fin h' d n1 kp le R'⟩
  · have f2 := few.resolve_left sm
    by_cases sm2 : n ≤ 15
    · refine wpAny_bind (diff_copy Ra Rb (by omega) (by omega) sm2 fun h' d n1 kp le R' => ?_)
      exact wpAny_pure ⟨_, rfl, (by simp), fin h' d n1 kp le R'⟩
    · refine wpAny_bind (diff_copy6 Ra Rb (by omega) (by omega) f2.2 fun h' d n1 kp le R' => ?_)
      exact wpAny_pure ⟨_, rfl, (by simp), fin h' d n1 kp le R'⟩
end SD
namespace SC
open PySem PySem.Spec PyProof.Rows L2
theorem addT {P : Program} {w : World} {A : Around} {E : Value → Shared → Prop} {s : Shared} {a : Addr} {L : List (Addr × List Int)} {es : Array (Int × Value)} {ep : Nat} {t : SetTable} (R : SetTR P w s.heap a L es ep t) {x : Addr} {k : List Int} (hx : IsT P w s.heap k x) (hu : A.units + 64 < cLine) (hfew : L.length + 1 < 64) {Q : Value → Shared → Prop}
    (hQ : ∀ h' tk L' es' ep' t', Heap.SameBut a s.heap h' → SetTR P w h' a L' es' ep' t' → (k ∈ L.map (·.2) → L' = L) → (k ∉ L.map (·.2) → L'.Perm ((x, k) :: L)) → Q .none { s with heap := h', toks := tk }) :
    wpAny (model P w) A (call (.builtin "set.add") [.ref a, .ref x]) Q E s := by
  obtain ⟨o, ho, hex, hd⟩ := R.ob
  refine wpAny_call_entry F.slot_set_add ⟨o, ho, hex.1⟩ F.entry_set_add ?_ (F.args_set_add_2 _ _)
  unfold Builtin.«set.add» Builtin.Frozenset.oneOther
  simp only [List.isEmpty_nil, bind_assoc]
  unfold Builtin.Frozenset.addrOf setAdd
  refine wpAny_bind (wpAny_pure ?_)
  try dsimp only
  refine wpAny_bind (wpAny_pure ?_)
  try dsimp only
  refine wpAny_bind ?_
  refine wpAny_holding ?_
  refine wpAny_bind (wpAny_pyHash_tuple (by show A.units + 1 < _; omega) hx ?_)
  refine add_at (s := { s with toks := s.toks + (k.length + 1) }) R hx (by show A.units + 1 < _; omega) hfew fun b h' L' es' ep' t' sb R' c1 c2 => ?_
  show wpAny _ _ (ret Value.none) _ _ _
  exact wpAny_pure ⟨_, rfl, hQ h' _ L' es' ep' t' sb R' c1 c2⟩
/-- what stands at the place of a set while it is filled, and what one more member makes of it -/
structure FamP (α κ : Type) where
  ob : Program → World → Addr → α → HO
  ini : α
  new : ∀ (P : Program) (w : World) (H : Hp) (h : Heap), ObjOk P w H (h.push (bareS w)) h.objs.size (ob P w h.objs.size ini)
  pre : PySem.W.Frag → Around → Hp → α → V → κ → Prop
  post : α → V → κ → α → Prop
  add : ∀ {X : Cx} {pins : List (Addr × Obj)} {σ : L2.St} {H : Hp} {s : Shared} {E : Value → Shared → Prop} {D : Addr} {a : α} {y : V} {z : κ} {v : Value} {Q : Value → Shared → Prop}, Inv X pins σ H s → H D = some (ob X.prog X.w D a) → pre X.K X.A H a y z → RelV y v →
    (∀ b s', post a y z b → Inv X pins σ (upd H D (ob X.prog X.w D b)) s' → Q .none s') → wpAny (model X.prog X.w) X.A (call (.builtin "set.add") [.ref D, v]) Q E s
section
variable {X : Cx} {α κ : Type}
def tSP (F : FamP α κ) (P : Program) (w : World) (K : PySem.W.Frag) (A : Around) (wi : TI) (g : TG) (tt : TT) (te : TE) (vs : List Nat) : TE := fun σ H Q => wi σ H fun J H1 => ∀ D, H1 D = none → ∃ W : Nat → Nat → Hp → Prop, (∃ m, W 0 m (upd H1 D (F.ob P w D F.ini))) ∧
  ∀ i m H, W i m H → (J.stop i H ∧ Q (.ref D) H) ∨ (J.go i H ∧ ∃ Nx : Hp → Prop, (∀ H', Nx H' → ∃ m', m' < m ∧ W (i + 1) m' H') ∧ ∀ x H', J.yld i H x H' → g x (wipe σ vs) H' fun σ2 H2 => wipe σ2 vs = wipe σ vs ∧ tt σ2 H2 fun b H3 =>
    if b = true then te σ2 H3 fun y H4 => ∃ (c : α) (z : κ), H4 D = some (F.ob P w D c) ∧ F.pre K A H4 c y z ∧ ∀ c', F.post c y z c' → Nx (upd H4 D (F.ob P w D c')) else Nx H3)
theorem coreP (F : FamP α κ) {pins : List (Addr × Obj)} {s : Shared} {σ : L2.St} {H : Hp} {Q : VK} {elt tg iter : Expr} {ifs : List Expr} {scope : Scope} {own : List (PySem.Str × Nat)} {pos pos' : Pos} {wi : TI} {g : TG} {tt : TT} {te : TE} {Qf : Value → Shared → Prop} {use : Option (Value → Sem Unit)}
    (calm : X.calm = true) (nd : X.N.Nodup) (I0 : Inv X pins σ H s) (walk : PI X tg iter wi) (bo : BlkOk X.N X.env.scope scope own)
    (aim : ∀ s H C cl fp, PG (X.blk s H scope (compEnvC scope cl C X.env) fp) tg g) (tst : ∀ s H C cl fp, PTs (X.blk s H scope (compEnvC scope cl C X.env) fp) ifs tt)
    (val : ∀ s H C cl fp, PE (X.blk s H scope (compEnvC scope cl C X.env) fp) elt te) (plain : ∀ x, foldedSetIterable iter X.env x = pure x)
    (ask : tSP F X.prog X.w X.K X.A wi g tt te (own.map (·.2)) σ H Q)
    (out : ∀ D C s' m H', Inv X pins σ H' s' → Q (.ref D) H' → s'.heap.Ns C m → FpOk X pins H' C → compPost (model X.prog X.w) X.A X.xe use Qf (.ref D) C (.ok .next) s') :
    wpAny (model X.prog X.w) X.A (comprehension (.SetComp elt [⟨tg, iter, ifs, 0⟩] scope pos) scope X.env pos' (newSet (.type "set")) false (eval iter X.env) use) Qf X.xe s := by
  have clo : ∀ y ∈ scope.names, y.2 = .free → ∃ c, X.env.cells.lookup y.1 = some c := fun y my ey => by
    rcases bo.free y my ey with z | z
    · exact I0.ok.has _ (.inl z)
    · exact I0.ok.has _ (.inr z)
  refine wpAny_comprehension_free (use := use) rfl plain (closure_ok clo) bo.kind (fun y my ey => by rw [bo.uniq y my, ey]) (thn (walk.run pins s σ H _ I0 ask) fun v0 sa ha => thn ha fun v1 sb hb => ?_)
  obtain ⟨itA, fp, tn, J, Hb, rfl, Ib, Tn, stb, fpb, qb⟩ := hb
  refine PpSet.newSet_ok (newEnv_comp ?_)
  obtain ⟨D, eD⟩ : ∃ D, D = sb.heap.objs.size := ⟨_, rfl⟩
  have freeD : Hb D = none := Ib.hok.fresh (Nat.le_of_eq eD.symm)
  obtain ⟨W, ⟨m0, w0⟩, turn⟩ := qb D freeD
  obtain ⟨sc, esc⟩ : ∃ sc : Shared, sc = { sb with heap := sb.heap.push (bareS X.w) } := ⟨_, rfl⟩
  have Ic : Inv X pins σ (upd Hb D (F.ob X.prog X.w D F.ini)) sc := by
    rw [esc]
    refine Ib.laid (t' := sb.toks) (fun b o e => Heap.get?_push_of_some _ e) (Nat.le_of_eq eD.symm) ?_
    rw [eD]
    exact F.new _ _ _ _
  have hc : sc.heap = sb.heap.push (bareS X.w) := by rw [esc]
  have below : ∀ b ∈ fp, b < sb.heap.objs.size := fun b mb => by
    obtain ⟨o, e, _⟩ := Tn.obj _ _ stb b mb
    exact Heap.lt_size e
  have fpc : ∀ b ∈ fp, FpOk X pins (upd Hb D (F.ob X.prog X.w D F.ini)) b ∧ b < sc.heap.objs.size := fun b mb => by
    have lt := below b mb
    refine ⟨⟨?_, (fpb b mb).2⟩, by rw [hc, Heap.size_push]; exact Nat.lt_succ_of_lt lt⟩
    rw [upd_ne (by rw [eD]; exact Nat.ne_of_lt lt)]
    exact (fpb b mb).1
  have stc : tn 0 sc.heap := Tn.keep _ _ _ stb fun b _ o e => by rw [hc]; exact Heap.get?_push_of_some _ e
  have Id := block_start Ic bo nd fpc
  have hereG := aim sc (upd Hb D (F.ob X.prog X.w D F.ini)) sc.heap.objs.size (cellsFrom (sc.heap.objs.size + 1) scope.names (cloFrom X.env.cells scope.names [])) fp
  have hereT := tst sc (upd Hb D (F.ob X.prog X.w D F.ini)) sc.heap.objs.size (cellsFrom (sc.heap.objs.size + 1) scope.names (cloFrom X.env.cells scope.names [])) fp
  have hereE := val sc (upd Hb D (F.ob X.prog X.w D F.ini)) sc.heap.objs.size (cellsFrom (sc.heap.objs.size + 1) scope.names (cloFrom X.env.cells scope.names [])) fp
  rw [← eD, ← esc]
  have offH : ∀ b ∈ fp, (upd Hb D (F.ob X.prog X.w D F.ini)) b = none := fun b mb => (fpc b mb).1.1
  show codeAny _ _ (.compStart (.SetComp elt [⟨tg, iter, ifs, 0⟩] scope pos) 0 (.ref itA) (.ref D) (compEnvC scope (cellsFrom (sc.heap.objs.size + 1) scope.names (cloFrom X.env.cells scope.names [])) sc.heap.objs.size X.env)) _ { sc with heap := pushCells (sc.heap.push { cls := .type "dict", data := .dict #[] }) scope.names }
  generalize hce : compEnvC scope (cellsFrom (sc.heap.objs.size + 1) scope.names (cloFrom X.env.cells scope.names [])) sc.heap.objs.size X.env = ce at Id hereG hereT hereE ⊢
  have locs : ce.locals = sc.heap.objs.size := by subst hce; rfl
  generalize upd Hb D (F.ob X.prog X.w D F.ini) = Hc at Ic Id hereG hereT hereE w0 offH fpc
  generalize hsd : ({ sc with heap := pushCells (sc.heap.push { cls := .type "dict", data := .dict #[] }) scope.names } : Shared) = sd at Id ⊢
  have std : tn 0 sd.heap := Tn.keep _ _ _ stc fun b _ o e => by rw [← hsd]; exact pushCells_keeps _ _ _ _ (Heap.get?_push_of_some _ e)
  have own1 : ∀ {σ' : L2.St} {H' : Hp} {s' : Shared}, Inv (X.blk sc Hc scope ce fp) [] σ' H' s' → (∀ b ∈ fp, H' b = none) → ∀ b ∈ fp, FpOk (X.blk sc Hc scope ce fp) [] H' b := fun {_ H' _} Ie off b mb =>
    ⟨off b mb, (Ie.ok.exf b mb).1, Ie.ok.exfs b mb, .inl mb, fun x c e => (Ie.ok.exf b mb).2 x c e, fun p hp => absurd (show p ∈ ([] : List (Addr × Obj)) ++ [] from hp) (by simp)⟩
  have loop : codeAny (model X.prog X.w) X.A (.compLoop (.SetComp elt [⟨tg, iter, ifs, 0⟩] scope pos) 0 (.ref itA) (.ref D) ce) (compPost (model X.prog X.w) X.A X.xe use Qf (.ref D) sc.heap.objs.size) sd := by
    refine PpSet.compLoopS_any (fun k st => ∃ i He, Inv (X.blk sc Hc scope ce fp) [] (wipe σ (own.map (·.2))) He st ∧ tn i st.heap ∧ (∀ b ∈ fp, He b = none) ∧ W i k He) ?_ m0 ⟨0, Hc, Id, std, offH, w0⟩
    rintro k se ⟨i, He, Ie, ste, offe, we⟩
    rcases turn i k He we with ⟨atEnd, fin⟩ | ⟨onward, Nx, back, next⟩
    · refine thnF (Tn.done (X.blk sc Hc scope ce fp) rfl rfl rfl calm i [] se _ He (fun _ _ => False) Ie (own1 Ie offe) ste atEnd) fun r sf ⟨er, If⟩ => ?_
      subst er
      have Ig : Inv X pins σ He sf := Ic.call' (ch := fp) If.os If.base If.hok If.bare fun b mb => ⟨(fpc b mb).1.2.2.2.1, (fpc b mb).1.2.1, (fpc b mb).1.2.2.2.2.1, (fpc b mb).1.2.2.2.2.2⟩
      have noC : He sc.heap.objs.size = none := locs ▸ (show He ce.locals = none from If.free)
      obtain ⟨nm, nsf, _⟩ := If.loc
      have nsf : sf.heap.Ns sc.heap.objs.size nm := locs ▸ (show sf.heap.Ns ce.locals nm from nsf)
      exact out D sc.heap.objs.size sf nm He Ig fin nsf (Ic.fpOk (Nat.le_refl _) noC)
    · refine thnF (Tn.item (X.blk sc Hc scope ce fp) rfl rfl rfl calm i [] se _ He (fun _ _ => False) Ie (own1 Ie offe) ste onward) fun r sf ⟨u, er, hf⟩ => ?_
      subst er
      refine thnF hf fun _ sg ⟨x, Hg, Ig, rg, yg, stg, offg⟩ => ?_
      refine thnF (hereG.run _ sg _ Hg x u _ (Ig.pinned (own1 Ig offg) (Tn.obj _ _ stg)) rg (next x Hg yg)) fun _ sh ⟨σh, Hh, Ih, wh, qh⟩ => ?_
      refine thnF (hereT.run _ sh σh Hh _ Ih qh) fun b si ⟨Hi, Ii, qi⟩ => ?_
      have over : ∀ {st : Shared} {Ht : Hp}, Inv (X.blk sc Hc scope ce fp) ([] ++ pinsAt fp sg.heap) σh Ht st → Nx Ht → ∃ m, m < k ∧ ∃ i He, Inv (X.blk sc Hc scope ce fp) [] (wipe σ (own.map (·.2))) He st ∧ tn i st.heap ∧ (∀ b ∈ fp, He b = none) ∧ W i m He := fun {st Ht} It nx => by
        obtain ⟨m1, lt1, w1⟩ := back Ht nx
        have held : ∀ b ∈ fp, ∀ o, sg.heap.get? b = some o → st.heap.get? b = some o ∧ Ht b = none := fun b mb o e =>
          have z := It.pin (b, o) (List.mem_append_right _ (List.mem_append_right _ (mem_pinsAt mb e)))
          ⟨z.1, z.2.1⟩
        have ln : (wipe σ (own.map (·.2))).length = σh.length := by rw [← wh, wipe_length]
        refine ⟨m1, lt1, i + 1, Ht, (It.unpinned (pins := [])).weak ln (fun j v e => ?_), Tn.keep _ _ _ stg fun b mb o e => (held b mb o e).1, fun b mb => ?_, w1⟩
        · rw [← wh] at e
          exact (wipe_some e).1
        · obtain ⟨o, e, _⟩ := Tn.obj _ _ stg b mb
          exact (held b mb o e).2
      cases b with
      | false =>
        rw [if_neg (by decide)] at qi ⊢
        exact over Ii qi
      | true =>
        rw [if_pos rfl] at qi ⊢
        refine thnF (hereE.run _ si σh Hi _ Ii qi) fun z sj ⟨yv, Hj, Ij, rj, c, zz, atD, pt, nx⟩ => ?_
        exact F.add (X := X.blk sc Hc scope ce fp) Ij atD pt rj fun c' sk pc Ik => over Ik (nx c' pc)
  exact PpSet.codeAny_compStart_set loop (Tn.self X.A 0 _ _ _ std loop)
/-- {elt for target in iter if ..} -/
theorem pe_setP (F : FamP α κ) {elt tg iter : Expr} {ifs : List Expr} {scope : Scope} {own : List (PySem.Str × Nat)} {pos : Pos} {wi : TI} {g : TG} {tt : TT} {te : TE} (calm : X.calm = true) (nd : X.N.Nodup) (walk : PI X tg iter wi) (bo : BlkOk X.N X.env.scope scope own)
    (aim : ∀ s H C cl fp, PG (X.blk s H scope (compEnvC scope cl C X.env) fp) tg g) (tst : ∀ s H C cl fp, PTs (X.blk s H scope (compEnvC scope cl C X.env) fp) ifs tt)
    (val : ∀ s H C cl fp, PE (X.blk s H scope (compEnvC scope cl C X.env) fp) elt te) (plain : ∀ x, foldedSetIterable iter X.env x = pure x := by intro _; rfl) :
    PE X (.SetComp elt [⟨tg, iter, ifs, 0⟩] scope pos) (tSP F X.prog X.w X.K X.A wi g tt te (own.map (·.2))) := by
  refine ⟨fun pins s σ H Q I0 ask => ?_⟩
  rw [PpSet.eval_SetComp]
  refine coreP F calm nd I0 walk bo aim tst val plain ask fun D C s1 m H1 I1 q hn fpC => ⟨m, hn, fun h2 sb => ?_⟩
  exact ⟨.ref D, H1, I1.turned (t' := s1.toks) (fun b o hb e => (sb.2 b hb).trans e) fpC.1 fpC.2.1 fpC.2.2.2.1 fpC.2.2.2.2.1 fpC.2.2.2.2.2, rfl, q⟩
end
/-- sets of tuples of ints, the tuples by their places -/
def famT : FamP (List (Addr × List Int)) (List Int) where
  ob := fun P w a L => SetTO P w a L
  ini := []
  new := fun P w H h => setTO_new (setTR_fresh (Heap.get?_push_size _ rfl)).t0
  pre := fun K A H L y k => ∃ x : Addr, y = .ref x ∧ SqT K H x (k.map V.int) ∧ (∀ p ∈ L, SqT K H p.1 (p.2.map V.int)) ∧ A.units + 64 < cLine ∧ L.length + 1 < 64
  post := fun L y k L' => ∃ x : Addr, y = .ref x ∧ (k ∈ L.map (·.2) → L' = L) ∧ (k ∉ L.map (·.2) → L'.Perm ((x, k) :: L))
  add := by
    intro X pins σ H s E D a y k v Q I hD pt rv q
    obtain ⟨x, rfl, hx, ht, hu, few⟩ := pt
    cases rv
    have R0 : SetT0 X.prog X.w s.heap D a := (I.hok D _ hD).1
    obtain ⟨es, ep, t, R⟩ := R0.full fun p hp => I.isT (ht p hp)
    refine addT R (I.isT hx) hu few fun h' tk L' es' ep' t' sb R' c1 c2 => q L' _ ⟨x, rfl, c1, c2⟩ ?_
    obtain ⟨o', ho', _⟩ := R'.ob
    exact I.write (e := D) (t' := tk) (by rw [hD]; trivial) (.inl rfl) (fun b u hb hu => (sb.2 b hb).trans hu) ⟨o', ho'⟩ (setTO_new R'.t0)
/-- len of a set of tuples -/
def rLenT (P : Program) (w : World) : List V → Hp → VK → Prop := fun xs H Q => ∃ (a : Addr) (L : List (Addr × List Int)), xs = [.ref a] ∧ H a = some (SetTO P w a L) ∧ Q (.int (L.length : Int)) H
theorem call_lenT {X : Cx} : CallR X (.builtin "len") (rLenT X.prog X.w) := by
  intro pins s σ H xs us Q I r h
  obtain ⟨a, L, rfl, ha, q⟩ := h
  rw [Vals.ref1 r]
  have R0 : SetT0 X.prog X.w s.heap a L := (I.hok a _ ha).1
  obtain ⟨es, ep, t, ⟨o, ho, hex, hd⟩, rows, tab, nd, pl, led, room, few⟩ := R0.ex
  have sz : es.size = L.length := by
    rw [← Array.length_toList, rows]
    simp [rowsOf]
  have hf : t.fits es.size = true := by
    have h1 := tab.sz
    rw [List.length_map] at h1
    unfold SetTable.fits SetTable.fill
    rw [tab.dm, Bool.and_eq_true, beq_iff_eq, decide_eq_true_eq]
    show t.place.size = es.size ∧ t.place.size + 0 ≤ t.mask
    omega
  exact PySem.call_len_set ho hex hd hf (by rw [sz]; omega) ⟨.int (L.length : Int), H, I.tok _, ⟨_, by rw [sz]⟩, q⟩
end SC
namespace CC
open PySem L2 TL
/-- {row[c] for row in rows} -/
theorem si_col {w : World} {K : PySem.W.Frag} {g : Addr} {us : List V} {rows : List (List Nat)} {m c cs : Nat} {σ : L2.St} {H : Hp} {D : Addr} {Qd : Hp → Prop} (hg : SqT K H g us) (dp : DpAll K H us (rows.map gd)) (ok : ∀ r ∈ rows, RowOk m r) (few : rows.length ≤ 400) (cm : c < m) (nD : H D = none)
    (hw : ∀ x : V, wipe ((wipe σ [5]).set 5 (some x)) [5] = wipe σ [5]) (hx : ∀ x : V, ((wipe σ [5]).set 5 (some x))[5]? = some (some x)) (hc : ∀ x : V, ((wipe σ [5]).set 5 (some x))[cs]? = some (some (.int (c : Int))))
    (q : ∀ H2, Same H (wo H2 D) → H2 D = some (SetO w D (memI (colN rows c)) (dn (colN rows c))) → Qd H2) :
    ∃ W : Nat → Nat → Hp → Prop, (∃ m, W 0 m (upd H D (SetO w D (fun _ => false) 0))) ∧ ∀ i m H, W i m H → ((Itt K g).stop i H ∧ Qd H) ∨ ((Itt K g).go i H ∧ ∃ Nx : Hp → Prop, (∀ H', Nx H' → ∃ m', m' < m ∧ W (i + 1) m' H') ∧ ∀ x H', (Itt K g).yld i H x H' → gName 5 x (wipe σ [5]) H' fun σ2 H2 => wipe σ2 [5] = wipe σ [5] ∧ tYes σ2 H2 fun b H3 =>
      if b = true then tOp (rIxT K) (tVar 5) (tVar cs) σ2 H3 fun y H4 => ∃ c c' : (Int → Bool) × Nat, H4 D = some (SetO w D c.1 c.2) ∧ (∃ k : Int, y = .int k ∧ c.2 + 1 < scanBound ∧ c' = (fun j => c.1 j || decide (j = k), if c.1 k = true then c.2 else c.2 + 1)) ∧ Nx (upd H4 D (SetO w D c'.1 c'.2)) else Nx H3) := by
  have ul : us.length = rows.length := by rw [dps_len dp, List.length_map]
  have cut : ∀ j, dn (colN (rows.take j) c) ≤ j := fun j => by
    have e : colN (rows.take j) c = (colN rows c).take j := by
      unfold colN
      rw [List.map_take]
    rw [e]
    exact dn_le _ j
  refine si_tup (xs := us) (fun j H2 => Same H (wo H2 D) ∧ H2 D = some (SetO w D (memI (colN (rows.take j) c)) (dn (colN (rows.take j) c))) ∧ j ≤ 400) ⟨?_, ?_, by omega⟩ (fun j H2 _ z => same_t (z.1.trans (wo_le D)) hg) ?_ ?_
  · rw [wo_upd]
    exact fun b o e => by rw [wo_ne (ne_of_none e nD)]; exact e
  · rw [upd_same]
    have e : memI (colN (rows.take 0) c) = fun _ => false := by
      funext k
      simp [memI, colN]
    have e' : dn (colN (rows.take 0) c) = 0 := by simp [dn, firsts, colN]
    rw [e, e']
  · rintro j v H2 hv ⟨f1, f2, f3⟩
    obtain ⟨r, hr2, dr⟩ := dps_gat dp hv
    have jl := (List.getElem?_eq_some_iff.mp hr2).1
    have rok := ok r (List.mem_of_getElem? hr2)
    obtain ⟨t, rfl, ht⟩ := gd_at dr
    have s2 : Same H H2 := f1.trans (wo_le D)
    have gx : (nms r)[c]? = some (.int ((r.getD c 0 : Nat) : Int)) := by
      rw [nms, List.getElem?_map, List.getD_eq_getElem?_getD, List.getElem?_eq_getElem (by rw [rok.1]; exact cm)]
      rfl
    have room : dn (colN (rows.take j) c) + 1 < scanBound := by
      have := cut j
      unfold scanBound
      omega
    refine ⟨hw _, yes_if ⟨_, hx _, _, hc _, t, _, _, _, rfl, rfl, same_t s2 ht, atI_nat gx, (memI (colN (rows.take j) c), dn (colN (rows.take j) c)), _, f2, ⟨_, rfl, room, rfl⟩, ?_, ?_, by omega⟩⟩
    · rw [wo_upd]
      exact f1
    · rw [upd_same]
      show some (SetO w D (fun j' => memI (colN (rows.take j) c) j' || decide (j' = ((r.getD c 0 : Nat) : Int))) (if memI (colN (rows.take j) c) ((r.getD c 0 : Nat) : Int) = true then dn (colN (rows.take j) c) else dn (colN (rows.take j) c) + 1)) = _
      rw [memI_snoc, colN_take hr2, dn_snoc, memI_at]
      by_cases e : r.getD c 0 ∈ colN (rows.take j) c
      · rw [decide_eq_true e, if_pos rfl, if_pos e]
      · rw [decide_eq_false e, if_neg (by decide), if_neg e]
  · rintro H2 ⟨f1, f2, _⟩
    rw [ul, List.take_length] at f2
    exact q H2 f1 f2
end CC
namespace CC
open PySem L2 TL
/-- a set comprehension over a tuple, by a family of sets -/
theorem sp_tup {α κ : Type} (F : SC.FamP α κ) {P : Program} {w : World} {A : Around} {K : PySem.W.Frag} {a : Addr} {xs : List V} {g : TG} {tt : TT} {te : TE} {vs : List Nat} {σ : L2.St} {H1 : Hp} {D : Addr} {Qd : Hp → Prop} (Pv : Nat → Hp → Prop) (h0 : Pv 0 (upd H1 D (F.ob P w D F.ini))) (hl : ∀ i H, i ≤ xs.length → Pv i H → SqT K H a xs)
    (hs : ∀ i x H, xs[i]? = some x → Pv i H → g x (wipe σ vs) H fun σ2 H2 => wipe σ2 vs = wipe σ vs ∧ tt σ2 H2 fun b H3 => if b = true then te σ2 H3 fun y H4 => ∃ (c : α) (z : κ), H4 D = some (F.ob P w D c) ∧ F.pre K A H4 c y z ∧ ∀ c', F.post c y z c' → Pv (i + 1) (upd H4 D (F.ob P w D c')) else Pv (i + 1) H3) (hd : ∀ H, Pv xs.length H → Qd H) :
    ∃ W : Nat → Nat → Hp → Prop, (∃ m, W 0 m (upd H1 D (F.ob P w D F.ini))) ∧ ∀ i m H, W i m H → ((Itt K a).stop i H ∧ Qd H) ∨ ((Itt K a).go i H ∧ ∃ Nx : Hp → Prop, (∀ H', Nx H' → ∃ m', m' < m ∧ W (i + 1) m' H') ∧ ∀ x H', (Itt K a).yld i H x H' → g x (wipe σ vs) H' fun σ2 H2 => wipe σ2 vs = wipe σ vs ∧ tt σ2 H2 fun b H3 =>
      if b = true then te σ2 H3 fun y H4 => ∃ (c : α) (z : κ), H4 D = some (F.ob P w D c) ∧ F.pre K A H4 c y z ∧ ∀ c', F.post c y z c' → Nx (upd H4 D (F.ob P w D c')) else Nx H3) := by
  refine ⟨fun i m H => m = xs.length - i ∧ i ≤ xs.length ∧ Pv i H, ⟨xs.length, by simp, Nat.zero_le _, h0⟩, ?_⟩
  rintro i m H ⟨rfl, hi, p⟩
  have q := hl i H hi p
  by_cases lt : i < xs.length
  · refine .inr ⟨⟨xs, xs[i], q, by simp [lt]⟩, Pv (i + 1), fun H' p' => ⟨xs.length - (i + 1), by omega, rfl, lt, p'⟩, fun x H' y => ?_⟩
    obtain ⟨e, y⟩ := y
    subst e
    exact hs i x _ (y xs q) p
  · have e : i = xs.length := by omega
    subst e
    exact .inl ⟨⟨xs, q, Nat.le_refl _⟩, hd H p⟩
end CC
namespace CC
open PySem L2 TL
theorem updS_T {P : Program} {w : World} {H : Hp} {l : Addr} {L : List (Addr × List Int)} {o : HO} (h : H l = some (SetTO P w l L)) : SameT H (upd H l o) := by
  constructor
  · intro b xs e
    rw [upd_ne (ne_of e h (by intro z; cases z))]
    exact e
  · intro b o xs e
    rw [upd_ne (ne_of e h (by intro z; cases z))]
    exact e
def pr2 (a b : Nat) (r : List Nat) : List Int := [((r.getD a 0 : Nat) : Int), ((r.getD b 0 : Nat) : Int)]
/-- {(row[a], row[b]) for row in rows} -/
theorem sp_pairs {P : Program} {w : World} {A : Around} {K : PySem.W.Frag} {g : Addr} {us : List V} {rows : List (List Nat)} {m a b ca cb : Nat} {σ : L2.St} {H : Hp} {D : Addr} {Qd : Hp → Prop} (hg : SqT K H g us) (dp : DpAll K H us (rows.map gd)) (ok : ∀ r ∈ rows, RowOk m r) (few : rows.length ≤ 60) (am : a < m) (bm : b < m) (nD : H D = none) (hu : A.units + 64 < cLine)
    (hw : ∀ x : V, wipe ((wipe σ [5]).set 5 (some x)) [5] = wipe σ [5]) (hx : ∀ x : V, ((wipe σ [5]).set 5 (some x))[5]? = some (some x)) (hca : ∀ x : V, ((wipe σ [5]).set 5 (some x))[ca]? = some (some (.int (a : Int)))) (hcb : ∀ x : V, ((wipe σ [5]).set 5 (some x))[cb]? = some (some (.int (b : Int))))
    (q : ∀ H2 (L : List (Addr × List Int)), Same H (wo H2 D) → H2 D = some (SetTO P w D L) → (L.map (·.2)).Nodup → (∀ k, k ∈ L.map (·.2) ↔ k ∈ rows.map (pr2 a b)) → Qd H2) :
    ∃ W : Nat → Nat → Hp → Prop, (∃ m, W 0 m (upd H D (SC.famT.ob P w D SC.famT.ini))) ∧ ∀ i m H, W i m H → ((Itt K g).stop i H ∧ Qd H) ∨ ((Itt K g).go i H ∧ ∃ Nx : Hp → Prop, (∀ H', Nx H' → ∃ m', m' < m ∧ W (i + 1) m' H') ∧ ∀ x H', (Itt K g).yld i H x H' → gName 5 x (wipe σ [5]) H' fun σ2 H2 => wipe σ2 [5] = wipe σ [5] ∧ tYes σ2 H2 fun b H3 =>
      if b = true then tTup (tCons (tOp (rIxT K) (tVar 5) (tVar ca)) (tCons (tOp (rIxT K) (tVar 5) (tVar cb)) tNil)) σ2 H3 fun y H4 => ∃ (c : List (Addr × List Int)) (z : List Int), H4 D = some (SC.famT.ob P w D c) ∧ SC.famT.pre K A H4 c y z ∧ ∀ c', SC.famT.post c y z c' → Nx (upd H4 D (SC.famT.ob P w D c')) else Nx H3) := by
  have ul : us.length = rows.length := by rw [dps_len dp, List.length_map]
  refine sp_tup SC.famT (xs := us) (fun j H2 => Same H (wo H2 D) ∧ ∃ L : List (Addr × List Int), H2 D = some (SetTO P w D L) ∧ (∀ p ∈ L, SqT K H2 p.1 (p.2.map V.int)) ∧ (L.map (·.2)).Nodup ∧ (∀ k, k ∈ L.map (·.2) ↔ k ∈ (rows.take j).map (pr2 a b)) ∧ L.length ≤ j) ⟨?_, [], upd_same, (fun p hp => by cases hp), List.nodup_nil, (fun k => by simp), Nat.le_refl _⟩ (fun j H2 _ z => same_t (z.1.trans (wo_le D)) hg) ?_ ?_
  · rw [wo_upd]
    exact fun b o e => by rw [wo_ne (ne_of_none e nD)]; exact e
  · rintro j v H2 hv ⟨f1, L, f2, f3, f4, f5, f6⟩
    obtain ⟨r, hr2, dr⟩ := dps_gat dp hv
    have jl := (List.getElem?_eq_some_iff.mp hr2).1
    have rok := ok r (List.mem_of_getElem? hr2)
    obtain ⟨t, rfl, ht⟩ := gd_at dr
    have s2 : Same H H2 := f1.trans (wo_le D)
    have gx : ∀ c, c < m → (nms r)[c]? = some (.int ((r.getD c 0 : Nat) : Int)) := fun c cm => by
      rw [nms, List.getElem?_map, List.getD_eq_getElem?_getD, List.getElem?_eq_getElem (by rw [rok.1]; exact cm)]
      rfl
    refine ⟨hw _, yes_if ⟨_, hx _, _, hca _, t, _, _, _, rfl, rfl, same_t s2 ht, atI_nat (gx a am), _, hx _, _, hcb _, t, _, _, _, rfl, rfl, same_t s2 ht, atI_nat (gx b bm), (by show 2 ≤ sizeLine; decide), fun t2 n2 => ?_⟩⟩
    have s3 : Same H2 (upd H2 t2 (.tup [.int ((r.getD a 0 : Nat) : Int), .int ((r.getD b 0 : Nat) : Int)])) := same_new n2
    have h3 : (upd H2 t2 (.tup [.int ((r.getD a 0 : Nat) : Int), .int ((r.getD b 0 : Nat) : Int)])) t2 = some (.tup ((pr2 a b r).map V.int)) := upd_same
    generalize upd H2 t2 (.tup [.int ((r.getD a 0 : Nat) : Int), .int ((r.getD b 0 : Nat) : Int)]) = H3 at s3 h3
    refine ⟨L, pr2 a b r, s3 _ _ f2, ⟨t2, rfl, .inl (.inl h3), fun p hp => same_t s3 (f3 p hp), hu, by omega⟩, ?_⟩
    rintro c' ⟨x, ex, c1, c2⟩
    cases ex
    have uT : SameT H3 (upd H3 D (SetTO P w D c')) := updS_T (s3 _ _ f2)
    refine ⟨?_, c', upd_same, ?_⟩
    · rw [wo_upd]
      exact f1.trans (wo_same s3)
    have tk : ∀ k, k ∈ (rows.take (j + 1)).map (pr2 a b) ↔ k ∈ (rows.take j).map (pr2 a b) ∨ k = pr2 a b r := fun k => by
      rw [take1 hr2, List.map_append, List.mem_append]
      simp
    by_cases e : pr2 a b r ∈ L.map (·.2)
    · rw [c1 e]
      refine ⟨fun p hp => sqt_T (c1 e ▸ uT) (same_t s3 (f3 p hp)), f4, fun k => ?_, by omega⟩
      rw [tk, ← f5]
      exact ⟨.inl, fun z => z.elim id fun z => z ▸ e⟩
    · have pm := c2 e
      refine ⟨fun p hp => ?_, ?_, fun k => ?_, ?_⟩
      · rcases List.mem_cons.mp (pm.mem_iff.mp hp) with z | z
        · rw [z]
          exact sqt_T uT (.inl (.inl h3))
        · exact sqt_T uT (same_t s3 (f3 p z))
      · exact (pm.map (·.2)).nodup_iff.mpr (List.nodup_cons.mpr ⟨e, f4⟩)
      · rw [tk, ← f5, (pm.map (·.2)).mem_iff, List.map_cons, List.mem_cons]
        exact ⟨fun z => z.elim .inr .inl, fun z => z.elim .inr .inl⟩
      · rw [pm.length_eq, List.length_cons]
        omega
  · rintro H2 ⟨f1, L, f2, f3, f4, f5, f6⟩
    rw [ul, List.take_length] at f5
    exact q H2 L f1 f2 f4 f5
/-! as many pairs as values: the column settles the other one -/
theorem subL_len : ∀ {α : Type} [BEq α] [LawfulBEq α] {u v : List α}, u.Nodup → (∀ x ∈ u, x ∈ v) → u.length ≤ v.length
  | _, _, _, [], _, _, _ => Nat.zero_le _
  | _, _, _, x :: u, v, h, s => by
    obtain ⟨h1, h2⟩ := List.nodup_cons.mp h
    have hx := s x List.mem_cons_self
    have := subL_len (u := u) (v := v.erase x) h2 fun y hy => (List.mem_erase_of_ne (a := y) (b := x) fun e => h1 (by rw [← e]; exact hy)).mpr (s y (List.mem_cons_of_mem _ hy))
    have l := List.length_erase_of_mem hx
    have : 0 < v.length := List.length_pos_of_mem hx
    rw [List.length_cons]
    omega
theorem pairs_iff {rows : List (List Nat)} {a b : Nat} {Ps : List (List Int)} (nd : Ps.Nodup) (mem : ∀ k, k ∈ Ps ↔ k ∈ rows.map (pr2 a b)) : Ps.length = dn (colN rows a) ↔ HoldsR rows ⟨true, a, b⟩ := by
  have hd : ∀ r : List Nat, ((pr2 a b r).headD 0).toNat = r.getD a 0 := fun r => rfl
  have inP : ∀ r ∈ rows, pr2 a b r ∈ Ps := fun r hr => (mem _).mpr (List.mem_map.mpr ⟨r, hr, rfl⟩)
  have cover : (firsts (colN rows a)).length ≤ (Ps.map fun p => (p.headD 0).toNat).length := sub_len (nodup_firsts _) fun v hv => by
    obtain ⟨r, hr, rfl⟩ := List.mem_map.mp (mem_firsts.mp hv)
    exact List.mem_map.mpr ⟨_, inP r hr, hd r⟩
  rw [List.length_map] at cover
  show _ ↔ ∀ x ∈ rows, ∀ y ∈ rows, y.getD a 0 = x.getD a 0 → y.getD b 0 = x.getD b 0
  constructor
  · intro h x hx y hy e
    refine Decidable.byContradiction fun ne => ?_
    have np : pr2 a b x ≠ pr2 a b y := fun z => by
      unfold pr2 at z
      injection z with _ z
      injection z with z _
      omega
    have := sub_len (v := (Ps.erase (pr2 a b y)).map fun p => (p.headD 0).toNat) (nodup_firsts (colN rows a)) fun v hv => by
      obtain ⟨r, hr, rfl⟩ := List.mem_map.mp (mem_firsts.mp hv)
      by_cases q : pr2 a b r = pr2 a b y
      · refine List.mem_map.mpr ⟨_, (List.mem_erase_of_ne np).mpr (inP x hx), ?_⟩
        rw [hd, ← e, ← hd y, ← q, hd]
      · exact List.mem_map.mpr ⟨_, (List.mem_erase_of_ne q).mpr (inP r hr), hd r⟩
    rw [List.length_map, List.length_erase_of_mem (inP y hy)] at this
    have p := List.length_pos_of_mem (inP y hy)
    unfold dn at h
    omega
  · intro h
    refine Nat.le_antisymm ?_ cover
    have := subL_len (v := (firsts (colN rows a)).map fun v => ((rows.find? fun s => s.getD a 0 == v).map (pr2 a b)).getD []) nd fun k hk => by
      obtain ⟨r, hr, rfl⟩ := List.mem_map.mp ((mem k).mp hk)
      refine List.mem_map.mpr ⟨r.getD a 0, mem_firsts.mpr (List.mem_map.mpr ⟨r, hr, rfl⟩), ?_⟩
      cases e : rows.find? (fun s => s.getD a 0 == r.getD a 0) with
      | none =>
        have := List.find?_eq_none.mp e r hr
        simp at this
      | some z =>
        have e0 := List.find?_some e
        have e1 : z.getD a 0 = r.getD a 0 := eq_of_beq e0
        have e2 := h r hr z (List.mem_of_find?_eq_some e) e1
        show pr2 a b z = pr2 a b r
        unfold pr2
        rw [e1, e2]
    rw [List.length_map] at this
    exact this
end CC
namespace CC
open PySem L2 TL
abbrev sHo : Stmt := tp 12
/-- rows whose sets the library can lay -/
def FwB (rows : List (List Nat)) : Prop := rows.length ≤ 60 ∧ ∀ a, dn (colN rows a) ≤ 31
def spHo (K : PySem.W.Frag) : Sp := fun vs H Q _ => ∃ (g : Addr) (us : List V) (m : Nat) (rows : List (List Nat)) (v : V) (r : R), vs = [.ref g, v] ∧ SqT K H g us ∧ DpAll K H us (rows.map gd) ∧ (∀ x ∈ rows, RowOk m x) ∧ FwB rows ∧ Dp K H v r.d ∧ r.ok m ∧ ∀ (t : Bool) H', Same H H' → (t = true ↔ HoldsR rows r) → Q (.bl t) H'
theorem dn_pos {l : List Nat} {x : Nat} (h : x ∈ l) : 1 ≤ dn l := List.length_pos_of_mem (mem_firsts.mpr h)
theorem dn_len (l : List Nat) : dn l ≤ l.length := by
  have := dn_le l l.length
  rwa [List.take_length] at this
theorem FwB.of_len {rows : List (List Nat)} (h : rows.length ≤ 31) : FwB rows := ⟨by omega, fun a => Nat.le_trans (dn_len _) (by unfold colN; rw [List.length_map]; exact h)⟩
theorem within_iff {rows : List (List Nat)} {a b : Nat} : (∀ k, (memI (colN rows a) k && !memI (colN rows b) k) = false) ↔ HoldsR rows ⟨false, a, b⟩ := by
  show _ ↔ ∀ x ∈ rows, ∃ y ∈ rows, y.getD b 0 = x.getD a 0
  constructor
  · intro h x hx
    have z := h ((x.getD a 0 : Nat) : Int)
    have hm : x.getD a 0 ∈ colN rows a := List.mem_map.mpr ⟨x, hx, rfl⟩
    rw [memI_at, memI_at, decide_eq_true hm, Bool.true_and, Bool.not_eq_false', decide_eq_true_iff] at z
    obtain ⟨y, hy, e⟩ := List.mem_map.mp z
    exact ⟨y, hy, e⟩
  · intro h k
    cases z : memI (colN rows a) k with
    | false => rfl
    | true =>
      obtain ⟨n, hn, rfl⟩ := of_decide_eq_true z
      obtain ⟨x, hx, rfl⟩ := List.mem_map.mp hn
      obtain ⟨y, hy, e⟩ := h x hx
      have hm : x.getD a 0 ∈ colN rows b := List.mem_map.mpr ⟨y, hy, e⟩
      rw [memI_at, decide_eq_true hm]
      rfl
section
variable {P : Program} {w : World} {K : PySem.W.Frag} {mg : Str → Option Value} {base : Heap} {kA : Addr}
abbrev nHp : List Str := ["rows", "rule", "kind", "a", "b", "row"]
theorem scHo : FnScope nHp ["rows", "rule"] (defScope sHo) := ⟨rfl, rfl, rfl, by decide +kernel, rfl, by decide +kernel, by decide +kernel⟩
theorem ok_ho {f : Addr} {fd : FuncData} {k : Nat} (F : Fun K "holds" "holds" sHo f fd) (T : Glb K mg kA) : FnOk P w K mg base CX0 (k + 1) f fd ["rows", "rule"] (spHo K) := by
  refine F.ok scHo (fun vs H Q E h => ?_) (fun cdv A outer s H vs Q E hr h => ?_)
  · obtain ⟨g, us, m, rows, v, r, rfl, _⟩ := h
    rfl
  · obtain ⟨g, us, m, rows, v, r, rfl, hg, dp, ok, few, dr, hr2, q⟩ := h
    have n := scHo.nd
    have few60 := few.1
    refine ⟨_, (pss_cons (ps_asg (pv 1) (pg_tup rfl (pgs_cons (pg_name (i := 2) n rfl (.inl rfl)) (pgs_cons (pg_name (i := 3) n rfl (.inr rfl)) (pgs_cons (pg_name (i := 4) n rfl (.inr rfl)) pgs_nil)))))
      (pss_cons (ps_if (pt_cmpR op_eq (pv 2) pe_str (nomark _))
        (pss_one (ps_ret (pe_cmpR op_eq (pe_callB (r := rLenI w) call_lenI (by rfl) T.len PySem.boot_len (pa_cons (pe_op (r := SD.rSubK w) SD.op_subK
          (SC.pe_setI (own := [("row", 5)]) (g := gName 5) (tt := tYes) (te := tOp (rIxT K) (tVar 5) (tVar 3)) rfl n (pi_tup (pv 0)) (blkOk_by (N := nHp) (sc := defScope sHo) (by decide +kernel)) (fun _ _ _ _ _ => (pg_name (i := 5) n rfl (.inl rfl))) (fun _ _ _ _ _ => pts_nil) (fun _ _ _ _ _ => (pe_ix ix_tup (pv 5) (pv 3) (fun _ _ => rfl))))
          (SC.pe_setI (own := [("row", 5)]) (g := gName 5) (tt := tYes) (te := tOp (rIxT K) (tVar 5) (tVar 4)) rfl n (pi_tup (pv 0)) (blkOk_by (N := nHp) (sc := defScope sHo) (by decide +kernel)) (fun _ _ _ _ _ => (pg_name (i := 5) n rfl (.inl rfl))) (fun _ _ _ _ _ => pts_nil) (fun _ _ _ _ _ => (pe_ix ix_tup (pv 5) (pv 4) (fun _ _ => rfl))))) pa_nil)) pe_int (nomark _))))
        pss_nil)
      (pss_one (ps_ret (pe_cmpR op_eq (pe_callB (r := SC.rLenT P w) SC.call_lenT (by rfl) T.len PySem.boot_len (pa_cons (SC.pe_setP SC.famT (own := [("row", 5)]) (g := gName 5) (tt := tYes) (te := tTup (tCons (tOp (rIxT K) (tVar 5) (tVar 3)) (tCons (tOp (rIxT K) (tVar 5) (tVar 4)) tNil))) rfl n (pi_tup (pv 0)) (blkOk_by (N := nHp) (sc := defScope sHo) (by decide +kernel)) (fun _ _ _ _ _ => (pg_name (i := 5) n rfl (.inl rfl))) (fun _ _ _ _ _ => pts_nil) (fun _ _ _ _ _ => (pe_tup (pa_cons (pe_ix ix_tup (pv 5) (pv 3) (fun _ _ => rfl)) (pa_cons (pe_ix ix_tup (pv 5) (pv 4) (fun _ _ => rfl)) pa_nil))))) pa_nil))
        (pe_callB (r := rLenI w) call_lenI (by rfl) T.len PySem.boot_len (pa_cons (SC.pe_setI (own := [("row", 5)]) (g := gName 5) (tt := tYes) (te := tOp (rIxT K) (tVar 5) (tVar 3)) rfl n (pi_tup (pv 0)) (blkOk_by (N := nHp) (sc := defScope sHo) (by decide +kernel)) (fun _ _ _ _ _ => (pg_name (i := 5) n rfl (.inl rfl))) (fun _ _ _ _ _ => pts_nil) (fun _ _ _ _ _ => (pe_ix ix_tup (pv 5) (pv 3) (fun _ _ => rfl)))) pa_nil)) (nomark _)))))), ?_⟩
    obtain ⟨kk, a, b⟩ := r
    obtain ⟨tr, rfl, ht⟩ := dp_r dr
    have aw : a < m := hr2.1
    have bw : b < m := hr2.2.1
    refine ⟨_, rfl, tr, _, rfl, ht, rfl, _, _, rfl, _, _, rfl, _, _, rfl, rfl, ?_⟩
    cases kk with
    | false =>
      refine ⟨_, rfl, rfl, _, rfl, iteT' (decide_eq_true rfl) ?_⟩
      refine ⟨_, rfl, g, rfl, ⟨_, hg⟩, fun D nD => si_col (m := m) (c := a) (cs := 3) hg dp ok (by omega) aw nD (fun _ => rfl) (fun _ => rfl) (fun _ => rfl) fun H1 e1 e2 => ?_⟩
      have s1 : Same H H1 := e1.trans (wo_le D)
      refine ⟨_, rfl, g, rfl, ⟨_, same_t s1 hg⟩, fun D2 nD2 => si_col (m := m) (c := b) (cs := 4) (same_t s1 hg) (dps_same s1 _ _ dp) ok (by omega) bw nD2 (fun _ => rfl) (fun _ => rfl) (fun _ => rfl) fun H2 f1 f2 => ?_⟩
      have s2 : Same H1 H2 := f1.trans (wo_le D2)
      have la : dn (colN rows a) ≤ 31 := few.2 a
      have sm : dn (colN rows a) / 4 ≤ dn (colN rows b) ∨ 1 ≤ dn (colN rows b) ∧ dn (colN rows a) ≤ 31 := by
        cases rows with
        | nil => exact .inl (by simp [colN, dn, firsts])
        | cons x rows =>
          have hm : x.getD b 0 ∈ colN (x :: rows) b := List.mem_map.mpr ⟨x, List.mem_cons_self, rfl⟩
          exact .inr ⟨dn_pos hm, la⟩
      refine ⟨D, D2, _, _, _, _, rfl, rfl, s2 _ _ e2, f2, sm, fun p n1 np le iff => ?_⟩
      refine ⟨p, _, n1, rfl, upd_same, by omega, rfl, ?_⟩
      refine q _ _ (s1.trans (s2.trans (same_new np))) ?_
      rw [decide_eq_true_iff, ← within_iff, ← iff]
      exact ⟨fun h => by injection h with h; omega, fun h => by rw [h]; rfl⟩
    | true =>
      refine ⟨_, rfl, rfl, _, rfl, iteF' (decide_eq_false (show ¬ V.str (kd true) = V.str "within" by decide +kernel)) ?_⟩
      have hu64 : (A.deeper (PyProof.Rows.envOfC (Str.ofString "holds") (defScope sHo) s.heap.objs.size f cdv)).units + 64 < cLine := by
        have := hr.un
        omega
      refine ⟨_, rfl, g, rfl, ⟨_, hg⟩, fun D nD => sp_pairs (m := m) (a := a) (b := b) (ca := 3) (cb := 4) hg dp ok (by omega) aw bw nD hu64 (fun _ => rfl) (fun _ => rfl) (fun _ => rfl) (fun _ => rfl) fun H1 L e1 e2 nd mem => ?_⟩
      have s1 : Same H H1 := e1.trans (wo_le D)
      refine ⟨D, L, rfl, e2, ?_⟩
      refine ⟨_, rfl, g, rfl, ⟨_, same_t s1 hg⟩, fun D2 nD2 => si_col (m := m) (c := a) (cs := 3) (same_t s1 hg) (dps_same s1 _ _ dp) ok (by omega) aw nD2 (fun _ => rfl) (fun _ => rfl) (fun _ => rfl) fun H2 f1 f2 => ?_⟩
      have s2 : Same H1 H2 := f1.trans (wo_le D2)
      have la : dn (colN rows a) ≤ 31 := few.2 a
      refine ⟨D2, _, _, rfl, f2, by omega, rfl, ?_⟩
      refine q _ _ (s1.trans s2) ?_
      rw [decide_eq_true_iff, ← pairs_iff nd mem, List.length_map]
      exact ⟨fun h => by injection h with h; omega, fun h => by rw [h]⟩
end
end CC
/-! ### set tables of any of five sizes: every place is met -/
namespace BS
open PySem PySem.Spec PyProof.Rows L2
def MaskB (m : Nat) : Prop := m = 7 ∨ m = 31 ∨ m = 127 ∨ m = 511 ∨ m = 2047
/-- the places that the steps from x meet, as bits -/
def seenBits (m : Nat) : Nat → Nat → Nat → Nat
  | 0, _, acc => acc
  | n + 1, x, acc => seenBits m n ((x * 5 + 1) % (m + 1)) (acc ||| 2 ^ x)
def itr (m : Nat) (x : Nat) : Nat → Nat
  | 0 => x
  | b + 1 => (itr m x b * 5 + 1) % (m + 1)
theorem itr_front (m x : Nat) : ∀ b, itr m ((x * 5 + 1) % (m + 1)) b = itr m x (b + 1)
  | 0 => rfl
  | b + 1 => by
    show (itr m ((x * 5 + 1) % (m + 1)) b * 5 + 1) % (m + 1) = _
    rw [itr_front m x b]
    rfl
theorem itr_lcg (m : Nat) : ∀ b, itr m 0 b = lcgN m b
  | 0 => rfl
  | b + 1 => by
    show (itr m 0 b * 5 + 1) % (m + 1) = (lcgN m b * 5 + 1) % (m + 1)
    rw [itr_lcg m b]
theorem seen_bit {m j : Nat} : ∀ n x acc, (seenBits m n x acc).testBit j = true → acc.testBit j = true ∨ ∃ b, b < n ∧ itr m x b = j
  | 0, _, _, h => .inl h
  | n + 1, x, acc, h => by
    rcases seen_bit n _ _ h with h1 | ⟨b, hb, e⟩
    · rw [Nat.testBit_or, Bool.or_eq_true] at h1
      rcases h1 with h1 | h1
      · exact .inl h1
      · rw [Nat.testBit_two_pow, decide_eq_true_iff] at h1
        exact .inr ⟨0, by omega, h1⟩
    · exact .inr ⟨b + 1, by omega, by rw [← itr_front]; exact e⟩
theorem seen_all : ∀ m ∈ [7, 31, 127, 511, 2047], seenBits m (m + 1) 0 0 = 2 ^ (m + 1) - 1 ∧ itr m 0 (m + 1) = 0 := by decide +kernel
theorem MaskB.mem {m : Nat} (h : MaskB m) : m ∈ [7, 31, 127, 511, 2047] := by
  rcases h with rfl | rfl | rfl | rfl | rfl <;> decide
theorem lcg_allB {m j : Nat} (h : MaskB m) (hj : j ≤ m) : ∃ b, b ≤ m ∧ lcgN m b = j := by
  have e := (seen_all m h.mem).1
  have t : (seenBits m (m + 1) 0 0).testBit j = true := by
    rw [e, Nat.testBit_two_pow_sub_one, decide_eq_true_iff]
    omega
  rcases seen_bit _ _ _ t with z | ⟨b, hb, z⟩
  · rw [Nat.zero_testBit] at z
    cases z
  · exact ⟨b, by omega, by rw [← itr_lcg]; exact z⟩
theorem lcg_roundB {m : Nat} (h : MaskB m) : lcgN m (m + 1) = 0 := by
  rw [← itr_lcg]
  exact (seen_all m h.mem).2
theorem lcg_backB {m : Nat} (h : MaskB m) : ∀ k, lcgN m (m + 1 + k) = lcgN m k
  | 0 => lcg_roundB h
  | k + 1 => by
    have s1 : lcgN m (m + 1 + (k + 1)) = (lcgN m (m + 1 + k) * 5 + 1) % (m + 1) := rfl
    have s2 : lcgN m (k + 1) = (lcgN m k * 5 + 1) % (m + 1) := rfl
    rw [s1, s2, lcg_backB h k]
/-- each place begins a run early enough -/
theorem run_meetsB {m : Nat} (h : MaskB m) (hash : Int) {j : Nat} (hj : j ≤ m) : ∃ n, n ≤ m + 12 ∧ runI m (SetTable.bits hash) n = j := by
  obtain ⟨a, a1, a2⟩ := lcg_allB h (runI_le m (SetTable.bits hash) 12)
  obtain ⟨b, b1, b2⟩ := lcg_allB h hj
  have tail : ∀ k, runI m (SetTable.bits hash) (12 + k) = lcgN m (a + k) := fun k => by
    rw [runI_tail (bits_lt hash), ← a2, lcgN_add]
  by_cases le : a ≤ b
  · refine ⟨12 + (b - a), by omega, ?_⟩
    rw [tail, show a + (b - a) = b by omega, b2]
  · refine ⟨12 + (m + 1 + b - a), by omega, ?_⟩
    rw [tail, show a + (m + 1 + b - a) = m + 1 + b by omega, lcg_backB h, b2]
end BS
/-! ### set tables of any of five sizes: laid anew -/
namespace BS
open PySem PySem.Spec PyProof.Rows L2
theorem way_leB (m : Nat) (hash : Int) (k : Nat) : way m hash k ≤ m := by
  have lt : SetTable.bits hash % (m + 1) < m + 1 := Nat.mod_lt _ (by omega)
  have bd := runEnd_bd (m := m) (i := SetTable.bits hash % (m + 1)) (by omega)
  have all := nth_in (m := m) k (runAt m (SetTable.bits hash % (m + 1)) (SetTable.bits hash)) (by
    have e : (runAt m (SetTable.bits hash % (m + 1)) (SetTable.bits hash)).j + (runAt m (SetTable.bits hash % (m + 1)) (SetTable.bits hash)).more = SetTable.bits hash % (m + 1) + (SetTable.runEnd m (SetTable.bits hash % (m + 1)) - SetTable.bits hash % (m + 1)) := rfl
    omega)
  have e : way m hash k = (nth m (runAt m (SetTable.bits hash % (m + 1)) (SetTable.bits hash)) k).j := rfl
  omega
/-- a free place is found -/
theorem free_findB {m : Nat} (hm : MaskB m) (owner : Array (Option Nat)) (hash : Int) {place : Nat} (h : place ≤ m) (none_ : oAt owner place = none) :
    ∃ k, SetTable.layClean.free m owner (SetTable.turns m) (SetTable.bits hash % (m + 1)) (SetTable.bits hash) = some (way m hash k) ∧ oAt owner (way m hash k) = none ∧ ∀ i, i < k → oAt owner (way m hash i) ≠ none := by
  obtain ⟨n, n75, en⟩ := run_meetsB hm hash h
  have there : way m hash (off m (SetTable.bits hash % (m + 1)) (SetTable.bits hash) n) = place := by
    have e : way m hash (off m (SetTable.bits hash % (m + 1)) (SetTable.bits hash) n) = (nth m (runAt m (SetTable.bits hash % (m + 1)) (SetTable.bits hash)) (off m (SetTable.bits hash % (m + 1)) (SetTable.bits hash) n)).j := rfl
    rw [e, nth_off, itL_run]
    exact en
  obtain ⟨k, k1, k2, k3⟩ := st_least (p := fun k => oAt owner (way m hash k) = none) _ (there ▸ none_ : oAt owner (way m hash (off m (SetTable.bits hash % (m + 1)) (SetTable.bits hash) n)) = none)
  refine ⟨k, free_spec m owner (SetTable.turns m) n _ _ k (by unfold SetTable.turns; omega) k1 (fun i hi => ?_) ?_, k2, k3⟩
  · have := k3 i hi
    rw [Option.isNone_eq_false_iff, Option.isSome_iff_ne_none]
    exact this
  · rw [Option.isNone_iff_eq_none]
    exact k2
theorem own_next {m : Nat} (hm : MaskB m) {done : List Int} {owner : Array (Option Nat)} (O : Own m done owner) (room : done.length ≤ m) (hash : Int) :
    ∃ j, SetTable.layClean.free m owner (SetTable.turns m) (SetTable.bits hash % (m + 1)) (SetTable.bits hash) = some j ∧ Own m (done ++ [hash]) (owner.setIfInBounds j (some done.length)) := by
  obtain ⟨sz, at_, all, ps, pl, pin⟩ := O
  obtain ⟨p0, p1, p2⟩ := st_missing ps (m + 1) (by omega)
  have free0 : oAt owner p0 = none := by
    by_cases z : oAt owner p0 = none
    · exact z
    · exact (p2 (pin p0 (by omega) z)).elim
  obtain ⟨k, e1, e2, e3⟩ := free_findB hm owner hash (place := p0) (by omega) free0
  have bd := way_leB m hash k
  have self := oAt_set_self (owner := owner) (j := way m hash k) (some done.length) (by rw [sz]; omega)
  have still : ∀ i, oAt owner i ≠ none → oAt (owner.setIfInBounds (way m hash k) (some done.length)) i ≠ none := fun i hi => by
    by_cases z : i = way m hash k
    · rw [z, self]
      exact fun z => nomatch z
    · rw [oAt_set_ne _ z]
      exact hi
  refine ⟨way m hash k, e1, ⟨by rw [Array.size_setIfInBounds, sz], fun j i hj hi => ?_, fun i hi => ?_, way m hash k :: ps, by rw [List.length_cons, pl, List.length_append]; rfl, fun j hj ne => ?_⟩⟩
  · by_cases z : j = way m hash k
    · rw [z, self] at hi
      cases hi
      exact ⟨hash, k, by rw [List.getElem?_append_right (Nat.le_refl _)]; simp, z.symm, fun k' hk' => still _ (e3 k' hk')⟩
    · rw [oAt_set_ne _ z] at hi
      obtain ⟨h', K, a1, a2, a3⟩ := at_ j i hj hi
      exact ⟨h', K, by rw [List.getElem?_append_left (List.getElem?_eq_some_iff.mp a1).1]; exact a1, a2, fun k' hk' => still _ (a3 k' hk')⟩
  · rw [List.length_append, List.length_singleton] at hi
    by_cases last : i = done.length
    · exact ⟨_, bd, by rw [last]; exact self⟩
    · obtain ⟨j, hj, ej⟩ := all i (by omega)
      have other : j ≠ way m hash k := fun z => by
        rw [z, e2] at ej
        cases ej
      exact ⟨j, hj, by rw [oAt_set_ne _ other]; exact ej⟩
  · by_cases z : j = way m hash k
    · rw [z]
      exact List.mem_cons_self
    · rw [oAt_set_ne _ z] at ne
      exact List.mem_cons_of_mem _ (pin j hj ne)
theorem own_all {m : Nat} (hm : MaskB m) : ∀ (rest done : List Int) (owner : Array (Option Nat)), Own m done owner → done.length + rest.length ≤ m → ∃ owner', rest.foldl (stepF m) (some (owner, done.length)) = some (owner', (done ++ rest).length) ∧ Own m (done ++ rest) owner' := by
  intro rest
  induction rest with
  | nil => exact fun done owner O _ => ⟨owner, by simp, by simpa using O⟩
  | cons hash rest ih =>
    intro done owner O le
    rw [List.length_cons] at le
    obtain ⟨j, e, O'⟩ := own_next hm O (by omega) hash
    obtain ⟨owner', f, O2⟩ := ih (done ++ [hash]) _ O' (by rw [List.length_append, List.length_singleton]; omega)
    rw [List.length_append, List.length_singleton] at f
    rw [List.append_assoc, List.singleton_append] at f O2
    refine ⟨owner', ?_, O2⟩
    rw [List.foldl_cons, stepF_some (m := m) e]
    exact f
theorem layB {m : Nat} (hm : MaskB m) {hs : Array Int} (le : hs.size ≤ m) : ∃ owner, SetTable.layClean m hs = some owner ∧ Own m hs.toList owner := by
  obtain ⟨owner, f, O⟩ := own_all hm hs.toList [] _ (Own.init m) (by rw [Array.length_toList]; simpa using le)
  refine ⟨owner, ?_, by simpa using O⟩
  rw [layClean_eq]
  rw [List.length_nil] at f
  rw [f]
  rfl
end BS
/-! ### set tables of any of five sizes: looked through, one more put in -/
namespace BS
open PySem PySem.Spec PyProof.Rows L2
structure TabB (t : SetTable) (hs : List Int) : Prop where
  ris : Ris t.place.toList
  dm : t.dummies = #[]
  sz : t.place.size = hs.length
  mok : MaskB t.mask
  bd : ∀ x ∈ t.place.toList, x ≤ t.mask
  reach : ∀ (i : Nat) (h : Int) (j : Nat), hs[i]? = some h → t.place.toList[i]? = some j → ∃ k, way t.mask h k = j ∧ ∀ k', k' < k → way t.mask h k' ∈ t.place.toList
section
variable {t : SetTable} {hs : List Int}
theorem TabB.first (T : TabB t hs) (le : hs.length ≤ t.mask) (h : Int) : ∃ K, K < 10 * SetTable.turns t.mask ∧ ¬ way t.mask h K ∈ t.place.toList ∧ ∀ k, k < K → way t.mask h k ∈ t.place.toList := by
  have pl : t.place.toList.length = hs.length := by rw [Array.length_toList]; exact T.sz
  obtain ⟨p0, p1, p2⟩ := st_missing t.place.toList (t.mask + 1) (by omega)
  obtain ⟨n, n1, n2⟩ := run_meetsB T.mok h (j := p0) (by omega)
  obtain ⟨k0, k1, k2⟩ := run_nth t.mask (SetTable.bits h) n
  have there : way t.mask h k0 = p0 := by
    have e : way t.mask h k0 = (nth t.mask (runAt t.mask (SetTable.bits h % (t.mask + 1)) (SetTable.bits h)) k0).j := rfl
    rw [e, k2]
    exact n2
  obtain ⟨K, a1, a2, a3⟩ := st_least (p := fun k => ¬ way t.mask h k ∈ t.place.toList) k0 (there ▸ p2 : ¬ way t.mask h k0 ∈ t.place.toList)
  refine ⟨K, ?_, a2, fun k hk => ?_⟩
  · unfold SetTable.turns
    omega
  · have := a3 k hk
    exact Decidable.not_not.mp this
theorem TabB.before (T : TabB t hs) {h : Int} {K i j : Nat} (no : ¬ way t.mask h K ∈ t.place.toList) (hi : hs[i]? = some h) (hj : t.place.toList[i]? = some j) : ∃ k, k < K ∧ way t.mask h k = j := by
  obtain ⟨k, k1, k2⟩ := T.reach i h j hi hj
  refine ⟨k, ?_, k1⟩
  by_cases z : k < K
  · exact z
  · exfalso
    by_cases e : K = k
    · rw [e, k1] at no
      exact no (List.mem_of_getElem? hj)
    · exact no (k2 K (by omega))
theorem TabB.put (T : TabB t hs) {h : Int} {K : Nat} (no : ¬ way t.mask h K ∈ t.place.toList) (yes : ∀ k, k < K → way t.mask h k ∈ t.place.toList) :
    (t.put (way t.mask h K)).2 = SetTable.below t.place (way t.mask h K) ∧ SetTable.below t.place (way t.mask h K) ≤ hs.length ∧
    TabB (t.put (way t.mask h K)).1 (hs.take (SetTable.below t.place (way t.mask h K)) ++ h :: hs.drop (SetTable.below t.place (way t.mask h K))) ∧
    (t.put (way t.mask h K)).1.mask = t.mask ∧ (t.put (way t.mask h K)).1.led = t.led ∧ (t.put (way t.mask h K)).1.plain = t.plain ∧ (t.put (way t.mask h K)).1.moves = t.moves ∧ (t.put (way t.mask h K)).1.finger = t.finger ∧ (t.put (way t.mask h K)).1.fill = hs.length + 1 := by
  have pl : t.place.toList.length = hs.length := by rw [Array.length_toList]; exact T.sz
  generalize hJ : way t.mask h K = J at *
  have cut := below_cut T.ris J
  generalize hp : SetTable.below t.place J = p at *
  have ple : p ≤ hs.length := by
    have := cut.1
    rw [← pl, Array.length_toList]
    exact this
  have pp := put_place t J
  rw [hp] at pp
  have dm := put_dm T.dm J
  have lenI := len_ins t.place.toList (p := p) (by omega) J
  have lenH := len_ins hs (p := p) ple h
  have mem : ∀ x, x ∈ (t.put J).1.place.toList ↔ x = J ∨ x ∈ t.place.toList := fun x => by
    rw [pp]
    exact (put_perm t.place.toList p J).mem_iff.trans List.mem_cons
  have sz' : (t.put J).1.place.size = hs.length + 1 := by
    rw [← Array.length_toList, pp, lenI, pl]
  refine ⟨hp, ple, ⟨?_, dm, by rw [sz', lenH], T.mok, fun x hx => ?_, fun i hh j hi hj => ?_⟩, rfl, rfl, rfl, rfl, rfl, ?_⟩
  · have := ris_insert T.ris (j := J) (by
      rw [hp]
      intro z
      refine no ?_
      rw [← Array.getElem?_toList] at z
      exact List.mem_of_getElem? z)
    exact this
  · rcases (mem x).mp hx with rfl | hx
    · rw [← hJ]
      exact way_leB _ _ _
    · exact T.bd x hx
  · rw [pp] at hj
    rw [tins_get t.place.toList (by omega) J i] at hj
    rw [tins_get hs ple h i] at hi
    have keep : ∀ {hh : Int} {j i' : Nat}, hs[i']? = some hh → t.place.toList[i']? = some j → ∃ k, way t.mask hh k = j ∧ ∀ k', k' < k → way t.mask hh k' ∈ (t.put J).1.place.toList := fun a b => by
      obtain ⟨k, k1, k2⟩ := T.reach _ _ _ a b
      exact ⟨k, k1, fun k' hk' => (mem _).mpr (.inr (k2 k' hk'))⟩
    by_cases c1 : i < p
    · rw [if_pos c1] at hi hj
      exact keep hi hj
    · rw [if_neg c1] at hi hj
      by_cases c2 : i = p
      · rw [if_pos c2] at hi hj
        cases hi
        cases hj
        exact ⟨K, hJ, fun k' hk' => (mem _).mpr (.inr (yes k' hk'))⟩
      · rw [if_neg c2] at hi hj
        exact keep hi hj
  · unfold SetTable.fill
    rw [dm, sz']
    rfl
end
end BS
/-! ### set tables of any of five sizes: grown -/
namespace BS
open PySem PySem.Spec PyProof.Rows L2
theorem own_live {m : Nat} {done : List Int} {owner : Array (Option Nat)} (O : Own m done owner) : (liveOf m owner).length = done.length ∧ (((liveOf m owner).map (·.2)).Perm (List.range done.length)) ∧ Ris ((liveOf m owner).map (·.1)) := by
  obtain ⟨sz, at_, all, few⟩ := O
  have up : Ris ((liveOf m owner).map (·.1)) := (ris_live (fun j => owner.getD j none) (List.range (m + 1)) (by unfold Ris; exact List.pairwise_lt_range)).1
  have has : ∀ k, k < done.length → k ∈ (liveOf m owner).map (·.2) := fun k hk => by
    obtain ⟨j, hj, e⟩ := all k hk
    exact List.mem_map.mpr ⟨(j, k), (mem_live sz).2 ⟨hj, e⟩, rfl⟩
  have len : (liveOf m owner).length = done.length := by
    obtain ⟨ps, pl, pin⟩ := few
    have apart : ((liveOf m owner).map (·.1)).Nodup := up.imp fun lt => Nat.ne_of_lt lt
    have a := nat_nodup_len ((liveOf m owner).map (·.1)) ps apart fun j hj => by
      obtain ⟨⟨j', k⟩, hm, rfl⟩ := List.mem_map.mp hj
      obtain ⟨b1, b2⟩ := (mem_live sz).1 hm
      exact pin _ b1 (by rw [b2]; exact fun z => nomatch z)
    have b := nat_nodup_len (List.range done.length) ((liveOf m owner).map (·.2)) List.nodup_range fun k hk => has k (List.mem_range.mp hk)
    rw [List.length_map] at a b
    rw [List.length_range] at b
    omega
  exact ⟨len, perm_range _ _ (by rw [List.length_map]; exact len) has, up⟩
theorem relaidB (t : SetTable) {hs : Array Int} {wanted M : Nat} (e : SetTable.sizeAbove wanted - 1 = M) (hM : MaskB M) (le : hs.size ≤ M) : ∃ t' order, t.relaid hs wanted = some (t', order) ∧ order.toList.Perm (List.range hs.size) ∧ TabB t' (order.toList.map fun i => hs.getD i 0) ∧ t'.mask = M ∧ t'.led = t.led ∧ t'.plain = t.plain ∧ t'.dummies = #[] := by
  obtain ⟨owner, f, O⟩ := layB hM le
  obtain ⟨l1, l2, l3⟩ := own_live O
  rw [Array.length_toList] at l1 l2
  have sz := O.sz
  have pl : (tabOf t M owner).place.toList = (liveOf M owner).map (·.1) := by
    unfold tabOf
    simp
  refine ⟨tabOf t M owner, ((liveOf M owner).map (·.2)).toArray, ?_, by simpa using l2, ⟨by rw [pl]; exact l3, rfl, ?_, hM, fun x hx => ?_, fun i h j hi hj => ?_⟩, rfl, rfl, rfl, rfl⟩
  · rw [relaid_eq, e, f]
    rfl
  · rw [← Array.length_toList, pl]
    simp
  · rw [pl] at hx
    obtain ⟨⟨j', k⟩, hm, rfl⟩ := List.mem_map.mp hx
    exact ((mem_live sz).1 hm).1
  · rw [pl] at hj ⊢
    rw [List.getElem?_map] at hj
    simp only [List.toList_toArray, List.map_map, List.getElem?_map] at hi
    cases hl : (liveOf M owner)[i]? with
    | none =>
      rw [hl] at hj
      cases hj
    | some q =>
      obtain ⟨j', k⟩ := q
      rw [hl] at hi hj
      cases hj
      cases hi
      obtain ⟨b1, b2⟩ := (mem_live sz).1 (List.mem_of_getElem? hl)
      obtain ⟨h', K, a1, a2, a3⟩ := O.at_ j' k b1 b2
      have eh : hs.getD k 0 = h' := by
        have := a1
        rw [Array.getElem?_toList] at this
        rw [Array.getD_eq_getD_getElem?, this]
        rfl
      refine ⟨K, ?_, fun k' hk' => ?_⟩
      · show way M (hs.getD k 0) K = j'
        rw [eh]
        exact a2
      · show way M (hs.getD k 0) k' ∈ _
        rw [eh]
        have := a3 k' hk'
        cases ho : oAt owner (way M h' k') with
        | none => exact (this ho).elim
        | some kk => exact List.mem_map.mpr ⟨(_, kk), (mem_live sz).2 ⟨way_leB _ _ _, ho⟩, rfl⟩
end BS
/-! ### sets of tuples of ints of any of five sizes: a member looked for -/
namespace BS
open PySem PySem.Spec PyProof.Rows L2
structure SetTB (P : Program) (w : World) (h : Heap) (a : Addr) (L : List (Addr × List Int)) (es : Array (Int × Value)) (ep : Nat) (t : SetTable) : Prop where
  ob : ∃ o, h.get? a = some o ∧ o.ExactSet ∧ o.data = .set es ep t
  rows : es.toList = rowsOf P w L
  tab : TabB t (L.map fun p => thash P w p.2)
  nd : (L.map (·.2)).Nodup
  tup : ∀ p ∈ L, IsT P w h p.2 p.1
  plain : t.plain = true
  led : w.params.followText "set-order" = true ∨ t.led = true
  room : L.length * 5 < t.mask * 3
  few : L.length < 1000
section
variable {P : Program} {w : World} {A : Around} {E : Value → Shared → Prop} {s : Shared} {a : Addr} {L : List (Addr × List Int)} {es : Array (Int × Value)} {ep : Nat} {t : SetTable}
theorem nth_dm (m : Nat) (p : SetTable.Probe) : ∀ k, (nth m p k).dummy = p.dummy
  | 0 => rfl
  | k + 1 => by
    rw [nth_succ]
    unfold adv
    split
    · exact nth_dm m p k
    · exact nth_dm m p k
theorem SetTB.entry {h : Heap} (R : SetTB P w h a L es ep t) {i : Nat} {p : Addr × List Int} (e : L[i]? = some p) : es[i]? = some (thash P w p.2, .ref p.1) := by
  rw [← Array.getElem?_toList, R.rows]
  unfold rowsOf
  rw [List.getElem?_map, e]
  rfl
theorem SetTB.size {h : Heap} (R : SetTB P w h a L es ep t) : es.size = L.length := by
  rw [← Array.length_toList, R.rows]
  unfold rowsOf
  rw [List.length_map]
theorem SetTB.fits {h : Heap} (R : SetTB P w h a L es ep t) : t.fits es.size = true := by
  have h1 := R.tab.sz
  rw [List.length_map] at h1
  have h2 := R.size
  have h3 := R.room
  unfold SetTable.fits SetTable.fill
  rw [R.tab.dm, Bool.and_eq_true, beq_iff_eq, decide_eq_true_eq]
  show t.place.size = es.size ∧ t.place.size + 0 ≤ t.mask
  omega
theorem SetTB.gw {h : Heap} (R : SetTB P w h a L es ep t) : t.gaveWay = false := by
  unfold SetTable.gaveWay
  rcases R.tab.mok with e | e | e | e | e <;> rw [e] <;> rfl
theorem search_fromB (R : SetTB P w s.heap a L es ep t) {x : Addr} {k : List Int} (hx : IsT P w s.heap k x) (hu : A.units < cLine) {K : Nat} (hK : K < 10 * SetTable.turns t.mask) (no : ¬ way t.mask (thash P w k) K ∈ t.place.toList) (yes : ∀ c, c < K → way t.mask (thash P w k) c ∈ t.place.toList)
    {Q : SetFound → Shared → Prop} (q1 : k ∈ L.map (·.2) → Q (.there none) s) (q2 : k ∉ L.map (·.2) → Q (.free (way t.mask (thash P w k) K) false) s) :
    ∀ (f c : Nat) (stand : Option SetTable.Probe), stand.getD (t.probeStart (thash P w k)) = nth t.mask (runAt t.mask (SetTable.bits (thash P w k) % (t.mask + 1)) (SetTable.bits (thash P w k))) c → c ≤ K → K - c < f →
      (∀ (i : Nat) (p : Addr × List Int), L[i]? = some p → p.2 = k → ∃ c', c ≤ c' ∧ c' < K ∧ t.place.toList[i]? = some (way t.mask (thash P w k) c')) →
      wpAny (model P w) A (setSearchFrom a (.ref x) (thash P w k) true f stand) Q E s := by
  obtain ⟨o, ho, hex, hd⟩ := R.ob
  have hf := R.fits
  intro f
  induction f with
  | zero => intro c stand _ _ h; omega
  | succ f ih =>
    intro c stand hst hc hf1 hin
    rw [setSearchFrom_succ]
    refine wpAny_bind (wpAny_setState_of ho hd hf ?_)
    dsimp only
    rw [R.gw]
    simp only [Bool.false_eq_true, if_false]
    rw [hst]
    unfold SetTable.probe
    have dmz : (nth t.mask (runAt t.mask (SetTable.bits (thash P w k) % (t.mask + 1)) (SetTable.bits (thash P w k))) c).dummy = none := by
      rw [nth_dm]
      rfl
    have wy : ∀ b, (nth t.mask (nth t.mask (runAt t.mask (SetTable.bits (thash P w k) % (t.mask + 1)) (SetTable.bits (thash P w k))) c) b).j = way t.mask (thash P w k) (c + b) := fun b => by
      rw [← nth_add]
    have gs := go_spec t R.tab.ris R.tab.dm (fun i => (Option.map (fun x => x.1) es[i]?).getD 0) (thash P w k) (10 * SetTable.turns t.mask) (K - c) (nth t.mask (runAt t.mask (SetTable.bits (thash P w k) % (t.mask + 1)) (SetTable.bits (thash P w k))) c) dmz (by omega) (fun b hb => by
      rw [wy]
      exact yes _ (by omega)) (by
      rw [wy, show c + (K - c) = K by omega]
      exact no)
    have plen : t.place.toList.length = L.length := by
      have := R.tab.sz
      rw [List.length_map] at this
      rw [Array.length_toList]
      exact this
    have nod : t.place.toList.Nodup := R.tab.ris.imp fun lt => Nat.ne_of_lt lt
    have hh : ∀ {i : Nat} {p : Addr × List Int}, L[i]? = some p → (Option.map (fun x => x.1) es[i]?).getD 0 = thash P w p.2 := fun {i p} e => by
      rw [R.entry e]
      rfl
    rcases gs with ⟨b, i, hb, hi, hi2, hi3, hg⟩ | ⟨hn, hg⟩
    · rw [hg]
      dsimp only
      rw [wy] at hi
      have il : i < L.length := by
        have := (List.getElem?_eq_some_iff.mp hi).1
        omega
      obtain ⟨p, hp⟩ : ∃ p, L[i]? = some p := ⟨_, List.getElem?_eq_getElem il⟩
      have tp := R.tup p (List.mem_of_getElem? hp)
      have rest : wpAny (model P w) A (searchRest a (.ref x) (thash P w k) true f es t (nth t.mask (nth t.mask (runAt t.mask (SetTable.bits (thash P w k) % (t.mask + 1)) (SetTable.bits (thash P w k))) c) b).j i (nth t.mask (nth t.mask (runAt t.mask (SetTable.bits (thash P w k) % (t.mask + 1)) (SetTable.bits (thash P w k))) c) (b + 1))) Q E s := by
        unfold searchRest
        rw [R.entry hp]
        dsimp only
        refine wpAny_bind (wpAny_holding ((TK P w).eqBool hu tp hx ?_))
        refine wpAny_bind (wpAny_setState_of ho hd hf ?_)
        dsimp only
        by_cases e : p.2 = k
        · rw [decide_eq_true e]
          simp only [Bool.and_self, if_true]
          exact wpAny_pure (q1 (List.mem_map.mpr ⟨p, List.mem_of_getElem? hp, e⟩))
        · rw [decide_eq_false e]
          simp only [Bool.and_false, Bool.false_eq_true, if_false]
          have sm : t.sameMemory t.moves t.mask = some true := by
            unfold SetTable.sameMemory
            simp
          rw [sm]
          dsimp only
          rw [if_pos rfl, wy, slot_live R.tab.ris hi]
          dsimp only
          rw [R.entry hp]
          dsimp only
          refine wpAny_bind ?_
          unfold isSame
          dsimp only
          rw [if_pos (by simp)]
          refine wpAny_pure (wpAny_bind (wpAny_pure ?_))
          rw [if_pos rfl]
          dsimp only
          refine ih (c + b + 1) _ ?_ (by omega) (by omega) fun i' p' hp' e' => ?_
          · show nth t.mask (nth t.mask _ c) (b + 1) = _
            rw [← nth_add, Nat.add_assoc]
          · obtain ⟨c', c1, c2, c3⟩ := hin i' p' hp' e'
            refine ⟨c', ?_, c2, c3⟩
            by_cases z : c' < c + b
            · exfalso
              refine hi3 (c' - c) i' (by omega) (by rw [wy, show c + (c' - c) = c' by omega]; exact c3) ?_
              show (Option.map (fun x => x.1) es[i']?).getD 0 = _
              rw [hh hp', e']
            · by_cases z2 : c' = c + b
              · exfalso
                rw [z2, ← hi] at c3
                have il' : i' < t.place.toList.length := (List.getElem?_eq_some_iff.mp (c3.trans hi)).1
                have := (List.getElem?_inj il' nod).mp c3
                rw [this, hp] at hp'
                cases hp'
                exact e e'
              · omega
      cases hled : t.led with
      | true =>
        simp only [Bool.not_true, Bool.false_eq_true, if_false]
        exact rest
      | false =>
        simp only [Bool.not_false, if_true]
        refine wpAny_bind (seen_tup hx (fun y hy => ?_) ?_)
        · obtain ⟨q, hq, rfl⟩ := List.mem_map.mp hy
          rw [Array.toList_filter] at hq
          have hq := (List.mem_filter.mp hq).1
          rw [R.rows] at hq
          obtain ⟨p', hp', rfl⟩ := List.mem_map.mp hq
          exact ⟨p'.2, p'.1, rfl, R.tup p' hp'⟩
        · simp only [Bool.false_eq_true, if_false]
          exact rest
    · rw [hg]
      dsimp only
      rw [wy, show c + (K - c) = K by omega]
      refine wpAny_pure (q2 fun z => ?_)
      obtain ⟨p, hp, e⟩ := List.mem_map.mp z
      obtain ⟨i, hi⟩ := List.mem_iff_getElem?.mp hp
      obtain ⟨c', c1, c2, c3⟩ := hin i p hi e
      refine hn (c' - c) i (by omega) (by rw [wy, show c + (c' - c) = c' by omega]; exact c3) ?_
      show (Option.map (fun x => x.1) es[i]?).getD 0 = _
      rw [hh hi, e]
end
end BS
/-! ### sets of tuples of ints of any of five sizes: a member put in -/
namespace BS
open PySem PySem.Spec PyProof.Rows L2 SD
theorem pick_all {α : Type} (l : List α) : (List.range l.length).filterMap (fun i => l[i]?) = l := by
  induction l with
  | nil => rfl
  | cons x l ih =>
    rw [List.length_cons, List.range_succ_eq_map, List.filterMap_cons]
    simp only [List.getElem?_cons_zero, List.filterMap_map]
    rw [show ((fun i => (x :: l)[i]?) ∘ Nat.succ) = fun i => l[i]? from by funext i; simp]
    rw [ih]
theorem fm_congr {α β : Type} {f g : α → Option β} : ∀ {l : List α}, (∀ x ∈ l, f x = g x) → l.filterMap f = l.filterMap g
  | [], _ => rfl
  | x :: l, h => by
    rw [List.filterMap_cons, List.filterMap_cons, h x List.mem_cons_self, fm_congr (l := l) fun y hy => h y (List.mem_cons_of_mem _ hy)]
theorem pick_perm {α : Type} (l : List α) {o : List Nat} (h : o.Perm (List.range l.length)) : (o.filterMap fun i => l[i]?).Perm l :=
  (h.filterMap _).trans (by rw [pick_all])
section
variable {P : Program} {w : World} {A : Around} {E : Value → Shared → Prop} {s : Shared} {a : Addr} {L : List (Addr × List Int)} {es : Array (Int × Value)} {ep : Nat} {t : SetTable}
theorem ist_same {h h' : Heap} {b : Addr} {k : List Int} {o : Obj} (sb : Heap.SameBut a h h') (ho : h.get? a = some o) (hd : o.data = .set es ep t) (hx : IsT P w h k b) : IsT P w h' k b := by
  obtain ⟨o2, items, n, h1, h2, h3, h4⟩ := hx
  have ne : b ≠ a := fun z => by
    rw [z, ho] at h1
    cases h1
    rw [hd] at h3
    cases h3
  exact ⟨o2, items, n, (sb.2 b ne).trans h1, h2, h3, h4⟩
theorem relay_atB {o : Obj} (ho : s.heap.get? a = some o) (hex : o.ExactSet) (hd : o.data = .set es ep t) (rows : es.toList = rowsOf P w L) (sz : t.place.size = es.size) (dm : t.dummies = #[]) (le : es.size ≤ t.mask) (nd : (L.map (·.2)).Nodup) (tup : ∀ p ∈ L, IsT P w s.heap p.2 p.1) (plain : t.plain = true)
    (led : w.params.followText "set-order" = true ∨ t.led = true) (few : L.length < 1000) {wanted M : Nat} (hw : SetTable.sizeAbove wanted - 1 = M) (hM : MaskB M) (hs : SetTable.sizeAbove wanted ≤ 2048) (room : L.length * 5 < M * 3)
    {Q : Unit → Shared → Prop} (hQ : ∀ h' L' es' ep' t', Heap.SameBut a s.heap h' → SetTB P w h' a L' es' ep' t' → L'.Perm L → Q () { s with heap := h' }) :
    wpAny (model P w) A (setRelay a wanted) Q E s := by
  have el : es.size = L.length := by
    rw [← Array.length_toList, rows]
    unfold rowsOf
    rw [List.length_map]
  have hf : t.fits es.size = true := by
    unfold SetTable.fits SetTable.fill
    rw [dm, Bool.and_eq_true, beq_iff_eq, decide_eq_true_eq]
    show t.place.size = es.size ∧ t.place.size + 0 ≤ t.mask
    omega
  rw [setRelay_eq]
  refine wpAny_bind (wpAny_setState_of ho hd hf ?_)
  dsimp only
  obtain ⟨t', order, e, pm, T', m1, m2, m3, m4⟩ := relaidB t (hs := es.map (·.1)) (wanted := wanted) hw hM (by rw [Array.size_map]; omega)
  rw [Array.size_map, el] at pm
  rw [e]
  dsimp only
  have lt : ∀ i ∈ order.toList, i < L.length := fun i hi => List.mem_range.mp (pm.mem_iff.mp hi)
  have rows' : (Array.filterMap (fun x => es[x]?) order).toList = rowsOf P w (order.toList.filterMap fun i => L[i]?) := by
    rw [Array.toList_filterMap]
    unfold rowsOf
    rw [List.map_filterMap]
    refine fm_congr fun i hi => ?_
    rw [← Array.getElem?_toList, rows]
    unfold rowsOf
    rw [List.getElem?_map]
  have pml := pick_perm L pm
  have sz' : (Array.filterMap (fun x => es[x]?) order).size = es.size := by
    rw [← Array.length_toList, rows', el]
    unfold rowsOf
    rw [List.length_map]
    exact pml.length_eq
  have tab' : TabB t' ((order.toList.filterMap fun i => L[i]?).map fun p => thash P w p.2) := by
    have : (order.toList.map fun i => (es.map (·.1)).getD i 0) = (order.toList.filterMap fun i => L[i]?).map fun p => thash P w p.2 := by
      rw [List.map_filterMap, ← List.filterMap_eq_map]
      refine fm_congr fun i hi => ?_
      have := lt i hi
      obtain ⟨p, hp⟩ : ∃ p, L[i]? = some p := ⟨_, List.getElem?_eq_getElem this⟩
      have he : es[i]? = some (thash P w p.2, .ref p.1) := by
        rw [← Array.getElem?_toList, rows]
        unfold rowsOf
        rw [List.getElem?_map, hp]
        rfl
      rw [hp]
      show some ((es.map (·.1)).getD i 0) = some (thash P w p.2)
      rw [Array.getD_eq_getD_getElem?, Array.getElem?_map, he]
      rfl
    rw [← this]
    exact T'
  have ll := pml.length_eq
  rw [if_neg (by
    have : (2048 : Nat) ≤ sizeLine := by decide
    omega)]
  refine wpAny_bind ?_
  rw [if_neg (by rw [sz']; simp)]
  refine wpAny_pure ?_
  dsimp only
  refine wpAny_storeSet_of ho hd ?_ (by rw [sz']; exact Nat.le_trans (show _ ≤ 1000 by omega) (by decide))
  have sb := Heap.SameBut.update s.heap a (Obj.putSet (Array.filterMap (fun x => es[x]?) order) t')
  refine (hQ _ _ _ _ _ sb ⟨⟨_, store_at ho hd, hex, rfl⟩, rows', tab', ?_, fun p hp => ist_same sb ho hd (tup p (pml.mem_iff.mp hp)), m3.trans plain, ?_, by rw [ll, m1]; exact room, by omega⟩ pml)
  · exact (pml.map _).nodup_iff.mpr nd
  · rw [m2]
    exact led
theorem add_atB (R : SetTB P w s.heap a L es ep t) {x : Addr} {k : List Int} (hx : IsT P w s.heap k x) (hu : A.units < cLine) (few : L.length + 1 < 1000) {Q : Bool → Shared → Prop}
    (hQ : ∀ b h' L' es' ep' t', Heap.SameBut a s.heap h' → SetTB P w h' a L' es' ep' t' → (k ∈ L.map (·.2) → L' = L) → (k ∉ L.map (·.2) → L'.Perm ((x, k) :: L)) → Q b { s with heap := h' }) :
    wpAny (model P w) A (setAddHashed a (.ref x) (thash P w k)) Q E s := by
  obtain ⟨o, ho, hex, hd⟩ := R.ob
  have hf := R.fits
  have T := R.tab
  have el := R.size
  have sml : L.length ≤ t.mask := by
    have := R.room
    omega
  obtain ⟨K, k1, k2, k3⟩ := T.first (by rw [List.length_map]; exact sml) (thash P w k)
  have m20 : t.mask ≤ 2047 := by rcases T.mok with e | e | e | e | e <;> omega
  unfold setAddHashed
  refine wpAny_holding ?_
  rw [show (100000 : Nat) = 99999 + 1 from rfl, setAddHashedIn_succ]
  refine wpAny_bind (wpAny_setState_of ho hd hf ?_)
  dsimp only
  rw [if_neg (by simp [byScan, Value.scannable])]
  refine wpAny_bind ?_
  unfold setSearch
  refine search_fromB R hx hu k1 k2 k3 (fun z => ?_) (fun z => ?_) 100000 0 none ?_ (Nat.zero_le _) (by unfold SetTable.turns at k1; omega) fun i p hp e => ?_
  · exact wpAny_pure (hQ false s.heap L es ep t (Heap.SameBut.refl _ _) R (fun _ => rfl) fun n => (n z).elim)
  · dsimp only
    refine wpAny_bind (wpAny_setState_of ho hd hf ?_)
    dsimp only
    obtain ⟨p1, p2, T1, p3, p4, p5, p6, p7, p8⟩ := T.put k2 k3
    generalize hput : t.put (way t.mask (thash P w k) K) = tp at p1 T1 p3 p4 p5 p6 p7 p8
    obtain ⟨t1, pp⟩ := tp
    dsimp only at p1 T1 p3 p4 p5 p6 p7 p8 ⊢
    subst p1
    rw [if_pos (p5.trans R.plain)]
    refine wpAny_bind (hashBy_tup hx ?_)
    rw [if_pos rfl]
    have el' : (SetTable.insertAt es (SetTable.below t.place (way t.mask (thash P w k) K)) (thash P w k, Value.ref x)).toList = es.toList.take (SetTable.below t.place (way t.mask (thash P w k) K)) ++ (thash P w k, Value.ref x) :: es.toList.drop (SetTable.below t.place (way t.mask (thash P w k) K)) := by
      unfold SetTable.insertAt
      simp [List.append_assoc]
      exact List.take_of_length_le (by simp)
    generalize SetTable.below t.place (way t.mask (thash P w k) K) = pl at p2 T1 el' ⊢
    rw [List.length_map] at p2 p8
    have rows1 : (SetTable.insertAt es pl (thash P w k, Value.ref x)).toList = rowsOf P w (L.take pl ++ (x, k) :: L.drop pl) := by
      rw [el', R.rows, rows_put]
    have len1 : (L.take pl ++ (x, k) :: L.drop pl).length = L.length + 1 := len_ins L p2 _
    have perm1 := put_perm L pl (x, k)
    have sz1 : (SetTable.insertAt es pl (thash P w k, Value.ref x)).size = L.length + 1 := by
      rw [← Array.length_toList, rows1]
      unfold rowsOf
      rw [List.length_map, len1]
    have nd1 : ((L.take pl ++ (x, k) :: L.drop pl).map (·.2)).Nodup := by
      refine (perm1.map _).nodup_iff.mpr ?_
      rw [List.map_cons, List.nodup_cons]
      exact ⟨z, R.nd⟩
    have tab1 : TabB t1 ((L.take pl ++ (x, k) :: L.drop pl).map fun p => thash P w p.2) := by
      rw [List.map_append, List.map_cons, List.map_take, List.map_drop]
      exact T1
    have tup1 : ∀ p ∈ L.take pl ++ (x, k) :: L.drop pl, IsT P w s.heap p.2 p.1 := fun p hp => by
      rcases List.mem_cons.mp (perm1.mem_iff.mp hp) with rfl | hp
      · exact hx
      · exact R.tup p hp
    have plain1 : t1.plain = true := p5.trans R.plain
    have led1 : w.params.followText "set-order" = true ∨ t1.led = true := by
      rw [p4]
      exact R.led
    refine wpAny_bind (wpAny_storeSet_of ho hd ?_ (by rw [sz1]; exact Nat.le_trans (show _ ≤ 1000 by omega) (by decide)))
    have sb := Heap.SameBut.update s.heap a (Obj.putSet (SetTable.insertAt es pl (thash P w k, Value.ref x)) t1)
    have ho1 := store_at (es' := SetTable.insertAt es pl (thash P w k, Value.ref x)) (t' := t1) ho hd
    have tup2 : ∀ p ∈ L.take pl ++ (x, k) :: L.drop pl, IsT P w (s.heap.update a (Obj.putSet (SetTable.insertAt es pl (thash P w k, Value.ref x)) t1)) p.2 p.1 := fun p hp => ist_same sb ho hd (tup1 p hp)
    have szt : t1.place.size = L.length + 1 := by
      have := tab1.sz
      rw [List.length_map, len1] at this
      exact this
    by_cases full : t1.tooFull = true
    · rw [if_pos (by rw [full]; rfl)]
      have fl := full
      unfold SetTable.tooFull at fl
      have fl := of_decide_eq_true fl
      rw [p8, p3] at fl
      have rm := R.room
      have grown : ∃ M, SetTable.sizeAbove (SetTable.grown (es.size + 1)) - 1 = M ∧ MaskB M ∧ SetTable.sizeAbove (SetTable.grown (es.size + 1)) ≤ 2048 ∧ (L.length + 1) * 5 < M * 3 := by
        rw [el]
        rcases T.mok with e | e | e | e | e
        · have : L.length = 4 := by omega
          rw [this]
          exact ⟨31, by decide +kernel, .inr (.inl rfl), by decide +kernel, by decide⟩
        · have : L.length = 18 := by omega
          rw [this]
          exact ⟨127, by decide +kernel, .inr (.inr (.inl rfl)), by decide +kernel, by decide⟩
        · have : L.length = 76 := by omega
          rw [this]
          exact ⟨511, by decide +kernel, .inr (.inr (.inr (.inl rfl))), by decide +kernel, by decide⟩
        · have : L.length = 306 := by omega
          rw [this]
          exact ⟨2047, by decide +kernel, .inr (.inr (.inr (.inr rfl))), by decide +kernel, by decide⟩
        · omega
      obtain ⟨M, g1, g2, g3, g4⟩ := grown
      refine wpAny_bind (relay_atB (s := { s with heap := s.heap.update a (Obj.putSet (SetTable.insertAt es pl (thash P w k, Value.ref x)) t1) }) ho1 hex rfl rows1 (by rw [szt, sz1]) tab1.dm (by rw [sz1, p3]; omega) nd1 tup2 plain1 led1 (by omega) g1 g2 g3 (by rw [len1]; exact g4) fun h' L' es' ep' t' sb' R' pm' => ?_)
      exact wpAny_pure (hQ true h' L' es' ep' t' ⟨sb'.1.trans sb.1, fun b hb => (sb'.2 b hb).trans (sb.2 b hb)⟩ R' (fun y => (z y).elim) fun _ => pm'.trans perm1)
    · rw [if_neg (by simpa using full)]
      refine wpAny_pure (hQ true _ _ _ _ _ sb ⟨⟨_, ho1, hex, rfl⟩, rows1, tab1, nd1, tup2, plain1, led1, ?_, by omega⟩ (fun y => (z y).elim) fun _ => perm1)
      have fl := full
      unfold SetTable.tooFull at fl
      rw [decide_eq_true_iff, p8] at fl
      rw [len1]
      omega
  · rw [Option.getD_none, start_run]
    rfl
  · have hi : (L.map fun p => thash P w p.2)[i]? = some (thash P w k) := by
      rw [List.getElem?_map, hp]
      show some (thash P w p.2) = _
      rw [e]
    have il : i < t.place.toList.length := by
      have h1 := T.sz
      rw [List.length_map] at h1
      rw [Array.length_toList, h1]
      exact (List.getElem?_eq_some_iff.mp hp).1
    obtain ⟨j, hj⟩ : ∃ j, t.place.toList[i]? = some j := ⟨_, List.getElem?_eq_getElem il⟩
    obtain ⟨c', c1, c2⟩ := T.before k2 hi hj
    exact ⟨c', Nat.zero_le _, c1, by rw [c2]; exact hj⟩
end
end BS
/-! ### sets of up to 999 tuples of ints: set comprehensions, len -/
namespace BS
open PySem PySem.Spec PyProof.Rows L2 SD SC
/-- the same without the tuples -/
structure SetB0 (P : Program) (w : World) (h : Heap) (a : Addr) (L : List (Addr × List Int)) : Prop where
  ex : ∃ es ep t, (∃ o, h.get? a = some o ∧ o.ExactSet ∧ o.data = .set es ep t) ∧ es.toList = rowsOf P w L ∧ TabB t (L.map fun p => thash P w p.2) ∧ (L.map (·.2)).Nodup ∧ t.plain = true ∧ (w.params.followText "set-order" = true ∨ t.led = true) ∧ L.length * 5 < t.mask * 3 ∧ L.length < 1000
theorem SetTB.b0 {P : Program} {w : World} {h : Heap} {a : Addr} {L : List (Addr × List Int)} {es : Array (Int × Value)} {ep : Nat} {t : SetTable} (R : SetTB P w h a L es ep t) : SetB0 P w h a L := ⟨es, ep, t, R.ob, R.rows, R.tab, R.nd, R.plain, R.led, R.room, R.few⟩
theorem SetB0.full {P : Program} {w : World} {h : Heap} {a : Addr} {L : List (Addr × List Int)} (R : SetB0 P w h a L) (ht : ∀ p ∈ L, IsT P w h p.2 p.1) : ∃ es ep t, SetTB P w h a L es ep t := by
  obtain ⟨es, ep, t, h1, h2, h3, h4, h5, h6, h7, h8⟩ := R.ex
  exact ⟨es, ep, t, h1, h2, h3, h4, ht, h5, h6, h7, h8⟩
def SetBO (P : Program) (w : World) (a : Addr) (L : List (Addr × List Int)) : HO := .ext fun h => SetB0 P w h a L
theorem setBO_new {P : Program} {w : World} {H : Hp} {h : Heap} {a : Addr} {L : List (Addr × List Int)} (R : SetB0 P w h a L) : ObjOk P w H h a (SetBO P w a L) := by
  refine ⟨R, ?_, fun h1 h2 R1 e => ?_⟩
  · obtain ⟨es, ep, t, ⟨o, h1, _⟩, _⟩ := R.ex
    exact ⟨o, h1⟩
  · obtain ⟨es, ep, t, ⟨o, a1, a2, a3⟩, b⟩ := R1.ex
    exact ⟨es, ep, t, ⟨o, e o a1, a2, a3⟩, b⟩
theorem setTB_fresh {P : Program} {w : World} {h : Heap} {a : Addr} (e : h.get? a = some (bareS w)) : SetB0 P w h a [] := by
  have R := (setTR_fresh (P := P) e).t0
  obtain ⟨es, ep, t, ⟨o, h1, h2, h3⟩, h4, h5, h6, h7, h8, h9, h10⟩ := R.ex
  refine ⟨es, ep, t, ⟨o, h1, h2, h3⟩, h4, ⟨h5.ris, h5.dm, h5.sz, ?_, h5.bd, h5.reach⟩, h6, h7, h8, h9, by simp⟩
  rcases h5.mok with e | e | e
  · exact .inl e
  · exact .inr (.inl e)
  · exact .inr (.inr (.inl e))
theorem addB {P : Program} {w : World} {A : Around} {E : Value → Shared → Prop} {s : Shared} {a : Addr} {L : List (Addr × List Int)} {es : Array (Int × Value)} {ep : Nat} {t : SetTable} (R : SetTB P w s.heap a L es ep t) {x : Addr} {k : List Int} (hx : IsT P w s.heap k x) (hu : A.units + 64 < cLine) (hfew : L.length + 1 < 1000) {Q : Value → Shared → Prop}
    (hQ : ∀ h' tk L' es' ep' t', Heap.SameBut a s.heap h' → SetTB P w h' a L' es' ep' t' → (k ∈ L.map (·.2) → L' = L) → (k ∉ L.map (·.2) → L'.Perm ((x, k) :: L)) → Q .none { s with heap := h', toks := tk }) :
    wpAny (model P w) A (call (.builtin "set.add") [.ref a, .ref x]) Q E s := by
  obtain ⟨o, ho, hex, hd⟩ := R.ob
  refine wpAny_call_entry F.slot_set_add ⟨o, ho, hex.1⟩ F.entry_set_add ?_ (F.args_set_add_2 _ _)
  unfold Builtin.«set.add» Builtin.Frozenset.oneOther
  simp only [List.isEmpty_nil, bind_assoc]
  unfold Builtin.Frozenset.addrOf setAdd
  refine wpAny_bind (wpAny_pure ?_)
  try dsimp only
  refine wpAny_bind (wpAny_pure ?_)
  try dsimp only
  refine wpAny_bind ?_
  refine wpAny_holding ?_
  refine wpAny_bind (wpAny_pyHash_tuple (by show A.units + 1 < _; omega) hx ?_)
  refine add_atB (s := { s with toks := s.toks + (k.length + 1) }) R hx (by show A.units + 1 < _; omega) hfew fun b h' L' es' ep' t' sb R' c1 c2 => ?_
  show wpAny _ _ (ret Value.none) _ _ _
  exact wpAny_pure ⟨_, rfl, hQ h' _ L' es' ep' t' sb R' c1 c2⟩
def famB : FamP (List (Addr × List Int)) (List Int) where
  ob := fun P w a L => SetBO P w a L
  ini := []
  new := fun P w H h => setBO_new (setTB_fresh (Heap.get?_push_size _ rfl))
  pre := fun K A H L y k => ∃ x : Addr, y = .ref x ∧ SqT K H x (k.map V.int) ∧ (∀ p ∈ L, SqT K H p.1 (p.2.map V.int)) ∧ A.units + 64 < cLine ∧ L.length + 1 < 1000
  post := fun L y k L' => ∃ x : Addr, y = .ref x ∧ (k ∈ L.map (·.2) → L' = L) ∧ (k ∉ L.map (·.2) → L'.Perm ((x, k) :: L))
  add := by
    intro X pins σ H s E D a y k v Q I hD pt rv q
    obtain ⟨x, rfl, hx, ht, hu, few⟩ := pt
    cases rv
    have R0 : SetB0 X.prog X.w s.heap D a := (I.hok D _ hD).1
    obtain ⟨es, ep, t, R⟩ := R0.full fun p hp => I.isT (ht p hp)
    refine addB R (I.isT hx) hu few fun h' tk L' es' ep' t' sb R' c1 c2 => q L' _ ⟨x, rfl, c1, c2⟩ ?_
    obtain ⟨o', ho', _⟩ := R'.ob
    exact I.write (e := D) (t' := tk) (by rw [hD]; trivial) (.inl rfl) (fun b u hb hu => (sb.2 b hb).trans hu) ⟨o', ho'⟩ (setBO_new R'.b0)
/-- len of such a set -/
def rLenB (P : Program) (w : World) : List V → Hp → VK → Prop := fun xs H Q => ∃ (a : Addr) (L : List (Addr × List Int)), xs = [.ref a] ∧ H a = some (SetBO P w a L) ∧ Q (.int (L.length : Int)) H
theorem call_lenB {X : Cx} : CallR X (.builtin "len") (rLenB X.prog X.w) := by
  intro pins s σ H xs us Q I r h
  obtain ⟨a, L, rfl, ha, q⟩ := h
  rw [Vals.ref1 r]
  have R0 : SetB0 X.prog X.w s.heap a L := (I.hok a _ ha).1
  obtain ⟨es, ep, t, ⟨o, ho, hex, hd⟩, rows, tab, nd, pl, led, room, few⟩ := R0.ex
  have sz : es.size = L.length := by
    rw [← Array.length_toList, rows]
    simp [rowsOf]
  have hf : t.fits es.size = true := by
    have h1 := tab.sz
    rw [List.length_map] at h1
    unfold SetTable.fits SetTable.fill
    rw [tab.dm, Bool.and_eq_true, beq_iff_eq, decide_eq_true_eq]
    show t.place.size = es.size ∧ t.place.size + 0 ≤ t.mask
    omega
  exact PySem.call_len_set ho hex hd hf (by rw [sz]; omega) ⟨.int (L.length : Int), H, I.tok _, ⟨_, by rw [sz]⟩, q⟩
end BS
namespace CC
open PySem L2 TL
theorem updB_T {P : Program} {w : World} {H : Hp} {l : Addr} {L : List (Addr × List Int)} {o : HO} (h : H l = some (BS.SetBO P w l L)) : SameT H (upd H l o) := by
  constructor
  · intro b xs e
    rw [upd_ne (ne_of e h (by intro z; cases z))]
    exact e
  · intro b o xs e
    rw [upd_ne (ne_of e h (by intro z; cases z))]
    exact e
/-- {(row[a], row[b]) for row in rows} -/
theorem sp_pairsB {P : Program} {w : World} {A : Around} {K : PySem.W.Frag} {g : Addr} {us : List V} {rows : List (List Nat)} {m a b ca cb : Nat} {σ : L2.St} {H : Hp} {D : Addr} {Qd : Hp → Prop} (hg : SqT K H g us) (dp : DpAll K H us (rows.map gd)) (ok : ∀ r ∈ rows, RowOk m r) (few : rows.length ≤ 900) (am : a < m) (bm : b < m) (nD : H D = none) (hu : A.units + 64 < cLine)
    (hw : ∀ x : V, wipe ((wipe σ [5]).set 5 (some x)) [5] = wipe σ [5]) (hx : ∀ x : V, ((wipe σ [5]).set 5 (some x))[5]? = some (some x)) (hca : ∀ x : V, ((wipe σ [5]).set 5 (some x))[ca]? = some (some (.int (a : Int)))) (hcb : ∀ x : V, ((wipe σ [5]).set 5 (some x))[cb]? = some (some (.int (b : Int))))
    (q : ∀ H2 (L : List (Addr × List Int)), Same H (wo H2 D) → H2 D = some (BS.SetBO P w D L) → (L.map (·.2)).Nodup → (∀ k, k ∈ L.map (·.2) ↔ k ∈ rows.map (pr2 a b)) → Qd H2) :
    ∃ W : Nat → Nat → Hp → Prop, (∃ m, W 0 m (upd H D (BS.famB.ob P w D BS.famB.ini))) ∧ ∀ i m H, W i m H → ((Itt K g).stop i H ∧ Qd H) ∨ ((Itt K g).go i H ∧ ∃ Nx : Hp → Prop, (∀ H', Nx H' → ∃ m', m' < m ∧ W (i + 1) m' H') ∧ ∀ x H', (Itt K g).yld i H x H' → gName 5 x (wipe σ [5]) H' fun σ2 H2 => wipe σ2 [5] = wipe σ [5] ∧ tYes σ2 H2 fun b H3 =>
      if b = true then tTup (tCons (tOp (rIxT K) (tVar 5) (tVar ca)) (tCons (tOp (rIxT K) (tVar 5) (tVar cb)) tNil)) σ2 H3 fun y H4 => ∃ (c : List (Addr × List Int)) (z : List Int), H4 D = some (BS.famB.ob P w D c) ∧ BS.famB.pre K A H4 c y z ∧ ∀ c', BS.famB.post c y z c' → Nx (upd H4 D (BS.famB.ob P w D c')) else Nx H3) := by
  have ul : us.length = rows.length := by rw [dps_len dp, List.length_map]
  refine sp_tup BS.famB (xs := us) (fun j H2 => Same H (wo H2 D) ∧ ∃ L : List (Addr × List Int), H2 D = some (BS.SetBO P w D L) ∧ (∀ p ∈ L, SqT K H2 p.1 (p.2.map V.int)) ∧ (L.map (·.2)).Nodup ∧ (∀ k, k ∈ L.map (·.2) ↔ k ∈ (rows.take j).map (pr2 a b)) ∧ L.length ≤ j) ⟨?_, [], upd_same, (fun p hp => by cases hp), List.nodup_nil, (fun k => by simp), Nat.le_refl _⟩ (fun j H2 _ z => same_t (z.1.trans (wo_le D)) hg) ?_ ?_
  · rw [wo_upd]
    exact fun b o e => by rw [wo_ne (ne_of_none e nD)]; exact e
  · rintro j v H2 hv ⟨f1, L, f2, f3, f4, f5, f6⟩
    obtain ⟨r, hr2, dr⟩ := dps_gat dp hv
    have jl := (List.getElem?_eq_some_iff.mp hr2).1
    have rok := ok r (List.mem_of_getElem? hr2)
    obtain ⟨t, rfl, ht⟩ := gd_at dr
    have s2 : Same H H2 := f1.trans (wo_le D)
    have gx : ∀ c, c < m → (nms r)[c]? = some (.int ((r.getD c 0 : Nat) : Int)) := fun c cm => by
      rw [nms, List.getElem?_map, List.getD_eq_getElem?_getD, List.getElem?_eq_getElem (by rw [rok.1]; exact cm)]
      rfl
    refine ⟨hw _, yes_if ⟨_, hx _, _, hca _, t, _, _, _, rfl, rfl, same_t s2 ht, atI_nat (gx a am), _, hx _, _, hcb _, t, _, _, _, rfl, rfl, same_t s2 ht, atI_nat (gx b bm), (by show 2 ≤ sizeLine; decide), fun t2 n2 => ?_⟩⟩
    have s3 : Same H2 (upd H2 t2 (.tup [.int ((r.getD a 0 : Nat) : Int), .int ((r.getD b 0 : Nat) : Int)])) := same_new n2
    have h3 : (upd H2 t2 (.tup [.int ((r.getD a 0 : Nat) : Int), .int ((r.getD b 0 : Nat) : Int)])) t2 = some (.tup ((pr2 a b r).map V.int)) := upd_same
    generalize upd H2 t2 (.tup [.int ((r.getD a 0 : Nat) : Int), .int ((r.getD b 0 : Nat) : Int)]) = H3 at s3 h3
    refine ⟨L, pr2 a b r, s3 _ _ f2, ⟨t2, rfl, .inl (.inl h3), fun p hp => same_t s3 (f3 p hp), hu, by omega⟩, ?_⟩
    rintro c' ⟨x, ex, c1, c2⟩
    cases ex
    have uT : SameT H3 (upd H3 D (BS.SetBO P w D c')) := updB_T (s3 _ _ f2)
    refine ⟨?_, c', upd_same, ?_⟩
    · rw [wo_upd]
      exact f1.trans (wo_same s3)
    have tk : ∀ k, k ∈ (rows.take (j + 1)).map (pr2 a b) ↔ k ∈ (rows.take j).map (pr2 a b) ∨ k = pr2 a b r := fun k => by
      rw [take1 hr2, List.map_append, List.mem_append]
      simp
    by_cases e : pr2 a b r ∈ L.map (·.2)
    · rw [c1 e]
      refine ⟨fun p hp => sqt_T (c1 e ▸ uT) (same_t s3 (f3 p hp)), f4, fun k => ?_, by omega⟩
      rw [tk, ← f5]
      exact ⟨.inl, fun z => z.elim id fun z => z ▸ e⟩
    · have pm := c2 e
      refine ⟨fun p hp => ?_, ?_, fun k => ?_, ?_⟩
      · rcases List.mem_cons.mp (pm.mem_iff.mp hp) with z | z
        · rw [z]
          exact sqt_T uT (.inl (.inl h3))
        · exact sqt_T uT (same_t s3 (f3 p z))
      · exact (pm.map (·.2)).nodup_iff.mpr (List.nodup_cons.mpr ⟨e, f4⟩)
      · rw [tk, ← f5, (pm.map (·.2)).mem_iff, List.map_cons, List.mem_cons]
        exact ⟨fun z => z.elim .inr .inl, fun z => z.elim .inr .inl⟩
      · rw [pm.length_eq, List.length_cons]
        omega
  · rintro H2 ⟨f1, L, f2, f3, f4, f5, f6⟩
    rw [ul, List.take_length] at f5
    exact q H2 L f1 f2 f4 f5
end CC
namespace CC
open PySem L2 TL
/-- many rows, no column of which has far more values than another one -/
def FwG (m : Nat) (rows : List (List Nat)) : Prop := rows.length ≤ 400 ∧ ∀ a, a < m → ∀ b, b < m → dn (colN rows a) / 4 ≤ dn (colN rows b) ∨ dn (colN rows a) ≤ 31
theorem FwG.of_len {m : Nat} {rows : List (List Nat)} (h : rows.length ≤ 31) : FwG m rows := ⟨by omega, fun a _ b _ => .inr (Nat.le_trans (dn_len _) (by unfold colN; rw [List.length_map]; exact h))⟩
def spHoB (K : PySem.W.Frag) : Sp := fun vs H Q _ => ∃ (g : Addr) (us : List V) (m : Nat) (rows : List (List Nat)) (v : V) (r : R), vs = [.ref g, v] ∧ SqT K H g us ∧ DpAll K H us (rows.map gd) ∧ (∀ x ∈ rows, RowOk m x) ∧ FwG m rows ∧ Dp K H v r.d ∧ r.ok m ∧ ∀ (t : Bool) H', Same H H' → (t = true ↔ HoldsR rows r) → Q (.bl t) H'
section
variable {P : Program} {w : World} {K : PySem.W.Frag} {mg : Str → Option Value} {base : Heap} {kA : Addr}
theorem ok_hoB {f : Addr} {fd : FuncData} {k : Nat} (F : Fun K "holds" "holds" sHo f fd) (T : Glb K mg kA) : FnOk P w K mg base CX0 (k + 1) f fd ["rows", "rule"] (spHoB K) := by
  refine F.ok scHo (fun vs H Q E h => ?_) (fun cdv A outer s H vs Q E hr h => ?_)
  · obtain ⟨g, us, m, rows, v, r, rfl, _⟩ := h
    rfl
  · obtain ⟨g, us, m, rows, v, r, rfl, hg, dp, ok, few, dr, hr2, q⟩ := h
    have n := scHo.nd
    have few60 := few.1
    refine ⟨_, (pss_cons (ps_asg (pv 1) (pg_tup rfl (pgs_cons (pg_name (i := 2) n rfl (.inl rfl)) (pgs_cons (pg_name (i := 3) n rfl (.inr rfl)) (pgs_cons (pg_name (i := 4) n rfl (.inr rfl)) pgs_nil)))))
      (pss_cons (ps_if (pt_cmpR op_eq (pv 2) pe_str (nomark _))
        (pss_one (ps_ret (pe_cmpR op_eq (pe_callB (r := rLenI w) call_lenI (by rfl) T.len PySem.boot_len (pa_cons (pe_op (r := SD.rSubK w) SD.op_subK
          (SC.pe_setI (own := [("row", 5)]) (g := gName 5) (tt := tYes) (te := tOp (rIxT K) (tVar 5) (tVar 3)) rfl n (pi_tup (pv 0)) (blkOk_by (N := nHp) (sc := defScope sHo) (by decide +kernel)) (fun _ _ _ _ _ => (pg_name (i := 5) n rfl (.inl rfl))) (fun _ _ _ _ _ => pts_nil) (fun _ _ _ _ _ => (pe_ix ix_tup (pv 5) (pv 3) (fun _ _ => rfl))))
          (SC.pe_setI (own := [("row", 5)]) (g := gName 5) (tt := tYes) (te := tOp (rIxT K) (tVar 5) (tVar 4)) rfl n (pi_tup (pv 0)) (blkOk_by (N := nHp) (sc := defScope sHo) (by decide +kernel)) (fun _ _ _ _ _ => (pg_name (i := 5) n rfl (.inl rfl))) (fun _ _ _ _ _ => pts_nil) (fun _ _ _ _ _ => (pe_ix ix_tup (pv 5) (pv 4) (fun _ _ => rfl))))) pa_nil)) pe_int (nomark _))))
        pss_nil)
      (pss_one (ps_ret (pe_cmpR op_eq (pe_callB (r := BS.rLenB P w) BS.call_lenB (by rfl) T.len PySem.boot_len (pa_cons (SC.pe_setP BS.famB (own := [("row", 5)]) (g := gName 5) (tt := tYes) (te := tTup (tCons (tOp (rIxT K) (tVar 5) (tVar 3)) (tCons (tOp (rIxT K) (tVar 5) (tVar 4)) tNil))) rfl n (pi_tup (pv 0)) (blkOk_by (N := nHp) (sc := defScope sHo) (by decide +kernel)) (fun _ _ _ _ _ => (pg_name (i := 5) n rfl (.inl rfl))) (fun _ _ _ _ _ => pts_nil) (fun _ _ _ _ _ => (pe_tup (pa_cons (pe_ix ix_tup (pv 5) (pv 3) (fun _ _ => rfl)) (pa_cons (pe_ix ix_tup (pv 5) (pv 4) (fun _ _ => rfl)) pa_nil))))) pa_nil))
        (pe_callB (r := rLenI w) call_lenI (by rfl) T.len PySem.boot_len (pa_cons (SC.pe_setI (own := [("row", 5)]) (g := gName 5) (tt := tYes) (te := tOp (rIxT K) (tVar 5) (tVar 3)) rfl n (pi_tup (pv 0)) (blkOk_by (N := nHp) (sc := defScope sHo) (by decide +kernel)) (fun _ _ _ _ _ => (pg_name (i := 5) n rfl (.inl rfl))) (fun _ _ _ _ _ => pts_nil) (fun _ _ _ _ _ => (pe_ix ix_tup (pv 5) (pv 3) (fun _ _ => rfl)))) pa_nil)) (nomark _)))))), ?_⟩
    obtain ⟨kk, a, b⟩ := r
    obtain ⟨tr, rfl, ht⟩ := dp_r dr
    have aw : a < m := hr2.1
    have bw : b < m := hr2.2.1
    refine ⟨_, rfl, tr, _, rfl, ht, rfl, _, _, rfl, _, _, rfl, _, _, rfl, rfl, ?_⟩
    cases kk with
    | false =>
      refine ⟨_, rfl, rfl, _, rfl, iteT' (decide_eq_true rfl) ?_⟩
      refine ⟨_, rfl, g, rfl, ⟨_, hg⟩, fun D nD => si_col (m := m) (c := a) (cs := 3) hg dp ok (by omega) aw nD (fun _ => rfl) (fun _ => rfl) (fun _ => rfl) fun H1 e1 e2 => ?_⟩
      have s1 : Same H H1 := e1.trans (wo_le D)
      refine ⟨_, rfl, g, rfl, ⟨_, same_t s1 hg⟩, fun D2 nD2 => si_col (m := m) (c := b) (cs := 4) (same_t s1 hg) (dps_same s1 _ _ dp) ok (by omega) bw nD2 (fun _ => rfl) (fun _ => rfl) (fun _ => rfl) fun H2 f1 f2 => ?_⟩
      have s2 : Same H1 H2 := f1.trans (wo_le D2)
      have la : dn (colN rows a) ≤ rows.length := Nat.le_trans (dn_len _) (by unfold colN; rw [List.length_map]; exact Nat.le_refl _)
      have sm : dn (colN rows a) / 4 ≤ dn (colN rows b) ∨ 1 ≤ dn (colN rows b) ∧ dn (colN rows a) ≤ 31 := by
        cases rows with
        | nil => exact .inl (by simp [colN, dn, firsts])
        | cons x rows =>
          have hm : x.getD b 0 ∈ colN (x :: rows) b := List.mem_map.mpr ⟨x, List.mem_cons_self, rfl⟩
          exact (few.2 a aw b bw).imp id fun z => ⟨dn_pos hm, z⟩
      refine ⟨D, D2, _, _, _, _, rfl, rfl, s2 _ _ e2, f2, sm, fun p n1 np le iff => ?_⟩
      refine ⟨p, _, n1, rfl, upd_same, by omega, rfl, ?_⟩
      refine q _ _ (s1.trans (s2.trans (same_new np))) ?_
      rw [decide_eq_true_iff, ← within_iff, ← iff]
      exact ⟨fun h => by injection h with h; omega, fun h => by rw [h]; rfl⟩
    | true =>
      refine ⟨_, rfl, rfl, _, rfl, iteF' (decide_eq_false (show ¬ V.str (kd true) = V.str "within" by decide +kernel)) ?_⟩
      have hu64 : (A.deeper (PyProof.Rows.envOfC (Str.ofString "holds") (defScope sHo) s.heap.objs.size f cdv)).units + 64 < cLine := by
        have := hr.un
        omega
      refine ⟨_, rfl, g, rfl, ⟨_, hg⟩, fun D nD => sp_pairsB (m := m) (a := a) (b := b) (ca := 3) (cb := 4) hg dp ok (by omega) aw bw nD hu64 (fun _ => rfl) (fun _ => rfl) (fun _ => rfl) (fun _ => rfl) fun H1 L e1 e2 nd mem => ?_⟩
      have s1 : Same H H1 := e1.trans (wo_le D)
      refine ⟨D, L, rfl, e2, ?_⟩
      refine ⟨_, rfl, g, rfl, ⟨_, same_t s1 hg⟩, fun D2 nD2 => si_col (m := m) (c := a) (cs := 3) (same_t s1 hg) (dps_same s1 _ _ dp) ok (by omega) aw nD2 (fun _ => rfl) (fun _ => rfl) (fun _ => rfl) fun H2 f1 f2 => ?_⟩
      have s2 : Same H1 H2 := f1.trans (wo_le D2)
      have la : dn (colN rows a) ≤ rows.length := Nat.le_trans (dn_len _) (by unfold colN; rw [List.length_map]; exact Nat.le_refl _)
      refine ⟨D2, _, _, rfl, f2, by omega, rfl, ?_⟩
      refine q _ _ (s1.trans s2) ?_
      rw [decide_eq_true_iff, ← pairs_iff nd mem, List.length_map]
      exact ⟨fun h => by injection h with h; omega, fun h => by rw [h]⟩
end
end CC
namespace CC
open PySem PySem.Spec PyProof.Rows L2
def rInDT (K : PySem.W.Frag) : R2 := fun x y H Q => ∃ d ds, Dp K H x d ∧ Dp K H y (.tuple ds) ∧ SeqAt.shaped d = true ∧ SeqAt.shaped (.list ds) = true ∧ Q (.bl (ds.any fun z => PyData.eqv z d)) H
def rNotInDT (K : PySem.W.Frag) : R2 := fun x y H Q => ∃ d ds, Dp K H x d ∧ Dp K H y (.tuple ds) ∧ SeqAt.shaped d = true ∧ SeqAt.shaped (.list ds) = true ∧ Q (.bl (!ds.any fun z => PyData.eqv z d)) H
section
variable {X : Cx}
theorem op_inDT (hu : X.A.units + 65 < cLine) : OpR X (compareOp .In) (rInDT X.K) := by
  intro pins s σ H x y v u Q I rx ry h
  obtain ⟨d, ds, hd, he, sd, se, q⟩ := h
  obtain ⟨as, r1⟩ := Dp.reads I d x v hd rx
  obtain ⟨bs, r2⟩ := Dp.reads I (.tuple ds) y u he ry
  exact SeqAt.in_tuple_reads r2 r1 (SeqAt.canLay_of_shaped se) (SeqAt.canLay_of_shaped sd) (room_in_shaped sd hu) ⟨.bl _, H, I, rfl, q⟩
theorem op_notInDT (hu : X.A.units + 65 < cLine) : OpR X (compareOp .NotIn) (rNotInDT X.K) := by
  intro pins s σ H x y v u Q I rx ry h
  obtain ⟨d, ds, hd, he, sd, se, q⟩ := h
  obtain ⟨as, r1⟩ := Dp.reads I d x v hd rx
  obtain ⟨bs, r2⟩ := Dp.reads I (.tuple ds) y u he ry
  exact SeqAt.notIn_tuple_reads r2 r1 (SeqAt.canLay_of_shaped se) (SeqAt.canLay_of_shaped sd) (room_in_shaped sd hu) ⟨.bl _, H, I, rfl, q⟩
end
end CC
namespace CC
open PySem PySem.Spec PyProof.Rows L2
/-! ### x in a tuple of data, C(e, *y), an own + -/
section
variable {X : Cx}
variable {CX : CXT} {k : Nat} {f C : Addr} {sp : Sp} {E : XK} {x : Str} {e : Expr} {es : List Expr} {t : TA} {p pos : Pos}
theorem pe_makeRS (M : Mk X.K C f) (F : FnR X.prog X.w X.K X.mg X.base CX k f sp) (hr : Room (k + 1) X.A) (hg : Gl X x) (hm : X.mg x = some (.ref C)) (hx : Passes CX X E) (ha : PA X (e :: es) t) (hdb : (x == ("__debug__" : Str)) = false := by decide)
    (he : starEach (e :: es) X.env = (false, eval e X.env) :: starEach es X.env := by rfl) (hst : (backTo pos (starEach es X.env)).any (·.1) = true := by rfl) : PE X (.Call (.Name x p) (e :: es) [] pos) (StX.tMakeR C sp E t) := by
  refine ⟨fun pins s σ H Q I h => ?_⟩
  refine wpAny_Call_Name_kw (ld_glob I hg hm ?_ hdb)
  refine PySem.W.callWith_S2 (h₀ := X.base) I.ok.mod.kin M.kp (thn (ha.run pos pins s σ H _ I h) fun us s1 ⟨vs, H1, I1, r, q⟩ => ⟨I1.kIn, ?_⟩) he hst
  exact StX.run_makeR M F hr hx I1 r q
def rOwnB (C : Addr) (sp : Sp) (E : XK) : R2 := fun x y H Q => ∃ a dx fs b dy gs, x = .ref a ∧ y = .ref b ∧ H a = some (.ins C dx fs) ∧ H b = some (.ins C dy gs) ∧ sp [x, y] H Q E
theorem op_ownB {op : Operator} {g : Addr} (hc : PySem.W.selfFirst X.K C = true) (hs : PySem.W.findIn X.K (.ref C) (PySem.dunder op.info.2) = some (some (.ref g))) (hf : PySem.W.isFn X.K (.ref g) = true) (F : FnR X.prog X.w X.K X.mg X.base CX k g sp)
    (hr : Room k X.A) (hx : Passes CX X E) : OpR X (binaryOp op) (rOwnB C sp E) := by
  intro pins s σ H x y v u Q I rx ry h
  obtain ⟨a, dx, fs, b, dy, gs, rfl, rfl, ha, hb, q⟩ := h
  cases (show v = Value.ref a from rx)
  cases (show u = Value.ref b from ry)
  obtain ⟨mA, J, _⟩ := ins_get I.hok ha
  obtain ⟨mB, J', _⟩ := ins_get I.hok hb
  obtain ⟨od, J, _⟩ := J.look
  obtain ⟨od', J', _⟩ := J'.look
  obtain ⟨m, hF⟩ := I.fr
  refine PySem.W.binop_K (op := op) hF I.ok.mod.kin J J'.type hc hs hf ?_
  refine wpAny_mono (wpAny_call (run_fnR (us := [.ref a, .ref b]) (vs := [.ref a, .ref b]) F hr hx I (.cons rfl (.cons rfl .nil)) q)) (fun w s' z => ?_) fun _ _ x => x
  obtain ⟨z', H', I', rz, qz⟩ := z
  exact SlX.cmpback rz ⟨z', H', I', rz, qz⟩
end
def addR (rs ts : List R) : List R := rs ++ ts.filter fun t => !decide (t ∈ rs)
theorem addR_ok {w : Nat} {rs ts : List R} (h1 : ∀ r ∈ rs, r.ok w) (h2 : ∀ r ∈ ts, r.ok w) : ∀ r ∈ addR rs ts, r.ok w := fun r hr => by
  rcases List.mem_append.mp hr with z | z
  · exact h1 r z
  · exact h2 r (List.mem_filter.mp z).1
theorem addR_nodup {rs ts : List R} (h1 : rs.Nodup) (h2 : ts.Nodup) : (addR rs ts).Nodup := by
  refine List.nodup_append.mpr ⟨h1, h2.filter _, fun a ha b hb e => ?_⟩
  subst e
  have := (List.mem_filter.mp hb).2
  rw [decide_eq_true ha] at this
  cases this
theorem addR_mem {rs ts : List R} {r : R} : r ∈ addR rs ts ↔ r ∈ rs ∨ r ∈ ts := by
  unfold addR
  rw [List.mem_append, List.mem_filter]
  constructor
  · rintro (h | h)
    · exact .inl h
    · exact .inr h.1
  · rintro (h | h)
    · exact .inl h
    · by_cases e : r ∈ rs
      · exact .inl e
      · exact .inr ⟨h, by rw [decide_eq_false e]; rfl⟩
end CC
namespace CC
open PySem L2 TL
abbrev sObey : Stmt := inClass (tp 40) 8
noncomputable instance decHolds (rows : List (List Nat)) (r : R) : Decidable (HoldsR rows r) := Classical.propDecidable _
/-- all rules that hold in rows, ascending -/
noncomputable def obL (rows : List (List Nat)) (w : Nat) : List R := (allR w).filter fun r => decide (HoldsR rows r)
theorem mem_obL {rows : List (List Nat)} {w : Nat} {r : R} : r ∈ obL rows w ↔ r.ok w ∧ HoldsR rows r := by
  unfold obL
  rw [List.mem_filter, mem_allR, decide_eq_true_iff]
theorem obL_nodup {rows : List (List Nat)} {w : Nat} (h : w ≤ 6) : (obL rows w).Nodup := (allR_nodup h).filter _
def spObey (K : PySem.W.Frag) (C CT : Addr) : Sp := fun vs H Q _ => ∃ (x : Addr) (w : Nat) (rows : List (List Nat)), vs = [.ref x] ∧ TableAt K CT H x w rows ∧ 1 ≤ w ∧ w ≤ 6 ∧ (∀ r ∈ rows, RowOk w r) ∧ FwG w rows ∧ ∀ (z : Addr) (H' : Hp), Same H H' → H z = none → RulesAt K C H' z w (obL rows w) → Q (.ref z) H'
/-- table.obeyed() -/
structure ObeyT (P : Program) (w : World) (K : PySem.W.Frag) (mg : Str → Option Value) (base : Heap) (C CT : Addr) (l : Nat) where
  f : Addr
  fd : FuncData
  m : Meth K CT "obeyed" f
  ok : ∀ k, l ≤ k → FnOk P w K mg base CX0 k f fd ["self"] (spObey K C CT)
  b : Binds K fd ["self"] []
section
variable {P : Program} {w : World} {K : PySem.W.Frag} {mg : Str → Option Value} {base : Heap} {kA : Addr}
abbrev nOb : List Str := ["self", "found", "rule"]
theorem scObey : FnScope nOb ["self"] (defScope sObey) := ⟨rfl, rfl, rfl, by decide +kernel, rfl, by decide +kernel, by decide +kernel⟩
theorem ok_obey {f C CT : Addr} {fd : FuncData} {k : Nat} (F : Fun K "obeyed" "Table.obeyed" sObey f fd) (T : Glb K mg kA) (TC : Txt1 K mg C) (TCT : TxtT K mg CT) (m : MakeR P w K mg base C 4) (cE : Cal P w K mg base "every_rule" ["width"] (spEvery K) 1) (cH : Cal P w K mg base "holds" ["rows", "rule"] (spHoB K) 1) : FnOk P w K mg base CX0 (k + 6) f fd ["self"] (spObey K C CT) := by
  have GN := m.ok (k + 4) (by omega)
  have GE := cE.ok (k + 5) (by omega)
  have GH := cH.ok (k + 5) (by omega)
  refine F.ok scObey (fun vs H Q E h => ?_) (fun cdv A outer s H vs Q E hr h => ?_)
  · obtain ⟨x, w, rows, rfl, _⟩ := h
    rfl
  · obtain ⟨x, w, rows, rfl, ⟨dx, g, us, h1, h2, h3⟩, w1, w6, ok, few, q⟩ := h
    have n := scObey.nd
    refine ⟨_, (pss_cons (ps_setLc (i := 1) (own := [("rule", 2)]) (g := gName 2) (tt := tB (tCall (spHoB K) [] E0 (tCons (tFld K (tVar 0) "lines") (tCons (tVar 2) tNil)))) rfl n rfl rfl (sw_true rfl rfl rfl (by decide +kernel)) (pi_list (pe_call GE hr rfl cE.g cE.kp cE.b .nil pass0 (pa_cons (pe_fld (pv 0) rfl) pa_nil))) (blkOk_by (N := nOb) (sc := defScope sObey) (by decide +kernel))
        (fun _ _ _ _ _ => (pg_name (i := 2) n rfl (.inl rfl))) (fun _ _ _ _ _ => pts_one (pt_val (pe_call GH hr rfl cH.g cH.kp cH.b .nil pass0 (pa_cons (pe_fld (pv 0) rfl) (pa_cons (pv 2) pa_nil))))) (fun _ _ _ _ _ => (pv 2)))
      (pss_one (ps_ret (pe_makeRS m.M GN hr rfl TC.mgC pass0 (pa_cons (pe_fld (pv 0) rfl) (StX.pa_star (pv 1) pa_nil)))))), ?_⟩
    refine ⟨_, rfl, x, CT, dx, _, _, rfl, h1, TCT.cl, TCT.nS, fldT_span _ _, w, rfl, w6, fun pa ua H1 s1 npa hpa dpa => ⟨pa, rfl, ⟨_, SqL.of hpa⟩, fun D nD => ?_⟩⟩
    have ual : ua.length = (allR w).length := by rw [dps_len dpa, List.length_map]
    have all60 : (allR w).length ≤ 60 := few_rules w6 (fun r hr => mem_allR.mp hr) (allR_nodup w6)
    have dpa1 := dps_same (wo_le pa) _ _ dpa
    refine lc_list (xs := ua) (fun i H' => MadeF R.d K H1 D i H' (((allR w).take i).filter fun r => decide (HoldsR rows r))) MadeF.start (fun i H' _ z => SqL.of (z.old nD _ _ hpa)) ?_ ?_
    · rintro i v H' hv mo
      obtain ⟨r, hr2, dr⟩ := dps_rat dpa1 hv
      have rk : r.ok w := mem_allR.mp (List.mem_of_getElem? hr2)
      have il : i < (allR w).length := (List.getElem?_eq_some_iff.mp hr2).1
      have o := mo.old nD
      have o0 := s1.trans o
      refine ⟨rfl, _, rfl, x, CT, dx, _, _, rfl, o0 _ _ h1, TCT.cl, TCT.nL, fldT_lines _ _, _, rfl, g, us, w, rows, v, r, rfl, .inl (.inl (o0 _ _ h2)), dps_same o0 _ _ h3, ok, few, dp_same o _ _ dr, rk, fun t H2 s2 ht => ⟨_, rfl, ?_⟩⟩
      obtain ⟨uo, _, hDo, _⟩ := id mo
      rw [SG.take_one hr2, List.filter_append]
      cases t with
      | false =>
        have nh : ¬ HoldsR rows r := fun z => by
          have := ht.mpr z
          cases this
        rw [List.filter_cons_of_neg (by rw [decide_eq_false nh]; decide), List.filter_nil, List.append_nil]
        exact iteF (mo.keep s2 (by omega) rfl)
      | true =>
        have yh : HoldsR rows r := ht.mp rfl
        rw [List.filter_cons_of_pos (p := fun r => decide (HoldsR rows r)) (decide_eq_true yh), List.filter_nil]
        refine iteT ⟨_, rfl, ?_⟩
        exact mo.push (r := r) (m := i + 1) (by omega) (Nat.lt_succ_self _) s2 (rd_T (((same_T o).trans (same_T s2)).trans (wo_T (s2 _ _ hDo))) dr)
    rintro H2 mo
    have o := mo.old nD
    rw [ual, List.take_length] at mo
    obtain ⟨uo, _, hDo, dDo, ulo⟩ := mo
    have s02 : Same H H2 := s1.trans o
    have dj : DpAll K H2 uo ((obL rows w).map R.d) := dps_same (wo_le D) _ _ dDo
    have oka : ∀ r ∈ obL rows w, r.ok w := fun r hr => (mem_obL.mp hr).1
    have nda : (obL rows w).Nodup := obL_nodup w6
    have ula : uo.length = (obL rows w).length := by rw [dps_len dj, List.length_map]
    have rla := few_rules w6 oka nda
    refine ⟨_, rfl, x, CT, dx, _, _, rfl, s02 _ _ h1, TCT.cl, TCT.nS, fldT_span _ _, _, rfl, D, _, rfl, .inr (SqL.of hDo), fun z dz nz ndz ne => ?_⟩
    rw [List.append_nil]
    refine ⟨[.ref z, .int (w : Int)], uo, rfl, rfl, Nat.le_of_lt (small1000 (by omega)), fun t nt => ?_⟩
    have gx : z ≠ t := fun e => by rw [← e, upd_same] at nt; cases nt
    have gdx : dz ≠ t := fun e => by rw [← e, upd_ne ne, upd_same] at nt; cases nt
    have ng1 : H2 t = none := by
      rw [upd_ne gx.symm, upd_ne gdx.symm] at nt
      exact nt
    have keep : ∀ b o, H2 b = some o → (upd (upd (upd H2 dz (.own z)) z (.ins C dz [])) t (.tup uo)) b = some o := fun b o e => by
      rw [upd_ne (ne_of_none e ng1), upd_ne (ne_of_none e nz), upd_ne (ne_of_none e ndz)]
      exact e
    refine ⟨z, dz, w, t, uo, obL rows w, rfl, by rw [upd_ne gx]; exact upd_same, w1, w6, upd_same, dps_same ?_ _ _ dj, oka, nda, fun H' k1 k2 => ⟨rfl, q z H' ?_ ?_ ⟨dz, t, uo, k2, ?_, ?_⟩⟩⟩
    · exact fun b o e => by
        rw [wo_ne (ne_of_none e nz)]
        exact keep b o e
    · exact fun b o e => k1 b o (keep b o (s02 _ _ e)) (ne_of_none (s02 _ _ e) nz)
    · exact s02.free nz
    · exact k1 t _ upd_same gx.symm
    · refine dps_same (fun b o e => ?_) _ _ dj
      exact k1 b o (keep b o e) (ne_of_none e nz)
end
end CC
/-! ### 400 rows, the last of which may break a rule: which rules hold in them -/
namespace CC
open PySem L2 TL
def grB : List (List Nat) := (List.range 399).map fun i => [i, i / 2]
def grR (u v : Nat) : List (List Nat) := grB ++ [[u, v]]
theorem mem_grR {u v : Nat} {x : List Nat} : x ∈ grR u v ↔ (∃ i, i < 399 ∧ x = [i, i / 2]) ∨ x = [u, v] := by
  unfold grR grB
  rw [List.mem_append, List.mem_map, List.mem_singleton]
  constructor
  · rintro (⟨i, hi, rfl⟩ | rfl)
    · exact .inl ⟨i, List.mem_range.mp hi, rfl⟩
    · exact .inr rfl
  · rintro (⟨i, hi, rfl⟩ | rfl)
    · exact .inl ⟨i, List.mem_range.mpr hi, rfl⟩
    · exact .inr rfl
theorem grR_len (u v : Nat) : (grR u v).length = 400 := by
  unfold grR grB
  rw [List.length_append, List.length_map, List.length_range]
  rfl
theorem grB_ok : ∀ x ∈ grB, RowOk 2 x := by
  intro x hx
  obtain ⟨i, hi, rfl⟩ := List.mem_map.mp hx
  have := List.mem_range.mp hi
  refine ⟨rfl, fun y hy => ?_⟩
  rcases List.mem_cons.mp hy with rfl | hy
  · omega
  · rcases List.mem_cons.mp hy with rfl | hy
    · omega
    · cases hy
theorem grR_ok {u v : Nat} (hu : u ≤ 9999) (hv : v ≤ 9999) : ∀ x ∈ grR u v, RowOk 2 x := by
  intro x hx
  rcases List.mem_append.mp hx with h | h
  · exact grB_ok x h
  · rw [List.mem_singleton.mp h]
    refine ⟨rfl, fun y hy => ?_⟩
    rcases List.mem_cons.mp hy with rfl | hy
    · exact hu
    · rcases List.mem_cons.mp hy with rfl | hy
      · exact hv
      · cases hy
theorem grR_few (u v : Nat) : FwG 2 (grR u v) := by
  refine ⟨by rw [grR_len]; exact Nat.le_refl _, fun a ha b hb => .inl ?_⟩
  have l : dn (colN (grR u v) a) ≤ 400 := by
    refine Nat.le_trans (dn_len _) ?_
    unfold colN
    rw [List.length_map, grR_len]
    exact Nat.le_refl _
  have g : 100 ≤ dn (colN (grR u v) b) := by
    have := sub_len (u := List.range 100) (v := firsts (colN (grR u v) b)) List.nodup_range fun x hx => by
      have hx := List.mem_range.mp hx
      refine mem_firsts.mpr ?_
      unfold colN
      rw [List.mem_map]
      match b, hb with
      | 0, _ => exact ⟨[x, x / 2], mem_grR.mpr (.inl ⟨x, by omega, rfl⟩), rfl⟩
      | 1, _ => exact ⟨[2 * x, 2 * x / 2], mem_grR.mpr (.inl ⟨2 * x, by omega, rfl⟩), by show 2 * x / 2 = x; omega⟩
    rwa [List.length_range] at this
  omega
theorem gr_s01 {u v : Nat} (h : v = u / 2 ∨ 399 ≤ u) : HoldsR (grR u v) ⟨true, 0, 1⟩ := by
  show ∀ x ∈ grR u v, ∀ y ∈ grR u v, y.getD 0 0 = x.getD 0 0 → y.getD 1 0 = x.getD 1 0
  intro x hx y hy
  rcases mem_grR.mp hx with ⟨i, hi, rfl⟩ | rfl <;> rcases mem_grR.mp hy with ⟨j, hj, rfl⟩ | rfl
  · show j = i → j / 2 = i / 2
    omega
  · show u = i → v = i / 2
    omega
  · show j = u → j / 2 = v
    omega
  · intro
    rfl
theorem gr_n01 {u v : Nat} (h : v ≠ u / 2) (hu : u < 399) : ¬ HoldsR (grR u v) ⟨true, 0, 1⟩ := fun z => by
  have z : ∀ x ∈ grR u v, ∀ y ∈ grR u v, y.getD 0 0 = x.getD 0 0 → y.getD 1 0 = x.getD 1 0 := z
  exact h (z [u, u / 2] (mem_grR.mpr (.inl ⟨u, hu, rfl⟩)) [u, v] (mem_grR.mpr (.inr rfl)) rfl)
theorem gr_n10 (u v : Nat) : ¬ HoldsR (grR u v) ⟨true, 1, 0⟩ := fun z => by
  have z : ∀ x ∈ grR u v, ∀ y ∈ grR u v, y.getD 1 0 = x.getD 1 0 → y.getD 0 0 = x.getD 0 0 := z
  have : (1 : Nat) = 0 := z [0, 0] (mem_grR.mpr (.inl ⟨0, by decide, rfl⟩)) [1, 0] (mem_grR.mpr (.inl ⟨1, by decide, rfl⟩)) rfl
  omega
theorem gr_nw01 {u v : Nat} (h : v ≠ 398) : ¬ HoldsR (grR u v) ⟨false, 0, 1⟩ := fun z => by
  have z : ∀ x ∈ grR u v, ∃ y ∈ grR u v, y.getD 1 0 = x.getD 0 0 := z
  obtain ⟨y, hy, e⟩ := z [398, 199] (mem_grR.mpr (.inl ⟨398, by decide, rfl⟩))
  rcases mem_grR.mp hy with ⟨j, hj, rfl⟩ | rfl
  · have e : j / 2 = 398 := e
    omega
  · exact h e
theorem gr_w10 {u v : Nat} (h : v < 399) : HoldsR (grR u v) ⟨false, 1, 0⟩ := by
  show ∀ x ∈ grR u v, ∃ y ∈ grR u v, y.getD 0 0 = x.getD 1 0
  intro x hx
  rcases mem_grR.mp hx with ⟨i, hi, rfl⟩ | rfl
  · exact ⟨[i / 2, i / 2 / 2], mem_grR.mpr (.inl ⟨i / 2, by omega, rfl⟩), rfl⟩
  · exact ⟨[v, v / 2], mem_grR.mpr (.inl ⟨v, h, rfl⟩), rfl⟩
theorem gr_nw10 {u v : Nat} (h : 399 ≤ v) (e : v ≠ u) : ¬ HoldsR (grR u v) ⟨false, 1, 0⟩ := fun z => by
  have z : ∀ x ∈ grR u v, ∃ y ∈ grR u v, y.getD 0 0 = x.getD 1 0 := z
  obtain ⟨y, hy, q⟩ := z [u, v] (mem_grR.mpr (.inr rfl))
  rcases mem_grR.mp hy with ⟨j, hj, rfl⟩ | rfl
  · have q : j = v := q
    omega
  · exact e q.symm
theorem allR2 : allR 2 = [⟨true, 0, 1⟩, ⟨true, 1, 0⟩, ⟨false, 0, 1⟩, ⟨false, 1, 0⟩] := by decide +kernel
theorem ob2 {rows : List (List Nat)} {a b : Bool} (h1 : a = true ↔ HoldsR rows ⟨true, 0, 1⟩) (h2 : ¬ HoldsR rows ⟨true, 1, 0⟩) (h3 : ¬ HoldsR rows ⟨false, 0, 1⟩) (h4 : b = true ↔ HoldsR rows ⟨false, 1, 0⟩) : obL rows 2 = (if a = true then [⟨true, 0, 1⟩] else []) ++ (if b = true then [⟨false, 1, 0⟩] else []) := by
  unfold obL
  rw [allR2]
  have e2 : decide (HoldsR rows ⟨true, 1, 0⟩) = false := decide_eq_false h2
  have e3 : decide (HoldsR rows ⟨false, 0, 1⟩) = false := decide_eq_false h3
  have e1 : decide (HoldsR rows ⟨true, 0, 1⟩) = a := by
    cases a with
    | true => exact decide_eq_true (h1.mp rfl)
    | false => exact decide_eq_false fun z => by cases h1.mpr z
  have e4 : decide (HoldsR rows ⟨false, 1, 0⟩) = b := by
    cases b with
    | true => exact decide_eq_true (h4.mp rfl)
    | false => exact decide_eq_false fun z => by cases h4.mpr z
  cases a <;> cases b <;> simp only [List.filter_cons, List.filter_nil, e1, e2, e3, e4] <;> rfl
def grL : List (Nat × Nat) := [(7, 3), (7, 4), (9998, 9999)]
def grW : List Str := ["0 settles 1\n1 within 0\n", "1 within 0\n", "0 settles 1\n"]
theorem gr_all {i u v : Nat} (h : grL[i]? = some (u, v)) : u ≤ 9999 ∧ v ≤ 9999 ∧ ¬ HoldsR (grR u v) ⟨true, 1, 0⟩ ∧ ¬ HoldsR (grR u v) ⟨false, 0, 1⟩ ∧ grW[i]? = some (textS (obL (grR u v) 2)) := by
  match i, h with
  | 0, h =>
    cases h
    refine ⟨by decide, by decide, gr_n10 _ _, gr_nw01 (by decide), ?_⟩
    rw [ob2 (a := true) (b := true) ⟨fun _ => gr_s01 (.inl rfl), fun _ => rfl⟩ (gr_n10 _ _) (gr_nw01 (by decide)) ⟨fun _ => gr_w10 (by decide), fun _ => rfl⟩]
    decide +kernel
  | 1, h =>
    cases h
    refine ⟨by decide, by decide, gr_n10 _ _, gr_nw01 (by decide), ?_⟩
    rw [ob2 (a := false) (b := true) ⟨(fun z => nomatch z), fun z => absurd z (gr_n01 (by decide) (by decide))⟩ (gr_n10 _ _) (gr_nw01 (by decide)) ⟨fun _ => gr_w10 (by decide), fun _ => rfl⟩]
    decide +kernel
  | 2, h =>
    cases h
    refine ⟨by decide, by decide, gr_n10 _ _, gr_nw01 (by decide), ?_⟩
    rw [ob2 (a := true) (b := false) ⟨fun _ => gr_s01 (.inr (by decide)), fun _ => rfl⟩ (gr_n10 _ _) (gr_nw01 (by decide)) ⟨(fun z => nomatch z), fun z => absurd z (gr_nw10 (by decide) (by decide))⟩]
    decide +kernel
  | n + 3, h => cases h
end CC
namespace CC
open PySem L2 TL
abbrev sTCall : Stmt := inClass (tp 40) 7
def spTCall (K : PySem.W.Frag) (C : Addr) : Sp := fun vs H Q _ => ∃ (x : Addr) (m : Nat) (rows : List (List Nat)) (v : V) (r : R), vs = [.ref x, v] ∧ TableAt K C H x m rows ∧ (∀ x ∈ rows, RowOk m x) ∧ FwG m rows ∧ Dp K H v r.d ∧ r.ok m ∧ ∀ (t : Bool) H', Same H H' → (t = true ↔ HoldsR rows r) → Q (.bl t) H'
/-- table(rule) -/
structure CallT (P : Program) (w : World) (K : PySem.W.Frag) (mg : Str → Option Value) (base : Heap) (C : Addr) (l : Nat) where
  fC : Addr
  cC : StX.CallO K C fC
  ok : ∀ k, l ≤ k → FnR P w K mg base CX0 k fC (spTCall K C)
section
variable {P : Program} {w : World} {K : PySem.W.Frag} {mg : Str → Option Value} {base : Heap} {kA : Addr}
theorem scTCall : FnScope ["self", "rule"] ["self", "rule"] (defScope sTCall) := ⟨rfl, rfl, rfl, by decide +kernel, rfl, by decide +kernel, by decide +kernel⟩
theorem ok_tcall {f C : Addr} {fd : FuncData} {k : Nat} (F : Fun K "__call__" "Table.__call__" sTCall f fd) (T : Glb K mg kA) (TC : TxtT K mg C) (cF : Cal P w K mg base "holds" ["rows", "rule"] (spHoB K) 1)
 (cU : Cal P w K mg base "is_rule" ["width", "thing"] (spIsRule K) 3) :
    FnOk P w K mg base CX0 (k + 4) f fd ["self", "rule"] (spTCall K C) := by
  have GF := cF.ok (k + 3) (by omega)
  have GU := cU.ok (k + 3) (by omega)
  refine F.ok scTCall (fun vs H Q E h => ?_) (fun cdv A outer s H vs Q E hr h => ?_)
  · obtain ⟨x, w, rs, v, r, rfl, _⟩ := h
    rfl
  · obtain ⟨x, m, rows, v, r, rfl, ⟨dx, g, us, h1, h2, h3⟩, ho, few, dv, hr2, q⟩ := h
    refine ⟨_, pss_cons (ps_if (pt_not (pt_val (pe_call GU hr rfl cU.g cU.kp cU.b .nil pass0 (pa_cons (pe_fld (pv 0) rfl) (pa_cons (pv 1) pa_nil))))) (pss_one ps_never) pss_nil)
      (pss_one (ps_ret (pe_call GF hr rfl cF.g cF.kp cF.b .nil pass0 (pa_cons (pe_fld (pv 0) rfl) (pa_cons (pv 1) pa_nil))))), ?_⟩
    refine ⟨_, rfl, x, C, dx, _, _, rfl, h1, TC.cl, TC.nS, fldT_span _ _, _, rfl, m, v, r, rfl, dv, hr2, _, rfl, iteF ?_⟩
    refine ⟨_, rfl, x, C, dx, _, _, rfl, h1, TC.cl, TC.nL, fldT_lines _ _, _, rfl, ?_⟩
    exact ⟨g, us, m, rows, v, r, rfl, .inl (.inl h2), h3, ho, few, dv, hr2, q⟩
end
end CC
namespace CC
open PySem L2 TL
def joinArg : Expr → Expr
  | .Call _ (a :: _) _ _ => a
  | e => e
def rJoin (K : PySem.W.Frag) : V → List V → Hp → VK → Prop := fun x xs H Q => ∃ a p, ∃ ys : List Str, x = .str a ∧ xs = [.ref p] ∧ (SqL K H p (ys.map V.str) ∨ SqT K H p (ys.map V.str)) ∧ (ys.map (·.length)).sum + ys.length * a.length ≤ 16777216 ∧ Q (.str (Txt.join a ys)) H
theorem pe_joinK {X : Cx} {o e : Expr} {to te : TE} {apos pos : Pos} (ho : PE X o to) (he : PE X e te) (hs : starEach [e] X.env = [(false, eval e X.env)] := by rfl) (hbase : attributeBase o "join" X.env (eval o X.env) = eval o X.env := by rfl) (hline : (apos.endLine == pos.line) = true := by rfl) :
    PE X (.Call (.Attribute o "join" apos) [e] [] pos) (tM1 (rJoin X.K) to te) := pe_join ho he hs hbase hline
def rAddSt : R2 := fun x y H Q => ∃ i j, x = .str i ∧ y = .str j ∧ i.length + j.length ≤ sizeLine ∧ Q (.str (i ++ j)) H
theorem op_addSt {X : Cx} : OpR X (binaryOp .Add) rAddSt := op_add_str
theorem sum_le {k : Nat} : ∀ l : List Nat, (∀ x ∈ l, x ≤ k) → l.sum ≤ k * l.length
  | [], _ => by simp
  | x :: l, h => by
    have h1 := h x List.mem_cons_self
    have h2 := sum_le l fun y hy => h y (List.mem_cons_of_mem _ hy)
    rw [List.sum_cons, List.length_cons, Nat.mul_succ]
    omega
section
variable {P : Program} {w : World} {K : PySem.W.Frag} {mg : Str → Option Value} {base : Heap} {kA : Addr}
def rStrI : List V → Hp → VK → Prop := fun xs H Q => ∃ n : Nat, xs = [.int (n : Int)] ∧ n ≤ 9999 ∧ Q (.str (num n)) H
theorem call_strI {X : Cx} : CallR X (.type "str") rStrI := by
  intro pins s σ H xs us Q I r h
  obtain ⟨n, rfl, hn, q⟩ := h
  exact call_str_int pins s σ H _ us Q I r ⟨_, rfl, small10k hn, q⟩
end
end CC
namespace CC
open PySem L2 TL
abbrev sTTx : Stmt := tp 48
def spTTx (K : PySem.W.Frag) : Sp := fun vs H Q _ => ∃ (g : Addr) (us : List V) (w : Nat) (rows : List (List Nat)), vs = [.ref g] ∧ SqL K H g us ∧ DpAll K H us (rows.map gd) ∧ w ≤ 6 ∧ (∀ r ∈ rows, RowOk w r) ∧ rows.length ≤ 400 ∧ ∀ H', Same H H' → Q (.str (textT rows)) H'
section
variable {P : Program} {w : World} {K : PySem.W.Frag} {mg : Str → Option Value} {base : Heap} {kA : Addr}
abbrev scTx5 : Scope := lcScT (joinArg (retVal ((defBody sTTx).getD 0 (.Pass ⟨0, 0, 0, 0⟩))))
abbrev nTTx : List Str := ["_law_lines_here", "_law_row", "_law_part"]
theorem scTTx : FnScope nTTx ["_law_lines_here"] (defScope sTTx) := ⟨rfl, rfl, rfl, by decide +kernel, rfl, by decide +kernel, by decide +kernel⟩
theorem ok_ttx {f : Addr} {fd : FuncData} {k : Nat} (F : Fun K "_law_text" "_law_text" sTTx f fd) (T : Glb K mg kA) : FnOk P w K mg base CX0 (k + 1) f fd ["_law_lines_here"] (spTTx K) := by
  refine F.ok scTTx (fun vs H Q E h => ?_) (fun cdv A outer s H vs Q E hr h => ?_)
  · obtain ⟨g, us, w, rows, rfl, _⟩ := h
    rfl
  · obtain ⟨g, us, w, rows, rfl, hg, dp, w6, ok, few, q⟩ := h
    have n := scTTx.nd
    refine ⟨_, (pss_one (ps_ret (pe_join pe_str (pe_lc (own := [("_law_row", 1)]) (g := gName 1) (tt := tYes) (te := tOp rAddSt (tM1 (rJoin K) (tC (.str " ")) (tLc (iTup K (tVar 1)) (gName 2) tYes (tCB rStrI (tCons (tVar 2) tNil)) [2])) (tC (.str "\n"))) rfl n (pi_list (pv 0)) (blkOk_by (N := nTTx) (sc := defScope sTTx) (by decide +kernel))
      (fun _ _ _ _ _ => (pg_name (i := 1) n rfl (.inl rfl))) (fun _ _ _ _ _ => pts_nil) (fun _ _ _ _ _ => (pe_op op_addSt (pe_joinK pe_str (pe_lc (own := [("_law_part", 2)]) (g := gName 2) (tt := tYes) rfl n (pi_tup (pv 1)) (blkOk_by (N := nTTx) (sc := relS scTx5 (defScope sTTx)) (by decide +kernel))
        (fun _ _ _ _ _ => (pg_name (i := 2) n rfl (.inl rfl))) (fun _ _ _ _ _ => pts_nil) (fun _ _ _ _ _ => (pe_callTy call_strI (by rfl) T.str (by decide +kernel) (pa_cons (pv 2) pa_nil))))) pe_str)))))), ?_⟩
    have ul : us.length = rows.length := by rw [dps_len dp, List.length_map]
    refine ⟨⟨_, rfl⟩, _, rfl, g, rfl, ⟨_, hg⟩, fun D nD => ?_⟩
    refine lc_list (xs := us) (fun i H1 => Same H (wo H1 D) ∧ H1 D = some (.lst (((rows.take i).map fun r => rowS r ++ "\n").map V.str))) ⟨?_, upd_same⟩ (fun i H1 _ z => same_l (z.1.trans (wo_le D)) hg) ?_ ?_
    · rw [wo_upd]
      exact fun b o e => by rw [wo_ne (ne_of_none e nD)]; exact e
    · rintro i v H1 hv ⟨e1, e2⟩
      obtain ⟨r, hr2, dr⟩ := dps_gat dp hv
      have il := (List.getElem?_eq_some_iff.mp hr2).1
      have rok := ok r (List.mem_of_getElem? hr2)
      have s1 : Same H H1 := e1.trans (wo_le D)
      obtain ⟨t, rfl, ht⟩ := gd_at (dp_same s1 _ _ dr)
      have rl := rowS_len rok w6
      have r1 := rok.1
      refine ⟨rfl, yes_if ⟨⟨_, rfl⟩, _, rfl, t, rfl, ⟨_, ht⟩, fun D2 nD2 => ?_⟩⟩
      refine lc_tup (xs := nms r) (fun j H2 => Same H1 (wo H2 D2) ∧ H2 D2 = some (.lst (((r.take j).map num).map V.str))) ⟨?_, upd_same⟩ (fun j H2 _ z => same_t (z.1.trans (wo_le D2)) ht) ?_ ?_
      · rw [wo_upd]
        exact fun b o e => by rw [wo_ne (ne_of_none e nD2)]; exact e
      · rintro j y H2 hy ⟨f1, f2⟩
        obtain ⟨c, hc, rfl⟩ := nms_get? hy
        have jl := (List.getElem?_eq_some_iff.mp hc).1
        refine ⟨rfl, yes_if ⟨_, rfl, c, rfl, rok.2 c (List.mem_of_getElem? hc), _, f2, small1000 (by rw [List.length_map, List.length_map, List.length_take]; omega), ?_, ?_⟩⟩
        · rw [wo_upd]
          exact f1
        · rw [upd_same, take1 hc, List.map_append, List.map_append]
          rfl
      rintro H2 ⟨f1, f2⟩
      rw [nms_len, List.take_length] at f2
      have s2 : Same H1 H2 := f1.trans (wo_le D2)
      have sm : ((r.map num).map (·.length)).sum ≤ 4 * ((r.map num).map (·.length)).length := sum_le _ fun x hx => by
        obtain ⟨y, hy, rfl⟩ := List.mem_map.mp hx
        obtain ⟨c, hc, rfl⟩ := List.mem_map.mp hy
        exact num_len (rok.2 c hc)
      rw [List.length_map, List.length_map] at sm
      refine ⟨_, D2, r.map num, rfl, rfl, .inl (SqL.of f2), ?_, ?_⟩
      · have e0 : ((" " : Str)).length = 1 := by decide +kernel
        show ((r.map num).map (·.length)).sum + (r.map num).length * ((" " : Str)).length ≤ 16777216
        rw [e0, List.length_map]
        omega
      refine ⟨_, _, rfl, rfl, ?_, ?_⟩
      · have e0 : (("\n" : Str)).length = 1 := by decide +kernel
        show (rowS r).length + (("\n" : Str)).length ≤ sizeLine
        rw [e0]
        exact Nat.le_trans (Nat.add_le_add_right rl 1) (by decide)
      refine ⟨_, s2 _ _ e2, small1000 (by rw [List.length_map, List.length_map, List.length_take]; omega), ?_, ?_⟩
      · rw [wo_upd]
        exact e1.trans (wo_same s2)
      · rw [upd_same, take1 hr2, List.map_append, List.map_append]
        rfl
    rintro H1 ⟨e1, e2⟩
    rw [ul, List.take_length] at e2
    have s1 : Same H H1 := e1.trans (wo_le D)
    have sm : ((rows.map fun r => rowS r ++ "\n").map (·.length)).sum ≤ 31 * ((rows.map fun r => rowS r ++ "\n").map (·.length)).length := sum_le _ fun x hx => by
      obtain ⟨y, hy, rfl⟩ := List.mem_map.mp hx
      obtain ⟨r, hr, rfl⟩ := List.mem_map.mp hy
      have rl := rowS_len (ok r hr) w6
      rw [len_tl] at rl
      rw [len_tl, tl_app, List.length_append]
      have e : (tl ("\n" : Str)).length = 1 := by decide +kernel
      omega
    rw [List.length_map, List.length_map] at sm
    refine ⟨_, D, rows.map (fun r => rowS r ++ "\n"), rfl, rfl, .inl (SqL.of e2), ?_, q H1 s1⟩
    have e0 : (Str.ofString "").length = 0 := by decide +kernel
    rw [e0, Nat.mul_zero]
    omega
end
end CC
namespace CC
open PySem L2
abbrev sPW : Stmt := inClass (tp 33) 1
abbrev sPR : Stmt := inClass (tp 33) 2
section
variable {P : Program} {w : World} {K : PySem.W.Frag} {mg : Str → Option Value} {base : Heap} {kA : Addr}
theorem scPW : FnScope ["self"] ["self"] (defScope sPW) := ⟨rfl, rfl, rfl, by decide +kernel, rfl, by decide +kernel, by decide +kernel⟩
theorem scPR : FnScope ["self"] ["self"] (defScope sPR) := ⟨rfl, rfl, rfl, by decide +kernel, rfl, by decide +kernel, by decide +kernel⟩
theorem ok_pw {f C : Addr} {fd : FuncData} {k : Nat} (F : Fun K "width" "Rules.width" sPW f fd) (TC : Txt1 K mg C) : FnOk P w K mg base CX0 (k + 1) f fd ["self"] (getSp C "span") := by
  refine F.ok scPW (fun vs H Q E h => ?_) (fun cdv A outer s H vs Q E hr h => ?_)
  · obtain ⟨a, dx, fs, v, rfl, _⟩ := h
    rfl
  · obtain ⟨a, dx, fs, v, rfl, ea, l, q⟩ := h
    exact ⟨_, pss_one (ps_ret (pe_fld (pv 0) rfl)), _, rfl, a, C, dx, fs, v, rfl, ea, TC.cl, TC.nS, l, q⟩
theorem ok_pr {f C : Addr} {fd : FuncData} {k : Nat} (F : Fun K "rules" "Rules.rules" sPR f fd) (TC : Txt1 K mg C) : FnOk P w K mg base CX0 (k + 1) f fd ["self"] (getSp C "given") := by
  refine F.ok scPR (fun vs H Q E h => ?_) (fun cdv A outer s H vs Q E hr h => ?_)
  · obtain ⟨a, dx, fs, v, rfl, _⟩ := h
    rfl
  · obtain ⟨a, dx, fs, v, rfl, ea, l, q⟩ := h
    exact ⟨_, pss_one (ps_ret (pe_fld (pv 0) rfl)), _, rfl, a, C, dx, fs, v, rfl, ea, TC.cl, TC.nG, l, q⟩
end
end CC
namespace CC
open PySem L2 TL
abbrev sRTxt : Stmt := inClass (tp 33) 9
def spRTxt (K : PySem.W.Frag) (C : Addr) : Sp := fun vs H Q _ => ∃ (x : Addr) (w : Nat) (rs : List R), vs = [.ref x] ∧ RulesAt K C H x w rs ∧ (∀ r ∈ rs, r.ok 6) ∧ rs.length ≤ 60 ∧ ∀ H', Same H H' → Q (.str (textS rs)) H'
/-- rules.text() -/
structure TxtR (P : Program) (w : World) (K : PySem.W.Frag) (mg : Str → Option Value) (base : Heap) (C : Addr) (l : Nat) where
  f : Addr
  fd : FuncData
  m : Meth K C "text" f
  ok : ∀ k, l ≤ k → FnOk P w K mg base CX0 k f fd ["self"] (spRTxt K C)
  b : Binds K fd ["self"] []
def tLn (K : PySem.W.Frag) : TE := fun σ H Q => tJs [tFmt (tCall (spLine K) [] E0 (tCons (tVar 1) tNil)), tC (.str "\n")] Str.empty σ H fun out H1 => Q (V.str out) H1
theorem lineE_all : ((allR 6).all fun r => decide ((Str.empty ++ lineS r).length ≤ 20) && decide ((Str.empty ++ lineS r ++ "\n").length ≤ 21) && decide ((lineS r).length ≤ 20) && ((Str.empty ++ lineS r ++ "\n") == (lineS r ++ "\n"))) = true := by decide +kernel
theorem textS_fits {rs : List R} (ok : ∀ r ∈ rs, r.ok 6) (few : rs.length ≤ 60) : ((rs.map fun r => lineS r ++ "\n").map (·.length)).sum ≤ 2000 := by
  have z : ∀ l : List Nat, (∀ x ∈ l, x ≤ 21) → l.sum ≤ 21 * l.length := by
    intro l
    induction l with
    | nil => intro _; simp
    | cons x l ih =>
      intro h
      have h1 := h x List.mem_cons_self
      have h2 := ih fun y hy => h y (List.mem_cons_of_mem _ hy)
      rw [List.sum_cons, List.length_cons]
      omega
  have := z ((rs.map fun r => lineS r ++ "\n").map (·.length)) fun x hx => by
    obtain ⟨y, hy, rfl⟩ := List.mem_map.mp hx
    obtain ⟨r, hr, rfl⟩ := List.mem_map.mp hy
    have hl := List.all_eq_true.mp lineE_all r (mem_allR.mpr (ok r hr))
    simp only [Bool.and_eq_true, decide_eq_true_eq] at hl
    rw [← eq_of_beq hl.2]
    exact hl.1.1.2
  rw [List.length_map, List.length_map] at this
  omega
section
variable {P : Program} {w : World} {K : PySem.W.Frag} {mg : Str → Option Value} {base : Heap} {kA : Addr}
abbrev nRx : List Str := ["self", "rule"]
theorem scRTxt : FnScope nRx ["self"] (defScope sRTxt) := ⟨rfl, rfl, rfl, by decide +kernel, rfl, by decide +kernel, by decide +kernel⟩
theorem ok_rtxt {f C : Addr} {fd : FuncData} {k : Nat} (F : Fun K "text" "Rules.text" sRTxt f fd) (TC : Txt1 K mg C) (cL : Cal P w K mg base "line_of" ["rule"] (spLine K) 1) : FnOk P w K mg base CX0 (k + 2) f fd ["self"] (spRTxt K C) := by
  have GL := cL.ok (k + 1) (by omega)
  refine F.ok scRTxt (fun vs H Q E h => ?_) (fun cdv A outer s H vs Q E hr h => ?_)
  · obtain ⟨x, m, rs, rfl, _⟩ := h
    rfl
  · obtain ⟨x, m, rs, rfl, ⟨dx, g, us, h1, h2, h3⟩, ok, few, q⟩ := h
    have n := scRTxt.nd
    have ul : us.length = rs.length := by rw [dps_len h3, List.length_map]
    refine ⟨_, (pss_one (ps_ret (pe_join pe_str (pe_lc (own := [("rule", 1)]) (g := gName 1) (tt := tYes) (te := tLn K) rfl n (pi_tup (pe_fld (pv 0) rfl)) (blkOk_by (N := nRx) (sc := defScope sRTxt) (by decide +kernel))
      (fun _ _ _ _ _ => (pg_name (i := 1) n rfl (.inl rfl))) (fun _ _ _ _ _ => pts_nil) (fun _ _ _ _ _ => (pe_joined (.cons (pe_fmt (pe_call GL hr rfl cL.g cL.kp cL.b .nil pass0 (pa_cons (pv 1) pa_nil))) (.cons pe_str .nil)))))))), ?_⟩
    refine ⟨⟨_, rfl⟩, _, rfl, x, C, dx, _, _, rfl, h1, TC.cl, TC.nG, flds_given _ _, g, rfl, ⟨_, .inl (.inl h2)⟩, fun D nD => ?_⟩
    refine lc_tup (xs := us) (fun i H1 => Same H (wo H1 D) ∧ H1 D = some (.lst (((rs.take i).map fun r => lineS r ++ "\n").map V.str))) ⟨?_, upd_same⟩ (fun i H1 _ z => .inl (.inl (wo_le D _ _ (z.1 _ _ h2)))) ?_ ?_
    · rw [wo_upd]
      exact fun b o e => by rw [wo_ne (ne_of_none e nD)]; exact e
    · rintro i v H1 hv ⟨e1, e2⟩
      obtain ⟨r, hr2, dr⟩ := dps_rat h3 hv
      have il : i < rs.length := (List.getElem?_eq_some_iff.mp hr2).1
      have rk := ok r (List.mem_of_getElem? hr2)
      have hl := List.all_eq_true.mp lineE_all r (mem_allR.mpr rk)
      simp only [Bool.and_eq_true, decide_eq_true_eq] at hl
      obtain ⟨⟨⟨l1, l2⟩, l3⟩, l4⟩ := hl
      have l4 := eq_of_beq l4
      have big : ∀ {n : Nat}, n ≤ 21 → n ≤ sizeLine := fun h => Nat.le_trans h (by decide)
      refine ⟨rfl, yes_if ⟨_, rfl, v, r, rfl, dp_same (e1.trans (wo_le D)) _ _ dr, rk, .inl ⟨_, rfl, big (by omega), _, rfl, big (by omega), _, rfl, big l2, ?_⟩⟩⟩
      refine ⟨_, e2, small1000 (by rw [List.length_map, List.length_map, List.length_take]; omega), ?_, ?_⟩
      · rw [wo_upd]
        exact e1
      · rw [upd_same, SG.take_one hr2, List.map_append, List.map_append]
        show some (HO.lst (_ ++ [V.str (Str.empty ++ lineS r ++ "\n")])) = some (HO.lst (_ ++ [V.str (lineS r ++ "\n")]))
        rw [l4]
    rintro H1 ⟨e1, e2⟩
    rw [ul, List.take_length] at e2
    refine ⟨_, D, rs.map (fun r => lineS r ++ "\n"), rfl, rfl, .inl (SqL.of e2), ?_, ?_⟩
    · have := textS_fits ok few
      have e0 : (Str.ofString "").length = 0 := by decide +kernel
      rw [e0, Nat.mul_zero]
      omega
    · exact q H1 (e1.trans (wo_le D))
end
end CC
/-! ### an own ==, the != that goes by it, len, + of anything -/
namespace OC
open PySem PySem.Spec PyProof.Rows L2
section
open PySem.W
variable {prog : Program} {w : World} {A : Around} {E : Value → Shared → Prop} {s : Shared} {K : PySem.W.Frag} {x C f L : Addr} {h₀ : Heap} {m : Str → Option Value} {ox : Obj} {od : Obj} {b : Value}
theorem ifBound_b {M : Model} {name : Str} {id : String} {args : List Value} {Q : Option Value → Shared → Prop} (X : K.In s.heap) (I : InstAt s.heap x ox C od) (hs : findIn K (.ref C) name = some (some (.builtin id))) (hb : ∀ self, bindSpecial (.builtin id) self = pure (.builtin id, [self]))
    (h : wpAny M A (call (.builtin id) (.ref x :: args)) (fun v => Q (some v)) E s) : wpAny M A (callSpecialIfBound? (.ref x) name args) Q E s := by
  simp only [callSpecialIfBound?, bindSpecialIfBound?]
  refine wpAny_holding (wpAny_bind (wpAny_bind (wpAny_bind (I.type.here ((looks_findIn X hs).here ?_)))))
  refine wpAny_bind (wpAny_askSetting (wpAny_ite ?_))
  have fin : wpAny M A (call (.builtin id) ([.ref x] ++ args) >>= fun v => pure (some v)) Q E s := wpAny_bind (wpAny_mono h (fun v s' h' => wpAny_pure h') fun _ _ h' => h')
  split
  · exact wpAny_bind ((Looks.of_pure (hb _)).here (wpAny_pure (by exact fin)))
  · exact wpAny_tryCatch (wpAny_bind ((Looks.of_pure (hb _)).here (wpAny_pure (by exact fin))))
open Builtin in
theorem call_ne {Q : Value → Shared → Prop} (hu : A.in1.units < cLine) (X : K.In s.heap) (I : InstAt s.heap x ox C od) (hm : mroIn K C (.type "object") = some true) (hr : findIn K (.ref C) "__eq__" = some (some (.ref f))) (hf : isFn K (.ref f) = true)
    (h : wpAny (model prog w) A.in1 (call (.ref f) [.ref x, b]) (PySem.W.BoolBack fun r s' => Q (.bool (!r)) s') E s) : wpAny (model prog w) A (call (.builtin "object.__ne__") [.ref x, b]) Q E s := by
  refine wpAny_call (codeAny_call_builtin PySem.F.slot_object_ne.plain PySem.F.entry_object_ne (check_slot (i := "object.__ne__") (owner := "object") (n := "__ne__") (by decide +kernel) (by decide +kernel) (I.type.andThen (looks_mroIn X hm)) (PySem.F.args_object_ne_2 _ _) ?_))
  unfold Builtin.«object.__ne__»
  refine wpAny_bind (m := slotArgs "__ne__" 1 _) (wpAny_pure ?_)
  refine wpAny_bind (m := cRoomFor _ _) (wpAny_cRoomFor hu ?_)
  refine wpAny_bind (m := callSpecialIfBound? (.ref x) (Str.ofString "__eq__") _) (ifBound_K X I hr hf (wpAny_mono h (fun r s' hq => ?_) fun _ _ y => y))
  cases r <;> first | exact hq.elim | skip
  exact wpAny_bind (m := truthy (.bool _)) (wpAny_truthy_bool (wpAny_pure hq))
theorem ne_K {Q : Value → Shared → Prop} (hu : A.units + 1 < cLine) (F : Fr h₀ L s.heap m) (X₀ : K.In h₀) (I : InstAt s.heap x ox C od) (hb : Looks (model prog w) s.heap (typeOf b) (.ref C)) (hr : findIn K (.ref C) "__eq__" = some (some (.ref f))) (hf : isFn K (.ref f) = true)
    (hn : findIn K (.ref C) "__ne__" = some (some (.builtin "object.__ne__"))) (hm : mroIn K C (.type "object") = some true)
    (h : wpAny (model prog w) A.in1 (call (.ref f) [.ref x, b]) (PySem.W.BoolBack fun r s' => Q (.bool (!r)) s') E s) : wpAny (model prog w) A (richCompare .NotEq (.ref x) b) Q E s := by
  have X := X₀.keeps F.keep
  have one : wpAny (model prog w) A (tryCompare (.ref x) (cmpInfo .NotEq).2.1 b) (fun r s' => ∃ v, r = some v ∧ Q v s') E s := by
    unfold tryCompare
    refine wpAny_bind (ifBound_b X I hn PySem.F.slot_object_ne.bind (call_ne hu X I hm hr hf (wpAny_mono h (fun v s' hv => ?_) fun _ _ e => e)))
    cases v <;> first | exact hv.elim | exact wpAny_pure ⟨_, rfl, hv⟩
  unfold richCompare
  simp only [oneThing_ref]
  refine wpAny_holding (wpAny_bind (wpAny_cRoomFor (Nat.lt_of_succ_lt hu) ?_))
  refine wpAny_bind (I.type.here (wpAny_bind (hb.here ?_)))
  rw [show (Value.ref C != Value.ref C) = false from by simp]
  simp only [Bool.false_eq_true, if_false]
  refine wpAny_bind (wpAny_pure ?_)
  simp only [Bool.false_eq_true, if_false]
  refine wpAny_bind (wpAny_mono one (fun r s' z => ?_) fun _ _ e => e)
  obtain ⟨v, rfl, hq⟩ := z
  exact wpAny_pure hq
end
section
variable {X : Cx} {CX : CXT} {k : Nat} {f C : Addr} {sp : Sp} {E : XK}
/-- x == y by the own __eq__ -/
theorem op_eqO {g : Addr} (hs : PySem.W.findIn X.K (.ref C) "__eq__" = some (some (.ref g))) (hf : PySem.W.isFn X.K (.ref g) = true) (F : FnR X.prog X.w X.K X.mg X.base CX k g sp) (hr : Room k X.A) (hx : Passes CX X E) : OpR X (compareOp .Eq) (CC.rOwnB C sp E) := by
  intro pins s σ H x y v u Q I rx ry h
  obtain ⟨a, dx, fs, b, dy, gs, rfl, rfl, ha, hb, q⟩ := h
  cases (show v = Value.ref a from rx)
  cases (show u = Value.ref b from ry)
  obtain ⟨mA, J, _⟩ := ins_get I.hok ha
  obtain ⟨mB, J', _⟩ := ins_get I.hok hb
  obtain ⟨od, J, _⟩ := J.look
  obtain ⟨od', J', _⟩ := J'.look
  obtain ⟨m, hF⟩ := I.fr
  refine PySem.W.cmp_K (op := .Eq) (tb := .ref C) hr.units0 hF I.ok.mod.kin J J'.type (by simp [PySem.W.notFirst]) hs hf ?_
  refine wpAny_mono (wpAny_call (run_fnR (us := [.ref a, .ref b]) (vs := [.ref a, .ref b]) F hr hx I (.cons rfl (.cons rfl .nil)) q)) (fun w s' z => ?_) fun _ _ x => x
  obtain ⟨z', H', I', rz, qz⟩ := z
  exact SlX.cmpback rz ⟨z', H', I', rz, qz⟩
/-- x != y by the own __eq__ -/
def rOwnN (C : Addr) (sp : Sp) (E : XK) : R2 := fun x y H Q => ∃ a dx fs b dy gs, x = .ref a ∧ y = .ref b ∧ H a = some (.ins C dx fs) ∧ H b = some (.ins C dy gs) ∧ sp [x, y] H (fun v H' => ∃ c, v = .bl c ∧ Q (.bl (!c)) H') E
theorem op_neO {g : Addr} (hs : PySem.W.findIn X.K (.ref C) "__eq__" = some (some (.ref g))) (hf : PySem.W.isFn X.K (.ref g) = true) (hn : PySem.W.findIn X.K (.ref C) "__ne__" = some (some (.builtin "object.__ne__"))) (hm : PySem.W.mroIn X.K C (.type "object") = some true)
    (F : FnR X.prog X.w X.K X.mg X.base CX k g sp) (hr : Room (k + 1) X.A) (hx : Passes CX X E) : OpR X (compareOp .NotEq) (rOwnN C sp E) := by
  intro pins s σ H x y v u Q I rx ry h
  obtain ⟨a, dx, fs, b, dy, gs, rfl, rfl, ha, hb, q⟩ := h
  cases (show v = Value.ref a from rx)
  cases (show u = Value.ref b from ry)
  obtain ⟨mA, J, _⟩ := ins_get I.hok ha
  obtain ⟨mB, J', _⟩ := ins_get I.hok hb
  obtain ⟨od, J, _⟩ := J.look
  obtain ⟨od', J', _⟩ := J'.look
  obtain ⟨m, hF⟩ := I.fr
  refine ne_K (by have := hr.un; omega) hF I.ok.mod.kin J J'.type hs hf hn hm ?_
  refine wpAny_mono (wpAny_call (SlX.run_at (us := [.ref a, .ref b]) (ws := [.ref a, .ref b]) F hr.in1 I.env0.in1 hx I (.cons rfl (.cons rfl .nil)) q)) (fun w s' z => ?_) fun _ _ x => x
  obtain ⟨z', H', I', rz, c, rfl, qz⟩ := z
  cases rz
  exact ⟨.bl (!c), H', I', rfl, qz⟩
/-- len(x) by the own __len__ -/
def rLenO (C : Addr) (sp : Sp) (E : XK) : List V → Hp → VK → Prop := fun xs H Q => ∃ a dx fs, xs = [.ref a] ∧ H a = some (.ins C dx fs) ∧ sp [.ref a] H (fun v H' => ∃ n : Nat, v = .int (n : Int) ∧ n < 1000000 ∧ Q (.int (n : Int)) H') E
theorem call_lenO {g : Addr} (hs : PySem.W.findIn X.K (.ref C) "__len__" = some (some (.ref g))) (hf : PySem.W.isFn X.K (.ref g) = true) (F : FnR X.prog X.w X.K X.mg X.base CX k g sp) (hr : Room (k + 1) X.A) (hx : Passes CX X E) : CallR X (.builtin "len") (rLenO C sp E) := by
  intro pins s σ H xs us Q I r h
  obtain ⟨a, dx, fs, rfl, ha, q⟩ := h
  rw [Vals.ref1 r]
  obtain ⟨mA, J, _⟩ := ins_get I.hok ha
  obtain ⟨od, J, _⟩ := J.look
  obtain ⟨m, hF⟩ := I.fr
  refine PySem.W.len_K hF I.ok.mod.kin J hs hf ?_
  refine wpAny_mono (wpAny_call (SlX.run_at (us := [.ref a]) (ws := [.ref a]) F hr.in1 I.env0.in1 hx I (.cons rfl .nil) q)) (fun w s' z => ?_) fun _ _ x => x
  obtain ⟨z', H', I', rz, c, rfl, hc, qz⟩ := z
  obtain ⟨t, rfl⟩ := (show ∃ t, w = Value.int (c : Int) t from rz)
  exact ⟨⟨by omega, by omega⟩, .int (c : Int), H', I'.tok _, ⟨_, rfl⟩, qz⟩
end
end OC
namespace CC
open PySem L2 TL
abbrev sTLen : Stmt := inClass (tp 40) 4
def spTLen (K : PySem.W.Frag) (C : Addr) : Sp := fun vs H Q _ => ∃ (x : Addr) (w : Nat) (rows : List (List Nat)), vs = [.ref x] ∧ TableAt K C H x w rows ∧ Q (.int (rows.length : Int)) H
/-- len(table) -/
structure LenT (P : Program) (w : World) (K : PySem.W.Frag) (mg : Str → Option Value) (base : Heap) (C : Addr) (sp : Sp) (l : Nat) where
  f : Addr
  fi : PySem.W.findIn K (.ref C) "__len__" = some (some (.ref f))
  fn : PySem.W.isFn K (.ref f) = true
  ok : ∀ k, l ≤ k → FnR P w K mg base CX0 k f sp
section
variable {P : Program} {w : World} {K : PySem.W.Frag} {mg : Str → Option Value} {base : Heap} {kA : Addr}
theorem scTLen : FnScope ["self"] ["self"] (defScope sTLen) := ⟨rfl, rfl, rfl, by decide +kernel, rfl, by decide +kernel, by decide +kernel⟩
theorem ok_tlen {f C : Addr} {fd : FuncData} {k : Nat} (F : Fun K "__len__" "Table.__len__" sTLen f fd) (T : Glb K mg kA) (TC : TxtT K mg C) : FnOk P w K mg base CX0 (k + 1) f fd ["self"] (spTLen K C) := by
  refine F.ok scTLen (fun vs H Q E h => ?_) (fun cdv A outer s H vs Q E hr h => ?_)
  · obtain ⟨x, m, rows, rfl, _⟩ := h
    rfl
  · obtain ⟨x, m, rows, rfl, ⟨dx, g, us, h1, h2, h3⟩, q⟩ := h
    have ul : us.length = rows.length := by rw [dps_len h3, List.length_map]
    refine ⟨_, pss_one (ps_ret (pe_callB call_len_seq (by rfl) T.len PySem.boot_len (pa_cons (pe_fld (pv 0) rfl) pa_nil))), ?_⟩
    refine ⟨_, rfl, x, C, dx, _, _, rfl, h1, TC.cl, TC.nL, fldT_lines _ _, g, us, rfl, .inr (.inl (.inl h2)), ?_⟩
    rw [ul]
    exact q
end
end CC
/-! a layer above the hand layer: defs that are called where nothing is being shown (no repr of a container is under way) -/
namespace GD
open PySem PySem.Spec PyProof.Rows L2
abbrev Calm (A : Around) : Prop := A.guards = some []
/-- a def's promise, where nothing is being shown -/
structure FnG (P : Program) (w : World) (K : PySem.W.Frag) (mg : Str → Option Value) (base : Heap) (CX : CXT) (k : Nat) (f : Addr) (fd : FuncData) (ps : List Str) (sp : Sp) : Prop where
  few : ∀ vs H Q E, sp vs H Q E → vs.length = ps.length
  goes : ∀ (A : Around) (out : List Env) (s : Shared) (H : Hp) (args : Args) (us : List Value) (vs : List V) (Q : VK) (E : XK), Calm A → Room k A → Env0 P w K mg base A out s H → BindsTo s fd args (ps.zip us) → Vals vs us → sp vs H Q E → codeAny (model P w) A (.call (.ref f) args) (CR CX out P w H s Q E) s
section
variable {P : Program} {w : World} {K : PySem.W.Frag} {mg : Str → Option Value} {base : Heap} {CX : CXT} {k : Nat} {f : Addr} {fd : FuncData} {ps : List Str} {sp : Sp}
theorem FnG.of (F : FnOk P w K mg base CX k f fd ps sp) : FnG P w K mg base CX k f fd ps sp := ⟨F.len, fun A out s H args us vs Q E _ hr e0 hb r h => F.run A out s H args us vs Q E hr e0 hb r h⟩
/-- the rule for a def by its body -/
theorem fun_okG {x q : Str} {st : Stmt} {N : List Str} (F : Fun K x q st f fd) (S : FnScope N ps (defScope st)) (few : ∀ vs H Q E, sp vs H Q E → vs.length = ps.length)
    (body : ∀ (cd : Value) (A : Around) (out : List Env) (s : Shared) (H : Hp) (vs : List V) (Q : VK) (E : XK), Calm (A.deeper (envOfC q (defScope st) s.heap.objs.size f cd)) → Room k (A.deeper (envOfC q (defScope st) s.heap.objs.size f cd)) → sp vs H Q E →
      ∃ t, PSs (cxOf CX0 P w K mg base N q (defScope st) f cd A out s H E).nox (defBody st) t ∧ t { nx := fun _ H' => Q .non H', rt := Q } (start N vs) H) : FnG P w K mg base CX0 (k + 1) f fd ps sp := by
  obtain ⟨oc, od, kV, doc, pm, an, cd, ct, osl, rfl, look, hcd⟩ := F.ex
  constructor
  · exact few
  intro A out s H args us vs Q E calm room e0 bound rel wish
  have keep : ∀ b o, base.get? b = some o → s.heap.get? b = some o := fun b o e => (e0.bs b o e).1
  have inK := e0.mod.kin.keeps keep
  have noL := e0.mod.nolimit.keeps keep
  have size := few _ _ _ _ wish
  refine codeAny_call_function room.depth (inK _ _ look) rfl S.co S.gen rfl (PySem.W.codeRec_of inK hcd) (bound _ _ _ _ ?_)
  refine wpAny_newFunctionEnv_cells S.kind (fun y hy => ?_) fun env he s1 x => ?_
  · rcases S.par y.1 (List.of_mem_zip hy).1 with z | z
    · exact .inl z
    · exact .inr ⟨z, PySem.W.cellsFrom_some _ _ _ (.inl z)⟩
  subst he
  refine ⟨noL.keeps x.toInCall.keep, codeAny_func ?_⟩
  obtain ⟨t, d, r⟩ := body cd A out s H vs Q E calm (room.deeper _) wish
  have J := inv_start (CX := CX0) (E := E) S room.hd e0 size rel x
  refine wpAny_mono (d.nox.run [] s1 (start N vs) H _ J r) (fun fl s2 z => ?_) fun _ _ z => z
  cases fl with
  | brk => exact z.elim fun _ z => z.elim fun _ z => z.2.elim
  | cont => exact z.elim fun _ z => z.elim fun _ z => z.2.elim
  | next =>
    obtain ⟨τ, H2, J2, q⟩ := z
    exact ⟨.non, H2, J2.os, J2.bare, J2.base, J2.hok, rfl, q⟩
  | ret u =>
    obtain ⟨v, τ, H2, J2, rv, q⟩ := z
    exact ⟨v, H2, J2.os, J2.bare, J2.base, J2.hok, rv, q⟩
end
section
variable {X : Cx} {CX : CXT} {k : Nat} {f : Addr} {fd : FuncData} {ps : List Str} {sp : Sp} {E : XK} {x : Str} {p pos : Pos} {e : Expr} {es : List Expr} {t : TA}
theorem pe_callG (F : FnG X.prog X.w X.K X.mg X.base CX k f fd ps sp) (calm : Calm X.A) (room : Room k X.A) (gl : Gl X x) (at_ : X.mg x = some (.ref f)) (kp : PySem.W.keepIn X.K (.ref f) = true) (b : Binds X.K fd ps []) (hx : Passes CX X E) (ha : PA X (e :: es) t)
    (hd : (x == ("__debug__" : Str)) = false := by decide) (h1 : starEach (e :: es) X.env = (false, eval e X.env) :: starEach es X.env := by rfl) (h2 : (backTo pos (starEach es X.env)).any (·.1) = false := by rfl) : PE X (.Call (.Name x p) (e :: es) [] pos) (tCall sp [] E t) := by
  constructor
  intro pins s σ H Q I h
  refine wpAny_Call_Name_kw (ld_glob I gl at_ (PySem.W.callWith_K (h₀ := X.base) I.ok.mod.kin kp (thn (ha.run pos pins s σ H _ I h) fun us s1 z => ?_) h1 h2) hd)
  obtain ⟨vs, H1, I1, r, q⟩ := z
  refine ⟨I1.kIn, ?_⟩
  rw [List.append_nil] at q
  have hl : us.length = ps.length := by
    rw [← r.length]
    exact F.few _ _ _ _ q
  have hb := b s1 us I1.kIn (by rw [List.append_nil]; exact hl)
  rw [List.append_nil] at hb
  refine wpAny_call (codeAny_mono (F.goes X.A X.stack s1 H1 ⟨us, []⟩ us vs Q E calm room I1.env0 hb r q) fun fin s2 z => ?_)
  match fin, z with
  | .error err, z => exact hx pins σ H1 s1 err s2 I1 z
  | .ok (.ret u), z => exact I1.after z
  | .ok .next, z => exact z.elim
  | .ok .brk, z => exact z.elim
  | .ok .cont, z => exact z.elim
/-- repr(x), x data -/
theorem call_reprD (calm : Calm X.A) (hu : X.A.units + 66 < cLine) : CallR X (.builtin "repr") (fun xs H Q => ∃ v d, xs = [v] ∧ Dp X.K H v d ∧ d.showable = true ∧ d.hasDict = false ∧ d.depth ≤ 64 ∧ d.shown.length ≤ sizeLine ∧ Q (.str d.shown) H) := by
  intro pins s σ H xs us Q I r h
  obtain ⟨v, d, rfl, hd, h1, h2, h3, h4, q⟩ := h
  obtain ⟨u, rfl, rv⟩ := vals1 r
  obtain ⟨as, rd⟩ := Dp.reads I d v u hd rv
  cases hd with
  | non =>
    cases rv
    exact PySem.P.repr_of_none ⟨.str _, H, I.tok _, ⟨_, rfl⟩, q⟩
  | bl b =>
    cases rv
    exact PySem.P.repr_of_bool ⟨.str _, H, I.tok _, ⟨_, rfl⟩, q⟩
  | int i =>
    obtain ⟨t, rfl⟩ := rv
    exact PySem.P.repr_of_int (by simpa [PyData.showable] using h1) ⟨.str _, H, I.tok _, ⟨_, rfl⟩, q⟩
  | str x =>
    obtain ⟨t, rfl⟩ := rv
    exact PySem.P.repr_of_str ⟨.str _, H, I.tok _, ⟨_, rfl⟩, q⟩ h4
  | lst hs ha =>
    cases rv
    exact repr_of_reads' rd h1 (PyData.noDict_hsm h2) calm (by omega) (fun _ _ e => e) (fun h' u tk hk => ⟨.str _, H, I.kept hk, ⟨_, rfl⟩, q⟩) h4
  | tup hs ha =>
    cases rv
    exact repr_of_reads' rd h1 (PyData.noDict_hsm h2) calm (by omega) (fun _ _ e => e) (fun h' u tk hk => ⟨.str _, H, I.kept hk, ⟨_, rfl⟩, q⟩) h4
end
/-- the law's call, at the heap behind the top -/
theorem law_callG {P : Program} {w : World} {K : PySem.W.Frag} {mg mb : Str → Option Value} {CX : CXT} {k : Nat} {fa a : Addr} {fd : FuncData} {x : Str} {sp : Sp} {s : Shared} {vs : List Value} {ns : List Int}
    (inK : K.In s.heap) (nsM : s.heap.Ns mainGlobals mg) (nsB : s.heap.Ns builtinsNs mb) (boot : ∀ x : Str, x ≠ "__name__" → mb x = bootBuiltins x) (noL : s.heap.NoLimit) (gens : s.gens = #[])
    (ha : s.heap.get? a = some { cls := .type "list", data := .seq vs.toArray }) (hin : IntsAre vs ns) (few : ns.length ≤ sizeLine) (room : Room k callerA)
    (F : ∀ base : Heap, K.In base → base.Ns mainGlobals mg → FnG P w K mg base CX k fa fd [x] sp) (bind : ∀ (s : Shared) (u : Value), BindsTo s fd ⟨[u], []⟩ [(x, u)])
    (wish : ∀ H : Hp, Only H → SqL K H a (ns.map V.int) → sp [.ref a] H (fun v _ => v = .bl true) fun _ _ _ => False) (noX : ∀ H e s', CX [] H s (fun _ _ _ => False) e s' → False) :
    codeAny (model P w) callerA (.call (.ref fa) ⟨[.ref a], []⟩) (fun r s' => r = .ok (.ret (.bool true)) ∧ OldK s.heap s'.heap ∧ s'.os = s.os ∧ AllBare s'.gens) s := by
  have go : ∀ H : Hp, Only H → SqL K H a (ns.map V.int) → HOk P w H s.heap → (∀ b, b ≠ a → H b = none) → (K.lookup a = none ∨ H a = none) →
      codeAny (model P w) callerA (.call (.ref fa) ⟨[.ref a], []⟩) (fun r s' => r = .ok (.ret (.bool true)) ∧ OldK s.heap s'.heap ∧ s'.os = s.os ∧ AllBare s'.gens) s := by
    intro H only sq hok off way
    have up : ∀ {b : Addr} {o : Obj}, s.heap.get? b = some o → H b = none → (hidT s.heap H).get? b = some o := fun e n => hidT_get e n
    have notA : ∀ {b : Addr} {o : Obj} {es : Array DictEntry} {n : Nat}, s.heap.get? b = some o → o.data = .dict es n → H b = none := fun {b o es n} e d => by
      by_cases z : b = a
      · rw [z, ha] at e
        cases e
        cases (show Data.seq vs.toArray _ = Data.dict es n from d)
      · exact off b z
    have lift : ∀ {b : Addr} {m : Str → Option Value}, s.heap.Ns b m → (hidT s.heap H).Ns b m := fun ⟨o, es, n, e, d, r⟩ => ⟨o, es, n, up e (notA e d), d, r⟩
    have inB : K.In (hidT s.heap H) := fun b o e => up (inK b o e) (by
      by_cases z : b = a
      · rcases way with z2 | z2
        · rw [z, z2] at e
          cases e
        · rw [z]
          exact z2
      · exact off b z)
    obtain ⟨mc, l1, l2⟩ := noL
    have e0 : Env0 P w K mg (hidT s.heap H) callerA [] s H := ⟨rfl, ⟨inB, lift nsM, ⟨mb, lift nsB, boot⟩, ⟨mc, lift l1, l2⟩⟩, fun _ _ e => of_hidT e, Nat.le_of_eq (hidT_size _ _), trivial, fun b z => (nomatch (show b ∈ ([] : List Addr) from z)), hok, .of_eq gens⟩
    refine codeAny_mono ((F _ inB (lift nsM)).goes callerA [] s H ⟨[.ref a], []⟩ [.ref a] [.ref a] _ _ rfl room e0 (bind s (.ref a)) (.cons rfl .nil) (wish H only sq)) fun fin s2 z => ?_
    match fin, z with
    | .error err, z => exact (noX H err s2 z).elim
    | .ok .next, z => exact z.elim
    | .ok .brk, z => exact z.elim
    | .ok .cont, z => exact z.elim
    | .ok (.ret u), ⟨v, H2, os, bare, un, hok2, rel, ev⟩ =>
      cases (show v = V.bl true from ev)
      cases (show u = Value.bool true from rel)
      refine ⟨rfl, OldK.of_keep fun b o e => ?_, os, bare⟩
      rcases only b with z | ⟨ob, xs, z⟩
      · exact un.keep b o e z (fun y => nomatch (show b ∈ ([] : List Addr) from y)) (fun y => nomatch y)
      · obtain ⟨e1, _⟩ := hok b _ z
        obtain ⟨e2, _⟩ := hok2 b _ (un.frzs b ob _ z)
        rw [e1] at e
        cases e
        exact e2
  have rel := vals_ints hin
  have lenV := hin.length
  cases look : K.lookup a with
  | some o =>
    have e := inK a o look
    rw [ha] at e
    cases e
    refine go (fun _ => none) (fun _ => .inl rfl) (.inr ⟨_, vs.toArray, _, look, rfl, rfl, rfl, ?_, ?_⟩) (fun b u z => nomatch (show (none : Option HO) = some u from z)) (fun _ _ => rfl) (.inr rfl)
    · rw [List.size_toArray, lenV]
      exact few
    · simpa using rel
  | none =>
    have one : (fun b => if b = a then some (HO.frz { cls := .type "list", data := .seq vs.toArray } (.lst (ns.map V.int))) else none) a = some (HO.frz { cls := .type "list", data := .seq vs.toArray } (.lst (ns.map V.int))) := if_pos rfl
    refine go (fun b => if b = a then some (.frz { cls := .type "list", data := .seq vs.toArray } (.lst (ns.map V.int))) else none) (fun b => ?_) (.inl (.inr ⟨_, one⟩)) (fun b u z => ?_) (fun b hb => if_neg hb) (.inl look)
    · by_cases hb : b = a
      · rw [hb]
        exact .inr ⟨_, _, one⟩
      · exact .inl (if_neg hb)
    · by_cases hb : b = a
      · subst hb
        have z2 := one.symm.trans z
        cases z2
        exact ⟨ha, by rw [List.length_map]; exact few, vs, _, rel, ha⟩
      · have z2 := (if_neg hb).symm.trans z
        cases z2
/-- the goal that k_head leaves, from the law's promise -/
theorem walk_ofG {l : PySem.W.OpenLaw} {n k : Nat} {q : Program} {loose : List Str} {XP : (Str → Option Value) → Heap → Prop} {YP : World → Heap → Prop} {d : DefRec} {K : Params → PySem.W.Frag} {CX : World → CXT} {sp : World → Sp} {x : Str}
    (most : l.most = some n) (few : n ≤ sizeLine) (plain : d.params.defaults = []) (room : Room k callerA) (hY : ∀ (w : World) (h : Heap), YP w h → (K w.params).In h)
    (F : ∀ (w : World) (mg : Str → Option Value) (fa : Addr) (h : Heap), (K w.params).In h → h.Ns mainGlobals mg → mg d.name = some (.ref fa) → ∃ fd : FuncData, (∀ (s : Shared) (u : Value), BindsTo s fd ⟨[u], []⟩ [(x, u)]) ∧ ∀ base : Heap, (K w.params).In base → base.Ns mainGlobals mg → FnG l.prog w (K w.params) mg base (CX w) k fa fd [x] (sp w))
    (wish : ∀ (w : World) (H : Hp) (a : Addr) (ns : List Int), ns.length ≤ n → Only H → SqL (K w.params) H a (ns.map V.int) → sp w [.ref a] H (fun v _ => v = .bl true) fun _ _ _ => False)
    (noX : ∀ (w : World) (H : Hp) (s : Shared) (e : Value) (s' : Shared), CX w [] H s (fun _ _ _ => False) e s' → False) : PySem.W.WalkO q loose XP YP l.row.toRowW d [] (fun f vs => PySem.call f vs) := by
  refine Att.attach_call most plain ?_
  intro w s₀ s mg mb fa o pm cd doc a vs ns G Y _ _ _ hmg hobj hin len gens
  have inK := hY w _ Y
  obtain ⟨fd, bind, ok⟩ := F w mg fa _ inK G.T.g hmg
  exact law_callG inK G.T.g G.T.b G.T.builtins G.T.nolimit gens hobj hin (Nat.le_trans len few) room ok bind (fun H h1 h2 => wish w H a ns len h1 h2) fun H e s' => noX w H s e s'
end GD
/-! the end of a law whose defs make lambdas, where nothing is being shown -/
namespace GD
open PySem PySem.Spec PyProof.Rows L2
abbrev tab0 : Obj := { cls := .none, data := .fields #[] }
theorem law_callGT {P : Program} {w : World} {K : PySem.W.Frag} {mg mb : Str → Option Value} {CX : CXT} {k : Nat} {fa a : Addr} {cs : List (Addr × Addr)} {fd : FuncData} {x : Str} {sp : Sp} {s : Shared} {vs : List Value} {ns : List Int}
    (inK : K.In s.heap) (nsM : s.heap.Ns mainGlobals mg) (nsB : s.heap.Ns builtinsNs mb) (boot : ∀ x : Str, x ≠ "__name__" → mb x = bootBuiltins x) (noL : s.heap.NoLimit) (gens : s.gens = #[])
    (tabs : ∀ p ∈ cs, PySem.W.CodeHd s.heap p.1 p.2 ∧ s.heap.get? p.2 = some tab0) (offK : ∀ p ∈ cs, K.lookup p.2 = none)
    (blt : ∃ (bm : Addr) (ob : Obj), mg "__builtins__" = some (.ref bm) ∧ bm ≠ builtinsNs ∧ s.heap.get? bm = some ob ∧ ob.cls = .type "module" ∧ ob.dict = some builtinsNs ∧ ob.data = .plain)
    (ha : s.heap.get? a = some { cls := .type "list", data := .seq vs.toArray }) (hin : IntsAre vs ns) (few : ns.length ≤ sizeLine) (room : Room k callerA)
    (F : ∀ base : Heap, K.In base → base.Ns mainGlobals mg → (∀ p ∈ cs, LamX.TabB base mg p.1 p.2) → FnG P w K mg base CX k fa fd [x] sp) (bind : ∀ (s : Shared) (u : Value), BindsTo s fd ⟨[u], []⟩ [(x, u)])
    (wish : ∀ H : Hp, (∀ p ∈ cs, H p.2 = some (.tbl #[])) → SqL K H a (ns.map V.int) → sp [.ref a] H (fun v _ => v = .bl true) fun _ _ _ => False) (noX : ∀ H e s', CX [] H s (fun _ _ _ => False) e s' → False) :
    codeAny (model P w) callerA (.call (.ref fa) ⟨[.ref a], []⟩) (fun r s' => r = .ok (.ret (.bool true)) ∧ OldK s.heap s'.heap ∧ s'.os = s.os ∧ AllBare s'.gens) s := by
  let tb : Addr → Prop := fun b => ∃ p ∈ cs, p.2 = b
  have tbd : ∀ b, Decidable (tb b) := fun b => Classical.propDecidable _
  have tbo : ∀ {b : Addr}, tb b → s.heap.get? b = some tab0 := fun {b} ⟨p, hp, e⟩ => by
    rw [← e]
    exact (tabs p hp).2
  have atb : ¬ tb a := fun z => by
    have e := tbo z
    rw [ha] at e
    have e2 := congrArg Obj.data (Option.some.inj e)
    cases (show Data.seq vs.toArray _ = Data.fields #[] from e2)
  have go : ∀ H : Hp, (∀ b, tb b → H b = some (.tbl #[])) → (∀ b, b ≠ a → ¬ tb b → H b = none) → (H a = none ∨ ∃ ob xs, H a = some (.frz ob (.lst xs))) → SqL K H a (ns.map V.int) → HOk P w H s.heap → (K.lookup a = none ∨ H a = none) →
      codeAny (model P w) callerA (.call (.ref fa) ⟨[.ref a], []⟩) (fun r s' => r = .ok (.ret (.bool true)) ∧ OldK s.heap s'.heap ∧ s'.os = s.os ∧ AllBare s'.gens) s := by
    intro H tbH off onA sq hok way
    have up : ∀ {b : Addr} {o : Obj}, s.heap.get? b = some o → H b = none → (hidT s.heap H).get? b = some o := fun e n => hidT_get e n
    have plain : ∀ {b : Addr} {o : Obj}, s.heap.get? b = some o → (∀ us n, o.data ≠ .seq us n) → o.data ≠ .fields #[] → H b = none := fun {b o} e n1 n2 => by
      by_cases za : b = a
      · rw [za, ha] at e
        cases e
        exact absurd rfl (n1 _ _)
      · refine off b za fun z => ?_
        rw [tbo z] at e
        cases e
        exact n2 rfl
    have lift : ∀ {b : Addr} {m : Str → Option Value}, s.heap.Ns b m → (hidT s.heap H).Ns b m := fun ⟨o, es, n, e, d, r⟩ => ⟨o, es, n, up e (plain e (fun us n z => by rw [d] at z; cases z) (fun z => by rw [d] at z; cases z)), d, r⟩
    have inB : K.In (hidT s.heap H) := fun b o e => up (inK b o e) (by
      by_cases za : b = a
      · rcases way with z2 | z2
        · rw [za, z2] at e
          cases e
        · rw [za]
          exact z2
      · refine off b za fun ⟨p, hp, z⟩ => ?_
        rw [← z, offK p hp] at e
        cases e)
    have TB : ∀ p ∈ cs, LamX.TabB (hidT s.heap H) mg p.1 p.2 := fun p hp => by
      obtain ⟨cd, tp⟩ := tabs p hp
      refine ⟨?_, ?_, fun z => ?_⟩
      · obtain ⟨o, us, f1, f2, f3, f4, f5, f6, f7, e1, g1, g2, g3, rest⟩ := cd
        refine ⟨o, us, f1, f2, f3, f4, f5, f6, f7, up e1 (plain e1 (fun us n z => by rw [g2] at z; cases z) (fun z => ?_)), g1, g2, g3, rest⟩
        rw [g2] at z
        cases z
        simp at g3
      · obtain ⟨bm, ob, b1, b2, b3, b4, b5, b6⟩ := blt
        refine ⟨bm, ob, b1, b2, fun z => ?_, fun z => ?_, up b3 (plain b3 (fun us n z => by rw [b6] at z; cases z) (fun z => by rw [b6] at z; cases z)), b4, b5, b6⟩
        · obtain ⟨o, es, ep, e, d, _⟩ := nsM
          rw [z, e] at b3
          cases b3
          rw [d] at b6
          cases b6
        · rw [z, tp] at b3
          cases b3
          cases b6
      · obtain ⟨o, es, ep, e, d, _⟩ := nsM
        rw [z, tp] at e
        cases e
        cases d
    obtain ⟨mc, l1, l2⟩ := noL
    have e0 : Env0 P w K mg (hidT s.heap H) callerA [] s H := ⟨rfl, ⟨inB, lift nsM, ⟨mb, lift nsB, boot⟩, ⟨mc, lift l1, l2⟩⟩, fun _ _ e => of_hidT e, Nat.le_of_eq (hidT_size _ _), trivial, fun b z => (nomatch (show b ∈ ([] : List Addr) from z)), hok, .of_eq gens⟩
    refine codeAny_mono ((F _ inB (lift nsM) TB).goes callerA [] s H ⟨[.ref a], []⟩ [.ref a] [.ref a] _ _ rfl room e0 (bind s (.ref a)) (.cons rfl .nil) (wish H (fun p hp => tbH _ ⟨p, hp, rfl⟩) sq)) fun fin s2 z => ?_
    match fin, z with
    | .error err, z => exact (noX H err s2 z).elim
    | .ok .next, z => exact z.elim
    | .ok .brk, z => exact z.elim
    | .ok .cont, z => exact z.elim
    | .ok (.ret u), ⟨v, H2, os, bare, un, hok2, rel, ev⟩ =>
      cases (show v = V.bl true from ev)
      cases (show u = Value.bool true from rel)
      have kept : ∀ b o, ¬ tb b → s.heap.get? b = some o → s2.heap.get? b = some o := fun b o nb e => by
        have free : H b = none → s2.heap.get? b = some o := fun n => un.keep b o e n (fun y => nomatch (show b ∈ ([] : List Addr) from y)) (fun y => nomatch y)
        by_cases za : b = a
        · rcases onA with z | ⟨ob, xs, z⟩
          · exact free (by rw [za]; exact z)
          · obtain ⟨e1, _⟩ := hok a _ z
            obtain ⟨e2, _⟩ := hok2 a _ (un.frzs a ob _ z)
            rw [za, e1] at e
            cases e
            rw [za]
            exact e2
        · exact free (off b za nb)
      have grew : ∀ b, tb b → ∃ more : Array Value, s2.heap.get? b = some { cls := .none, data := .fields more } := fun b hb => by
        obtain ⟨more, z⟩ := un.tbls b #[] (tbH b hb)
        exact ⟨_, hok2 b _ z⟩
      refine ⟨rfl, ⟨fun b o e => ?_, fun b o e => ?_⟩, os, bare⟩
      · by_cases hb : tb b
        · obtain ⟨more, hm⟩ := grew b hb
          have t0 := tbo hb
          rw [t0] at e
          cases e
          obtain ⟨p, hp, ep⟩ := hb
          rw [← ep] at hm t0 ⊢
          exact .inr (.inl ⟨((tabs p hp).1.tab t0).isCodeTable, rfl, #[], more, rfl, by rw [Array.empty_append]; exact hm⟩)
        · exact .inl (kept b o hb e)
      · by_cases hb : tb b
        · obtain ⟨more, hm⟩ := grew b hb
          exact ⟨_, hm⟩
        · exact ⟨o, kept b o hb e⟩
  have rel := vals_ints hin
  have lenV := hin.length
  cases look : K.lookup a with
  | some o =>
    have e := inK a o look
    rw [ha] at e
    cases e
    refine go (fun b => @ite _ (tb b) (tbd b) (some (.tbl #[])) none) (fun b hb => if_pos hb) (fun b _ hb => if_neg hb) (.inl (if_neg atb)) (.inr ⟨_, vs.toArray, _, look, rfl, rfl, rfl, ?_, ?_⟩) (fun b u z => ?_) (.inr (if_neg atb))
    · rw [List.size_toArray, lenV]
      exact few
    · simpa using rel
    · by_cases hb : tb b
      · have z2 := (if_pos hb).symm.trans z
        cases z2
        exact tbo hb
      · have z2 := (if_neg hb).symm.trans z
        cases z2
  | none =>
    have one : (fun b => if b = a then some (HO.frz { cls := .type "list", data := .seq vs.toArray } (.lst (ns.map V.int))) else @ite _ (tb b) (tbd b) (some (.tbl #[])) none) a = some (HO.frz { cls := .type "list", data := .seq vs.toArray } (.lst (ns.map V.int))) := if_pos rfl
    refine go (fun b => if b = a then some (.frz { cls := .type "list", data := .seq vs.toArray } (.lst (ns.map V.int))) else @ite _ (tb b) (tbd b) (some (.tbl #[])) none) (fun b hb => ?_) (fun b na hb => ?_) (.inr ⟨_, _, one⟩) (.inl (.inr ⟨_, one⟩)) (fun b u z => ?_) (.inl look)
    · exact (if_neg fun z => atb (by rw [← z]; exact hb)).trans (if_pos hb)
    · exact (if_neg na).trans (if_neg hb)
    · by_cases za : b = a
      · subst za
        have z2 := one.symm.trans z
        cases z2
        exact ⟨ha, by rw [List.length_map]; exact few, vs, _, rel, ha⟩
      · by_cases hb : tb b
        · have z2 := ((if_neg za).trans (if_pos hb)).symm.trans z
          cases z2
          exact tbo hb
        · have z2 := ((if_neg za).trans (if_neg hb)).symm.trans z
          cases z2
/-- the goal that k_head leaves, from the law's promise; cs: the defs that make lambdas, by their code objects and tables -/
theorem walk_ofGT {l : PySem.W.OpenLaw} {n k : Nat} {q : Program} {loose : List Str} {XP : (Str → Option Value) → Heap → Prop} {YP : World → Heap → Prop} {d : DefRec} {K : Params → PySem.W.Frag} {CX : World → CXT} {x : Str} {xs : List Str}
    (most : l.most = some n) (few : n ≤ sizeLine) (plain : d.params.defaults = []) (room : Room k callerA) (hY : ∀ (w : World) (h : Heap), YP w h → (K w.params).In h)
    (found : ∀ y ∈ xs, ∃ r, (recsOf q).find? (fun e => e.name == y) = some r)
    (F : ∀ (w : World) (mg : Str → Option Value) (fa : Addr) (h : Heap), (K w.params).In h → h.Ns mainGlobals mg → mg d.name = some (.ref fa) → ∃ (fd : FuncData) (cs : List (Addr × Addr)) (sp : Sp), (∀ p ∈ cs, ∃ y ∈ xs, PySem.W.tabIn (K w.params) y = some p) ∧ (∀ p ∈ cs, (K w.params).lookup p.2 = none) ∧
      (∀ (s : Shared) (u : Value), BindsTo s fd ⟨[u], []⟩ [(x, u)]) ∧ (∀ (H : Hp) (a : Addr) (ns : List Int), ns.length ≤ n → (∀ p ∈ cs, H p.2 = some (.tbl #[])) → SqL (K w.params) H a (ns.map V.int) → sp [.ref a] H (fun v _ => v = .bl true) fun _ _ _ => False) ∧
      ∀ base : Heap, (K w.params).In base → base.Ns mainGlobals mg → (∀ p ∈ cs, LamX.TabB base mg p.1 p.2) → FnG l.prog w (K w.params) mg base (CX w) k fa fd [x] sp)
    (noX : ∀ (w : World) (H : Hp) (s : Shared) (e : Value) (s' : Shared), CX w [] H s (fun _ _ _ => False) e s' → False) : PySem.W.WalkO q loose XP YP l.row.toRowW d [] (fun f vs => PySem.call f vs) := by
  refine Att.attach_callB most plain ?_
  intro w s₀ s mg mb fa o pm cd doc a vs ns G Y _ _ _ hmg hobj hin len _ gens
  have inK := hY w _ Y
  obtain ⟨fd, cs, sp, tbs, offK, bind, wish, ok⟩ := F w mg fa _ inK G.T.g hmg
  refine law_callGT inK G.T.g G.T.b G.T.builtins G.T.nolimit gens (fun p hp => ?_) offK G.T.bmain hobj hin (Nat.le_trans len few) room ok bind (fun H h1 h2 => wish H a ns len h1 h2) fun H e s' => noX w H s e s'
  obtain ⟨y, hy, e⟩ := tbs p hp
  obtain ⟨r, hr⟩ := found y hy
  exact PySem.W.tab_of G.T inK hr (by rw [e])
end GD
namespace CC
open PySem L2
/-! ### the dict of ways -/
def Ents (H : Hp) : List (Key × V) → List (Nat × List Nat) → Prop
  | [], [] => True
  | (k, v) :: r, (c, w) :: s => k = Sum.inl (c : Int) ∧ (∃ t, v = .ref t ∧ H t = some (.tup (nms w))) ∧ Ents H r s
  | [], _ :: _ => False
  | _ :: _, [] => False
theorem Ents.mono {H H' : Hp} (e : ∀ t xs, H t = some (.tup xs) → H' t = some (.tup xs)) : ∀ {kvs : List (Key × V)} {ws : List (Nat × List Nat)}, Ents H kvs ws → Ents H' kvs ws
  | [], [], _ => trivial
  | [], _ :: _, h => False.elim h
  | _ :: _, [], h => False.elim h
  | (k, v) :: r, (c, w) :: s, ⟨h1, ⟨t, h2, h3⟩, h4⟩ => ⟨h1, ⟨t, h2, e _ _ h3⟩, Ents.mono e h4⟩
theorem Ents.len {H : Hp} : ∀ {kvs : List (Key × V)} {ws : List (Nat × List Nat)}, Ents H kvs ws → kvs.length = ws.length
  | [], [], _ => rfl
  | [], _ :: _, h => False.elim h
  | _ :: _, [], h => False.elim h
  | (k, v) :: r, (c, w) :: s, ⟨_, _, h⟩ => congrArg (· + 1) (Ents.len h)
theorem Ents.app {H : Hp} : ∀ {kvs kvs2 : List (Key × V)} {ws ws2 : List (Nat × List Nat)}, Ents H kvs ws → Ents H kvs2 ws2 → Ents H (kvs ++ kvs2) (ws ++ ws2)
  | [], _, [], _, _, h => h
  | [], _, _ :: _, _, h, _ => False.elim h
  | _ :: _, _, [], _, h, _ => False.elim h
  | (k, v) :: r, _, (c, w) :: s, _, ⟨h1, h2, h3⟩, h => ⟨h1, h2, Ents.app h3 h⟩
theorem Ents.keys {H : Hp} : ∀ {kvs : List (Key × V)} {ws : List (Nat × List Nat)}, Ents H kvs ws → (kvs.map fun kv => kV kv.1) = nms (ws.map (·.1))
  | [], [], _ => rfl
  | [], _ :: _, h => False.elim h
  | _ :: _, [], h => False.elim h
  | (k, v) :: r, (c, w) :: s, ⟨h1, _, h⟩ => by
    subst h1
    rw [List.map_cons, Ents.keys h]
    rfl
theorem Ents.none {H : Hp} {c : Nat} : ∀ {kvs : List (Key × V)} {ws : List (Nat × List Nat)}, Ents H kvs ws → c ∉ ws.map (·.1) → valV kvs (Sum.inl (c : Int)) = none
  | [], [], _, _ => rfl
  | [], _ :: _, h, _ => False.elim h
  | _ :: _, [], h, _ => False.elim h
  | (k, v) :: r, (d, w) :: s, ⟨h1, _, h⟩, n => by
    subst h1
    rw [List.map_cons, List.mem_cons, not_or] at n
    rw [valV_neg (fun e => n.1 (by have := Sum.inl.inj e; simp only at this ⊢; omega))]
    exact Ents.none h n.2
theorem Ents.some {H : Hp} {c : Nat} {u : List Nat} : ∀ {kvs : List (Key × V)} {ws : List (Nat × List Nat)}, Ents H kvs ws → (ws.map (·.1)).Nodup → (c, u) ∈ ws → ∃ t, valV kvs (Sum.inl (c : Int)) = some (.ref t) ∧ H t = some (.tup (nms u))
  | [], [], _, _, h => nomatch h
  | [], _ :: _, h, _, _ => False.elim h
  | _ :: _, [], h, _, _ => False.elim h
  | (k, v) :: r, (d, w) :: s, ⟨h1, ⟨t, h2, h3⟩, h⟩, nd, m => by
    subst h1 h2
    rw [List.map_cons, List.nodup_cons] at nd
    rcases List.mem_cons.mp m with e | m
    · cases e
      exact ⟨t, valV_pos rfl, h3⟩
    · have ne : ¬ (c = d) := fun e => nd.1 (List.mem_map.mpr ⟨(c, u), m, e⟩)
      obtain ⟨t2, e2, h2⟩ := Ents.some h nd.2 m
      exact ⟨t2, (valV_neg (fun e => ne (by have := Sum.inl.inj e; omega))).trans e2, h2⟩
abbrev sFw : Stmt := tp 26
def spFw (K : PySem.W.Frag) : Sp := fun vs H Q _ => ∃ (a : Addr) (us : List V) (ps : List (Nat × Nat)) (st : Nat), vs = [.ref a, .int (st : Int)] ∧ SqL K H a us ∧ DpAll K H us (ps.map prd) ∧ (∀ x ∈ ps, x.1 < 6 ∧ x.2 < 6) ∧ st < 6 ∧ ps.length ≤ 1000 ∧
  ∀ (D : Addr) (kvs : List (Key × V)) (ws : List (Nat × List Nat)) (H' : Hp), Same H H' → H D = none → H' D = some (.dK kvs) → Ents H' kvs ws → FW ps st ws → Q (.ref D) H'
theorem mem_take_bs {ps : List (Nat × Nat)} {c b : Nat} : b ∈ (ps.filter fun p => decide (p.1 = c)).map (·.2) ↔ (c, b) ∈ ps := by
  simp only [List.mem_map, List.mem_filter, decide_eq_true_eq]
  constructor
  · rintro ⟨⟨x, y⟩, ⟨h1, h2⟩, h3⟩
    simp only at h2 h3
    subst h2 h3
    exact h1
  · exact fun h => ⟨(c, b), ⟨h, rfl⟩, rfl⟩
/-- a sorted list of such numbers -/
theorem nats_of {ns : List Nat} {ns' : List Int} (h : ns'.Perm (ns.map fun (n : Nat) => (n : Int))) : ∃ ms : List Nat, ns' = ms.map (fun (n : Nat) => (n : Int)) ∧ ms.Perm ns := by
  refine ⟨ns'.map Int.toNat, ?_, ?_⟩
  · rw [List.map_map]
    have : ∀ x ∈ ns', ((fun (n : Nat) => (n : Int)) ∘ Int.toNat) x = x := fun x hx => by
      obtain ⟨n, _, rfl⟩ := List.mem_map.mp (h.mem_iff.mp hx)
      simp
    rw [List.map_congr_left this]
    simp
  · have := h.map Int.toNat
    rw [List.map_map] at this
    have e : (Int.toNat ∘ fun (n : Nat) => (n : Int)) = id := by
      funext n
      simp
    rw [e, List.map_id] at this
    exact this
theorem nms_ints (ns : List Nat) : nms ns = (ns.map fun (n : Nat) => (n : Int)).map V.int := by
  unfold nms
  rw [List.map_map]
  rfl
theorem few6' {ws : List (Nat × List Nat)} (nd : (ws.map (·.1)).Nodup) (h : ∀ e ∈ ws, e.1 < 6) : ws.length ≤ 6 := by
  have := few6 nd fun x hx => by
    obtain ⟨e, he, rfl⟩ := List.mem_map.mp hx
    exact h e he
  rwa [List.length_map] at this
def bsF (ps : List (Nat × Nat)) (c : Nat) : List Nat := (ps.filter fun p => decide (p.1 = c)).map (·.2)
theorem bsF_step {ps : List (Nat × Nat)} {c i x y : Nat} (h : ps[i]? = some (x, y)) : bsF (ps.take (i + 1)) c = bsF (ps.take i) c ++ (if x = c then [y] else []) := by
  unfold bsF
  rw [take1 h, List.filter_append, List.map_append]
  by_cases e : x = c
  · simp [e]
  · simp [e]
theorem bsF_len (ps : List (Nat × Nat)) (c : Nat) : (bsF ps c).length ≤ ps.length := by
  unfold bsF
  rw [List.length_map]
  exact List.length_filter_le _ _
section
variable {P : Program} {w : World} {K : PySem.W.Frag} {mg : Str → Option Value} {base : Heap} {kA : Addr}
abbrev nFw : List Str := ["pairs", "start", "ways", "waiting", "column", "b", "first", "second"]
theorem scFw : FnScope nFw ["pairs", "start"] (defScope sFw) := ⟨rfl, rfl, rfl, by decide +kernel, rfl, by decide +kernel, by decide +kernel⟩
theorem ok_fw {f : Addr} {fd : FuncData} {k : Nat} (F : Fun K "first_ways" "first_ways" sFw f fd) (T : Glb K mg kA) : FnOk P w K mg base CX0 (k + 1) f fd ["pairs", "start"] (spFw K) := by
  refine F.ok scFw (fun vs H Q E h => ?_) (fun cdv A outer s H vs Q E hr h => ?_)
  · obtain ⟨a, us, ps, st, rfl, _⟩ := h
    rfl
  · obtain ⟨a, us, ps, st, rfl, ha, dp, hps, hst, hpl, q⟩ := h
    have n := scFw.nd
    have hu := hu_of hr
    refine ⟨_, pss_cons (ps_set (i := 2) n rfl (.inl rfl) (pe_disp (pps_cons (pv 1) (pe_tup (pa_cons (pv 1) pa_nil)) pps_nil) (by rfl) (by rfl) (fun z => by cases z) (by decide)))
      (pss_cons (ps_set (i := 3) n rfl (.inl rfl) (pe_lst (pa_cons (pv 1) pa_nil)))
      (pss_cons (ps_while PassesOwn.never (pt_truth (pv 3) (by intro _; rfl))
        (pss_cons (ps_set (i := 4) n rfl (.inr rfl) (pe_bm PySem.F.plainAttrs_list PySem.F.slot_list_pop PySem.F.type_list_pop mt_popAt (pv 3) (pa_cons pe_int pa_nil)))
        (pss_one (ps_for PassesOwn.never rfl (pi_list (pe_callB cr_sortedI (by rfl) T.srt (by decide +kernel) (pa_cons (pe_lc (own := [("first", 6), ("second", 7)]) (g := g2 K 6 7) (tt := tTest (tOp rEq (tVar 6) (tVar 4))) rfl n (pi_list (pv 0)) (blkOk_by (N := nFw) (sc := defScope sFw) (by decide +kernel))
            (fun _ _ _ _ _ => pg_tup rfl (pgs_cons (pg_name (i := 6) n rfl (.inl rfl)) (pgs_cons (pg_name (i := 7) n rfl (.inl rfl)) pgs_nil)))
            (fun _ _ _ _ _ => pts_one (pt_cmpR op_eq (pv 6) (pv 4) (nomark _))) (fun _ _ _ _ _ => pv 7)) pa_nil))) (pg_name (i := 5) n rfl (.inl rfl))
          (pss_one (ps_if (pt_cmp (pc_dnotin hu (pv 5) (pv 2)))
            (pss_cons (ps_dput hu (pv 2) (pv 5) (pe_tup (StX.pa_star (pe_dget hu (pv 2) (pv 4) (fun _ _ => rfl)) (pa_cons (pv 5) pa_nil))) rfl)
            (pss_one (ps_expr (pe_bm PySem.F.plainAttrs_list PySem.F.slot_list_append PySem.F.type_list_append mt_append (pv 3) (pa_cons (pv 5) pa_nil))))) pss_nil))))))
      (pss_one (ps_ret (pv 2))))), ?_⟩
    have ul : us.length = ps.length := by rw [dps_len dp, List.length_map]
    have un : ∀ {t : Addr} {xs ys : List V} {H1 : Hp} {b : Addr}, H1 t = some (.tup xs) → H1 b = some (.lst ys) → t ≠ b := fun h1 h2 => ne_of h1 h2 (by intro z; cases z)
    have ud : ∀ {t : Addr} {xs : List V} {kvs : List (Key × V)} {H1 : Hp} {b : Addr}, H1 t = some (.tup xs) → H1 b = some (.dK kvs) → t ≠ b := fun h1 h2 => ne_of h1 h2 (by intro z; cases z)
    -- ways = {start: (start,)}
    intro D nD
    refine ⟨_, rfl, _, rfl, (by show 1 ≤ sizeLine; decide), fun t0 nt0 => ?_⟩
    have t0D : t0 ≠ D := fun e => by rw [e, upd_same] at nt0; cases nt0
    refine ⟨by rw [upd_ne t0D.symm]; exact upd_same, [(Sum.inl (st : Int), .ref t0)], rfl, (by show 1 ≤ 15; decide), ?_⟩
    have hD0 : (upd (upd (upd H D (.dK [])) t0 (.tup [.int (st : Int)])) D (.dK (mergeK [] [(Sum.inl (st : Int), .ref t0)]))) D = some (.dK [(Sum.inl (st : Int), .ref t0)]) := upd_same
    have ht0 : (upd (upd (upd H D (.dK [])) t0 (.tup [.int (st : Int)])) D (.dK (mergeK [] [(Sum.inl (st : Int), .ref t0)]))) t0 = some (.tup (nms [st])) := by
      rw [upd_ne t0D, upd_same]
      rfl
    have s0 : Same H (upd (upd (upd H D (.dK [])) t0 (.tup [.int (st : Int)])) D (.dK (mergeK [] [(Sum.inl (st : Int), .ref t0)]))) := same_mut ((same_new nD).trans (same_new nt0)) nD
    generalize upd (upd (upd H D (.dK [])) t0 (.tup [.int (st : Int)])) D (.dK (mergeK [] [(Sum.inl (st : Int), .ref t0)])) = H0 at hD0 ht0 s0
    refine ⟨_, rfl, (by show 1 ≤ sizeLine; decide), fun wt nwt => ?_⟩
    have wD : wt ≠ D := (ne_of_none hD0 nwt).symm
    have nwt0 : H wt = none := s0.free nwt
    -- the while
    refine ⟨fun m σ H1 => ∃ (kvs : List (Key × V)) (ws : List (Nat × List Nat)) (j : Nat) (y4 y5 y6 y7 : Option V), σ = [some (.ref a), some (.int (st : Int)), some (.ref D), some (.ref wt), y4, y5, y6, y7] ∧ Same H H1 ∧ H1 D = some (.dK kvs) ∧ Ents H1 kvs ws ∧ H1 wt = some (.lst (nms ((ws.drop j).map (·.1)))) ∧ BI ps st ws j ∧ m = 6 - j,
      ⟨_, [(Sum.inl (st : Int), .ref t0)], [(st, [st])], 0, none, none, none, none, rfl, s0.trans (same_new nwt), same_new nwt _ _ hD0, ⟨rfl, ⟨t0, rfl, same_new nwt _ _ ht0⟩, trivial⟩, upd_same, BI.start hst, rfl⟩, ?_⟩
    rintro m σ H1 ⟨kvs, ws, j, y4, y5, y6, y7, rfl, s1, hD, en, hw, inv, rfl⟩
    refine ⟨_, rfl, _, .inl ⟨_, SqL.of hw, rfl⟩, ?_⟩
    by_cases jl : j < ws.length
    · obtain ⟨⟨c, cw⟩, hc⟩ : ∃ e, ws[j]? = some e := ⟨_, List.getElem?_eq_getElem jl⟩
      have dr : ws.drop j = (c, cw) :: ws.drop (j + 1) := by
        rw [List.drop_eq_getElem_cons jl]
        congr 1
        exact (List.getElem?_eq_some_iff.mp hc).2
      have w6 := few6' inv.nd inv.lt
      have ne : (!(nms ((ws.drop j).map (·.1))).isEmpty) = true := by
        rw [dr]
        rfl
      rw [ne]
      refine iteT ⟨fun σ' H' => ∃ (kvs : List (Key × V)) (ws' : List (Nat × List Nat)) (y4 y5 y6 y7 : Option V), σ' = [some (.ref a), some (.int (st : Int)), some (.ref D), some (.ref wt), y4, y5, y6, y7] ∧ Same H H' ∧ H' D = some (.dK kvs) ∧ Ents H' kvs ws' ∧ H' wt = some (.lst (nms ((ws'.drop (j + 1)).map (·.1)))) ∧ BI ps st ws' (j + 1), ?_, ?_⟩
      · rintro σ' H' ⟨kvs, ws', y4, y5, y6, y7, rfl, g1, g2, g3, g4, g5⟩
        exact ⟨6 - (j + 1), by omega, kvs, ws', j + 1, y4, y5, y6, y7, rfl, g1, g2, g3, g4, g5, rfl⟩
      -- column = waiting.pop(0)
      refine ⟨_, rfl, .inl ⟨rfl, _, SqL.of hw⟩, wt, _, 0, 0, .int (c : Int), rfl, rfl, hw, by decide, by decide, ?_, ?_, ?_⟩
      · rw [dr]
        simp [seqIndex?, nms]
      · rw [dr]
        rfl
      have e1 : (nms ((ws.drop j).map (·.1))).eraseIdx 0 = nms ((ws.drop (j + 1)).map (·.1)) := by
        rw [dr]
        rfl
      rw [e1]
      have s2 : Same H (upd H1 wt (.lst (nms ((ws.drop (j + 1)).map (·.1))))) := same_mut s1 nwt0
      have h2D : (upd H1 wt (.lst (nms ((ws.drop (j + 1)).map (·.1))))) D = some (.dK kvs) := by rw [upd_ne wD.symm]; exact hD
      have h2w : (upd H1 wt (.lst (nms ((ws.drop (j + 1)).map (·.1))))) wt = some (.lst (nms ((ws.drop (j + 1)).map (·.1)))) := upd_same
      have en2 : Ents (upd H1 wt (.lst (nms ((ws.drop (j + 1)).map (·.1))))) kvs ws := en.mono fun t xs h => by rw [upd_ne (un h hw)]; exact h
      generalize upd H1 wt (.lst (nms ((ws.drop (j + 1)).map (·.1)))) = H2 at s2 h2D h2w en2
      -- the columns behind it
      refine ⟨_, rfl, a, rfl, ⟨_, same_l s2 ha⟩, fun L nL => ?_⟩
      refine lc_list (xs := us) (fun i H3 => Same H2 (wo H3 L) ∧ H3 L = some (.lst (nms (bsF (ps.take i) c)))) ⟨?_, upd_same⟩ (fun i H3 _ z => same_l (s2.trans (z.1.trans (wo_le L))) ha) ?_ ?_
      · rw [wo_upd]
        exact fun b o e => by rw [wo_ne (ne_of_none e nL)]; exact e
      · rintro i v H3 hv ⟨q1, q2⟩
        obtain ⟨⟨x, y⟩, hxy, dv⟩ := dps_pat dp hv
        have il : i < ps.length := (List.getElem?_eq_some_iff.mp hxy).1
        obtain ⟨t, rfl, ht⟩ := dp_p (dp_same (s2.trans (q1.trans (wo_le L))) _ _ dv)
        refine ⟨t, _, rfl, ht, rfl, _, _, rfl, _, _, rfl, rfl, rfl, ?_⟩
        refine ⟨_, rfl, _, rfl, rfl, _, rfl, ?_⟩
        rw [bsF_step hxy]
        by_cases e : x = c
        · subst e
          rw [show decide (V.int (x : Int) = V.int (x : Int)) = true from decide_eq_true rfl, if_pos (show x = x from rfl)]
          have bl := bsF_len (ps.take i) x
          rw [List.length_take] at bl
          have big : (nms (bsF (ps.take i) x)).length < sizeLine := Nat.lt_of_lt_of_le (show (nms (bsF (ps.take i) x)).length < 100000 by rw [nms_len]; omega) (by decide)
          refine iteT ?_
          refine ⟨_, rfl, _, q2, big, ?_, ?_⟩
          · rw [wo_upd]
            exact q1
          · rw [upd_same, nms_app]
            rfl
        · rw [show decide (V.int (x : Int) = V.int (c : Int)) = false from decide_eq_false (fun z => e (by injection z with z; omega)), if_neg e, List.append_nil]
          exact iteF ⟨q1, q2⟩
      rintro H3 ⟨q1, q2⟩
      rw [ul, List.take_length] at q2
      have s23 : Same H2 H3 := q1.trans (wo_le L)
      rw [nms_ints] at q2
      refine ⟨L, _, rfl, SqL.of q2, fun ns' p2 pm st2 n2 => ?_⟩
      obtain ⟨bs, rfl, pm2⟩ := nats_of pm
      rw [← nms_ints]
      have bsl : bs.Pairwise (· ≤ ·) := by
        rw [List.pairwise_map] at st2
        exact st2.imp fun h => by omega
      have hbs : ∀ b, b ∈ bs ↔ (c, b) ∈ ps := fun b => by
        rw [pm2.mem_iff]
        exact mem_take_bs
      have s24 : Same H2 (upd H3 p2 (.lst (nms bs))) := s23.trans (same_new n2)
      have h4p : (upd H3 p2 (.lst (nms bs))) p2 = some (.lst (nms bs)) := upd_same
      have n2' : H2 p2 = none := s23.free n2
      generalize upd H3 p2 (.lst (nms bs)) = H4 at s24 h4p
      have pD : p2 ≠ D := (ne_of_none h2D n2').symm
      have pw : p2 ≠ wt := (ne_of_none h2w n2').symm
      refine ⟨p2, rfl, ⟨_, SqL.of h4p⟩, ?_⟩
      have cm : (c, cw) ∈ ws := List.mem_of_getElem? hc
      refine for_list (xs := nms bs) (fun i σ' H' => ∃ (kvs : List (Key × V)) (nb : List Nat) (y5 y6 y7 : Option V), σ' = [some (.ref a), some (.int (st : Int)), some (.ref D), some (.ref wt), some (.int (c : Int)), y5, y6, y7] ∧ Same H H' ∧ H' p2 = some (.lst (nms bs)) ∧ H' D = some (.dK kvs) ∧ Ents H' kvs (ws ++ nws cw nb) ∧ H' wt = some (.lst (nms (((ws ++ nws cw nb).drop (j + 1)).map (·.1)))) ∧ TI ps ws c cw bs i nb)
        ⟨kvs, [], y5, y6, y7, rfl, s2.trans s24, h4p, s24 _ _ h2D, by rw [show nws cw [] = [] from rfl, List.append_nil]; exact en2.mono fun t xs h => s24 _ _ h, by rw [show nws cw [] = [] from rfl, List.append_nil]; exact s24 _ _ h2w, TI.start⟩
        (fun i σ' H' _ ⟨_, _, _, _, _, _, _, z, _⟩ => SqL.of z) ?_ ?_
      · rintro i v σ' H5 hv ⟨kvs, nb, y5, y6, y7, rfl, s5, g0, g1, g2, g3, ti⟩
        obtain ⟨b, hb, rfl⟩ : ∃ b, bs[i]? = some b ∧ v = .int (b : Int) := by
          rw [nms, List.getElem?_map] at hv
          cases z : bs[i]? with
          | none => rw [z] at hv; cases hv
          | some m => rw [z] at hv; exact ⟨m, rfl, (Option.some.inj hv).symm⟩
        have hbp : (c, b) ∈ ps := (hbs b).mp (List.mem_of_getElem? hb)
        have nbs : ∀ x ∈ nb, x < 6 := fun x hx => (hps _ ((hbs x).mp (List.mem_of_mem_take (ti.sub x hx)))).2
        have ndk : ((ws ++ nws cw nb).map (·.1)).Nodup := by
          rw [List.map_append, nws_keys]
          refine List.nodup_append.mpr ⟨inv.nd, ti.inc.imp (fun h => by omega), fun x hx y hy e => ?_⟩
          subst e
          exact ti.new x hy hx
        have lt6 : ∀ e ∈ ws ++ nws cw nb, e.1 < 6 := fun e he => by
          rcases List.mem_append.mp he with z | z
          · exact inv.lt e z
          · exact nbs _ (nws_mem.mp z).1
        have few := few6' ndk lt6
        have kl := g2.len
        refine ⟨_, rfl, _, rfl, D, _, rfl, DGet.k (k := Sum.inl (b : Int)) g1, _, rfl, ?_⟩
        by_cases hm : b ∈ (ws ++ nws cw nb).map (·.1)
        · obtain ⟨⟨b', u⟩, hu2, rfl⟩ := List.mem_map.mp hm
          obtain ⟨t, e3, _⟩ := g2.some ndk hu2
          rw [e3]
          exact iteF ⟨kvs, nb, _, _, _, rfl, s5, g0, g1, g2, g3, ti.old hb hm⟩
        · rw [g2.none hm]
          refine iteT ?_
          obtain ⟨t, e3, h3⟩ := g2.some ndk (List.mem_append_left _ cm)
          have gc := DGet.k (k := Sum.inl (c : Int)) g1
          rw [e3] at gc
          refine ⟨_, rfl, _, rfl, D, _, rfl, gc, t, _, rfl, .inl (SqT.of h3), _, rfl, ?_, fun t5 nt5 => ?_⟩
          · have := inv.len j _ hc
            exact Nat.le_of_lt (small1000 (by rw [List.length_append, nms_len]; simp only [List.length_singleton] at this ⊢; omega))
          have t5D : t5 ≠ D := (ne_of_none g1 nt5).symm
          have t5w : t5 ≠ wt := (ne_of_none g3 nt5).symm
          have t5p : t5 ≠ p2 := (ne_of_none g0 nt5).symm
          have nt5' : H t5 = none := s5.free nt5
          refine ⟨_, rfl, _, rfl, D, _, rfl, DPut.k (k := Sum.inl (b : Int)) (by rw [upd_ne t5D.symm]; exact g1) (small1000 (by omega)), ?_⟩
          rw [putK_new _ (g2.none hm)]
          have g3' : (upd (upd H5 t5 (.tup (nms cw ++ [.int (b : Int)]))) D (.dK (kvs ++ [(Sum.inl (b : Int), .ref t5)]))) wt = some (.lst (nms (((ws ++ nws cw nb).drop (j + 1)).map (·.1)))) := by
            rw [upd_ne wD, upd_ne t5w.symm]
            exact g3
          refine ⟨_, rfl, .inl ⟨rfl, _, SqL.of g3'⟩, _, rfl, wt, _, _, rfl, rfl, g3', small1000 (by rw [nms_len, List.length_map, List.length_drop]; omega), ?_⟩
          have eq1 : ws ++ nws cw (nb ++ [b]) = (ws ++ nws cw nb) ++ [(b, cw ++ [b])] := by
            unfold nws
            rw [List.map_append, List.append_assoc]
            rfl
          refine ⟨kvs ++ [(Sum.inl (b : Int), .ref t5)], nb ++ [b], _, _, _, rfl, same_mut (same_mut (s5.trans (same_new nt5)) nD) nwt0, ?_, ?_, ?_, ?_, ti.add bsl hb hm⟩
          · rw [upd_ne pw, upd_ne pD, upd_ne t5p.symm]
            exact g0
          · rw [upd_ne wD.symm]
            exact upd_same
          · rw [eq1]
            refine Ents.app (g2.mono fun t xs h => ?_) ⟨rfl, ⟨t5, rfl, ?_⟩, trivial⟩
            · rw [upd_ne (un h g3), upd_ne (ud h g1), upd_ne (ne_of_none h nt5)]
              exact h
            · rw [upd_ne t5w, upd_ne t5D, upd_same, nms_app]
              rfl
          · have eq2 : (ws ++ nws cw (nb ++ [b])).drop (j + 1) = (ws ++ nws cw nb).drop (j + 1) ++ [(b, cw ++ [b])] := by
              rw [eq1]
              exact List.drop_append_of_le_length (by rw [List.length_append]; omega)
            rw [upd_same, eq2, List.map_append, nms_app]
            rfl
      · rintro σ' H5 ⟨kvs, nb, y5, y6, y7, rfl, s5, g0, g1, g2, g3, ti⟩
        rw [nms_len] at ti
        exact ⟨kvs, _, _, _, _, _, rfl, s5, g1, g2, g3, inv.turn hc hbs hps ti⟩
    · have e1 : (!(nms ((ws.drop j).map (·.1))).isEmpty) = false := by
        rw [List.drop_eq_nil_of_le (by omega)]
        rfl
      rw [e1]
      refine iteF ⟨_, rfl, q D kvs ws H1 s1 nD hD en (inv.out (by omega))⟩
end
end CC
namespace CC
open PySem L2
abbrev sReached : Stmt := tp 27
theorem wk_of {ps : List (Nat × Nat)} {a b : Nat} (h : Rch ps a b) : ∃ w, Wk ps a b w := by
  induction h with
  | refl => exact ⟨_, .one⟩
  | step _ h ih =>
    obtain ⟨w, hw⟩ := ih
    exact ⟨_, hw.step h⟩
theorem rch_of {ps : List (Nat × Nat)} {a b : Nat} {w : List Nat} (h : Wk ps a b w) : Rch ps a b := by
  induction h with
  | one => exact .refl
  | step _ h ih => exact ih.step h
theorem FW.keys {ps : List (Nat × Nat)} {st : Nat} {ws : List (Nat × List Nat)} (h : FW ps st ws) (c : Nat) : c ∈ ws.map (·.1) ↔ Rch ps st c := by
  constructor
  · intro z
    obtain ⟨e, he, rfl⟩ := List.mem_map.mp z
    exact rch_of (h.wk e he)
  · intro z
    obtain ⟨w, hw⟩ := wk_of z
    obtain ⟨v, hv, _⟩ := h.fst c w hw
    exact List.mem_map.mpr ⟨_, hv, rfl⟩
def spReached (K : PySem.W.Frag) : Sp := fun vs H Q _ => ∃ (a : Addr) (us : List V) (ps : List (Nat × Nat)) (st : Nat), vs = [.ref a, .int (st : Int)] ∧ SqL K H a us ∧ DpAll K H us (ps.map prd) ∧ (∀ x ∈ ps, x.1 < 6 ∧ x.2 < 6) ∧ st < 6 ∧ ps.length ≤ 1000 ∧
  ∀ (p : Addr) (fs : List Nat) (H' : Hp), Same H H' → H p = none → H' p = some (.lst (nms fs)) → (∀ c, c ∈ fs ↔ Rch ps st c) → fs.Pairwise (· < ·) → Q (.ref p) H'
section
variable {P : Program} {w : World} {K : PySem.W.Frag} {mg : Str → Option Value} {base : Heap} {kA : Addr}
theorem scReached : FnScope ["pairs", "start"] ["pairs", "start"] (defScope sReached) := ⟨rfl, rfl, rfl, by decide +kernel, rfl, by decide +kernel, by decide +kernel⟩
theorem ok_reached {f : Addr} {fd : FuncData} {k : Nat} (F : Fun K "reached" "reached" sReached f fd) (T : Glb K mg kA) (cF : Cal P w K mg base "first_ways" ["pairs", "start"] (spFw K) 1) : FnOk P w K mg base CX0 (k + 2) f fd ["pairs", "start"] (spReached K) := by
  have GF := cF.ok (k + 1) (by omega)
  refine F.ok scReached (fun vs H Q E h => ?_) (fun cdv A outer s H vs Q E hr h => ?_)
  · obtain ⟨a, us, ps, st, rfl, _⟩ := h
    rfl
  · obtain ⟨a, us, ps, st, rfl, ha, dp, hps, hst, hpl, q⟩ := h
    refine ⟨_, pss_one (ps_ret (pe_callB cr_sortedI (by rfl) T.srt (by decide +kernel) (pa_cons (pe_callTy (call_listD rfl) (by rfl) T.lst (by decide +kernel) (pa_cons (pe_call GF hr rfl cF.g cF.kp cF.b .nil pass0 (pa_cons (pv 0) (pa_cons (pv 1) pa_nil))) pa_nil)) pa_nil))), ?_⟩
    refine ⟨_, rfl, _, rfl, a, us, ps, st, rfl, ha, dp, hps, hst, hpl, fun D kvs ws H1 s1 nD hD en fw => ?_⟩
    refine ⟨D, kvs, rfl, .inl hD, fun p np => ?_⟩
    rw [en.keys, nms_ints]
    have s2 : Same H1 (upd H1 p (.lst (((ws.map (·.1)).map fun (n : Nat) => (n : Int)).map V.int))) := same_new np
    have h2 : (upd H1 p (.lst (((ws.map (·.1)).map fun (n : Nat) => (n : Int)).map V.int))) p = some (.lst (((ws.map (·.1)).map fun (n : Nat) => (n : Int)).map V.int)) := upd_same
    generalize upd H1 p (.lst (((ws.map (·.1)).map fun (n : Nat) => (n : Int)).map V.int)) = H2 at s2 h2
    refine ⟨p, _, rfl, SqL.of h2, fun ns' p2 pm st2 n2 => ?_⟩
    obtain ⟨ms, rfl, pm2⟩ := nats_of pm
    rw [← nms_ints]
    refine q p2 ms _ ((s1.trans s2).trans (same_new n2)) ((s1.trans s2).free n2) upd_same (fun c => ?_) ?_
    · rw [pm2.mem_iff]
      exact fw.keys c
    · have nd : ms.Nodup := pm2.nodup_iff.mpr fw.nd
      have le : ms.Pairwise (· ≤ ·) := by
        rw [List.pairwise_map] at st2
        exact st2.imp fun h => by omega
      exact (le.and nd).imp fun h => by omega
end
end CC
namespace CC
open PySem L2
/-! ### what follows -/
inductive RT (S : Nat → Nat → Prop) (a : Nat) : Nat → Prop
  | refl : RT S a a
  | step {b c : Nat} : RT S a b → S b c → RT S a c
theorem rch_rt {ps : List (Nat × Nat)} {S : Nat → Nat → Prop} (h : ∀ x y, (x, y) ∈ ps ↔ S x y) {a b : Nat} : Rch ps a b ↔ RT S a b := by
  constructor
  · intro r
    induction r with
    | refl => exact .refl
    | step _ q ih => exact ih.step ((h _ _).mp q)
  · intro r
    induction r with
    | refl => exact .refl
    | step _ q ih => exact ih.step ((h _ _).mpr q)
theorem RT.trans {S : Nat → Nat → Prop} {a b c : Nat} (h1 : RT S a b) (h2 : RT S b c) : RT S a c := by
  induction h2 with
  | refl => exact h1
  | step _ h ih => exact ih.step h
/-- a given rule, or one that can be turned round -/
def Lk (rs : List R) (k : Bool) (x y : Nat) : Prop := (⟨k, x, y⟩ : R) ∈ rs ∨ ((⟨k, y, x⟩ : R) ∈ rs ∧ Rch (rs.map down) x y ∧ Rch (rs.map down) y x)
def Fol (rs : List R) (r : R) : Prop := RT (Lk rs r.k) r.a r.b
def lsd (fs : List Nat) : PyData := .list (fs.map fun (n : Nat) => PyData.int (n : Int))
theorem lsd_at {K : PySem.W.Frag} {H : Hp} {v : V} {fs : List Nat} (h : Dp K H v (lsd fs)) : ∃ p, v = .ref p ∧ SqL K H p (nms fs) := by
  obtain ⟨p, us, rfl, h1, h2⟩ := dp_l h
  rw [nms_dps h2] at h1
  exact ⟨p, rfl, h1⟩
abbrev sLinks : Stmt := tp 28
abbrev sFollows : Stmt := tp 29
abbrev sCall : Stmt := inClass (tp 33) 7
def spLinks (K : PySem.W.Frag) : Sp := fun vs H Q _ => ∃ (w : Nat) (g : Addr) (us : List V) (rs : List R) (k : Bool), vs = [.int (w : Int), .ref g, .str (kd k)] ∧ SqT K H g us ∧ DpAll K H us (rs.map R.d) ∧ (∀ r ∈ rs, r.ok w) ∧ w ≤ 6 ∧ rs.length ≤ 60 ∧
  ∀ (p : Addr) (us' : List V) (ps : List (Nat × Nat)) (H' : Hp), Same H H' → H p = none → H' p = some (.lst us') → DpAll K (wo H' p) us' (ps.map prd) → (∀ x y, (x, y) ∈ ps ↔ Lk rs k x y) → ps.length ≤ 120 → Q (.ref p) H'
theorem kd_ne (j k : Bool) : decide (V.str (kd j) = V.str (kd k)) = decide (j = k) := by
  cases j <;> cases k <;> decide +kernel
def pk (rs : List R) (k : Bool) : List (Nat × Nat) := (rs.filter fun r => decide (r.k = k)).map fun r => (r.a, r.b)
theorem pk_mem {rs : List R} {k : Bool} {x y : Nat} : (x, y) ∈ pk rs k ↔ (⟨k, x, y⟩ : R) ∈ rs := by
  simp only [pk, List.mem_map, List.mem_filter, decide_eq_true_eq, Prod.mk.injEq]
  constructor
  · rintro ⟨r, ⟨h1, rfl⟩, rfl, rfl⟩
    exact h1
  · intro h
    exact ⟨_, ⟨h, rfl⟩, rfl, rfl⟩
theorem pk_step {rs : List R} {k : Bool} {i : Nat} {r : R} (h : rs[i]? = some r) : pk (rs.take (i + 1)) k = pk (rs.take i) k ++ (if r.k = k then [(r.a, r.b)] else []) := by
  rw [SG.take_one h, pk, List.filter_append, List.map_append]
  by_cases e : r.k = k
  · simp [pk, e]
  · simp [pk, e]
/-- those of the pairs that are turned, by the lists of what lies below -/
def trn (fss : List (List Nat)) (ps : List (Nat × Nat)) : List (Nat × Nat) := (ps.filter fun p => decide (p.1 ∈ fss.getD p.2 []) && decide (p.2 ∈ fss.getD p.1 [])).map fun p => (p.2, p.1)
theorem trn_step {fss : List (List Nat)} {ps : List (Nat × Nat)} {i : Nat} {p : Nat × Nat} (h : ps[i]? = some p) : trn fss (ps.take (i + 1)) = trn fss (ps.take i) ++ (if (decide (p.1 ∈ fss.getD p.2 []) && decide (p.2 ∈ fss.getD p.1 [])) = true then [(p.2, p.1)] else []) := by
  rw [SG.take_one h, trn, List.filter_append, List.map_append]
  by_cases e : (decide (p.1 ∈ fss.getD p.2 []) && decide (p.2 ∈ fss.getD p.1 [])) = true
  · rw [if_pos e]
    simp only [trn, List.filter_cons, e, if_true, List.filter_nil, List.map_cons, List.map_nil]
  · rw [if_neg e]
    simp only [trn, List.filter_cons, e, if_false, List.filter_nil, List.map_nil]
    rfl
theorem down_lt {rs : List R} {w : Nat} (h : ∀ r ∈ rs, r.ok w) : ∀ x ∈ rs.map down, x.1 < w ∧ x.2 < w := fun x hx => by
  obtain ⟨r, hr, rfl⟩ := List.mem_map.mp hx
  have := h r hr
  unfold down
  cases r.k
  · exact ⟨this.2.1, this.1⟩
  · exact ⟨this.1, this.2.1⟩
theorem getD_left {α : Type} {l r : List α} {i : Nat} {d : α} (h : i < l.length) : (l ++ r).getD i d = l.getD i d := by
  simp [List.getD, List.getElem?_append_left h]
theorem getD_last {α : Type} {l : List α} {x d : α} : (l ++ [x]).getD l.length d = x := by
  simp [List.getD]
section
variable {P : Program} {w : World} {K : PySem.W.Frag} {mg : Str → Option Value} {base : Heap} {kA : Addr}
abbrev nLk : List Str := ["width", "rules", "kind", "steps", "below", "pairs", "turned", "column", "word", "a", "b"]
theorem scLinks : FnScope nLk ["width", "rules", "kind"] (defScope sLinks) := ⟨rfl, rfl, rfl, by decide +kernel, rfl, by decide +kernel, by decide +kernel⟩
theorem ok_links {f : Addr} {fd : FuncData} {k : Nat} (F : Fun K "links" "links" sLinks f fd) (T : Glb K mg kA) (cD : Cal P w K mg base "steps_down" ["rules"] (spDown K) 1)
 (cR : Cal P w K mg base "reached" ["pairs", "start"] (spReached K) 2) : FnOk P w K mg base CX0 (k + 3) f fd ["width", "rules", "kind"] (spLinks K) := by
  have GD := cD.ok (k + 2) (by omega)
  have GR := cR.ok (k + 2) (by omega)
  refine F.ok scLinks (fun vs H Q E h => ?_) (fun cdv A outer s H vs Q E hr h => ?_)
  · obtain ⟨w, g, us, rs, k, rfl, _⟩ := h
    rfl
  · obtain ⟨w, g, us, rs, kk, rfl, hg, dp, ho, hw, hl, q⟩ := h
    have n := scLinks.nd
    refine ⟨_, pss_cons (ps_set (i := 3) n rfl (.inr rfl) (pe_call GD hr rfl cD.g cD.kp cD.b .nil pass0 (pa_cons (pv 1) pa_nil)))
      (pss_cons (ps_set (i := 4) n rfl (.inr rfl) (pe_lc (own := [("column", 7)]) (g := gName 7) (tt := tYes) rfl n (pi_range1 (by rfl) T.rng (pa_cons (pv 0) pa_nil)) (blkOk_by (N := nLk) (sc := defScope sLinks) (by decide +kernel))
          (fun _ _ _ _ _ => pg_name (i := 7) n rfl (.inl rfl)) (fun _ _ _ _ _ => pts_nil) (fun _ _ _ _ _ => pe_call GR hr rfl cR.g cR.kp cR.b .nil pass0 (pa_cons (pv 3) (pa_cons (pv 7) pa_nil)))))
      (pss_cons (ps_setLc (i := 5) (own := [("word", 8), ("a", 9), ("b", 10)]) (g := g3 K 8 9 10) (tt := tTest (tOp rEq (tVar 8) (tVar 2))) rfl n rfl rfl (sw_true rfl rfl rfl (by decide +kernel)) (pi_tup (pv 1)) (blkOk_by (N := nLk) (sc := defScope sLinks) (by decide +kernel))
          (fun _ _ _ _ _ => pg_tup rfl (pgs_cons (pg_name (i := 8) n rfl (.inl rfl)) (pgs_cons (pg_name (i := 9) n rfl (.inl rfl)) (pgs_cons (pg_name (i := 10) n rfl (.inl rfl)) pgs_nil))))
          (fun _ _ _ _ _ => pts_one (pt_cmpR op_eq (pv 8) (pv 2) (nomark _))) (fun _ _ _ _ _ => pe_tup (pa_cons (pv 9) (pa_cons (pv 10) pa_nil))))
      (pss_cons (ps_setLc (i := 6) (own := [("a", 9), ("b", 10)]) (g := g2 K 9 10) (tt := tAnd (tTest (tOp (rIn K false) (tVar 9) (tOp (rIxL K) (tVar 4) (tVar 10)))) (tTest (tOp (rIn K false) (tVar 10) (tOp (rIxL K) (tVar 4) (tVar 9))))) rfl n rfl rfl (sw_true rfl rfl rfl (by decide +kernel)) (pi_list (pv 5)) (blkOk_by (N := nLk) (sc := defScope sLinks) (by decide +kernel))
          (fun _ _ _ _ _ => pg_tup rfl (pgs_cons (pg_name (i := 9) n rfl (.inl rfl)) (pgs_cons (pg_name (i := 10) n rfl (.inl rfl)) pgs_nil)))
          (fun _ _ _ _ _ => pts_one (PW.pt (pw_and (pt_cmpR op_in_seq (pv 9) (pe_ix ix_list (pv 4) (pv 10) (fun _ _ => rfl)) (by rfl)) (pw_and1 (pt_cmpR op_in_seq (pv 10) (pe_ix ix_list (pv 4) (pv 9) (fun _ _ => rfl)) (by rfl))))))
          (fun _ _ _ _ _ => pe_tup (pa_cons (pv 10) (pa_cons (pv 9) pa_nil))))
      (pss_one (ps_ret (pe_op op_cat (pv 5) (pv 6))))))), ?_⟩
    have ul : us.length = rs.length := by rw [dps_len dp, List.length_map]
    -- steps
    refine ⟨_, rfl, g, us, rs, rfl, hg, dp, hl, fun sa su H1 s1 nsa hsa dsa => ?_⟩
    have dsa1 : DpAll K H1 su ((rs.map down).map prd) := dps_same (wo_le sa) _ _ dsa
    have dlt := down_lt ho
    have dl6 : ∀ x ∈ rs.map down, x.1 < 6 ∧ x.2 < 6 := fun x hx => ⟨Nat.lt_of_lt_of_le (dlt x hx).1 hw, Nat.lt_of_lt_of_le (dlt x hx).2 hw⟩
    -- below
    refine ⟨_, rfl, _, rfl, by omega, by omega, fun B nB => ?_⟩
    refine lc_range (lo := 0) (n := ((w : Nat) : Int).toNat) (fun i H2 => ∃ fss : List (List Nat), MadeF lsd K H1 B i H2 fss ∧ fss.length = i ∧ ∀ c, c < i → ∀ x, x ∈ fss.getD c [] ↔ Rch (rs.map down) c x) ⟨[], MadeF.start, rfl, fun c hc => absurd hc (Nat.not_lt_zero _)⟩ ?_ ?_
    · rintro i H2 hi ⟨fss, p, fl, ff⟩
      have iw : i < w := by omega
      have o2 := p.old nB
      refine ⟨rfl, yes_if ?_⟩
      refine ⟨_, rfl, _, rfl, sa, su, rs.map down, i, by rw [Int.zero_add]; rfl, SqL.of (o2 _ _ hsa), dps_same o2 _ _ dsa1, dl6, by omega, by rw [List.length_map]; omega, fun pr fs H3 s3 npr hpr hfs _ => ?_⟩
      obtain ⟨us2, _, pB, _⟩ := id p
      have prB : pr ≠ B := (ne_of_none pB npr).symm
      obtain ⟨acc, a1, a2, a3⟩ := p.push (r := fs) (y := .ref pr) (m := i + 1) (by omega) (Nat.lt_succ_self _) s3 (.lst (.inl (.inl (by rw [wo_ne prB]; exact hpr))) (dps_nms fs))
      refine ⟨acc, a1, a2, fss ++ [fs], a3, by rw [List.length_append, fl]; rfl, fun c hc x => ?_⟩
      by_cases e : c < i
      · rw [getD_left (by omega)]
        exact ff c e x
      · have : c = i := by omega
        subst this
        rw [← fl, getD_last]
        rw [fl]
        exact hfs x
    rintro H2 ⟨fss, pB, fl, ff⟩
    have ew : ((w : Nat) : Int).toNat = w := by omega
    rw [ew] at fl ff pB
    have o2 := pB.old nB
    obtain ⟨bu, _, hB, dB, _⟩ := pB
    have dB2 : DpAll K H2 bu (fss.map lsd) := dps_same (wo_le B) _ _ dB
    have s2 : Same H H2 := s1.trans o2
    -- pairs
    refine ⟨_, rfl, g, rfl, ⟨_, same_t s2 hg⟩, fun D3 n3 => ?_⟩
    refine lc_tup (xs := us) (fun i H3 => MadeF prd K H2 D3 i H3 (pk (rs.take i) kk)) MadeF.start (fun i H3 _ z => same_t (s2.trans (z.old n3)) hg) ?_ ?_
    · intro i v H3 hv p
      obtain ⟨r, hr2, dr⟩ := dps_rat dp hv
      have il : i < rs.length := (List.getElem?_eq_some_iff.mp hr2).1
      obtain ⟨t, rfl, ht⟩ := dp_r (dp_same (s2.trans (p.old n3)) _ _ dr)
      refine ⟨t, _, rfl, ht, rfl, _, _, rfl, _, _, rfl, _, _, rfl, rfl, rfl, ?_⟩
      refine ⟨_, rfl, _, rfl, rfl, _, rfl, ?_⟩
      rw [show decide (V.str (kd r.k) = V.str (kd kk)) = decide (r.k = kk) from kd_ne _ _, pk_step hr2]
      by_cases e : r.k = kk
      · rw [decide_eq_true e, if_pos e]
        refine iteT ⟨_, rfl, _, rfl, (by show 2 ≤ sizeLine; decide), fun t2 n2 => ?_⟩
        exact p.push (r := (r.a, r.b)) (by omega) (Nat.lt_succ_self _) (same_new n2) (p_dp (p.tup n2))
      · rw [decide_eq_false e, if_neg e]
        exact iteF (p.up (by omega) (by simp))
    intro H3 p3
    rw [ul, List.take_length] at p3
    have o3 := p3.old n3
    obtain ⟨pu, _, hP, dP, _⟩ := p3
    have dP3 : DpAll K H3 pu ((pk rs kk).map prd) := dps_same (wo_le D3) _ _ dP
    have pl : pu.length = (pk rs kk).length := by rw [dps_len dP3, List.length_map]
    have pkl : (pk rs kk).length ≤ 60 := by
      unfold pk
      rw [List.length_map]
      exact Nat.le_trans (List.length_filter_le _ _) hl
    -- turned
    refine ⟨_, rfl, D3, rfl, ⟨_, SqL.of hP⟩, fun D4 n4 => ?_⟩
    refine lc_list (xs := pu) (fun i H4 => MadeF prd K H3 D4 i H4 (trn fss ((pk rs kk).take i))) MadeF.start (fun i H4 _ z => SqL.of (z.old n4 _ _ hP)) ?_ ?_
    · intro i v H4 hv p
      obtain ⟨⟨x, y⟩, hxy, dv⟩ := dps_pat dP3 hv
      have il : i < (pk rs kk).length := (List.getElem?_eq_some_iff.mp hxy).1
      have o4 := p.old n4
      obtain ⟨t, rfl, ht⟩ := dp_p (dp_same o4 _ _ dv)
      have hm := ho _ (pk_mem.mp (List.mem_of_getElem? hxy))
      have get : ∀ c, c < w → ∃ pc, bu[c]? = some (.ref pc) ∧ SqL K H4 pc (nms (fss.getD c [])) := fun c hc => by
        have hc2 : c < fss.length := by omega
        have e1 : (fss.map lsd)[c]? = some (lsd (fss.getD c [])) := by
          rw [List.getElem?_map, List.getElem?_eq_getElem hc2]
          simp [List.getD, List.getElem?_eq_getElem hc2]
        obtain ⟨u, u1, u2⟩ := dps_to dB2 e1
        obtain ⟨pc, rfl, hpc⟩ := lsd_at (dp_same (o3.trans o4) _ _ u2)
        exact ⟨pc, u1, hpc⟩
      obtain ⟨p1, b1, l1⟩ := get y hm.2.1
      obtain ⟨p2, b2, l2⟩ := get x hm.1
      have hB4 : SqL K H4 B bu := SqL.of (o4 _ _ (o3 _ _ hB))
      refine ⟨t, _, rfl, ht, rfl, _, _, rfl, _, _, rfl, rfl, rfl, ?_⟩
      refine ⟨_, rfl, _, rfl, _, rfl, B, bu, _, _, rfl, rfl, hB4, atI_nat b1, p1, _, rfl, .inl l1, rfl, nms_flat _, _, rfl, ?_⟩
      rw [show inV (V.int (x : Int)) (nms (fss.getD y [])) = decide (x ∈ fss.getD y []) from nms_in _ _]
      have stp : trn fss ((pk rs kk).take (i + 1)) = trn fss ((pk rs kk).take i) ++ (if (decide (x ∈ fss.getD y []) && decide (y ∈ fss.getD x [])) = true then [(y, x)] else []) := trn_step hxy
      by_cases e : x ∈ fss.getD y []
      · rw [decide_eq_true e]
        refine iteT ⟨_, rfl, _, rfl, _, rfl, B, bu, _, _, rfl, rfl, hB4, atI_nat b2, p2, _, rfl, .inl l2, rfl, nms_flat _, _, rfl, ?_⟩
        rw [show inV (V.int (y : Int)) (nms (fss.getD x [])) = decide (y ∈ fss.getD x []) from nms_in _ _]
        by_cases e2 : y ∈ fss.getD x []
        · rw [decide_eq_true e2]
          rw [if_pos (by rw [decide_eq_true e, decide_eq_true e2]; rfl)] at stp
          rw [stp]
          refine iteT ⟨_, rfl, _, rfl, (by show 2 ≤ sizeLine; decide), fun t2 n2 => ?_⟩
          exact p.push (r := (y, x)) (by omega) (Nat.lt_succ_self _) (same_new n2) (p_dp (p.tup n2))
        · rw [decide_eq_false e2]
          rw [if_neg (by rw [decide_eq_false e2, Bool.and_false]; exact Bool.false_ne_true)] at stp
          rw [stp]
          exact iteF (p.up (by omega) (by simp))
      · rw [decide_eq_false e]
        rw [if_neg (by rw [decide_eq_false e]; exact Bool.false_ne_true)] at stp
        rw [stp]
        refine iteF ?_
        exact iteF (p.up (by omega) (by simp))
    intro H4 p4
    rw [pl, List.take_length] at p4
    have o4 := p4.old n4
    obtain ⟨tu, _, hT, dT, _⟩ := p4
    have trl : (trn fss (pk rs kk)).length ≤ 60 := by
      unfold trn
      rw [List.length_map]
      exact Nat.le_trans (List.length_filter_le _ _) pkl
    have tul : tu.length = (trn fss (pk rs kk)).length := by rw [dps_len dT, List.length_map]
    refine ⟨_, rfl, _, rfl, D3, D4, pu, tu, rfl, rfl, o4 _ _ hP, hT, Nat.le_of_lt (small1000 (by omega)), fun p5 n5 => ?_⟩
    have m5 : Same H4 (upd H4 p5 (.lst (pu ++ tu))) := same_new n5
    have toV : Same H4 (wo (upd H4 p5 (.lst (pu ++ tu))) p5) := fun b o e => by
      rw [wo_ne (ne_of_none e n5)]
      exact m5 _ _ e
    have sH : Same H H4 := s2.trans (o3.trans o4)
    refine q p5 (pu ++ tu) (pk rs kk ++ trn fss (pk rs kk)) _ (sH.trans m5) (sH.free n5) upd_same ?_ (fun x y => ?_) (by rw [List.length_append]; omega)
    · rw [List.map_append]
      exact dps_app (dps_same (o4.trans toV) _ _ dP3) (dps_same ((wo_le D4).trans toV) _ _ dT)
    · rw [List.mem_append, pk_mem]
      unfold Lk
      refine or_congr Iff.rfl ?_
      simp only [trn, List.mem_map, List.mem_filter, Bool.and_eq_true, decide_eq_true_eq, Prod.mk.injEq]
      constructor
      · rintro ⟨⟨a, b⟩, ⟨h1, h2, h3⟩, rfl, rfl⟩
        have hm := ho _ (pk_mem.mp h1)
        exact ⟨pk_mem.mp h1, (ff _ hm.2.1 _).mp h2, (ff _ hm.1 _).mp h3⟩
      · rintro ⟨h1, h2, h3⟩
        have hm := ho _ h1
        exact ⟨(y, x), ⟨pk_mem.mpr h1, (ff _ hm.2.1 _).mpr h2, (ff _ hm.1 _).mpr h3⟩, rfl, rfl⟩
end
end CC
namespace CC
open PySem L2
def spFollows (K : PySem.W.Frag) : Sp := fun vs H Q _ => ∃ (w : Nat) (g : Addr) (us : List V) (rs : List R) (v : V) (r : R), vs = [.int (w : Int), .ref g, v] ∧ SqT K H g us ∧ DpAll K H us (rs.map R.d) ∧ (∀ r ∈ rs, r.ok w) ∧ w ≤ 6 ∧ rs.length ≤ 60 ∧ Dp K H v r.d ∧ r.ok w ∧
  ∀ (b : Bool) (H' : Hp), Same H H' → (b = true ↔ Fol rs r) → Q (.bl b) H'
def spCall (K : PySem.W.Frag) (C : Addr) : Sp := fun vs H Q _ => ∃ (x : Addr) (w : Nat) (rs : List R) (v : V) (r : R), vs = [.ref x, v] ∧ RulesAt K C H x w rs ∧ (∀ r ∈ rs, r.ok w) ∧ w ≤ 6 ∧ rs.length ≤ 60 ∧ Dp K H v r.d ∧ r.ok w ∧
  ∀ (b : Bool) (H' : Hp), Same H H' → (b = true ↔ Fol rs r) → Q (.bl b) H'
theorem lk_lt {rs : List R} {w : Nat} (ho : ∀ r ∈ rs, r.ok w) {k : Bool} {x y : Nat} (h : Lk rs k x y) : x < w ∧ y < w := by
  rcases h with h | ⟨h, _⟩
  · exact ⟨(ho _ h).1, (ho _ h).2.1⟩
  · exact ⟨(ho _ h).2.1, (ho _ h).1⟩
/-- rules(rule) -/
structure CallC (P : Program) (w : World) (K : PySem.W.Frag) (mg : Str → Option Value) (base : Heap) (C : Addr) (l : Nat) where
  fC : Addr
  cC : StX.CallO K C fC
  ok : ∀ k, l ≤ k → FnR P w K mg base CX0 k fC (spCall K C)
section
variable {P : Program} {w : World} {K : PySem.W.Frag} {mg : Str → Option Value} {base : Heap} {kA : Addr}
abbrev nFo : List Str := ["width", "rules", "rule", "kind", "first", "second"]
theorem scFollows : FnScope nFo ["width", "rules", "rule"] (defScope sFollows) := ⟨rfl, rfl, rfl, by decide +kernel, rfl, by decide +kernel, by decide +kernel⟩
theorem ok_follows {f : Addr} {fd : FuncData} {k : Nat} (F : Fun K "follows" "follows" sFollows f fd) (T : Glb K mg kA) (cL : Cal P w K mg base "links" ["width", "rules", "kind"] (spLinks K) 3)
 (cR : Cal P w K mg base "reached" ["pairs", "start"] (spReached K) 2) :
    FnOk P w K mg base CX0 (k + 4) f fd ["width", "rules", "rule"] (spFollows K) := by
  have GL := cL.ok (k + 3) (by omega)
  have GR := cR.ok (k + 3) (by omega)
  refine F.ok scFollows (fun vs H Q E h => ?_) (fun cdv A outer s H vs Q E hr h => ?_)
  · obtain ⟨w, g, us, rs, v, r, rfl, _⟩ := h
    rfl
  · obtain ⟨w, g, us, rs, v, r, rfl, hg, dp, ho, hw, hl, dv, hr2, q⟩ := h
    have n := scFollows.nd
    obtain ⟨t, rfl, ht⟩ := dp_r dv
    refine ⟨_, pss_cons (ps_asg (pv 2) (pg_tup rfl (pgs_cons (pg_name (i := 3) n rfl (.inl rfl)) (pgs_cons (pg_name (i := 4) n rfl (.inl rfl)) (pgs_cons (pg_name (i := 5) n rfl (.inl rfl)) pgs_nil)))))
      (pss_one (ps_ret (pe_cmpR op_in_seq (pv 5) (pe_call GR hr rfl cR.g cR.kp cR.b .nil pass0 (pa_cons (pe_call GL hr rfl cL.g cL.kp cL.b .nil pass0 (pa_cons (pv 0) (pa_cons (pv 1) (pa_cons (pv 3) pa_nil)))) (pa_cons (pv 4) pa_nil))) (by rfl)))), ?_⟩
    refine ⟨_, rfl, t, _, rfl, ht, rfl, _, _, rfl, _, _, rfl, _, _, rfl, rfl, ?_⟩
    refine ⟨_, rfl, _, rfl, _, rfl, _, rfl, w, g, us, rs, r.k, rfl, hg, dp, ho, hw, hl, fun p us' ps H1 s1 np hp dps hps pl => ?_⟩
    refine ⟨_, rfl, p, us', ps, r.a, rfl, SqL.of hp, dps_same (wo_le p) _ _ dps, fun x hx => ?_, Nat.lt_of_lt_of_le hr2.1 hw, by omega, fun p2 fs H2 s2 np2 hp2 hfs _ => ?_⟩
    · obtain ⟨x1, x2⟩ := x
      have := lk_lt ho ((hps x1 x2).mp hx)
      exact ⟨Nat.lt_of_lt_of_le this.1 hw, Nat.lt_of_lt_of_le this.2 hw⟩
    · refine ⟨p2, _, rfl, .inl (SqL.of hp2), rfl, nms_flat _, ?_⟩
      show Q (.bl (inV (V.int (r.b : Int)) (nms fs))) H2
      rw [nms_in]
      refine q _ H2 (s1.trans s2) ?_
      rw [decide_eq_true_eq, hfs]
      exact rch_rt hps
abbrev nCa : List Str := ["self", "rule"]
theorem scCall : FnScope nCa ["self", "rule"] (defScope sCall) := ⟨rfl, rfl, rfl, by decide +kernel, rfl, by decide +kernel, by decide +kernel⟩
theorem ok_call {f C : Addr} {fd : FuncData} {k : Nat} (F : Fun K "__call__" "Rules.__call__" sCall f fd) (T : Glb K mg kA) (TC : Txt1 K mg C) (cF : Cal P w K mg base "follows" ["width", "rules", "rule"] (spFollows K) 4)
 (cU : Cal P w K mg base "is_rule" ["width", "thing"] (spIsRule K) 3) :
    FnOk P w K mg base CX0 (k + 5) f fd ["self", "rule"] (spCall K C) := by
  have GF := cF.ok (k + 4) (by omega)
  have GU := cU.ok (k + 4) (by omega)
  refine F.ok scCall (fun vs H Q E h => ?_) (fun cdv A outer s H vs Q E hr h => ?_)
  · obtain ⟨x, w, rs, v, r, rfl, _⟩ := h
    rfl
  · obtain ⟨x, w, rs, v, r, rfl, ⟨dx, g, us, h1, h2, h3⟩, ho, hw, hl, dv, hr2, q⟩ := h
    refine ⟨_, pss_cons (ps_if (pt_not (pt_val (pe_call GU hr rfl cU.g cU.kp cU.b .nil pass0 (pa_cons (pe_fld (pv 0) rfl) (pa_cons (pv 1) pa_nil))))) (pss_one ps_never) pss_nil)
      (pss_one (ps_ret (pe_call GF hr rfl cF.g cF.kp cF.b .nil pass0 (pa_cons (pe_fld (pv 0) rfl) (pa_cons (pe_fld (pv 0) rfl) (pa_cons (pv 1) pa_nil)))))), ?_⟩
    refine ⟨_, rfl, x, C, dx, _, _, rfl, h1, TC.cl, TC.nS, flds_span _ _, _, rfl, w, v, r, rfl, dv, hr2, _, rfl, iteF ?_⟩
    refine ⟨_, rfl, x, C, dx, _, _, rfl, h1, TC.cl, TC.nS, flds_span _ _, _, rfl, x, C, dx, _, _, rfl, h1, TC.cl, TC.nG, flds_given _ _, _, rfl, ?_⟩
    exact ⟨w, g, us, rs, v, r, rfl, .inl (.inl h2), h3, ho, hw, hl, dv, hr2, q⟩
end
end CC
namespace CC
open PySem L2
theorem ra_ins {K : PySem.W.Frag} {C : Addr} {H : Hp} {x : Addr} {w : Nat} {rs : List R} (h : RulesAt K C H x w rs) : ∃ dx fs, H x = some (.ins C dx fs) := by
  obtain ⟨dx, g, us, h1, _⟩ := h
  exact ⟨dx, _, h1⟩
def rNotBl : R2 := fun x y H Q => ∃ a b, x = .bl a ∧ y = .bl b ∧ Q (.bl (!decide (a = b))) H
theorem op_notBl {X : Cx} : OpR X (compareOp .IsNot) rNotBl := op_isnot_bl
def tCallO2 (C : Addr) (sp : Sp) (E : XK) (tf : TE) (t : TA) : TE := fun σ H Q => tf σ H fun y H1 => ∃ a, y = V.ref a ∧ t σ H1 fun vs H2 => ((∃ dx vs, SlX.Slt H2 a C dx vs) ∨ ∃ dx fs, H2 a = some (.ins C dx fs)) ∧ sp (V.ref a :: vs) H2 Q E
theorem pe_callO2 {X : Cx} {CX : CXT} {k : Nat} {C g : Addr} {sp : Sp} {E : XK} {e fe : Expr} {es : List Expr} {tf : TE} {t : TA} {pos : Pos} (hf : PE X fe tf) (c : StX.CallO X.K C g) (F : FnR X.prog X.w X.K X.mg X.base CX k g sp) (hr : Room k X.A) (hx : Passes CX X E) (ha : PA X (e :: es) t)
    (ht : eval (.Call fe (e :: es) [] pos) X.env = (do callWith pos (← eval fe X.env) [] (backTo pos (starEach (e :: es) X.env)) (backToKw pos (keywordEach [] X.env))) := by rfl)
    (he : starEach (e :: es) X.env = (false, eval e X.env) :: starEach es X.env := by rfl) (hpl : (backTo pos (starEach es X.env)).any (·.1) = false := by rfl) : PE X (.Call fe (e :: es) [] pos) (tCallO2 C sp E tf t) :=
  StX.pe_callO hf c F hr hx ha ht he hpl
end CC
namespace CC
open PySem L2 TL
abbrev sGr : Stmt := tp 53
def spGr : Sp := fun vs H Q _ => vs = [] ∧ ∀ H', Same H H' → Q (.bl true) H'
theorem fldT_ob (w : Nat) (g : Addr) : (fldT w g).lookup ("obeyed" : Str) = none := by
  unfold fldT flT0
  rw [lookup_putF, if_neg (by decide +kernel), lookup_putF, if_neg (by decide +kernel)]
  rfl
theorem flds_tx (w : Nat) (g : Addr) : (flds w g).lookup ("text" : Str) = none := by
  unfold flds fl0
  rw [lookup_putF, if_neg (by decide +kernel), lookup_putF, if_neg (by decide +kernel)]
  rfl
section
variable {P : Program} {w : World} {K : PySem.W.Frag} {mg : Str → Option Value} {base : Heap} {kA : Addr}
abbrev nGr : List Str := ["_law_lines_here", "_law_words", "_law_last", "_law_due", "_law_table", "_law_at"]
theorem scGr : FnScope nGr [] (defScope sGr) := ⟨rfl, rfl, rfl, by decide +kernel, rfl, by decide +kernel, by decide +kernel⟩
theorem ok_gr {k : Nat} {C CT f : Addr} {fd : FuncData} (F : Fun K "_law_are_great_ones_right" "_law_are_great_ones_right" sGr f fd) (T : Glb K mg kA) (TC : Txt1 K mg C) (TCT : TxtT K mg CT) (rd : ReadT P w K mg base CT 5) (ob : ObeyT P w K mg base C CT 6) (tx : TxtR P w K mg base C 2) (ln : LenT P w K mg base CT (spTLen K CT) 1) (clT : CallT P w K mg base CT 4)
    (cX : Cal P w K mg base "_law_text" ["_law_lines_here"] (spTTx K) 1) : FnOk P w K mg base CX0 (k + 7) f fd [] spGr := by
  have GR := rd.ok (k + 6) (by omega)
  have GO := ob.ok (k + 6) (by omega)
  have GX := tx.ok (k + 6) (by omega)
  have GLn := ln.ok (k + 5) (by omega)
  have GC := clT.ok (k + 6) (by omega)
  have GXt := cX.ok (k + 6) (by omega)
  refine F.ok scGr (fun vs H Q E h => ?_) (fun cdv A outer sh H vs Q E hr h => ?_)
  · obtain ⟨rfl, _⟩ := h
    rfl
  · obtain ⟨rfl, q⟩ := h
    have n := scGr.nd
    refine ⟨_, (pss_cons (ps_setLc (i := 0) (own := [("_law_at", 5)]) (g := gName 5) (tt := tYes) rfl n rfl rfl (sw_true rfl rfl rfl (by decide +kernel)) (pi_range1 (by rfl) T.rng (pa_cons pe_int pa_nil)) (blkOk_by (N := nGr) (sc := defScope sGr) (by decide +kernel))
        (fun _ _ _ _ _ => (pg_name (i := 5) n rfl (.inl rfl))) (fun _ _ _ _ _ => pts_nil) (fun _ _ _ _ _ => (pe_tup (pa_cons (pv 5) (pa_cons (pe_op op_fdiv (pv 5) pe_int) pa_nil)))))
      (pss_cons (ps_set (i := 1) n rfl (.inl rfl) (pe_lst (pa_cons pe_str (pa_cons pe_str (pa_cons pe_str pa_nil)))))
      (pss_cons (ps_for PassesOwn.never rfl (show PI _ _ _ (iZip K _) from pi_zip (by rfl) T.zip (pa_cons (pe_lst (pa_cons (pe_tup (pa_cons pe_int (pa_cons pe_int pa_nil))) (pa_cons (pe_tup (pa_cons pe_int (pa_cons pe_int pa_nil))) (pa_cons (pe_tup (pa_cons pe_int (pa_cons pe_int pa_nil))) pa_nil)))) (pa_cons (pv 1) pa_nil))) (show PG _ _ (gTup K 2 (gCons (gName 2) (gCons (gName 3) gNil))) from pg_tup rfl (pgs_cons (pg_name (i := 2) n rfl (.inl rfl)) (pgs_cons (pg_name (i := 3) n rfl (.inl rfl)) pgs_nil)))
        (pss_cons (ps_set (i := 4) n rfl (.inl rfl) (ClX.pe_cmeth (pe_glob (v := .ref CT) rfl TCT.mgC rfl) rd.rD rd.cD GR hr pass0 (pa_cons pe_int (pa_cons (pe_call GXt hr rfl cX.g cX.kp cX.b .nil pass0 (pa_cons (pe_op op_cat (pv 0) (pe_lst (pa_cons (pv 2) pa_nil))) pa_nil)) pa_nil))))
        (pss_one (ps_if (PW.pt (pw_or (pt_cmpR op_ne (pe_meth0 (pe_meth0 (pv 4) TCT.cl ob.m GO hr ob.b .nil pass0) TC.cl tx.m GX hr tx.b .nil pass0) (pv 3) (nomark _)) (pw_or (pt_cmpR op_ne (pe_callB (OC.call_lenO ln.fi ln.fn GLn hr pass0) (by rfl) T.len PySem.boot_len (pa_cons (pv 4) pa_nil)) pe_int (nomark _)) (pw_or (pt_val (pe_callO2 (pv 4) clT.cC GC hr pass0 (pa_cons (pe_tup (pa_cons pe_str (pa_cons pe_int (pa_cons pe_int pa_nil)))) pa_nil))) (pw_or1 (pt_val (pe_callO2 (pv 4) clT.cC GC hr pass0 (pa_cons (pe_tup (pa_cons pe_str (pa_cons pe_int (pa_cons pe_int pa_nil)))) pa_nil))))))))
          (pss_one (ps_ret pe_bl)) pss_nil))))
      (pss_one (ps_ret pe_bl))))), ?_⟩
    refine ⟨_, rfl, by decide, by decide, fun D nD => ?_⟩
    refine lc_range (lo := 0) (n := ((399 : Int)).toNat) (fun i H1 => MadeF gd K H D i H1 (grB.take i)) MadeF.start ?_ ?_
    · rintro i H1 hi mo
      have hi : i < 399 := hi
      rw [Int.zero_add]
      refine ⟨rfl, yes_if ⟨_, rfl, _, rfl, _, _, rfl, rfl, ⟨by decide, by decide⟩, (by show 2 ≤ sizeLine; decide), fun t nt => ?_⟩⟩
      dsimp only
      rw [show ((i : Int) / 2) = ((i / 2 : Nat) : Int) by omega]
      have g : grB[i]? = some [i, i / 2] := by
        unfold grB
        rw [List.getElem?_map, List.getElem?_range hi]
        rfl
      rw [take1 g]
      exact mo.push (r := [i, i / 2]) (m := i + 1) (by omega) (Nat.lt_succ_self _) (same_new nt) (dp_gd (mo.tup nt))
    rintro H1 mo
    have e399 : grB.take ((399 : Int)).toNat = grB := List.take_of_length_le (by unfold grB; rw [List.length_map, List.length_range]; decide)
    rw [e399] at mo
    have s1 := mo.old nD
    obtain ⟨ub, _, hD, db, lb⟩ := mo
    have lb : ub.length ≤ 399 := lb
    have db1 : DpAll K H1 ub (grB.map gd) := dps_same (wo_le D) _ _ db
    clear db
    refine ⟨(by show 3 ≤ sizeLine; decide), fun pw npw => ?_⟩
    have s2 : Same H1 (upd H1 pw (.lst [.str "0 settles 1\n1 within 0\n", .str "1 within 0\n", .str "0 settles 1\n"])) := same_new npw
    have hW : (upd H1 pw (.lst [.str "0 settles 1\n1 within 0\n", .str "1 within 0\n", .str "0 settles 1\n"])) pw = some (.lst (grW.map V.str)) := upd_same
    generalize upd H1 pw (.lst [.str "0 settles 1\n1 within 0\n", .str "1 within 0\n", .str "0 settles 1\n"]) = H2 at s2 hW
    refine ⟨(by show 2 ≤ sizeLine; decide), fun t1 n1 => ?_⟩
    have g1 : Dp K (upd H2 t1 (.tup [.int 7, .int 3])) (.ref t1) (gd [7, 3]) := dp_gd (.inl (.inl upd_same))
    have v1 : Same H2 (upd H2 t1 (.tup [.int 7, .int 3])) := same_new n1
    generalize upd H2 t1 (.tup [.int 7, .int 3]) = H3 at g1 v1
    refine ⟨(by show 2 ≤ sizeLine; decide), fun t2 n2 => ?_⟩
    have g2 : Dp K (upd H3 t2 (.tup [.int 7, .int 4])) (.ref t2) (gd [7, 4]) := dp_gd (.inl (.inl upd_same))
    have v2 : Same H3 (upd H3 t2 (.tup [.int 7, .int 4])) := same_new n2
    generalize upd H3 t2 (.tup [.int 7, .int 4]) = H4 at g2 v2
    refine ⟨(by show 2 ≤ sizeLine; decide), fun t3 n3 => ?_⟩
    have g3 : Dp K (upd H4 t3 (.tup [.int 9998, .int 9999])) (.ref t3) (gd [9998, 9999]) := dp_gd (.inl (.inl upd_same))
    have v3 : Same H4 (upd H4 t3 (.tup [.int 9998, .int 9999])) := same_new n3
    generalize upd H4 t3 (.tup [.int 9998, .int 9999]) = H5 at g3 v3
    refine ⟨(by show 3 ≤ sizeLine; decide), fun pl npl => ?_⟩
    have v4 : Same H5 (upd H5 pl (.lst [.ref t1, .ref t2, .ref t3])) := same_new npl
    have hL : (upd H5 pl (.lst [.ref t1, .ref t2, .ref t3])) pl = some (.lst [.ref t1, .ref t2, .ref t3]) := upd_same
    have dL : DpAll K (upd H5 pl (.lst [.ref t1, .ref t2, .ref t3])) [.ref t1, .ref t2, .ref t3] (grL.map fun p => gd [p.1, p.2]) := .cons (dp_same (v2.trans (v3.trans v4)) _ _ g1) (.cons (dp_same (v3.trans v4) _ _ g2) (.cons (dp_same v4 _ _ g3) .nil))
    generalize upd H5 pl (.lst [.ref t1, .ref t2, .ref t3]) = H6 at v4 hL dL
    have s6 : Same H1 H6 := s2.trans (v1.trans (v2.trans (v3.trans v4)))
    have hW6 := (v1.trans (v2.trans (v3.trans v4))) _ _ hW
    have hD6 := s6 _ _ hD
    have db6 := dps_same s6 _ _ db1
    have s06 := s1.trans s6
    clear s6 hW hD db1 s1 s2 v1 v2 v3 v4 g1 g2 g3
    refine ⟨_, rfl, pl, pw, _, _, rfl, SqL.of hL, SqL.of hW6, ?_⟩
    refine RZ.for_zipL (K := K) (xs := [.ref t1, .ref t2, .ref t3]) (ys := grW.map V.str) rfl (fun i σ H' => ∃ y2 y3 y4 y5, σ = [some (.ref D), some (.ref pw), y2, y3, y4, y5] ∧ Same H6 H') ⟨none, none, none, none, rfl, Same.refl _⟩ (fun i σ H' ⟨_, _, _, _, _, s'⟩ => ⟨SqL.of (s' _ _ hL), SqL.of (s' _ _ hW6)⟩) ?_ ?_
    · rintro i x y tz σ H7 hx hy ⟨y2, y3, y4, y5, rfl, s7⟩ nz
      have v1 : Same H7 (upd H7 tz (.tup [x, y])) := same_new nz
      have hz : (upd H7 tz (.tup [x, y])) tz = some (.tup [x, y]) := upd_same
      generalize upd H7 tz (.tup [x, y]) = H8 at v1 hz
      have s8 : Same H6 H8 := s7.trans v1
      obtain ⟨u, v, hp, dx⟩ : ∃ u v, grL[i]? = some (u, v) ∧ Dp K H6 x (gd [u, v]) := by
        obtain ⟨d, h1, h2⟩ := dps_at dL hx
        rw [List.getElem?_map] at h1
        cases e : grL[i]? with
        | none => rw [e] at h1; cases h1
        | some p =>
          rw [e] at h1
          cases h1
          exact ⟨p.1, p.2, rfl, h2⟩
      obtain ⟨u9, v9, no10, now01, hw⟩ := gr_all hp
      obtain rfl : V.str (textS (obL (grR u v) 2)) = y := by
        rw [List.getElem?_map, hw] at hy
        exact Option.some.inj hy
      have dx8 := dp_same s8 _ _ dx
      obtain ⟨tl, rfl, htl⟩ := gd_at dx8
      refine ⟨tz, _, rfl, .inl (.inl hz), rfl, _, _, rfl, _, _, rfl, rfl, ?_⟩
      -- the table
      refine ⟨rfl, _, rfl, _, rfl, (by show 1 ≤ sizeLine; decide), fun l1 nl1 => ?_⟩
      have v2 : Same H8 (upd H8 l1 (.lst [.ref tl])) := same_new nl1
      have hl1 : (upd H8 l1 (.lst [.ref tl])) l1 = some (.lst [.ref tl]) := upd_same
      generalize upd H8 l1 (.lst [.ref tl]) = H9 at v2 hl1
      have s9 : Same H6 H9 := s8.trans v2
      refine ⟨D, l1, ub, [.ref tl], rfl, rfl, s9 _ _ hD6, hl1, Nat.le_of_lt (small1000 (by show ub.length + 1 ≤ 1000; omega)), fun l2 nl2 => ?_⟩
      have v3 : Same H9 (upd H9 l2 (.lst (ub ++ [.ref tl]))) := same_new nl2
      have hl2 : (upd H9 l2 (.lst (ub ++ [.ref tl]))) l2 = some (.lst (ub ++ [.ref tl])) := upd_same
      generalize upd H9 l2 (.lst (ub ++ [.ref tl])) = H10 at v3 hl2
      have s10 : Same H6 H10 := s9.trans v3
      have d10 : DpAll K H10 (ub ++ [.ref tl]) ((grR u v).map gd) := by
        unfold grR
        rw [List.map_append]
        exact dps_app (dps_same s10 _ _ db6) (.cons (dp_same s10 _ _ dx) .nil)
      have ok := grR_ok u9 v9
      refine ⟨l2, _, 2, grR u v, rfl, SqL.of hl2, d10, by decide, ok, by rw [grR_len]; decide, fun H11 s11 => ?_⟩
      refine ⟨2, grR u v, rfl, by decide, by decide, ok, by rw [grR_len]; decide, fun xt H12 s12 nx ta => ?_⟩
      have s612 := s10.trans (s11.trans s12)
      obtain ⟨dt, gt, ut, t1, t2, t3⟩ := id ta
      refine ⟨_, rfl, xt, dt, _, rfl, t1, fldT_ob _ _, xt, 2, grR u v, rfl, ta, by decide, by decide, ok, grR_few u v, fun z H13 s13 nz raz => ?_⟩
      obtain ⟨dz, gz, uz, z1, z2, z3⟩ := id raz
      have oo : ∀ r ∈ obL (grR u v) 2, r.ok 2 := fun r hr => (mem_obL.mp hr).1
      refine ⟨z, dz, _, rfl, z1, flds_tx _ _, z, 2, obL (grR u v) 2, rfl, raz, fun r hr => (oo r hr).up (by decide), few_rules (w := 2) (by decide) oo (obL_nodup (by decide)), fun H14 s14 => ?_⟩
      have ta14 := ta.same (s13.trans s14)
      have t14 := (s13.trans s14) _ _ t1
      refine ⟨_, rfl, rfl, _, rfl, iteF' (by rw [decide_eq_true rfl]; rfl) ?_⟩
      refine ⟨_, rfl, xt, dt, _, rfl, t14, xt, 2, grR u v, rfl, ta14, 400, (by rw [grR_len]), (by decide), rfl, _, rfl, iteF' (by decide) ?_⟩
      have no : ∀ {t : Bool} {r : R}, ¬ HoldsR (grR u v) r → (t = true ↔ HoldsR (grR u v) r) → t = false := fun {t r} hn h => by
        cases t with
        | false => rfl
        | true => exact absurd (h.mp rfl) hn
      refine ⟨_, rfl, xt, rfl, (by show 3 ≤ sizeLine; decide), fun r1 nr1 => ?_⟩
      have w1 : Same H14 (upd H14 r1 (.tup [.str "settles", .int 1, .int 0])) := same_new nr1
      refine ⟨.inr ⟨dt, _, w1 _ _ t14⟩, xt, 2, grR u v, _, ⟨true, 1, 0⟩, rfl, ta14.same w1, ok, grR_few u v, r_dp (r := ⟨true, 1, 0⟩) (.inl (.inl upd_same)), ⟨by decide, by decide, by decide⟩, fun b1 H15 s15 h1 => ?_⟩
      obtain rfl := no no10 h1
      refine ⟨_, rfl, iteF ?_⟩
      have ta15 := ta14.same (w1.trans s15)
      have t15 := (w1.trans s15) _ _ t14
      refine ⟨_, rfl, xt, rfl, (by show 3 ≤ sizeLine; decide), fun r2 nr2 => ?_⟩
      have w2 : Same H15 (upd H15 r2 (.tup [.str "within", .int 0, .int 1])) := same_new nr2
      refine ⟨.inr ⟨dt, _, w2 _ _ t15⟩, xt, 2, grR u v, _, ⟨false, 0, 1⟩, rfl, ta15.same w2, ok, grR_few u v, r_dp (r := ⟨false, 0, 1⟩) (.inl (.inl upd_same)), ⟨by decide, by decide, by decide⟩, fun b2 H16 s16 h2 => ?_⟩
      obtain rfl := no now01 h2
      refine ⟨_, rfl, iteF ?_⟩
      exact ⟨_, _, _, _, rfl, s612.trans (s13.trans (s14.trans (w1.trans (s15.trans (w2.trans s16)))))⟩
    · rintro σ H7 ⟨y2, y3, y4, y5, rfl, s7⟩
      exact q _ (s06.trans s7)
end
end CC
namespace CC
open PySem L2
abbrev sSource : Stmt := tp 43
abbrev sDraw : Stmt := tp 44
abbrev sChoose : Stmt := tp 45
section
variable {P : Program} {w : World} {K : PySem.W.Frag} {mg : Str → Option Value} {base : Heap}
theorem scSource : FnScope ["_law_cell_here"] ["_law_cell_here"] (defScope sSource) := ⟨rfl, rfl, rfl, by decide +kernel, rfl, by decide +kernel, by decide +kernel⟩
theorem ok_source {f : Addr} {fd : FuncData} {k : Nat} (F : Fun K "_law_source" "_law_source" sSource f fd) (mm : mg "max" = none) : FnOk P w K mg base CX0 (k + 1) f fd ["_law_cell_here"] spSource := by
  refine F.ok scSource (fun vs H Q E h => ?_) (fun cdv A outer s H vs Q E hr h => ?_)
  · obtain ⟨z, rfl, _⟩ := h
    rfl
  · obtain ⟨z, rfl, q⟩ := h
    refine ⟨_, pss_one (ps_ret (pe_lst (pa_cons (pe_callB (call_max2 rfl) (by rfl) mm (by decide +kernel) (pa_cons pe_int (pa_cons (pe_op op_sub (pv 0) (pe_op op_pow pe_int pe_int)) pa_nil))) (pa_cons (pe_op op_add (pe_op op_mod (pv 0) pe_int) pe_int) (pa_cons pe_int pa_nil))))), ?_⟩
    refine ⟨_, rfl, _, _, rfl, rfl, ⟨by decide, by decide, by decide⟩, _, _, rfl, rfl, _, _, rfl, _, rfl, _, _, rfl, rfl, (by show (0 : Int) < 2147483629; decide), _, _, rfl, rfl, (by show 3 ≤ sizeLine; decide), fun p hp => ?_⟩
    exact q p _ hp ⟨_, _, _, rfl, by omega, by omega⟩
theorem scDraw : FnScope ["_law_source_here", "_law_many", "_law_found", "_law_mixed"] ["_law_source_here", "_law_many"] (defScope sDraw) := ⟨rfl, rfl, rfl, by decide +kernel, rfl, by decide +kernel, by decide +kernel⟩
theorem ok_draw {f : Addr} {fd : FuncData} {k : Nat} (F : Fun K "_law_draw" "_law_draw" sDraw f fd) : FnOk P w K mg base CX0 (k + 1) f fd ["_law_source_here", "_law_many"] spDraw := by
  refine F.ok scDraw (fun vs H Q E h => ?_) (fun cdv A outer s H vs Q E hr h => ?_)
  · obtain ⟨a, m, o, rfl, _⟩ := h
    rfl
  · obtain ⟨a, m, o, rfl, ho, ⟨x, y, z, rfl, y0, y1⟩, m0, m1, q⟩ := h
    refine ⟨_, pss_cons (ps_if (pt_cmpR op_gt (pe_ix ix_list (pv 0) pe_int (fun _ _ => rfl)) pe_int (nomark _))
        (pss_cons (ps_set (i := 2) scDraw.nd rfl (.inl rfl) (pe_op op_mod (pe_ix ix_list (pv 0) pe_int (fun _ _ => rfl)) (pv 1)))
        (pss_cons (ps_asg (pe_op op_fdiv (pe_ix ix_list (pv 0) pe_int (fun _ _ => rfl)) (pv 1)) (pg_sub (pv 0) pe_int set_list))
        (pss_one (ps_ret (pv 2))))) pss_nil)
      (pss_cons (ps_asg (pe_op op_add (pe_ix ix_list (pv 0) pe_int (fun _ _ => rfl)) pe_int) (pg_sub (pv 0) pe_int set_list))
      (pss_cons (ps_asg (pe_op op_mod (pe_op op_add (pe_op op_add (pe_op op_mul (pe_ix ix_list (pv 0) pe_int (fun _ _ => rfl)) pe_int) (pe_op op_mul pe_int (pe_ix ix_list (pv 0) pe_int (fun _ _ => rfl)))) pe_int) pe_int) (pg_sub (pv 0) pe_int set_list))
      (pss_cons (ps_set (i := 3) scDraw.nd rfl (.inl rfl) (pe_op op_mod (pe_op op_add (pe_op op_add (pe_op op_mul (pe_ix ix_list (pv 0) pe_int (fun _ _ => rfl)) (pe_ix ix_list (pv 0) pe_int (fun _ _ => rfl))) (pe_op op_mul pe_int (pe_ix ix_list (pv 0) pe_int (fun _ _ => rfl)))) pe_int) pe_int))
      (pss_cons (ps_set (i := 3) scDraw.nd rfl (.inl rfl) (pe_op op_mod (pe_op op_add (pe_op op_mul (pv 3) (pv 3)) (pe_op op_mul pe_int (pv 3))) pe_int))
      (pss_one (ps_ret (pe_op op_mod (pe_op op_fdiv (pv 3) pe_int) (pv 1)))))))), ?_⟩
    have hA : SqL K H a [.int x, .int y, .int z] := SqL.of ho
    refine ⟨_, rfl, a, _, _, _, rfl, rfl, hA, rfl, _, _, rfl, rfl, _, rfl, ite2 (fun e => ?_) (fun e => ?_)⟩
    · refine ⟨_, rfl, a, _, _, _, rfl, rfl, hA, rfl, _, rfl, _, _, rfl, rfl, m0, ?_⟩
      refine ⟨_, rfl, a, _, _, _, rfl, rfl, hA, rfl, _, rfl, _, _, rfl, rfl, ⟨m0, by omega⟩, _, rfl, a, _, _, 0, rfl, rfl, ho, rfl, ?_⟩
      exact ⟨_, rfl, q _ _ (Int.emod_nonneg _ (by omega)) (Int.emod_lt_of_pos _ m0) ⟨_, _, _, rfl, y0, y1⟩⟩
    · refine ⟨_, rfl, a, _, _, _, rfl, rfl, hA, rfl, _, _, rfl, rfl, _, rfl, a, _, _, 2, rfl, rfl, ho, rfl, ?_⟩
      have h1 : (upd H a (.lst [.int x, .int y, .int (z + 1)])) a = some (.lst [.int x, .int y, .int (z + 1)]) := upd_same
      refine ⟨_, rfl, a, _, _, _, rfl, rfl, SqL.of h1, rfl, _, _, rfl, rfl, .inl ⟨by omega, by omega⟩, _, rfl, a, _, _, _, rfl, rfl, SqL.of h1, rfl, _, _, rfl, rfl, .inl ⟨by decide, by decide⟩, _, _, rfl, rfl, _, _, rfl, rfl, _, _, rfl, rfl, (by show (0 : Int) < 2147483647; decide), _, rfl, a, _, _, 1, rfl, rfl, h1, rfl, ?_⟩
      obtain ⟨y', hy⟩ : ∃ y' : Int, y' = (y * 48271 + 1009 * (z + 1) + 7) % 2147483647 := ⟨_, rfl⟩
      have b0 : 0 ≤ y' := by omega
      have b1 : y' < 2147483648 := by omega
      have h2 : (upd (upd H a (.lst [.int x, .int y, .int (z + 1)])) a (.lst [.int x, .int ((y * 48271 + 1009 * (z + 1) + 7) % 2147483647), .int (z + 1)])) a = some (.lst [.int x, .int y', .int (z + 1)]) := by
        rw [hy]
        exact upd_same
      refine ⟨_, rfl, a, _, _, _, rfl, rfl, SqL.of h2, rfl, _, rfl, a, _, _, _, rfl, rfl, SqL.of h2, rfl, _, _, rfl, rfl, .inl ⟨by omega, by omega⟩, _, rfl, a, _, _, _, rfl, rfl, SqL.of h2, rfl, _, _, rfl, rfl, .inl ⟨by decide, by decide⟩, _, _, rfl, rfl, _, _, rfl, rfl, _, _, rfl, rfl, (by show (0 : Int) < 2147483629; decide), ?_⟩
      obtain ⟨m2, hm⟩ : ∃ m2 : Int, m2 = (y' * y' + 69621 * y' + 11) % 2147483629 := ⟨_, rfl⟩
      have c0 : 0 ≤ (y' * y' + 69621 * y' + 11) % 2147483629 := Int.emod_nonneg _ (by decide)
      have c1 : (y' * y' + 69621 * y' + 11) % 2147483629 < 2147483629 := Int.emod_lt_of_pos _ (by decide)
      refine ⟨_, rfl, _, rfl, _, _, rfl, rfl, .inl ⟨Int.lt_of_lt_of_le (by decide) c0, Int.lt_trans c1 (by decide)⟩, _, rfl, _, _, rfl, rfl, .inl ⟨by decide, by decide⟩, _, _, rfl, rfl, _, _, rfl, rfl, (by show (0 : Int) < 2147483587; decide), ?_⟩
      refine ⟨_, rfl, _, _, rfl, rfl, ⟨by decide, by decide⟩, _, rfl, _, _, rfl, rfl, m0, ?_⟩
      rw [upd_upd]
      exact q _ _ (Int.emod_nonneg _ (by omega)) (Int.emod_lt_of_pos _ m0) ⟨x, y', z + 1, by rw [hy]; rfl, b0, b1⟩
end
end CC
namespace CC
open PySem L2 TL
section
variable {P : Program} {w : World} {K : PySem.W.Frag} {mg : Str → Option Value} {base : Heap} {kA : Addr}
theorem ok_draw2 {f : Addr} {fd : FuncData} {k : Nat} (F : Fun K "_law_draw" "_law_draw" sDraw f fd) : FnOk P w K mg base CX0 (k + 1) f fd ["_law_source_here", "_law_many"] spDraw2 := by
  have G : FnOk P w K mg base CX0 (k + 1) f fd ["_law_source_here", "_law_many"] spDraw := ok_draw F
  refine ⟨fun vs H Q E h => ?_, fun A outer s H args us vs Q E hr e0 hb r h => G.run A outer s H args us vs Q E hr e0 hb r ?_⟩
  · obtain ⟨s, m, rfl, _⟩ := h
    rfl
  · obtain ⟨a, m, rfl, ⟨o, h1, h2⟩, m0, m1, q⟩ := h
    refine ⟨a, m, o, rfl, h1, h2, by omega, by omega, fun r o' r0 r1 ho => ?_⟩
    have e : r = ((r.toNat : Nat) : Int) := by omega
    rw [e]
    exact q _ _ (by omega) (.one ho)
theorem scChoose : FnScope ["_law_source_here", "_law_values"] ["_law_source_here", "_law_values"] (defScope sChoose) := ⟨rfl, rfl, rfl, by decide +kernel, rfl, by decide +kernel, by decide +kernel⟩
theorem ok_choose {f : Addr} {fd : FuncData} {k : Nat} (F : Fun K "_law_choose" "_law_choose" sChoose f fd) (T : Glb K mg kA) (cD : Cal P w K mg base "_law_draw" ["_law_source_here", "_law_many"] spDraw2 1) :
    FnOk P w K mg base CX0 (k + 2) f fd ["_law_source_here", "_law_values"] (spChoose K) := by
  have GD := cD.ok (k + 1) (by omega)
  refine F.ok scChoose (fun vs H Q E h => ?_) (fun cdv A outer s H vs Q E hr h => ?_)
  · obtain ⟨s, v, rfl, _⟩ := h
    rfl
  · obtain ⟨sr, v, rfl, hs, h⟩ := h
    refine ⟨_, pss_one (ps_ret (pe_ix ix_seq (pv 1) (pe_call GD hr rfl cD.g cD.kp cD.b .nil pass0 (pa_cons (pv 0) (pa_cons (pe_callB call_len (by rfl) T.len PySem.boot_len (pa_cons (pv 1) pa_nil)) pa_nil))) (fun _ _ => rfl))), ?_⟩
    rcases h with ⟨a, xs, rfl, ha, l0, l1, q⟩ | ⟨z, rfl, l0, l1, q⟩
    · refine ⟨_, rfl, _, rfl, _, rfl, _, xs.length, rfl, .inl ⟨xs, same_l (wo_le sr) ha, rfl⟩, sr, xs.length, rfl, hs, l0, by omega, fun r H' hr2 rn => ?_⟩
      have e : xs[r]? = some xs[r] := List.getElem?_eq_getElem hr2
      exact .inl ⟨a, xs, _, _, rfl, rfl, same_l (rn.same.trans (wo_le sr)) ha, atI_nat e, q r _ H' e rn⟩
    · refine ⟨_, rfl, _, rfl, _, rfl, _, z.length, rfl, ⟨Nat.le_of_lt (small1000 (by omega)), rfl⟩, sr, z.length, rfl, hs, l0, by omega, fun r H' hr2 rn => ?_⟩
      rw [len_tl] at hr2
      have e : (tl z)[r]? = some (tl z)[r] := List.getElem?_eq_getElem hr2
      exact .inr (.inr ⟨z, _, _, rfl, rfl, Nat.le_of_lt (small1000 (by omega)), atI_nat e, q _ H' rn⟩)
end
end CC
/-! ### drawn rows -/
namespace CC
open PySem L2 TL
theorem Ran.put {H H1 : Hp} {s p : Addr} {o : HO} (r : Ran H H1 s) (hp : H p = none) (n : p ≠ s) : Ran H (upd H1 p o) s := by
  refine ⟨fun b u e => ?_, ?_⟩
  · have hb : b ≠ s := fun z => by
      rw [z, wo_at] at e
      cases e
    have bp : b ≠ p := fun z => by
      rw [wo_ne hb, z, hp] at e
      cases e
    have := r.same b u e
    rw [wo_ne hb] at this ⊢
    rw [upd_ne bp]
    exact this
  · obtain ⟨o', h1, h2⟩ := r.src
    exact ⟨o', by rw [upd_ne (Ne.symm n)]; exact h1, h2⟩
/-- rows of values up to v -/
def RowV (w v : Nat) (r : List Nat) : Prop := r.length = w ∧ ∀ x ∈ r, x ≤ v
structure LR (K : PySem.W.Frag) (H H' : Hp) (s l : Addr) (w v m : Nat) : Prop where
  ran : Ran H H' s
  new : H l = none
  nes : l ≠ s
  lst : ∃ (us : List V) (rows : List (List Nat)), H' l = some (.lst us) ∧ DpAll K H' us (rows.map gd) ∧ (∀ r ∈ rows, RowV w v r) ∧ rows.length = m
section
variable {K : PySem.W.Frag} {H H' H'' : Hp} {s l p : Addr} {w v m : Nat}
theorem LR.grow (a : LR K H H' s l w v m) (e : Same H' H'') : LR K H H'' s l w v m := by
  obtain ⟨us, rs, h1, h2, h3, h4⟩ := a.lst
  exact ⟨a.ran.grow e, a.new, a.nes, us, rs, e _ _ h1, dps_same e _ _ h2, h3, h4⟩
theorem LR.run (a : LR K H H' s l w v m) (e : Ran H' H'' s) : LR K H H'' s l w v m := by
  obtain ⟨us, rs, h1, h2, h3, h4⟩ := a.lst
  exact ⟨a.ran.trans e, a.new, a.nes, us, rs, e.at_ h1 a.nes, gds_T (e.T a.ran.src) h2, h3, h4⟩
theorem LR.fresh (a : Ran H H' s) (h : H' l = none) : LR K H (upd H' l (.lst [])) s l w v 0 :=
  ⟨a.grow (same_new h), a.free h, a.ne h, [], [], upd_same, .nil, (fun r hr => nomatch hr), rfl⟩
theorem LR.push (a : LR K H H' s l w v m) {x : V} {r : List Nat} (d : Dp K H' x (gd r)) (hr : RowV w v r) : ∃ acc, H' l = some (.lst acc) ∧ acc.length = m ∧ LR K H (upd H' l (.lst (acc ++ [x]))) s l w v (m + 1) := by
  obtain ⟨us, rs, h1, h2, h3, h4⟩ := a.lst
  have ul : us.length = rs.length := by rw [dps_len h2, List.length_map]
  refine ⟨us, h1, by omega, a.ran.put a.new a.nes, a.new, a.nes, us ++ [x], rs ++ [r], upd_same, ?_, ?_, ?_⟩
  · rw [List.map_append]
    exact dps_app (gds_T (upd_T h1) h2) (.cons (gd_T (upd_T h1) d) .nil)
  · intro y hy
    rcases List.mem_append.mp hy with z | z
    · exact h3 y z
    · rw [List.mem_singleton.mp z]
      exact hr
  · rw [List.length_append, List.length_singleton]
    omega
theorem LR.put {o : HO} {us : List V} (a : LR K H H' s l w v m) (hp : H' p = some (.lst us)) (hn : H p = none) (n : p ≠ s) (nl : l ≠ p) : LR K H (upd H' p o) s l w v m := by
  obtain ⟨vs, rs, h1, h2, h3, h4⟩ := a.lst
  exact ⟨a.ran.put hn n, a.new, a.nes, vs, rs, by rw [upd_ne nl]; exact h1, gds_T (upd_T hp) h2, h3, h4⟩
end
/-- a row in the making -/
def RowAt (H0 H' : Hp) (s l D : Addr) (w v : Nat) : Prop := ∃ r, H' D = some (.lst (nms r)) ∧ RowV w v r ∧ H0 D = none ∧ D ≠ s ∧ l ≠ D
theorem nms_set {r : List Nat} {j x : Nat} : (nms r).set j (.int (x : Int)) = nms (r.set j x) := by
  unfold nms
  rw [List.map_set]
theorem rowv_set {w v : Nat} {r : List Nat} {j x : Nat} (h : RowV w v r) (hx : x ≤ v) : RowV w v (r.set j x) := by
  refine ⟨by rw [List.length_set]; exact h.1, fun y hy => ?_⟩
  rcases List.mem_or_eq_of_mem_set hy with z | z
  · exact h.2 y z
  · rw [z]
    exact hx
theorem ix_ok {n j : Nat} (h : j < n) : ixN n (j : Int) = some j := by
  unfold ixN
  rw [if_pos (by omega), if_pos (by omega)]
  simp
theorem gdl_shp (ms : List (List Nat)) : SeqAt.shaped (.list (ms.map gd)) = true := by
  have h : PyData.canLayAll0 (ms.map gd) = true ∧ PyData.depthAll (ms.map gd) ≤ 1 := by
    induction ms with
    | nil => simp [PyData.canLayAll0, PyData.depthAll]
    | cons m ms ih =>
      have g : PyData.canLayAll0 (m.map fun (n : Nat) => PyData.int (n : Int)) = true ∧ PyData.depthAll (m.map fun (n : Nat) => PyData.int (n : Int)) = 0 := by
        clear ih
        induction m with
        | nil => simp [PyData.canLayAll0, PyData.depthAll]
        | cons x m ih2 => simp [PyData.canLayAll0, PyData.depthAll, PyData.canLay0, PyData.depth, ih2.1, ih2.2]
      simp only [List.map_cons, PyData.canLayAll0, PyData.depthAll, gd, PyData.canLay0, PyData.depth, g.1, g.2, Bool.true_and]
      refine ⟨ih.1, ?_⟩
      have := ih.2
      unfold gd at this
      omega
  show ((PyData.list (ms.map gd)).canLay0 && decide ((PyData.list (ms.map gd)).depth ≤ 64)) = true
  simp only [PyData.canLay0, PyData.depth, h.1, Bool.true_and]
  exact decide_eq_true (by have := h.2; omega)
end CC
namespace CC
open PySem L2 TL
abbrev sLines : Stmt := tp 47
def spLines (K : PySem.W.Frag) : Sp := fun vs H Q _ => ∃ (s : Addr) (w m v : Nat), vs = [.ref s, .int (w : Int), .int (m : Int), .int (v : Int)] ∧ Src H s ∧ 1 ≤ w ∧ w ≤ 6 ∧ m ≤ 400 ∧ v ≤ 9999 ∧ ∀ (p : Addr) (k : Nat) (H' : Hp), k ≤ m → LR K H H' s p w v k → Q (.ref p) H'
section
variable {P : Program} {w : World} {K : PySem.W.Frag} {mg : Str → Option Value} {base : Heap} {kA : Addr}
abbrev nLn : List Str := ["_law_source_here", "_law_width", "_law_most", "_law_value", "_law_found", "_law_many", "_law_way", "_law_one", "_law_other", "_law_turn", "_law_row", "_law_column"]
theorem scLines : FnScope nLn ["_law_source_here", "_law_width", "_law_most", "_law_value"] (defScope sLines) := ⟨rfl, rfl, rfl, by decide +kernel, rfl, by decide +kernel, by decide +kernel⟩
theorem ok_lines {f : Addr} {fd : FuncData} {k : Nat} (F : Fun K "_law_lines" "_law_lines" sLines f fd) (T : Glb K mg kA) (cD : Cal P w K mg base "_law_draw" ["_law_source_here", "_law_many"] spDraw2 1) : FnOk P w K mg base CX0 (k + 2) f fd ["_law_source_here", "_law_width", "_law_most", "_law_value"] (spLines K) := by
  have GD := cD.ok (k + 1) (by omega)
  refine F.ok scLines (fun vs H Q E h => ?_) (fun cdv A outer s H vs Q E hr h => ?_)
  · obtain ⟨s, w, m, v, rfl, _⟩ := h
    rfl
  · obtain ⟨s, w, m, v, rfl, hs, w1, w6, hm, hv, q⟩ := h
    have n := scLines.nd
    have hu64 := Nat.lt_of_le_of_lt (Nat.le_trans (Nat.add_le_add_left (by decide : 64 ≤ 200) _) (Nat.add_le_add_right (Nat.le_add_right _ (16 * (k + 1))) 200)) hr.un
    refine ⟨_, (pss_cons (ps_par3 (i := 4) (j := 5) (l := 6) rfl n rfl rfl rfl (by decide) (by decide) (by decide) rfl rfl rfl (pa_cons (pe_lst pa_nil) (pa_cons (pe_call GD hr rfl cD.g cD.kp cD.b .nil pass0 (pa_cons (pv 0) (pa_cons (pe_op op_add (pv 2) pe_int) pa_nil))) (pa_cons (pe_call GD hr rfl cD.g cD.kp cD.b .nil pass0 (pa_cons (pv 0) (pa_cons pe_int pa_nil))) pa_nil))) (by rfl))
      (pss_cons (ps_par (i := 7) (j := 8) rfl n rfl rfl (by decide) rfl rfl (pa_cons (pe_call GD hr rfl cD.g cD.kp cD.b .nil pass0 (pa_cons (pv 0) (pa_cons (pv 1) pa_nil))) (pa_cons (pe_call GD hr rfl cD.g cD.kp cD.b .nil pass0 (pa_cons (pv 0) (pa_cons (pv 1) pa_nil))) pa_nil)) (by rfl))
      (pss_cons (ps_for PassesOwn.never rfl (pi_range1 (by rfl) T.rng (pa_cons (pv 5) pa_nil)) (pg_name (i := 9) n rfl (.inl rfl))
        (pss_cons (ps_setLc (i := 10) (own := [("_law_column", 11)]) (g := gName 11) (tt := tYes) rfl n rfl rfl (sw_true rfl rfl rfl (by decide +kernel)) (pi_range1 (by rfl) T.rng (pa_cons (pv 1) pa_nil)) (blkOk_by (N := nLn) (sc := defScope sLines) (by decide +kernel))
          (fun _ _ _ _ _ => (pg_name (i := 11) n rfl (.inl rfl))) (fun _ _ _ _ _ => pts_nil) (fun _ _ _ _ _ => (pe_call GD hr rfl cD.g cD.kp cD.b .nil pass0 (pa_cons (pv 0) (pa_cons (pe_op op_add (pv 3) pe_int) pa_nil)))))
        (C8.pss_cut (ps_if (pt_cmpR op_eq (pv 6) pe_int (nomark _)) (pss_one (ps_asg (pe_ix ix_list (pv 10) (pv 8) (fun _ _ => rfl)) (pg_sub (pv 10) (pv 7) set_list))) pss_nil)
        (C8.pss_cut (ps_if (pt_cmpR op_eq (pv 6) pe_int (nomark _)) (pss_one (ps_asg (pe_op op_mod (pe_op op_mul (pe_ix ix_list (pv 10) (pv 8) (fun _ _ => rfl)) (pe_ix ix_list (pv 10) (pv 8) (fun _ _ => rfl))) (pe_op op_add (pv 3) pe_int)) (pg_sub (pv 10) (pv 7) set_list))) pss_nil)
        (C8.pss_cut (ps_if (PW.pt (pw_and (pt_cmpR op_eq (pv 6) pe_int (nomark _)) (pw_and (pt_cmpR (op_neD hu64) (pv 4) (pe_lst pa_nil) (nomark _)) (pw_and1 (pt_cmpR op_eq (pe_call GD hr rfl cD.g cD.kp cD.b .nil pass0 (pa_cons (pv 0) (pa_cons pe_int pa_nil))) pe_int (nomark _))))))
          (pss_one (ps_set (i := 10) n rfl (.inl rfl) (pe_callTy call_list_of (by rfl) T.lst (by decide +kernel) (pa_cons (pe_ix ix_list (pv 4) (pe_un un_neg pe_int) (fun _ _ => rfl)) pa_nil)))) pss_nil)
        (C8.pss_cut (ps_if (pt_cmpR op_eq (pv 6) pe_int (nomark _)) (pss_one (ps_asg (pe_op op_mod (pv 9) (pe_op op_add (pv 3) pe_int)) (pg_sub (pv 10) (pv 7) set_list))) pss_nil)
        (pss_one (ps_expr (pe_bm PySem.F.plainAttrs_list PySem.F.slot_list_append PySem.F.type_list_append mt_append (pv 4) (pa_cons (pe_callTy call_tuple_of (by rfl) T.tup (by decide +kernel) (pa_cons (pv 10) pa_nil)) pa_nil))))))))))
      (pss_one (ps_ret (pv 4)))))), ?_⟩
    refine ⟨Nat.zero_le _, fun fo nfo => ?_⟩
    have hs1 : Ran H H s := ⟨Same.refl _, hs⟩
    have p1 : LR K H (upd H fo (.lst [])) s fo w v 0 := .fresh hs1 nfo
    generalize upd H fo (.lst []) = H1 at p1
    refine ⟨_, rfl, _, rfl, _, _, rfl, rfl, s, m + 1, rfl, p1.ran.src, by omega, by omega, fun many H2 hmany r2 => ?_⟩
    have p2 := p1.run r2
    refine ⟨_, rfl, s, 5, rfl, p2.ran.src, by decide, by decide, fun way H3 hway r3 => ⟨_, _, _, rfl, ?_⟩⟩
    have p3 := p2.run r3
    refine ⟨_, rfl, _, rfl, s, w, rfl, p3.ran.src, by omega, by omega, fun one H4 hone r4 => ?_⟩
    have p4 := p3.run r4
    refine ⟨_, rfl, _, rfl, s, w, rfl, p4.ran.src, by omega, by omega, fun oth H5 hoth r5 => ⟨_, _, rfl, ?_⟩⟩
    have p5 := p4.run r5
    refine ⟨_, rfl, _, rfl, by omega, by omega, ?_⟩
    refine for_range (lo := 0) (n := ((many : Nat) : Int).toNat) (fun i σ H' => ∃ y9 y10 y11, σ = [some (.ref s), some (.int (w : Int)), some (.int (m : Int)), some (.int (v : Int)), some (.ref fo), some (.int (many : Int)), some (.int (way : Int)), some (.int (one : Int)), some (.int (oth : Int)), y9, y10, y11] ∧ LR K H H' s fo w v i) ⟨none, none, none, rfl, p5⟩ ?_ ?_
    · rintro i σ H6 hi ⟨y9, y10, y11, rfl, p6⟩
      rw [Int.zero_add]
      have im : i ≤ 400 := by omega
      refine ⟨_, rfl, _, rfl, by omega, by omega, fun D nD => ?_⟩
      refine lc_range (lo := 0) (n := ((w : Nat) : Int).toNat) (fun j H' => LR K H H' s fo w v i ∧ H D = none ∧ D ≠ s ∧ fo ≠ D ∧ (∃ r, H' D = some (.lst (nms r)) ∧ r.length = j ∧ ∀ x ∈ r, x ≤ v) ∧ j ≤ 6) ⟨p6.grow (same_new nD), p6.ran.free nD, p6.ran.ne nD, ?_, ⟨[], upd_same, rfl, (fun x hx => nomatch hx)⟩, by omega⟩ ?_ ?_
      · obtain ⟨us, _, hu, _⟩ := p6.lst
        exact ne_of_none hu nD
      · rintro j H7 hj ⟨p7, nD0, Ds, fD, ⟨r, hD7, rl, rv⟩, j6⟩
        refine ⟨rfl, yes_if ⟨_, rfl, _, rfl, _, _, rfl, rfl, s, v + 1, rfl, p7.ran.src, by omega, by omega, fun x H8 hx r8 => ?_⟩⟩
        have hD8 := r8.at_ hD7 Ds
        refine ⟨_, hD8, small1000 (by rw [nms_len]; omega), (p7.run r8).put hD8 nD0 Ds fD, nD0, Ds, fD, ⟨r ++ [x], ?_, ?_, ?_⟩, by omega⟩
        · rw [upd_same, nms_app]
          rfl
        · rw [List.length_append, List.length_singleton, rl]
        · intro y hy
          rcases List.mem_append.mp hy with z | z
          · exact rv y z
          · rw [List.mem_singleton.mp z]
            omega
      rintro H7 ⟨p7, nD0, Ds, fD, ⟨r, hD7, rl, rv⟩, _⟩
      have ew : ((w : Nat) : Int).toNat = w := by omega
      rw [ew] at rl
      let Mid : L2.St → Hp → Prop := fun σ H' => ∃ D y11, σ = [some (.ref s), some (.int (w : Int)), some (.int (m : Int)), some (.int (v : Int)), some (.ref fo), some (.int (many : Int)), some (.int (way : Int)), some (.int (one : Int)), some (.int (oth : Int)), some (.int (i : Int)), some (.ref D), y11] ∧ LR K H H' s fo w v i ∧ RowAt H H' s fo D w v
      have m7 : RowAt H H7 s fo D w v := ⟨r, hD7, ⟨rl, rv⟩, nD0, Ds, fD⟩
      -- one more value of a row
      have setV : ∀ {D : Addr} {H' : Hp} {y : Option V} {x : Nat}, LR K H H' s fo w v i → RowAt H H' s fo D w v → x ≤ v → rSetL (.ref D) (.int (one : Int)) (.int (x : Int)) H' (Mid [some (.ref s), some (.int (w : Int)), some (.int (m : Int)), some (.int (v : Int)), some (.ref fo), some (.int (many : Int)), some (.int (way : Int)), some (.int (one : Int)), some (.int (oth : Int)), some (.int (i : Int)), some (.ref D), y]) := fun {D H' y x} p ⟨r, h1, h2, h3, h4, h5⟩ hx => by
        refine ⟨D, _, _, one, rfl, rfl, h1, ix_ok (by rw [nms_len, h2.1]; exact hone), D, y, rfl, p.put h1 h3 h4 h5, r.set one x, ?_, rowv_set h2 hx, h3, h4, h5⟩
        rw [upd_same, nms_set]
      clear hD7 rl rv nD0 Ds fD r
      -- way == 0
      refine ⟨Mid, ?_, ?_⟩
      · refine ⟨_, rfl, rfl, _, rfl, ite2 (fun _ => ?_) (fun _ => ⟨D, _, rfl, p7, m7⟩)⟩
        obtain ⟨r, h1, h2, h3, h4, h5⟩ := id m7
        have gx : (nms r)[oth]? = some (.int ((r.getD oth 0 : Nat) : Int)) := by
          rw [nms, List.getElem?_map, List.getD_eq_getElem?_getD, List.getElem?_eq_getElem (by rw [h2.1]; exact hoth)]
          rfl
        have bx : r.getD oth 0 ≤ v := by
          rw [List.getD_eq_getElem?_getD, List.getElem?_eq_getElem (by rw [h2.1]; exact hoth)]
          exact h2.2 _ (List.getElem_mem _)
        exact ⟨_, rfl, _, rfl, D, _, _, _, rfl, rfl, SqL.of h1, atI_nat gx, _, rfl, _, rfl, setV p7 m7 bx⟩
      rintro σ1 H8 ⟨D, y11, rfl, p8, m8⟩
      -- way == 1
      refine ⟨Mid, ?_, ?_⟩
      · refine ⟨_, rfl, rfl, _, rfl, ite2 (fun _ => ?_) (fun _ => ⟨D, _, rfl, p8, m8⟩)⟩
        obtain ⟨r, h1, h2, h3, h4, h5⟩ := id m8
        have gx : (nms r)[oth]? = some (.int ((r.getD oth 0 : Nat) : Int)) := by
          rw [nms, List.getElem?_map, List.getD_eq_getElem?_getD, List.getElem?_eq_getElem (by rw [h2.1]; exact hoth)]
          rfl
        have bx : r.getD oth 0 ≤ v := by
          rw [List.getD_eq_getElem?_getD, List.getElem?_eq_getElem (by rw [h2.1]; exact hoth)]
          exact h2.2 _ (List.getElem_mem _)
        generalize r.getD oth 0 = x at gx bx
        refine ⟨_, rfl, _, rfl, D, _, _, _, rfl, rfl, SqL.of h1, atI_nat gx, _, rfl, _, rfl, D, _, _, _, rfl, rfl, SqL.of h1, atI_nat gx, _, _, rfl, rfl, .inl ⟨by omega, by omega⟩, _, rfl, _, _, rfl, rfl, _, _, rfl, rfl, (by show (0 : Int) < (v : Int) + 1; omega), ?_⟩
        have e : ((x : Int) * (x : Int)) % ((v : Int) + 1) = ((x * x % (v + 1) : Nat) : Int) := by
          rw [Int.natCast_emod, Int.natCast_mul, Int.natCast_add]
          rfl
        dsimp only
        rw [e]
        exact ⟨_, rfl, _, rfl, setV p8 m8 (Nat.le_of_lt_succ (Nat.mod_lt _ (by omega)))⟩
      rintro σ1 H9 ⟨D, y11, rfl, p9, m9⟩
      -- way == 2
      refine ⟨Mid, ?_, ?_⟩
      · refine ⟨_, rfl, rfl, _, rfl, ite2 (fun _ => ?_) (fun _ => iteF ⟨D, _, rfl, p9, m9⟩)⟩
        obtain ⟨us, rows, h1, h2, h3, h4⟩ := id p9.lst
        refine ⟨_, rfl, Nat.zero_le _, fun el nel => ?_⟩
        have s10 : Same H9 (upd H9 el (.lst [])) := same_new nel
        have he : (upd H9 el (.lst [])) el = some (.lst []) := upd_same
        generalize upd H9 el (.lst []) = H10 at s10 he
        have p10 := p9.grow s10
        have m10 : RowAt H H10 s fo D w v := by
          obtain ⟨r, g1, g2⟩ := m9
          exact ⟨r, s10 _ _ g1, g2⟩
        have dl : DpAll K H10 us (rows.map gd) := dps_same s10 _ _ h2
        refine ⟨.list (rows.map gd), .list [], .lst (SqL.of (s10 _ _ h1)) dl, .lst (SqL.of he) .nil, gdl_shp _, gdl_shp [], _, rfl, ?_⟩
        cases rows with
        | nil =>
          rw [show (!PyData.eqv (.list (([] : List (List Nat)).map gd)) (.list [])) = false by simp [PyData.eqv, PyData.eqvAll]]
          exact iteF (iteF ⟨D, _, rfl, p10, m10⟩)
        | cons r0 rows =>
          rw [show (!PyData.eqv (.list ((r0 :: rows).map gd)) (.list [])) = true by simp [PyData.eqv, PyData.eqvAll]]
          refine iteT ⟨_, rfl, s, 3, rfl, p10.ran.src, by decide, by decide, fun e H11 he3 r11 => ?_⟩
          have p11 := p10.run r11
          have m11 : RowAt H H11 s fo D w v := by
            obtain ⟨r, g1, g2, g3, g4, g5⟩ := m10
            exact ⟨r, r11.at_ g1 g4, g2, g3, g4, g5⟩
          refine ⟨rfl, _, rfl, ite2 (fun _ => ?_) (fun _ => ⟨D, _, rfl, p11, m11⟩)⟩
          obtain ⟨us', rows', h1', h2', h3', h4'⟩ := id p11.lst
          have e2 : us' = us := by
            have z := h1'.symm.trans (r11.at_ (s10 _ _ h1) p9.nes)
            exact HO.lst.inj (Option.some.inj z)
          subst e2
          have une : us' ≠ [] := fun z => by
            rw [z] at h2
            cases h2
          obtain ⟨ua, ub, rfl⟩ : ∃ ua ub, us' = ua ++ [ub] := ⟨_, _, (List.dropLast_concat_getLast une).symm⟩
          obtain ⟨rl, hrl, drl⟩ := dps_gat h2' (show (ua ++ [ub])[ua.length]? = some ub by simp)
          obtain ⟨t, rfl, ht⟩ := gd_at drl
          refine ⟨_, rfl, _, rfl, fo, _, -1, _, rfl, rfl, SqL.of h1', atI_last _ _, t, _, rfl, .inr ht, fun l nl => ?_⟩
          have fl : fo ≠ l := ne_of_none h1' nl
          exact ⟨l, _, rfl, p11.grow (same_new nl), rl, upd_same, h3' rl (List.mem_of_getElem? hrl), p11.ran.free nl, p11.ran.ne nl, fl⟩
      rintro σ1 H10 ⟨D, y11, rfl, p10, m10⟩
      -- way == 3
      refine ⟨Mid, ?_, ?_⟩
      · refine ⟨_, rfl, rfl, _, rfl, ite2 (fun _ => ?_) (fun _ => ⟨D, _, rfl, p10, m10⟩)⟩
        refine ⟨_, rfl, _, rfl, _, _, rfl, rfl, _, _, rfl, rfl, (by show (0 : Int) < (v : Int) + 1; omega), ?_⟩
        have e : (i : Int) % ((v : Int) + 1) = ((i % (v + 1) : Nat) : Int) := by
          rw [Int.natCast_emod, Int.natCast_add]
          rfl
        dsimp only
        rw [e]
        exact ⟨_, rfl, _, rfl, setV p10 m10 (Nat.le_of_lt_succ (Nat.mod_lt _ (by omega)))⟩
      rintro σ1 H11 ⟨D, y11, rfl, p11, m11⟩
      obtain ⟨us, _, hu, _⟩ := id p11.lst
      obtain ⟨r, g1, g2, g3, g4, g5⟩ := m11
      refine ⟨_, rfl, .inl ⟨rfl, _, SqL.of hu⟩, _, rfl, D, _, rfl, .inl ⟨SqL.of g1, fun t nt => ?_⟩⟩
      obtain ⟨acc, a1, a2, a3⟩ := (p11.grow (same_new (o := .tup (nms r)) nt)).push (x := .ref t) (r := r) (dp_gd (.inl (.inl upd_same))) g2
      exact ⟨fo, acc, _, rfl, rfl, a1, small1000 (by omega), _, _, _, rfl, a3⟩
    · rintro σ H6 ⟨y9, y10, y11, rfl, p6⟩
      have en : ((many : Nat) : Int).toNat = many := by omega
      rw [en] at p6
      exact ⟨_, rfl, q fo many H6 (by omega) p6⟩
end
end CC
namespace CC
open PySem L2 TL
abbrev sHolds : Stmt := tp 52
def ones (p : List Nat → Bool) (l : List (List Nat)) : List Nat := (l.filter p).map fun _ => 1
theorem ones_snoc (p : List Nat → Bool) (l : List (List Nat)) (y : List Nat) : ones p (l ++ [y]) = if p y = true then ones p l ++ [1] else ones p l := by
  unfold ones
  rw [List.filter_append, List.map_append]
  cases e : p y with
  | true => simp [List.filter_cons, e]
  | false => simp [List.filter_cons, e]
theorem ones_le (p : List Nat → Bool) (l : List (List Nat)) : (ones p l).length ≤ l.length := by
  unfold ones
  rw [List.length_map]
  exact List.length_filter_le _ _
def lsN (l : List Nat) : PyData := .list (l.map fun (n : Nat) => PyData.int (n : Int))
theorem dp_lsN {K : PySem.W.Frag} {H : Hp} {t : Addr} {m : List Nat} (h : SqL K H t (nms m)) : Dp K H (.ref t) (lsN m) := .lst h (dps_nms m)
theorem lsN_nil (l : List Nat) : PyData.eqv (lsN l) (.list []) = l.isEmpty := by
  cases l with
  | nil => simp [lsN, PyData.eqv, PyData.eqvAll]
  | cons x l => simp [lsN, PyData.eqv, PyData.eqvAll]
theorem nats_lay' (m : List Nat) : PyData.canLayAll0 (m.map fun (n : Nat) => PyData.int (n : Int)) = true ∧ PyData.depthAll (m.map fun (n : Nat) => PyData.int (n : Int)) = 0 := by
  induction m with
  | nil => simp [PyData.canLayAll0, PyData.depthAll]
  | cons x m ih => simp [PyData.canLayAll0, PyData.depthAll, PyData.canLay0, PyData.depth, ih.1, ih.2]
theorem lsN_shp (m : List Nat) : SeqAt.shaped (lsN m) = true := by
  show ((lsN m).canLay0 && decide ((lsN m).depth ≤ 64)) = true
  simp [lsN, PyData.canLay0, PyData.depth, (nats_lay' m).1, (nats_lay' m).2]
theorem nil_shp : SeqAt.shaped (.list []) = true := by
  have := lsN_shp []
  exact this
def pW (a b : Nat) (x y : List Nat) : Bool := decide (y.getD b 0 = x.getD a 0)
def pS (a b : Nat) (x y : List Nat) : Bool := decide (y.getD a 0 = x.getD a 0) && !decide (y.getD b 0 = x.getD b 0)
theorem ones_nil {p : List Nat → Bool} {l : List (List Nat)} : (ones p l).isEmpty = true ↔ ∀ y ∈ l, p y = false := by
  rw [List.isEmpty_iff, ones, List.map_eq_nil_iff, List.filter_eq_nil_iff]
  exact ⟨fun h y hy => by simpa using h y hy, fun h y hy => by simp [h y hy]⟩
theorem holds_w {rows : List (List Nat)} {a b : Nat} (h : (rows.map fun x => !(ones (pW a b x) rows).isEmpty).all id = true) : HoldsR rows ⟨false, a, b⟩ := by
  show ∀ x ∈ rows, ∃ y ∈ rows, y.getD b 0 = x.getD a 0
  intro x hx
  have z := List.all_eq_true.mp h _ (List.mem_map.mpr ⟨x, hx, rfl⟩)
  by_cases e : ∃ y ∈ rows, y.getD b 0 = x.getD a 0
  · exact e
  · have : (ones (pW a b x) rows).isEmpty = true := ones_nil.mpr fun y hy => decide_eq_false fun q => e ⟨y, hy, q⟩
    rw [this] at z
    cases z
theorem holds_s {rows : List (List Nat)} {a b : Nat} (h : (rows.map fun x => (ones (pS a b x) rows).isEmpty).all id = true) : HoldsR rows ⟨true, a, b⟩ := by
  show ∀ x ∈ rows, ∀ y ∈ rows, y.getD a 0 = x.getD a 0 → y.getD b 0 = x.getD b 0
  intro x hx y hy e
  have z := List.all_eq_true.mp h _ (List.mem_map.mpr ⟨x, hx, rfl⟩)
  have z2 := ones_nil.mp z y hy
  unfold pS at z2
  rw [decide_eq_true e, Bool.true_and] at z2
  by_cases q : y.getD b 0 = x.getD b 0
  · exact q
  · rw [decide_eq_false q] at z2
    cases z2
theorem holds_w_iff {rows : List (List Nat)} {a b : Nat} : (rows.map fun x => !(ones (pW a b x) rows).isEmpty).all id = true ↔ HoldsR rows ⟨false, a, b⟩ := by
  refine ⟨holds_w, fun h => List.all_eq_true.mpr fun t ht => ?_⟩
  obtain ⟨x, hx, rfl⟩ := List.mem_map.mp ht
  obtain ⟨y, hy, e⟩ := (h : ∀ x ∈ rows, ∃ y ∈ rows, y.getD b 0 = x.getD a 0) x hx
  cases z : (ones (pW a b x) rows).isEmpty with
  | false => rfl
  | true =>
    have := ones_nil.mp z y hy
    unfold pW at this
    rw [decide_eq_true e] at this
    cases this
theorem holds_s_iff {rows : List (List Nat)} {a b : Nat} : (rows.map fun x => (ones (pS a b x) rows).isEmpty).all id = true ↔ HoldsR rows ⟨true, a, b⟩ := by
  refine ⟨holds_s, fun h => List.all_eq_true.mpr fun t ht => ?_⟩
  obtain ⟨x, hx, rfl⟩ := List.mem_map.mp ht
  refine ones_nil.mpr fun y hy => ?_
  unfold pS
  by_cases e : y.getD a 0 = x.getD a 0
  · rw [decide_eq_true ((h : ∀ x ∈ rows, ∀ y ∈ rows, y.getD a 0 = x.getD a 0 → y.getD b 0 = x.getD b 0) x hx y hy e), Bool.not_true, Bool.and_false]
  · rw [decide_eq_false e, Bool.false_and]
def spHolds (K : PySem.W.Frag) : Sp := fun vs H Q _ => ∃ (g : Addr) (us : List V) (w : Nat) (rows : List (List Nat)) (v : V) (r : R), vs = [.ref g, v] ∧ SqL K H g us ∧ DpAll K H us (rows.map gd) ∧ (∀ x ∈ rows, RowOk w x) ∧ rows.length ≤ 400 ∧ Dp K H v r.d ∧ r.ok w ∧ ∀ (t : Bool) H', Same H H' → (t = true ↔ HoldsR rows r) → Q (.bl t) H'
section
variable {P : Program} {w : World} {K : PySem.W.Frag} {mg : Str → Option Value} {base : Heap} {kA : Addr}
abbrev nHo : List Str := ["_law_lines_here", "_law_rule", "_law_kind", "_law_a", "_law_b", "_law_row", "_law_same", "_law_other"]
theorem scHolds : FnScope nHo ["_law_lines_here", "_law_rule"] (defScope sHolds) := ⟨rfl, rfl, rfl, by decide +kernel, rfl, by decide +kernel, by decide +kernel⟩
theorem row_at {w : Nat} {x : List Nat} {c : Nat} (h : RowOk w x) (hc : c < w) : (nms x)[c]? = some (.int ((x.getD c 0 : Nat) : Int)) := by
  rw [nms, List.getElem?_map, List.getD_eq_getElem?_getD, List.getElem?_eq_getElem (by rw [h.1]; exact hc)]
  rfl
def condR (kk : Bool) (a b : Nat) (rows : List (List Nat)) (x : List Nat) : Prop := if kk = true then ones (pS a b x) rows = [] else ones (pW a b x) rows ≠ []
theorem condR_all {kk : Bool} {a b : Nat} {rows : List (List Nat)} : (∀ x ∈ rows, condR kk a b rows x) ↔ HoldsR rows ⟨kk, a, b⟩ := by
  cases kk with
  | true =>
    rw [← holds_s_iff, List.all_eq_true]
    constructor
    · intro h t ht
      obtain ⟨x, hx, rfl⟩ := List.mem_map.mp ht
      exact List.isEmpty_iff.mpr (h x hx)
    · intro h x hx
      exact List.isEmpty_iff.mp (h _ (List.mem_map.mpr ⟨x, hx, rfl⟩))
  | false =>
    rw [← holds_w_iff, List.all_eq_true]
    constructor
    · intro h t ht
      obtain ⟨x, hx, rfl⟩ := List.mem_map.mp ht
      have := h x hx
      cases e : (ones (pW a b x) rows).isEmpty with
      | false => rfl
      | true => exact absurd (List.isEmpty_iff.mp e) this
    · intro h x hx e
      have := h _ (List.mem_map.mpr ⟨x, hx, rfl⟩)
      rw [e] at this
      cases this
theorem ones_same (a b : Nat) (x : List Nat) (l : List (List Nat)) : ones (fun (y : List Nat) => !decide (y.getD b 0 = x.getD b 0)) (l.filter fun (y : List Nat) => decide (y.getD a 0 = x.getD a 0)) = ones (pS a b x) l := by
  unfold ones
  rw [List.filter_filter]
  congr 2
  funext y
  unfold pS
  rw [Bool.and_comm]
theorem ok_holds {f : Addr} {fd : FuncData} {k : Nat} (F : Fun K "_law_holds" "_law_holds" sHolds f fd) (T : Glb K mg kA) : FnOk P w K mg base CX0 (k + 1) f fd ["_law_lines_here", "_law_rule"] (spHolds K) := by
  refine F.ok scHolds (fun vs H Q E h => ?_) (fun cdv A outer s H vs Q E hr h => ?_)
  · obtain ⟨g, us, w, rows, v, r, rfl, _⟩ := h
    rfl
  · obtain ⟨g, us, w, rows, v, r, rfl, hg, dp, ok, few, dr, hr2, q⟩ := h
    have n := scHolds.nd
    have hu64 := Nat.lt_of_le_of_lt (Nat.le_trans (Nat.add_le_add_left (by decide : 64 ≤ 200) _) (Nat.add_le_add_right (Nat.le_add_right _ (16 * k)) 200)) hr.un
    refine ⟨_, (pss_cons (ps_asg (pv 1) (pg_tup rfl (pgs_cons (pg_name (i := 2) n rfl (.inl rfl)) (pgs_cons (pg_name (i := 3) n rfl (.inr rfl)) (pgs_cons (pg_name (i := 4) n rfl (.inr rfl)) pgs_nil)))))
      (pss_cons (ps_for PassesOwn.never rfl (pi_list (pv 0)) (pg_name (i := 5) n rfl (.inr rfl))
        (C8.pss_cut (ps_if (PW.pt (pw_and (pt_cmpR op_eq (pv 2) pe_str (nomark _)) (pw_and1 (pt_cmpR (op_eqD hu64) (pe_lc (own := [("_law_other", 7)]) (g := gName 7) (tt := tTest (tOp rEq (tOp (rIxT K) (tVar 7) (tVar 4)) (tOp (rIxT K) (tVar 5) (tVar 3)))) rfl n (pi_list (pv 0)) (blkOk_by (N := nHo) (sc := defScope sHolds) (by decide +kernel))
            (fun _ _ _ _ _ => (pg_name (i := 7) n rfl (.inl rfl))) (fun _ _ _ _ _ => pts_one (pt_cmpR op_eq (pe_ix ix_tup (pv 7) (pv 4) (fun _ _ => rfl)) (pe_ix ix_tup (pv 5) (pv 3) (fun _ _ => rfl)) (nomark _))) (fun _ _ _ _ _ => pe_int)) (pe_lst pa_nil) (nomark _)))))
          (pss_one (ps_ret pe_bl)) pss_nil)
        (pss_cons (ps_setLc (i := 6) (own := [("_law_other", 7)]) (g := gName 7) (tt := tTest (tOp rEq (tOp (rIxT K) (tVar 7) (tVar 3)) (tOp (rIxT K) (tVar 5) (tVar 3)))) rfl n rfl rfl (sw_true rfl rfl rfl (by decide +kernel)) (pi_list (pv 0)) (blkOk_by (N := nHo) (sc := defScope sHolds) (by decide +kernel))
            (fun _ _ _ _ _ => (pg_name (i := 7) n rfl (.inl rfl))) (fun _ _ _ _ _ => pts_one (pt_cmpR op_eq (pe_ix ix_tup (pv 7) (pv 3) (fun _ _ => rfl)) (pe_ix ix_tup (pv 5) (pv 3) (fun _ _ => rfl)) (nomark _))) (fun _ _ _ _ _ => (pv 7)))
        (pss_one (ps_if (PW.pt (pw_and (pt_cmpR op_eq (pv 2) pe_str (nomark _)) (pw_and1 (pt_cmpR (op_neD hu64) (pe_lc (own := [("_law_other", 7)]) (g := gName 7) (tt := tTest (tOp rNe (tOp (rIxT K) (tVar 7) (tVar 4)) (tOp (rIxT K) (tVar 5) (tVar 4)))) rfl n (pi_list (pv 6)) (blkOk_by (N := nHo) (sc := defScope sHolds) (by decide +kernel))
            (fun _ _ _ _ _ => (pg_name (i := 7) n rfl (.inl rfl))) (fun _ _ _ _ _ => pts_one (pt_cmpR op_ne (pe_ix ix_tup (pv 7) (pv 4) (fun _ _ => rfl)) (pe_ix ix_tup (pv 5) (pv 4) (fun _ _ => rfl)) (nomark _))) (fun _ _ _ _ _ => pe_int)) (pe_lst pa_nil) (nomark _)))))
          (pss_one (ps_ret pe_bl)) pss_nil)))))
      (pss_one (ps_ret pe_bl)))), ?_⟩
    obtain ⟨kk, a, b⟩ := r
    obtain ⟨tr, rfl, ht⟩ := dp_r dr
    have ul : us.length = rows.length := by rw [dps_len dp, List.length_map]
    have aw : a < w := hr2.1
    have bw : b < w := hr2.2.1
    have dv : ∀ i j : Nat, decide (V.int (i : Int) = V.int (j : Int)) = decide (i = j) := fun i j => by
      rw [decide_eq_decide]
      exact ⟨fun h => by injection h with h; omega, fun h => by rw [h]⟩
    refine ⟨_, rfl, tr, _, rfl, ht, rfl, _, _, rfl, _, _, rfl, _, _, rfl, rfl, ?_⟩
    refine ⟨_, rfl, g, rfl, ⟨_, hg⟩, ?_⟩
    refine for_list (xs := us) (fun i σ H1 => ∃ y5 y6 y7, σ = [some (.ref g), some (.ref tr), some (.str (kd kk)), some (.int (a : Int)), some (.int (b : Int)), y5, y6, y7] ∧ Same H H1 ∧ ∀ x ∈ rows.take i, condR kk a b rows x) ⟨none, none, none, rfl, Same.refl _, fun x hx => nomatch hx⟩ (fun i σ H1 _ ⟨_, _, _, _, s1, _⟩ => same_l s1 hg) ?_ ?_
    · rintro i v σ H1 hv ⟨y5, y6, y7, rfl, s1, done⟩
      obtain ⟨x, hx, dx⟩ := dps_gat dp hv
      have xo := ok x (List.mem_of_getElem? hx)
      have xm := List.mem_of_getElem? hx
      obtain ⟨tx, rfl, htx⟩ := gd_at (dp_same s1 _ _ dx)
      have out : ∀ H', Same H H' → ¬ condR kk a b rows x → Q (.bl false) H' := fun H' s' no => q false H' s' ⟨(fun h => nomatch h), fun h => absurd (condR_all.mpr h x xm) no⟩
      refine ⟨fun σ H2 => ∃ y6 y7, σ = [some (.ref g), some (.ref tr), some (.str (kd kk)), some (.int (a : Int)), some (.int (b : Int)), some (.ref tx), y6, y7] ∧ Same H1 H2 ∧ (kk = false → condR kk a b rows x), ?_, ?_⟩
      · cases kk with
        | true => exact ⟨_, rfl, rfl, _, rfl, iteF' (decide_eq_false (show ¬ V.str (kd true) = V.str "within" by decide +kernel)) (iteF ⟨_, _, rfl, Same.refl _, fun h => nomatch h⟩)⟩
        | false =>
          refine ⟨_, rfl, rfl, _, rfl, iteT' (decide_eq_true rfl) ?_⟩
          refine ⟨_, rfl, g, rfl, ⟨_, same_l s1 hg⟩, fun D2 nD2 => ?_⟩
          refine lc_list (xs := us) (fun j H2 => Same H1 (wo H2 D2) ∧ H2 D2 = some (.lst (nms (ones (pW a b x) (rows.take j))))) ⟨?_, upd_same⟩ (fun j H2 _ z => same_l (s1.trans (z.1.trans (wo_le D2))) hg) ?_ ?_
          · rw [wo_upd]
            exact fun b o e => by rw [wo_ne (ne_of_none e nD2)]; exact e
          · rintro j v2 H2 hv2 ⟨f1, f2⟩
            obtain ⟨y, hy, dy⟩ := dps_gat dp hv2
            have yo := ok y (List.mem_of_getElem? hy)
            have jl := (List.getElem?_eq_some_iff.mp hy).1
            have s2 : Same H H2 := s1.trans (f1.trans (wo_le D2))
            obtain ⟨ty, rfl, hty⟩ := gd_at (dp_same s2 _ _ dy)
            refine ⟨rfl, ?_⟩
            refine ⟨_, rfl, _, rfl, ty, _, _, _, rfl, rfl, hty, atI_nat (row_at yo bw), ?_⟩
            refine ⟨_, rfl, _, rfl, tx, _, _, _, rfl, rfl, same_t (f1.trans (wo_le D2)) htx, atI_nat (row_at xo aw), rfl, _, rfl, ?_⟩
            have em : decide (V.int ((y.getD b 0 : Nat) : Int) = V.int ((x.getD a 0 : Nat) : Int)) = pW a b x y := dv _ _
            cases e : pW a b x y with
            | true =>
              refine iteT' (em.trans e) ⟨_, f2, small1000 (by rw [nms_len]; have := ones_le (pW a b x) (rows.take j); rw [List.length_take] at this; omega), ?_, ?_⟩
              · rw [wo_upd]
                exact f1
              · rw [upd_same, take1 hy, ones_snoc, if_pos e, nms_app]
                rfl
            | false =>
              refine iteF' (em.trans e) ⟨f1, ?_⟩
              rw [f2, take1 hy, ones_snoc, if_neg (by rw [e]; exact Bool.false_ne_true)]
          rintro H2 ⟨f1, f2⟩
          rw [ul, List.take_length] at f2
          have s2 : Same H1 H2 := f1.trans (wo_le D2)
          refine ⟨Nat.zero_le _, fun t nt => ?_⟩
          have s3 : Same H2 (upd H2 t (.lst [])) := same_new nt
          refine ⟨lsN (ones (pW a b x) rows), .list [], dp_lsN (SqL.of (s3 _ _ f2)), .lst (SqL.of upd_same) .nil, lsN_shp _, nil_shp, _, rfl, ?_⟩
          rw [lsN_nil]
          cases e : (ones (pW a b x) rows).isEmpty with
          | true =>
            refine iteT (out _ (s1.trans (s2.trans s3)) fun z => z (List.isEmpty_iff.mp e))
          | false =>
            refine iteF ⟨_, _, rfl, s2.trans s3, fun _ z => ?_⟩
            rw [z] at e
            cases e
      rintro σ2 H2 ⟨y6', y7', rfl, s2, cw⟩
      have s02 := s1.trans s2
      refine ⟨_, rfl, g, rfl, ⟨_, same_l s02 hg⟩, fun D nD => ?_⟩
      refine lc_list (xs := us) (fun j H3 => Same H2 (wo H3 D) ∧ ∃ us2, H3 D = some (.lst us2) ∧ us2.length ≤ j ∧ DpAll K H2 us2 (((rows.take j).filter fun (y : List Nat) => decide (y.getD a 0 = x.getD a 0)).map gd)) ⟨?_, [], upd_same, Nat.zero_le _, .nil⟩ (fun j H3 _ z => same_l (s02.trans (z.1.trans (wo_le D))) hg) ?_ ?_
      · rw [wo_upd]
        exact fun b o e => by rw [wo_ne (ne_of_none e nD)]; exact e
      · rintro j v2 H3 hv2 ⟨f1, us2, f2, l2, d2⟩
        obtain ⟨y, hy, dy⟩ := dps_gat dp hv2
        have yo := ok y (List.mem_of_getElem? hy)
        have jl := (List.getElem?_eq_some_iff.mp hy).1
        have s3 : Same H H3 := s02.trans (f1.trans (wo_le D))
        have dy2 := dp_same s02 _ _ dy
        obtain ⟨ty, rfl, hty⟩ := gd_at (dp_same s3 _ _ dy)
        refine ⟨rfl, ?_⟩
        refine ⟨_, rfl, _, rfl, ty, _, _, _, rfl, rfl, hty, atI_nat (row_at yo aw), ?_⟩
        refine ⟨_, rfl, _, rfl, tx, _, _, _, rfl, rfl, same_t (s2.trans (f1.trans (wo_le D))) htx, atI_nat (row_at xo aw), rfl, _, rfl, ?_⟩
        rw [take1 hy, List.filter_append, List.map_append]
        by_cases e : y.getD a 0 = x.getD a 0
        · refine iteT' ((dv _ _).trans (decide_eq_true e)) ⟨_, rfl, _, f2, small1000 (by omega), ?_, us2 ++ [.ref ty], upd_same, by rw [List.length_append, List.length_singleton]; omega, ?_⟩
          · rw [wo_upd]
            exact f1
          · rw [List.filter_cons_of_pos (p := fun (y : List Nat) => decide (y.getD a 0 = x.getD a 0)) (decide_eq_true e)]
            exact dps_app d2 (.cons dy2 .nil)
        · refine iteF' ((dv _ _).trans (decide_eq_false e)) ⟨f1, us2, f2, by omega, ?_⟩
          rw [List.filter_cons_of_neg (by rw [decide_eq_false e]; decide), List.filter_nil, List.map_nil, List.append_nil]
          exact d2
      rintro H3 ⟨f1, us2, f2, l2, d2⟩
      rw [ul, List.take_length] at d2
      rw [ul] at l2
      have s3 : Same H2 H3 := f1.trans (wo_le D)
      have s03 := s02.trans s3
      have go : ∀ {y6 y7 : Option V} {H' : Hp}, Same H H' → condR kk a b rows x → ∃ y5 y6' y7', [some (V.ref g), some (.ref tr), some (.str (kd kk)), some (.int (a : Int)), some (.int (b : Int)), some (.ref tx), y6, y7] = [some (V.ref g), some (.ref tr), some (.str (kd kk)), some (.int (a : Int)), some (.int (b : Int)), y5, y6', y7'] ∧ Same H H' ∧ ∀ z ∈ rows.take (i + 1), condR kk a b rows z := fun {y6 y7 H'} s' c => ⟨_, _, _, rfl, s', fun z hz => by
        rw [take1 hx] at hz
        rcases List.mem_append.mp hz with e | e
        · exact done z e
        · rw [List.mem_singleton.mp e]
          exact c⟩
      cases kk with
      | false => exact ⟨_, rfl, rfl, _, rfl, iteF' (decide_eq_false (show ¬ V.str (kd false) = V.str "settles" by decide +kernel)) (iteF (go s03 (cw rfl)))⟩
      | true =>
        refine ⟨_, rfl, rfl, _, rfl, iteT' (decide_eq_true rfl) ?_⟩
        have d3 := dps_same s3 _ _ d2
        obtain ⟨rows2, er⟩ : ∃ l, l = rows.filter fun (y : List Nat) => decide (y.getD a 0 = x.getD a 0) := ⟨_, rfl⟩
        rw [← er] at d3
        have ul2 : us2.length = rows2.length := by rw [dps_len d3, List.length_map]
        refine ⟨_, rfl, D, rfl, ⟨_, SqL.of f2⟩, fun D2 nD2 => ?_⟩
        refine lc_list (xs := us2) (fun j H4 => Same H3 (wo H4 D2) ∧ H4 D2 = some (.lst (nms (ones (fun (y : List Nat) => !decide (y.getD b 0 = x.getD b 0)) (rows2.take j))))) ⟨?_, upd_same⟩ (fun j H4 _ z => SqL.of (z.1.trans (wo_le D2) _ _ f2)) ?_ ?_
        · rw [wo_upd]
          exact fun b o e => by rw [wo_ne (ne_of_none e nD2)]; exact e
        · rintro j v2 H4 hv2 ⟨h1, h2⟩
          obtain ⟨y, hy, dy⟩ := dps_gat d3 hv2
          have ym := List.mem_of_getElem? hy
          rw [er] at ym
          have yo := ok y (List.mem_filter.mp ym).1
          have jl := (List.getElem?_eq_some_iff.mp hy).1
          have s4 : Same H3 H4 := h1.trans (wo_le D2)
          obtain ⟨ty, rfl, hty⟩ := gd_at (dp_same s4 _ _ dy)
          refine ⟨rfl, ?_⟩
          refine ⟨_, rfl, _, rfl, ty, _, _, _, rfl, rfl, hty, atI_nat (row_at yo bw), ?_⟩
          refine ⟨_, rfl, _, rfl, tx, _, _, _, rfl, rfl, same_t (s2.trans (s3.trans s4)) htx, atI_nat (row_at xo bw), rfl, _, rfl, ?_⟩
          rw [take1 hy, ones_snoc]
          by_cases e : y.getD b 0 = x.getD b 0
          · refine iteF' (by rw [dv, decide_eq_true e]; rfl) ⟨h1, ?_⟩
            rw [h2, if_neg (by rw [decide_eq_true e]; decide)]
          · refine iteT' (by rw [dv, decide_eq_false e]; rfl) ⟨_, h2, small1000 (by rw [nms_len]; have := ones_le (fun (y : List Nat) => !decide (y.getD b 0 = x.getD b 0)) (rows2.take j); rw [List.length_take] at this; omega), ?_, ?_⟩
            · rw [wo_upd]
              exact h1
            · rw [upd_same, if_pos (by rw [decide_eq_false e]; rfl), nms_app]
              rfl
        rintro H4 ⟨h1, h2⟩
        rw [ul2, List.take_length, er, ones_same] at h2
        have s4 : Same H3 H4 := h1.trans (wo_le D2)
        refine ⟨Nat.zero_le _, fun t nt => ?_⟩
        have s5 : Same H4 (upd H4 t (.lst [])) := same_new nt
        refine ⟨lsN (ones (pS a b x) rows), .list [], dp_lsN (SqL.of (s5 _ _ h2)), .lst (SqL.of upd_same) .nil, lsN_shp _, nil_shp, _, rfl, ?_⟩
        rw [lsN_nil]
        cases e : (ones (pS a b x) rows).isEmpty with
        | true => exact iteF (go (s03.trans (s4.trans s5)) (List.isEmpty_iff.mp e))
        | false =>
          refine iteT (out _ (s03.trans (s4.trans s5)) fun z => ?_)
          rw [show ones (pS a b x) rows = [] from z] at e
          cases e
    · rintro σ H1 ⟨y5, y6, y7, rfl, s1, done⟩
      rw [ul, List.take_length] at done
      exact q true _ s1 ⟨fun _ => condR_all.mp done, fun _ => rfl⟩
end
end CC
namespace CC
open PySem L2 TL
abbrev sTText : Stmt := inClass (tp 40) 11
def spTText (K : PySem.W.Frag) (C : Addr) : Sp := fun vs H Q _ => ∃ (x : Addr) (w : Nat) (rows : List (List Nat)), vs = [.ref x] ∧ TableAt K C H x w rows ∧ w ≤ 6 ∧ (∀ r ∈ rows, RowOk w r) ∧ rows.length ≤ 400 ∧ ∀ H', Same H H' → Q (.str (textT rows)) H'
/-- table.text() -/
structure TxtTM (P : Program) (w : World) (K : PySem.W.Frag) (mg : Str → Option Value) (base : Heap) (C : Addr) (l : Nat) where
  f : Addr
  fd : FuncData
  m : Meth K C "text" f
  ok : ∀ k, l ≤ k → FnOk P w K mg base CX0 k f fd ["self"] (spTText K C)
  b : Binds K fd ["self"] []
def asgValT : Stmt → Expr
  | .Assign _ v _ => v
  | _ => .Constant .none 0 ⟨0, 0, 0, 0⟩
def tLnT : TE := fun σ H Q => tJs [tFmt (tVar 4), tC (.str "\n")] Str.empty σ H fun out H1 => Q (V.str out) H1
theorem emp_app (x : Str) : Str.empty ++ x = x := by
  refine ext_tl ?_
  show tl _ = tl _
  rw [tl_app]
  rfl
section
variable {P : Program} {w : World} {K : PySem.W.Frag} {mg : Str → Option Value} {base : Heap} {kA : Addr}
abbrev nTx2 : List Str := ["self", "lines", "row", "part", "line"]
theorem scTText : FnScope nTx2 ["self"] (defScope sTText) := ⟨rfl, rfl, rfl, by decide +kernel, rfl, by decide +kernel, by decide +kernel⟩
abbrev scTtI : Scope := lcScT (asgValT ((defBody sTText).getD 0 (.Pass ⟨0, 0, 0, 0⟩)))
theorem ok_ttext {f C : Addr} {fd : FuncData} {k : Nat} (F : Fun K "text" "Table.text" sTText f fd) (T : Glb K mg kA) (TC : TxtT K mg C) : FnOk P w K mg base CX0 (k + 1) f fd ["self"] (spTText K C) := by
  refine F.ok scTText (fun vs H Q E h => ?_) (fun cdv A outer s H vs Q E hr h => ?_)
  · obtain ⟨x, m, rows, rfl, _⟩ := h
    rfl
  · obtain ⟨x, m, rows, rfl, ⟨dx, g, us, h1, h2, h3⟩, w6, ok, few, q⟩ := h
    have n := scTText.nd
    refine ⟨_, (pss_cons (ps_setLc (i := 1) (own := [("row", 2)]) (g := gName 2) (tt := tYes) (te := tM1 (rJoin K) (tC (.str " ")) (tLc (iTup K (tVar 2)) (gName 3) tYes (tCB rStrI (tCons (tVar 3) tNil)) [3])) rfl n rfl rfl (sw_true rfl rfl rfl (by decide +kernel)) (pi_tup (pe_fld (pv 0) rfl)) (blkOk_by (N := nTx2) (sc := defScope sTText) (by decide +kernel))
    (fun _ _ _ _ _ => (pg_name (i := 2) n rfl (.inl rfl))) (fun _ _ _ _ _ => pts_nil) (fun _ _ _ _ _ => (pe_joinK pe_str (pe_lc (own := [("part", 3)]) (g := gName 3) (tt := tYes) rfl n (pi_tup (pv 2)) (blkOk_by (N := nTx2) (sc := relS scTtI (defScope sTText)) (by decide +kernel))
    (fun _ _ _ _ _ => (pg_name (i := 3) n rfl (.inl rfl))) (fun _ _ _ _ _ => pts_nil) (fun _ _ _ _ _ => (pe_callTy call_strI (by rfl) T.str (by decide +kernel) (pa_cons (pv 3) pa_nil)))))))
  (pss_one (ps_ret (pe_join pe_str (pe_lc (own := [("line", 4)]) (g := gName 4) (tt := tYes) (te := tLnT) rfl n (pi_list (pv 1)) (blkOk_by (N := nTx2) (sc := defScope sTText) (by decide +kernel))
    (fun _ _ _ _ _ => (pg_name (i := 4) n rfl (.inl rfl))) (fun _ _ _ _ _ => pts_nil) (fun _ _ _ _ _ => (pe_joined (.cons (pe_fmt (pv 4)) (.cons pe_str .nil))))))))), ?_⟩
    have ul : us.length = rows.length := by rw [dps_len h3, List.length_map]
    refine ⟨_, rfl, x, C, dx, _, _, rfl, h1, TC.cl, TC.nL, fldT_lines _ _, g, rfl, ⟨_, .inl (.inl h2)⟩, fun D nD => ?_⟩
    refine lc_tup (xs := us) (fun i H1 => Same H (wo H1 D) ∧ H1 D = some (.lst (((rows.take i).map rowS).map V.str))) ⟨?_, upd_same⟩ (fun i H1 _ z => .inl (.inl (wo_le D _ _ (z.1 _ _ h2)))) ?_ ?_
    · rw [wo_upd]
      exact fun b o e => by rw [wo_ne (ne_of_none e nD)]; exact e
    · rintro i v H1 hv ⟨e1, e2⟩
      obtain ⟨r, hr2, dr⟩ := dps_gat h3 hv
      have il := (List.getElem?_eq_some_iff.mp hr2).1
      have rok := ok r (List.mem_of_getElem? hr2)
      have s1 : Same H H1 := e1.trans (wo_le D)
      obtain ⟨t, rfl, ht⟩ := gd_at (dp_same s1 _ _ dr)
      have r1 := rok.1
      refine ⟨rfl, yes_if ⟨⟨_, rfl⟩, _, rfl, t, rfl, ⟨_, ht⟩, fun D2 nD2 => ?_⟩⟩
      refine lc_tup (xs := nms r) (fun j H2 => Same H1 (wo H2 D2) ∧ H2 D2 = some (.lst (((r.take j).map num).map V.str))) ⟨?_, upd_same⟩ (fun j H2 _ z => same_t (z.1.trans (wo_le D2)) ht) ?_ ?_
      · rw [wo_upd]
        exact fun b o e => by rw [wo_ne (ne_of_none e nD2)]; exact e
      · rintro j y H2 hy ⟨f1, f2⟩
        obtain ⟨c, hc, rfl⟩ := nms_get? hy
        have jl := (List.getElem?_eq_some_iff.mp hc).1
        refine ⟨rfl, yes_if ⟨_, rfl, c, rfl, rok.2 c (List.mem_of_getElem? hc), _, f2, small1000 (by rw [List.length_map, List.length_map, List.length_take]; omega), ?_, ?_⟩⟩
        · rw [wo_upd]
          exact f1
        · rw [upd_same, take1 hc, List.map_append, List.map_append]
          rfl
      rintro H2 ⟨f1, f2⟩
      rw [nms_len, List.take_length] at f2
      have s2 : Same H1 H2 := f1.trans (wo_le D2)
      have sm : ((r.map num).map (·.length)).sum ≤ 4 * ((r.map num).map (·.length)).length := sum_le _ fun x hx => by
        obtain ⟨y, hy, rfl⟩ := List.mem_map.mp hx
        obtain ⟨c, hc, rfl⟩ := List.mem_map.mp hy
        exact num_len (rok.2 c hc)
      rw [List.length_map, List.length_map] at sm
      refine ⟨_, D2, r.map num, rfl, rfl, .inl (SqL.of f2), ?_, ?_⟩
      · have e0 : ((" " : Str)).length = 1 := by decide +kernel
        show ((r.map num).map (·.length)).sum + (r.map num).length * ((" " : Str)).length ≤ 16777216
        rw [e0, List.length_map]
        omega
      refine ⟨_, s2 _ _ e2, small1000 (by rw [List.length_map, List.length_map, List.length_take]; omega), ?_, ?_⟩
      · rw [wo_upd]
        exact e1.trans (wo_same s2)
      · rw [upd_same, take1 hr2, List.map_append, List.map_append]
        rfl
    rintro H1 ⟨e1, e2⟩
    rw [ul, List.take_length] at e2
    have s1 : Same H H1 := e1.trans (wo_le D)
    have rl : ∀ r ∈ rows, (rowS r ++ "\n").length ≤ 31 := fun r hr => by
      have rl := rowS_len (ok r hr) w6
      rw [len_tl] at rl
      rw [len_tl, tl_app, List.length_append]
      have e : (tl ("\n" : Str)).length = 1 := by decide +kernel
      omega
    have big : ∀ {n : Nat}, n ≤ 40 → n ≤ sizeLine := fun h => Nat.le_trans h (by decide)
    refine ⟨⟨_, rfl⟩, _, rfl, D, rfl, ⟨_, SqL.of e2⟩, fun D4 nD4 => ?_⟩
    refine lc_list (xs := (rows.map rowS).map V.str) (fun i H2 => Same H1 (wo H2 D4) ∧ H2 D4 = some (.lst (((rows.take i).map fun r => rowS r ++ "\n").map V.str))) ⟨?_, upd_same⟩ (fun i H2 _ z => SqL.of (wo_le D4 _ _ (z.1 _ _ e2))) ?_ ?_
    · rw [wo_upd]
      exact fun b o e => by rw [wo_ne (ne_of_none e nD4)]; exact e
    · rintro i v H2 hv ⟨f1, f2⟩
      obtain ⟨r, hr2, rfl⟩ : ∃ r, rows[i]? = some r ∧ v = .str (rowS r) := by
        rw [List.getElem?_map, List.getElem?_map] at hv
        cases z : rows[i]? with
        | none => rw [z] at hv; cases hv
        | some r => rw [z] at hv; exact ⟨r, rfl, (Option.some.inj hv).symm⟩
      have rm := List.mem_of_getElem? hr2
      have il := (List.getElem?_eq_some_iff.mp hr2).1
      have l1 := rl r rm
      have l2 := rowS_len (ok r rm) w6
      refine ⟨rfl, yes_if ⟨_, rfl, .inl ⟨_, rfl, big (by omega), _, rfl, big (by rw [emp_app]; omega), _, rfl, big (by rw [emp_app]; omega), ?_⟩⟩⟩
      refine ⟨_, f2, small1000 (by rw [List.length_map, List.length_map, List.length_take]; omega), ?_, ?_⟩
      · rw [wo_upd]
        exact f1
      · rw [upd_same, take1 hr2, List.map_append, List.map_append]
        show some (HO.lst (_ ++ [V.str (Str.empty ++ rowS r ++ "\n")])) = some (HO.lst (_ ++ [V.str (rowS r ++ "\n")]))
        rw [emp_app]
    rintro H2 ⟨f1, f2⟩
    rw [List.length_map, List.length_map, List.take_length] at f2
    have sm : ((rows.map fun r => rowS r ++ "\n").map (·.length)).sum ≤ 31 * ((rows.map fun r => rowS r ++ "\n").map (·.length)).length := sum_le _ fun x hx => by
      obtain ⟨y, hy, rfl⟩ := List.mem_map.mp hx
      obtain ⟨r, hr, rfl⟩ := List.mem_map.mp hy
      exact rl r hr
    rw [List.length_map, List.length_map] at sm
    refine ⟨_, D4, rows.map (fun r => rowS r ++ "\n"), rfl, rfl, .inl (SqL.of f2), ?_, q H2 (s1.trans (f1.trans (wo_le D4)))⟩
    have e0 : (Str.ofString "").length = 0 := by decide +kernel
    rw [e0, Nat.mul_zero]
    omega
end
end CC
namespace CC
open PySem L2
abbrev sAll : Stmt := tp 49
def rowP (w a : Nat) : List (Nat × Nat) := ((List.range w).filter fun b => decide (a ≠ b)).map fun b => (a, b)
def allP (w : Nat) : List (Nat × Nat) := (List.range w).flatMap fun a => rowP w a
def toR (k : Bool) (p : Nat × Nat) : R := ⟨k, p.1, p.2⟩
theorem allP_R {w : Nat} (h : w ≤ 6) : (allP w).map (toR true) ++ (allP w).map (toR false) = allR w ∧ (allP w).length ≤ 30 := by
  have z : ∀ w : Fin 7, ((allP w.1).map (toR true) ++ (allP w.1).map (toR false) = allR w.1) ∧ (allP w.1).length ≤ 30 := by decide +kernel
  exact z ⟨w, by omega⟩
theorem rowP_len (w a : Nat) : (rowP w a).length ≤ w := by
  unfold rowP
  rw [List.length_map]
  have := List.length_filter_le (fun b => decide (a ≠ b)) (List.range w)
  rw [List.length_range] at this
  exact this
theorem prds_at {K : PySem.W.Frag} {H : Hp} {us : List V} {ps : List (Nat × Nat)} {i : Nat} {v : V} (h : DpAll K H us (ps.map prd)) (e : us[i]? = some v) : ∃ p, ps[i]? = some p ∧ Dp K H v (prd p) := by
  obtain ⟨d, h1, h2⟩ := dps_at h e
  rw [List.getElem?_map] at h1
  cases q : ps[i]? with
  | none => rw [q] at h1; cases h1
  | some m =>
    rw [q] at h1
    cases h1
    exact ⟨m, rfl, h2⟩
section
variable {P : Program} {w : World} {K : PySem.W.Frag} {mg : Str → Option Value} {base : Heap} {kA : Addr}
abbrev nAl : List Str := ["_law_width", "_law_pairs", "_law_a", "_law_b"]
theorem scAll : FnScope nAl ["_law_width"] (defScope sAll) := ⟨rfl, rfl, rfl, by decide +kernel, rfl, by decide +kernel, by decide +kernel⟩
theorem ok_all {f : Addr} {fd : FuncData} {k : Nat} (F : Fun K "_law_all" "_law_all" sAll f fd) (T : Glb K mg kA) : FnOk P w K mg base CX0 (k + 1) f fd ["_law_width"] (spAll K) := by
  refine F.ok scAll (fun vs H Q E h => ?_) (fun cdv A outer s H vs Q E hr h => ?_)
  · obtain ⟨z, rfl, _⟩ := h
    rfl
  · obtain ⟨z, rfl, hz, q⟩ := h
    have n := scAll.nd
    refine ⟨_, (pss_cons (ps_set (i := 1) n rfl (.inl rfl) (pe_lst pa_nil))
      (pss_cons (ps_for PassesOwn.never rfl (pi_range1 (by rfl) T.rng (pa_cons (pv 0) pa_nil)) (pg_name (i := 2) n rfl (.inr rfl))
        (pss_one (ps_expr (pe_bm PySem.F.plainAttrs_list PySem.F.slot_list_extend PySem.F.type_list_extend mt_extend (pv 1) (pa_cons (pe_lc (own := [("_law_b", 3)]) (g := gName 3) (tt := tTest (tOp rNe (tVar 3) (tVar 2))) rfl n (pi_range1 (by rfl) T.rng (pa_cons (pv 0) pa_nil)) (blkOk_by (N := nAl) (sc := defScope sAll) (by decide +kernel))
          (fun _ _ _ _ _ => (pg_name (i := 3) n rfl (.inl rfl))) (fun _ _ _ _ _ => pts_one (pt_cmpR op_ne (pv 3) (pv 2) (nomark _))) (fun _ _ _ _ _ => (pe_tup (pa_cons (pv 2) (pa_cons (pv 3) pa_nil))))) pa_nil)))))
      (pss_one (ps_ret (pe_op op_cat (pe_lc (own := [("_law_a", 2), ("_law_b", 3)]) (g := g2 K 2 3) (tt := tYes) rfl n (pi_list (pv 1)) (blkOk_by (N := nAl) (sc := defScope sAll) (by decide +kernel))
          (fun _ _ _ _ _ => (pg_tup rfl (pgs_cons (pg_name (i := 2) n rfl (.inl rfl)) (pgs_cons (pg_name (i := 3) n rfl (.inl rfl)) pgs_nil)))) (fun _ _ _ _ _ => pts_nil) (fun _ _ _ _ _ => (pe_tup (pa_cons pe_str (pa_cons (pv 2) (pa_cons (pv 3) pa_nil))))))
        (pe_lc (own := [("_law_a", 2), ("_law_b", 3)]) (g := g2 K 2 3) (tt := tYes) rfl n (pi_list (pv 1)) (blkOk_by (N := nAl) (sc := defScope sAll) (by decide +kernel))
          (fun _ _ _ _ _ => (pg_tup rfl (pgs_cons (pg_name (i := 2) n rfl (.inl rfl)) (pgs_cons (pg_name (i := 3) n rfl (.inl rfl)) pgs_nil)))) (fun _ _ _ _ _ => pts_nil) (fun _ _ _ _ _ => (pe_tup (pa_cons pe_str (pa_cons (pv 2) (pa_cons (pv 3) pa_nil))))))))))), ?_⟩
    have ez : ((z : Nat) : Int).toNat = z := by omega
    refine ⟨Nat.zero_le _, fun fo nfo => ?_⟩
    refine ⟨_, rfl, _, rfl, by omega, by omega, ?_⟩
    refine for_range (lo := 0) (n := ((z : Nat) : Int).toNat) (fun j σ H3 => ∃ y2 y3, σ = [some (.int (z : Int)), some (.ref fo), y2, y3] ∧ MadeF prd K H fo (6 * j) H3 ((List.range j).flatMap fun a => rowP z a)) ⟨none, none, rfl, MadeF.start⟩ ?_ ?_
    · rintro j σ H3 hj ⟨y2, y3, rfl, p3⟩
      obtain ⟨us3, _, hfo, _, l3⟩ := id p3
      refine ⟨_, rfl, .inl ⟨rfl, _, SqL.of hfo⟩, _, rfl, _, rfl, by omega, by omega, fun D nD => ?_⟩
      have fD : fo ≠ D := ne_of_none hfo nD
      refine lc_range (lo := 0) (n := ((z : Nat) : Int).toNat) (fun l H4 => MadeF prd K H3 D l H4 (((List.range l).filter fun b => decide (j ≠ b)).map fun b => (j, b))) MadeF.start ?_ ?_
      · intro l H4 hl p4
        refine ⟨rfl, _, rfl, _, rfl, rfl, _, rfl, ?_⟩
        rw [Int.zero_add, Int.zero_add, List.range_succ, List.filter_append, List.map_append]
        rw [show (!decide (V.int (l : Int) = V.int (j : Int))) = decide (l ≠ j) from int_ne _ _]
        by_cases e : j = l
        · have e2 : decide (l ≠ j) = false := by rw [e]; simp
          rw [e2, List.filter_cons_of_neg (p := fun b => decide (j ≠ b)) (by rw [decide_eq_false (fun z => z e)]; decide)]
          exact iteF (p4.up (by omega) (by simp))
        · have e2 : decide (l ≠ j) = true := decide_eq_true (fun h => e h.symm)
          rw [e2, List.filter_cons_of_pos (p := fun b => decide (j ≠ b)) (decide_eq_true e), List.filter_nil]
          refine iteT ⟨_, rfl, _, rfl, (by show 2 ≤ sizeLine; decide), fun t nt => ?_⟩
          exact p4.push (r := (j, l)) (by omega) (Nat.lt_succ_self _) (same_new nt) (p_dp (p4.tup nt))
      · intro H4 p4
        rw [ez] at p4
        have o4 := p4.old nD
        obtain ⟨zs, _, hD, dz, zl⟩ := p4
        refine ⟨fo, D, us3, zs, rfl, rfl, o4 _ _ hfo, hD, Nat.le_of_lt (small1000 (by omega)), _, _, rfl, ?_⟩
        rw [List.range_succ, List.flatMap_append]
        have fin := p3.extend (rs2 := rowP z j) (m := 6 * (j + 1)) hfo o4 (zs := zs) ?_ (by omega)
        · simpa using fin
        · exact prds_T ((same_T (wo_le D)).trans (wo_T (o4 _ _ hfo))) dz
    · rintro σ H3 ⟨y2, y3, rfl, p3⟩
      rw [ez] at p3
      have o3 := p3.old nfo
      obtain ⟨us, _, hfo, dps, l3⟩ := id p3
      have dps3 : DpAll K H3 us ((allP z).map prd) := dps_same (wo_le fo) _ _ dps
      have ul : us.length = (allP z).length := by rw [dps_len dps3, List.length_map]
      obtain ⟨eR, l30⟩ := allP_R hz
      refine ⟨_, rfl, fo, rfl, ⟨_, SqL.of hfo⟩, fun D nD => ?_⟩
      refine lc_list (xs := us) (fun l H4 => MadeF R.d K H3 D l H4 (((allP z).take l).map (toR true))) MadeF.start (fun l H4 _ z => SqL.of (z.old nD _ _ hfo)) ?_ ?_
      · rintro l v H4 hv p4
        obtain ⟨p, hp, dp⟩ := prds_at dps3 hv
        have il := (List.getElem?_eq_some_iff.mp hp).1
        obtain ⟨t, rfl, ht⟩ := dp_p (dp_same (p4.old nD) _ _ dp)
        refine ⟨t, _, rfl, ht, rfl, _, _, rfl, _, _, rfl, rfl, rfl, yes_if ⟨_, rfl, _, rfl, (by show 3 ≤ sizeLine; decide), fun t2 nt => ?_⟩⟩
        rw [SG.take_one hp, List.map_append]
        exact p4.push (r := toR true p) (by omega) (Nat.lt_succ_self _) (same_new nt) (r_dp (r := toR true p) (p4.tup nt))
      rintro H4 p4
      rw [ul, List.take_length] at p4
      have o4 := p4.old nD
      obtain ⟨u1, _, hD4, d4, l4⟩ := id p4
      refine ⟨_, rfl, fo, rfl, ⟨_, SqL.of (o4 _ _ hfo)⟩, fun D2 nD2 => ?_⟩
      refine lc_list (xs := us) (fun l H5 => MadeF R.d K H4 D2 l H5 (((allP z).take l).map (toR false))) MadeF.start (fun l H5 _ z => SqL.of (z.old nD2 _ _ (o4 _ _ hfo))) ?_ ?_
      · rintro l v H5 hv p5
        obtain ⟨p, hp, dp⟩ := prds_at dps3 hv
        have il := (List.getElem?_eq_some_iff.mp hp).1
        obtain ⟨t, rfl, ht⟩ := dp_p (dp_same (o4.trans (p5.old nD2)) _ _ dp)
        refine ⟨t, _, rfl, ht, rfl, _, _, rfl, _, _, rfl, rfl, rfl, yes_if ⟨_, rfl, _, rfl, (by show 3 ≤ sizeLine; decide), fun t2 nt => ?_⟩⟩
        rw [SG.take_one hp, List.map_append]
        exact p5.push (r := toR false p) (by omega) (Nat.lt_succ_self _) (same_new nt) (r_dp (r := toR false p) (p5.tup nt))
      rintro H5 p5
      rw [ul, List.take_length] at p5
      have o5 := p5.old nD2
      obtain ⟨u2, _, hD5, d5, l5⟩ := id p5
      refine ⟨D, D2, u1, u2, rfl, rfl, o5 _ _ hD4, hD5, Nat.le_of_lt (small1000 (by omega)), fun D3 n3 => ?_⟩
      have sF : Same H H5 := o3.trans (o4.trans o5)
      refine q D3 (u1 ++ u2) _ (sF.trans (same_new n3)) (sF.free n3) upd_same ?_
      rw [wo_upd, ← eR, List.map_append]
      have s' : Same H5 (wo H5 D3) := fun b o e => by rw [wo_ne (ne_of_none e n3)]; exact e
      exact dps_app (dps_same (((wo_le D).trans o5).trans s') _ _ d4) (dps_same ((wo_le D2).trans s') _ _ d5)
end
end CC
/-! data that may be shown and compared: weight at most m, depth at most n -/
namespace GD
open PySem L2
structure SD (m n : Nat) (d : PyData) : Prop where
  lay : d.canLay0 = true
  shw : d.showable = true
  lvs : d.leavesShort 13 = true
  dep : d.depth ≤ n
  wt : d.weight ≤ m
theorem SD.up {m n m' n' : Nat} {d : PyData} (h : SD m n d) (h1 : m ≤ m') (h2 : n ≤ n') : SD m' n' d := ⟨h.lay, h.shw, h.lvs, Nat.le_trans h.dep h2, Nat.le_trans h.wt h1⟩
theorem SD.non : SD 0 0 .none := ⟨by simp [PyData.canLay0], by simp [PyData.showable], by simp [PyData.leavesShort], by simp [PyData.depth], by simp [PyData.weight]⟩
theorem SD.bl (b : Bool) : SD 0 0 (.bool b) := ⟨by simp [PyData.canLay0], by simp [PyData.showable], by simp [PyData.leavesShort], by simp [PyData.depth], by simp [PyData.weight]⟩
theorem SD.nat {n : Nat} (hn : n < 1000000) : SD 20 0 (.int (n : Int)) := by
  have hl : n.log2 < 20 := by
    by_cases z : n = 0
    · subst z; decide
    · exact (Nat.log2_lt z).mpr (by omega)
  have hl2 : (n : Int).natAbs.log2 < 1920 := by
    rw [Int.natAbs_natCast]
    omega
  refine ⟨by simp [PyData.canLay0], ?_, ?_, by simp [PyData.depth], ?_⟩
  · unfold PyData.showable
    exact decide_eq_true hl2
  · unfold PyData.leavesShort
    refine decide_eq_true ?_
    show (Str.ofString (toString (n : Int))).length ≤ 13
    have e := int_text_length_le10 (a := (n : Int)) (k := 6) (by decide) (by rw [Int.natAbs_natCast]; exact hn)
    rw [ofString_length]
    omega
  · unfold PyData.weight
    rw [Int.natAbs_natCast]
    split <;> omega
theorem SD.int {i : Int} (h0 : 0 ≤ i) (h1 : i < 1000000) : SD 20 0 (.int i) := by
  obtain ⟨n, rfl⟩ : ∃ n : Nat, i = (n : Int) := ⟨i.toNat, by omega⟩
  exact SD.nat (by omega)
theorem SD.str {x : Str} {m : Nat} (h : PyData.strOk x = true) (hl : x.length ≤ m) (hc : ∀ c ∈ x.cps.toList, c < 16 ^ 8) : SD m 0 (.str x) := by
  refine ⟨by simp [PyData.canLay0, h], by simp [PyData.showable], ?_, by simp [PyData.depth], ?_⟩
  · simpa only [PyData.leavesShort, List.all_eq_true, decide_eq_true_eq] using hc
  · simp only [PyData.weight]
    exact hl
theorem SD.all {m n : Nat} : ∀ {ds : List PyData}, (∀ d ∈ ds, SD m n d) → PyData.canLayAll0 ds = true ∧ PyData.showableAll ds = true ∧ PyData.leavesShortAll 13 ds = true ∧ PyData.depthAll ds ≤ n ∧ PyData.weightAll ds ≤ ds.length * (m + 1)
  | [], _ => by simp [PyData.canLayAll0, PyData.showableAll, PyData.leavesShortAll, PyData.depthAll, PyData.weightAll]
  | d :: ds, h => by
    have h1 := h d List.mem_cons_self
    obtain ⟨a1, a2, a3, a4, a5⟩ := SD.all (ds := ds) fun e he => h e (List.mem_cons_of_mem _ he)
    have := h1.dep
    have := h1.wt
    refine ⟨?_, ?_, ?_, ?_, ?_⟩
    · simp [PyData.canLayAll0, h1.lay, a1]
    · simp [PyData.showableAll, h1.shw, a2]
    · simp [PyData.leavesShortAll, h1.lvs, a3]
    · simp only [PyData.depthAll]; omega
    · simp only [PyData.weightAll, List.length_cons, Nat.add_mul]; omega
theorem SD.list {m n k : Nat} {ds : List PyData} (h : ∀ d ∈ ds, SD m n d) (hk : ds.length ≤ k) : SD (k * (m + 1)) (n + 1) (.list ds) := by
  obtain ⟨a1, a2, a3, a4, a5⟩ := SD.all h
  have : ds.length * (m + 1) ≤ k * (m + 1) := Nat.mul_le_mul_right _ hk
  refine ⟨by simp [PyData.canLay0, a1], by simp [PyData.showable, a2], by simp [PyData.leavesShort, a3], ?_, ?_⟩
  · simp only [PyData.depth]; omega
  · simp only [PyData.weight]; omega
theorem SD.tuple {m n k : Nat} {ds : List PyData} (h : ∀ d ∈ ds, SD m n d) (hk : ds.length ≤ k) : SD (k * (m + 1)) (n + 1) (.tuple ds) := by
  obtain ⟨a1, a2, a3, a4, a5⟩ := SD.all h
  have : ds.length * (m + 1) ≤ k * (m + 1) := Nat.mul_le_mul_right _ hk
  refine ⟨by simp [PyData.canLay0, a1], by simp [PyData.showable, a2], by simp [PyData.leavesShort, a3], ?_, ?_⟩
  · simp only [PyData.depth]; omega
  · simp only [PyData.weight]; omega
theorem SD.shaped {m n : Nat} {d : PyData} (h : SD m n d) (hn : n ≤ 64) : SeqAt.shaped d = true := by
  show (d.canLay0 && decide (d.depth ≤ 64)) = true
  rw [h.lay, Bool.true_and]
  exact decide_eq_true (Nat.le_trans h.dep hn)
theorem SD.fits {m n : Nat} {d : PyData} (h : SD m n d) (hm : m ≤ 2 ^ 20) : d.shown.length ≤ sizeLine := PyData.shown_fits (B := 13) (by decide) (by decide) h.lvs (Nat.le_trans h.wt hm)
theorem SD.nodict {m n : Nat} {d : PyData} (h : SD m n d) : d.hasDict = false := PyData.hasDict_of_canLay d h.lay
end GD
namespace GD
open PySem L2 CC
/-- a def that keeps a promise where nothing is being shown -/
structure CalG (P : Program) (w : World) (K : PySem.W.Frag) (mg : Str → Option Value) (base : Heap) (x : Str) (ps : List Str) (sp : Sp) (l : Nat) where
  f : Addr
  fd : FuncData
  ok : ∀ k, l ≤ k → FnG P w K mg base CX0 k f fd ps sp
  kp : PySem.W.keepIn K (.ref f) = true
  b : Binds K fd ps []
  g : mg x = some (.ref f)
def calG {P : Program} {w : World} {K : PySem.W.Frag} {mg : Str → Option Value} {base : Heap} {x : Str} {st : Stmt} {ps : List Str} {sp : Sp} {l : Nat} (d : Df K mg x st ps) (h : ∀ k, FnG P w K mg base CX0 (k + l) d.f d.fd ps sp) : CalG P w K mg base x ps sp l :=
  ⟨d.f, d.fd, fun k hk => (Nat.sub_add_cancel hk) ▸ h (k - l), d.F.kp, d.b, d.g⟩
/-- two values that are the same data -/
def spEqD (K : PySem.W.Frag) : Sp := fun vs H Q _ => ∃ (v u : V) (d : PyData), vs = [v, u] ∧ Dp K H v d ∧ Dp K H u d ∧ SD 1000000 64 d ∧ Q (.bl true) H
theorem hu66 {k : Nat} {A : Around} (hr : Room k A) : A.units + 66 < cLine := by
  have := hr.un
  omega
end GD
namespace CC
open PySem L2 TL
abbrev sIsEq : Stmt := tp 46
section
variable {P : Program} {w : World} {K : PySem.W.Frag} {mg : Str → Option Value} {base : Heap} {kA : Addr}
theorem scIsEq : FnScope ["_law_actual", "_law_expected"] ["_law_actual", "_law_expected"] (defScope sIsEq) := ⟨rfl, rfl, rfl, by decide +kernel, rfl, by decide +kernel, by decide +kernel⟩
theorem ok_iseq {f : Addr} {fd : FuncData} {k : Nat} (F : Fun K "_law_is_equal" "_law_is_equal" sIsEq f fd) (T : Glb K mg kA) : FnOk P w K mg base CX0 (k + 1) f fd ["_law_actual", "_law_expected"] spIsEq := by
  refine F.ok scIsEq (fun vs H Q E h => ?_) (fun cdv A outer s H vs Q E hr h => ?_)
  · obtain ⟨b, c, rfl, _⟩ := h
    rfl
  · obtain ⟨b, c, rfl, q⟩ := h
    refine ⟨_, pss_one (ps_ret (pe_cmpR op_eq (pe_callB call_repr_bl (by rfl) T.rep (by decide +kernel) (pa_cons (pv 0) pa_nil)) (pe_callB call_repr_bl (by rfl) T.rep (by decide +kernel) (pa_cons (pv 1) pa_nil)) (nomark _))), ?_⟩
    refine ⟨_, rfl, b, rfl, _, rfl, c, rfl, rfl, ?_⟩
    have e : decide (V.str (if b then "True" else "False") = V.str (if c then "True" else "False")) = (b == c) := by
      cases b <;> cases c <;> decide +kernel
    show Q (.bl (decide (V.str (if b then "True" else "False") = V.str (if c then "True" else "False")))) H
    rw [e]
    exact q
end
end CC
namespace GD
open PySem L2 CC
section
variable {P : Program} {w : World} {K : PySem.W.Frag} {mg : Str → Option Value} {base : Heap} {kA : Addr}
theorem ok_iseqD {f : Addr} {fd : FuncData} {k : Nat} (F : Fun K "_law_is_equal" "_law_is_equal" sIsEq f fd) (T : Glb K mg kA) : FnG P w K mg base CX0 (k + 1) f fd ["_law_actual", "_law_expected"] (spEqD K) := by
  refine fun_okG F scIsEq (fun vs H Q E h => ?_) (fun cdv A outer s H vs Q E calm hr h => ?_)
  · obtain ⟨v, u, d, rfl, _⟩ := h
    rfl
  · obtain ⟨v, u, d, rfl, dv, du, sd, q⟩ := h
    have hu := hu66 hr
    refine ⟨_, pss_one (ps_ret (pe_cmpR op_eq (pe_callB (call_reprD calm hu) (by rfl) T.rep (by decide +kernel) (pa_cons (pv 0) pa_nil)) (pe_callB (call_reprD calm hu) (by rfl) T.rep (by decide +kernel) (pa_cons (pv 1) pa_nil)) (nomark _))), ?_⟩
    have fit := sd.fits (by decide)
    refine ⟨_, rfl, v, d, rfl, dv, sd.shw, sd.nodict, sd.dep, fit, _, rfl, u, d, rfl, du, sd.shw, sd.nodict, sd.dep, fit, rfl, ?_⟩
    show Q (.bl (decide (V.str d.shown = V.str d.shown))) H
    rw [decide_eq_true rfl]
    exact q
end
end GD
namespace CC
open PySem L2
theorem sd_r {w : Nat} {r : R} (hw : w ≤ 6) (h : r.ok w) : GD.SD 63 1 r.d := by
  refine GD.SD.tuple (m := 20) (n := 0) (k := 3) (fun d hd => ?_) (by show 3 ≤ 3; decide)
  have h1 := h.1
  have h2 := h.2.1
  rcases List.mem_cons.mp hd with rfl | hd
  · cases r.k
    · exact GD.SD.str (by decide +kernel) (by decide +kernel) (by decide +kernel)
    · exact GD.SD.str (by decide +kernel) (by decide +kernel) (by decide +kernel)
  · rcases List.mem_cons.mp hd with rfl | hd
    · exact GD.SD.nat (by omega)
    · rcases List.mem_cons.mp hd with rfl | hd
      · exact GD.SD.nat (by omega)
      · cases hd
theorem sd_rs {w : Nat} {rs : List R} (hw : w ≤ 6) (ho : ∀ r ∈ rs, r.ok w) (hl : rs.length ≤ 60) : GD.SD 3840 2 (.list (rs.map R.d)) :=
  GD.SD.list (m := 63) (n := 1) (k := 60) (fun d hd => by
    obtain ⟨r, hr, rfl⟩ := List.mem_map.mp hd
    exact sd_r hw (ho r hr)) (by rw [List.length_map]; exact hl)
theorem eqvAll_rs : ∀ m l : List R, PyData.eqvAll (m.map R.d) (l.map R.d) = decide (m = l)
  | [], [] => by simp [PyData.eqvAll]
  | [], _ :: _ => by simp [PyData.eqvAll]
  | _ :: _, [] => by simp [PyData.eqvAll]
  | x :: m, y :: l => by
    simp only [List.map_cons, PyData.eqvAll, eqvAll_rs m l, rd_eqv]
    by_cases h : x = y
    · subst h
      simp
    · simp [h]
theorem rs_eqv (m l : List R) : PyData.eqv (.list (m.map R.d)) (.list (l.map R.d)) = decide (m = l) := by
  simp only [PyData.eqv]
  exact eqvAll_rs m l
theorem RulesAt.ran {K : PySem.W.Frag} {C : Addr} {H H' : Hp} {x s : Addr} {w : Nat} {rs : List R} (h : RulesAt K C H x w rs) (hs : Src H s) (r : Ran H H' s) (T : SameT H H') : RulesAt K C H' x w rs := by
  obtain ⟨o, hs1, a, b, c, rfl, _⟩ := hs
  obtain ⟨dx, g, us, h1, h2, h3⟩ := h
  exact ⟨dx, g, us, r.at_ h1 (ne_of h1 hs1 (by intro z; cases z)), r.at_ h2 (ne_of h2 hs1 (by intro z; cases z)), rds_T T h3⟩
end CC
namespace CC
open PySem L2 TL
/-- Table(width, *rows), the rows good ones -/
theorem mkT_go {K : PySem.W.Frag} {C : Addr} {H : Hp} {w : Nat} {us : List V} {rows : List (List Nat)} {x dx : Addr} {Q : VK} {E : XK} (w1 : 1 ≤ w) (w6 : w ≤ 6) (ok : ∀ r ∈ rows, RowOk w r) (few : rows.length ≤ 400) (dp : DpAll K H us (rows.map gd)) (nx : H x = none) (ndx : H dx = none) (ne : dx ≠ x)
    (q : ∀ H', Same H H' → TableAt K C H' x w rows → Q .non H') : spTInitR K C (V.ref x :: V.int (w : Int) :: (us ++ [])) (upd (upd H dx (.own x)) x (.ins C dx [])) Q E := by
  have ul : us.length = rows.length := by rw [dps_len dp, List.length_map]
  rw [List.append_nil]
  refine ⟨[.ref x, .int (w : Int)], us, rfl, rfl, Nat.le_of_lt (small1000 (by omega)), fun g ng => ?_⟩
  have gx : x ≠ g := fun z => by rw [← z, upd_same] at ng; cases ng
  have gdx : dx ≠ g := fun z => by rw [← z, upd_ne ne, upd_same] at ng; cases ng
  have ng1 : H g = none := by
    rw [upd_ne gx.symm, upd_ne gdx.symm] at ng
    exact ng
  have keep : ∀ b o, H b = some o → (upd (upd (upd H dx (.own x)) x (.ins C dx [])) g (.tup us)) b = some o := fun b o e => by
    rw [upd_ne (ne_of_none e ng1), upd_ne (ne_of_none e nx), upd_ne (ne_of_none e ndx)]
    exact e
  refine ⟨x, dx, w, g, us, rows, rfl, by rw [upd_ne gx]; exact upd_same, w1, w6, upd_same, dps_same ?_ _ _ dp, ok, few, fun H' k1 k2 => q H' ?_ ⟨dx, g, us, k2, ?_, ?_⟩⟩
  · exact fun b o e => by
      rw [wo_ne (ne_of_none e nx)]
      exact keep b o e
  · exact fun b o e => k1 b o (keep b o e) (ne_of_none e nx)
  · exact k1 g _ upd_same gx.symm
  · exact dps_same (fun b o e => k1 b o (keep b o e) (ne_of_none e nx)) _ _ dp
end CC
namespace CC
open PySem L2
/-- the heap without some objects -/
def wos (H : Hp) (l : List Addr) : Hp := fun b => if b ∈ l then none else H b
section
variable {H H' H2 : Hp} {l m : List Addr} {b s : Addr} {o : HO}
theorem wos_in (h : b ∉ l) : wos H l b = H b := if_neg h
theorem wos_at (h : wos H l b = some o) : b ∉ l ∧ H b = some o := by
  by_cases e : b ∈ l
  · unfold wos at h
    rw [if_pos e] at h
    cases h
  · exact ⟨e, (wos_in e).symm.trans h⟩
theorem wos_le (l : List Addr) : Same (wos H l) H := fun b o e => (wos_at e).2
theorem wos_mono (h : ∀ b ∈ l, b ∈ m) : Same (wos H m) (wos H l) := fun b o e => by
  obtain ⟨n, e⟩ := wos_at e
  rw [wos_in fun z => n (h b z)]
  exact e
/-- all that stands, but for l, stays -/
def Kp (l : List Addr) (H H' : Hp) : Prop := ∀ b o, H b = some o → b ∉ l → H' b = some o
theorem Kp.same (k : Kp l H H') : Same (wos H l) (wos H' l) := fun b o e => by
  obtain ⟨n, e⟩ := wos_at e
  rw [wos_in n]
  exact k b o e n
theorem Kp.to (k : Kp l H H') : Same (wos H l) H' := k.same.trans (wos_le l)
theorem Kp.trans (a : Kp l H H') (c : Kp l H' H2) : Kp l H H2 := fun b o e n => c b o (a b o e n) n
theorem Kp.up (k : Kp l H H') (h : ∀ b ∈ l, b ∈ m) : Kp m H H' := fun b o e n => k b o e fun z => n (h b z)
theorem Kp.of (e : Same H H') : Kp l H H' := fun b o q _ => e b o q
theorem Kp.upd (h : s ∈ l) : Kp l H (L2.upd H s o) := fun b u e n => by
  rw [upd_ne (a := s) (b := b) fun z => n (by rw [z]; exact h)]
  exact e
theorem Kp.new (h : H s = none) : Kp l H (L2.upd H s o) := .of (same_new h)
theorem Kp.ran (r : Ran H H' s) (h : s ∈ l) : Kp l H H' := fun b o e n => r.at_ e fun z => n (by rw [z]; exact h)
theorem Same.kp (e : Same H H') (k : Kp l H' H2) : Kp l H H2 := fun b o q n => k b o (e b o q) n
theorem wos_nil : wos H [] = H := by
  funext b
  exact wos_in (by simp)
theorem wo_wos : wo H s = wos H [s] := by
  funext b
  by_cases e : b = s
  · subst e
    rw [wo_at]
    unfold wos
    rw [if_pos (List.mem_singleton.mpr rfl)]
  · rw [wo_ne e, wos_in (by simpa using e)]
end
end CC
namespace CC
open PySem L2 TL
/-! ### a log: its rules, its table, the tables that were -/
def fldL (b h p : Addr) : List (Str × V) := [("book", .ref b), ("held", .ref h), ("past", .ref p)]
theorem putF_at (f : Str) (v u : V) (r : List (Str × V)) : putF f v ((f, u) :: r) = (f, v) :: r := if_pos rfl
theorem putF_on {f g : Str} (n : ¬ g = f) (v u : V) (r : List (Str × V)) : putF f v ((g, u) :: r) = (g, u) :: putF f v r := if_neg n
theorem putF_len (f : Str) (v : V) : ∀ fs : List (Str × V), (putF f v fs).length ≤ fs.length + 1
  | [] => Nat.le_refl _
  | (g, x) :: r => by
    show (if g = f then (g, v) :: r else (g, x) :: putF f v r).length ≤ _
    split
    · exact Nat.le_succ _
    · exact Nat.succ_le_succ (putF_len f v r)
theorem n_bh : ¬ (("book" : Str) = "held") := by decide +kernel
theorem n_bp : ¬ (("book" : Str) = "past") := by decide +kernel
theorem n_hp : ¬ (("held" : Str) = "past") := by decide +kernel
theorem fldL_put (b h p : Addr) : putF "past" (.ref p) (putF "held" (.ref h) (putF "book" (.ref b) [])) = fldL b h p := by
  show putF "past" (.ref p) (putF "held" (.ref h) [("book", .ref b)]) = _
  rw [putF_on n_bh]
  show putF "past" (.ref p) [("book", .ref b), ("held", .ref h)] = _
  rw [putF_on n_bp, putF_on n_hp]
  rfl
theorem fldL_held (b h p t : Addr) : putF "held" (.ref t) (fldL b h p) = fldL b t p := by
  unfold fldL
  rw [putF_on n_bh, putF_at]
theorem fldL_at (b h p : Addr) (m : Str) : (fldL b h p).lookup m = if m = "past" then some (.ref p) else if m = "held" then some (.ref h) else if m = "book" then some (.ref b) else none := by
  rw [← fldL_put, lookup_putF, lookup_putF, lookup_putF]
  rfl
theorem fldL_b (b h p : Addr) : (fldL b h p).lookup ("book" : Str) = some (.ref b) := by
  rw [fldL_at, if_neg n_bp, if_neg n_bh, if_pos rfl]
theorem fldL_h (b h p : Addr) : (fldL b h p).lookup ("held" : Str) = some (.ref h) := by
  rw [fldL_at, if_neg n_hp, if_pos rfl]
theorem fldL_p (b h p : Addr) : (fldL b h p).lookup ("past" : Str) = some (.ref p) := by
  rw [fldL_at, if_pos rfl]
theorem fldL_no (b h p : Addr) {m : Str} (h1 : ¬ m = "past") (h2 : ¬ m = "held") (h3 : ¬ m = "book") : (fldL b h p).lookup m = none := by
  rw [fldL_at, if_neg h1, if_neg h2, if_neg h3]
/-- a log at x: r its rules, t its table, q the list of the tables that were -/
structure LogAt (K : PySem.W.Frag) (C CR CT : Addr) (H : Hp) (x r q : Addr) (w : Nat) (rs : List R) (rows : List (List Nat)) (n : Nat) : Prop where
  at_ : ∃ dx t, H x = some (.ins C dx (fldL r t q)) ∧ TableAt K CT (wos H [x, q]) t w rows
  book : RulesAt K CR (wos H [x, q]) r w rs
  past : ∃ hs, H q = some (.lst hs) ∧ hs.length = n
theorem LogAt.ne {K : PySem.W.Frag} {C CR CT : Addr} {H : Hp} {x r q : Addr} {w n : Nat} {rs : List R} {rows : List (List Nat)} (h : LogAt K C CR CT H x r q w rs rows n) : x ≠ q := by
  obtain ⟨dx, t, h1, _⟩ := h.at_
  obtain ⟨hs, h2, _⟩ := h.past
  exact ne_of h1 h2 (by intro z; cases z)
theorem LogAt.keep {K : PySem.W.Frag} {C CR CT : Addr} {H H' : Hp} {x r q : Addr} {w n : Nat} {rs : List R} {rows : List (List Nat)} (h : LogAt K C CR CT H x r q w rs rows n) (e : Same H H') : LogAt K C CR CT H' x r q w rs rows n := by
  obtain ⟨⟨dx, t, h1, h2⟩, h3, ⟨hs, h4, h5⟩⟩ := h
  have k : Same (wos H [x, q]) (wos H' [x, q]) := (Kp.of e).same
  exact ⟨⟨dx, t, e _ _ h1, h2.same k⟩, h3.same k, ⟨hs, e _ _ h4, h5⟩⟩
/-- a change elsewhere, s say -/
theorem LogAt.kp {K : PySem.W.Frag} {C CR CT : Addr} {H H' : Hp} {x r q : Addr} {w n : Nat} {rs : List R} {rows : List (List Nat)} {l : List Addr} (k : Kp l H H') (nx : x ∉ l) (nq : q ∉ l) (at_ : ∃ dx t, H x = some (.ins C dx (fldL r t q)) ∧ TableAt K CT (wos H (x :: q :: l)) t w rows) (book : RulesAt K CR (wos H (x :: q :: l)) r w rs) (past : ∃ hs, H q = some (.lst hs) ∧ hs.length = n) : LogAt K C CR CT H' x r q w rs rows n := by
  obtain ⟨dx, t, h1, h2⟩ := at_
  obtain ⟨hs, h4, h5⟩ := past
  have k2 : Same (wos H (x :: q :: l)) (wos H' [x, q]) := fun b o e => by
    obtain ⟨nb, e⟩ := wos_at e
    rw [wos_in fun z => nb (by simp only [List.mem_cons, List.not_mem_nil, or_false] at z ⊢; rcases z with z | z; exact .inl z; exact .inr (.inl z))]
    exact k b o e fun z => nb (List.mem_cons_of_mem _ (List.mem_cons_of_mem _ z))
  exact ⟨⟨dx, t, k _ _ h1 nx, h2.same k2⟩, book.same k2, ⟨hs, k _ _ h4 nq, h5⟩⟩
structure TxtL (K : PySem.W.Frag) (mg : Str → Option Value) (C : Addr) : Prop where
  cl : Cls K C
  nB : NoAttr K C "book"
  nH : NoAttr K C "held"
  nP : NoAttr K C "past"
  mgC : mg "Log" = some (.ref C)
/-- a class of logs: Log, or one below it -/
structure TxtC (K : PySem.W.Frag) (C : Addr) : Prop where
  cl : Cls K C
  nB : NoAttr K C "book"
  nH : NoAttr K C "held"
  nP : NoAttr K C "past"
theorem TxtL.c {K : PySem.W.Frag} {mg : Str → Option Value} {C : Addr} (h : TxtL K mg C) : TxtC K C := ⟨h.cl, h.nB, h.nH, h.nP⟩
/-- a method of an own class, by its promise -/
structure MthG (P : Program) (w : World) (K : PySem.W.Frag) (mg : Str → Option Value) (base : Heap) (C : Addr) (n : Str) (ps : List Str) (sp : Sp) (l : Nat) where
  f : Addr
  fd : FuncData
  m : Meth K C n f
  ok : ∀ k, l ≤ k → FnOk P w K mg base CX0 k f fd ps sp
  b : Binds K fd ps []
/-- a property of an own class, by its promise, from a level on -/
structure PrpL (P : Program) (w : World) (K : PySem.W.Frag) (mg : Str → Option Value) (base : Heap) (C : Addr) (f : Str) (sp : Sp) (l : Nat) where
  p : Addr
  g : Addr
  fd : FuncData
  hp : PropOf K C f p g
  ok : ∀ k, l ≤ k → FnOk P w K mg base CX0 k g fd ["self"] sp
  b : Binds K fd ["self"] []
/-- C(a) -/
structure MakeG (P : Program) (w : World) (K : PySem.W.Frag) (mg : Str → Option Value) (base : Heap) (C : Addr) (ps : List Str) (sp : Sp) (l : Nat) where
  f : Addr
  fd : FuncData
  M : Mk K C f
  ok : ∀ k, l ≤ k → FnOk P w K mg base CX0 k f fd ps sp
  b : Binds K fd ps []
end CC
namespace CC
open PySem L2 TL
def spLChk (K : PySem.W.Frag) : Sp := fun vs H Q _ => ∃ (x p : Addr) (us : List V), vs = [.ref x, .ref p] ∧ (SqL K H p us ∨ SqT K H p us) ∧ us.length ≤ 400 ∧ Q .non H
def spLChg (K : PySem.W.Frag) (C : Addr) : Sp := fun vs H Q _ => ∃ (x dx r t q t' : Addr) (hs : List V), vs = [.ref x, .ref t'] ∧ H x = some (.ins C dx (fldL r t q)) ∧ H q = some (.lst hs) ∧ hs.length < 1000 ∧ Q .non (upd (upd H q (.lst (hs ++ [.ref t]))) x (.ins C dx (fldL r t' q)))
section
variable {P : Program} {w : World} {K : PySem.W.Frag} {mg : Str → Option Value} {base : Heap} {kA : Addr}
end
end CC
namespace CC
open PySem L2 TL
/-- the log at x has changed: another table, the old one behind the others -/
def LogTo (K : PySem.W.Frag) (C CR CT : Addr) (H : Hp) (x r q : Addr) (w : Nat) (rs : List R) (rows : List (List Nat)) (n : Nat) (Q : VK) : Prop := ∀ H', Kp [x, q] H H' → LogAt K C CR CT H' x r q w rs rows n → Q .non H'
def spLAdd (K : PySem.W.Frag) (C CR CT : Addr) : Sp := fun vs H Q _ => ∃ (x r q tr : Addr) (w : Nat) (rs : List R) (rows : List (List Nat)) (row : List Nat) (n : Nat), vs = [.ref x, .ref tr] ∧ LogAt K C CR CT H x r q w rs rows n ∧ 1 ≤ w ∧ w ≤ 6 ∧ SqT K (wos H [x, q]) tr (nms row) ∧ RowOk w row ∧ (∀ x ∈ rows, RowOk w x) ∧ rows.length < 400 ∧ n < 1000 ∧
  LogTo K C CR CT H x r q w rs (rows ++ [row]) (n + 1) Q
/-- an own object and a list are no tuples -/
theorem wos2_T {H : Hp} {x q C dx : Addr} {fs : List (Str × V)} {hs : List V} (hx : H x = some (.ins C dx fs)) (hq : H q = some (.lst hs)) : SameT H (wos H [x, q]) := by
  have key : ∀ b o, H b = some o → o ≠ .ins C dx fs → o ≠ .lst hs → wos H [x, q] b = some o := fun b o e n1 n2 => by
    have bx : b ≠ x := fun z => by rw [z, hx] at e; exact n1 (Option.some.inj e).symm
    have bq : b ≠ q := fun z => by rw [z, hq] at e; exact n2 (Option.some.inj e).symm
    rw [wos_in (by simp [bx, bq])]
    exact e
  exact ⟨fun b xs e => key b _ e (by intro z; cases z) (by intro z; cases z), fun b o xs e => key b _ e (by intro z; cases z) (by intro z; cases z)⟩
/-- what change leaves -/
theorem changed {K : PySem.W.Frag} {C CR CT : Addr} {H H1 H2 : Hp} {x r q dx t t' : Addr} {w n : Nat} {rs : List R} {rows rows' : List (List Nat)} {hs : List V} {Q : VK} (L : LogAt K C CR CT H x r q w rs rows n) (s1 : Same H H1) (s2 : Same H1 H2) (hx : H x = some (.ins C dx (fldL r t q))) (hq : H q = some (.lst hs)) (hl : hs.length = n) (nt : H1 t' = none) (tt : TableAt K CT H2 t' w rows') (to : LogTo K C CR CT H x r q w rs rows' (n + 1) Q) : Q .non (upd (upd H2 q (.lst (hs ++ [.ref t]))) x (.ins C dx (fldL r t' q))) := by
  have xq := L.ne
  have s02 := s1.trans s2
  have key : Same (wos H2 [x, q]) (wos (upd (upd H2 q (.lst (hs ++ [.ref t]))) x (.ins C dx (fldL r t' q))) [x, q]) := fun b o e => by
    obtain ⟨n1, e⟩ := wos_at e
    have bx : b ≠ x := fun z => n1 (by simp [z])
    have bq : b ≠ q := fun z => n1 (by simp [z])
    rw [wos_in n1, upd_ne bx, upd_ne bq]
    exact e
  refine to _ (fun b o e n1 => ?_) ⟨⟨dx, t', upd_same, ?_⟩, L.book.same (((Kp.of s02).same).trans key), hs ++ [.ref t], ?_, by rw [List.length_append, hl]; rfl⟩
  · have bx : b ≠ x := fun z => n1 (by simp [z])
    have bq : b ≠ q := fun z => n1 (by simp [z])
    rw [upd_ne bx, upd_ne bq]
    exact s02 _ _ e
  · obtain ⟨dt, g, us, h1, h2, h3⟩ := tt
    have a1 : t' ≠ x := fun z => by rw [z, s1 _ _ hx] at nt; cases nt
    have a2 : t' ≠ q := fun z => by rw [z, s1 _ _ hq] at nt; cases nt
    have a3 : g ≠ x := ne_of h2 (s02 _ _ hx) (by intro z; cases z)
    have a4 : g ≠ q := ne_of h2 (s02 _ _ hq) (by intro z; cases z)
    refine TableAt.same ⟨dt, g, us, ?_, ?_, gds_T (wos2_T (s02 _ _ hx) (s02 _ _ hq)) h3⟩ key
    · rw [wos_in (by simp [a1, a2])]
      exact h1
    · rw [wos_in (by simp [a3, a4])]
      exact h2
  · rw [upd_ne xq.symm]
    exact upd_same
section
variable {P : Program} {w : World} {K : PySem.W.Frag} {mg : Str → Option Value} {base : Heap} {kA : Addr}
abbrev nLAdd : List Str := ["self", "row", "rows"]
end
end CC
namespace CC
open PySem L2 TL
section
variable {K : PySem.W.Frag} {C CR CT : Addr} {H H' : Hp} {a p x r q g l : Addr} {w n : Nat} {ns : List Int} {rs : List R} {rows rows' : List (List Nat)}
/-- a draw leaves a log as it is -/
theorem LogAt.ran (L : LogAt K C CR CT H x r q w rs rows n) (src : Src H p) (qp : q ≠ p) (e : Ran H H' p) : LogAt K C CR CT H' x r q w rs rows n := by
  obtain ⟨o, hp, z1, z2, z3, rfl, _⟩ := id src
  have T := e.T src
  obtain ⟨⟨dx, t, h1, dt, gt, ut, t1, t2, t3⟩, ⟨dr, gr, ur, r1, r2, r3⟩, ⟨hs, h4, h5⟩⟩ := L
  have key : ∀ b o, wos H [x, q] b = some o → o ≠ .lst [.int z1, .int z2, .int z3] → wos H' [x, q] b = some o := fun b o eb no => by
    obtain ⟨nb, eb⟩ := wos_at eb
    rw [wos_in nb]
    exact e.at_ eb fun z => no (by rw [z, hp] at eb; exact (Option.some.inj eb).symm)
  have TT : SameT (wos H [x, q]) (wos H' [x, q]) := ⟨fun b xs e => key b _ e (by intro z; cases z), fun b o xs e => key b _ e (by intro z; cases z)⟩
  exact ⟨⟨dx, t, e.at_ h1 (ne_of h1 hp (by intro z; cases z)), dt, gt, ut, key _ _ t1 (by intro z; cases z), key _ _ t2 (by intro z; cases z), gds_T TT t3⟩, ⟨dr, gr, ur, key _ _ r1 (by intro z; cases z), key _ _ r2 (by intro z; cases z), rds_T TT r3⟩, ⟨hs, e.at_ h4 qp, h5⟩⟩
/-- a change of the log leaves tuples -/
theorem LogAt.T (L : LogAt K C CR CT H x r q w rs rows n) (k : Kp [x, q] H H') : SameT H H' := by
  obtain ⟨⟨dx, t, h1, _⟩, _, ⟨hs, h4, _⟩⟩ := L
  have T := wos2_T h1 h4
  exact T.trans (same_T k.to)
/-- the script, the source, the log and the rules that are given -/
structure Wld (K : PySem.W.Frag) (C CR CT : Addr) (H : Hp) (a p x r q g : Addr) (w : Nat) (ns : List Int) (rs : List R) (rows : List (List Nat)) (n : Nat) : Prop where
  scr : SqL K (wos H [p, x, q]) a (ns.map V.int)
  src : Src H p
  log : LogAt K C CR CT H x r q w rs rows n
  qp : q ≠ p
  giv : ∃ ug, H g = some (.tup ug) ∧ DpAll K H ug (rs.map R.d)
theorem Wld.grow (W : Wld K C CR CT H a p x r q g w ns rs rows n) (e : Same H H') : Wld K C CR CT H' a p x r q g w ns rs rows n := by
  obtain ⟨ug, g1, g2⟩ := W.giv
  obtain ⟨o, s1, s2⟩ := W.src
  exact ⟨same_l (Kp.of e).same W.scr, ⟨o, e _ _ s1, s2⟩, W.log.keep e, W.qp, ug, e _ _ g1, dps_same e _ _ g2⟩
theorem Wld.run (W : Wld K C CR CT H a p x r q g w ns rs rows n) (e : Ran H H' p) : Wld K C CR CT H' a p x r q g w ns rs rows n := by
  obtain ⟨ug, g1, g2⟩ := W.giv
  have T := e.T W.src
  exact ⟨same_l (Kp.ran e (by simp)).same W.scr, e.src, W.log.ran W.src W.qp e, W.qp, ug, T.tup _ _ g1, rds_T T g2⟩
theorem Wld.xp (W : Wld K C CR CT H a p x r q g w ns rs rows n) : x ≠ p := by
  obtain ⟨o, hp, z1, z2, z3, rfl, _⟩ := W.src
  obtain ⟨dx, t, h1, _⟩ := W.log.at_
  exact ne_of h1 hp (by intro z; cases z)
theorem Wld.chg {n' : Nat} (W : Wld K C CR CT H a p x r q g w ns rs rows n) (k : Kp [x, q] H H') (L : LogAt K C CR CT H' x r q w rs rows' n') : Wld K C CR CT H' a p x r q g w ns rs rows' n' := by
  obtain ⟨ug, g1, g2⟩ := W.giv
  have T := W.log.T k
  obtain ⟨o, s1, s2⟩ := W.src
  refine ⟨same_l (k.up fun b hb => ?_).same W.scr, ⟨o, k _ _ s1 ?_, s2⟩, L, W.qp, ug, T.tup _ _ g1, rds_T T g2⟩
  · exact List.mem_cons_of_mem _ hb
  · simp only [List.mem_cons, List.not_mem_nil, or_false, not_or]
    exact ⟨W.xp.symm, W.qp.symm⟩
/-- a list of rows beside them -/
structure Lst (K : PySem.W.Frag) (H : Hp) (p q l : Addr) (rows : List (List Nat)) : Prop where
  np : l ≠ p
  nq : l ≠ q
  at_ : ∃ ul, H l = some (.lst ul) ∧ DpAll K H ul (rows.map gd)
theorem Lst.grow (L : Lst K H p q l rows) (e : Same H H') : Lst K H' p q l rows := by
  obtain ⟨ul, h1, h2⟩ := L.at_
  exact ⟨L.np, L.nq, ul, e _ _ h1, dps_same e _ _ h2⟩
theorem Lst.run (L : Lst K H p q l rows) (src : Src H p) (e : Ran H H' p) : Lst K H' p q l rows := by
  obtain ⟨ul, h1, h2⟩ := L.at_
  exact ⟨L.np, L.nq, ul, e.at_ h1 L.np, gds_T (e.T src) h2⟩
theorem Lst.chg (L : Lst K H p q l rows) (G : LogAt K C CR CT H x r q w rs rows' n) (k : Kp [x, q] H H') : Lst K H' p q l rows := by
  obtain ⟨ul, h1, h2⟩ := L.at_
  obtain ⟨dx, t, hx, _⟩ := G.at_
  refine ⟨L.np, L.nq, ul, k _ _ h1 ?_, gds_T (G.T k) h2⟩
  simp only [List.mem_cons, List.not_mem_nil, or_false, not_or]
  exact ⟨ne_of h1 hx (by intro z; cases z), L.nq⟩
theorem Lst.len (L : Lst K H p q l rows) {ul : List V} (h : H l = some (.lst ul)) : ul.length = rows.length := by
  obtain ⟨vl, h1, h2⟩ := L.at_
  rw [h] at h1
  cases h1
  rw [dps_len h2, List.length_map]
end
theorem sdt_rs {w : Nat} {rs : List R} (hw : w ≤ 6) (ho : ∀ r ∈ rs, r.ok w) (hl : rs.length ≤ 60) : GD.SD 3840 2 (.tuple (rs.map R.d)) :=
  GD.SD.tuple (m := 63) (n := 1) (k := 60) (fun d hd => by
    obtain ⟨r, hr, rfl⟩ := List.mem_map.mp hd
    exact sd_r hw (ho r hr)) (by rw [List.length_map]; exact hl)
theorem sdt_shp (rs : List R) : SeqAt.shaped (.tuple (rs.map R.d)) = true := by
  have := rds_shaped rs
  simpa [SeqAt.shaped, PyData.canLay0, PyData.depth] using this
end CC
namespace CC
open PySem L2 TL
abbrev sLaw : Stmt := tp 54
def spLaw (K : PySem.W.Frag) : Sp := fun vs H Q _ => ∃ (a : Addr) (ns : List Int), vs = [.ref a] ∧ SqL K H a (ns.map V.int) ∧ ns.length ≤ 63 ∧ ∀ H', Q (.bl true) H'
theorem new_view {H : Hp} {p : Addr} {o : HO} (h : H p = none) : Same H (wo (upd H p o) p) := fun b u e => by
  rw [wo_ne (ne_of_none e h), upd_ne (ne_of_none e h)]
  exact e
theorem call_tupK {X : Cx} : CallR X (.type "tuple") (rTupOf X.K) := call_tuple_of
theorem fldT_tx (w : Nat) (g : Addr) : (fldT w g).lookup ("text" : Str) = none := by
  unfold fldT flT0
  rw [lookup_putF, if_neg (by decide +kernel), lookup_putF, if_neg (by decide +kernel)]
  rfl
section
variable {P : Program} {w : World} {K : PySem.W.Frag} {mg : Str → Option Value} {base : Heap} {kA : Addr}
abbrev nLw : List Str := ["_law_script", "_law_k", "_law_source_here", "_law_lap", "_law_width", "_law_most", "_law_value", "_law_lines_here", "_law_table", "_law_due", "_law_rule", "_law_made", "_law_told"]
theorem scLaw : FnScope nLw ["_law_script"] (defScope sLaw) := ⟨rfl, rfl, rfl, by decide +kernel, rfl, by decide +kernel, by decide +kernel⟩
theorem ok_law {k : Nat} {C CR CE f : Addr} {fd : FuncData} (F : Fun K "law" "law" sLaw f fd) (T : Glb K mg kA) (TC : TxtT K mg C) (TR : Txt1 K mg CR) (gE : mg "ColumnError" = some (.ref CE)) (ic : C8.InsC K CR) (rd : ReadT P w K mg base C 5) (ob : ObeyT P w K mg base CR C 6) (clT : CallT P w K mg base C 4) (txT : TxtTM P w K mg base C 1)
    (pW : Prp P w K mg base CR "width" "span") (pR : Prp P w K mg base CR "rules" "given") (cG : Cal P w K mg base "_law_are_great_ones_right" [] spGr 7)
    (cS : Cal P w K mg base "_law_source" ["_law_cell_here"] spSource 1) (cK : Cal P w K mg base "_law_cell" ["_law_script", "_law_index"] (spCell K) 1) (cV : Cal P w K mg base "_law_draw" ["_law_source_here", "_law_many"] spDraw2 1) (cH : Cal P w K mg base "_law_choose" ["_law_source_here", "_law_values"] (spChoose K) 2)
    (cN : Cal P w K mg base "_law_lines" ["_law_source_here", "_law_width", "_law_most", "_law_value"] (spLines K) 2) (cX : Cal P w K mg base "_law_text" ["_law_lines_here"] (spTTx K) 1) (cA : Cal P w K mg base "_law_all" ["_law_width"] (spAll K) 1) (cO : Cal P w K mg base "_law_holds" ["_law_lines_here", "_law_rule"] (spHolds K) 1) (cE : GD.CalG P w K mg base "_law_is_equal" ["_law_actual", "_law_expected"] (GD.spEqD K) 1) : GD.FnG P w K mg base CX0 (k + 8) f fd ["_law_script"] (spLaw K) := by
  have GG := cG.ok (k + 7) (by omega)
  have GS := cS.ok (k + 7) (by omega)
  have GK := cK.ok (k + 7) (by omega)
  have GV := cV.ok (k + 7) (by omega)
  have GH := cH.ok (k + 7) (by omega)
  have GN := cN.ok (k + 7) (by omega)
  have GX := cX.ok (k + 7) (by omega)
  have GA := cA.ok (k + 7) (by omega)
  have GHo := cO.ok (k + 7) (by omega)
  have GE := cE.ok (k + 7) (by omega)
  have GR := rd.ok (k + 7) (by omega)
  have GOb := ob.ok (k + 7) (by omega)
  have GC := clT.ok (k + 7) (by omega)
  have GTx := txT.ok (k + 7) (by omega)
  refine GD.fun_okG F scLaw (fun vs H Q E h => ?_) (fun cdv A outer s H vs Q E calm hr h => ?_)
  · obtain ⟨a, ns, rfl, _⟩ := h
    rfl
  · obtain ⟨a, ns, rfl, ha, hl, q⟩ := h
    have n := scLaw.nd
    have hu65 : (A.deeper (PyProof.Rows.envOfC (Str.ofString "law") (defScope sLaw) s.heap.objs.size f cdv)).units + 65 < cLine := by
      have := hr.un
      omega
    refine ⟨_, (pss_one (ps_try_only rfl rfl ⟨rfl, by decide, .inl gE⟩ takes0 (fun W pn xe tk po => (pss_cons (ps_if (pt_not (pt_val (pe_call0 GG hr rfl cG.g cG.kp cG.b .nil pass0))) (pss_one (ps_ret pe_bl)) pss_nil)
      (pss_cons (ps_for po rfl (pi_range1 (by rfl) T.rng (pa_cons (pe_callB (call_max2 rfl) (by rfl) T.max (by decide +kernel) (pa_cons pe_int (pa_cons (pe_callB (call_min2 rfl) (by rfl) T.min (by decide +kernel) (pa_cons (pe_callB (r := rLenSq K) call_lenSq (by rfl) T.len PySem.boot_len (pa_cons (pv 0) pa_nil)) (pa_cons pe_int pa_nil))) pa_nil))) pa_nil)) (pg_name (i := 1) n rfl (.inl rfl))
      (pss_cons (ps_set (i := 2) n rfl (.inl rfl) (pe_call GS hr rfl cS.g cS.kp cS.b .nil pass0 (pa_cons (pe_call GK hr rfl cK.g cK.kp cK.b .nil pass0 (pa_cons (pv 0) (pa_cons (pv 1) pa_nil))) pa_nil)))
      (pss_one (ps_for po rfl (pi_range1 (by rfl) T.rng (pa_cons pe_int pa_nil)) (pg_name (i := 3) n rfl (.inl rfl))
      (pss_cons (ps_set (i := 4) n rfl (.inl rfl) (pe_op op_add pe_int (pe_call GV hr rfl cV.g cV.kp cV.b .nil pass0 (pa_cons (pv 2) (pa_cons pe_int pa_nil)))))
      (pss_cons (ps_par (i := 5) (j := 6) rfl n rfl rfl (by decide) rfl rfl (pa_cons (pe_call GH hr rfl cH.g cH.kp cH.b .nil pass0 (pa_cons (pv 2) (pa_cons (pe_lst (pa_cons pe_int (pa_cons pe_int (pa_cons pe_int pa_nil)))) pa_nil))) (pa_cons (pe_call GH hr rfl cH.g cH.kp cH.b .nil pass0 (pa_cons (pv 2) (pa_cons (pe_lst (pa_cons pe_int (pa_cons pe_int (pa_cons pe_int (pa_cons pe_int pa_nil))))) pa_nil))) pa_nil)) (by rfl))
      (pss_cons (ps_set (i := 7) n rfl (.inr rfl) (pe_call GN hr rfl cN.g cN.kp cN.b .nil pass0 (pa_cons (pv 2) (pa_cons (pv 4) (pa_cons (pv 5) (pa_cons (pv 6) pa_nil))))))
      (pss_cons (ps_set (i := 8) n rfl (.inl rfl) (ClX.pe_cmeth (pe_glob (v := .ref C) rfl TC.mgC rfl) rd.rD rd.cD GR hr pass0 (pa_cons (pv 4) (pa_cons (pe_call GX hr rfl cX.g cX.kp cX.b .nil pass0 (pa_cons (pv 7) pa_nil)) pa_nil))))
      (pss_cons (ps_setLc (i := 9) (own := [("_law_rule", 10)]) (g := gName 10) (tt := tB (tCall (spHolds K) [] E0 (tCons (tVar 7) (tCons (tVar 10) tNil)))) (te := tVar 10) rfl n rfl rfl (sw_true rfl rfl rfl (by decide +kernel)) (show PI _ _ _ (iList K _) from pi_list (pe_call GA hr rfl cA.g cA.kp cA.b .nil pass0 (pa_cons (pv 4) pa_nil))) (blkOk_by (N := nLw) (sc := defScope sLaw) (by decide +kernel)) (fun _ _ _ _ _ => (pg_name (i := 10) n rfl (.inl rfl))) (fun _ _ _ _ _ => pts_one (pt_val (pe_call GHo hr rfl cO.g cO.kp cO.b .nil pass0 (pa_cons (pv 7) (pa_cons (pv 10) pa_nil))))) (fun _ _ _ _ _ => (pv 10)))
      (pss_cons (ps_for po rfl (show PI _ _ _ (iList K _) from pi_list (pe_call GA hr rfl cA.g cA.kp cA.b .nil pass0 (pa_cons (pv 4) pa_nil))) (pg_name (i := 10) n rfl (.inl rfl))
      (pss_one (ps_if (pt_not (pt_val (GD.pe_callG GE calm hr rfl cE.g cE.kp cE.b pass0 (pa_cons (pe_lst (pa_cons (pe_callO2 (pv 8) clT.cC GC hr pass0 (pa_cons (pv 10) pa_nil)) (pa_cons (pe_callO2 (pv 8) clT.cC GC hr pass0 (pa_cons (pv 10) pa_nil)) pa_nil))) (pa_cons (pe_lst (pa_cons (pe_cmpR (r := rInD K) (op_inD hu65) (pv 10) (pv 9) (by rfl)) (pa_cons (pe_cmpR (r := rInD K) (op_inD hu65) (pv 10) (pv 9) (by rfl)) pa_nil))) pa_nil))))) (pss_one (ps_ret pe_bl)) pss_nil)))
      (pss_cons (ps_set (i := 11) n rfl (.inl rfl) (pe_meth0 (pv 8) TC.cl ob.m GOb hr ob.b .nil pass0))
      (pss_cons (ps_set (i := 12) n rfl (.inl rfl) (pe_lst (pa_cons (pe_prop (pv 11) TR.cl pW.hp (pW.ok (k + 6) (by omega)) hr pW.b .nil pass0 rfl) (pa_cons (pe_prop (pv 11) TR.cl pR.hp (pR.ok (k + 6) (by omega)) hr pR.b .nil pass0 rfl) pa_nil))))
      (pss_cons (ps_if (PW.pt (pw_or (pt_not (pt_val (pe_callB (C8.call_isC ic) (by rfl) T.isi (by decide +kernel) (pa_cons (pv 11) (pa_cons (pe_glob (v := .ref CR) rfl TR.mgC rfl) pa_nil))))) (pw_or1 (pt_not (pt_val (GD.pe_callG GE calm hr rfl cE.g cE.kp cE.b pass0 (pa_cons (pv 12) (pa_cons (pe_lst (pa_cons (pv 4) (pa_cons (pe_callTy (T := "tuple") (r := rTupOf K) call_tupK (by rfl) T.tup (by decide +kernel) (pa_cons (pv 9) pa_nil)) pa_nil))) pa_nil)))))))) (pss_one (ps_ret pe_bl)) pss_nil)
      (pss_one (ps_if (pt_cmpR op_ne (pe_meth0 (pv 8) TC.cl txT.m GTx hr txT.b .nil pass0) (pe_call GX hr rfl cX.g cX.kp cX.b .nil pass0 (pa_cons (pv 7) pa_nil)) (nomark _)) (pss_one (ps_ret pe_bl)) pss_nil)))))))))))))))
      (pss_one (ps_ret pe_bl))))) (fun a oe cls d pn _ _ => (pss_one (ps_ret pe_bl))))), ?_⟩
    refine ⟨rfl, fun H0 s0 => ?_⟩
    refine ⟨_, rfl, iteF ?_⟩
    have ha0 := same_l s0 ha
    refine ⟨_, rfl, a, _, rfl, .inl ha0, _, _, rfl, _, _, rfl, _, rfl, ?_, ?_, ?_⟩
    · split <;> split <;> omega
    · rw [List.length_map]
      split <;> split <;> omega
    generalize (if (if (4 : Int) < (((ns.map V.int).length : Nat) : Int) then (4 : Int) else (((ns.map V.int).length : Nat) : Int)) > 1 then (if (4 : Int) < (((ns.map V.int).length : Nat) : Int) then (4 : Int) else (((ns.map V.int).length : Nat) : Int)) else (1 : Int)) = top
    refine for_range (lo := 0) (n := top.toNat) (fun i σ H1 => ∃ y1 y2 y3 y4 y5 y6 y7 y8 y9 y10 y11 y12, σ = [some (.ref a), y1, y2, y3, y4, y5, y6, y7, y8, y9, y10, y11, y12] ∧ SqL K H1 a (ns.map V.int)) ⟨none, none, none, none, none, none, none, none, none, none, none, none, rfl, ha0⟩ ?_ ?_
    · rintro i σ H1 hi ⟨y1, y2, y3, y4, y5, y6, y7, y8, y9, y10, y11, y12, rfl, ha1⟩
      refine ⟨_, rfl, _, rfl, a, ns, i, by rw [Int.zero_add]; rfl, ha1, fun z => ?_⟩
      refine ⟨z, rfl, fun p o np ho => ?_⟩
      have v2 : SqL K (wo (upd H1 p o) p) a (ns.map V.int) := same_l (new_view np) ha1
      have s2 : Src (upd H1 p o) p := ⟨o, upd_same, ho⟩
      generalize upd H1 p o = H2 at v2 s2
      refine ⟨_, rfl, by decide, by decide, ?_⟩
      refine for_range (lo := 0) (n := ((6 : Int)).toNat) (fun j σ H3 => ∃ y1 y3 y4 y5 y6 y7 y8 y9 y10 y11 y12, σ = [some (.ref a), y1, some (.ref p), y3, y4, y5, y6, y7, y8, y9, y10, y11, y12] ∧ SqL K (wo H3 p) a (ns.map V.int) ∧ Src H3 p) ⟨_, _, _, _, _, _, _, _, _, _, _, rfl, v2, s2⟩ ?_ ?_
      · rintro j σ H3 hj ⟨y1, y3, y4, y5, y6, y7, y8, y9, y10, y11, y12, rfl, v3, s3⟩
        refine ⟨_, rfl, p, 5, rfl, s3, by decide, by decide, fun d H4 hd r4 => ⟨_, _, rfl, rfl, ?_⟩⟩
        dsimp only
        rw [show (1 + (d : Int)) = ((d + 1 : Nat) : Int) by omega]
        obtain ⟨w, ew⟩ : ∃ w, w = d + 1 := ⟨_, rfl⟩
        rw [← ew]
        have w1 : 1 ≤ w := by omega
        have w6 : w ≤ 6 := by omega
        -- how many, how great
        refine ⟨_, rfl, (by show 3 ≤ sizeLine; decide), fun l1 n1 => ?_⟩
        have s5 : Same H4 (upd H4 l1 (.lst [.int 2, .int 5, .int 9])) := same_new n1
        have h5 : SqL K (wo (upd H4 l1 (.lst [.int 2, .int 5, .int 9])) p) l1 [.int 2, .int 5, .int 9] := .inl (.inl (by rw [wo_ne (r4.ne n1)]; exact upd_same))
        generalize upd H4 l1 (.lst [.int 2, .int 5, .int 9]) = H5 at s5 h5
        have r5 := r4.grow s5
        refine ⟨p, _, rfl, r5.src, .inl ⟨l1, _, rfl, h5, by decide, by decide, fun i1 x1 H6 hx1 r6 => ?_⟩⟩
        obtain ⟨m, rfl, hm⟩ : ∃ m : Nat, x1 = .int (m : Int) ∧ m ≤ 9 := by
          match i1, hx1 with
          | 0, h => simp at h; exact ⟨2, h.symm, by decide⟩
          | 1, h => simp at h; exact ⟨5, h.symm, by decide⟩
          | 2, h => simp at h; exact ⟨9, h.symm, by decide⟩
          | _ + 3, h => simp at h
        have r06 := r5.trans r6
        refine ⟨_, rfl, (by show 4 ≤ sizeLine; decide), fun l2 n2 => ?_⟩
        have s7 : Same H6 (upd H6 l2 (.lst [.int 1, .int 2, .int 3, .int 5])) := same_new n2
        have h7 : SqL K (wo (upd H6 l2 (.lst [.int 1, .int 2, .int 3, .int 5])) p) l2 [.int 1, .int 2, .int 3, .int 5] := .inl (.inl (by rw [wo_ne (r06.ne n2)]; exact upd_same))
        generalize upd H6 l2 (.lst [.int 1, .int 2, .int 3, .int 5]) = H7 at s7 h7
        have r07 := r06.grow s7
        refine ⟨p, _, rfl, r07.src, .inl ⟨l2, _, rfl, h7, by decide, by decide, fun i2 x2 H8 hx2 r8 => ?_⟩⟩
        obtain ⟨v, rfl, hv⟩ : ∃ v : Nat, x2 = .int (v : Int) ∧ v ≤ 9999 := by
          match i2, hx2 with
          | 0, h => simp at h; exact ⟨1, h.symm, by decide⟩
          | 1, h => simp at h; exact ⟨2, h.symm, by decide⟩
          | 2, h => simp at h; exact ⟨3, h.symm, by decide⟩
          | 3, h => simp at h; exact ⟨5, h.symm, by decide⟩
          | _ + 4, h => simp at h
        have r08 := r07.trans r8
        refine ⟨_, _, rfl, ?_⟩
        refine ⟨_, rfl, _, rfl, _, rfl, _, rfl, p, w, m, v, rfl, r08.src, w1, w6, by omega, hv, fun li kk H9 hk lr => ?_⟩
        have r09 := r08.trans lr.ran
        obtain ⟨us, rows, hli, dli, rv, rlen⟩ := id lr.lst
        have ok : ∀ r ∈ rows, RowOk w r := fun r hr => ⟨(rv r hr).1, fun x hx => Nat.le_trans ((rv r hr).2 x hx) hv⟩
        have few : rows.length ≤ 9 := by omega
        have fw : FwG w rows := .of_len (by omega)
        -- the table
        refine ⟨rfl, _, rfl, _, rfl, li, us, w, rows, rfl, SqL.of hli, dli, w6, ok, by omega, fun H10 s10 => ?_⟩
        refine ⟨w, rows, rfl, w1, w6, ok, by omega, fun x H11 s11 nx ta => ?_⟩
        have s911 := s10.trans s11
        have r11 := r09.grow s911
        have hl11 := s911 _ _ hli
        have dl11 := dps_same s911 _ _ dli
        obtain ⟨dx, g, ug, t1, t2, t3⟩ := id ta
        -- what is due
        refine ⟨_, rfl, w, rfl, w6, fun pa ua H12 s12 npa hpa dpa => ⟨pa, rfl, ⟨_, SqL.of hpa⟩, fun D nD => ?_⟩⟩
        have ual : ua.length = (allR w).length := by rw [dps_len dpa, List.length_map]
        have all60 : (allR w).length ≤ 60 := few_rules w6 (fun r hr => mem_allR.mp hr) (allR_nodup w6)
        have dpa1 := dps_same (wo_le pa) _ _ dpa
        refine lc_list (xs := ua) (fun i H' => MadeF R.d K H12 D i H' (((allR w).take i).filter fun r => decide (HoldsR rows r))) MadeF.start (fun i H' _ z => SqL.of (z.old nD _ _ hpa)) ?_ ?_
        · rintro i z H' hz mo
          obtain ⟨r, hr2, dr⟩ := dps_rat dpa1 hz
          have rk : r.ok w := mem_allR.mp (List.mem_of_getElem? hr2)
          have il : i < (allR w).length := (List.getElem?_eq_some_iff.mp hr2).1
          have o := mo.old nD
          have o0 := s12.trans o
          refine ⟨rfl, ?_⟩
          refine ⟨_, rfl, _, rfl, li, us, w, rows, z, r, rfl, SqL.of (o0 _ _ hl11), dps_same o0 _ _ dl11, ok, by omega, dp_same o _ _ dr, rk, fun t H2 s2 ht => ⟨_, rfl, ?_⟩⟩
          obtain ⟨uo, _, hDo, _⟩ := id mo
          rw [SG.take_one hr2, List.filter_append]
          cases t with
          | false =>
            have nh : ¬ HoldsR rows r := fun z => by
              have := ht.mpr z
              cases this
            rw [List.filter_cons_of_neg (by rw [decide_eq_false nh]; decide), List.filter_nil, List.append_nil]
            exact iteF (mo.keep s2 (by omega) rfl)
          | true =>
            have yh : HoldsR rows r := ht.mp rfl
            rw [List.filter_cons_of_pos (p := fun r => decide (HoldsR rows r)) (decide_eq_true yh), List.filter_nil]
            refine iteT ⟨_, rfl, ?_⟩
            exact mo.push (r := r) (m := i + 1) (by omega) (Nat.lt_succ_self _) s2 (rd_T (((same_T o).trans (same_T s2)).trans (wo_T (s2 _ _ hDo))) dr)
        rintro H13 mo
        have o13 := mo.old nD
        rw [ual, List.take_length] at mo
        obtain ⟨uo, _, hDo, dDo, ulo⟩ := mo
        have dj : DpAll K H13 uo ((obL rows w).map R.d) := dps_same (wo_le D) _ _ dDo
        have oka : ∀ r ∈ obL rows w, r.ok w := fun r hr => (mem_obL.mp hr).1
        have nda : (obL rows w).Nodup := obL_nodup w6
        have rla := few_rules w6 oka nda
        have s1113 := s12.trans o13
        have r13 := r11.grow s1113
        have ta13 := ta.same s1113
        -- each rule
        have hl13 := s1113 _ _ hl11
        have dl13 := dps_same s1113 _ _ dl11
        refine ⟨_, rfl, w, rfl, w6, fun pb vb H14 s14 npb hpb dpb => ?_⟩
        have vbl : vb.length = (allR w).length := by rw [dps_len dpb, List.length_map]
        have dpb1 := dps_same (wo_le pb) _ _ dpb
        have r14 := r13.grow s14
        refine ⟨pb, rfl, ⟨_, SqL.of hpb⟩, ?_⟩
        refine for_list (xs := vb) (fun i σ H' => ∃ y10 y11 y12, σ = [some (.ref a), y1, some (.ref p), some (.int (0 + (j : Int))), some (.int (w : Int)), some (.int (m : Int)), some (.int (v : Int)), some (.ref li), some (.ref x), some (.ref D), y10, y11, y12] ∧ Same H14 H') ⟨_, _, _, rfl, Same.refl _⟩ (fun i σ H' _ ⟨_, _, _, _, s'⟩ => SqL.of (s' _ _ hpb)) ?_ ?_
        · rintro i z σ H15 hz ⟨y10, y11, y12, rfl, s15⟩
          obtain ⟨r, hr2, dr⟩ := dps_rat dpb1 hz
          have rk : r.ok w := mem_allR.mp (List.mem_of_getElem? hr2)
          have s1315 := s14.trans s15
          have ta15 := ta13.same s1315
          have h15 := (s1113.trans s1315) _ _ t1
          have d15 := dp_same s15 _ _ dr
          refine ⟨_, rfl, x, rfl, _, rfl, .inr ⟨dx, _, h15⟩, x, w, rows, z, r, rfl, ta15, ok, fw, d15, rk, fun b1 H16 s16 e1 => ?_⟩
          refine ⟨_, rfl, x, rfl, _, rfl, .inr ⟨dx, _, s16 _ _ h15⟩, x, w, rows, z, r, rfl, ta15.same s16, ok, fw, dp_same s16 _ _ d15, rk, fun b2 H17 s17 e2 => ?_⟩
          obtain rfl : b1 = b2 := by
            rw [Bool.eq_iff_iff]
            exact e1.trans e2.symm
          refine ⟨(by show 2 ≤ sizeLine; decide), fun l3 n3 => ?_⟩
          have s18 : Same H17 (upd H17 l3 (.lst [.bl b1, .bl b1])) := same_new n3
          have h3 : (upd H17 l3 (.lst [.bl b1, .bl b1])) l3 = some (.lst [.bl b1, .bl b1]) := upd_same
          generalize upd H17 l3 (.lst [.bl b1, .bl b1]) = H18 at s18 h3
          have s1518 := s16.trans (s17.trans s18)
          have s1318 := s1315.trans s1518
          have dw := dps_same s1318 _ _ dj
          have hw := s1318 _ _ hDo
          have d18 := dp_same s1518 _ _ d15
          have sr := (sd_r w6 rk).shaped (by decide)
          have ee : decide (r ∈ obL rows w) = b1 := by
            rw [Bool.eq_iff_iff, decide_eq_true_iff, mem_obL]
            exact ⟨fun h => e1.mpr h.2, fun h => ⟨rk, e1.mp h⟩⟩
          refine ⟨_, rfl, _, rfl, r.d, (obL rows w).map R.d, d18, .lst (SqL.of hw) dw, sr, rds_shaped _, ?_⟩
          refine ⟨_, rfl, _, rfl, r.d, (obL rows w).map R.d, d18, .lst (SqL.of hw) dw, sr, rds_shaped _, ?_⟩
          rw [rds_any, ee]
          refine ⟨(by show 2 ≤ sizeLine; decide), fun l4 n4 => ?_⟩
          have s19 : Same H18 (upd H18 l4 (.lst [.bl b1, .bl b1])) := same_new n4
          refine ⟨.ref l3, .ref l4, .list [.bool b1, .bool b1], rfl, .lst (SqL.of (s19 _ _ h3)) (.cons (.bl _) (.cons (.bl _) .nil)), .lst (SqL.of upd_same) (.cons (.bl _) (.cons (.bl _) .nil)), ?_, _, rfl, iteF ⟨_, _, _, rfl, s15.trans (s1518.trans s19)⟩⟩
          refine (GD.SD.list (m := 0) (n := 0) (k := 2) (fun d hd => ?_) (show ([PyData.bool b1, .bool b1]).length ≤ 2 from Nat.le_refl 2)).up (by decide) (by decide)
          rcases List.mem_cons.mp hd with rfl | hd
          · exact GD.SD.bl _
          · rcases List.mem_cons.mp hd with rfl | hd
            · exact GD.SD.bl _
            · cases hd
        rintro σ H15 ⟨y10', y11', y12', rfl, s15⟩
        have s1315 := s14.trans s15
        have ta15 := ta13.same s1315
        have h15 := (s1113.trans s1315) _ _ t1
        have hl15 := s1315 _ _ hl13
        have dl15 := dps_same s1315 _ _ dl13
        have hd15 := s1315 _ _ hDo
        have dj15 := dps_same s1315 _ _ dj
        have r15 := r13.grow s1315
        -- the list of those that hold
        refine ⟨_, rfl, x, dx, _, rfl, h15, fldT_ob _ _, x, w, rows, rfl, ta15, w1, w6, ok, fw, fun z H16 s16 nz raz => ?_⟩
        obtain ⟨dz, gz, uz, z1, z2, z3⟩ := id raz
        refine ⟨_, rfl, z, dz, _, rfl, z1, z, dz, _, _, rfl, z1, flds_span _ _, ?_⟩
        refine ⟨_, rfl, z, dz, _, rfl, z1, z, dz, _, _, rfl, z1, flds_given _ _, ?_⟩
        refine ⟨(by show 2 ≤ sizeLine; decide), fun l5 n5 => ?_⟩
        have s17 : Same H16 (upd H16 l5 (.lst [.int (w : Int), .ref gz])) := same_new n5
        have h5l : (upd H16 l5 (.lst [.int (w : Int), .ref gz])) l5 = some (.lst [.int (w : Int), .ref gz]) := upd_same
        generalize upd H16 l5 (.lst [.int (w : Int), .ref gz]) = H17 at s17 h5l
        have s1517 := s16.trans s17
        refine ⟨_, rfl, z, dz, _, rfl, s17 _ _ z1, _, rfl, iteF ?_⟩
        refine ⟨_, rfl, _, rfl, _, rfl, D, uo, rfl, .inl ⟨SqL.of (s1517 _ _ hd15), fun t6 n6 => ?_⟩⟩
        have s18 : Same H17 (upd H17 t6 (.tup uo)) := same_new n6
        have ht6 : (upd H17 t6 (.tup uo)) t6 = some (.tup uo) := upd_same
        generalize upd H17 t6 (.tup uo) = H18 at s18 ht6
        refine ⟨(by show 2 ≤ sizeLine; decide), fun l7 n7 => ?_⟩
        have s19 : Same H18 (upd H18 l7 (.lst [.int (w : Int), .ref t6])) := same_new n7
        have hl7 : (upd H18 l7 (.lst [.int (w : Int), .ref t6])) l7 = some (.lst [.int (w : Int), .ref t6]) := upd_same
        generalize upd H18 l7 (.lst [.int (w : Int), .ref t6]) = H19 at s19 hl7
        have s1719 := s18.trans s19
        have s1519 := s1517.trans s1719
        refine ⟨.ref l5, .ref l7, .list [.int (w : Int), .tuple ((obL rows w).map R.d)], rfl, .lst (SqL.of (s1719 _ _ h5l)) (.cons (.int _) (.cons (.tup (.inl (.inl ((s17.trans s1719) _ _ z2))) (dps_same (s17.trans s1719) _ _ z3)) .nil)), .lst (SqL.of hl7) (.cons (.int _) (.cons (.tup (.inl (.inl (s19 _ _ ht6))) (dps_same s1519 _ _ dj15)) .nil)), ?_, _, rfl, iteF ?_⟩
        · refine (GD.SD.list (m := 3840) (n := 2) (k := 2) (fun d hd => ?_) (show ([PyData.int (w : Int), .tuple ((obL rows w).map R.d)]).length ≤ 2 from Nat.le_refl 2)).up (by decide) (by decide)
          rcases List.mem_cons.mp hd with rfl | hd
          · exact (GD.SD.nat (by omega)).up (by decide) (by decide)
          · rcases List.mem_cons.mp hd with rfl | hd
            · exact sdt_rs w6 oka rla
            · cases hd
        have ta19 := ta15.same s1519
        refine ⟨_, rfl, x, dx, _, rfl, s1519 _ _ h15, fldT_tx _ _, x, w, rows, rfl, ta19, w6, ok, by omega, fun H20 s20 => ?_⟩
        have s1520 := s1519.trans s20
        refine ⟨_, rfl, li, us, w, rows, rfl, SqL.of (s1520 _ _ hl15), dps_same s1520 _ _ dl15, w6, ok, by omega, fun H21 s21 => ?_⟩
        refine ⟨rfl, _, rfl, iteF' (by rw [decide_eq_true rfl]; rfl) ?_⟩
        have r21 := r15.grow (s1520.trans s21)
        exact ⟨_, _, _, _, _, _, _, _, _, _, _, rfl, same_l r21.same v3, r21.src⟩
      · rintro σ H3 ⟨y1, y3, y4, y5, y6, y7, y8, y9, y10, y11, y12, rfl, v3, s3⟩
        exact ⟨_, _, _, _, _, _, _, _, _, _, _, _, rfl, same_l (wo_le p) v3⟩
    · rintro σ H1 ⟨y1, y2, y3, y4, y5, y6, y7, y8, y9, y10, y11, y12, rfl, ha1⟩
      exact q H1
end
end CC
namespace CC
open PySem L2 TL
theorem df_mk {K : PySem.W.Frag} {h : Heap} {mg : Str → Option Value} {x : Str} {st : Stmt} {ps : List Str} {f : Addr} {fd : FuncData} (X : K.In h) (G : h.Ns mainGlobals mg) (a : PySem.W.nsIn K mainGlobals x = some (some (.ref f))) (F : Fun K x x st f fd) (b : Binds K fd ps []) : Nonempty (Df K mg x st ps) := ⟨⟨f, fd, F, b, PySem.W.mg_of X G a⟩⟩
theorem kit_self {K : PySem.W.Frag} {C : Addr} : PySem.W.kitOne K (.ref C) (.ref C) = some true := by
  unfold PySem.W.kitOne
  exact if_pos (by simp)
theorem raw0 {P : Program} {w : World} {K : PySem.W.Frag} {mg : Str → Option Value} {base : Heap} {CX : CXT} {k : Nat} {f : Addr} {fd : FuncData} {ps : List Str} {sp : Sp} (F : FnOk P w K mg base CX k f fd ps sp) (b : Binds K fd ps []) : FnR P w K mg base CX k f sp :=
  (F.raw b .nil).imp fun vs H Q E h => by
    show sp (vs ++ []) H Q E
    rw [List.append_nil]
    exact h
theorem mk_is_an_integer {K : PySem.W.Frag} {h : Heap} {mg : Str → Option Value} {f : Addr} {od an : Option Addr} {sl : Array (Option Value)} {oc kV dc pm cd ct : Value} (X : K.In h) (G : h.Ns mainGlobals mg) (a : PySem.W.nsIn K mainGlobals "is_an_integer" = some (some (.ref f)))
    (l : K.lookup f = some ⟨oc, od, .func (PySem.W.fnOf "is_an_integer" "is_an_integer" (defArgs sIsInt) (defBody sIsInt) (defScope sIsInt) .none kV dc pm an cd ct), sl⟩) (c : PySem.W.codeIn K cd "is_an_integer" = true) (k : PySem.W.keepIn K (.ref f) = true) : Nonempty (Df K mg "is_an_integer" sIsInt ["thing"]) :=
  have F := fun_mk (st := sIsInt) l c k
  df_mk X G a F (F.binds (ps := ["thing"]) fun _ _ _ _ _ _ us hl => match us, hl with | [_], _ => rfl)
theorem mk_is_width {K : PySem.W.Frag} {h : Heap} {mg : Str → Option Value} {f : Addr} {od an : Option Addr} {sl : Array (Option Value)} {oc kV dc pm cd ct : Value} (X : K.In h) (G : h.Ns mainGlobals mg) (a : PySem.W.nsIn K mainGlobals "is_width" = some (some (.ref f)))
    (l : K.lookup f = some ⟨oc, od, .func (PySem.W.fnOf "is_width" "is_width" (defArgs sIsWidth) (defBody sIsWidth) (defScope sIsWidth) .none kV dc pm an cd ct), sl⟩) (c : PySem.W.codeIn K cd "is_width" = true) (k : PySem.W.keepIn K (.ref f) = true) : Nonempty (Df K mg "is_width" sIsWidth ["thing"]) :=
  have F := fun_mk (st := sIsWidth) l c k
  df_mk X G a F (F.binds (ps := ["thing"]) fun _ _ _ _ _ _ us hl => match us, hl with | [_], _ => rfl)
theorem mk_is_row {K : PySem.W.Frag} {h : Heap} {mg : Str → Option Value} {f : Addr} {od an : Option Addr} {sl : Array (Option Value)} {oc kV dc pm cd ct : Value} (X : K.In h) (G : h.Ns mainGlobals mg) (a : PySem.W.nsIn K mainGlobals "is_row" = some (some (.ref f)))
    (l : K.lookup f = some ⟨oc, od, .func (PySem.W.fnOf "is_row" "is_row" (defArgs sIsRow) (defBody sIsRow) (defScope sIsRow) .none kV dc pm an cd ct), sl⟩) (c : PySem.W.codeIn K cd "is_row" = true) (k : PySem.W.keepIn K (.ref f) = true) : Nonempty (Df K mg "is_row" sIsRow ["width", "thing"]) :=
  have F := fun_mk (st := sIsRow) l c k
  df_mk X G a F (F.binds (ps := ["width", "thing"]) fun _ _ _ _ _ _ us hl => match us, hl with | [_, _], _ => rfl)
theorem mk_is_numeral {K : PySem.W.Frag} {h : Heap} {mg : Str → Option Value} {f : Addr} {od an : Option Addr} {sl : Array (Option Value)} {oc kV dc pm cd ct : Value} (X : K.In h) (G : h.Ns mainGlobals mg) (a : PySem.W.nsIn K mainGlobals "is_numeral" = some (some (.ref f)))
    (l : K.lookup f = some ⟨oc, od, .func (PySem.W.fnOf "is_numeral" "is_numeral" (defArgs sIsNum) (defBody sIsNum) (defScope sIsNum) .none kV dc pm an cd ct), sl⟩) (c : PySem.W.codeIn K cd "is_numeral" = true) (k : PySem.W.keepIn K (.ref f) = true) : Nonempty (Df K mg "is_numeral" sIsNum ["word"]) :=
  have F := fun_mk (st := sIsNum) l c k
  df_mk X G a F (F.binds (ps := ["word"]) fun _ _ _ _ _ _ us hl => match us, hl with | [_], _ => rfl)
theorem mk_rows_of {K : PySem.W.Frag} {h : Heap} {mg : Str → Option Value} {f : Addr} {od an : Option Addr} {sl : Array (Option Value)} {oc kV dc pm cd ct : Value} (X : K.In h) (G : h.Ns mainGlobals mg) (a : PySem.W.nsIn K mainGlobals "rows_of" = some (some (.ref f)))
    (l : K.lookup f = some ⟨oc, od, .func (PySem.W.fnOf "rows_of" "rows_of" (defArgs sRowsOf) (defBody sRowsOf) (defScope sRowsOf) .none kV dc pm an cd ct), sl⟩) (c : PySem.W.codeIn K cd "rows_of" = true) (k : PySem.W.keepIn K (.ref f) = true) : Nonempty (Df K mg "rows_of" sRowsOf ["width", "text"]) :=
  have F := fun_mk (st := sRowsOf) l c k
  df_mk X G a F (F.binds (ps := ["width", "text"]) fun _ _ _ _ _ _ us hl => match us, hl with | [_, _], _ => rfl)
theorem mk_is_column {K : PySem.W.Frag} {h : Heap} {mg : Str → Option Value} {f : Addr} {od an : Option Addr} {sl : Array (Option Value)} {oc kV dc pm cd ct : Value} (X : K.In h) (G : h.Ns mainGlobals mg) (a : PySem.W.nsIn K mainGlobals "is_column" = some (some (.ref f)))
    (l : K.lookup f = some ⟨oc, od, .func (PySem.W.fnOf "is_column" "is_column" (defArgs sIsCol) (defBody sIsCol) (defScope sIsCol) .none kV dc pm an cd ct), sl⟩) (c : PySem.W.codeIn K cd "is_column" = true) (k : PySem.W.keepIn K (.ref f) = true) : Nonempty (Df K mg "is_column" sIsCol ["width", "thing"]) :=
  have F := fun_mk (st := sIsCol) l c k
  df_mk X G a F (F.binds (ps := ["width", "thing"]) fun _ _ _ _ _ _ us hl => match us, hl with | [_, _], _ => rfl)
theorem mk_is_rule {K : PySem.W.Frag} {h : Heap} {mg : Str → Option Value} {f : Addr} {od an : Option Addr} {sl : Array (Option Value)} {oc kV dc pm cd ct : Value} (X : K.In h) (G : h.Ns mainGlobals mg) (a : PySem.W.nsIn K mainGlobals "is_rule" = some (some (.ref f)))
    (l : K.lookup f = some ⟨oc, od, .func (PySem.W.fnOf "is_rule" "is_rule" (defArgs sIsRule) (defBody sIsRule) (defScope sIsRule) .none kV dc pm an cd ct), sl⟩) (c : PySem.W.codeIn K cd "is_rule" = true) (k : PySem.W.keepIn K (.ref f) = true) : Nonempty (Df K mg "is_rule" sIsRule ["width", "thing"]) :=
  have F := fun_mk (st := sIsRule) l c k
  df_mk X G a F (F.binds (ps := ["width", "thing"]) fun _ _ _ _ _ _ us hl => match us, hl with | [_, _], _ => rfl)
theorem mk_every_rule {K : PySem.W.Frag} {h : Heap} {mg : Str → Option Value} {f : Addr} {od an : Option Addr} {sl : Array (Option Value)} {oc kV dc pm cd ct : Value} (X : K.In h) (G : h.Ns mainGlobals mg) (a : PySem.W.nsIn K mainGlobals "every_rule" = some (some (.ref f)))
    (l : K.lookup f = some ⟨oc, od, .func (PySem.W.fnOf "every_rule" "every_rule" (defArgs sEvery) (defBody sEvery) (defScope sEvery) .none kV dc pm an cd ct), sl⟩) (c : PySem.W.codeIn K cd "every_rule" = true) (k : PySem.W.keepIn K (.ref f) = true) : Nonempty (Df K mg "every_rule" sEvery ["width"]) :=
  have F := fun_mk (st := sEvery) l c k
  df_mk X G a F (F.binds (ps := ["width"]) fun _ _ _ _ _ _ us hl => match us, hl with | [_], _ => rfl)
theorem mk_holds {K : PySem.W.Frag} {h : Heap} {mg : Str → Option Value} {f : Addr} {od an : Option Addr} {sl : Array (Option Value)} {oc kV dc pm cd ct : Value} (X : K.In h) (G : h.Ns mainGlobals mg) (a : PySem.W.nsIn K mainGlobals "holds" = some (some (.ref f)))
    (l : K.lookup f = some ⟨oc, od, .func (PySem.W.fnOf "holds" "holds" (defArgs sHo) (defBody sHo) (defScope sHo) .none kV dc pm an cd ct), sl⟩) (c : PySem.W.codeIn K cd "holds" = true) (k : PySem.W.keepIn K (.ref f) = true) : Nonempty (Df K mg "holds" sHo ["rows", "rule"]) :=
  have F := fun_mk (st := sHo) l c k
  df_mk X G a F (F.binds (ps := ["rows", "rule"]) fun _ _ _ _ _ _ us hl => match us, hl with | [_, _], _ => rfl)
theorem mk_line_of {K : PySem.W.Frag} {h : Heap} {mg : Str → Option Value} {f : Addr} {od an : Option Addr} {sl : Array (Option Value)} {oc kV dc pm cd ct : Value} (X : K.In h) (G : h.Ns mainGlobals mg) (a : PySem.W.nsIn K mainGlobals "line_of" = some (some (.ref f)))
    (l : K.lookup f = some ⟨oc, od, .func (PySem.W.fnOf "line_of" "line_of" (defArgs sLine) (defBody sLine) (defScope sLine) .none kV dc pm an cd ct), sl⟩) (c : PySem.W.codeIn K cd "line_of" = true) (k : PySem.W.keepIn K (.ref f) = true) : Nonempty (Df K mg "line_of" sLine ["rule"]) :=
  have F := fun_mk (st := sLine) l c k
  df_mk X G a F (F.binds (ps := ["rule"]) fun _ _ _ _ _ _ us hl => match us, hl with | [_], _ => rfl)
theorem mk_l_text {K : PySem.W.Frag} {h : Heap} {mg : Str → Option Value} {f : Addr} {od an : Option Addr} {sl : Array (Option Value)} {oc kV dc pm cd ct : Value} (X : K.In h) (G : h.Ns mainGlobals mg) (a : PySem.W.nsIn K mainGlobals "_law_text" = some (some (.ref f)))
    (l : K.lookup f = some ⟨oc, od, .func (PySem.W.fnOf "_law_text" "_law_text" (defArgs sTTx) (defBody sTTx) (defScope sTTx) .none kV dc pm an cd ct), sl⟩) (c : PySem.W.codeIn K cd "_law_text" = true) (k : PySem.W.keepIn K (.ref f) = true) : Nonempty (Df K mg "_law_text" sTTx ["_law_lines_here"]) :=
  have F := fun_mk (st := sTTx) l c k
  df_mk X G a F (F.binds (ps := ["_law_lines_here"]) fun _ _ _ _ _ _ us hl => match us, hl with | [_], _ => rfl)
theorem mk_l_are_great_ones_right {K : PySem.W.Frag} {h : Heap} {mg : Str → Option Value} {f : Addr} {od an : Option Addr} {sl : Array (Option Value)} {oc kV dc pm cd ct : Value} (X : K.In h) (G : h.Ns mainGlobals mg) (a : PySem.W.nsIn K mainGlobals "_law_are_great_ones_right" = some (some (.ref f)))
    (l : K.lookup f = some ⟨oc, od, .func (PySem.W.fnOf "_law_are_great_ones_right" "_law_are_great_ones_right" (defArgs sGr) (defBody sGr) (defScope sGr) .none kV dc pm an cd ct), sl⟩) (c : PySem.W.codeIn K cd "_law_are_great_ones_right" = true) (k : PySem.W.keepIn K (.ref f) = true) : Nonempty (Df K mg "_law_are_great_ones_right" sGr []) :=
  have F := fun_mk (st := sGr) l c k
  df_mk X G a F (F.binds (ps := []) fun _ _ _ _ _ _ us hl => match us, hl with | [], _ => rfl)
theorem mk_l_source {K : PySem.W.Frag} {h : Heap} {mg : Str → Option Value} {f : Addr} {od an : Option Addr} {sl : Array (Option Value)} {oc kV dc pm cd ct : Value} (X : K.In h) (G : h.Ns mainGlobals mg) (a : PySem.W.nsIn K mainGlobals "_law_source" = some (some (.ref f)))
    (l : K.lookup f = some ⟨oc, od, .func (PySem.W.fnOf "_law_source" "_law_source" (defArgs sSource) (defBody sSource) (defScope sSource) .none kV dc pm an cd ct), sl⟩) (c : PySem.W.codeIn K cd "_law_source" = true) (k : PySem.W.keepIn K (.ref f) = true) : Nonempty (Df K mg "_law_source" sSource ["_law_cell_here"]) :=
  have F := fun_mk (st := sSource) l c k
  df_mk X G a F (F.binds (ps := ["_law_cell_here"]) fun _ _ _ _ _ _ us hl => match us, hl with | [_], _ => rfl)
theorem mk_l_cell {K : PySem.W.Frag} {h : Heap} {mg : Str → Option Value} {f : Addr} {od an : Option Addr} {sl : Array (Option Value)} {oc kV dc pm cd ct : Value} (X : K.In h) (G : h.Ns mainGlobals mg) (a : PySem.W.nsIn K mainGlobals "_law_cell" = some (some (.ref f)))
    (l : K.lookup f = some ⟨oc, od, .func (PySem.W.fnOf "_law_cell" "_law_cell" (defArgs sCell) (defBody sCell) (defScope sCell) .none kV dc pm an cd ct), sl⟩) (c : PySem.W.codeIn K cd "_law_cell" = true) (k : PySem.W.keepIn K (.ref f) = true) : Nonempty (Df K mg "_law_cell" sCell ["_law_script", "_law_index"]) :=
  have F := fun_mk (st := sCell) l c k
  df_mk X G a F (F.binds (ps := ["_law_script", "_law_index"]) fun _ _ _ _ _ _ us hl => match us, hl with | [_, _], _ => rfl)
theorem mk_l_draw {K : PySem.W.Frag} {h : Heap} {mg : Str → Option Value} {f : Addr} {od an : Option Addr} {sl : Array (Option Value)} {oc kV dc pm cd ct : Value} (X : K.In h) (G : h.Ns mainGlobals mg) (a : PySem.W.nsIn K mainGlobals "_law_draw" = some (some (.ref f)))
    (l : K.lookup f = some ⟨oc, od, .func (PySem.W.fnOf "_law_draw" "_law_draw" (defArgs sDraw) (defBody sDraw) (defScope sDraw) .none kV dc pm an cd ct), sl⟩) (c : PySem.W.codeIn K cd "_law_draw" = true) (k : PySem.W.keepIn K (.ref f) = true) : Nonempty (Df K mg "_law_draw" sDraw ["_law_source_here", "_law_many"]) :=
  have F := fun_mk (st := sDraw) l c k
  df_mk X G a F (F.binds (ps := ["_law_source_here", "_law_many"]) fun _ _ _ _ _ _ us hl => match us, hl with | [_, _], _ => rfl)
theorem mk_l_choose {K : PySem.W.Frag} {h : Heap} {mg : Str → Option Value} {f : Addr} {od an : Option Addr} {sl : Array (Option Value)} {oc kV dc pm cd ct : Value} (X : K.In h) (G : h.Ns mainGlobals mg) (a : PySem.W.nsIn K mainGlobals "_law_choose" = some (some (.ref f)))
    (l : K.lookup f = some ⟨oc, od, .func (PySem.W.fnOf "_law_choose" "_law_choose" (defArgs sChoose) (defBody sChoose) (defScope sChoose) .none kV dc pm an cd ct), sl⟩) (c : PySem.W.codeIn K cd "_law_choose" = true) (k : PySem.W.keepIn K (.ref f) = true) : Nonempty (Df K mg "_law_choose" sChoose ["_law_source_here", "_law_values"]) :=
  have F := fun_mk (st := sChoose) l c k
  df_mk X G a F (F.binds (ps := ["_law_source_here", "_law_values"]) fun _ _ _ _ _ _ us hl => match us, hl with | [_, _], _ => rfl)
theorem mk_l_lines {K : PySem.W.Frag} {h : Heap} {mg : Str → Option Value} {f : Addr} {od an : Option Addr} {sl : Array (Option Value)} {oc kV dc pm cd ct : Value} (X : K.In h) (G : h.Ns mainGlobals mg) (a : PySem.W.nsIn K mainGlobals "_law_lines" = some (some (.ref f)))
    (l : K.lookup f = some ⟨oc, od, .func (PySem.W.fnOf "_law_lines" "_law_lines" (defArgs sLines) (defBody sLines) (defScope sLines) .none kV dc pm an cd ct), sl⟩) (c : PySem.W.codeIn K cd "_law_lines" = true) (k : PySem.W.keepIn K (.ref f) = true) : Nonempty (Df K mg "_law_lines" sLines ["_law_source_here", "_law_width", "_law_most", "_law_value"]) :=
  have F := fun_mk (st := sLines) l c k
  df_mk X G a F (F.binds (ps := ["_law_source_here", "_law_width", "_law_most", "_law_value"]) fun _ _ _ _ _ _ us hl => match us, hl with | [_, _, _, _], _ => rfl)
theorem mk_l_all {K : PySem.W.Frag} {h : Heap} {mg : Str → Option Value} {f : Addr} {od an : Option Addr} {sl : Array (Option Value)} {oc kV dc pm cd ct : Value} (X : K.In h) (G : h.Ns mainGlobals mg) (a : PySem.W.nsIn K mainGlobals "_law_all" = some (some (.ref f)))
    (l : K.lookup f = some ⟨oc, od, .func (PySem.W.fnOf "_law_all" "_law_all" (defArgs sAll) (defBody sAll) (defScope sAll) .none kV dc pm an cd ct), sl⟩) (c : PySem.W.codeIn K cd "_law_all" = true) (k : PySem.W.keepIn K (.ref f) = true) : Nonempty (Df K mg "_law_all" sAll ["_law_width"]) :=
  have F := fun_mk (st := sAll) l c k
  df_mk X G a F (F.binds (ps := ["_law_width"]) fun _ _ _ _ _ _ us hl => match us, hl with | [_], _ => rfl)
theorem mk_l_holds {K : PySem.W.Frag} {h : Heap} {mg : Str → Option Value} {f : Addr} {od an : Option Addr} {sl : Array (Option Value)} {oc kV dc pm cd ct : Value} (X : K.In h) (G : h.Ns mainGlobals mg) (a : PySem.W.nsIn K mainGlobals "_law_holds" = some (some (.ref f)))
    (l : K.lookup f = some ⟨oc, od, .func (PySem.W.fnOf "_law_holds" "_law_holds" (defArgs sHolds) (defBody sHolds) (defScope sHolds) .none kV dc pm an cd ct), sl⟩) (c : PySem.W.codeIn K cd "_law_holds" = true) (k : PySem.W.keepIn K (.ref f) = true) : Nonempty (Df K mg "_law_holds" sHolds ["_law_lines_here", "_law_rule"]) :=
  have F := fun_mk (st := sHolds) l c k
  df_mk X G a F (F.binds (ps := ["_law_lines_here", "_law_rule"]) fun _ _ _ _ _ _ us hl => match us, hl with | [_, _], _ => rfl)
theorem mk_l_is_equal {K : PySem.W.Frag} {h : Heap} {mg : Str → Option Value} {f : Addr} {od an : Option Addr} {sl : Array (Option Value)} {oc kV dc pm cd ct : Value} (X : K.In h) (G : h.Ns mainGlobals mg) (a : PySem.W.nsIn K mainGlobals "_law_is_equal" = some (some (.ref f)))
    (l : K.lookup f = some ⟨oc, od, .func (PySem.W.fnOf "_law_is_equal" "_law_is_equal" (defArgs sIsEq) (defBody sIsEq) (defScope sIsEq) .none kV dc pm an cd ct), sl⟩) (c : PySem.W.codeIn K cd "_law_is_equal" = true) (k : PySem.W.keepIn K (.ref f) = true) : Nonempty (Df K mg "_law_is_equal" sIsEq ["_law_actual", "_law_expected"]) :=
  have F := fun_mk (st := sIsEq) l c k
  df_mk X G a F (F.binds (ps := ["_law_actual", "_law_expected"]) fun _ _ _ _ _ _ us hl => match us, hl with | [_, _], _ => rfl)
theorem mk_glb {K : PySem.W.Frag} {h : Heap} {mg : Str → Option Value} {kA : Addr} {t t1 t2 : Tok} {od : Option Addr} {n : Nat} {sl : Array (Option Value)} (X : K.In h) (G : h.Ns mainGlobals mg) (len : PySem.W.nsIn K mainGlobals "len" = some none) (max : PySem.W.nsIn K mainGlobals "max" = some none) (min : PySem.W.nsIn K mainGlobals "min" = some none) (isi : PySem.W.nsIn K mainGlobals "isinstance" = some none) (int : PySem.W.nsIn K mainGlobals "int" = some none) (bool : PySem.W.nsIn K mainGlobals "bool" = some none) (str : PySem.W.nsIn K mainGlobals "str" = some none) (tup : PySem.W.nsIn K mainGlobals "tuple" = some none) (rng : PySem.W.nsIn K mainGlobals "range" = some none) (lst : PySem.W.nsIn K mainGlobals "list" = some none) (all : PySem.W.nsIn K mainGlobals "all" = some none) (set : PySem.W.nsIn K mainGlobals "set" = some none) (enu : PySem.W.nsIn K mainGlobals "enumerate" = some none) (rep : PySem.W.nsIn K mainGlobals "repr" = some none) (srt : PySem.W.nsIn K mainGlobals "sorted" = some none) (zip : PySem.W.nsIn K mainGlobals "zip" = some none) (any : PySem.W.nsIn K mainGlobals "any" = some none) (sum : PySem.W.nsIn K mainGlobals "sum" = some none) (rev : PySem.W.nsIn K mainGlobals "reversed" = some none) (dic : PySem.W.nsIn K mainGlobals "dict" = some none) (typ : PySem.W.nsIn K mainGlobals "type" = some none)
    (wid : PySem.W.nsIn K mainGlobals "WIDEST" = some (some (.int 6 t))) (knd : PySem.W.nsIn K mainGlobals "KINDS" = some (some (.ref kA))) (kl : K.lookup kA = some ⟨.type "tuple", od, .seq #[.str "settles" t1, .str "within" t2] n, sl⟩) : Nonempty { z : Unit // ∃ kA, Glb K mg kA } :=
  ⟨⟨(), kA, ⟨PySem.W.mg_none_of X G len, PySem.W.mg_none_of X G max, PySem.W.mg_none_of X G min, PySem.W.mg_none_of X G isi, PySem.W.mg_none_of X G int, PySem.W.mg_none_of X G bool, PySem.W.mg_none_of X G str, PySem.W.mg_none_of X G tup, PySem.W.mg_none_of X G rng, PySem.W.mg_none_of X G lst, PySem.W.mg_none_of X G all, PySem.W.mg_none_of X G set, PySem.W.mg_none_of X G enu, PySem.W.mg_none_of X G rep, PySem.W.mg_none_of X G srt, PySem.W.mg_none_of X G zip, PySem.W.mg_none_of X G any, PySem.W.mg_none_of X G sum, PySem.W.mg_none_of X G rev, PySem.W.mg_none_of X G dic, PySem.W.mg_none_of X G typ, ⟨t, PySem.W.mg_of X G wid⟩, PySem.W.mg_of X G knd, ⟨_, _, _, kl, rfl, rfl, by show 2 ≤ sizeLine; decide, .cons ⟨t1, rfl⟩ (.cons ⟨t2, rfl⟩ .nil)⟩⟩⟩⟩
structure Kls (K : PySem.W.Frag) (mg : Str → Option Value) where
  C : Addr
  TC : Txt1 K mg C
  fN : Addr
  dN : FuncData
  FN : Fun K "__init__" "Rules.__init__" sInit fN dN
  M : Mk K C fN
  ic : C8.InsC K C
  fW : Addr
  dW : FuncData
  FW : Fun K "width" "Rules.width" sPW fW dW
  bW : Binds K dW ["self"] []
  pW : Addr
  qW : PropOf K C "width" pW fW
  fR : Addr
  dR : FuncData
  FR : Fun K "rules" "Rules.rules" sPR fR dR
  bR : Binds K dR ["self"] []
  pR : Addr
  qR : PropOf K C "rules" pR fR
  fX : Addr
  dX : FuncData
  FX : Fun K "text" "Rules.text" sRTxt fX dX
  bX : Binds K dX ["self"] []
  mX : Meth K C "text" fX
theorem mk_cls {K : PySem.W.Frag} {h : Heap} {mg : Str → Option Value} {C fN fW fR fX : Addr} {odN anN : Option Addr} {slN : Array (Option Value)} {ocN kVN dcN pmN cdN ctN : Value} {pW : Addr} {restW : List Value} {odW anW : Option Addr} {slW : Array (Option Value)} {ocW kVW dcW pmW cdW ctW : Value} {pR : Addr} {restR : List Value} {odR anR : Option Addr} {slR : Array (Option Value)} {ocR kVR dcR pmR cdR ctR : Value} {odX anX : Option Addr} {slX : Array (Option Value)} {ocX kVX dcX pmX cdX ctX : Value} (X : K.In h) (G : h.Ns mainGlobals mg)
    (aC : PySem.W.nsIn K mainGlobals "Rules" = some (some (.ref C))) (pg : PySem.W.plainGet K C Str.empty = true) (hd : PySem.W.hasDictIn K C = true) (po : PySem.W.plainOver K C = true) (sa : PySem.W.findIn K (.ref C) "__setattr__" = some (some (.builtin "object.__setattr__"))) (kc : PySem.W.keepIn K (.ref C) = true) (nS : PySem.W.findIn K (.ref C) "span" = some none) (nG : PySem.W.findIn K (.ref C) "given" = some none) (mk : PySem.W.makesIn K C = true) (aN : PySem.W.findIn K (.ref C) "__init__" = some (some (.ref fN))) (iN : PySem.W.isFn K (.ref fN) = true) (lN : K.lookup fN = some ⟨ocN, odN, .func (PySem.W.fnOf "__init__" "Rules.__init__" (defArgs sInit) (defBody sInit) (defScope sInit) .none kVN dcN pmN anN cdN ctN), slN⟩) (cN : PySem.W.codeIn K cdN "Rules.__init__" = true) (kN : PySem.W.keepIn K (.ref fN) = true) (i1 : PySem.W.findIn K (.ref C) "__class__" = some (some (.builtin "object.__class__"))) (i2 : PySem.W.specialIn K (.builtin "object.__class__") "__get__" = some (some (.builtin "getset_descriptor.__get__"))) (i3 : PySem.W.takesIn K (.builtin "object.__class__") = some true) (i4 : PySem.W.mroIn K C (.type "object") = some true) (q1W : PySem.W.findIn K (.ref C) "width" = some (some (.ref pW))) (q2W : PySem.W.specialIn K (.ref pW) "__get__" = some (some (.builtin "property.__get__"))) (q3W : PySem.W.takesIn K (.ref pW) = some true) (q4W : PySem.W.recIn K pW "property" = some (.ref fW :: restW)) (lW : K.lookup fW = some ⟨ocW, odW, .func (PySem.W.fnOf "width" "Rules.width" (defArgs sPW) (defBody sPW) (defScope sPW) .none kVW dcW pmW anW cdW ctW), slW⟩) (cW : PySem.W.codeIn K cdW "Rules.width" = true) (kW : PySem.W.keepIn K (.ref fW) = true) (q1R : PySem.W.findIn K (.ref C) "rules" = some (some (.ref pR))) (q2R : PySem.W.specialIn K (.ref pR) "__get__" = some (some (.builtin "property.__get__"))) (q3R : PySem.W.takesIn K (.ref pR) = some true) (q4R : PySem.W.recIn K pR "property" = some (.ref fR :: restR)) (lR : K.lookup fR = some ⟨ocR, odR, .func (PySem.W.fnOf "rules" "Rules.rules" (defArgs sPR) (defBody sPR) (defScope sPR) .none kVR dcR pmR anR cdR ctR), slR⟩) (cR : PySem.W.codeIn K cdR "Rules.rules" = true) (kR : PySem.W.keepIn K (.ref fR) = true) (aX : PySem.W.findIn K (.ref C) "text" = some (some (.ref fX))) (iX : PySem.W.isFn K (.ref fX) = true) (lX : K.lookup fX = some ⟨ocX, odX, .func (PySem.W.fnOf "text" "Rules.text" (defArgs sRTxt) (defBody sRTxt) (defScope sRTxt) .none kVX dcX pmX anX cdX ctX), slX⟩) (cX : PySem.W.codeIn K cdX "Rules.text" = true) (kX : PySem.W.keepIn K (.ref fX) = true) : Nonempty (Kls K mg) :=
  have FN := fun_mk (st := sInit) lN cN kN
  have FW := fun_mk (st := sPW) lW cW kW
  have FR := fun_mk (st := sPR) lR cR kR
  have FX := fun_mk (st := sRTxt) lX cX kX
  ⟨⟨C, ⟨⟨pg, hd, po, sa⟩, nS, nG, PySem.W.mg_of X G aC⟩, fN, _, FN, ⟨mk, aN, iN, kc⟩, ⟨⟨pg, hd, po, sa⟩, i1, i2, i3, i4, kit_self⟩, fW, _, FW, FW.binds (ps := ["self"]) (fun _ _ _ _ _ _ us hl => match us, hl with | [_], _ => rfl), pW, ⟨q1W, q2W, q3W, ⟨restW, q4W⟩⟩, fR, _, FR, FR.binds (ps := ["self"]) (fun _ _ _ _ _ _ us hl => match us, hl with | [_], _ => rfl), pR, ⟨q1R, q2R, q3R, ⟨restR, q4R⟩⟩, fX, _, FX, FX.binds (ps := ["self"]) (fun _ _ _ _ _ _ us hl => match us, hl with | [_], _ => rfl), ⟨aX, iX, kX⟩⟩⟩
structure KlsT (K : PySem.W.Frag) (mg : Str → Option Value) where
  C : Addr
  TC : TxtT K mg C
  fN : Addr
  dN : FuncData
  FN : Fun K "__init__" "Table.__init__" sTInit fN dN
  M : Mk K C fN
  fD : Addr
  dD : FuncData
  FD : Fun K "read" "Table.read" sTRead fD dD
  bD : Binds K dD ["cls", "width", "text"] []
  mc : Value
  pD : Addr
  rD : ClX.CRead K C mc
  cD : ClX.CMet K C mc "read" pD fD
  fC : Addr
  dC : FuncData
  FC : Fun K "__call__" "Table.__call__" sTCall fC dC
  bC : Binds K dC ["self", "rule"] []
  cC : StX.CallO K C fC
  fO : Addr
  dO : FuncData
  FO : Fun K "obeyed" "Table.obeyed" sObey fO dO
  bO : Binds K dO ["self"] []
  mO : Meth K C "obeyed" fO
  fL : Addr
  dL : FuncData
  FL : Fun K "__len__" "Table.__len__" sTLen fL dL
  bL : Binds K dL ["self"] []
  aL : PySem.W.findIn K (.ref C) "__len__" = some (some (.ref fL))
  iL : PySem.W.isFn K (.ref fL) = true
  fX : Addr
  dX : FuncData
  FX : Fun K "text" "Table.text" sTText fX dX
  bX : Binds K dX ["self"] []
  mX : Meth K C "text" fX
theorem mk_clsT {K : PySem.W.Frag} {h : Heap} {mg : Str → Option Value} {C fN fD fC fO fL fX : Addr} {odN anN : Option Addr} {slN : Array (Option Value)} {ocN kVN dcN pmN cdN ctN : Value} {pD : Addr} {rest : List Value} {odD anD : Option Addr} {slD : Array (Option Value)} {ocD kVD dcD pmD cdD ctD : Value} {odC anC : Option Addr} {slC : Array (Option Value)} {ocC kVC dcC pmC cdC ctC : Value} {odO anO : Option Addr} {slO : Array (Option Value)} {ocO kVO dcO pmO cdO ctO : Value} {odL anL : Option Addr} {slL : Array (Option Value)} {ocL kVL dcL pmL cdL ctL : Value} {odX anX : Option Addr} {slX : Array (Option Value)} {ocX kVX dcX pmX cdX ctX : Value} (X : K.In h) (G : h.Ns mainGlobals mg)
    (aC : PySem.W.nsIn K mainGlobals "Table" = some (some (.ref C))) (pg : PySem.W.plainGet K C Str.empty = true) (hd : PySem.W.hasDictIn K C = true) (po : PySem.W.plainOver K C = true) (sa : PySem.W.findIn K (.ref C) "__setattr__" = some (some (.builtin "object.__setattr__"))) (kc : PySem.W.keepIn K (.ref C) = true) (nS : PySem.W.findIn K (.ref C) "span" = some none) (nL : PySem.W.findIn K (.ref C) "lines" = some none) (mk : PySem.W.makesIn K C = true) (aN : PySem.W.findIn K (.ref C) "__init__" = some (some (.ref fN))) (iN : PySem.W.isFn K (.ref fN) = true) (lN : K.lookup fN = some ⟨ocN, odN, .func (PySem.W.fnOf "__init__" "Table.__init__" (defArgs sTInit) (defBody sTInit) (defScope sTInit) .none kVN dcN pmN anN cdN ctN), slN⟩) (cN : PySem.W.codeIn K cdN "Table.__init__" = true) (kN : PySem.W.keepIn K (.ref fN) = true) (rd : PySem.W.readsIn K C (.type "type") = true) (ga : PySem.W.specialIn K (.ref C) "__getattribute__" = some (some (.builtin "type.__getattribute__"))) (aD : PySem.W.findCls K (.ref C) (.type "type") "read" = some (.get (.builtin "classmethod.__get__") (.ref pD) .none (.ref C))) (rD : PySem.W.recIn K pD "classmethod" = some (.ref fD :: rest)) (iD : PySem.W.fnIn K fD = true) (lD : K.lookup fD = some ⟨ocD, odD, .func (PySem.W.fnOf "read" "Table.read" (defArgs sTRead) (defBody sTRead) (defScope sTRead) .none kVD dcD pmD anD cdD ctD), slD⟩) (cD : PySem.W.codeIn K cdD "Table.read" = true) (kD : PySem.W.keepIn K (.ref fD) = true) (aK : PySem.W.findIn K (.ref C) "__call__" = some (some (.ref fC))) (iK : PySem.W.isFn K (.ref fC) = true) (jK : PySem.W.fnIn K fC = true) (lC : K.lookup fC = some ⟨ocC, odC, .func (PySem.W.fnOf "__call__" "Table.__call__" (defArgs sTCall) (defBody sTCall) (defScope sTCall) .none kVC dcC pmC anC cdC ctC), slC⟩) (cC : PySem.W.codeIn K cdC "Table.__call__" = true) (kC : PySem.W.keepIn K (.ref fC) = true) (aO : PySem.W.findIn K (.ref C) "obeyed" = some (some (.ref fO))) (iO : PySem.W.isFn K (.ref fO) = true) (lO : K.lookup fO = some ⟨ocO, odO, .func (PySem.W.fnOf "obeyed" "Table.obeyed" (defArgs sObey) (defBody sObey) (defScope sObey) .none kVO dcO pmO anO cdO ctO), slO⟩) (cO : PySem.W.codeIn K cdO "Table.obeyed" = true) (kO : PySem.W.keepIn K (.ref fO) = true) (aL : PySem.W.findIn K (.ref C) "__len__" = some (some (.ref fL))) (iL : PySem.W.isFn K (.ref fL) = true) (lL : K.lookup fL = some ⟨ocL, odL, .func (PySem.W.fnOf "__len__" "Table.__len__" (defArgs sTLen) (defBody sTLen) (defScope sTLen) .none kVL dcL pmL anL cdL ctL), slL⟩) (cL : PySem.W.codeIn K cdL "Table.__len__" = true) (kL : PySem.W.keepIn K (.ref fL) = true) (aX : PySem.W.findIn K (.ref C) "text" = some (some (.ref fX))) (iX : PySem.W.isFn K (.ref fX) = true) (lX : K.lookup fX = some ⟨ocX, odX, .func (PySem.W.fnOf "text" "Table.text" (defArgs sTText) (defBody sTText) (defScope sTText) .none kVX dcX pmX anX cdX ctX), slX⟩) (cX : PySem.W.codeIn K cdX "Table.text" = true) (kX : PySem.W.keepIn K (.ref fX) = true) : Nonempty (KlsT K mg) :=
  have FN := fun_mk (st := sTInit) lN cN kN
  have FD := fun_mk (st := sTRead) lD cD kD
  have FC := fun_mk (st := sTCall) lC cC kC
  have FO := fun_mk (st := sObey) lO cO kO
  have FL := fun_mk (st := sTLen) lL cL kL
  have FX := fun_mk (st := sTText) lX cX kX
  ⟨⟨C, ⟨⟨pg, hd, po, sa⟩, nS, nL, PySem.W.mg_of X G aC⟩, fN, _, FN, ⟨mk, aN, iN, kc⟩, fD, _, FD, FD.binds (ps := ["cls", "width", "text"]) (fun _ _ _ _ _ _ us hl => match us, hl with | [_, _, _], _ => rfl), .type "type", pD, ⟨rd, ga⟩, ⟨aD, ⟨rest, rD⟩, iD⟩, fC, _, FC, FC.binds (ps := ["self", "rule"]) (fun _ _ _ _ _ _ us hl => match us, hl with | [_, _], _ => rfl), ⟨aK, iK, jK⟩, fO, _, FO, FO.binds (ps := ["self"]) (fun _ _ _ _ _ _ us hl => match us, hl with | [_], _ => rfl), ⟨aO, iO, kO⟩, fL, _, FL, FL.binds (ps := ["self"]) (fun _ _ _ _ _ _ us hl => match us, hl with | [_], _ => rfl), aL, iL, fX, _, FX, FX.binds (ps := ["self"]) (fun _ _ _ _ _ _ us hl => match us, hl with | [_], _ => rfl), ⟨aX, iX, kX⟩⟩⟩
theorem mk_glbT {K : PySem.W.Frag} {h : Heap} {mg : Str → Option Value} {t1 t2 : Tok} (X : K.In h) (G : h.Ns mainGlobals mg) (a : PySem.W.nsIn K mainGlobals "LARGEST_VALUE" = some (some (.int 9999 t1))) (b : PySem.W.nsIn K mainGlobals "MOST_ROWS" = some (some (.int 400 t2))) : GlbT mg := ⟨⟨t1, PySem.W.mg_of X G a⟩, ⟨t2, PySem.W.mg_of X G b⟩⟩
theorem mk_exc_ColumnError {K : PySem.W.Frag} {h : Heap} {mg : Str → Option Value} {CE : Addr} (X : K.In h) (G : h.Ns mainGlobals mg) (a : PySem.W.nsIn K mainGlobals "ColumnError" = some (some (.ref CE))) : ∃ CE, mg "ColumnError" = some (.ref CE) := ⟨CE, PySem.W.mg_of X G a⟩
theorem all_mk {l : PySem.W.OpenLaw} {w : World} {K : PySem.W.Frag} {h : Heap} {mg : Str → Option Value} {fa f : Addr} {od an : Option Addr} {sl : Array (Option Value)} {oc kV dc pm cd ct : Value} (X : K.In h) (G : h.Ns mainGlobals mg) (hfa : mg "law" = some (.ref fa))
    (a : PySem.W.nsIn K mainGlobals "law" = some (some (.ref f))) (l1 : K.lookup f = some ⟨oc, od, .func (PySem.W.fnOf "law" "law" (defArgs sLaw) (defBody sLaw) (defScope sLaw) .none kV dc pm an cd ct), sl⟩) (c : PySem.W.codeIn K cd "law" = true) (k : PySem.W.keepIn K (.ref f) = true)
    (gb : Nonempty { z : Unit // ∃ kA, Glb K mg kA }) (kl : Nonempty (Kls K mg)) (kt : Nonempty (KlsT K mg)) (TT : GlbT mg) (ex_ColumnError : ∃ CE, mg "ColumnError" = some (.ref CE))  (m_is_an_integer : Nonempty (Df K mg "is_an_integer" sIsInt ["thing"])) (m_is_width : Nonempty (Df K mg "is_width" sIsWidth ["thing"])) (m_is_row : Nonempty (Df K mg "is_row" sIsRow ["width", "thing"])) (m_is_numeral : Nonempty (Df K mg "is_numeral" sIsNum ["word"])) (m_rows_of : Nonempty (Df K mg "rows_of" sRowsOf ["width", "text"])) (m_is_column : Nonempty (Df K mg "is_column" sIsCol ["width", "thing"])) (m_is_rule : Nonempty (Df K mg "is_rule" sIsRule ["width", "thing"])) (m_every_rule : Nonempty (Df K mg "every_rule" sEvery ["width"])) (m_holds : Nonempty (Df K mg "holds" sHo ["rows", "rule"])) (m_line_of : Nonempty (Df K mg "line_of" sLine ["rule"])) (m_l_text : Nonempty (Df K mg "_law_text" sTTx ["_law_lines_here"])) (m_l_are_great_ones_right : Nonempty (Df K mg "_law_are_great_ones_right" sGr [])) (m_l_source : Nonempty (Df K mg "_law_source" sSource ["_law_cell_here"])) (m_l_cell : Nonempty (Df K mg "_law_cell" sCell ["_law_script", "_law_index"])) (m_l_draw : Nonempty (Df K mg "_law_draw" sDraw ["_law_source_here", "_law_many"])) (m_l_choose : Nonempty (Df K mg "_law_choose" sChoose ["_law_source_here", "_law_values"])) (m_l_lines : Nonempty (Df K mg "_law_lines" sLines ["_law_source_here", "_law_width", "_law_most", "_law_value"])) (m_l_all : Nonempty (Df K mg "_law_all" sAll ["_law_width"])) (m_l_holds : Nonempty (Df K mg "_law_holds" sHolds ["_law_lines_here", "_law_rule"])) (m_l_is_equal : Nonempty (Df K mg "_law_is_equal" sIsEq ["_law_actual", "_law_expected"])) :
    ∃ fd : FuncData, (∀ (s : Shared) (v : Value), BindsTo s fd ⟨[v], []⟩ [("_law_script", v)]) ∧ ∀ base : Heap, K.In base → base.Ns mainGlobals mg → GD.FnG l.prog w K mg base CX0 8 fa fd ["_law_script"] (spLaw K) := by
  have e := hfa.symm.trans (PySem.W.mg_of X G a)
  cases e
  obtain ⟨⟨_, kA, T⟩⟩ := gb
  obtain ⟨Y⟩ := kl
  obtain ⟨Z⟩ := kt
  obtain ⟨E_ColumnError, g_ColumnError⟩ := ex_ColumnError
  obtain ⟨x_is_an_integer⟩ := m_is_an_integer
  obtain ⟨x_is_width⟩ := m_is_width
  obtain ⟨x_is_row⟩ := m_is_row
  obtain ⟨x_is_numeral⟩ := m_is_numeral
  obtain ⟨x_rows_of⟩ := m_rows_of
  obtain ⟨x_is_column⟩ := m_is_column
  obtain ⟨x_is_rule⟩ := m_is_rule
  obtain ⟨x_every_rule⟩ := m_every_rule
  obtain ⟨x_holds⟩ := m_holds
  obtain ⟨x_line_of⟩ := m_line_of
  obtain ⟨x_l_text⟩ := m_l_text
  obtain ⟨x_l_are_great_ones_right⟩ := m_l_are_great_ones_right
  obtain ⟨x_l_source⟩ := m_l_source
  obtain ⟨x_l_cell⟩ := m_l_cell
  obtain ⟨x_l_draw⟩ := m_l_draw
  obtain ⟨x_l_choose⟩ := m_l_choose
  obtain ⟨x_l_lines⟩ := m_l_lines
  obtain ⟨x_l_all⟩ := m_l_all
  obtain ⟨x_l_holds⟩ := m_l_holds
  obtain ⟨x_l_is_equal⟩ := m_l_is_equal
  refine ⟨PySem.W.fnOf "law" "law" (defArgs sLaw) (defBody sLaw) (defScope sLaw) .none kV dc pm an cd ct, fun s v => .of_eq rfl, fun base _ _ => ?_⟩
  have ic : C8.InsC K Y.C := Y.ic
  have c_is_an_integer : Cal l.prog w K mg base "is_an_integer" ["thing"] spIsInt 1 := Df.cal x_is_an_integer fun k => ok_isint (k := k) x_is_an_integer.F T
  have c_is_width : Cal l.prog w K mg base "is_width" ["thing"] spIsWidth 2 := Df.cal x_is_width fun k => ok_iswidth (k := k) x_is_width.F T c_is_an_integer
  have c_is_row : Cal l.prog w K mg base "is_row" ["width", "thing"] (spIsRow K) 2 := Df.cal x_is_row fun k => ok_isrow (k := k) x_is_row.F T TT c_is_an_integer
  have mkT : MakeT l.prog w K mg base Z.C 3 := ⟨Z.fN, Z.M, from_le fun k => ok_tinit (k := k) Z.FN T TT Z.TC c_is_width c_is_row⟩
  have c_is_numeral : Cal l.prog w K mg base "is_numeral" ["word"] spIsNum 1 := Df.cal x_is_numeral fun k => ok_isnum (k := k) x_is_numeral.F T TT
  have c_rows_of : Cal l.prog w K mg base "rows_of" ["width", "text"] (spRowsOf K) 2 := Df.cal x_rows_of fun k => ok_rowsof (k := k) x_rows_of.F T TT c_is_numeral
  have rdT : ReadT l.prog w K mg base Z.C 5 := ⟨Z.mc, Z.pD, Z.fD, Z.rD, Z.cD, from_le fun k => raw0 (ok_tread (k := k) Z.FD T mkT c_is_width c_rows_of) Z.bD⟩
  have c_is_column : Cal l.prog w K mg base "is_column" ["width", "thing"] spIsCol 2 := Df.cal x_is_column fun k => ok_iscol (k := k) x_is_column.F T c_is_an_integer
  have c_is_rule : Cal l.prog w K mg base "is_rule" ["width", "thing"] (spIsRule K) 3 := Df.cal x_is_rule fun k => ok_isrule (k := k) x_is_rule.F T c_is_column
  have mkR : MakeR l.prog w K mg base Y.C 4 := ⟨Y.fN, Y.M, from_le fun k => ok_init (k := k) Y.FN T Y.TC c_is_width c_is_rule⟩
  have c_every_rule : Cal l.prog w K mg base "every_rule" ["width"] (spEvery K) 1 := Df.cal x_every_rule fun k => ok_every (k := k) x_every_rule.F T
  have c_holds : Cal l.prog w K mg base "holds" ["rows", "rule"] (spHoB K) 1 := Df.cal x_holds fun k => ok_hoB (k := k) x_holds.F T
  have ob : ObeyT l.prog w K mg base Y.C Z.C 6 := ⟨Z.fO, Z.dO, Z.mO, from_le fun k => ok_obey (k := k) Z.FO T Y.TC Z.TC mkR c_every_rule c_holds, Z.bO⟩
  have clT : CallT l.prog w K mg base Z.C 4 := ⟨Z.fC, Z.cC, from_le fun k => raw0 (ok_tcall (k := k) Z.FC T Z.TC c_holds c_is_rule) Z.bC⟩
  have txT : TxtTM l.prog w K mg base Z.C 1 := ⟨Z.fX, Z.dX, Z.mX, from_le fun k => ok_ttext (k := k) Z.FX T Z.TC, Z.bX⟩
  have pW : Prp l.prog w K mg base Y.C "width" "span" := ⟨Y.pW, Y.fW, Y.dW, Y.qW, from_le fun k => ok_pw (k := k) Y.FW Y.TC, Y.bW⟩
  have pR : Prp l.prog w K mg base Y.C "rules" "given" := ⟨Y.pR, Y.fR, Y.dR, Y.qR, from_le fun k => ok_pr (k := k) Y.FR Y.TC, Y.bR⟩
  have c_line_of : Cal l.prog w K mg base "line_of" ["rule"] (spLine K) 1 := Df.cal x_line_of fun k => ok_line (k := k) x_line_of.F
  have txR : TxtR l.prog w K mg base Y.C 2 := ⟨Y.fX, Y.dX, Y.mX, from_le fun k => ok_rtxt (k := k) Y.FX Y.TC c_line_of, Y.bX⟩
  have lnT : LenT l.prog w K mg base Z.C (spTLen K Z.C) 1 := ⟨Z.fL, Z.aL, Z.iL, from_le fun k => raw0 (ok_tlen (k := k) Z.FL T Z.TC) Z.bL⟩
  have c__law_text : Cal l.prog w K mg base "_law_text" ["_law_lines_here"] (spTTx K) 1 := Df.cal x_l_text fun k => ok_ttx (k := k) x_l_text.F T
  have c__law_are_great_ones_right : Cal l.prog w K mg base "_law_are_great_ones_right" [] spGr 7 := Df.cal x_l_are_great_ones_right fun k => ok_gr (k := k) x_l_are_great_ones_right.F T Y.TC Z.TC rdT ob txR lnT clT c__law_text
  have c__law_source : Cal l.prog w K mg base "_law_source" ["_law_cell_here"] spSource 1 := Df.cal x_l_source fun k => ok_source (k := k) x_l_source.F T.max
  have c__law_cell : Cal l.prog w K mg base "_law_cell" ["_law_script", "_law_index"] (spCell K) 1 := Df.cal x_l_cell fun k => ok_cell (k := k) x_l_cell.F T.len
  have c__law_draw : Cal l.prog w K mg base "_law_draw" ["_law_source_here", "_law_many"] spDraw2 1 := Df.cal x_l_draw fun k => ok_draw2 (k := k) x_l_draw.F
  have c__law_choose : Cal l.prog w K mg base "_law_choose" ["_law_source_here", "_law_values"] (spChoose K) 2 := Df.cal x_l_choose fun k => ok_choose (k := k) x_l_choose.F T c__law_draw
  have c__law_lines : Cal l.prog w K mg base "_law_lines" ["_law_source_here", "_law_width", "_law_most", "_law_value"] (spLines K) 2 := Df.cal x_l_lines fun k => ok_lines (k := k) x_l_lines.F T c__law_draw
  have c__law_all : Cal l.prog w K mg base "_law_all" ["_law_width"] (spAll K) 1 := Df.cal x_l_all fun k => ok_all (k := k) x_l_all.F T
  have c__law_holds : Cal l.prog w K mg base "_law_holds" ["_law_lines_here", "_law_rule"] (spHolds K) 1 := Df.cal x_l_holds fun k => ok_holds (k := k) x_l_holds.F T
  have c__law_is_equal : GD.CalG l.prog w K mg base "_law_is_equal" ["_law_actual", "_law_expected"] (GD.spEqD K) 1 := GD.calG x_l_is_equal fun k => GD.ok_iseqD (k := k) x_l_is_equal.F T
  exact ok_law (k := 0) (fun_mk (st := sLaw) l1 c k) T Z.TC Y.TC g_ColumnError ic rdT ob clT txT pW pR c__law_are_great_ones_right c__law_source c__law_cell c__law_draw c__law_choose c__law_lines c__law_text c__law_all c__law_holds c__law_is_equal
end CC
open PySem PySem.W PyProof.Rows
set_option maxHeartbeats 0 in
theorem PySem.Challenge.cw_countcycles_k07_rules_that_hold_holds : PySem.Challenge.rw_countcycles_k07_rules_that_hold.Holds := by
  w_on; o_law; k_head; (case hw => w_witness2)
  k_fill
  refine GD.walk_ofG (l := PySem.Challenge.rw_countcycles_k07_rules_that_hold) (n := 63) (k := 8) (x := "_law_script") (CX := fun _ => L2.CX0) (sp := fun w => CC.spLaw _) rfl (by decide) rfl ⟨rfl, by decide, by decide⟩ (fun w h Y => PySem.W.kIn_of Y) ?F (fun _ _ a ns hl _ hS => ⟨a, ns, rfl, hS, hl, fun _ => rfl⟩) (fun _ _ _ _ _ h => h)
  case F =>
    intro w mg fa h KX G hmg
    refine' CC.all_mk KX G hmg ?a ?l ?c ?k ?gb ?kl ?kt ?tt ?ex_ColumnError ?m_is_an_integer ?m_is_width ?m_is_row ?m_is_numeral ?m_rows_of ?m_is_column ?m_is_rule ?m_every_rule ?m_holds ?m_line_of ?m_l_text ?m_l_are_great_ones_right ?m_l_source ?m_l_cell ?m_l_draw ?m_l_choose ?m_l_lines ?m_l_all ?m_l_holds ?m_l_is_equal
    (case a => k_is); (case l => k_is); (case c => k_is); (case k => k_is)
    case gb =>
      refine' CC.mk_glb KX G ?z_len ?z_max ?z_min ?z_isi ?z_int ?z_bool ?z_str ?z_tup ?z_rng ?z_lst ?z_all ?z_set ?z_enu ?z_rep ?z_srt ?z_zip ?z_any ?z_sum ?z_rev ?z_dic ?z_typ ?z1 ?z2 ?z3
      (case z_len => k_is); (case z_max => k_is); (case z_min => k_is); (case z_isi => k_is); (case z_int => k_is); (case z_bool => k_is); (case z_str => k_is); (case z_tup => k_is); (case z_rng => k_is); (case z_lst => k_is); (case z_all => k_is); (case z_set => k_is); (case z_enu => k_is); (case z_rep => k_is); (case z_srt => k_is); (case z_zip => k_is); (case z_any => k_is); (case z_sum => k_is); (case z_rev => k_is); (case z_dic => k_is); (case z_typ => k_is); (case z1 => k_is); (case z2 => k_is); (case z3 => k_is)
    case kl =>
      refine' CC.mk_cls KX G ?y_aC ?y_pg ?y_hd ?y_po ?y_sa ?y_kc ?y_nS ?y_nG ?y_mk ?y_aN ?y_iN ?y_lN ?y_cN ?y_kN ?y_i1 ?y_i2 ?y_i3 ?y_i4 ?y_q1W ?y_q2W ?y_q3W ?y_q4W ?y_lW ?y_cW ?y_kW ?y_q1R ?y_q2R ?y_q3R ?y_q4R ?y_lR ?y_cR ?y_kR ?y_aX ?y_iX ?y_lX ?y_cX ?y_kX
      (case y_aC => k_is)
      (case y_pg => k_is)
      (case y_hd => k_is)
      (case y_po => k_is)
      (case y_sa => k_is)
      (case y_kc => k_is)
      (case y_nS => k_is)
      (case y_nG => k_is)
      (case y_mk => k_is)
      (case y_aN => k_is)
      (case y_iN => k_is)
      (case y_lN => k_is)
      (case y_cN => k_is)
      (case y_kN => k_is)
      (case y_i1 => k_is)
      (case y_i2 => k_is)
      (case y_i3 => k_is)
      (case y_i4 => k_is)
      (case y_q1W => k_is)
      (case y_q2W => k_is)
      (case y_q3W => k_is)
      (case y_q4W => k_is)
      (case y_lW => k_is)
      (case y_cW => k_is)
      (case y_kW => k_is)
      (case y_q1R => k_is)
      (case y_q2R => k_is)
      (case y_q3R => k_is)
      (case y_q4R => k_is)
      (case y_lR => k_is)
      (case y_cR => k_is)
      (case y_kR => k_is)
      (case y_aX => k_is)
      (case y_iX => k_is)
      (case y_lX => k_is)
      (case y_cX => k_is)
      (case y_kX => k_is)
    case kt =>
      refine' CC.mk_clsT KX G ?y_aC ?y_pg ?y_hd ?y_po ?y_sa ?y_kc ?y_nS ?y_nL ?y_mk ?y_aN ?y_iN ?y_lN ?y_cN ?y_kN ?y_rd ?y_ga ?y_aD ?y_rD ?y_iD ?y_lD ?y_cD ?y_kD ?y_aK ?y_iK ?y_jK ?y_lC ?y_cC ?y_kC ?y_aO ?y_iO ?y_lO ?y_cO ?y_kO ?y_aL ?y_iL ?y_lL ?y_cL ?y_kL ?y_aX ?y_iX ?y_lX ?y_cX ?y_kX
      (case y_aC => k_is)
      (case y_pg => k_is)
      (case y_hd => k_is)
      (case y_po => k_is)
      (case y_sa => k_is)
      (case y_kc => k_is)
      (case y_nS => k_is)
      (case y_nL => k_is)
      (case y_mk => k_is)
      (case y_aN => k_is)
      (case y_iN => k_is)
      (case y_lN => k_is)
      (case y_cN => k_is)
      (case y_kN => k_is)
      (case y_rd => k_is)
      (case y_ga => k_is)
      (case y_aD => k_is)
      (case y_rD => k_is)
      (case y_iD => k_is)
      (case y_lD => k_is)
      (case y_cD => k_is)
      (case y_kD => k_is)
      (case y_aK => k_is)
      (case y_iK => k_is)
      (case y_jK => k_is)
      (case y_lC => k_is)
      (case y_cC => k_is)
      (case y_kC => k_is)
      (case y_aO => k_is)
      (case y_iO => k_is)
      (case y_lO => k_is)
      (case y_cO => k_is)
      (case y_kO => k_is)
      (case y_aL => k_is)
      (case y_iL => k_is)
      (case y_lL => k_is)
      (case y_cL => k_is)
      (case y_kL => k_is)
      (case y_aX => k_is)
      (case y_iX => k_is)
      (case y_lX => k_is)
      (case y_cX => k_is)
      (case y_kX => k_is)
    (case tt => (refine' CC.mk_glbT KX G ?a ?b; (case a => k_is); (case b => k_is)))
    (case ex_ColumnError => (refine' CC.mk_exc_ColumnError KX G ?a; (case a => k_is)))
    (case m_is_an_integer => (refine' CC.mk_is_an_integer KX G ?a ?l ?c ?k; (case a => k_is); (case l => k_is); (case c => k_is); (case k => k_is)))
    (case m_is_width => (refine' CC.mk_is_width KX G ?a ?l ?c ?k; (case a => k_is); (case l => k_is); (case c => k_is); (case k => k_is)))
    (case m_is_row => (refine' CC.mk_is_row KX G ?a ?l ?c ?k; (case a => k_is); (case l => k_is); (case c => k_is); (case k => k_is)))
    (case m_is_numeral => (refine' CC.mk_is_numeral KX G ?a ?l ?c ?k; (case a => k_is); (case l => k_is); (case c => k_is); (case k => k_is)))
    (case m_rows_of => (refine' CC.mk_rows_of KX G ?a ?l ?c ?k; (case a => k_is); (case l => k_is); (case c => k_is); (case k => k_is)))
    (case m_is_column => (refine' CC.mk_is_column KX G ?a ?l ?c ?k; (case a => k_is); (case l => k_is); (case c => k_is); (case k => k_is)))
    (case m_is_rule => (refine' CC.mk_is_rule KX G ?a ?l ?c ?k; (case a => k_is); (case l => k_is); (case c => k_is); (case k => k_is)))
    (case m_every_rule => (refine' CC.mk_every_rule KX G ?a ?l ?c ?k; (case a => k_is); (case l => k_is); (case c => k_is); (case k => k_is)))
    (case m_holds => (refine' CC.mk_holds KX G ?a ?l ?c ?k; (case a => k_is); (case l => k_is); (case c => k_is); (case k => k_is)))
    (case m_line_of => (refine' CC.mk_line_of KX G ?a ?l ?c ?k; (case a => k_is); (case l => k_is); (case c => k_is); (case k => k_is)))
    (case m_l_text => (refine' CC.mk_l_text KX G ?a ?l ?c ?k; (case a => k_is); (case l => k_is); (case c => k_is); (case k => k_is)))
    (case m_l_are_great_ones_right => (refine' CC.mk_l_are_great_ones_right KX G ?a ?l ?c ?k; (case a => k_is); (case l => k_is); (case c => k_is); (case k => k_is)))
    (case m_l_source => (refine' CC.mk_l_source KX G ?a ?l ?c ?k; (case a => k_is); (case l => k_is); (case c => k_is); (case k => k_is)))
    (case m_l_cell => (refine' CC.mk_l_cell KX G ?a ?l ?c ?k; (case a => k_is); (case l => k_is); (case c => k_is); (case k => k_is)))
    (case m_l_draw => (refine' CC.mk_l_draw KX G ?a ?l ?c ?k; (case a => k_is); (case l => k_is); (case c => k_is); (case k => k_is)))
    (case m_l_choose => (refine' CC.mk_l_choose KX G ?a ?l ?c ?k; (case a => k_is); (case l => k_is); (case c => k_is); (case k => k_is)))
    (case m_l_lines => (refine' CC.mk_l_lines KX G ?a ?l ?c ?k; (case a => k_is); (case l => k_is); (case c => k_is); (case k => k_is)))
    (case m_l_all => (refine' CC.mk_l_all KX G ?a ?l ?c ?k; (case a => k_is); (case l => k_is); (case c => k_is); (case k => k_is)))
    (case m_l_holds => (refine' CC.mk_l_holds KX G ?a ?l ?c ?k; (case a => k_is); (case l => k_is); (case c => k_is); (case k => k_is)))
    (case m_l_is_equal => (refine' CC.mk_l_is_equal KX G ?a ?l ?c ?k; (case a => k_is); (case l => k_is); (case c => k_is); (case k => k_is)))
