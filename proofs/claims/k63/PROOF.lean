import PyProof.Rows.All
import Wide.All
import OpenK.AllK
import Wide.FinOn
import HandS.ForMost
import HandS.Deep
import HandS.IsInst
import HandS.FStr
import HandS.Conv
import HandS.Strs
import HandS.SetFor
import HandS.TupSets
import HandS.DictComp
import HandS.Star
import HandS.ClsMeth
import HandS.More
import HandS.SortInts
import HandS.Property
import HandS.Codes
import HandS.GenYield
import HandS.GenCall
import HandS.GenList
import HandS.Base
import HandS.Call
import HandS.List
import HandS.Dict
import HandS.Comp
import HandS.Words
import HandS.Zip
import PyProof.ReprRoads
import PyProof.ReprLen
import PySem.Challenge.RW_countcycles_k63_all_that_follow
set_option Elab.async false
set_option linter.all false
set_option maxRecDepth 100000
set_option maxHeartbeats 16000000
namespace CC
open PySem L2
def tp (i : Nat) : Stmt := PySem.Challenge.pw_countcycles_k63_all_that_follow.main.body.getD i (.Pass ⟨0, 0, 0, 0⟩)
abbrev sCell : Stmt := tp 30
/-- a source of draws: three numbers -/
def IsSrc (o : HO) : Prop := ∃ a b c : Int, o = .lst [.int a, .int b, .int c] ∧ 0 ≤ b ∧ b < 2147483648
def spCell (K : PySem.W.Frag) : Sp := fun vs H Q _ => ∃ (a : Addr) (ns : List Int) (k : Nat), vs = [.ref a, .int (k : Int)] ∧ SqL K H a (ns.map V.int) ∧ ∀ z : Int, Q (.int z) H
def spSource : Sp := fun vs H Q _ => ∃ z : Int, vs = [.int z] ∧ ∀ p o, H p = none → IsSrc o → Q (.ref p) (upd H p o)
def spDraw : Sp := fun vs H Q _ => ∃ (s : Addr) (m : Int) (o : HO), vs = [.ref s, .int m] ∧ H s = some o ∧ IsSrc o ∧ 0 < m ∧ m < 1000000 ∧ ∀ (r : Int) (o' : HO), 0 ≤ r → r < m → IsSrc o' → Q (.int r) (upd H s o')
section
variable {P : Program} {w : World} {K : PySem.W.Frag} {mg : Str → Option Value} {base : Heap}
theorem scCell : FnScope ["_law_script", "_law_index"] ["_law_script", "_law_index"] (defScope sCell) := ⟨rfl, rfl, rfl, by decide +kernel, rfl, by decide +kernel, by decide +kernel⟩
theorem ok_cell {f : Addr} {fd : FuncData} {k : Nat} (F : Fun K "_law_cell" "_law_cell" sCell f fd) (ml : mg "len" = none) : FnOk P w K mg base CX0 (k + 1) f fd ["_law_script", "_law_index"] (spCell K) := by
  refine F.ok scCell (fun vs H Q E h => ?_) (fun cdv A outer s H vs Q E hr h => ?_)
  · obtain ⟨a, ns, k, rfl, _⟩ := h
    rfl
  · obtain ⟨a, ns, k, rfl, hS, q⟩ := h
    refine ⟨_, pss_cons (ps_if (pt_cmpR op_lt (pv 1) (pe_callB call_len_seq (by rfl) ml PySem.boot_len (pa_cons (pv 0) pa_nil)) (nomark _)) (pss_one (ps_ret (pe_ix ix_list (pv 0) (pv 1) (fun _ _ => rfl)))) pss_nil) (pss_one (ps_ret pe_int)), ?_⟩
    refine ⟨_, rfl, _, rfl, a, _, rfl, .inl hS, _, _, rfl, rfl, _, rfl, ite2 (fun e => ?_) (fun e => ?_)⟩
    · have e1 : (k : Int) < ((ns.map V.int).length : Int) := of_decide_eq_true e
      have e2 : k < ns.length := by
        rw [List.length_map] at e1
        omega
      have e3 : (ns.map V.int)[k]? = some (.int ns[k]) := by
        rw [List.getElem?_map, List.getElem?_eq_getElem e2]
        rfl
      exact ⟨_, rfl, _, rfl, a, _, _, _, rfl, rfl, hS, atI_nat e3, q _⟩
    · exact q 0
end
end CC
namespace CC
open PySem L2
/-! ### data in the heap -/
section
variable {K : PySem.W.Frag} {H H' : Hp}
theorem same_rd {a : Addr} {u : HO} (e : Same H H') (h : Rd H a u) : Rd H' a u := by
  rcases h with h | ⟨o, h⟩
  · exact .inl (e a _ h)
  · exact .inr ⟨o, e a _ h⟩
theorem same_l {a : Addr} {xs : List V} (e : Same H H') (h : SqL K H a xs) : SqL K H' a xs := by
  rcases h with h | h
  · exact .inl (same_rd e h)
  · exact .inr h
theorem same_t {a : Addr} {xs : List V} (e : Same H H') (h : SqT K H a xs) : SqT K H' a xs := by
  rcases h with h | h
  · exact .inl (same_rd e h)
  · exact .inr h
mutual
theorem dp_same (e : Same H H') : ∀ (d : PyData) (v : V), Dp K H v d → Dp K H' v d
  | .none, _, h => by cases h; exact .non
  | .bool b, _, h => by cases h; exact .bl b
  | .int i, _, h => by cases h; exact .int i
  | .str x, _, h => by cases h; exact .str x
  | .list ds, _, h => by
    cases h with
    | lst hs ha => exact .lst (same_l e hs) (dps_same e ds _ ha)
  | .tuple ds, _, h => by
    cases h with
    | tup hs ha => exact .tup (same_t e hs) (dps_same e ds _ ha)
  | .dict _, _, h => by cases h
theorem dps_same (e : Same H H') : ∀ (ds : List PyData) (vs : List V), DpAll K H vs ds → DpAll K H' vs ds
  | [], _, h => by cases h; exact .nil
  | d :: ds, _, h => by
    cases h with
    | cons h1 h2 => exact .cons (dp_same e d _ h1) (dps_same e ds _ h2)
end
theorem dps_len : ∀ {ds : List PyData} {vs : List V}, DpAll K H vs ds → vs.length = ds.length
  | [], _, h => by cases h; rfl
  | d :: ds, _, h => by
    cases h with
    | cons h1 h2 => exact congrArg (· + 1) (dps_len h2)
theorem dps_at : ∀ {ds : List PyData} {vs : List V} {i : Nat} {v : V}, DpAll K H vs ds → vs[i]? = some v → ∃ d, ds[i]? = some d ∧ Dp K H v d
  | [], _, i, v, h, e => by
    cases h
    simp at e
  | d :: ds, _, 0, v, h, e => by
    cases h with
    | cons h1 h2 => exact ⟨d, rfl, by simp at e; subst e; exact h1⟩
  | d :: ds, _, i + 1, v, h, e => by
    cases h with
    | cons h1 h2 => exact dps_at (i := i) h2 (by simpa using e)
theorem dps_to : ∀ {ds : List PyData} {vs : List V} {i : Nat} {d : PyData}, DpAll K H vs ds → ds[i]? = some d → ∃ v, vs[i]? = some v ∧ Dp K H v d
  | [], _, i, v, h, e => by
    cases h
    simp at e
  | d :: ds, _, 0, v, h, e => by
    cases h with
    | cons h1 h2 => exact ⟨_, rfl, by simp at e; subst e; exact h1⟩
  | d :: ds, _, i + 1, v, h, e => by
    cases h with
    | cons h1 h2 => exact dps_to (i := i) h2 (by simpa using e)
theorem dps_app : ∀ {ds es : List PyData} {vs us : List V}, DpAll K H vs ds → DpAll K H us es → DpAll K H (vs ++ us) (ds ++ es)
  | [], _, _, _, h, g => by
    cases h
    exact g
  | d :: ds, _, _, _, h, g => by
    cases h with
    | cons h1 h2 => exact .cons h1 (dps_app h2 g)
theorem dps_take : ∀ {ds : List PyData} {vs : List V} (n : Nat), DpAll K H vs ds → DpAll K H (vs.take n) (ds.take n)
  | _, _, 0, _ => .nil
  | [], _, n + 1, h => by
    cases h
    exact .nil
  | d :: ds, _, n + 1, h => by
    cases h with
    | cons h1 h2 => exact .cons h1 (dps_take n h2)
theorem dps_drop : ∀ {ds : List PyData} {vs : List V} (n : Nat), DpAll K H vs ds → DpAll K H (vs.drop n) (ds.drop n)
  | _, _, 0, h => h
  | [], _, n + 1, h => by
    cases h
    exact .nil
  | d :: ds, _, n + 1, h => by
    cases h with
    | cons h1 h2 => exact dps_drop n h2
theorem dps_one {v : V} {d : PyData} (h : Dp K H v d) : DpAll K H [v] [d] := .cons h .nil
theorem dps_ints : ∀ ns : List Int, DpAll K H (ns.map V.int) (ns.map PyData.int)
  | [] => .nil
  | n :: ns => .cons (.int n) (dps_ints ns)
theorem dps_bls : ∀ ns : List Bool, DpAll K H (ns.map V.bl) (ns.map PyData.bool)
  | [] => .nil
  | n :: ns => .cons (.bl n) (dps_bls ns)
theorem dp_l {v : V} {ds : List PyData} (h : Dp K H v (.list ds)) : ∃ p vs, v = .ref p ∧ SqL K H p vs ∧ DpAll K H vs ds := by
  cases h with
  | lst hs ha => exact ⟨_, _, rfl, hs, ha⟩
theorem dp_t {v : V} {ds : List PyData} (h : Dp K H v (.tuple ds)) : ∃ p vs, v = .ref p ∧ SqT K H p vs ∧ DpAll K H vs ds := by
  cases h with
  | tup hs ha => exact ⟨_, _, rfl, hs, ha⟩
theorem dp_int {v : V} {i : Int} (h : Dp K H v (.int i)) : v = .int i := by
  cases h
  rfl
theorem dp_str {v : V} {i : Str} (h : Dp K H v (.str i)) : v = .str i := by
  cases h
  rfl
theorem same_new {p : Addr} {o : HO} (h : H p = none) : Same H (upd H p o) := fun b x e => by
  rw [upd_ne (ne_of_none e h)]
  exact e
theorem same_mut {p : Addr} {o : HO} (e : Same H H') (h : H p = none) : Same H (upd H' p o) := fun b x q => by
  rw [upd_ne (ne_of_none q h)]
  exact e b x q
/-- the heap without one object -/
def wo (H : Hp) (s : Addr) : Hp := fun b => if b = s then none else H b
theorem wo_at (s : Addr) : wo H s s = none := by
  unfold wo
  rw [if_pos rfl]
theorem wo_ne {s b : Addr} (h : b ≠ s) : wo H s b = H b := by
  unfold wo
  rw [if_neg h]
theorem wo_le (s : Addr) : Same (wo H s) H := fun b o e => by
  by_cases h : b = s
  · subst h
    rw [wo_at] at e
    cases e
  · rw [wo_ne h] at e
    exact e
theorem wo_upd (s : Addr) (o : HO) : wo (upd H s o) s = wo H s := by
  funext b
  by_cases h : b = s
  · subst h
    rw [wo_at, wo_at]
  · rw [wo_ne h, wo_ne h, upd_ne h]
theorem wo_upd_ne {s p : Addr} (o : HO) (h : p ≠ s) : wo (upd H p o) s = upd (wo H s) p o := by
  funext b
  by_cases hb : b = s
  · subst hb
    rw [wo_at, upd_ne (Ne.symm h), wo_at]
  · rw [wo_ne hb]
    by_cases hp : b = p
    · subst hp
      rw [upd_same, upd_same]
    · rw [upd_ne hp, upd_ne hp, wo_ne hb]
theorem wo_same {s : Addr} (e : Same H H') : Same (wo H s) (wo H' s) := fun b o q => by
  by_cases h : b = s
  · subst h
    rw [wo_at] at q
    cases q
  · rw [wo_ne h] at q ⊢
    exact e b o q
theorem wo_ext {s : Addr} {o : HO} (e : Same (wo H s) (wo H' s)) (h' : H' s = some o) (h : H s = some o) : Same H H' := fun b u q => by
  by_cases hb : b = s
  · subst hb
    rw [h] at q
    rw [h', q]
  · have := e b u (by rw [wo_ne hb]; exact q)
    rw [wo_ne hb] at this
    exact this
end
/-! ### rules and pairs as data -/
structure R where
  k : Bool
  a : Nat
  b : Nat
  deriving DecidableEq
def kd (k : Bool) : Str := if k then "settles" else "within"
def R.d (r : R) : PyData := .tuple [.str (kd r.k), .int (r.a : Int), .int (r.b : Int)]
def prd (p : Nat × Nat) : PyData := .tuple [.int (p.1 : Int), .int (p.2 : Int)]
theorem kd_inj {j k : Bool} (h : kd j = kd k) : j = k := by
  revert h
  cases j <;> cases k <;> decide +kernel
theorem kd_ok (k : Bool) : PyData.strOk (kd k) = true := by
  cases k <;> decide +kernel
theorem rd_shaped (r : R) : SeqAt.shaped r.d = true := by
  show (r.d.canLay0 && decide (r.d.depth ≤ 64)) = true
  simp [R.d, PyData.canLay0, PyData.canLayAll0, PyData.depth, PyData.depthAll, kd_ok]
theorem prd_shaped (r : Nat × Nat) : SeqAt.shaped (prd r) = true := by
  show ((prd r).canLay0 && decide ((prd r).depth ≤ 64)) = true
  simp [prd, PyData.canLay0, PyData.canLayAll0, PyData.depth, PyData.depthAll]
theorem lay_all : ∀ {ds : List PyData}, (∀ d ∈ ds, SeqAt.shaped d = true) → PyData.canLayAll0 ds = true ∧ PyData.depthAll ds ≤ 64
  | [], _ => by simp [PyData.canLayAll0, PyData.depthAll]
  | d :: ds, h => by
    have h1 := h d (List.mem_cons_self)
    have h2 := lay_all (ds := ds) fun e he => h e (List.mem_cons_of_mem _ he)
    have h1 : (d.canLay0 && decide (d.depth ≤ 64)) = true := h1
    rw [Bool.and_eq_true, decide_eq_true_eq] at h1
    simp only [PyData.canLayAll0, PyData.depthAll, Bool.and_eq_true]
    refine ⟨⟨h1.1, h2.1⟩, ?_⟩
    omega
theorem rds_shaped (rs : List R) : SeqAt.shaped (.list (rs.map R.d)) = true := by
  have h : PyData.canLayAll0 (rs.map R.d) = true ∧ PyData.depthAll (rs.map R.d) ≤ 2 := by
    induction rs with
    | nil => simp [PyData.canLayAll0, PyData.depthAll]
    | cons r rs ih =>
      simp only [List.map_cons, PyData.canLayAll0, PyData.depthAll, R.d, PyData.canLay0, PyData.depth, Bool.and_eq_true]
      refine ⟨⟨by simp [kd_ok], ih.1⟩, ?_⟩
      have := ih.2
      omega
  show ((PyData.list (rs.map R.d)).canLay0 && decide ((PyData.list (rs.map R.d)).depth ≤ 64)) = true
  simp only [PyData.canLay0, PyData.depth, h.1, Bool.true_and]
  exact decide_eq_true (by have := h.2; omega)
theorem prds_shaped (rs : List (Nat × Nat)) : SeqAt.shaped (.list (rs.map prd)) = true := by
  have h : PyData.canLayAll0 (rs.map prd) = true ∧ PyData.depthAll (rs.map prd) ≤ 2 := by
    induction rs with
    | nil => simp [PyData.canLayAll0, PyData.depthAll]
    | cons r rs ih =>
      simp only [List.map_cons, PyData.canLayAll0, PyData.depthAll, prd, PyData.canLay0, PyData.depth, Bool.and_eq_true]
      refine ⟨⟨by simp, ih.1⟩, ?_⟩
      have := ih.2
      omega
  show ((PyData.list (rs.map prd)).canLay0 && decide ((PyData.list (rs.map prd)).depth ≤ 64)) = true
  simp only [PyData.canLay0, PyData.depth, h.1, Bool.true_and]
  exact decide_eq_true (by have := h.2; omega)
theorem rd_eqv (r s : R) : PyData.eqv r.d s.d = decide (r = s) := by
  obtain ⟨k, a, b⟩ := r
  obtain ⟨k', a', b'⟩ := s
  simp only [R.d, PyData.eqv, PyData.eqvAll, Bool.and_true]
  by_cases h : (⟨k, a, b⟩ : R) = ⟨k', a', b'⟩
  · rw [decide_eq_true h]
    cases h
    simp
  · rw [decide_eq_false h]
    by_cases hk : k = k'
    · subst hk
      have : ¬ (a = a' ∧ b = b') := fun z => h (by rw [z.1, z.2])
      simp
      intro z
      omega
    · have : ¬ kd k = kd k' := fun z => hk (kd_inj z)
      simp [this]
theorem prd_eqv (r s : Nat × Nat) : PyData.eqv (prd r) (prd s) = decide (r = s) := by
  obtain ⟨a, b⟩ := r
  obtain ⟨a', b'⟩ := s
  simp only [prd, PyData.eqv, PyData.eqvAll, Bool.and_true]
  by_cases h : (a, b) = (a', b')
  · rw [decide_eq_true h]
    cases h
    simp
  · rw [decide_eq_false h]
    have : ¬ (a = a' ∧ b = b') := fun z => h (by rw [z.1, z.2])
    simp
    intro z
    omega
theorem rds_any (rs : List R) (r : R) : ((rs.map R.d).any fun z => PyData.eqv z r.d) = decide (r ∈ rs) := by
  induction rs with
  | nil => simp
  | cons x rs ih =>
    rw [List.map_cons, List.any_cons, ih, rd_eqv]
    by_cases h : x = r
    · simp [h]
    · have : ¬ r = x := fun z => h z.symm
      simp [h, this]
theorem prds_any (rs : List (Nat × Nat)) (r : Nat × Nat) : ((rs.map prd).any fun z => PyData.eqv z (prd r)) = decide (r ∈ rs) := by
  induction rs with
  | nil => simp
  | cons x rs ih =>
    rw [List.map_cons, List.any_cons, ih, prd_eqv]
    by_cases h : x = r
    · simp [h]
    · have : ¬ r = x := fun z => h z.symm
      simp [h, this]
section
variable {K : PySem.W.Frag} {H H' : Hp}
theorem dp_r {v : V} {r : R} (h : Dp K H v r.d) : ∃ p, v = .ref p ∧ SqT K H p [.str (kd r.k), .int (r.a : Int), .int (r.b : Int)] := by
  obtain ⟨p, vs, rfl, hs, ha⟩ := dp_t h
  cases ha with
  | cons h1 h2 =>
    cases h2 with
    | cons h2 h3 =>
      cases h3 with
      | cons h3 h4 =>
        cases h4
        cases dp_str h1
        cases dp_int h2
        cases dp_int h3
        exact ⟨p, rfl, hs⟩
theorem r_dp {p : Addr} {r : R} (h : SqT K H p [.str (kd r.k), .int (r.a : Int), .int (r.b : Int)]) : Dp K H (.ref p) r.d := .tup h (.cons (.str _) (.cons (.int _) (.cons (.int _) .nil)))
theorem dp_p {v : V} {r : Nat × Nat} (h : Dp K H v (prd r)) : ∃ p, v = .ref p ∧ SqT K H p [.int (r.1 : Int), .int (r.2 : Int)] := by
  obtain ⟨p, vs, rfl, hs, ha⟩ := dp_t h
  cases ha with
  | cons h1 h2 =>
    cases h2 with
    | cons h2 h3 =>
      cases h3
      cases dp_int h1
      cases dp_int h2
      exact ⟨p, rfl, hs⟩
theorem p_dp {p : Addr} {r : Nat × Nat} (h : SqT K H p [.int (r.1 : Int), .int (r.2 : Int)]) : Dp K H (.ref p) (prd r) := .tup h (.cons (.int _) (.cons (.int _) .nil))
theorem dps_rat {rs : List R} {vs : List V} {i : Nat} {v : V} (h : DpAll K H vs (rs.map R.d)) (e : vs[i]? = some v) : ∃ r, rs[i]? = some r ∧ Dp K H v r.d := by
  obtain ⟨d, h1, h2⟩ := dps_at h e
  rw [List.getElem?_map] at h1
  cases q : rs[i]? with
  | none =>
    rw [q] at h1
    cases h1
  | some r =>
    rw [q] at h1
    cases h1
    exact ⟨r, rfl, h2⟩
theorem dps_pat {rs : List (Nat × Nat)} {vs : List V} {i : Nat} {v : V} (h : DpAll K H vs (rs.map prd)) (e : vs[i]? = some v) : ∃ r, rs[i]? = some r ∧ Dp K H v (prd r) := by
  obtain ⟨d, h1, h2⟩ := dps_at h e
  rw [List.getElem?_map] at h1
  cases q : rs[i]? with
  | none =>
    rw [q] at h1
    cases h1
  | some r =>
    rw [q] at h1
    cases h1
    exact ⟨r, rfl, h2⟩
end
end CC
namespace CC
open PySem L2
/-- what the top has left: the built-ins' names are free, the two constants -/
structure Glb (K : PySem.W.Frag) (mg : Str → Option Value) (kA : Addr) : Prop where
  len : mg "len" = none
  max : mg "max" = none
  min : mg "min" = none
  isi : mg "isinstance" = none
  int : mg "int" = none
  bool : mg "bool" = none
  str : mg "str" = none
  tup : mg "tuple" = none
  rng : mg "range" = none
  lst : mg "list" = none
  all : mg "all" = none
  set : mg "set" = none
  enu : mg "enumerate" = none
  rep : mg "repr" = none
  srt : mg "sorted" = none
  zip : mg "zip" = none
  any : mg "any" = none
  sum : mg "sum" = none
  rev : mg "reversed" = none
  dic : mg "dict" = none
  typ : mg "type" = none
  wid : ∃ t, mg "WIDEST" = some (.int 6 t)
  knd : mg "KINDS" = some (.ref kA)
  kseq : ∃ (o : Obj) (its : Array Value) (n : Nat), K.lookup kA = some o ∧ o.cls = .type "tuple" ∧ o.data = .seq its n ∧ its.size ≤ sizeLine ∧ Vals [.str "settles", .str "within"] its.toList
/-- a def of the top, as it stands -/
structure Df (K : PySem.W.Frag) (mg : Str → Option Value) (x : Str) (st : Stmt) (ps : List Str) where
  f : Addr
  fd : FuncData
  F : Fun K x x st f fd
  b : Binds K fd ps []
  g : mg x = some (.ref f)
/-- a def that keeps a promise -/
structure Cal (P : Program) (w : World) (K : PySem.W.Frag) (mg : Str → Option Value) (base : Heap) (x : Str) (ps : List Str) (sp : Sp) (l : Nat) where
  f : Addr
  fd : FuncData
  ok : ∀ k, l ≤ k → FnOk P w K mg base CX0 k f fd ps sp
  kp : PySem.W.keepIn K (.ref f) = true
  b : Binds K fd ps []
  g : mg x = some (.ref f)
def Df.cal {P : Program} {w : World} {K : PySem.W.Frag} {mg : Str → Option Value} {base : Heap} {x : Str} {st : Stmt} {ps : List Str} {sp : Sp} {l : Nat} (d : Df K mg x st ps) (h : ∀ k, FnOk P w K mg base CX0 (k + l) d.f d.fd ps sp) : Cal P w K mg base x ps sp l :=
  ⟨d.f, d.fd, fun k hk => (Nat.sub_add_cancel hk) ▸ h (k - l), d.F.kp, d.b, d.g⟩
abbrev sIsInt : Stmt := tp 3
abbrev sIsWidth : Stmt := tp 4
abbrev sIsCol : Stmt := tp 5
abbrev sIsRule : Stmt := tp 6
def spIsInt : Sp := fun vs H Q _ => ∃ z : Int, vs = [.int z] ∧ Q (.bl true) H
def spIsWidth : Sp := fun vs H Q _ => ∃ z : Nat, vs = [.int (z : Int)] ∧ 1 ≤ z ∧ z ≤ 6 ∧ Q (.bl true) H
def spIsCol : Sp := fun vs H Q _ => ∃ w z : Nat, vs = [.int (w : Int), .int (z : Int)] ∧ z < w ∧ Q (.bl true) H
/-- a rule for the width -/
def R.ok (w : Nat) (r : R) : Prop := r.a < w ∧ r.b < w ∧ r.a ≠ r.b
def spIsRule (K : PySem.W.Frag) : Sp := fun vs H Q _ => ∃ (w : Nat) (v : V) (r : R), vs = [.int (w : Int), v] ∧ Dp K H v r.d ∧ r.ok w ∧ Q (.bl true) H
section
variable {P : Program} {w : World} {K : PySem.W.Frag} {mg : Str → Option Value} {base : Heap} {kA : Addr}
theorem ty_tup {H : Hp} {p : Addr} {xs : List V} (h : SqT K H p xs) : TyX K H (.ref p) (.type "tuple") := by
  rcases h with (h | ⟨o, h⟩) | ⟨o, its, n, h, c, _⟩
  · exact .base (.tup h)
  · exact .fTuple h
  · exact .kTuple h c
theorem scIsInt : FnScope ["thing"] ["thing"] (defScope sIsInt) := ⟨rfl, rfl, rfl, by decide +kernel, rfl, by decide +kernel, by decide +kernel⟩
theorem ok_isint {f : Addr} {fd : FuncData} {k : Nat} (F : Fun K "is_an_integer" "is_an_integer" sIsInt f fd) (T : Glb K mg kA) : FnOk P w K mg base CX0 (k + 1) f fd ["thing"] spIsInt := by
  refine F.ok scIsInt (fun vs H Q E h => ?_) (fun cdv A outer s H vs Q E hr h => ?_)
  · obtain ⟨z, rfl, _⟩ := h
    rfl
  · obtain ⟨z, rfl, q⟩ := h
    refine ⟨_, pss_one (ps_ret (pe_and (pe_callB call_isi (by rfl) T.isi (by decide +kernel) (pa_cons (pv 0) (pa_cons (pe_bltn (v := .ty "int") (by rfl) T.int (by decide +kernel) rfl) pa_nil)))
      (pe_one (pe_not (pe_callB call_isi (by rfl) T.isi (by decide +kernel) (pa_cons (pv 0) (pa_cons (pe_bltn (v := .ty "bool") (by rfl) T.bool (by decide +kernel) rfl) pa_nil))))))), ?_⟩
    refine ⟨_, rfl, _, _, _, _, true, rfl, .ty _, .base (.int z), kit_ty (by decide +kernel), _, rfl, iteT ?_⟩
    exact ⟨_, rfl, _, _, _, _, false, rfl, .ty _, .base (.int z), kit_ty (by decide +kernel), _, rfl, q⟩
theorem scIsWidth : FnScope ["thing"] ["thing"] (defScope sIsWidth) := ⟨rfl, rfl, rfl, by decide +kernel, rfl, by decide +kernel, by decide +kernel⟩
theorem ok_iswidth {f : Addr} {fd : FuncData} {k : Nat} (F : Fun K "is_width" "is_width" sIsWidth f fd) (T : Glb K mg kA) (cI : Cal P w K mg base "is_an_integer" ["thing"] spIsInt 1) : FnOk P w K mg base CX0 (k + 2) f fd ["thing"] spIsWidth := by
  have GI := cI.ok (k + 1) (by omega)
  refine F.ok scIsWidth (fun vs H Q E h => ?_) (fun cdv A outer s H vs Q E hr h => ?_)
  · obtain ⟨z, rfl, _⟩ := h
    rfl
  · obtain ⟨z, rfl, h1, h2, q⟩ := h
    obtain ⟨tw, hw⟩ := T.wid
    refine ⟨_, pss_one (ps_ret (pe_and (pe_call GI hr rfl cI.g cI.kp cI.b .nil pass0 (pa_cons (pv 0) pa_nil))
      (pe_one (pe_chain op_le op_le pe_int (pv 0) (pe_glob (v := .int 6) rfl hw ⟨_, rfl⟩))))), ?_⟩
    refine ⟨_, rfl, _, rfl, _, rfl, iteT ?_⟩
    have e1 : decide ((1 : Int) ≤ (z : Int)) = true := decide_eq_true (by omega)
    have e2 : decide ((z : Int) ≤ (6 : Int)) = true := decide_eq_true (by omega)
    refine ⟨_, rfl, _, _, rfl, rfl, _, rfl, ?_⟩
    rw [e1]
    refine iteT ⟨_, _, rfl, rfl, ?_⟩
    show Q (.bl (decide ((z : Int) ≤ (6 : Int)))) H
    rw [e2]
    exact q
theorem scIsCol : FnScope ["width", "thing"] ["width", "thing"] (defScope sIsCol) := ⟨rfl, rfl, rfl, by decide +kernel, rfl, by decide +kernel, by decide +kernel⟩
theorem ok_iscol {f : Addr} {fd : FuncData} {k : Nat} (F : Fun K "is_column" "is_column" sIsCol f fd) (T : Glb K mg kA) (cI : Cal P w K mg base "is_an_integer" ["thing"] spIsInt 1) : FnOk P w K mg base CX0 (k + 2) f fd ["width", "thing"] spIsCol := by
  have GI := cI.ok (k + 1) (by omega)
  refine F.ok scIsCol (fun vs H Q E h => ?_) (fun cdv A outer s H vs Q E hr h => ?_)
  · obtain ⟨w, z, rfl, _⟩ := h
    rfl
  · obtain ⟨w, z, rfl, h1, q⟩ := h
    refine ⟨_, pss_one (ps_ret (pe_and (pe_call GI hr rfl cI.g cI.kp cI.b .nil pass0 (pa_cons (pv 1) pa_nil))
      (pe_one (pe_chain op_le op_lt pe_int (pv 1) (pv 0))))), ?_⟩
    refine ⟨_, rfl, _, rfl, _, rfl, iteT ?_⟩
    have e1 : decide ((0 : Int) ≤ (z : Int)) = true := decide_eq_true (by omega)
    have e2 : decide ((z : Int) < (w : Int)) = true := decide_eq_true (by omega)
    refine ⟨_, rfl, _, _, rfl, rfl, _, rfl, ?_⟩
    rw [e1]
    refine iteT ⟨_, rfl, _, _, rfl, rfl, ?_⟩
    show Q (.bl (decide ((z : Int) < (w : Int)))) H
    rw [e2]
    exact q
theorem scIsRule : FnScope ["width", "thing", "kind", "first", "second"] ["width", "thing"] (defScope sIsRule) := ⟨rfl, rfl, rfl, by decide +kernel, rfl, by decide +kernel, by decide +kernel⟩
theorem ok_isrule {f : Addr} {fd : FuncData} {k : Nat} (F : Fun K "is_rule" "is_rule" sIsRule f fd) (T : Glb K mg kA) 
 (cC : Cal P w K mg base "is_column" ["width", "thing"] spIsCol 2) : FnOk P w K mg base CX0 (k + 3) f fd ["width", "thing"] (spIsRule K) := by
  have GC := cC.ok (k + 2) (by omega)
  refine F.ok scIsRule (fun vs H Q E h => ?_) (fun cdv A outer s H vs Q E hr h => ?_)
  · obtain ⟨w, v, r, rfl, _⟩ := h
    rfl
  · obtain ⟨w, v, r, rfl, hd, ⟨h1, h2, h3⟩, q⟩ := h
    obtain ⟨p, rfl, hp⟩ := dp_r hd
    have hk : SqT K H kA [.str "settles", .str "within"] := .inr T.kseq
    have nd := scIsRule.nd
    refine ⟨_, pss_cons (ps_if (PW.pt (pw_or (pt_not (pt_val (pe_callB call_isi (by rfl) T.isi (by decide +kernel) (pa_cons (pv 1) (pa_cons (pe_bltn (v := .ty "tuple") (by rfl) T.tup (by decide +kernel) rfl) pa_nil)))))
          (pw_or1 (pt_cmpR op_ne (pe_callB call_len_seq (by rfl) T.len PySem.boot_len (pa_cons (pv 1) pa_nil)) pe_int (nomark _))))) (pss_one (ps_ret pe_bl)) pss_nil)
      (pss_cons (ps_asg (pv 1) (pg_tup rfl (pgs_cons (pg_name (i := 2) nd rfl (.inl rfl)) (pgs_cons (pg_name (i := 3) nd rfl (.inl rfl)) (pgs_cons (pg_name (i := 4) nd rfl (.inl rfl)) pgs_nil)))))
      (pss_cons (ps_if (PW.pt (pw_or (pt_not (pt_val (pe_callB call_isi (by rfl) T.isi (by decide +kernel) (pa_cons (pv 2) (pa_cons (pe_bltn (v := .ty "str") (by rfl) T.str (by decide +kernel) rfl) pa_nil)))))
          (pw_or1 (pt_cmpR op_notIn_seq (pv 2) (pe_glob (v := .ref kA) rfl T.knd rfl) (by rfl))))) (pss_one (ps_ret pe_bl)) pss_nil)
      (pss_one (ps_ret (pe_and (pe_call GC hr rfl cC.g cC.kp cC.b .nil pass0 (pa_cons (pv 0) (pa_cons (pv 3) pa_nil)))
        (pe_and (pe_call GC hr rfl cC.g cC.kp cC.b .nil pass0 (pa_cons (pv 0) (pa_cons (pv 4) pa_nil))) (pe_one (pe_cmpR op_ne (pv 3) (pv 4) (nomark _))))))))), ?_⟩
    refine ⟨_, rfl, _, _, _, _, true, rfl, .ty _, ty_tup hp, kit_ty (by decide +kernel), _, rfl, iteF ?_⟩
    refine ⟨_, rfl, p, _, rfl, .inr hp, rfl, _, rfl, iteF ?_⟩
    refine ⟨_, rfl, p, _, rfl, hp, rfl, _, _, rfl, _, _, rfl, _, _, rfl, rfl, ?_⟩
    refine ⟨_, rfl, _, _, _, _, true, rfl, .ty _, .base (.str _), kit_ty (by decide +kernel), _, rfl, iteF ?_⟩
    have ek : inV (.str (kd r.k)) [.str "settles", .str "within"] = true := by
      cases r.k <;> decide +kernel
    refine ⟨_, rfl, kA, _, rfl, .inr hk, rfl, rfl, _, rfl, ?_⟩
    rw [ek]
    refine iteF ?_
    refine ⟨_, rfl, _, rfl, w, r.a, rfl, h1, _, rfl, iteT ?_⟩
    refine ⟨_, rfl, _, rfl, w, r.b, rfl, h2, _, rfl, iteT ?_⟩
    refine ⟨_, rfl, _, rfl, rfl, ?_⟩
    have e3 : (!decide (V.int (r.a : Int) = V.int (r.b : Int))) = true := by
      rw [decide_eq_false (fun z => h3 (by injection z with z; omega))]
      rfl
    show Q (.bl (!decide (V.int (r.a : Int) = V.int (r.b : Int)))) H
    rw [e3]
    exact q
end
end CC
/-! A list comprehension of three clauses. -/
namespace C3
open PySem PySem.Spec PyProof.Rows L2
abbrev no : Value → Shared → Prop := fun _ _ => False
def turnOf (c : Expr) (k : Nat) (tg : Expr) (ps : Pos) (fs : List Expr) (env : Env) (acc : Value) (body : Sem Unit) (it : Value) : Sem Fin := do
  standAt ps
  match ← pyNext it with
  | none => pure (.done .next)
  | some v =>
    letOwnedTupleGo tg it v
    assign tg env v
    let mut ok := true
    for cd in fs do
      if ok then ok ← isTrue cd env (eval cd env)
    if ok then body
    again (.compLoop c k it acc env)
def nextOf (c : Expr) (k : Nat) (ix : Expr) (env : Env) (acc : Value) : Sem Unit := do
  let x ← eval ix env
  standAt ix.pos
  let x ← foldedSetIterable ix env x
  let _ ← runOwn (.compStart c k (← holding [x] (pyIter x)) acc env) env
def pushOf (ex : Expr) (env : Env) (acc : Value) : Sem Unit := do
  let _ ← call (.builtin "list.append") [acc, ← eval ex env]
section
variable {ex t0 i0 t1 i1 t2 i2 : Expr} {f0 f1 f2 : List Expr} {sc : Scope} {pos : Pos} {it acc : Value} {env : Env}
abbrev lc3 (ex t0 i0 t1 i1 t2 i2 : Expr) (f0 f1 f2 : List Expr) (sc : Scope) (pos : Pos) : Expr := .ListComp ex [⟨t0, i0, f0, 0⟩, ⟨t1, i1, f1, 0⟩, ⟨t2, i2, f2, 0⟩] sc pos
theorem turn0 : compTurn (lc3 ex t0 i0 t1 i1 t2 i2 f0 f1 f2 sc pos) 0 it acc env = turnOf (lc3 ex t0 i0 t1 i1 t2 i2 f0 f1 f2 sc pos) 0 t0 i0.pos f0 env acc (nextOf (lc3 ex t0 i0 t1 i1 t2 i2 f0 f1 f2 sc pos) 1 i1 env acc) it := by
  unfold turnOf
  refine congrArg (standAt i0.pos >>= ·) (funext fun _ => congrArg (pyNext it >>= ·) (funext fun r => ?_))
  cases r with
  | none => rfl
  | some v =>
    refine congrArg (letOwnedTupleGo t0 it v >>= ·) (funext fun _ => congrArg (assign t0 env v >>= ·) (funext fun _ => ?_))
    refine congrArg (fun k => forIn f0 true (fun c r => if r = true then do let ok ← isTrue c env (eval c env); pure (ForInStep.yield ok) else pure (ForInStep.yield r)) >>= k) (funext fun ok => ?_)
    cases ok with
    | false => rfl
    | true =>
      unfold nextOf
      simp only [bind_assoc, pure_bind, if_true]
      rfl
theorem turn1 : compTurn (lc3 ex t0 i0 t1 i1 t2 i2 f0 f1 f2 sc pos) 1 it acc env = turnOf (lc3 ex t0 i0 t1 i1 t2 i2 f0 f1 f2 sc pos) 1 t1 i1.pos f1 env acc (nextOf (lc3 ex t0 i0 t1 i1 t2 i2 f0 f1 f2 sc pos) 2 i2 env acc) it := by
  unfold turnOf
  refine congrArg (standAt i1.pos >>= ·) (funext fun _ => congrArg (pyNext it >>= ·) (funext fun r => ?_))
  cases r with
  | none => rfl
  | some v =>
    refine congrArg (letOwnedTupleGo t1 it v >>= ·) (funext fun _ => congrArg (assign t1 env v >>= ·) (funext fun _ => ?_))
    refine congrArg (fun k => forIn f1 true (fun c r => if r = true then do let ok ← isTrue c env (eval c env); pure (ForInStep.yield ok) else pure (ForInStep.yield r)) >>= k) (funext fun ok => ?_)
    cases ok with
    | false => rfl
    | true =>
      unfold nextOf
      simp only [bind_assoc, pure_bind, if_true]
      rfl
theorem turn2 : compTurn (lc3 ex t0 i0 t1 i1 t2 i2 f0 f1 f2 sc pos) 2 it acc env = turnOf (lc3 ex t0 i0 t1 i1 t2 i2 f0 f1 f2 sc pos) 2 t2 i2.pos f2 env acc (pushOf ex env acc) it := by rfl
end
section
variable {P : Program} {w : World} {A : Around} {R : Result → Shared → Prop} {s : Shared} {ex : Expr} {gs : List Comprehension} {sc : Scope} {pos : Pos} {k : Nat} {tg : Expr} {ps : Pos} {fs : List Expr} {it acc : Value} {env : Env} {body : Sem Unit}
theorem loopAny (e : compTurn (.ListComp ex gs sc pos) k it acc env = turnOf (.ListComp ex gs sc pos) k tg ps fs env acc body it) (J : Nat → Shared → Prop)
    (turn : ∀ n s, J n s → wpAny (model P w) A (pyNext it) (fun r s1 => match r with
      | none => R (.ok .next) s1
      | some v => wpAny (model P w) A (letOwnedTupleGo tg it v) (fun _ s2 => wpAny (model P w) A (assign tg env v) (fun _ s3 =>
          wpAny (model P w) A (forIn fs true fun c r => if r = true then do let ok ← isTrue c env (eval c env); pure (ForInStep.yield ok) else pure (ForInStep.yield r)) (fun ok s4 =>
            if ok = true then wpAny (model P w) A body (fun _ s5 => ∃ m, m < n ∧ J m s5) no s4 else ∃ m, m < n ∧ J m s4) no s3) no s2) no s1) no s)
    (n : Nat) (h : J n s) : codeAny (model P w) A (.compLoop (.ListComp ex gs sc pos) k it acc env) R s := by
  refine codeAny_loop rfl J (fun n s j => ?_) n h
  show wpAny _ A ((compTurn (.ListComp ex gs sc pos) k it acc env).onRaise (fun x => do noteFrame x env; theTreesLotGoes x)) _ _ s
  refine wpAny_noted ?_
  rw [e]
  unfold turnOf
  refine wpAny_bind (wpAny_standAt (wpAny_bind (thnF (turn n s j) fun r s1 h1 => ?_)))
  cases r with
  | none => exact wpAny_pure h1
  | some v =>
    refine wpAny_bind (thnF h1 fun _ s2 h2 => ?_)
    refine wpAny_bind (thnF h2 fun _ s3 h3 => wpAny_bind (thnF h3 fun ok s4 h4 => ?_))
    cases ok with
    | false => exact wpAny_pure ⟨rfl, h4⟩
    | true =>
      first
        | exact wpAny_bind (thnF h4 fun _ s5 h5 => wpAny_pure ⟨rfl, h5⟩)
        | exact wpAny_bind (wpAny_bind (thnF h4 fun _ s5 h5 => wpAny_pure (wpAny_pure ⟨rfl, h5⟩)))
end
/-! ### a clause within the block -/
abbrev TB := L2.St → Hp → (Hp → Prop) → Prop
def tPush (te : TE) (D : Addr) : TB := fun σ H N => te σ H fun y H1 => ∃ l, H1 D = some (.lst l) ∧ l.length < sizeLine ∧ N (upd H1 D (.lst (l ++ [y])))
def tTurn (J : It) (g : TG) (tt : TT) (vs : List Nat) (b : TB) (σ : L2.St) (W : Nat → Nat → Hp → Prop) (N : Hp → Prop) : Prop := ∀ i m H, W i m H →
  (J.stop i H ∧ N H) ∨ (J.go i H ∧ ∃ M : Hp → Prop, (∀ H', M H' → ∃ m', m' < m ∧ W (i + 1) m' H') ∧ ∀ x H', J.yld i H x H' → g x (wipe σ vs) H' fun τ H1 => wipe τ vs = wipe σ vs ∧ tt τ H1 fun y H2 => if y = true then b τ H2 M else M H2)
def tCl (wi : TI) (g : TG) (tt : TT) (vs : List Nat) (b : TB) : TB := fun σ H N => wi σ H fun J H1 => ∃ W : Nat → Nat → Hp → Prop, (∃ m, W 0 m H1) ∧ tTurn J g tt vs b σ W N
section
variable {X : Cx} {s0 : Shared} {H0 : Hp} {sc : Scope} {ce : Env} {fp : List Addr}
abbrev Bk (X : Cx) (s0 : Shared) (H0 : Hp) (sc : Scope) (ce : Env) (fp : List Addr) : Cx := X.blk s0 H0 sc ce fp
/-- what the body of a clause does, and which slots it forgets -/
def Does (X : Cx) (s0 : Shared) (H0 : Hp) (sc : Scope) (ce : Env) (fp : List Addr) (body : Sem Unit) (t : TB) (us : List Nat) : Prop :=
  ∀ (pins : List (Addr × Obj)) (s : Shared) (σ : L2.St) (H : Hp) (N : Hp → Prop), Inv (Bk X s0 H0 sc ce fp) pins σ H s → t σ H N →
    wpAny (model X.prog X.w) X.A body (fun _ s' => ∃ H', Inv (Bk X s0 H0 sc ce fp) pins (wipe σ us) H' s' ∧ N H') no s
theorem does_push {ex : Expr} {te : TE} {D : Addr} (pe : PE (Bk X s0 H0 sc ce fp) ex te) : Does X s0 H0 sc ce fp (pushOf ex ce (.ref D)) (tPush te D) [] := by
  intro pins s σ H N I h
  unfold pushOf
  refine wpAny_bind (thnF (pe.run pins s σ H _ I h) fun z s1 ⟨y, H1, I1, r, l, hl, hz, n⟩ => ?_)
  exact wpAny_bind (thnF (app_ok (E := no) (X := Bk X s0 H0 sc ce fp) (Q := fun _ s' => ∃ H', Inv (Bk X s0 H0 sc ce fp) pins (wipe σ []) H' s' ∧ N H') I1 hl hz r fun s2 I2 => ⟨_, I2, n⟩) fun _ s2 q => wpAny_pure q)
theorem level {ex : Expr} {gs : List Comprehension} {sb : Scope} {pos : Pos} {k : Nat} {tg : Expr} {ps : Pos} {fs : List Expr} {acc : Value} {body : Sem Unit} {g : TG} {tt : TT} {b : TB} {vs us : List Nat} (hc : X.calm = true) (te : ∀ it, compTurn (.ListComp ex gs sb pos) k it acc ce = turnOf (.ListComp ex gs sb pos) k tg ps fs ce acc body it)
    (pg : PG (Bk X s0 H0 sc ce fp) tg g) (pt : PTs (Bk X s0 H0 sc ce fp) fs tt) (bd : Does X s0 H0 sc ce fp body b us) (sub : ∀ i ∈ us, i ∈ vs)
    {pins : List (Addr × Obj)} {s : Shared} {σ : L2.St} {H : Hp} {N : Hp → Prop} {it : Addr} {fq : List Addr} {tn : Nat → Heap → Prop} {J : It} {W : Nat → Nat → Hp → Prop} {m : Nat} {R : Result → Shared → Prop}
    (I : Inv (Bk X s0 H0 sc ce fp) pins σ H s) (T : Turn X.prog X.w X.K tg J fq it tn) (st : tn 0 s.heap) (fo : ∀ b ∈ fq, FpOk (Bk X s0 H0 sc ce fp) pins H b) (w0 : W 0 m H) (tu : tTurn J g tt vs b σ W N)
    (fin : ∀ s' H', Inv (Bk X s0 H0 sc ce fp) pins (wipe σ vs) H' s' → N H' → R (.ok .next) s') :
    codeAny (model X.prog X.w) X.A (.compLoop (.ListComp ex gs sb pos) k (.ref it) acc ce) R s := by
  have fok : ∀ {H' : Hp}, (∀ b ∈ fq, H' b = none) → ∀ b ∈ fq, FpOk (Bk X s0 H0 sc ce fp) pins H' b := fun hn b hb => ⟨hn b hb, (fo b hb).2⟩
  refine loopAny (te _) (fun n s' => ∃ i H', Inv (Bk X s0 H0 sc ce fp) pins (wipe σ vs) H' s' ∧ tn i s'.heap ∧ (∀ b ∈ fq, H' b = none) ∧ W i n H') ?_ m ⟨0, H, I.weak (wipe_length _ _) (fun j v e => (wipe_some e).1), st, fun b hb => (fo b hb).1, w0⟩
  rintro n s1 ⟨i, H1, I1, st1, n1, w1⟩
  rcases tu i n H1 w1 with ⟨stop, nn⟩ | ⟨go, M, hM, step⟩
  · refine thnF (T.done (Bk X s0 H0 sc ce fp) rfl rfl rfl hc i _ s1 _ H1 no I1 (fok n1) st1 stop) fun r s2 ⟨hr, I2⟩ => ?_
    subst hr
    exact fin s2 H1 I2 nn
  · refine thnF (T.item (Bk X s0 H0 sc ce fp) rfl rfl rfl hc i _ s1 _ H1 no I1 (fok n1) st1 go) fun r s2 ⟨u, hr, h2⟩ => ?_
    subst hr
    refine thnF h2 fun _ s3 ⟨x, H3, I3, r3, y3, st3, n3⟩ => ?_
    have I3' := I3.pinned (fok n3) (T.obj _ _ st3)
    refine thnF (pg.run _ s3 _ H3 x u _ I3' r3 (step x H3 y3)) fun _ s4 ⟨τ, H4, I4, hw, q4⟩ => ?_
    refine thnF (pt.run _ s4 τ H4 _ I4 q4) fun ok s5 ⟨H5, I5, q5⟩ => ?_
    have ended : ∀ {s' : Shared} {H' : Hp}, Inv (Bk X s0 H0 sc ce fp) (pins ++ pinsAt fq s3.heap) (wipe τ us) H' s' → M H' → ∃ m, m < n ∧ ∃ i H', Inv (Bk X s0 H0 sc ce fp) pins (wipe σ vs) H' s' ∧ tn i s'.heap ∧ (∀ b ∈ fq, H' b = none) ∧ W i m H' := fun {s' H'} I' mm => by
      obtain ⟨m', hm, w'⟩ := hM H' mm
      have kp : ∀ b ∈ fq, ∀ o, s3.heap.get? b = some o → s'.heap.get? b = some o ∧ H' b = none := fun b hb o e =>
        have z := I'.pin (b, o) (List.mem_append_right _ (List.mem_append_right _ (mem_pinsAt hb e)))
        ⟨z.1, z.2.1⟩
      refine ⟨m', hm, i + 1, H', I'.unpinned.weak (by rw [wipe_length, wipe_length, ← wipe_length τ vs, hw, wipe_length]) (fun j v e => ?_), T.keep _ _ _ st3 fun b hb o e => (kp b hb o e).1, fun b hb => ?_, w'⟩
      · rw [← hw] at e
        obtain ⟨e1, e2⟩ := wipe_some e
        rw [wipe_out fun z => e2 (sub j z)]
        exact e1
      · obtain ⟨o, e, _⟩ := T.obj _ _ st3 b hb
        exact (kp b hb o e).2
    cases ok with
    | false =>
      simp only [Bool.false_eq_true, if_false] at q5 ⊢
      exact ended (I5.weak (wipe_length _ _) fun j v e => (wipe_some e).1) q5
    | true =>
      simp only [if_true] at q5 ⊢
      exact thnF (bd _ s5 τ H5 _ I5 q5) fun _ s6 ⟨H6, I6, q6⟩ => ended I6 q6
theorem does_next {ex : Expr} {gs : List Comprehension} {sb : Scope} {pos : Pos} {k : Nat} {tg ix : Expr} {ps : Pos} {fs : List Expr} {D : Addr} {body : Sem Unit} {wi : TI} {g : TG} {tt : TT} {b : TB} {vs us : List Nat} (hc : X.calm = true) (hce : (Bk X s0 H0 sc ce fp).env = ce)
    (te : ∀ it, compTurn (.ListComp ex gs sb pos) k it (.ref D) ce = turnOf (.ListComp ex gs sb pos) k tg ps fs ce (.ref D) body it)
    (cs : ∀ {it : Value} {R : Result → Shared → Prop} {s : Shared}, codeAny (model X.prog X.w) X.A (.compLoop (.ListComp ex gs sb pos) k it (.ref D) ce) R s → wpAny (model X.prog X.w) X.A (pyIter it) (fun it' s' => codeAny (model X.prog X.w) X.A (.compLoop (.ListComp ex gs sb pos) k it' (.ref D) ce) R s') no s → codeAny (model X.prog X.w) X.A (.compStart (.ListComp ex gs sb pos) k it (.ref D) ce) R s)
    (fo : ∀ x, foldedSetIterable ix ce x = pure x) (pi : PI (Bk X s0 H0 sc ce fp) tg ix wi) (pg : PG (Bk X s0 H0 sc ce fp) tg g) (pt : PTs (Bk X s0 H0 sc ce fp) fs tt) (bd : Does X s0 H0 sc ce fp body b us) (sub : ∀ i ∈ us, i ∈ vs) :
    Does X s0 H0 sc ce fp (nextOf (.ListComp ex gs sb pos) k ix ce (.ref D)) (tCl wi g tt vs b) vs := by
  intro pins s σ H N I h
  unfold nextOf
  refine wpAny_bind (thnF (pi.run pins s σ H _ I h) fun xv s1 hx => ?_)
  refine wpAny_bind (wpAny_standAt (wpAny_bind (wpAny_of_eq (fo xv) (wpAny_bind (wpAny_holding (thnF hx fun itv s2 h2 => ?_))))))
  obtain ⟨it, fq, tn, J, H2, rfl, I2, T, st2, f2, W, ⟨m, w0⟩, tu⟩ := h2
  refine wpAny_bind (wpAny_runOwn ?_)
  rw [Around.mark_none]
  have lp : codeAny (model X.prog X.w) X.A (.compLoop (.ListComp ex gs sb pos) k (.ref it) (.ref D) ce) (fun r s' => match r with
      | .ok _ => ∃ H', Inv (Bk X s0 H0 sc ce fp) pins (wipe σ vs) H' s' ∧ N H'
      | .error _ => False) s2 := level hc te pg pt bd sub I2 T st2 f2 w0 tu fun s' H' I' n => ⟨H', I', n⟩
  refine codeAny_mono (cs lp (T.self X.A 0 _ _ _ st2 lp)) fun r s' hr => ?_
  cases r with
  | ok f => exact wpAny_pure hr
  | error e => exact hr.elim
end
section
variable {P : Program} {w : World} {A : Around} {R : Result → Shared → Prop} {s : Shared} {ex t0 i0 t1 i1 t2 i2 : Expr} {f0 f1 f2 : List Expr} {sc : Scope} {pos : Pos} {it acc : Value} {env : Env}
theorem start1 (h0 : codeAny (model P w) A (.compLoop (lc3 ex t0 i0 t1 i1 t2 i2 f0 f1 f2 sc pos) 1 it acc env) R s)
    (h : wpAny (model P w) A (pyIter it) (fun it' s' => codeAny (model P w) A (.compLoop (lc3 ex t0 i0 t1 i1 t2 i2 f0 f1 f2 sc pos) 1 it' acc env) R s') no s) :
    codeAny (model P w) A (.compStart (lc3 ex t0 i0 t1 i1 t2 i2 f0 f1 f2 sc pos) 1 it acc env) R s := by
  refine codeAny_of_tree ?_
  show wpAny _ _ ((compStart (lc3 ex t0 i0 t1 i1 t2 i2 f0 f1 f2 sc pos) 1 it acc env).onRaise (fun x => do noteFrame x env; standAt theWindowsPlace)) _ _ s
  refine wpAny_notedAt ?_
  unfold compStart
  show wpAny _ _ (ask >>= _) _ _ s
  refine wpAny_bind (wpAny_askSetting (wpAny_ite ?_))
  split
  · first
      | exact wpAny_bind (wpAny_pure (wpAny_pure ⟨rfl, h0⟩))
      | exact wpAny_pure ⟨rfl, h0⟩
  · refine wpAny_bind (wpAny_rule ?_)
    show wpAny _ _ (standAt i1.pos >>= _) _ _ s
    exact wpAny_bind (wpAny_standAt (wpAny_bind (thnF h fun it' s' h' => wpAny_pure ⟨rfl, h'⟩)))
theorem start2 (h0 : codeAny (model P w) A (.compLoop (lc3 ex t0 i0 t1 i1 t2 i2 f0 f1 f2 sc pos) 2 it acc env) R s)
    (h : wpAny (model P w) A (pyIter it) (fun it' s' => codeAny (model P w) A (.compLoop (lc3 ex t0 i0 t1 i1 t2 i2 f0 f1 f2 sc pos) 2 it' acc env) R s') no s) :
    codeAny (model P w) A (.compStart (lc3 ex t0 i0 t1 i1 t2 i2 f0 f1 f2 sc pos) 2 it acc env) R s := by
  refine codeAny_of_tree ?_
  show wpAny _ _ ((compStart (lc3 ex t0 i0 t1 i1 t2 i2 f0 f1 f2 sc pos) 2 it acc env).onRaise (fun x => do noteFrame x env; standAt theWindowsPlace)) _ _ s
  refine wpAny_notedAt ?_
  unfold compStart
  show wpAny _ _ (ask >>= _) _ _ s
  refine wpAny_bind (wpAny_askSetting (wpAny_ite ?_))
  split
  · first
      | exact wpAny_bind (wpAny_pure (wpAny_pure ⟨rfl, h0⟩))
      | exact wpAny_pure ⟨rfl, h0⟩
  · refine wpAny_bind (wpAny_rule ?_)
    show wpAny _ _ (standAt i2.pos >>= _) _ _ s
    exact wpAny_bind (wpAny_standAt (wpAny_bind (thnF h fun it' s' h' => wpAny_pure ⟨rfl, h'⟩)))
end
section
variable {X : Cx}
def tLc3 (wi : TI) (g : TG) (tt : TT) (b : Addr → TB) (ws : List Nat) : TE := fun σ H Q => wi σ H fun J H1 => ∀ D, H1 D = none → ∃ W : Nat → Nat → Hp → Prop, (∃ m, W 0 m (upd H1 D (.lst []))) ∧ tTurn J g tt ws (b D) (wipe σ ws) W fun H' => Q (.ref D) H'
theorem pe_lc3 {ex t0 i0 t1 i1 t2 i2 : Expr} {f0 f1 f2 : List Expr} {scope : Scope} {pos : Pos} {own : List (Str × Nat)} {v1 v2 : List Nat} {w0 w1 w2 : TI} {g0 g1 g2 : TG} {e0 e1 e2 : TT} {te : TE} (hc : X.calm = true) (hN : X.N.Nodup) (hi : PI X t0 i0 w0)
    (ok : BlkOk X.N X.env.scope scope own) (sub1 : ∀ i ∈ v1, i ∈ own.map (·.2)) (sub2 : ∀ i ∈ v2, i ∈ v1)
    (hg : ∀ (s : Shared) (H : Hp) (C : Addr) (cl : List (Str × Addr)) (fp : List Addr), PG (X.blk s H scope (compEnvC scope cl C X.env) fp) t0 g0) (ht : ∀ (s : Shared) (H : Hp) (C : Addr) (cl : List (Str × Addr)) (fp : List Addr), PTs (X.blk s H scope (compEnvC scope cl C X.env) fp) f0 e0) (hi1 : ∀ (s : Shared) (H : Hp) (C : Addr) (cl : List (Str × Addr)) (fp : List Addr), PI (X.blk s H scope (compEnvC scope cl C X.env) fp) t1 i1 w1) (hg1 : ∀ (s : Shared) (H : Hp) (C : Addr) (cl : List (Str × Addr)) (fp : List Addr), PG (X.blk s H scope (compEnvC scope cl C X.env) fp) t1 g1) (ht1 : ∀ (s : Shared) (H : Hp) (C : Addr) (cl : List (Str × Addr)) (fp : List Addr), PTs (X.blk s H scope (compEnvC scope cl C X.env) fp) f1 e1)
    (hi2 : ∀ (s : Shared) (H : Hp) (C : Addr) (cl : List (Str × Addr)) (fp : List Addr), PI (X.blk s H scope (compEnvC scope cl C X.env) fp) t2 i2 w2) (hg2 : ∀ (s : Shared) (H : Hp) (C : Addr) (cl : List (Str × Addr)) (fp : List Addr), PG (X.blk s H scope (compEnvC scope cl C X.env) fp) t2 g2) (ht2 : ∀ (s : Shared) (H : Hp) (C : Addr) (cl : List (Str × Addr)) (fp : List Addr), PTs (X.blk s H scope (compEnvC scope cl C X.env) fp) f2 e2) (he : ∀ (s : Shared) (H : Hp) (C : Addr) (cl : List (Str × Addr)) (fp : List Addr), PE (X.blk s H scope (compEnvC scope cl C X.env) fp) ex te)
    (fs0 : ∀ x, foldedSetIterable i0 X.env x = pure x := by intro _; rfl) (fs1 : ∀ env x, foldedSetIterable i1 env x = pure x := by intro _ _; rfl) (fs2 : ∀ env x, foldedSetIterable i2 env x = pure x := by intro _ _; rfl) :
    PE X (lc3 ex t0 i0 t1 i1 t2 i2 f0 f1 f2 scope pos) (tLc3 w0 g0 e0 (fun D => tCl w1 g1 e1 v1 (tCl w2 g2 e2 v2 (tPush te D))) (own.map (·.2))) := by
  refine ⟨fun pins s σ H Q I h => ?_⟩
  rw [eval_ListComp]
  have fre : ∀ y ∈ scope.names, y.2 = .free → ∃ c, X.env.cells.lookup y.1 = some c := fun y hy e => by
    rcases ok.free y hy e with z | z
    · exact I.ok.has _ (.inl z)
    · exact I.ok.has _ (.inr z)
  refine wpAny_comprehension_free (use := none) rfl fs0 (closure_ok fre) ok.kind (fun y hy e => by rw [ok.uniq y hy, e]) (thn (hi.run pins s σ H _ I h) fun xv s1 hx => thn hx fun itv s2 h2 => ?_)
  obtain ⟨it, fp, tn, J, H2, rfl, I2, T, st2, f2', q⟩ := h2
  refine wpAny_newObj_type (newEnv_comp ?_) (by show 0 ≤ sizeLine; decide)
  obtain ⟨D, hD⟩ : ∃ D, D = s2.heap.objs.size := ⟨_, rfl⟩
  rw [← hD]
  obtain ⟨W, ⟨m0, wz⟩, turn⟩ := q D (I2.hok.fresh (by rw [hD]; exact Nat.le_refl _))
  obtain ⟨nl, hnl⟩ : ∃ nl : Obj, nl = { cls := .type "list", data := .seq ([] : List Value).toArray } := ⟨_, rfl⟩
  rw [← hnl]
  obtain ⟨s3, hs3⟩ : ∃ s3 : Shared, s3 = { s2 with heap := s2.heap.push nl } := ⟨_, rfl⟩
  have I3 : Inv X pins σ (upd H2 D (.lst [])) s3 := by
    rw [hs3]
    refine I2.laid (t' := s2.toks) (fun b o e => Heap.get?_push_of_some _ e) (by rw [hD]; exact Nat.le_refl _) ⟨Nat.zero_le _, [], 0, .nil, ?_⟩
    rw [hD, hnl]
    exact Heap.get?_push_size _ rfl
  have lt2 : ∀ b ∈ fp, b < s2.heap.objs.size := fun b hb => by
    obtain ⟨o, e, _⟩ := T.obj _ _ st2 b hb
    exact Heap.lt_size e
  have f3 : ∀ b ∈ fp, FpOk X pins (upd H2 D (.lst [])) b ∧ b < s3.heap.objs.size := fun b hb => by
    have z := lt2 b hb
    refine ⟨⟨?_, (f2' b hb).2⟩, by rw [hs3]; show b < (s2.heap.push nl).objs.size; rw [Heap.size_push]; exact Nat.lt_succ_of_lt z⟩
    rw [upd_ne (by rw [hD]; exact Nat.ne_of_lt z)]
    exact (f2' b hb).1
  have st3 : tn 0 s3.heap := T.keep _ _ _ st2 fun b _ o e => by
    rw [hs3]
    exact Heap.get?_push_of_some _ e
  have I4 := block_start I3 ok hN f3
  obtain ⟨cl, hcl⟩ : ∃ cl, cl = cellsFrom (s3.heap.objs.size + 1) scope.names (cloFrom X.env.cells scope.names []) := ⟨_, rfl⟩
  obtain ⟨H3, hH3⟩ : ∃ H3, H3 = upd H2 D (.lst []) := ⟨_, rfl⟩
  obtain ⟨ce, hce⟩ : ∃ ce, ce = compEnvC scope cl s3.heap.objs.size X.env := ⟨_, rfl⟩
  obtain ⟨s4, hs4⟩ : ∃ s4 : Shared, s4 = { s3 with heap := pushCells (s3.heap.push { cls := .type "dict", data := .dict #[] }) scope.names } := ⟨_, rfl⟩
  have cL : ce.locals = s3.heap.objs.size := by
    rw [hce]
    rfl
  have st4 : tn 0 s4.heap := T.keep _ _ _ st3 fun b _ o e => by
    rw [hs4]
    exact pushCells_keeps _ _ _ _ (Heap.get?_push_of_some _ e)
  have p0 := hg s3 H3 s3.heap.objs.size cl fp
  have p1 := ht s3 H3 s3.heap.objs.size cl fp
  have p2 := hi1 s3 H3 s3.heap.objs.size cl fp
  have p3 := hg1 s3 H3 s3.heap.objs.size cl fp
  have p4 := ht1 s3 H3 s3.heap.objs.size cl fp
  have p5 := hi2 s3 H3 s3.heap.objs.size cl fp
  have p6 := hg2 s3 H3 s3.heap.objs.size cl fp
  have p7 := ht2 s3 H3 s3.heap.objs.size cl fp
  have p8 := he s3 H3 s3.heap.objs.size cl fp
  rw [← hcl, ← hH3, ← hce, ← hs4] at I4
  rw [← hce] at p0 p1 p2 p3 p4 p5 p6 p7 p8
  rw [← hH3] at I3 f3 wz
  have stat : ∀ b ∈ fp, FpOk (Bk X s3 H3 scope ce fp) [] H3 b := fun b hb =>
    ⟨(f3 b hb).1.1, (I4.ok.exf b hb).1, I4.ok.exfs b hb, .inl hb, fun x c e => (I4.ok.exf b hb).2 x c e, fun p hp => absurd (show p ∈ ([] : List (Addr × Obj)) ++ [] from hp) (by simp)⟩
  have d2 := does_push (D := D) p8
  have d1 := does_next (D := D) (body := pushOf ex ce (.ref D)) hc rfl (fun it => turn2 (ex := ex) (t0 := t0) (i0 := i0) (t1 := t1) (i1 := i1) (t2 := t2) (i2 := i2) (f2 := f2) (f0 := f0) (f1 := f1) (sc := scope) (pos := pos)) start2 (fs2 ce) p5 p6 p7 d2 (vs := v2) (fun i hi => nomatch hi)
  have d0 := does_next (D := D) hc rfl (fun it => turn1 (ex := ex) (t0 := t0) (i0 := i0) (t1 := t1) (i1 := i1) (f1 := f1) (t2 := t2) (i2 := i2) (f0 := f0) (f2 := f2) (sc := scope) (pos := pos)) start1 (fs1 ce) p2 p3 p4 d1 (vs := v1) sub2
  have loop : codeAny (model X.prog X.w) X.A (.compLoop (lc3 ex t0 i0 t1 i1 t2 i2 f0 f1 f2 scope pos) 0 (.ref it) (.ref D) ce) (compPost (model X.prog X.w) X.A X.xe none (EP X pins σ Q) (.ref D) s3.heap.objs.size) s4 := by
    refine level hc (fun it => turn0) p0 p1 d0 sub1 I4 T st4 stat wz turn fun s6 H6 I6 nn => ?_
    have I7 : Inv X pins σ H6 s6 := I3.call' (ch := fp) I6.os I6.base I6.hok I6.bare fun b hb => ⟨(f3 b hb).1.2.2.2.1, (f3 b hb).1.2.1, (f3 b hb).1.2.2.2.2.1, (f3 b hb).1.2.2.2.2.2⟩
    have nC : H6 s3.heap.objs.size = none := by
      rw [← cL]
      exact I6.free
    obtain ⟨m, hn, _⟩ := I6.loc
    have hn : s6.heap.Ns ce.locals m := hn
    rw [cL] at hn
    refine ⟨m, hn, fun h'' sb => ?_⟩
    obtain ⟨y0, y1, y2, y3, y4, y5⟩ := I3.fpOk (Nat.le_refl _) nC
    exact ⟨.ref D, H6, I7.turned (t' := s6.toks) (fun b o hb e => (sb.2 b hb).trans e) y0 y1 y3 y4 y5, rfl, nn⟩
  have done := codeAny_compStart_list loop (T.self X.A 0 _ _ _ st4 loop)
  rw [hce, hcl, hs4, hs3] at done
  exact done
end
end C3
namespace CC
open PySem L2
/-! ### a list that is being made at D, its items seen through a view of the heap that D is not part of -/
section
variable {K : PySem.W.Frag} {D : Addr} {H0 H H' : Hp} {Vw : Hp → Hp} {G : Hp → Prop} {P : Nat → List PyData → Prop} {i : Nat} {us : List V} {ds : List PyData}
structure Made (K : PySem.W.Frag) (Vw : Hp → Hp) (G : Hp → Prop) (P : Nat → List PyData → Prop) (H0 : Hp) (D : Addr) (i : Nat) (H : Hp) (us : List V) (ds : List PyData) : Prop where
  same : Same (Vw H0) (Vw H)
  more : G H
  lst : H D = some (.lst us)
  dat : DpAll K (Vw H) us ds
  inv : P i ds
  len : us.length ≤ i
def MadeI (K : PySem.W.Frag) (Vw : Hp → Hp) (G : Hp → Prop) (P : Nat → List PyData → Prop) (H0 : Hp) (D : Addr) (i : Nat) (H : Hp) : Prop := ∃ us ds, Made K Vw G P H0 D i H us ds
theorem Made.start (v1 : ∀ H o, Vw (upd H D o) = Vw H) (v3 : ∀ H o, G H → G (upd H D o)) (g0 : G H0) (p0 : P 0 []) : MadeI K Vw G P H0 D 0 (upd H0 D (.lst [])) :=
  ⟨[], [], by rw [v1]; exact Same.refl _, v3 _ _ g0, upd_same, .nil, p0, Nat.le_refl _⟩
theorem Made.push (p : Made K Vw G P H0 D i H us ds) (h9 : i < 100000) (v1 : ∀ H o, Vw (upd H D o) = Vw H) (v3 : ∀ H o, G H → G (upd H D o)) {y : V} {d : PyData} {j : Nat} (hj : i < j) (q1 : Dp K (Vw H') y d) (q2 : P j (ds ++ [d])) (q3 : Same (Vw H) (Vw H')) (q4 : H' D = H D) (q5 : G H') :
    ∃ acc, H' D = some (.lst acc) ∧ acc.length < sizeLine ∧ MadeI K Vw G P H0 D j (upd H' D (.lst (acc ++ [y]))) := by
  refine ⟨us, q4.trans p.lst, Nat.lt_of_le_of_lt p.len (Nat.lt_of_lt_of_le h9 (by decide)), us ++ [y], ds ++ [d], ?_, v3 _ _ q5, upd_same, ?_, q2, by rw [List.length_append]; exact Nat.le_trans (Nat.succ_le_succ p.len) hj⟩
  · rw [v1]
    exact p.same.trans q3
  · rw [v1]
    exact dps_app (dps_same q3 _ _ p.dat) (dps_one q1)
theorem Made.skip (p : Made K Vw G P H0 D i H us ds) {j : Nat} (hj : i ≤ j) (q2 : P j ds) (q3 : Same (Vw H) (Vw H')) (q4 : H' D = H D) (q5 : G H') : MadeI K Vw G P H0 D j H' :=
  ⟨us, ds, p.same.trans q3, q5, q4.trans p.lst, dps_same q3 _ _ p.dat, q2, Nat.le_trans p.len hj⟩
end
/-! the plain view: the heap without D -/
abbrev Tr : Hp → Prop := fun _ => True
abbrev MadeP (K : PySem.W.Frag) (P : Nat → List PyData → Prop) (H0 : Hp) (D : Addr) (i : Nat) (H : Hp) : Prop := MadeI K (fun H => wo H D) Tr P H0 D i H
section
variable {K : PySem.W.Frag} {D : Addr} {H0 H H' : Hp} {P : Nat → List PyData → Prop} {i : Nat} {us : List V} {ds : List PyData}
theorem madeP_start (p0 : P 0 []) : MadeP K P H0 D 0 (upd H0 D (.lst [])) := Made.start (fun H o => wo_upd D o) (fun _ _ z => z) trivial p0
theorem madeP_push (p : Made K (fun H => wo H D) Tr P H0 D i H us ds) (h9 : i < 100000) {y : V} {d : PyData} {j : Nat} (hj : i < j) (q3 : Same H H') (q1 : Dp K (wo H' D) y d) (q2 : P j (ds ++ [d])) :
    ∃ acc, H' D = some (.lst acc) ∧ acc.length < sizeLine ∧ MadeP K P H0 D j (upd H' D (.lst (acc ++ [y]))) :=
  p.push h9 (fun H o => wo_upd D o) (fun _ _ z => z) hj q1 q2 (wo_same q3) ((q3 _ _ p.lst).trans p.lst.symm) trivial
theorem madeP_skip (p : Made K (fun H => wo H D) Tr P H0 D i H us ds) {j : Nat} (hj : i ≤ j) (q3 : Same H H') (q2 : P j ds) : MadeP K P H0 D j H' :=
  p.skip hj q2 (wo_same q3) ((q3 _ _ p.lst).trans p.lst.symm) trivial
/-- what stood before the list, still stands -/
theorem Made.old (p : Made K (fun H => wo H D) Tr P H0 D i H us ds) (n : H0 D = none) : Same H0 H := fun b o e => wo_le D _ _ (p.same b o (by rw [wo_ne (ne_of_none e n)]; exact e))
/-- a new tuple in the view -/
theorem tup_new {t : Addr} {xs : List V} {u : HO} (hD : H D = some u) (n : H t = none) : SqT K (wo (upd H t (.tup xs)) D) t xs := by
  have ne : t ≠ D := (ne_of_none hD n).symm
  rw [wo_upd_ne _ ne]
  exact .inl (.inl upd_same)
/-- the made list, whole -/
theorem Made.dp (p : Made K (fun H => wo H D) Tr P H0 D i H us ds) : Dp K H (.ref D) (.list ds) := .lst (.inl (.inl p.lst)) (dps_same (wo_le D) _ _ p.dat)
end
theorem yes_if {σ : L2.St} {H : Hp} {A B : Hp → Prop} (h : A H) : tYes σ H fun y H3 => if y = true then A H3 else B H3 := by
  show if true = true then A H else B H
  exact iteT h
/-! ### the columns 0 .. z - 1 as values -/
def cols (z : Nat) : List V := (List.range z).map fun (i : Nat) => V.int (i : Int)
theorem cols_len (z : Nat) : (cols z).length = z := by rw [cols, List.length_map, List.length_range]
theorem cols_at {z i : Nat} {x : V} (h : (cols z)[i]? = some x) : i < z ∧ x = .int (i : Int) := by
  rw [cols, List.getElem?_map] at h
  by_cases hi : i < z
  · rw [List.getElem?_range hi] at h
    exact ⟨hi, (Option.some.inj h).symm⟩
  · rw [List.getElem?_eq_none (by rw [List.length_range]; omega)] at h
    cases h
theorem cols_rg (z : Nat) : rgV 0 (z : Int) = cols z := by
  unfold rgV cols
  rw [show ((z : Int) - 0).toNat = z by omega]
  refine List.map_congr_left fun i _ => ?_
  rw [Int.zero_add]
/-! ### all rules for a width -/
def row (w a : Nat) (k : Bool) : List R := ((List.range w).filter fun b => decide (a ≠ b)).map fun b => ⟨k, a, b⟩
def allR (w : Nat) : List R := [true, false].flatMap fun k => (List.range w).flatMap fun a => row w a k
end CC
namespace CC
open PySem L2
/-! ### a list of things of one shape that is being made at D -/
section
variable {α : Type} {f : α → PyData} {K : PySem.W.Frag} {H0 H H' : Hp} {D : Addr} {n m : Nat} {rs rs' : List α}
def MadeF (f : α → PyData) (K : PySem.W.Frag) (H0 : Hp) (D : Addr) (n : Nat) (H : Hp) (rs : List α) : Prop := ∃ us, Same (wo H0 D) (wo H D) ∧ H D = some (.lst us) ∧ DpAll K (wo H D) us (rs.map f) ∧ us.length ≤ n
theorem MadeF.start : MadeF f K H0 D 0 (upd H0 D (.lst [])) [] := by
  refine ⟨[], ?_, upd_same, .nil, Nat.le_refl _⟩
  rw [wo_upd]
  exact Same.refl _
theorem MadeF.up (p : MadeF f K H0 D n H rs) (h : n ≤ m) (e : rs = rs') : MadeF f K H0 D m H rs' := by
  obtain ⟨us, p1, p2, p3, p4⟩ := p
  subst e
  exact ⟨us, p1, p2, p3, Nat.le_trans p4 h⟩
theorem MadeF.push {r : α} {y : V} (p : MadeF f K H0 D n H rs) (h9 : n < 100000) (hm : n < m) (q3 : Same H H') (q1 : Dp K (wo H' D) y (f r)) :
    ∃ acc, H' D = some (.lst acc) ∧ acc.length < sizeLine ∧ MadeF f K H0 D m (upd H' D (.lst (acc ++ [y]))) (rs ++ [r]) := by
  obtain ⟨us, p1, p2, p3, p4⟩ := p
  refine ⟨us, q3 _ _ p2, Nat.lt_of_le_of_lt p4 (Nat.lt_of_lt_of_le h9 (by decide)), us ++ [y], ?_, upd_same, ?_, ?_⟩
  · rw [wo_upd]
    exact p1.trans (wo_same q3)
  · rw [wo_upd, List.map_append]
    exact dps_app (dps_same (wo_same q3) _ _ p3) (dps_one q1)
  · rw [List.length_append]
    exact Nat.le_trans (Nat.succ_le_succ p4) hm
theorem MadeF.keep (p : MadeF f K H0 D n H rs) (q3 : Same H H') (h : n ≤ m) (e : rs = rs') : MadeF f K H0 D m H' rs' := by
  obtain ⟨us, p1, p2, p3, p4⟩ := p
  subst e
  exact ⟨us, p1.trans (wo_same q3), q3 _ _ p2, dps_same (wo_same q3) _ _ p3, Nat.le_trans p4 h⟩
theorem MadeF.old (p : MadeF f K H0 D n H rs) (h : H0 D = none) : Same H0 H := fun b o e => by
  obtain ⟨us, p1, _⟩ := p
  exact wo_le D _ _ (p1 b o (by rw [wo_ne (ne_of_none e h)]; exact e))
theorem MadeF.tup {t : Addr} {xs : List V} (p : MadeF f K H0 D n H rs) (nt : H t = none) : SqT K (wo (upd H t (.tup xs)) D) t xs := by
  obtain ⟨us, _, p2, _⟩ := p
  exact tup_new p2 nt
theorem free_back (e : Same H H') {a : Addr} (h : H' a = none) : H a = none := e.free h
end
/-- what a def that hands back a new list of such things promises -/
def NewF {α : Type} (f : α → PyData) (K : PySem.W.Frag) (H : Hp) (rs : List α) (Q : VK) : Prop := ∀ (p : Addr) (us : List V) (H' : Hp), Same H H' → H p = none → H' p = some (.lst us) → DpAll K (wo H' p) us (rs.map f) → Q (.ref p) H'
theorem MadeF.out {α : Type} {f : α → PyData} {K : PySem.W.Frag} {H H0 H' : Hp} {D : Addr} {n : Nat} {rs : List α} {Q : VK} (p : MadeF f K H0 D n H' rs) (h : H0 D = none) (s : Same H H0) (q : NewF f K H rs Q) : Q (.ref D) H' := by
  have o := p.old h
  obtain ⟨us, p1, p2, p3, p4⟩ := p
  exact q D us H' (s.trans o) (s.free h) p2 p3
abbrev g3 (K : PySem.W.Frag) (i j k : Nat) : TG := gTup K 3 (gCons (gName i) (gCons (gName j) (gCons (gName k) gNil)))
abbrev g2 (K : PySem.W.Frag) (i j : Nat) : TG := gTup K 2 (gCons (gName i) (gCons (gName j) gNil))
end CC
/-! A set made of a list or tuple of things of one kind, and how many members it has. -/
namespace SG
open PySem PySem.Spec PyProof.Rows L2
section kinds
variable {P : Program} {w : World} {κ : Type} [DecidableEq κ] {kn : KeyKind P w κ} {A : Around} {E : Value → Shared → Prop} {s : Shared}
/-- things of the kind come from no class statement, and hash by their value -/
structure Tame (kn : KeyKind P w κ) : Prop where
  cls : ∀ (n : Nat) (k : κ) (v : Value), kn.is k v = true → ofAClassStatement n v = pure false
  byv : ∀ (n : Nat) (k : κ) (v : Value), kn.is k v = true → ∃ b, hashByValue n v = pure b
theorem tame_mix : Tame (mixKind P w) := by
  constructor
  · intro n k v h
    rcases keyIs_shape h with ⟨i, t, _, rfl⟩ | ⟨x, t, _, rfl⟩ <;> cases n <;> rfl
  · intro n k v h
    rcases keyIs_shape h with ⟨i, t, _, rfl⟩ | ⟨x, t, _, rfl⟩ <;> exact ⟨_, hashByValue_scannable n rfl⟩
theorem each_is {ks : List κ} {us : List Value} (h : ItemsAre kn ks us) : ∀ u ∈ us, ∃ k, kn.is k u = true := by
  induction h with
  | nil => exact fun u hu => nomatch hu
  | @cons k v _ _ q _ ih =>
    intro u hu
    cases hu with
    | head => exact ⟨k, q⟩
    | tail _ hu => exact ih u hu
theorem tup_cls (Tm : Tame kn) {ks : List κ} {b : Addr} {Q : Bool → Shared → Prop} (hb : IsTupleKey kn s.heap ks b) (q : Q false s) : wpAny (model P w) A (ofAClassStatement 8 (.ref b)) Q E s := by
  have ty := hb.typeIs
  obtain ⟨ob, its, m, g1, _, g2, g3⟩ := hb
  unfold ofAClassStatement
  refine wpAny_bind (wpAny_typeOf ty ?_)
  dsimp only
  have e0 : (("tuple" : String) == "tuple") = true := by decide
  simp only [e0, if_true, Bool.not_true, Bool.false_eq_true, if_false]
  try refine wpAny_bind (wpAny_pure ?_)
  try simp only [Bool.not_true, Bool.false_eq_true, if_false]
  show wpAny _ _ (seqItems? (.ref b) >>= _) _ _ s
  refine wpAny_bind (wpAny_seqItems g1 g2 ?_)
  dsimp only
  refine wpAny_bind ?_
  show wpAny _ _ (forIn its _ _) _ _ s
  rw [← Array.forIn_toList]
  refine wpAny_forIn_list _ (fun left r s' => r.1 = none ∧ s' = s ∧ ∀ u ∈ left, ∃ k, kn.is k u = true) _ ?_ ?_ _ _ ⟨rfl, rfl, each_is g3⟩
  · rintro u left r s' ⟨hr, rfl, al⟩
    obtain ⟨k, hk⟩ := al u List.mem_cons_self
    rw [Tm.cls _ k u hk]
    refine wpAny_bind (wpAny_pure ?_)
    simp only [Bool.false_eq_true, if_false]
    exact wpAny_pure ⟨rfl, rfl, fun x hx => al x (List.mem_cons_of_mem _ hx)⟩
  · rintro ⟨r1, r2⟩ s' ⟨hr, rfl, _⟩
    simp only at hr
    subst hr
    exact wpAny_pure q
theorem tup_byv (Tm : Tame kn) {ks : List κ} {b : Addr} {Q : Bool → Shared → Prop} (hb : IsTupleKey kn s.heap ks b) (q : ∀ y, Q y s) : wpAny (model P w) A (hashByValue 8 (.ref b)) Q E s := by
  have ty := hb.typeIs
  obtain ⟨ob, its, m, g1, _, g2, g3⟩ := hb
  unfold hashByValue
  refine wpAny_bind (wpAny_specialOf ty F.slot_tuple_hash.lookup ?_)
  show wpAny _ _ (seqItems? (.ref b) >>= _) _ _ s
  refine wpAny_bind (wpAny_seqItems g1 g2 ?_)
  refine wpAny_bind ?_
  show wpAny _ _ (forIn its _ _) _ _ s
  rw [← Array.forIn_toList]
  refine wpAny_forIn_list _ (fun left r s' => s' = s ∧ ∀ u ∈ left, ∃ k, kn.is k u = true) _ ?_ ?_ _ _ ⟨rfl, each_is g3⟩
  · rintro u left r s' ⟨rfl, al⟩
    obtain ⟨k, hk⟩ := al u List.mem_cons_self
    obtain ⟨y, hy⟩ := Tm.byv 7 k u hk
    rw [hy]
    refine wpAny_bind (wpAny_pure ?_)
    cases y with
    | true =>
      simp only [Bool.not_true, Bool.false_eq_true, if_false]
      exact wpAny_pure ⟨rfl, fun x hx => al x (List.mem_cons_of_mem _ hx)⟩
    | false =>
      simp only [Bool.not_false, if_true]
      exact wpAny_pure (wpAny_pure (q _))
  · rintro ⟨r1, r2⟩ s' ⟨rfl, _⟩
    cases r1 with
    | none => exact wpAny_pure (q _)
    | some y => exact wpAny_pure (q _)
theorem tup_unseen (Tm : Tame kn) {ks : List κ} {b : Addr} {Q : Bool → Shared → Prop} (hb : IsTupleKey kn s.heap ks b) {us : List Value} (hus : ∀ u ∈ us, ∃ js c, u = Value.ref c ∧ IsTupleKey kn s.heap js c) (q : Q false s) :
    wpAny (model P w) A (searchCouldBeSeen (.ref b) us) Q E s := by
  unfold searchCouldBeSeen
  refine wpAny_bind ?_
  refine wpAny_forIn_list _ (fun left r s' => r.1 = none ∧ s' = s ∧ ∀ u ∈ left, ∃ js c, u = Value.ref c ∧ IsTupleKey kn s.heap js c) _ ?_ ?_ _ _ ⟨rfl, rfl, hus⟩
  · rintro u left r s' ⟨hr, rfl, al⟩
    obtain ⟨js, c, rfl, hc⟩ := al u List.mem_cons_self
    have al2 : ∀ x ∈ left, ∃ js c, x = Value.ref c ∧ IsTupleKey kn s'.heap js c := fun x hx => al x (List.mem_cons_of_mem _ hx)
    dsimp only
    by_cases hv : (b == c || (carriedByValue (.ref b) && carriedByValue (.ref c))) = true
    · exact wp_if_pos hv (wpAny_pure ⟨rfl, rfl, al2⟩)
    · refine wp_if_neg hv (wpAny_bind (wpAny_eqIsQuiet_tuple hb ?_))
      simp only [Bool.not_true, Bool.false_eq_true, if_false]
      refine wpAny_bind (wpAny_eqIsQuiet_tuple hc ?_)
      simp only [Bool.not_true, Bool.false_eq_true, if_false]
      refine wpAny_bind (tup_cls Tm hb ?_)
      simp only [Bool.false_eq_true, if_false]
      refine wpAny_bind (tup_cls Tm hc ?_)
      simp only [Bool.false_eq_true, if_false]
      exact wpAny_pure ⟨rfl, rfl, al2⟩
  · rintro ⟨r1, r2⟩ s' ⟨hr, rfl, _⟩
    simp only at hr
    subst hr
    exact wpAny_pure q
/-! ### a set of tuples of the kind -/
abbrev hs (kn : KeyKind P w κ) (k : List κ) : Int := tupleKeyHash kn k
abbrev Mem (κ : Type) := Addr × List κ
def ents (kn : KeyKind P w κ) (M : List (Mem κ)) : List (Int × Value) := M.map fun m => (hs kn m.2, Value.ref m.1)
structure TSet (kn : KeyKind P w κ) (h : Heap) (a : Addr) (M : List (Mem κ)) (es : Array (Int × Value)) (ep : Nat) (t : SetTable) : Prop where
  obj : ∃ o, h.get? a = some o ∧ o.ExactSet ∧ o.data = .set es ep t
  ent : es.toList = ents kn M
  tok : TabOk t (M.map fun m => hs kn m.2)
  uni : (M.map (·.2)).Nodup
  mem : ∀ m ∈ M, IsTupleKey kn h m.2 m.1
  led : w.params.followText "set-order" = true ∨ t.led = true
  rom : M.length * 5 < t.mask * 3
  few : M.length < 64
variable {a : Addr} {M : List (Mem κ)} {es : Array (Int × Value)} {ep : Nat} {t : SetTable}
theorem ents_len (e : es.toList = ents kn M) : es.size = M.length := by
  have q := congrArg List.length e
  rw [ents, List.length_map, Array.length_toList] at q
  exact q
theorem ents_at (e : es.toList = ents kn M) {i : Nat} {m : Mem κ} (h : M[i]? = some m) : es[i]? = some (hs kn m.2, Value.ref m.1) := by
  rw [← Array.getElem?_toList, e, ents, List.getElem?_map, h]
  rfl
theorem fits_of (T : TabOk t (M.map fun m => hs kn m.2)) (n : es.size = M.length) (r : M.length ≤ t.mask) : t.fits es.size = true := by
  have z := T.sz
  rw [List.length_map] at z
  unfold SetTable.fits SetTable.fill
  rw [T.dm, Bool.and_eq_true, beq_iff_eq, decide_eq_true_eq]
  show t.place.size = es.size ∧ t.place.size + 0 ≤ t.mask
  omega
theorem TSet.fit (S : TSet kn s.heap a M es ep t) : t.fits es.size = true := fits_of S.tok (ents_len S.ent) (by have := S.rom; omega)
theorem nodummy (m : Nat) : ∀ (n : Nat) (p : SetTable.Probe), p.dummy = none → (nth m p n).dummy = none
  | 0, _, h => h
  | n + 1, p, h => nodummy m n (adv m p) (by unfold adv; split <;> exact h)
abbrev st0 (m : Nat) (h : Int) : SetTable.Probe := runAt m (SetTable.bits h % (m + 1)) (SetTable.bits h)
/-- the search along the way, from its c-th step -/
theorem look (Tm : Tame kn) (S : TSet kn s.heap a M es ep t) {x : Addr} {k : List κ} (hx : IsTupleKey kn s.heap k x) (hu : A.units < cLine) {N : Nat} (hN : N < 10 * SetTable.turns t.mask)
    (fr : way t.mask (hs kn k) N ∉ t.place.toList) (oc : ∀ c, c < N → way t.mask (hs kn k) c ∈ t.place.toList) {Q : SetFound → Shared → Prop}
    (yes : k ∈ M.map (·.2) → Q (.there none) s) (no : k ∉ M.map (·.2) → Q (.free (way t.mask (hs kn k) N) false) s) :
    ∀ (f c : Nat) (sd : Option SetTable.Probe), sd.getD (t.probeStart (hs kn k)) = nth t.mask (st0 t.mask (hs kn k)) c → c ≤ N → N - c < f →
      (∀ (i : Nat) m, M[i]? = some m → m.2 = k → ∃ d, c ≤ d ∧ d < N ∧ t.place.toList[i]? = some (way t.mask (hs kn k) d)) →
      wpAny (model P w) A (setSearchFrom a (.ref x) (hs kn k) true f sd) Q E s
  | 0, _, _, _, _, z, _ => absurd z (Nat.not_lt_zero _)
  | f + 1, c, sd, hsd, hc, hf, ahead => by
    obtain ⟨ob, g1, g2, g3⟩ := S.obj
    rw [setSearchFrom_succ]
    refine wpAny_bind (wpAny_setState_of g1 g3 S.fit ?_)
    dsimp only
    have gw : ¬ t.gaveWay = true := by
      unfold SetTable.gaveWay
      rw [mask_odd S.tok.mok]
      decide
    refine wp_if_neg gw ?_
    try refine wpAny_bind (wpAny_pure ?_)
    have shift : ∀ q, nth t.mask (nth t.mask (st0 t.mask (hs kn k)) c) q = nth t.mask (st0 t.mask (hs kn k)) (c + q) := fun q => (nth_add t.mask c _ q).symm
    have at_ : ∀ q, (nth t.mask (nth t.mask (st0 t.mask (hs kn k)) c) q).j = way t.mask (hs kn k) (c + q) := fun q => congrArg SetTable.Probe.j (shift q)
    have last : c + (N - c) = N := by omega
    have told := go_spec t S.tok.ris S.tok.dm (fun i => (es[i]?.map (·.1)).getD 0) (hs kn k) (10 * SetTable.turns t.mask) (N - c) _ (nodummy t.mask c (st0 t.mask (hs kn k)) rfl) (by omega)
      (fun q hq => by rw [at_]; exact oc _ (by omega)) (by rw [at_, last]; exact fr)
    have hsh : ∀ (i : Nat) m, M[i]? = some m → (fun i => (es[i]?.map (·.1)).getD 0) i = hs kn m.2 := fun i m hm => by
      show (es[i]?.map (·.1)).getD 0 = _
      rw [ents_at S.ent hm]
      rfl
    rcases told with ⟨q, i, hq, hi, _, before, ans⟩ | ⟨before, ans⟩
    · have ans' : t.probe (fun i => (es[i]?.map (·.1)).getD 0) (hs kn k) (sd.getD (t.probeStart (hs kn k))) = some (.candidate (way t.mask (hs kn k) (c + q)) i (nth t.mask (st0 t.mask (hs kn k)) (c + (q + 1)))) := by
        rw [hsd, ← at_, ← shift]
        exact ans
      rw [ans']
      dsimp only
      rw [at_] at hi
      have il : i < M.length := by
        have z1 := (List.getElem?_eq_some_iff.mp hi).1
        have z2 := S.tok.sz
        rw [List.length_map] at z2
        rw [Array.length_toList] at z1
        omega
      obtain ⟨m, hm⟩ : ∃ m, M[i]? = some m := ⟨_, List.getElem?_eq_getElem il⟩
      have mm : m ∈ M := List.mem_of_getElem? hm
      have go : wpAny (model P w) A (searchRest a (.ref x) (hs kn k) true f es t (way t.mask (hs kn k) (c + q)) i (nth t.mask (st0 t.mask (hs kn k)) (c + (q + 1)))) Q E s := by
        unfold searchRest
        rw [ents_at S.ent hm]
        dsimp only
        refine wpAny_bind (wpAny_holding (wpAny_eqBool_tuple hu (S.mem m mm) hx ?_))
        refine wpAny_bind (wpAny_setState_of g1 g3 S.fit ?_)
        dsimp only
        by_cases same : m.2 = k
        · exact wp_if_pos (by simp [same]) (wpAny_pure (yes (List.mem_map.mpr ⟨m, mm, same⟩)))
        · refine wp_if_neg (by simp [same]) ?_
          try refine wpAny_bind (wpAny_pure ?_)
          rw [sameMem]
          dsimp only
          have live : t.slot (way t.mask (hs kn k) (c + q)) = .live i := slot_live S.tok.ris hi
          simp only [if_true, live, ents_at S.ent hm]
          refine wpAny_bind (wpAny_isSame_ref_self (wpAny_bind (wpAny_pure ?_)))
          simp only [if_true]
          refine wp_if_neg (by simp [same]) ?_
          refine look Tm S hx hu hN fr oc yes no f (c + (q + 1)) _ rfl (by omega) (by omega) fun j n hj hn => ?_
          obtain ⟨d, d1, d2, d3⟩ := ahead j n hj hn
          refine ⟨d, ?_, d2, d3⟩
          rcases Nat.lt_trichotomy d (c + q) with z | z | z
          · have z0 : c + (d - c) = d := by omega
            refine absurd ((hsh j n hj).trans (congrArg (hs kn) hn)) (before (d - c) j (by omega) ?_)
            rw [at_, z0]
            exact d3
          · rw [z] at d3
            have z1 := slot_live S.tok.ris d3
            rw [live] at z1
            injection z1 with z1
            rw [← z1, hm] at hj
            exact absurd ((congrArg Prod.snd (Option.some.inj hj)).trans hn) same
          · omega
      by_cases hl : t.led = true
      · refine wp_if_neg (by simp [hl]) ?_
        try refine wpAny_bind (wpAny_pure ?_)
        exact go
      · refine wp_if_pos (by simp [hl]) ?_
        refine wpAny_bind (tup_unseen Tm hx (fun u hu2 => ?_) ?_)
        · obtain ⟨e, he, ee⟩ := List.mem_map.mp hu2
          have he1 : e ∈ es ∧ e.1 = hs kn k := by simpa using he
          have he2 : e ∈ es.toList := by simpa using he1.1
          rw [S.ent] at he2
          obtain ⟨n, hn, rfl⟩ := List.mem_map.mp he2
          exact ⟨n.2, n.1, ee.symm, S.mem n hn⟩
        · refine wp_if_neg (by decide) ?_
          try refine wpAny_bind (wpAny_pure ?_)
          exact go
    · have ans' : t.probe (fun i => (es[i]?.map (·.1)).getD 0) (hs kn k) (sd.getD (t.probeStart (hs kn k))) = some (.empty (way t.mask (hs kn k) N) none) := by
        have z : way t.mask (hs kn k) N = (nth t.mask (nth t.mask (st0 t.mask (hs kn k)) c) (N - c)).j := by rw [at_, last]
        rw [hsd, z]
        exact ans
      rw [ans']
      dsimp only
      refine wpAny_pure (no fun hm => ?_)
      obtain ⟨m, mm, ek⟩ := List.mem_map.mp hm
      obtain ⟨j, hj⟩ := List.mem_iff_getElem?.mp mm
      obtain ⟨d, d1, d2, d3⟩ := ahead j m hj ek
      have z0 : c + (d - c) = d := by omega
      refine absurd ((hsh j m hj).trans (congrArg (hs kn) ek)) (before (d - c) j (by omega) ?_)
      rw [at_, z0]
      exact d3
theorem look0 (Tm : Tame kn) (S : TSet kn s.heap a M es ep t) {x : Addr} {k : List κ} (hx : IsTupleKey kn s.heap k x) (hu : A.units < cLine) {Q : SetFound → Shared → Prop} (yes : k ∈ M.map (·.2) → Q (.there none) s)
    (no : ∀ N, k ∉ M.map (·.2) → way t.mask (hs kn k) N ∉ t.place.toList → (∀ c, c < N → way t.mask (hs kn k) c ∈ t.place.toList) → Q (.free (way t.mask (hs kn k) N) false) s) :
    wpAny (model P w) A (setSearch a (.ref x) (hs kn k) true) Q E s := by
  have rm := S.rom
  obtain ⟨N, n1, n2, n3⟩ := S.tok.first (by rw [List.length_map]; omega) (hs kn k)
  have big : N < 100000 := by
    have : 10 * SetTable.turns t.mask ≤ 1420 := by
      unfold SetTable.turns
      rcases S.tok.mok with e | e | e <;> omega
    omega
  unfold setSearch
  refine look Tm S hx hu n1 n2 n3 yes (fun z => no N z n2 n3) 100000 0 none rfl (Nat.zero_le _) (by omega) fun i m hm ek => ?_
  have z1 : (M.map fun m => hs kn m.2)[i]? = some (hs kn k) := by
    rw [List.getElem?_map, hm, ← ek]
    rfl
  have z2 : i < t.place.toList.length := by
    have y1 : i < M.length := (List.getElem?_eq_some_iff.mp hm).1
    have y2 := S.tok.sz
    rw [List.length_map] at y2
    rw [Array.length_toList]
    omega
  obtain ⟨d, d1, d2⟩ := S.tok.before n2 z1 (List.getElem?_eq_getElem z2)
  exact ⟨d, Nat.zero_le _, d1, by rw [List.getElem?_eq_getElem z2, d2]⟩
/-! ### laid anew, and added to -/
theorem key_else {h h' : Heap} {k : List κ} {b : Addr} {o : Obj} (hb : IsTupleKey kn h k b) (ho : h.get? a = some o) (hd : o.data = .set es ep t) (sb : Heap.SameBut a h h') : IsTupleKey kn h' k b := by
  obtain ⟨o2, its, n, g1, g2, g3, g4⟩ := hb
  have ne : b ≠ a := fun z => by
    rw [z, ho] at g1
    rw [← Option.some.inj g1, hd] at g3
    exact nomatch g3
  exact ⟨o2, its, n, (sb.2 b ne).trans g1, g2, g3, g4⟩
theorem pick_len {α : Type} (l : List α) : ∀ n, n ≤ l.length → (List.range n).filterMap (fun i => l[i]?) = l.take n
  | 0, _ => by simp
  | n + 1, h => by
    rw [List.range_succ, List.filterMap_append, pick_len l n (by omega), List.take_succ, List.getElem?_eq_getElem h]
    simp [List.filterMap, List.getElem?_eq_getElem h]
theorem pick (e : es.toList = ents kn M) : ∀ js : List Nat, (∀ j ∈ js, j < M.length) →
    js.filterMap (fun j => es[j]?) = ents kn (js.filterMap fun j => M[j]?) ∧ ((js.filterMap fun j => M[j]?).map fun m => hs kn m.2) = js.map fun j => (es.map (·.1)).getD j 0
  | [], _ => ⟨rfl, rfl⟩
  | j :: js, h => by
    have hj : j < M.length := h j List.mem_cons_self
    obtain ⟨i1, i2⟩ := pick e js fun i hi => h i (List.mem_cons_of_mem _ hi)
    have g := List.getElem?_eq_getElem hj
    have z : (es.map (·.1)).getD j 0 = hs kn M[j].2 := by
      have z1 : (es.map (·.1))[j]? = some (hs kn M[j].2) := by
        rw [Array.getElem?_map, ents_at e g]
        rfl
      simp [Array.getD_eq_getD_getElem?, z1]
    constructor
    · rw [List.filterMap_cons_some (ents_at e g), List.filterMap_cons_some g, i1]
      rfl
    · rw [List.filterMap_cons_some g, List.map_cons, List.map_cons, i2, z]
theorem grow {o : Obj} (g1 : s.heap.get? a = some o) (g2 : o.ExactSet) (g3 : o.data = .set es ep t) (en : es.toList = ents kn M) (T : TabOk t (M.map fun m => hs kn m.2)) (fl : M.length ≤ t.mask)
    (un : (M.map (·.2)).Nodup) (me : ∀ m ∈ M, IsTupleKey kn s.heap m.2 m.1) (ld : w.params.followText "set-order" = true ∨ t.led = true) (fw : M.length < 64) {want B : Nat}
    (w1 : SetTable.sizeAbove want - 1 = B) (w2 : MaskOk B) (w3 : SetTable.sizeAbove want ≤ 128) (w4 : M.length * 5 < B * 3) {Q : Unit → Shared → Prop}
    (q : ∀ h' M' es' ep' t', Heap.SameBut a s.heap h' → TSet kn h' a M' es' ep' t' → M'.Perm M → Q () { s with heap := h' }) : wpAny (model P w) A (setRelay a want) Q E s := by
  have n := ents_len en
  obtain ⟨t', order, e1, pm, T', e2, e3, _, _⟩ := relaid_ok t (hs := es.map (·.1)) (wanted := want) w1 w2 (by rw [Array.size_map, n]; omega)
  rw [Array.size_map, n] at pm
  obtain ⟨p1, p2⟩ := pick en order.toList fun j hj => List.mem_range.mp (pm.mem_iff.mp hj)
  have pm2 : (order.toList.filterMap fun j => M[j]?).Perm M := by
    have z := pm.filterMap fun j => M[j]?
    rw [pick_len M M.length (Nat.le_refl _), List.take_length] at z
    exact z
  generalize order.toList.filterMap (fun j => M[j]?) = M' at p1 p2 pm2
  rw [← p2] at T'
  have p3 : (order.filterMap (es[·]?)).toList = ents kn M' := by
    first
      | (rw [Array.toList_filterMap]; exact p1)
      | simpa using p1
  have n2 := ents_len p3
  have n3 := pm2.length_eq
  rw [setRelay_eq]
  refine wpAny_bind (wpAny_setState_of g1 g3 (fits_of T n fl) ?_)
  dsimp only
  refine wp_if_neg (by rw [sizeLine_eq]; omega) ?_
  try refine wpAny_bind (wpAny_pure ?_)
  rw [e1]
  dsimp only
  refine wpAny_bind (wp_if_neg (by rw [n2, n3, n]; simp) ?_)
  try refine wpAny_bind (wpAny_pure ?_)
  refine wpAny_pure ?_
  dsimp only
  refine wpAny_storeSet_of g1 g3 ?_ (by rw [n2, n3, sizeLine_eq]; omega)
  have sb : Heap.SameBut a s.heap (s.heap.update a (Obj.putSet (order.filterMap (es[·]?)) t')) := Heap.SameBut.update ..
  refine q _ M' _ (ep + 1) t' sb ⟨⟨_, store_at g1 g3, ⟨g2.1, g2.2.1, g2.2.2⟩, rfl⟩, p3, T', (pm2.map (·.2)).nodup_iff.mpr un, fun m hm => key_else (me m (pm2.mem_iff.mp hm)) g1 g3 sb, by rw [e3]; exact ld, by rw [n3, e2]; exact w4, by rw [n3]; exact fw⟩ pm2
theorem more (Tm : Tame kn) (S : TSet kn s.heap a M es ep t) {x : Addr} {k : List κ} (hx : IsTupleKey kn s.heap k x) (hu : A.units < cLine) (fw : M.length + 1 < 64) {Q : Bool → Shared → Prop}
    (q : ∀ b h' M' es' ep' t', Heap.SameBut a s.heap h' → TSet kn h' a M' es' ep' t' → (k ∈ M.map (·.2) → M' = M) → (k ∉ M.map (·.2) → M'.Perm ((x, k) :: M)) → Q b { s with heap := h' }) :
    wpAny (model P w) A (setAddHashed a (.ref x) (hs kn k)) Q E s := by
  obtain ⟨o, g1, g2, g3⟩ := S.obj
  have n := ents_len S.ent
  have rm := S.rom
  unfold setAddHashed
  refine wpAny_holding ?_
  rw [show (100000 : Nat) = 99999 + 1 from rfl, setAddHashedIn_succ]
  refine wpAny_bind (wpAny_setState_of g1 g3 S.fit ?_)
  dsimp only
  refine wp_if_neg (by simp [byScan, Value.scannable]) ?_
  try refine wpAny_bind (wpAny_pure ?_)
  refine wpAny_bind (look0 Tm S hx hu (fun hm => ?_) fun N hm f1 f2 => ?_)
  · exact wpAny_pure (q false s.heap M es ep t (Heap.SameBut.refl a s.heap) S (fun _ => rfl) fun z => absurd hm z)
  · dsimp only
    refine wpAny_bind (wpAny_setState_of g1 g3 S.fit ?_)
    dsimp only
    obtain ⟨q1, q2, q3, q4, q5, q6, q7, q8, q9⟩ := S.tok.put f1 f2
    generalize t.put (way t.mask (hs kn k) N) = pt at q1 q3 q4 q5 q6 q7 q8 q9 ⊢
    obtain ⟨t1, p⟩ := pt
    dsimp only at q1 q3 q4 q5 q6 q7 q8 q9 ⊢
    subst q1
    have hin : (SetTable.insertAt es (SetTable.below t.place (way t.mask (hs kn k) N)) (hs kn k, Value.ref x)).toList = ents kn (M.take (SetTable.below t.place (way t.mask (hs kn k) N)) ++ (x, k) :: M.drop (SetTable.below t.place (way t.mask (hs kn k) N))) := by
      rw [SetTable.toList_insertAt, S.ent, ents, ents, List.map_append, List.map_cons, List.map_take, List.map_drop]
    generalize SetTable.below t.place (way t.mask (hs kn k) N) = b at q2 q3 hin ⊢
    have pm := put_perm M b (x, k)
    have ln : (M.take b ++ (x, k) :: M.drop b).length = M.length + 1 := pm.length_eq
    have hh : (M.take b ++ (x, k) :: M.drop b).map (fun m => hs kn m.2) = (M.map fun m => hs kn m.2).take b ++ hs kn k :: (M.map fun m => hs kn m.2).drop b := by
      rw [List.map_append, List.map_cons, List.map_take, List.map_drop]
    rw [← hh] at q3
    have un1 : ((M.take b ++ (x, k) :: M.drop b).map (·.2)).Nodup := by
      refine (pm.map (·.2)).nodup_iff.mpr ?_
      rw [List.map_cons]
      exact List.nodup_cons.mpr ⟨hm, S.uni⟩
    have n1 := ents_len hin
    rw [ln] at n1
    generalize SetTable.insertAt es b (hs kn k, Value.ref x) = es1 at hin n1 ⊢
    generalize M.take b ++ (x, k) :: M.drop b = M1 at pm ln q3 un1 hin
    have tail : ∀ t2 : SetTable, TabOk t2 (M1.map fun m => hs kn m.2) → t2.mask = t.mask → t2.led = t1.led → t2.tooFull = t1.tooFull →
        wpAny (model P w) A (do
          storeSet a es1 t2
          if !false && t2.tooFull then setRelay a (SetTable.grown (es.size + 1))
          return true) Q E s := by
      intro t2 T2 mk ldd tf
      refine wpAny_bind (wpAny_storeSet_of g1 g3 ?_ (by rw [n1, sizeLine_eq]; omega))
      have sb : Heap.SameBut a s.heap (s.heap.update a (Obj.putSet es1 t2)) := Heap.SameBut.update ..
      have so := store_at (es' := es1) (t' := t2) g1 g3
      generalize s.heap.update a (Obj.putSet es1 t2) = h1 at sb so ⊢
      have me1 : ∀ m ∈ M1, IsTupleKey kn h1 m.2 m.1 := fun m hm1 => by
        rcases List.mem_cons.mp (pm.mem_iff.mp hm1) with z | z
        · rw [z]
          exact key_else hx g1 g3 sb
        · exact key_else (S.mem m z) g1 g3 sb
      have ld1 : w.params.followText "set-order" = true ∨ t2.led = true := by
        rw [ldd, q5]
        exact S.led
      by_cases hf : t1.tooFull = true
      · have hf2 : t2.tooFull = true := tf.trans hf
        first
          | (refine wpAny_bind ?_; refine wp_if_pos (by simp [hf2]) ?_)
          | (refine wp_if_pos (by simp [hf2]) ?_; refine wpAny_bind ?_)
        have full : (M.length + 1) * 5 ≥ t1.mask * 3 := by
          have z := hf
          unfold SetTable.tooFull at z
          rw [decide_eq_true_eq, q9, List.length_map] at z
          exact z
        rw [n]
        have two : (t.mask = 7 ∧ M.length = 4) ∨ (t.mask = 31 ∧ M.length = 18) := by
          rcases S.tok.mok with e | e | e
          · left
            rw [q4, e] at full
            rw [e] at rm
            exact ⟨e, by omega⟩
          · right
            rw [q4, e] at full
            rw [e] at rm
            exact ⟨e, by omega⟩
          · exfalso
            rw [q4, e] at full
            omega
        have go : ∀ B, SetTable.sizeAbove (SetTable.grown (M.length + 1)) - 1 = B → MaskOk B → SetTable.sizeAbove (SetTable.grown (M.length + 1)) ≤ 128 → (M.length + 1) * 5 < B * 3 →
            wpAny (model P w) A (setRelay a (SetTable.grown (M.length + 1))) (fun _ s' => wpAny (model P w) A (pure true) Q E s') E { s with heap := h1 } := fun B b1 b2 b3 b4 => by
          refine grow (s := { s with heap := h1 }) so ⟨g2.1, g2.2.1, g2.2.2⟩ rfl hin T2 (by rw [ln, mk]; rcases two with ⟨z, z2⟩ | ⟨z, z2⟩ <;> omega) un1 me1 ld1 (by rw [ln]; exact fw) b1 b2 b3 (by rw [ln]; exact b4) ?_
          intro h2 M2 es2 ep2 t3 sb2 S2 pm2
          exact wpAny_pure (q true h2 M2 es2 ep2 t3 (sb.trans sb2) S2 (fun z => absurd z hm) fun _ => pm2.trans pm)
        rcases two with ⟨_, z⟩ | ⟨_, z⟩
        · exact go 31 (by rw [z, size_20]) (.inr (.inl rfl)) (by rw [z, size_20]; decide) (by omega)
        · exact go 127 (by rw [z, size_76]) (.inr (.inr rfl)) (by rw [z, size_76]; decide) (by omega)
      · have hf2 : ¬ t2.tooFull = true := by
          rw [tf]
          exact hf
        first
          | refine wp_if_neg (by simp [hf2]) ?_
          | (refine wpAny_bind ?_; refine wp_if_neg (by simp [hf2]) ?_; refine wpAny_pure ?_)
        refine wpAny_pure (q true h1 M1 es1 (ep + 1) t2 sb ⟨⟨_, so, ⟨g2.1, g2.2.1, g2.2.2⟩, rfl⟩, hin, T2, un1, me1, ld1, ?_, by rw [ln]; exact fw⟩ (fun z => absurd z hm) fun _ => pm)
        have z := hf
        unfold SetTable.tooFull at z
        rw [decide_eq_true_eq, q9, List.length_map, q4] at z
        rw [ln, mk]
        omega
    have both : ∀ y : Bool, wpAny (model P w) A (do
        storeSet a es1 (if y then t1 else { t1 with plain := false })
        if !false && (if y then t1 else { t1 with plain := false } : SetTable).tooFull then setRelay a (SetTable.grown (es.size + 1))
        return true) Q E s := by
      intro y
      cases y with
      | true => exact tail t1 q3 q4 rfl rfl
      | false => exact tail { t1 with plain := false } ⟨q3.ris, q3.dm, q3.sz, q3.mok, q3.bd, q3.reach⟩ q4 rfl rfl
    by_cases pl : t1.plain = true
    · first
        | (refine wpAny_bind ?_; refine wp_if_pos pl ?_; refine tup_byv Tm hx fun y => ?_)
        | refine wp_if_pos pl (wpAny_bind (tup_byv Tm hx fun y => ?_))
      exact both y
    · first
        | (refine wpAny_bind ?_; refine wp_if_neg pl ?_; refine wpAny_pure ?_)
        | refine wp_if_neg pl (wpAny_bind (wpAny_pure ?_))
      exact both true
end kinds
end SG
namespace SG
open PySem PySem.Spec PyProof.Rows L2
/-- what a set at S, filled one by one, is known to be behind i things; base: what stood before it -/
structure Fills (P : Program) (w : World) (A : Around) (S : Addr) (base : Heap) (n : Nat) (Pv : Nat → Value → Prop) (J : Nat → Heap → Prop) : Prop where
  stay : ∀ (i : Nat) (h h' : Heap), J i h → (∀ b o, (b = S ∨ ∃ x, base.get? b = some x) → h.get? b = some o → h'.get? b = some o) → J i h'
  adds : ∀ (i : Nat) (v : Value) (s : Shared) (Q : Shared → Prop) (E : Value → Shared → Prop), i < n → Pv i v → J i s.heap →
    (∀ (h' : Heap) (tk : Nat), s.toks ≤ tk → Heap.SameBut S s.heap h' → J (i + 1) h' → Q { s with heap := h', toks := tk }) → wpAny (model P w) A (setAdd S v) (fun _ s' => Q s') E s
section
variable {P : Program} {w : World} {A : Around} {s : Shared}
theorem fill {I S : Addr} {fp wr : List Addr} {G : Array GenState → Array GenState → Prop} {n : Nat} {Pv : Nat → Value → Prop} {St : Nat → Shared → Prop} {R : Result → Shared → Prop} {base : Heap} {J : Nat → Heap → Prop}
    (W : WalksS P w A.in1 I fp wr G n Pv St) (Fi : Fills P w A.in1 S base n Pv J) (off : S ∉ fp) (old : ∀ b ∈ wr, base.get? b = none) : ∀ (d i : Nat) (s : Shared), n - i = d → i ≤ n → St i s → J i s.heap →
      (∀ s', Moved (S :: wr) G s s' → J n s'.heap → R (.ok (.ret .none)) s') → codeAny (model P w) A (.builtin "set.update.loop" ⟨[.ref S, .ref I], []⟩) R s := by
  have up : ∀ b ∈ wr, b ∈ S :: wr := fun b hb => List.mem_cons_of_mem _ hb
  have still : ∀ {i : Nat} {s s' : Shared}, Moved wr G s s' → J i s.heap → J i s'.heap := fun {i s s'} mv j => Fi.stay i _ _ j fun b o hb e => mv.heap b o (fun hw => by
    rcases hb with z | ⟨x, z⟩
    · exact off (W.sub _ (z ▸ hw))
    · rw [old b hw] at z
      cases z) e
  intro d
  induction d with
  | zero =>
    intro i s hd hi st j fin
    have e : i = n := by omega
    subst e
    refine codeAny_builtin F.entry_set_update_loop ?_
    rw [Around.under_plainId F.plain_set_update_loop _]
    show wpAny _ A.in1 (pyNext (.ref I) >>= _) _ _ s
    refine wpAny_bind (W.done s _ _ st fun s' mv => ?_)
    exact wpAny_pure (fin s' (mv.mono up) (still mv j))
  | succ d ih =>
    intro i s hd hi st j fin
    have lt : i < n := by omega
    refine codeAny_builtin F.entry_set_update_loop ?_
    rw [Around.under_plainId F.plain_set_update_loop _]
    show wpAny _ A.in1 (pyNext (.ref I) >>= _) _ _ s
    refine wpAny_bind (W.item i s _ _ lt st fun v s' pv st' mv => ?_)
    show wpAny _ A.in1 (holding [v] (setAdd S v) >>= _) _ _ s'
    refine wpAny_bind (wpAny_holding (Fi.adds i v s' _ _ lt pv (still mv j) fun h' tk ht sb j' => ?_))
    have out : ∀ b o, b ∉ S :: wr → s'.heap.get? b = some o → h'.get? b = some o := fun b o hb e => by
      rw [sb.2 b fun z => hb (by rw [z]; exact List.mem_cons_self)]
      exact e
    refine wpAny_pure ⟨plainId_quiet F.plain_set_update_loop _, ih (i + 1) _ (by omega) lt (W.frame _ s' _ _ st' ht fun b hb o e => ?_) j' fun s2 mv2 j2 => ?_⟩
    · rw [sb.2 b fun z => off (z ▸ hb)]
      exact e
    · exact fin s2 (Moved.trans W.gtrans ((mv.mono up).then_heap ht out) mv2) j2
end
abbrev bare (w : World) : Obj := { cls := .type "set", dict := none, data := .set #[] 0 (.fresh 0 0 (!w.params.followText "set-order")) }
section
variable {P : Program} {w : World} {A : Around} {E : Value → Shared → Prop} {s : Shared}
theorem make {l : Addr} {its : Array Value} {J : Nat → Heap → Prop} {Q : Value → Shared → Prop} (hh : A.handled = none) (hl : s.heap.IsList l its ∨ s.heap.IsTuple l its)
    (Fi : Fills P w A.in1.in1.in1 s.heap.objs.size s.heap its.size (fun i v => its[i]? = some v) J)
    (j0 : ∀ h : Heap, h.get? s.heap.objs.size = some (bare w) → (∀ b o, s.heap.get? b = some o → h.get? b = some o) → J 0 h)
    (q : ∀ (h' : Heap) (tk : Nat), J its.size h' → (∀ b o, s.heap.get? b = some o → h'.get? b = some o) → Q (.ref s.heap.objs.size) { s with heap := h', toks := tk }) :
    wpAny (model P w) A (call (.type "set") [.ref l]) Q E s := by
  obtain ⟨c, tl, hmro⟩ := F.called_set.mro
  have hmade := F.called_set.made
  have hsub := F.called_set.sub
  refine wpAny_call (codeAny_of_tree ?_)
  show wpAny _ _ (callAny (.type "set") _) _ _ _
  refine wpAny_pure ⟨Code.quiet_builtin _ (by decide +kernel), codeAny_builtin F.entry_type_call ?_⟩
  rw [Around.under_plain (weight_type_call_type "set" [.ref l] []) rfl]
  have h1 := F.called_set.notType
  have h2 := F.called_set.canCreate
  have h3 := F.typeCall_set_1 (.ref l)
  repeat (any_goals (first | assumption | wp_step))
  refine codeAny_mono (code_set_led1 (.ref l) (E := E) (Q₁ := fun ob s1 => ob = .ref s.heap.objs.size ∧ s1 = { s with heap := s.heap.push (bare w) }) ⟨rfl, rfl⟩) fun r s1 hr => ?_
  cases r with
  | error e => exact hr
  | ok fl =>
    cases fl with
    | ret ob =>
      obtain ⟨rfl, rfl⟩ := hr
      have g0 : (s.heap.push (bare w)).get? s.heap.objs.size = some (bare w) := Heap.get?_push_size _ rfl
      have ty : Shared.TypeIs { s with heap := s.heap.push (bare w) } (.ref s.heap.objs.size) "set" := ⟨_, g0, rfl⟩
      have h4 := F.called_set.init.lookup
      have h5 := F.called_set.init.bind (.ref s.heap.objs.size)
      repeat (any_goals (first | assumption | wp_step))
      refine codeAny_mono (codeAny_call_builtin (R := wants (fun r s2 => r = .none ∧ ∃ h' tk, s2 = { s with heap := h', toks := tk } ∧ J its.size h' ∧ ∀ b o, s.heap.get? b = some o → h'.get? b = some o) E) F.called_set.init.plain F.entry_set_init (check_set_init_1 ty ?_)) fun r2 s2 hr2 => ?_
      · have lt : ∀ {b o}, s.heap.get? b = some o → b < s.heap.objs.size := fun e => Heap.lt_size e
        have nw : ∀ b, s.heap.objs.size ≤ b → s.heap.get? b = none := fun b hb => by
          cases z : s.heap.get? b with
          | none => rfl
          | some o => exact absurd (Nat.lt_of_lt_of_le (lt z) hb) (Nat.lt_irrefl _)
        have hh3 : A.in1.in1.in1.handled = none := by simp [hh]
        have z1 : (s.heap.push (bare w)).objs.size = s.heap.objs.size + 1 := Heap.size_push ..
        have ends : ∀ (s' : Shared), Moved [s.heap.objs.size, (s.heap.push (bare w)).objs.size] (fun a b => b = a) { s with heap := (s.heap.push (bare w)) } s' → J its.size s'.heap →
            ∃ h' tk, s' = { s with heap := h', toks := tk } ∧ J its.size h' ∧ ∀ b o, s.heap.get? b = some o → h'.get? b = some o := fun s' mv j => by
          obtain ⟨h', g', d', tk, os'⟩ := s'
          have e1 : g' = s.gens := mv.gens
          have e2 : d' = s.drawn := mv.drawn
          have e3 : os' = s.os := mv.os
          subst e1 e2 e3
          refine ⟨h', tk, rfl, j, fun b o e => mv.heap b o (fun hb => ?_) (Heap.get?_push_of_some _ e)⟩
          have hb2 := lt e
          simp only [List.mem_cons, List.not_mem_nil, or_false] at hb
          rcases hb with z | z
          · rw [z] at hb2
            exact Nat.lt_irrefl _ hb2
          · rw [z, z1] at hb2
            exact absurd hb2 (Nat.not_lt.mpr (Nat.le_succ _))
        rcases hl with hl | hl
        · obtain ⟨⟨ocls, odict, odata, oslots⟩, hol, hcl, nl, hdl⟩ := hl
          simp only at hcl hdl
          subst hcl hdl
          have hol' := Heap.get?_push_of_some (bare w) hol
          have hl1 : (s.heap.push (bare w)).IsList l its := ⟨_, hol', rfl, nl, rfl⟩
          have h6 := F.sub_list_set
          have h7 := F.sub_list_frozenset
          have h8 : (Value.type "list" == Value.type "dict") = false := by decide
          unfold Builtin.«set.__init__» noKeywords Builtin.Frozenset.updateFrom
          generalize hPI : pyIter = PI
          wp_walk
          subst hPI
          refine wpAny_pyIter_list hl1 (wpAny_bind (wpAny_runValue ?_))
          have hls := lt hol
          refine fill ((Walks.list hh3 _ l (by rw [z1]; exact Nat.ne_of_lt (Nat.lt_succ_of_lt hls)) its).toS) Fi (by rw [z1]; simp only [List.mem_cons, List.not_mem_nil, or_false, not_or]; exact ⟨Nat.ne_of_lt (Nat.lt_succ_self _), (Nat.ne_of_lt hls).symm⟩) (fun b hb => nw b (by rw [List.mem_singleton.mp hb, z1]; exact Nat.le_succ _)) (its.size - 0) 0 _ (by omega) (Nat.zero_le _)
            ⟨⟨_, Heap.get?_push_size _ rfl, rfl, rfl⟩, hl1.push _⟩ (j0 _ (Heap.get?_push_of_some _ g0) fun b o e => Heap.get?_push_of_some _ (Heap.get?_push_of_some _ e)) fun s' mv j => ?_
          refine wpAny_pure ?_
          obtain ⟨h', tk, e1, e2, e3⟩ := ends s' ⟨fun b o hb e => mv.heap b o hb (Heap.get?_push_of_some _ e), mv.gens, mv.drawn, mv.os, mv.toks⟩ j
          exact wpAny_pure ⟨rfl, h', tk, e1, e2, e3⟩
        · obtain ⟨⟨ocls, odict, odata, oslots⟩, hol, hcl, nl, hdl⟩ := hl
          simp only at hcl hdl
          subst hcl hdl
          have hol' := Heap.get?_push_of_some (bare w) hol
          have hl1 : (s.heap.push (bare w)).IsTuple l its := ⟨_, hol', rfl, nl, rfl⟩
          have h6 := F.sub_tuple_set
          have h7 := F.sub_tuple_frozenset
          have h8 : (Value.type "tuple" == Value.type "dict") = false := by decide
          unfold Builtin.«set.__init__» noKeywords Builtin.Frozenset.updateFrom
          generalize hPI : pyIter = PI
          wp_walk
          subst hPI
          refine wpAny_pyIter_tuple hl1 (wpAny_bind (wpAny_runValue ?_))
          have hls := lt hol
          refine fill ((Walks.tuple hh3 _ l (by rw [z1]; exact Nat.ne_of_lt (Nat.lt_succ_of_lt hls)) its).toS) Fi (by rw [z1]; simp only [List.mem_cons, List.not_mem_nil, or_false, not_or]; exact ⟨Nat.ne_of_lt (Nat.lt_succ_self _), (Nat.ne_of_lt hls).symm⟩) (fun b hb => nw b (by rw [List.mem_singleton.mp hb, z1]; exact Nat.le_succ _)) (its.size - 0) 0 _ (by omega) (Nat.zero_le _)
            ⟨⟨_, Heap.get?_push_size _ rfl, rfl, rfl⟩, hl1.push _⟩ (j0 _ (Heap.get?_push_of_some _ g0) fun b o e => Heap.get?_push_of_some _ (Heap.get?_push_of_some _ e)) fun s' mv j => ?_
          refine wpAny_pure ?_
          obtain ⟨h', tk, e1, e2, e3⟩ := ends s' ⟨fun b o hb e => mv.heap b o hb (Heap.get?_push_of_some _ e), mv.gens, mv.drawn, mv.os, mv.toks⟩ j
          exact wpAny_pure ⟨rfl, h', tk, e1, e2, e3⟩
      · cases r2 with
        | error e => exact hr2
        | ok fl2 =>
          cases fl2 with
          | ret r =>
            obtain ⟨rfl, h', tk, rfl, j, kp⟩ := hr2
            repeat (any_goals (first | assumption | wp_step))
            exact q _ _ j kp
          | _ => exact hr2.elim
    | _ => exact hr.elim
end
end SG
namespace SG
open PySem PySem.Spec PyProof.Rows L2
/-! ### how many different ones -/
section
variable {α : Type} [DecidableEq α]
theorem sub_len : ∀ {l r : List α}, l.Nodup → (∀ x ∈ l, x ∈ r) → l.length ≤ r.length
  | [], _, _, _ => Nat.zero_le _
  | x :: l, r, nd, h => by
    have h1 := List.nodup_cons.mp nd
    have hx := h x List.mem_cons_self
    have h2 : ∀ y ∈ l, y ∈ r.erase x := fun y hy => (List.mem_erase_of_ne (a := y) (b := x) fun e => h1.1 (by rw [← e]; exact hy)).mpr (h y (List.mem_cons_of_mem _ hy))
    have h3 := sub_len h1.2 h2
    rw [List.length_erase_of_mem hx] at h3
    have h4 : 0 < r.length := List.length_pos_of_mem hx
    rw [List.length_cons]
    omega
theorem less : ∀ {r : List α}, ¬ r.Nodup → ∃ l : List α, l.length < r.length ∧ ∀ x ∈ r, x ∈ l
  | [], h => absurd List.nodup_nil h
  | x :: r, h => by
    by_cases hx : x ∈ r
    · refine ⟨r, by simp, fun y hy => ?_⟩
      rcases List.mem_cons.mp hy with e | e
      · rw [e]
        exact hx
      · exact e
    · obtain ⟨l, h1, h2⟩ := less fun nd => h (List.nodup_cons.mpr ⟨hx, nd⟩)
      refine ⟨x :: l, by simpa using h1, fun y hy => ?_⟩
      rcases List.mem_cons.mp hy with e | e
      · rw [e]
        exact List.mem_cons_self
      · exact List.mem_cons_of_mem _ (h2 y e)
theorem as_many {l r : List α} (nd : l.Nodup) (h1 : ∀ x ∈ l, x ∈ r) (h2 : ∀ x ∈ r, x ∈ l) : l.length ≤ r.length ∧ (l.length = r.length ↔ r.Nodup) := by
  refine ⟨sub_len nd h1, fun e => ?_, fun nr => Nat.le_antisymm (sub_len nd h1) (sub_len nr h2)⟩
  rcases Classical.em r.Nodup with z | z
  · exact z
  · obtain ⟨l', q1, q2⟩ := less z
    have := sub_len nd fun x hx => q2 x (h1 x hx)
    omega
theorem take_one {l : List α} {i : Nat} {x : α} (h : l[i]? = some x) : l.take (i + 1) = l.take i ++ [x] := by
  rw [List.take_succ, h]
  rfl
end
section
variable {P : Program} {w : World} {A : Around} {E : Value → Shared → Prop} {s : Shared}
/-! ### tuples of texts and ints -/
theorem fills_tup {ks : List (Mem Key)} {its : Array Value} (e : its.toList = ks.map fun m => Value.ref m.1) (hk : ∀ m ∈ ks, IsTupleKey (mixKind P w) s.heap m.2 m.1) (few : ks.length < 64) (hu : A.units < cLine) :
    Fills P w A s.heap.objs.size s.heap its.size (fun i v => its[i]? = some v) fun i h => (∀ b o, s.heap.get? b = some o → h.get? b = some o) ∧
      ∃ M es ep t, TSet (mixKind P w) h s.heap.objs.size M es ep t ∧ (∀ m ∈ M, m ∈ ks.take i) ∧ (∀ m ∈ ks.take i, m.2 ∈ M.map (·.2)) ∧ M.length ≤ i := by
  have nw : s.heap.get? s.heap.objs.size = none := by
    cases z : s.heap.get? s.heap.objs.size with
    | none => rfl
    | some o => exact absurd (Heap.lt_size z) (Nat.lt_irrefl _)
  have up : ∀ {h : Heap} {m : Mem Key}, (∀ b o, s.heap.get? b = some o → h.get? b = some o) → m ∈ ks → IsTupleKey (mixKind P w) h m.2 m.1 := fun {h m} k hm => by
    obtain ⟨o, items, n, g, r⟩ := hk m hm
    exact ⟨o, items, n, k _ _ g, r⟩
  constructor
  · rintro i h h' ⟨k0, M, es, ep, t, S, m1, m2, m3⟩ kp
    have k1 : ∀ b o, s.heap.get? b = some o → h'.get? b = some o := fun b o q => kp b o (.inr ⟨o, q⟩) (k0 b o q)
    obtain ⟨o, g1, g2⟩ := S.obj
    exact ⟨k1, M, es, ep, t, ⟨⟨o, kp _ _ (.inl rfl) g1, g2⟩, S.ent, S.tok, S.uni, fun m hm => up k1 (List.mem_of_mem_take (m1 m hm)), S.led, S.rom, S.few⟩, m1, m2, m3⟩
  · rintro i v s' Q E' lt pv ⟨k0, M, es, ep, t, S, m1, m2, m3⟩ q
    have z : its.toList[i]? = some v := by
      rw [Array.getElem?_toList]
      exact pv
    rw [e, List.getElem?_map] at z
    obtain ⟨m, hm, rfl⟩ : ∃ m, ks[i]? = some m ∧ v = .ref m.1 := by
      cases y : ks[i]? with
      | none =>
        rw [y] at z
        cases z
      | some m =>
        rw [y] at z
        exact ⟨m, rfl, (Option.some.inj z).symm⟩
    have mm := List.mem_of_getElem? hm
    have il : i < ks.length := (List.getElem?_eq_some_iff.mp hm).1
    have hx := up k0 mm
    unfold setAdd
    refine wpAny_holding (wpAny_bind (wpAny_pyHash_tuple hu hx ?_))
    refine more (s := { s' with toks := s'.toks + (m.2.length + 1) }) tame_mix S hx hu (by omega) fun b h' M' es' ep' t' sb S' c1 c2 => ?_
    refine q h' _ (Nat.le_add_right _ _) sb ⟨fun b o g => (sb.2 b fun y => by rw [y, nw] at g; cases g).trans (k0 b o g), M', es', ep', t', S', ?_⟩
    rw [take_one hm]
    by_cases hin : m.2 ∈ M.map (·.2)
    · rw [c1 hin]
      refine ⟨fun n hn => List.mem_append_left _ (m1 n hn), fun n hn => ?_, by omega⟩
      rcases List.mem_append.mp hn with y | y
      · exact m2 n y
      · rw [List.mem_singleton.mp y]
        exact hin
    · have pm := c2 hin
      refine ⟨fun n hn => ?_, fun n hn => ?_, by rw [pm.length_eq, List.length_cons]; omega⟩
      · rcases List.mem_cons.mp (pm.mem_iff.mp hn) with y | y
        · rw [y]
          exact List.mem_append_right _ (List.mem_singleton.mpr rfl)
        · exact List.mem_append_left _ (m1 n y)
      · rw [(pm.map (·.2)).mem_iff, List.map_cons]
        rcases List.mem_append.mp hn with y | y
        · exact List.mem_cons_of_mem _ (m2 n y)
        · rw [List.mem_singleton.mp y]
          exact List.mem_cons_self
theorem fresh_tup {h : Heap} {a : Addr} (g : h.get? a = some (bare w)) : TSet (mixKind P w) h a [] #[] 0 (.fresh 0 0 (!w.params.followText "set-order")) where
  obj := ⟨_, g, ⟨rfl, rfl, rfl⟩, rfl⟩
  ent := rfl
  tok := ⟨List.Pairwise.nil, rfl, rfl, .inl rfl, (fun x hx => nomatch hx), (fun i h j hi => by simp at hi)⟩
  uni := List.nodup_nil
  mem := fun m hm => nomatch hm
  led := by
    show _ ∨ (!w.params.followText "set-order") = true
    cases w.params.followText "set-order"
    · exact .inr rfl
    · exact .inl rfl
  rom := by
    show 0 * 5 < 7 * 3
    decide
  few := by
    show 0 < 64
    decide
/-! ### texts -/
theorem fills_str {xs : List Str} {its : Array Value} (e : ∀ (i : Nat) v, its[i]? = some v → ∃ x t, xs[i]? = some x ∧ v = Value.str x t) (few : xs.length < 64) :
    Fills P w A s.heap.objs.size s.heap its.size (fun i v => its[i]? = some v) fun i h => (∀ b o, s.heap.get? b = some o → h.get? b = some o) ∧
      ∃ (Sf : Str → Bool) (l : List Str), h.SetOf (PySem.strKind P w) s.heap.objs.size Sf l.length ∧ (∀ k, Sf k = true ↔ k ∈ xs.take i) ∧ l.Nodup ∧ (∀ k, k ∈ l ↔ k ∈ xs.take i) ∧ l.length ≤ i := by
  have nw : s.heap.get? s.heap.objs.size = none := by
    cases z : s.heap.get? s.heap.objs.size with
    | none => rfl
    | some o => exact absurd (Heap.lt_size z) (Nat.lt_irrefl _)
  constructor
  · rintro i h h' ⟨k0, Sf, l, ⟨o, es, ep, t, g, r⟩, m⟩ kp
    exact ⟨fun b o q => kp b o (.inr ⟨o, q⟩) (k0 b o q), Sf, l, ⟨o, es, ep, t, kp _ _ (.inl rfl) g, r⟩, m⟩
  · rintro i v s' Q E' lt pv ⟨k0, Sf, l, S, m1, m2, m3, m4⟩ q
    obtain ⟨x, t, hx, rfl⟩ := e i v pv
    have il : i < xs.length := (List.getElem?_eq_some_iff.mp hx).1
    unfold setAdd
    refine wpAny_holding (wpAny_bind ((PySem.strKind P w).pyHash (k := x) (strKind_is _ _ _ _) ?_))
    refine wpAny_setAddHashed_of (knd := PySem.strKind P w) (s := { s' with toks := s'.toks + 1 }) (strKind_is _ _ _ _) rfl S (by unfold scanBound; omega) fun h' sb S' => ?_
    refine q h' _ (Nat.le_add_right _ _) sb ⟨fun b o g => (sb.2 b fun y => by rw [y, nw] at g; cases g).trans (k0 b o g), ?_⟩
    rw [take_one hx]
    have mem : ∀ k, (Sf k || decide (k = x)) = true ↔ k ∈ xs.take i ++ [x] := fun k => by
      rw [Bool.or_eq_true, decide_eq_true_eq, m1, List.mem_append, List.mem_singleton]
    by_cases hin : Sf x = true
    · rw [hin, if_pos rfl] at S'
      refine ⟨_, l, S', mem, m2, fun k => ?_, by omega⟩
      rw [m3, List.mem_append, List.mem_singleton]
      exact ⟨.inl, fun y => y.elim id fun y => by rw [y]; exact (m1 x).mp hin⟩
    · rw [if_neg hin] at S'
      have hn : x ∉ l := fun y => hin ((m1 x).mpr ((m3 x).mp y))
      refine ⟨_, x :: l, S', mem, List.nodup_cons.mpr ⟨hn, m2⟩, fun k => ?_, by rw [List.length_cons]; omega⟩
      rw [List.mem_cons, m3, List.mem_append, List.mem_singleton]
      exact ⟨fun y => y.elim .inr .inl, fun y => y.elim .inr .inl⟩
end
/-! ### len(set(e)) -/
section
variable {X : Cx}
def tLenSetD (K : PySem.W.Frag) (ta : TE) : TE := fun σ H Q => ta σ H fun x H1 => ∃ l : Addr, x = .ref l ∧
  ((∃ xs : List Str, (SqL K H1 l (xs.map V.str) ∨ SqT K H1 l (xs.map V.str)) ∧ xs.length < 64 ∧ ∀ n : Nat, n ≤ xs.length → (n = xs.length ↔ xs.Nodup) → Q (.int n) H1) ∨
  ∃ ks : List (Mem Key), (SqL K H1 l (ks.map fun m => V.ref m.1) ∨ SqT K H1 l (ks.map fun m => V.ref m.1)) ∧ (∀ m ∈ ks, SqT K H1 m.1 (m.2.map kV)) ∧ ks.length < 64 ∧
    ∀ n : Nat, n ≤ ks.length → (n = ks.length ↔ (ks.map (·.2)).Nodup) → Q (.int n) H1)
theorem its_keys {P : Program} {w : World} : ∀ {k : List Key} {us : List Value}, Vals (k.map kV) us → ItemsAre (mixKind P w) k us
  | [], _, .nil => .nil
  | .inl i :: ks, _, .cons r t => by
    obtain ⟨tk, rfl⟩ := r
    exact .cons (mixKind_int P w i tk) (its_keys t)
  | .inr x :: ks, _, .cons r t => by
    obtain ⟨tk, rfl⟩ := r
    exact .cons (mixKind_str P w x tk) (its_keys t)
theorem its_refs : ∀ {ks : List (Mem Key)} {us : List Value}, Vals (ks.map fun m => V.ref m.1) us → us = ks.map fun m => Value.ref m.1
  | [], _, .nil => rfl
  | m :: ks, _, .cons r t => by
    cases r
    rw [its_refs t]
    rfl
theorem its_strs {xs : List Str} {us : List Value} (r : Vals (xs.map V.str) us) (i : Nat) (v : Value) (h : us[i]? = some v) : ∃ x t, xs[i]? = some x ∧ v = Value.str x t := by
  induction xs generalizing us i with
  | nil =>
    cases r
    simp at h
  | cons y ys ih =>
    cases r with
    | cons r t =>
      obtain ⟨tk, rfl⟩ := r
      cases i with
      | zero =>
        simp at h
        exact ⟨y, tk, rfl, h.symm⟩
      | succ i => exact ih t i (by simpa using h)
theorem pe_lenSetD {a : Expr} {ta : TE} {p p2 q pos : Pos} (hc : X.calm = true) (hu : X.A.units + 3 < cLine) (hg : Gl X "len") (hm : X.mg "len" = none) (hg2 : Gl X "set") (hm2 : X.mg "set" = none) (ha : PE X a ta)
    (na : starEach [a] X.env = (false, eval a X.env) :: starEach [] X.env := by rfl) : PE X (.Call (.Name "len" p) [.Call (.Name "set" p2) [a] [] q] [] pos) (tLenSetD X.K ta) := by
  refine ⟨fun pins s σ H Q I h => ?_⟩
  refine Call_ (ld_blt I hg hm boot_len ?_)
  refine PyProof.Rows.callWith_builtin1 (PyProof.Rows.args_cons ?_ rfl) rfl rfl
  refine Call_ (ld_blt I hg2 hm2 boot_set ?_)
  refine PyProof.Rows.callWith_type1 (PyProof.Rows.args_cons (thn (ha.run pins s σ H _ I h) fun v s1 ⟨x, H1, I1, r1, q1⟩ => PyProof.Rows.args_nil ?_) na) na rfl
  obtain ⟨l, rfl, q1⟩ := q1
  cases r1
  have seq : ∀ {vs : List V}, (SqL X.K H1 l vs ∨ SqT X.K H1 l vs) → ∃ its : Array Value, Vals vs its.toList ∧ (s1.heap.IsList l its ∨ s1.heap.IsTuple l its) := fun {vs} hq => by
    rcases hq with hq | hq
    · obtain ⟨its, r, pl, _⟩ := I1.list hq
      exact ⟨its.toArray, by simpa using r, .inl pl.isList⟩
    · obtain ⟨its, r, pl, _⟩ := I1.tuple hq
      exact ⟨its.toArray, by simpa using r, .inr pl⟩
  have fin : ∀ (h' : Heap) (tk : Nat) (o : Obj) (es : Array (Int × Value)) (ep : Nat) (t : SetTable), h'.get? s1.heap.objs.size = some o → o.ExactSet → o.data = .set es ep t → t.fits es.size = true → (es.size : Int) < 2 ^ 63 →
      (∀ b o, s1.heap.get? b = some o → h'.get? b = some o) → Q (.int es.size) H1 →
      wpAny (model X.prog X.w) X.A (spliced (backTo pos (starEach [] X.env))) (fun vs s2 => wpAny (model X.prog X.w) X.A (call (.builtin "len") (Value.ref s1.heap.objs.size :: vs)) (EP X pins σ Q) X.xe s2) X.xe { s1 with heap := h', toks := tk } := fun h' tk o es ep t g1 g2 g3 g4 g5 kp qq => by
    have I2 : Inv X pins σ H1 { s1 with heap := h', toks := tk } := I1.kept fun b o e => kp b o e
    exact PyProof.Rows.args_nil (call_len_set g1 g2 g3 g4 g5 ⟨.int es.size, H1, I2.tok _, ⟨_, rfl⟩, qq⟩)
  rcases q1 with ⟨xs, hq, few, q1⟩ | ⟨ks, hq, hk, few, q1⟩
  · obtain ⟨its, r, hl⟩ := seq hq
    refine make (I1.ok.hd hc) hl (fills_str (xs := xs) (fun i v hv => its_strs r i v (by rw [Array.getElem?_toList]; exact hv)) few)
      (fun h g kp => ⟨kp, fun _ => false, [], ?_, fun k => by simp, List.nodup_nil, fun k => by simp, Nat.le_refl _⟩) fun h' tk ⟨_, Sf, ls, S, _, m2, m3, m4⟩ kp => ?_
    · exact SetOf_congr ((setObjOf_fresh (knd := PySem.strKind X.prog X.w) (!X.w.params.followText "set-order")).setOf g (by unfold scanBound; omega)) (fun _ => rfl) rfl
    · have n : its.size = xs.length := by
        have z := r.length
        rw [List.length_map, Array.length_toList] at z
        exact z.symm
      rw [n, List.take_length] at m3
      obtain ⟨a1, a2⟩ := as_many m2 (fun x hx => (m3 x).mp hx) fun x hx => (m3 x).mpr hx
      obtain ⟨o, es, ep, t, g1, g2, g3, _, _, _, g4, g5⟩ := S
      refine fin h' tk o es ep t g1 g2 g3 g4 (by rw [g5]; omega) kp ?_
      rw [g5]
      exact q1 _ a1 a2
  · obtain ⟨its, r, hl⟩ := seq hq
    have hx : ∀ m ∈ ks, IsTupleKey (mixKind X.prog X.w) s1.heap m.2 m.1 := fun m hm => by
      obtain ⟨us, ru, ⟨o, g1, g2, n, g3⟩, _⟩ := I1.tuple (hk m hm)
      exact ⟨o, _, n, g1, g2, g3, by simpa using its_keys ru⟩
    refine make (I1.ok.hd hc) hl (fills_tup (its_refs r) hx few hu) (fun h g kp => ⟨kp, [], #[], 0, _, fresh_tup g, (fun m hm => nomatch hm), (fun m hm => by simp at hm), Nat.le_refl _⟩) fun h' tk ⟨_, M, es, ep, t, S, m1, m2, m3⟩ kp => ?_
    have n : its.size = ks.length := by
      have z := r.length
      rw [List.length_map, Array.length_toList] at z
      exact z.symm
    rw [n, List.take_length] at m1 m2
    have zz : (M.map (·.2)).length ≤ (ks.map (·.2)).length ∧ ((M.map (·.2)).length = (ks.map (·.2)).length ↔ (ks.map (·.2)).Nodup) := as_many S.uni (fun x hx2 => by
        obtain ⟨m, hm, rfl⟩ := List.mem_map.mp hx2
        exact List.mem_map.mpr ⟨m, m1 m hm, rfl⟩) fun x hx2 => by
        obtain ⟨m, hm, rfl⟩ := List.mem_map.mp hx2
        exact m2 m hm
    rw [List.length_map, List.length_map] at zz
    obtain ⟨o, g1, g2, g3⟩ := S.obj
    have sz := ents_len S.ent
    refine fin h' tk o es ep t g1 g2 g3 (fits_of S.tok sz (by have := S.rom; omega)) (by rw [sz]; have := S.few; omega) kp ?_
    rw [sz]
    exact q1 _ zz.1 zz.2
end
end SG
namespace CC
open PySem L2
/-! ### where pairs lead -/
inductive Rch (ps : List (Nat × Nat)) (a : Nat) : Nat → Prop
  | refl : Rch ps a a
  | step {b c : Nat} : Rch ps a b → (b, c) ∈ ps → Rch ps a c
theorem Rch.trans {ps : List (Nat × Nat)} {a b c : Nat} (h1 : Rch ps a b) (h2 : Rch ps b c) : Rch ps a c := by
  induction h2 with
  | refl => exact h1
  | step _ h ih => exact ih.step h
theorem Rch.mono {ps qs : List (Nat × Nat)} (h : ∀ x ∈ ps, x ∈ qs) {a b : Nat} (r : Rch ps a b) : Rch qs a b := by
  induction r with
  | refl => exact .refl
  | step _ q ih => exact ih.step (h _ q)
theorem Rch.lt {ps : List (Nat × Nat)} {w a b : Nat} (h : ∀ x ∈ ps, x.1 < w ∧ x.2 < w) (ha : a < w) (r : Rch ps a b) : b < w := by
  cases r with
  | refl => exact ha
  | step _ q => exact (h _ q).2
/-- a set that is closed under the pairs holds all that is reached -/
theorem Rch.within {ps : List (Nat × Nat)} {a b : Nat} {S : Nat → Prop} (ha : S a) (hc : ∀ x y, S x → (x, y) ∈ ps → S y) (r : Rch ps a b) : S b := by
  induction r with
  | refl => exact ha
  | step _ q ih => exact hc _ _ ih q
def nms (ns : List Nat) : List V := ns.map fun (n : Nat) => V.int (n : Int)
theorem nms_len (ns : List Nat) : (nms ns).length = ns.length := List.length_map _
theorem nms_app (ns ms : List Nat) : nms (ns ++ ms) = nms ns ++ nms ms := List.map_append
theorem nms_flat (ns : List Nat) : (nms ns).all flatV = true := by
  rw [List.all_eq_true]
  intro v hv
  obtain ⟨n, _, rfl⟩ := List.mem_map.mp hv
  rfl
theorem nms_in (ns : List Nat) (n : Nat) : inV (.int (n : Int)) (nms ns) = decide (n ∈ ns) := by
  induction ns with
  | nil => simp [inV, nms]
  | cons m ns ih =>
    have e : inV (.int (n : Int)) (nms (m :: ns)) = (((m : Int) == (n : Int)) || inV (.int (n : Int)) (nms ns)) := rfl
    rw [e, ih]
    by_cases h : m = n
    · subst h
      simp
    · have h2 : ¬ n = m := fun z => h z.symm
      have h3 : ((m : Int) == (n : Int)) = false := by
        rw [beq_eq_false_iff_ne]
        omega
      rw [h3]
      simp [h2]
theorem few6 {fs : List Nat} (nd : fs.Nodup) (h : ∀ x ∈ fs, x < 6) : fs.length ≤ 6 := by
  have := SG.sub_len (r := List.range 6) nd fun x hx => List.mem_range.mpr (h x hx)
  rw [List.length_range] at this
  exact this
end CC
namespace CC
open PySem L2
abbrev sEvery : Stmt := tp 7
def spEvery (K : PySem.W.Frag) : Sp := fun vs H Q _ => ∃ w : Nat, vs = [.int (w : Int)] ∧ w ≤ 6 ∧ ∀ (p : Addr) (us : List V) (H' : Hp), Same H H' → H p = none → H' p = some (.lst us) → DpAll K (wo H' p) us ((allR w).map R.d) → Q (.ref p) H'
theorem row_step (w a : Nat) (k : Bool) (j : Nat) (hj : j < w) : ((List.range (j + 1)).filter fun b => decide (a ≠ b)) = ((List.range j).filter fun b => decide (a ≠ b)) ++ (if a = j then [] else [j]) := by
  rw [List.range_succ, List.filter_append]
  by_cases h : a = j
  · simp [h]
  · simp [h]
/-- a list of rules that is being made at D -/
def MadeR (K : PySem.W.Frag) (H0 : Hp) (D : Addr) (n : Nat) (H : Hp) (rs : List R) : Prop := ∃ us, Made K (fun H => wo H D) Tr (fun _ _ => True) H0 D n H us (rs.map R.d)
theorem MadeR.up {K : PySem.W.Frag} {H0 H : Hp} {D : Addr} {n m : Nat} {rs rs' : List R} (p : MadeR K H0 D n H rs) (h : n ≤ m) (e : rs = rs') : MadeR K H0 D m H rs' := by
  obtain ⟨us, p⟩ := p
  subst e
  exact ⟨us, p.same, trivial, p.lst, p.dat, trivial, Nat.le_trans p.len h⟩
theorem MadeR.start {K : PySem.W.Frag} {H0 : Hp} {D : Addr} : MadeR K H0 D 0 (upd H0 D (.lst [])) [] := by
  refine ⟨[], ?_, trivial, upd_same, .nil, trivial, Nat.le_refl _⟩
  show Same (wo H0 D) (wo (upd H0 D (.lst [])) D)
  rw [wo_upd]
  exact Same.refl _
theorem MadeR.push {K : PySem.W.Frag} {H0 H H' : Hp} {D : Addr} {n m : Nat} {rs : List R} {r : R} {y : V} (p : MadeR K H0 D n H rs) (h9 : n < 100000) (hm : n < m) (q3 : Same H H') (q1 : Dp K (wo H' D) y r.d) :
    ∃ acc, H' D = some (.lst acc) ∧ acc.length < sizeLine ∧ MadeR K H0 D m (upd H' D (.lst (acc ++ [y]))) (rs ++ [r]) := by
  obtain ⟨us, p⟩ := p
  obtain ⟨acc, a1, a2, us', ds', p'⟩ := madeP_push (j := m) p h9 hm q3 q1 trivial
  refine ⟨acc, a1, a2, us ++ [y], ?_, trivial, ?_, ?_, trivial, ?_⟩
  · show Same (wo H0 D) (wo (upd H' D (.lst (acc ++ [y]))) D)
    rw [wo_upd]
    exact p.same.trans (wo_same q3)
  · have e : some (HO.lst acc) = some (HO.lst us) := a1.symm.trans (q3 _ _ p.lst)
    cases e
    exact upd_same
  · show DpAll K (wo (upd H' D (.lst (acc ++ [y]))) D) _ _
    rw [wo_upd, List.map_append]
    exact dps_app (dps_same (wo_same q3) _ _ p.dat) (dps_one q1)
  · rw [List.length_append]
    exact Nat.le_trans (Nat.succ_le_succ p.len) hm
theorem MadeR.old {K : PySem.W.Frag} {H0 H : Hp} {D : Addr} {n : Nat} {rs : List R} (p : MadeR K H0 D n H rs) (h : H0 D = none) : Same H0 H := by
  obtain ⟨us, p⟩ := p
  exact p.old h
section
variable {P : Program} {w : World} {K : PySem.W.Frag} {mg : Str → Option Value} {base : Heap} {kA : Addr}
/-- a walk over a list, a clause of a comprehension -/
theorem turn_list {a : Addr} {xs : List V} {g : TG} {tt : TT} {vs : List Nat} {b : C3.TB} {σ : L2.St} {N : Hp → Prop} {H1 : Hp} (Pv : Nat → Hp → Prop) (h0 : Pv 0 H1) (hl : ∀ i H, i ≤ xs.length → Pv i H → SqL K H a xs)
    (hs : ∀ i x H, xs[i]? = some x → Pv i H → g x (wipe σ vs) H fun τ H2 => wipe τ vs = wipe σ vs ∧ tt τ H2 fun y H3 => if y = true then b τ H3 (Pv (i + 1)) else Pv (i + 1) H3) (hd : ∀ H, Pv xs.length H → N H) :
    ∃ W : Nat → Nat → Hp → Prop, (∃ m, W 0 m H1) ∧ C3.tTurn (Itl K a) g tt vs b σ W N := by
  refine ⟨fun i m H => m = xs.length - i ∧ i ≤ xs.length ∧ Pv i H, ⟨xs.length, by simp, Nat.zero_le _, h0⟩, ?_⟩
  rintro i m H ⟨rfl, hi, p⟩
  have q := hl i H hi p
  by_cases lt : i < xs.length
  · refine .inr ⟨⟨xs, xs[i], q, by simp [lt]⟩, Pv (i + 1), fun H' p' => ⟨xs.length - (i + 1), by omega, rfl, lt, p'⟩, fun x H' y => ?_⟩
    obtain ⟨e, y⟩ := y
    subst e
    exact hs i x _ (y xs q) p
  · have e : i = xs.length := by omega
    subst e
    exact .inl ⟨⟨xs, q, Nat.le_refl _⟩, hd H p⟩
theorem turn_tup {a : Addr} {xs : List V} {g : TG} {tt : TT} {vs : List Nat} {b : C3.TB} {σ : L2.St} {N : Hp → Prop} {H1 : Hp} (Pv : Nat → Hp → Prop) (h0 : Pv 0 H1) (hl : ∀ i H, i ≤ xs.length → Pv i H → SqT K H a xs)
    (hs : ∀ i x H, xs[i]? = some x → Pv i H → g x (wipe σ vs) H fun τ H2 => wipe τ vs = wipe σ vs ∧ tt τ H2 fun y H3 => if y = true then b τ H3 (Pv (i + 1)) else Pv (i + 1) H3) (hd : ∀ H, Pv xs.length H → N H) :
    ∃ W : Nat → Nat → Hp → Prop, (∃ m, W 0 m H1) ∧ C3.tTurn (Itt K a) g tt vs b σ W N := by
  refine ⟨fun i m H => m = xs.length - i ∧ i ≤ xs.length ∧ Pv i H, ⟨xs.length, by simp, Nat.zero_le _, h0⟩, ?_⟩
  rintro i m H ⟨rfl, hi, p⟩
  have q := hl i H hi p
  by_cases lt : i < xs.length
  · refine .inr ⟨⟨xs, xs[i], q, by simp [lt]⟩, Pv (i + 1), fun H' p' => ⟨xs.length - (i + 1), by omega, rfl, lt, p'⟩, fun x H' y => ?_⟩
    obtain ⟨e, y⟩ := y
    subst e
    exact hs i x _ (y xs q) p
  · have e : i = xs.length := by omega
    subst e
    exact .inl ⟨⟨xs, q, Nat.le_refl _⟩, hd H p⟩
theorem scEvery : FnScope ["width", "columns", "kind", "a", "b"] ["width"] (defScope sEvery) := ⟨rfl, rfl, rfl, by decide +kernel, rfl, by decide +kernel, by decide +kernel⟩
theorem ok_every {f : Addr} {fd : FuncData} {k : Nat} (F : Fun K "every_rule" "every_rule" sEvery f fd) (T : Glb K mg kA) : FnOk P w K mg base CX0 (k + 1) f fd ["width"] (spEvery K) := by
  refine F.ok scEvery (fun vs H Q E h => ?_) (fun cdv A outer s H vs Q E hr h => ?_)
  · obtain ⟨z, rfl, _⟩ := h
    rfl
  · obtain ⟨z, rfl, hz, q⟩ := h
    have nd := scEvery.nd
    refine ⟨_, pss_cons (ps_set (i := 1) nd rfl (.inr rfl) (pe_listRg rfl (by rfl) T.lst (prg_1 (by rfl) T.rng (pv 0))))
      (pss_one (ps_ret (C3.pe_lc3 (own := [("kind", 2), ("a", 3), ("b", 4)]) (v1 := [3, 4]) (v2 := [4]) (w1 := iList K (tVar 1)) (w2 := iList K (tVar 1)) rfl nd (pi_tup (pe_glob (v := .ref kA) rfl T.knd rfl)) (blkOk_by (N := ["width", "columns", "kind", "a", "b"]) (sc := defScope sEvery) (by decide +kernel)) (by decide) (by decide)
        (fun _ _ _ _ _ => pg_name (i := 2) nd rfl (.inl rfl)) (fun _ _ _ _ _ => pts_nil)
        (fun _ _ _ _ _ => pi_list (pv 1)) (fun _ _ _ _ _ => pg_name (i := 3) nd rfl (.inl rfl)) (fun _ _ _ _ _ => pts_nil)
        (fun _ _ _ _ _ => pi_list (pv 1)) (fun _ _ _ _ _ => pg_name (i := 4) nd rfl (.inl rfl)) (fun _ _ _ _ _ => pts_one (pt_cmpR op_ne (pv 3) (pv 4) (nomark _)))
        (fun _ _ _ _ _ => pe_tup (pa_cons (pv 2) (pa_cons (pv 3) (pa_cons (pv 4) pa_nil))))))), ?_⟩
    have hk : ∀ H, SqT K H kA [.str "settles", .str "within"] := fun H => .inr T.kseq
    refine ⟨_, rfl, _, rfl, RgOk.of_le (by omega) (by omega) (by omega) (by omega), fun c nc => ?_⟩
    rw [cols_rg]
    have cC : ∀ {H' : Hp}, Same (upd H c (.lst (cols z))) H' → SqL K H' c (cols z) := fun e => .inl (.inl (e _ _ upd_same))
    generalize hH1 : upd H c (.lst (cols z)) = H1 at cC
    have s1 : Same H H1 := by
      rw [← hH1]
      exact same_new nc
    refine ⟨kA, rfl, ⟨_, hk _⟩, fun D nD => ?_⟩
    refine turn_tup (xs := [.str "settles", .str "within"]) (fun i H => MadeR K H1 D (36 * i) H (([true, false].take i).flatMap fun k => (List.range z).flatMap fun a => row z a k)) MadeR.start (fun _ _ _ _ => hk _) ?_ ?_
    · intro i x H2 hx p
      obtain ⟨kk, rfl, hi, tk⟩ : ∃ kk : Bool, x = .str (kd kk) ∧ i < 2 ∧ [true, false].take (i + 1) = [true, false].take i ++ [kk] := by
        match i, hx with
        | 0, hx =>
          simp at hx
          exact ⟨true, hx.symm, by decide, rfl⟩
        | 1, hx =>
          simp at hx
          exact ⟨false, hx.symm, by decide, rfl⟩
        | n + 2, hx => simp at hx
      rw [tk, List.flatMap_append]
      generalize ([true, false].take i).flatMap (fun k => (List.range z).flatMap fun a => row z a k) = pre at p
      refine ⟨rfl, ?_⟩
      refine yes_if ?_
      refine ⟨_, rfl, c, rfl, ⟨_, cC (p.old nD)⟩, ?_⟩
      refine turn_list (xs := cols z) (fun j H => MadeR K H1 D (36 * i + 6 * j) H (pre ++ (List.range j).flatMap fun a => row z a kk)) (p.up (by omega) (by simp)) (fun _ _ _ p => cC (p.old nD)) ?_ ?_
      · intro j y H3 hy p3
        obtain ⟨hj, rfl⟩ := cols_at hy
        refine ⟨rfl, ?_⟩
        refine yes_if ?_
        refine ⟨_, rfl, c, rfl, ⟨_, cC (p3.old nD)⟩, ?_⟩
        refine turn_list (xs := cols z) (fun l H => MadeR K H1 D (36 * i + 6 * j + l) H ((pre ++ (List.range j).flatMap fun a => row z a kk) ++ (((List.range l).filter fun b => decide (j ≠ b)).map fun b => ⟨kk, j, b⟩))) (p3.up (by omega) (by simp)) (fun _ _ _ p => cC (p.old nD)) ?_ ?_
        · intro l v H4 hv p4
          obtain ⟨hl, rfl⟩ := cols_at hv
          refine ⟨rfl, _, rfl, _, rfl, rfl, _, rfl, ?_⟩
          rw [row_step z j kk l hl, List.map_append, ← List.append_assoc]
          by_cases e : j = l
          · have e1 : (!decide (V.int (j : Int) = V.int (l : Int))) = false := by rw [e]; simp
            rw [e1]
            refine iteF (p4.up (by omega) ?_)
            rw [if_pos e]
            simp
          · have e1 : (!decide (V.int (j : Int) = V.int (l : Int))) = true := by
              rw [decide_eq_false (fun q => e (by injection q with q; omega))]
              rfl
            rw [e1, if_neg e]
            refine iteT ⟨_, rfl, _, rfl, _, rfl, (by show 3 ≤ sizeLine; decide), fun t nt => ?_⟩
            obtain ⟨us, p5⟩ := id p4
            exact p4.push (by omega) (by omega) (same_new nt) (r_dp (r := ⟨kk, j, l⟩) (tup_new p5.lst nt))
        · intro H4 p4
          rw [cols_len] at p4
          refine p4.up (by omega) ?_
          rw [List.range_succ, List.flatMap_append]
          simp [row]
      · intro H3 p3
        rw [cols_len] at p3
        refine p3.up (by omega) (by simp)
    · intro H2 p
      obtain ⟨us, p5⟩ := id p
      exact q D us H2 (s1.trans (p.old nD)) (by
        cases z0 : H D with
        | none => rfl
        | some o =>
          rw [s1 _ _ z0] at nD
          cases nD) p5.lst p5.dat
end
end CC
namespace CC
open PySem L2 TL
def num (n : Nat) : Str := Str.ofString (toString (n : Int))
theorem tl_app (a b : Str) : tl (a ++ b) = tl a ++ tl b := tl_append a b
end CC
namespace CC
open PySem L2 TL
/-! ### lines -/
abbrev sLine : Stmt := tp 23
def lineS (r : R) : Str := Str.empty ++ num r.a ++ " " ++ kd r.k ++ " " ++ num r.b
def textS (rs : List R) : Str := Txt.join "" (rs.map fun r => lineS r ++ "\n")
theorem lines_nodup : ((allR 6).map lineS).Nodup := by decide +kernel
theorem mem_row {w a : Nat} {k : Bool} {r : R} : r ∈ row w a k ↔ r.k = k ∧ r.a = a ∧ r.b < w ∧ a ≠ r.b := by
  obtain ⟨k', a', b'⟩ := r
  simp only [row, List.mem_map, List.mem_filter, List.mem_range, decide_eq_true_eq, R.mk.injEq]
  constructor
  · rintro ⟨b, ⟨h1, h2⟩, rfl, rfl, rfl⟩
    exact ⟨rfl, rfl, h1, h2⟩
  · rintro ⟨rfl, rfl, h1, h2⟩
    exact ⟨b', ⟨h1, h2⟩, rfl, rfl, rfl⟩
theorem mem_allR {w : Nat} {r : R} : r ∈ allR w ↔ r.ok w := by
  simp only [allR, List.mem_flatMap, List.mem_range, mem_row, R.ok, List.mem_cons, List.not_mem_nil, or_false]
  constructor
  · rintro ⟨k, _, a, h1, rfl, rfl, h2, h3⟩
    exact ⟨h1, h2, h3⟩
  · rintro ⟨h1, h2, h3⟩
    refine ⟨r.k, ?_, r.a, h1, rfl, rfl, h2, h3⟩
    cases r.k
    · exact .inr rfl
    · exact .inl rfl
theorem R.ok.up {w : Nat} {r : R} (h : r.ok w) (hw : w ≤ 6) : r.ok 6 := ⟨Nat.lt_of_lt_of_le h.1 hw, Nat.lt_of_lt_of_le h.2.1 hw, h.2.2⟩
theorem inj_of {α β : Type} {f : α → β} : ∀ {l : List α}, (l.map f).Nodup → ∀ {x y : α}, x ∈ l → y ∈ l → f x = f y → x = y
  | [], _, _, _, h, _, _ => nomatch h
  | z :: l, nd, x, y, hx, hy, e => by
    rw [List.map_cons, List.nodup_cons] at nd
    rcases List.mem_cons.mp hx with e1 | h1
    · rcases List.mem_cons.mp hy with e2 | h2
      · rw [e1, e2]
      · exact absurd (List.mem_map.mpr ⟨y, h2, by rw [← e, e1]⟩) nd.1
    · rcases List.mem_cons.mp hy with e2 | h2
      · exact absurd (List.mem_map.mpr ⟨x, h1, by rw [e, e2]⟩) nd.1
      · exact inj_of nd.2 h1 h2 e
theorem line_inj {r s : R} (hr : r.ok 6) (hs : s.ok 6) (e : lineS r = lineS s) : r = s := inj_of lines_nodup (mem_allR.mpr hr) (mem_allR.mpr hs) e
theorem lines_all : ((allR 6).all fun r => (lineS r).length ≤ 20 && !(tl (lineS r)).contains 10) = true := by decide +kernel
theorem line_of6 {r : R} (hr : r.ok 6) : (lineS r).length ≤ 20 ∧ 10 ∉ tl (lineS r) := by
  have h := List.all_eq_true.mp lines_all r (mem_allR.mpr hr)
  simp only [Bool.and_eq_true, decide_eq_true_eq, Bool.not_eq_true'] at h
  refine ⟨h.1, fun z => ?_⟩
  have := List.contains_iff_mem.mpr z
  rw [h.2] at this
  cases this
theorem allR_nodup {w : Nat} (hw : w ≤ 6) : (allR w).Nodup := by
  have h : ∀ w : Fin 7, (allR w.1).Nodup := by decide +kernel
  exact h ⟨w, by omega⟩
/-- a text of lines, and its lines -/
theorem tl_text : ∀ rs : List R, tl (textS rs) = (rs.map fun r => tl (lineS r) ++ [10]).flatten
  | [] => by decide +kernel
  | r :: rs => by
    unfold textS
    rw [join_eq, tl_join]
    have e : ∀ l : List (List Nat), joinL (tl ("" : Str)) l = l.flatten := by
      intro l
      rw [show tl ("" : Str) = [] by decide +kernel]
      induction l with
      | nil => rfl
      | cons x l ih =>
        cases l with
        | nil => simp [joinL]
        | cons y l =>
          show x ++ ([] ++ joinL [] (y :: l)) = _
          rw [ih, List.nil_append]
          simp
    rw [e, List.map_map]
    congr 1
    refine List.map_congr_left fun r _ => ?_
    show tl (lineS r ++ "\n") = _
    rw [tl_app, show tl ("\n" : Str) = [10] by decide +kernel]
theorem split_text {rs : List R} (h : ∀ r ∈ rs, r.ok 6) : Txt.split (textS rs) "\n" = rs.map lineS ++ [Str.empty] := by
  have e : textS rs = Txt.join "\n" (rs.map lineS ++ [Str.empty]) := by
    refine ext_tl ?_
    show tl (textS rs) = tl (Txt.join "\n" (rs.map lineS ++ [Str.empty]))
    rw [tl_text, join_eq, tl_join, show tl ("\n" : Str) = [10] by decide +kernel]
    induction rs with
    | nil => decide +kernel
    | cons r rs ih =>
      rw [List.map_cons, List.flatten_cons, ih fun s hs => h s (List.mem_cons_of_mem _ hs)]
      cases rs with
      | nil =>
        show tl (lineS r) ++ [10] ++ joinL [10] [tl Str.empty] = joinL [10] [tl (lineS r), tl Str.empty]
        show tl (lineS r) ++ [10] ++ tl Str.empty = tl (lineS r) ++ ([10] ++ tl Str.empty)
        rw [List.append_assoc]
      | cons s rs =>
        show tl (lineS r) ++ [10] ++ _ = tl (lineS r) ++ ([10] ++ _)
        rw [List.append_assoc]
        rfl
  rw [e]
  refine split_join (s := 10) (S := []) (by decide +kernel) (by decide +kernel) (by simp) fun p hp => ?_
  rcases List.mem_append.mp hp with z | z
  · obtain ⟨r, hr, rfl⟩ := List.mem_map.mp z
    exact (line_of6 (h r hr)).2
  · rw [List.mem_singleton.mp z]
    decide +kernel
theorem text_len {rs : List R} (h : ∀ r ∈ rs, r.ok 6) : (textS rs).length ≤ 21 * rs.length := by
  rw [len_tl, tl_text]
  induction rs with
  | nil => simp
  | cons r rs ih =>
    have h1 := (line_of6 (h r List.mem_cons_self)).1
    rw [len_tl] at h1
    have h2 : (tl (lineS r)).length ≤ 20 := h1
    have h3 := ih fun s hs => h s (List.mem_cons_of_mem _ hs)
    simp only [List.map_cons, List.flatten_cons, List.length_append, List.length_cons, List.length_nil]
    omega
def spLine (K : PySem.W.Frag) : Sp := fun vs H Q _ => ∃ (v : V) (r : R), vs = [v] ∧ Dp K H v r.d ∧ r.ok 6 ∧ Q (.str (lineS r)) H
section
variable {P : Program} {w : World} {K : PySem.W.Frag} {mg : Str → Option Value} {base : Heap} {kA : Addr}
theorem scLine : FnScope ["rule", "kind", "first", "second"] ["rule"] (defScope sLine) := ⟨rfl, rfl, rfl, by decide +kernel, rfl, by decide +kernel, by decide +kernel⟩
theorem small6 {n : Nat} (h : n < 6) : (n : Int).natAbs.log2 < 1920 := by
  have : ∀ n : Fin 6, ((n.1 : Nat) : Int).natAbs.log2 < 1920 := by decide +kernel
  exact this ⟨n, h⟩
theorem lens_all : ((allR 6).all fun r => decide ((Str.empty ++ num r.a).length ≤ 20) && decide ((Str.empty ++ num r.a ++ " ").length ≤ 20) && decide ((Str.empty ++ num r.a ++ " " ++ kd r.k).length ≤ 20) && decide ((Str.empty ++ num r.a ++ " " ++ kd r.k ++ " ").length ≤ 20)) = true := by decide +kernel
theorem ok_line {f : Addr} {fd : FuncData} {k : Nat} (F : Fun K "line_of" "line_of" sLine f fd) : FnOk P w K mg base CX0 (k + 1) f fd ["rule"] (spLine K) := by
  refine F.ok scLine (fun vs H Q E h => ?_) (fun cdv A outer s H vs Q E hr h => ?_)
  · obtain ⟨v, r, rfl, _⟩ := h
    rfl
  · obtain ⟨v, r, rfl, hd, ho, q⟩ := h
    obtain ⟨p, rfl, hp⟩ := dp_r hd
    have nd := scLine.nd
    refine ⟨_, pss_cons (ps_asg (pv 0) (pg_tup rfl (pgs_cons (pg_name (i := 1) nd rfl (.inl rfl)) (pgs_cons (pg_name (i := 2) nd rfl (.inl rfl)) (pgs_cons (pg_name (i := 3) nd rfl (.inl rfl)) pgs_nil)))))
      (pss_one (ps_ret (pe_joined (.cons (pe_fmt (pv 2)) (.cons pe_str (.cons (pe_fmt (pv 1)) (.cons pe_str (.cons (pe_fmt (pv 3)) .nil)))))))), ?_⟩
    have hl := List.all_eq_true.mp lens_all r (mem_allR.mpr ho)
    simp only [Bool.and_eq_true, decide_eq_true_eq] at hl
    obtain ⟨⟨⟨l1, l2⟩, l3⟩, l4⟩ := hl
    have l5 := (line_of6 ho).1
    have big : ∀ {n : Nat}, n ≤ 20 → n ≤ sizeLine := fun h => Nat.le_trans h (by decide)
    have lk : (kd r.k).length ≤ sizeLine := by cases r.k <;> decide +kernel
    refine ⟨_, rfl, p, _, rfl, hp, rfl, _, _, rfl, _, _, rfl, _, _, rfl, rfl, ?_⟩
    exact ⟨_, rfl, .inr ⟨_, rfl, small6 ho.1, _, rfl, big l1, _, rfl, big l2, _, rfl, .inl ⟨_, rfl, lk, _, rfl, big l3, _, rfl, big l4, _, rfl, .inr ⟨_, rfl, small6 ho.2.1, _, rfl, big l5, q⟩⟩⟩⟩
end
end CC
namespace CC
open PySem L2 TL
/-! ### lines by their rules: the dict -/
def prs (rs : List R) (us : List V) : List (Key × V) := List.zipWith (fun (r : R) (v : V) => ((Sum.inr (lineS r) : Key), v)) rs us
theorem prs_get {K : PySem.W.Frag} {H : Hp} : ∀ {rs : List R} {us : List V}, (∀ r ∈ rs, r.ok 6) → DpAll K H us (rs.map R.d) → ∀ {r : R}, r ∈ rs → ∃ v, valV (prs rs us) (Sum.inr (lineS r)) = some v ∧ Dp K H v r.d
  | [], _, _, _, _, h => nomatch h
  | s :: rs, _, ho, .cons (v := v) (vs := vs) h1 h2, r, hr => by
    by_cases e : s = r
    · subst e
      exact ⟨v, valV_pos rfl, h1⟩
    · have ne : ¬ (Sum.inr (lineS s) : Key) = Sum.inr (lineS r) := fun z => e (line_inj (ho s List.mem_cons_self) (ho r hr) (Sum.inr.inj z))
      have hr' : r ∈ rs := by
        rcases List.mem_cons.mp hr with z | z
        · exact absurd z.symm e
        · exact z
      obtain ⟨u, u1, u2⟩ := prs_get (fun x hx => ho x (List.mem_cons_of_mem _ hx)) h2 hr'
      exact ⟨u, (valV_neg (p := (Sum.inr (lineS s), v)) ne).trans u1, u2⟩
theorem val_none {kvs : List (Key × V)} {k : Key} (h : ∀ p ∈ kvs, p.1 ≠ k) : valV kvs k = none := by
  induction kvs with
  | nil => rfl
  | cons p r ih => rw [valV_neg (h p List.mem_cons_self)]; exact ih fun q hq => h q (List.mem_cons_of_mem _ hq)
theorem prs_len {rs : List R} {us : List V} (h : us.length = rs.length) : (prs rs us).length = rs.length := by
  rw [prs, List.length_zipWith, h, Nat.min_self]
theorem prs_step {rs : List R} {us : List V} {i : Nat} {r : R} {v : V} (hr : rs[i]? = some r) (hv : us[i]? = some v) : (prs rs us).take (i + 1) = (prs rs us).take i ++ [(Sum.inr (lineS r), v)] := by
  rw [List.take_succ]
  have : (prs rs us)[i]? = some (Sum.inr (lineS r), v) := by
    rw [prs, List.getElem?_zipWith, hr, hv]
  rw [this]
  rfl
theorem prs_new {rs : List R} {us : List V} {i : Nat} {r : R} (ho : ∀ r ∈ rs, r.ok 6) (nd : rs.Nodup) (hr : rs[i]? = some r) : valV ((prs rs us).take i) (Sum.inr (lineS r)) = none := by
  refine val_none fun p hp e => ?_
  obtain ⟨j, hj⟩ := List.mem_iff_getElem?.mp hp
  have hji : j < i := by
    have := (List.getElem?_eq_some_iff.mp hj).1
    rw [List.length_take] at this
    omega
  rw [List.getElem?_take_of_lt hji, prs, List.getElem?_zipWith] at hj
  cases hs : rs[j]? with
  | none => rw [hs] at hj; cases us[j]? <;> cases hj
  | some s =>
    cases hu : us[j]? with
    | none => rw [hs, hu] at hj; cases hj
    | some u =>
      rw [hs, hu] at hj
      cases hj
      have e2 := line_inj (ho s (List.mem_of_getElem? hs)) (ho r (List.mem_of_getElem? hr)) (Sum.inr.inj e)
      subst e2
      exact absurd (nd_ix nd hs hr) (by omega)
theorem cut_last (xs : List V) (x : V) : cutV (xs ++ [x]) none (some (-1)) = xs := by
  unfold cutV
  have e : HT.sIx (xs ++ [x]).length (xs ++ [x]).length (some (-1)) = xs.length := by
    have := HT.clip_eq (-1) (xs ++ [x]).length (xs ++ [x]).length
    rw [if_pos (by decide)] at this
    have hl : (xs ++ [x]).length = xs.length + 1 := by simp
    omega
  rw [HT.sIx_none, e]
  simp
/-- a dict comprehension over a list -/
theorem dc_list {K : PySem.W.Frag} {a : Addr} {xs : List V} {g : TG} {tt : TT} {tk tv : TE} {vs : List Nat} {σ : L2.St} {H1 : Hp} {D : Addr} {N : Hp → Prop} (Pv : Nat → Hp → Prop) (h0 : Pv 0 (upd H1 D (.dK []))) (hl : ∀ i H, i ≤ xs.length → Pv i H → SqL K H a xs)
    (hs : ∀ i x H, xs[i]? = some x → Pv i H → g x (wipe σ vs) H fun τ H2 => wipe τ vs = wipe σ vs ∧ tt τ H2 fun b H3 => if b = true then tk τ H3 fun y H4 => tv τ H4 fun z H5 => ∃ kvs k, y = kV k ∧ H5 D = some (.dK kvs) ∧ kvs.length < sizeLine ∧ Pv (i + 1) (upd H5 D (.dK (putK kvs k z))) else Pv (i + 1) H3)
    (hd : ∀ H, Pv xs.length H → N H) :
    ∃ W : Nat → Nat → Hp → Prop, (∃ m, W 0 m (upd H1 D (.dK []))) ∧ ∀ i m H, W i m H → ((Itl K a).stop i H ∧ N H) ∨ ((Itl K a).go i H ∧ ∃ Nx : Hp → Prop, (∀ H', Nx H' → ∃ m', m' < m ∧ W (i + 1) m' H') ∧ ∀ x H', (Itl K a).yld i H x H' →
      g x (wipe σ vs) H' fun τ H2 => wipe τ vs = wipe σ vs ∧ tt τ H2 fun b H3 => if b = true then tk τ H3 fun y H4 => tv τ H4 fun z H5 => ∃ kvs k, y = kV k ∧ H5 D = some (.dK kvs) ∧ kvs.length < sizeLine ∧ Nx (upd H5 D (.dK (putK kvs k z))) else Nx H3) := by
  refine ⟨fun i m H => m = xs.length - i ∧ i ≤ xs.length ∧ Pv i H, ⟨xs.length, by simp, Nat.zero_le _, h0⟩, ?_⟩
  rintro i m H ⟨rfl, hi, p⟩
  have q := hl i H hi p
  by_cases lt : i < xs.length
  · refine .inr ⟨⟨xs, xs[i], q, by simp [lt]⟩, Pv (i + 1), fun H' p' => ⟨xs.length - (i + 1), by omega, rfl, lt, p'⟩, fun x H' y => ?_⟩
    obtain ⟨e, y⟩ := y
    subst e
    exact hs i x _ (y xs q) p
  · have e : i = xs.length := by omega
    subst e
    exact .inl ⟨⟨xs, q, Nat.le_refl _⟩, hd H p⟩
abbrev sRulesOf : Stmt := tp 24
def spRulesOf (K : PySem.W.Frag) : Sp := fun vs H Q _ => ∃ (w : Nat) (rs : List R), vs = [.int (w : Int), .str (textS rs)] ∧ w ≤ 6 ∧ (∀ r ∈ rs, r.ok w) ∧ rs.Nodup ∧
  ∀ (p : Addr) (us : List V) (H' : Hp), Same H H' → H p = none → H' p = some (.lst us) → DpAll K (wo H' p) us (rs.map R.d) → Q (.ref p) H'
theorem few_rules {w : Nat} {rs : List R} (hw : w ≤ 6) (ho : ∀ r ∈ rs, r.ok w) (nd : rs.Nodup) : rs.length ≤ 60 := by
  have h := SG.sub_len nd fun r hr => mem_allR.mpr ((ho r hr).up hw)
  have e : (allR 6).length = 60 := by decide +kernel
  omega
section
variable {P : Program} {w : World} {K : PySem.W.Frag} {mg : Str → Option Value} {base : Heap} {kA : Addr}
abbrev nRO : List Str := ["width", "text", "known", "parts", "lines", "rule", "line"]
theorem scRulesOf : FnScope nRO ["width", "text"] (defScope sRulesOf) := ⟨rfl, rfl, rfl, by decide +kernel, rfl, by decide +kernel, by decide +kernel⟩
theorem ok_rulesof {f : Addr} {fd : FuncData} {k : Nat} (F : Fun K "rules_of" "rules_of" sRulesOf f fd) (T : Glb K mg kA) (cE : Cal P w K mg base "every_rule" ["width"] (spEvery K) 1)
 (cL : Cal P w K mg base "line_of" ["rule"] (spLine K) 1) : FnOk P w K mg base CX0 (k + 2) f fd ["width", "text"] (spRulesOf K) := by
  have GE := cE.ok (k + 1) (by omega)
  have GL := cL.ok (k + 1) (by omega)
  refine F.ok scRulesOf (fun vs H Q E h => ?_) (fun cdv A outer s H vs Q E hr h => ?_)
  · obtain ⟨w, rs, rfl, _⟩ := h
    rfl
  · obtain ⟨w, rs, rfl, hw, ho, nd, q⟩ := h
    have hu := hu_of hr
    have hu3 := Nat.lt_of_le_of_lt (Nat.add_le_add_left (by decide : 3 ≤ 64) _) hr.units
    have n := scRulesOf.nd
    have ho6 : ∀ r ∈ rs, r.ok 6 := fun r h => (ho r h).up hw
    refine ⟨_, pss_cons (ps_set (i := 2) n rfl (.inr rfl) (pe_dc (own := [("rule", 5)]) (g := gName 5) (tt := tYes) rfl n (pi_list (pe_call GE hr rfl cE.g cE.kp cE.b .nil pass0 (pa_cons (pv 0) pa_nil))) (blkOk_by (N := nRO) (sc := defScope sRulesOf) (by decide +kernel))
          (fun _ _ _ _ _ => pg_name (i := 5) n rfl (.inl rfl)) (fun _ _ _ _ _ => pts_nil) (fun _ _ _ _ _ => pe_call GL hr rfl cL.g cL.kp cL.b .nil pass0 (pa_cons (pv 5) pa_nil)) (fun _ _ _ _ _ => pv 5)))
      (pss_cons (ps_set (i := 3) n rfl (.inl rfl) (pe_split (pv 1) pe_str))
      (pss_cons (ps_set (i := 4) n rfl (.inl rfl) (pe_slice sl_list (pv 3) po_none (po_some (pe_un un_neg pe_int))))
      (pss_cons (ps_if (PW.pt (pw_or (pt_cmpR op_ne (pe_ix ix_list (pv 3) (pe_un un_neg pe_int) (fun _ _ => rfl)) pe_str (nomark _))
          (pw_or1 (pt_cmpR op_ne (SG.pe_lenSetD rfl hu3 (by rfl) T.len (by rfl) T.set (pv 4)) (pe_callB call_len_seq (by rfl) T.len PySem.boot_len (pa_cons (pv 4) pa_nil)) (nomark _))))) (pss_one (ps_ret pe_non)) pss_nil)
      (pss_cons (ps_if (pt_not (pt_val (pe_callB (cr_all rfl) (by rfl) T.all (by decide +kernel) (pa_cons (pe_lc (own := [("line", 6)]) (g := gName 6) (tt := tYes) rfl n (pi_list (pv 4)) (blkOk_by (N := nRO) (sc := defScope sRulesOf) (by decide +kernel))
          (fun _ _ _ _ _ => pg_name (i := 6) n rfl (.inl rfl)) (fun _ _ _ _ _ => pts_nil) (fun _ _ _ _ _ => pe_cmp (pc_din hu (pv 6) (pv 2)) rfl)) pa_nil)))) (pss_one (ps_ret pe_non)) pss_nil)
      (pss_one (ps_ret (pe_lc (own := [("line", 6)]) (g := gName 6) (tt := tYes) rfl n (pi_list (pv 4)) (blkOk_by (N := nRO) (sc := defScope sRulesOf) (by decide +kernel))
          (fun _ _ _ _ _ => pg_name (i := 6) n rfl (.inl rfl)) (fun _ _ _ _ _ => pts_nil) (fun _ _ _ _ _ => pe_dget hu (pv 2) (pv 6) (fun _ _ => rfl))))))))), ?_⟩
    refine ⟨_, rfl, w, rfl, hw, fun p us H1 s1 np hp dp => ⟨p, rfl, ⟨_, SqL.of hp⟩, fun D nD => ?_⟩⟩
    have dp1 : DpAll K H1 us ((allR w).map R.d) := dps_same (wo_le p) _ _ dp
    have ulen : us.length = (allR w).length := by rw [dps_len dp1, List.length_map]
    have oka : ∀ r ∈ allR w, r.ok 6 := fun r h => (mem_allR.mp h).up hw
    have nda := allR_nodup hw
    have few : (allR w).length ≤ 60 := few_rules hw (fun r h => mem_allR.mp h) nda
    have pD : p ≠ D := ne_of_none hp nD
    refine dc_list (xs := us) (fun i H => Same H1 (wo H D) ∧ H D = some (.dK ((prs (allR w) us).take i))) ⟨?_, upd_same⟩ (fun i H _ z => SqL.of (wo_le D _ _ (z.1 _ _ hp))) ?_ ?_
    · rw [wo_upd]
      exact fun b o e => by rw [wo_ne (ne_of_none e nD)]; exact e
    · rintro i v H2 hv ⟨e1, e2⟩
      obtain ⟨r, hr2, dr⟩ := dps_rat dp1 hv
      refine ⟨rfl, yes_if ?_⟩
      refine ⟨_, rfl, v, r, rfl, dp_same (e1.trans (wo_le D)) _ _ dr, oka r (List.mem_of_getElem? hr2), _, rfl, _, Sum.inr (lineS r), rfl, e2, ?_, ?_, ?_⟩
      · rw [List.length_take]
        exact Nat.lt_of_le_of_lt (Nat.min_le_right _ _) (by rw [prs_len ulen]; exact small1000 (by omega))
      · rw [wo_upd]
        exact e1
      · rw [upd_same, putK_new _ (prs_new oka nda hr2), prs_step hr2 hv]
    rintro H2 ⟨e1, e2⟩
    rw [List.take_of_length_le (by rw [prs_len ulen, ulen]; exact Nat.le_refl _)] at e2
    have dp2 : DpAll K (wo H2 D) us ((allR w).map R.d) := dps_same e1 _ _ dp1
    -- parts
    have tlen := text_len ho6
    have rlen := few_rules hw ho nd
    refine ⟨_, rfl, ⟨_, rfl⟩, _, _, rfl, rfl, by decide +kernel, Nat.le_trans (show (textS rs).length + 2 ≤ 100000 by omega) (by decide), fun p3 n3 => ?_⟩
    rw [split_text ho6, List.map_append]
    have m3 : Same H2 (upd H2 p3 (.lst ((rs.map lineS).map V.str ++ [Str.empty].map V.str))) := same_new n3
    have h3 : (upd H2 p3 (.lst ((rs.map lineS).map V.str ++ [Str.empty].map V.str))) p3 = some (.lst ((rs.map lineS).map V.str ++ [V.str Str.empty])) := upd_same
    generalize upd H2 p3 (.lst ((rs.map lineS).map V.str ++ [Str.empty].map V.str)) = H3 at m3 h3
    -- lines
    refine ⟨_, rfl, _, rfl, _, rfl, p3, _, rfl, SqL.of h3, fun p4 n4 => ?_⟩
    have e4 : cutV ((rs.map lineS).map V.str ++ [V.str Str.empty]) none (some (-1)) = (rs.map lineS).map V.str := cut_last _ _
    rw [e4]
    have m4 : Same H3 (upd H3 p4 (.lst ((rs.map lineS).map V.str))) := same_new n4
    have h4 : (upd H3 p4 (.lst ((rs.map lineS).map V.str))) p4 = some (.lst ((rs.map lineS).map V.str)) := upd_same
    generalize upd H3 p4 (.lst ((rs.map lineS).map V.str)) = H4 at m4 h4
    have h34 := m4 _ _ h3
    have nodl : (rs.map lineS).Nodup := by
      refine List.Pairwise.map _ ?_ ((List.pairwise_iff_forall_sublist.mpr ?_ : rs.Pairwise fun a b => lineS a ≠ lineS b))
      · exact fun a b h => h
      · intro a b hab e
        have ha : a ∈ rs := hab.subset (by simp)
        have hb : b ∈ rs := hab.subset (by simp)
        have e2 := line_inj (ho6 a ha) (ho6 b hb) e
        subst e2
        exact absurd (nd.sublist hab) (by simp)
    have ll : ((rs.map lineS).map V.str).length = rs.length := by rw [List.length_map, List.length_map]
    refine ⟨_, rfl, 1, rfl, p3, _, -1, _, rfl, rfl, SqL.of h34, atI_last _ _, rfl, _, rfl, ?_⟩
    refine iteF ⟨_, rfl, p4, rfl, .inl ⟨rs.map lineS, .inl (SqL.of h4), by rw [List.length_map]; omega, fun n n1 n2 => ?_⟩⟩
    have en : n = (rs.map lineS).length := n2.mpr nodl
    subst en
    refine ⟨_, rfl, p4, _, rfl, .inl (SqL.of h4), rfl, _, rfl, ?_⟩
    have e5 : (!decide (V.int (((rs.map lineS).length : Nat) : Int) = V.int ((((rs.map lineS).map V.str).length : Nat) : Int))) = false := by
      rw [ll, List.length_map]
      simp
    rw [e5]
    refine iteF ?_
    -- all([line in known for line in lines])
    have h24 : H4 D = some (.dK (prs (allR w) us)) := m4 _ _ (m3 _ _ e2)
    have m24 : Same H2 H4 := m3.trans m4
    refine ⟨_, rfl, p4, rfl, ⟨_, SqL.of h4⟩, fun D5 n5 => ?_⟩
    have at_ : ∀ {i : Nat} {x : V}, ((rs.map lineS).map V.str)[i]? = some x → ∃ r, rs[i]? = some r ∧ x = .str (lineS r) := fun {i x} h => by
      rw [List.getElem?_map, List.getElem?_map] at h
      cases z : rs[i]? with
      | none =>
        rw [z] at h
        cases h
      | some r =>
        rw [z] at h
        exact ⟨r, rfl, (Option.some.inj h).symm⟩
    refine lc_list (xs := (rs.map lineS).map V.str) (fun i H => Same H4 (wo H D5) ∧ H D5 = some (.lst ((List.replicate i true).map V.bl)) ∧ i ≤ 60) ⟨?_, upd_same, by omega⟩ (fun i H _ z => SqL.of (wo_le D5 _ _ (z.1 _ _ h4))) ?_ ?_
    · rw [wo_upd]
      exact fun b o e => by rw [wo_ne (ne_of_none e n5)]; exact e
    · rintro i x H5 hx ⟨f1, f2, f3⟩
      obtain ⟨r, hr2, rfl⟩ := at_ hx
      have il : i < rs.length := (List.getElem?_eq_some_iff.mp hr2).1
      obtain ⟨v, v1, _⟩ := prs_get oka dp2 (mem_allR.mpr (ho r (List.mem_of_getElem? hr2)))
      have h5 : H5 D = some (.dK (prs (allR w) us)) := wo_le D5 _ _ (f1 _ _ h24)
      refine ⟨rfl, yes_if ⟨_, rfl, _, rfl, D, _, rfl, DGet.k (k := Sum.inr (lineS r)) h5, _, f2, small1000 (by simp; omega), ?_, ?_, by omega⟩⟩
      · rw [wo_upd]
        exact f1
      · rw [upd_same, v1, List.replicate_succ', List.map_append]
        rfl
    rintro H5 ⟨f1, f2, _⟩
    rw [ll] at f2
    refine ⟨D5, List.replicate rs.length true, rfl, SqL.of f2, _, rfl, ?_⟩
    have e6 : (List.replicate rs.length true).all id = true := by
      rw [List.all_eq_true]
      intro b hb
      rw [List.eq_of_mem_replicate hb]
      rfl
    rw [e6]
    refine iteF ?_
    -- [known[line] for line in lines]
    have m5 : Same H4 H5 := f1.trans (wo_le D5)
    have h45 := m5 _ _ h4
    have h25 := m5 _ _ h24
    refine ⟨_, rfl, p4, rfl, ⟨_, SqL.of h45⟩, fun D6 n6 => ?_⟩
    refine lc_list (xs := (rs.map lineS).map V.str) (fun i H => MadeR K H5 D6 i H (rs.take i)) MadeR.start (fun i H _ z => SqL.of (z.old n6 _ _ h45)) ?_ ?_
    · rintro i x H6 hx p6
      obtain ⟨r, hr2, rfl⟩ := at_ hx
      have il : i < rs.length := (List.getElem?_eq_some_iff.mp hr2).1
      obtain ⟨v, v1, v2⟩ := prs_get oka dp2 (mem_allR.mpr (ho r (List.mem_of_getElem? hr2)))
      have h6 : H6 D = some (.dK (prs (allR w) us)) := p6.old n6 _ _ h25
      have g6 := DGet.k (k := Sum.inr (lineS r)) h6
      rw [v1] at g6
      refine ⟨rfl, yes_if ⟨_, rfl, _, rfl, D, v, rfl, g6, ?_⟩⟩
      rw [SG.take_one hr2]
      refine p6.push (by omega) (Nat.lt_succ_self _) (Same.refl _) (dp_same ?_ _ _ v2)
      have nD6 : wo H2 D D6 = none := by
        cases z : wo H2 D D6 with
        | none => rfl
        | some o => rw [m5 _ _ (m24 _ _ (wo_le D _ _ z))] at n6; cases n6
      exact fun b o e => by
        rw [wo_ne (ne_of_none e nD6)]
        exact p6.old n6 _ _ (m5 _ _ (m24 _ _ (wo_le D _ _ e)))
    · intro H6 p6
      rw [ll, List.take_length] at p6
      obtain ⟨us6, p7⟩ := id p6
      have sH : Same H H6 := s1.trans (e1.trans ((wo_le D).trans (m24.trans (m5.trans (p6.old n6)))))
      refine q D6 us6 H6 sH ?_ p7.lst p7.dat
      cases z : H D6 with
      | none => rfl
      | some o => rw [m5 _ _ (m24 _ _ (wo_le D _ _ (e1 _ _ (s1 _ _ z))))] at n6; cases n6
end
end CC
namespace CC
open PySem L2 TL
section
variable {X : Cx} {CX : CXT} {k i : Nat} {f C : Addr} {sp : Sp} {E : XK} {x : Str} {e : Expr} {es : List Expr} {t : TA} {p pos : Pos}
/-- c(e, *y), c a local that holds the class at C -/
theorem pe_makeLS (M : Mk X.K C f) (F : FnR X.prog X.w X.K X.mg X.base CX k f sp) (hr : Room (k + 1) X.A) (hN : X.N[i]? = some x) (hv : Vis X.env.scope x) (hx : Passes CX X E) (ha : PA X (e :: es) t) (hdb : (x == ("__debug__" : Str)) = false := by decide)
    (hcd : (x == ("__classdict__" : Str)) = false := by decide) (he : starEach (e :: es) X.env = (false, eval e X.env) :: starEach es X.env := by rfl) (hst : (backTo pos (starEach es X.env)).any (·.1) = true := by rfl) :
    PE X (.Call (.Name x p) (e :: es) [] pos) (fun σ H Q => σ[i]? = some (some (.ref C)) ∧ StX.tMakeR C sp E t σ H Q) := by
  refine ⟨fun pins s σ H Q I ⟨h1, h2⟩ => ?_⟩
  refine wpAny_Call_Name_kw (thn ((pe_var (pos := p) hN hv hdb hcd).run pins s σ H (fun v H1 => v = .ref C ∧ H1 = H) I ⟨.ref C, h1, rfl, rfl⟩) fun u s1 ⟨v, H1, I1, r1, q1⟩ => ?_)
  obtain ⟨rfl, rfl⟩ := q1
  cases r1
  refine PySem.W.callWith_S2 (h₀ := X.base) I.ok.mod.kin M.kp (thn (ha.run pos pins s1 σ _ _ I1 h2) fun us s2 ⟨vs, H2, I2, r, q⟩ => ⟨I2.kIn, ?_⟩) he hst
  exact StX.run_makeR M F hr hx I2 r q
end
theorem from_le {p : Nat → Prop} {l : Nat} (h : ∀ k, p (k + l)) : ∀ k, l ≤ k → p k := fun k hk => by
  have := h (k - l)
  rwa [Nat.sub_add_cancel hk] at this
end CC
namespace CC
open PySem L2 TL
abbrev sInit : Stmt := inClass (tp 25) 0
abbrev sRead : Stmt := inClass (tp 25) 10
/-! ### the object -/
def fl0 (w : Nat) : List (Str × V) := putF "span" (.int (w : Int)) []
def flds (w : Nat) (g : Addr) : List (Str × V) := putF "given" (.ref g) (fl0 w)
theorem sg : ¬ (("span" : Str) = "given") := by decide +kernel
theorem flds_eq (w : Nat) (g : Addr) : flds w g = ([("span", V.int (w : Int)), ("given", V.ref g)] : List (Str × V)) := by
  show (if ("span" : Str) = "given" then [(("span" : Str), V.ref g)] else (("span" : Str), V.int (w : Int)) :: putF "given" (V.ref g) []) = _
  rw [if_neg sg]
  rfl
theorem flds_span (w : Nat) (g : Addr) : (flds w g).lookup ("span" : Str) = some (.int (w : Int)) := by
  unfold flds fl0
  rw [lookup_putF, if_neg sg, lookup_putF, if_pos rfl]
theorem flds_given (w : Nat) (g : Addr) : (flds w g).lookup ("given" : Str) = some (.ref g) := by
  unfold flds
  rw [lookup_putF, if_pos rfl]
theorem flds_no (w : Nat) (g : Addr) {m : Str} (h1 : ¬ m = "given") (h2 : ¬ m = "span") : (flds w g).lookup m = none := by
  unfold flds fl0
  rw [lookup_putF, if_neg h1, lookup_putF, if_neg h2]
  rfl
/-- a list of rules stands at x -/
def RulesAt (K : PySem.W.Frag) (C : Addr) (H : Hp) (x : Addr) (w : Nat) (rs : List R) : Prop := ∃ dx g us, H x = some (.ins C dx (flds w g)) ∧ H g = some (.tup us) ∧ DpAll K H us (rs.map R.d)
theorem RulesAt.same {K : PySem.W.Frag} {C : Addr} {H H' : Hp} {x : Addr} {w : Nat} {rs : List R} (h : RulesAt K C H x w rs) (e : Same H H') : RulesAt K C H' x w rs := by
  obtain ⟨dx, g, us, h1, h2, h3⟩ := h
  exact ⟨dx, g, us, e _ _ h1, e _ _ h2, dps_same e _ _ h3⟩
/-- what is asked of the class as the top has made it -/
structure Txt1 (K : PySem.W.Frag) (mg : Str → Option Value) (C : Addr) : Prop where
  cl : Cls K C
  nS : NoAttr K C "span"
  nG : NoAttr K C "given"
  mgC : mg "Rules" = some (.ref C)
/-! ### keys -/
def R.key (r : R) : List Key := [.inr (kd r.k), .inl (r.a : Int), .inl (r.b : Int)]
theorem key_inj {r s : R} (h : r.key = s.key) : r = s := by
  obtain ⟨k, a, b⟩ := r
  obtain ⟨k', a', b'⟩ := s
  simp only [R.key, List.cons.injEq, Sum.inr.injEq, Sum.inl.injEq, and_true] at h
  obtain ⟨h1, h2, h3⟩ := h
  have e1 := kd_inj h1
  have e2 : a = a' := by omega
  have e3 : b = b' := by omega
  rw [e1, e2, e3]
theorem keys_nodup {rs : List R} (h : rs.Nodup) : (rs.map R.key).Nodup := List.Pairwise.map _ (fun a b hab e => hab (key_inj e)) h
theorem dps_keys {K : PySem.W.Frag} {H : Hp} : ∀ {rs : List R} {us : List V}, DpAll K H us (rs.map R.d) → ∃ ks : List (SG.Mem Key), us = ks.map (fun m => V.ref m.1) ∧ ks.map (·.2) = rs.map R.key ∧ ∀ m ∈ ks, SqT K H m.1 (m.2.map kV)
  | [], _, h => by
    cases h
    exact ⟨[], rfl, rfl, fun m hm => nomatch hm⟩
  | r :: rs, _, h => by
    cases h with
    | cons h1 h2 =>
      obtain ⟨p, rfl, hp⟩ := dp_r h1
      obtain ⟨ks, e1, e2, e3⟩ := dps_keys h2
      refine ⟨(p, r.key) :: ks, by rw [e1]; rfl, by rw [List.map_cons, e2]; rfl, fun m hm => ?_⟩
      rcases List.mem_cons.mp hm with z | z
      · rw [z]
        exact hp
      · exact e3 m z
def spInit (K : PySem.W.Frag) (C : Addr) : Sp := fun vs H Q _ => ∃ (x dx : Addr) (w : Nat) (p : Addr) (us : List V) (rs : List R), vs = [.ref x, .int (w : Int), .ref p] ∧ H x = some (.ins C dx []) ∧ 1 ≤ w ∧ w ≤ 6 ∧ H p = some (.tup us) ∧ DpAll K (wo H x) us (rs.map R.d) ∧
  (∀ r ∈ rs, r.ok w) ∧ rs.Nodup ∧ ∀ H', (∀ b o, H b = some o → b ≠ x → H' b = some o) → H' x = some (.ins C dx (flds w p)) → Q .non H'
def spInitR (K : PySem.W.Frag) (C : Addr) : Sp := fun vs H Q E => ∃ ws rest, vs = ws ++ rest ∧ ws.length = 2 ∧ rest.length ≤ sizeLine ∧ ∀ p, H p = Option.none → spInit K C (ws ++ [V.ref p]) (upd H p (.tup rest)) Q E
def spRead (K : PySem.W.Frag) (C : Addr) : Sp := fun vs H Q _ => ∃ (w : Nat) (rs : List R), vs = [.ref C, .int (w : Int), .str (textS rs)] ∧ 1 ≤ w ∧ w ≤ 6 ∧ (∀ r ∈ rs, r.ok w) ∧ rs.Nodup ∧ ∀ (x : Addr) (H' : Hp), Same H H' → H x = none → RulesAt K C H' x w rs → Q (.ref x) H'
/-- C(width, *rules), C.read(width, text) -/
structure MakeR (P : Program) (w : World) (K : PySem.W.Frag) (mg : Str → Option Value) (base : Heap) (C : Addr) (l : Nat) where
  fN : Addr
  M : Mk K C fN
  ok : ∀ k, l ≤ k → FnR P w K mg base CX0 k fN (spInitR K C)
structure ReadR (P : Program) (w : World) (K : PySem.W.Frag) (mg : Str → Option Value) (base : Heap) (C : Addr) (l : Nat) where
  mc : Value
  pD : Addr
  fD : Addr
  rD : ClX.CRead K C mc
  cD : ClX.CMet K C mc "read" pD fD
  ok : ∀ k, l ≤ k → FnR P w K mg base CX0 k fD (spRead K C)
section
variable {P : Program} {w : World} {K : PySem.W.Frag} {mg : Str → Option Value} {base : Heap} {kA : Addr}
abbrev nIn : List Str := ["self", "width", "rules", "rule"]
theorem scInit : FnScope nIn ((["self", "width"] : List Str) ++ ([("rules" : Str)] : List Str)) (defScope sInit) := ⟨rfl, rfl, rfl, by decide +kernel, rfl, by decide +kernel, by decide +kernel⟩
theorem ok_init {f C : Addr} {fd : FuncData} {k : Nat} (F : Fun K "__init__" "Rules.__init__" sInit f fd) (T : Glb K mg kA) (TC : Txt1 K mg C)
 (cW : Cal P w K mg base "is_width" ["thing"] spIsWidth 2) (cR : Cal P w K mg base "is_rule" ["width", "thing"] (spIsRule K) 3) :
    FnR P w K mg base CX0 (k + 4) f (spInitR K C) := by
  have GW := cW.ok (k + 3) (by omega)
  have GR := cR.ok (k + 3) (by omega)
  obtain ⟨oc, od, kV, doc, pm, an, cdv, ct, osl, rfl, lk, hcd⟩ := F.ex
  refine StX.fn_star (ps := ["self", "width"]) (pv := "rules") lk hcd scInit StX.cxUp_none (fun us rest hl => ?_) (fun A outer s H vs Q E hr h => ?_)
  · match us, hl with
    | [a, b], _ =>
      cases rest with
      | nil => rfl
      | cons c r => rfl
  · obtain ⟨x, dx, w, p, us, rs, rfl, hx, w1, w6, hp, dp, ho, nd, q⟩ := h
    have hu3 := Nat.lt_of_le_of_lt (Nat.add_le_add_left (by decide : 3 ≤ 64) _) hr.units
    have n := scInit.nd
    refine ⟨_, PSs.nox (pss_cons (ps_if (pt_not (pt_val (pe_call GW hr rfl cW.g cW.kp cW.b .nil pass0 (pa_cons (pv 1) pa_nil)))) (pss_one ps_never) pss_nil)
      (pss_cons (ps_if (pt_not (pt_val (pe_callB (cr_all rfl) (by rfl) T.all (by decide +kernel) (pa_cons (pe_lc (own := [("rule", 3)]) (g := gName 3) (tt := tYes) rfl n (pi_tup (pv 2)) (blkOk_by (N := nIn) (sc := defScope sInit) (by decide +kernel))
          (fun _ _ _ _ _ => pg_name (i := 3) n rfl (.inl rfl)) (fun _ _ _ _ _ => pts_nil) (fun _ _ _ _ _ => pe_call GR hr rfl cR.g cR.kp cR.b .nil pass0 (pa_cons (pv 1) (pa_cons (pv 3) pa_nil)))) pa_nil)))) (pss_one ps_never) pss_nil)
      (pss_cons (ps_if (pt_cmpR op_ne (SG.pe_lenSetD rfl hu3 (by rfl) T.len (by rfl) T.set (pv 2)) (pe_callB call_len_seq (by rfl) T.len PySem.boot_len (pa_cons (pv 2) pa_nil)) (nomark _)) (pss_one ps_never) pss_nil)
      (pss_cons (ps_fld (pv 0) (pv 1) rfl) (pss_one (ps_fld (pv 0) (pv 2) rfl)))))), ?_⟩
    have rl := few_rules w6 ho nd
    have ul : us.length = rs.length := by rw [dps_len dp, List.length_map]
    refine ⟨_, rfl, w, rfl, w1, w6, _, rfl, iteF ?_⟩
    refine ⟨_, rfl, p, rfl, ⟨_, .inl (.inl hp)⟩, fun D nD => ?_⟩
    refine lc_tup (xs := us) (fun i H1 => Same H (wo H1 D) ∧ H1 D = some (.lst ((List.replicate i true).map V.bl)) ∧ i ≤ 60) ⟨?_, upd_same, by omega⟩ (fun i H1 _ z => .inl (.inl (wo_le D _ _ (z.1 _ _ hp)))) ?_ ?_
    · rw [wo_upd]
      exact fun b o e => by rw [wo_ne (ne_of_none e nD)]; exact e
    · rintro i v H1 hv ⟨e1, e2, e3⟩
      obtain ⟨r, hr2, dr⟩ := dps_rat dp hv
      have il : i < rs.length := (List.getElem?_eq_some_iff.mp hr2).1
      refine ⟨rfl, yes_if ⟨_, rfl, _, rfl, w, v, r, rfl, dp_same ((wo_le x).trans (e1.trans (wo_le D))) _ _ dr, ho r (List.mem_of_getElem? hr2), _, e2, small1000 (by simp; omega), ?_, ?_, by omega⟩⟩
      · rw [wo_upd]
        exact e1
      · rw [upd_same, List.replicate_succ', List.map_append]
        rfl
    rintro H1 ⟨e1, e2, _⟩
    rw [ul] at e2
    refine ⟨D, List.replicate rs.length true, rfl, SqL.of e2, _, rfl, ?_⟩
    have e6 : (List.replicate rs.length true).all id = true := by
      rw [List.all_eq_true]
      intro b hb
      rw [List.eq_of_mem_replicate hb]
      rfl
    rw [e6]
    refine iteF ?_
    have m1 : Same H H1 := e1.trans (wo_le D)
    obtain ⟨ks, k1, k2, k3⟩ := dps_keys (dps_same ((wo_le x).trans m1) _ _ dp)
    have hp1 := m1 _ _ hp
    have kl : ks.length = rs.length := by
      rw [← ul, k1, List.length_map]
    refine ⟨_, rfl, p, rfl, .inr ⟨ks, .inr (by rw [← k1]; exact .inl (.inl hp1)), k3, by omega, fun m z1 z2 => ?_⟩⟩
    have em : m = ks.length := z2.mpr (by rw [k2]; exact keys_nodup nd)
    subst em
    refine ⟨_, rfl, p, us, rfl, .inr (.inl (.inl hp1)), rfl, _, rfl, ?_⟩
    have e7 : (!decide (V.int (ks.length : Int) = V.int (us.length : Int))) = false := by
      rw [kl, ul]
      simp
    rw [e7]
    refine iteF ?_
    have hx1 := m1 _ _ hx
    have px : p ≠ x := ne_of hp hx (by intro z; cases z)
    refine ⟨_, rfl, _, rfl, x, C, dx, _, rfl, hx1, TC.cl, TC.nS, (by show 0 < 1000; decide), ?_⟩
    refine ⟨_, rfl, _, rfl, x, C, dx, _, rfl, upd_same, TC.cl, TC.nG, (by show 1 < 1000; decide), ?_⟩
    refine q _ (fun b o e hb => ?_) upd_same
    rw [upd_ne hb, upd_ne hb]
    exact m1 _ _ e
abbrev nRd : List Str := ["cls", "width", "text", "found"]
theorem scRead : FnScope nRd ["cls", "width", "text"] (defScope sRead) := ⟨rfl, rfl, rfl, by decide +kernel, rfl, by decide +kernel, by decide +kernel⟩
theorem ok_read {f C : Addr} {fd : FuncData} {k : Nat} (F : Fun K "read" "Rules.read" sRead f fd) (T : Glb K mg kA) (m : MakeR P w K mg base C 4)
 (cW : Cal P w K mg base "is_width" ["thing"] spIsWidth 2)
 (cO : Cal P w K mg base "rules_of" ["width", "text"] (spRulesOf K) 2) 
 : FnOk P w K mg base CX0 (k + 6) f fd ["cls", "width", "text"] (spRead K C) := by
  have GW := cW.ok (k + 5) (by omega)
  have GO := cO.ok (k + 5) (by omega)
  have GN := m.ok (k + 4) (by omega)
  refine F.ok scRead (fun vs H Q E h => ?_) (fun cdv A outer s H vs Q E hr h => ?_)
  · obtain ⟨w, rs, rfl, _⟩ := h
    rfl
  · obtain ⟨w, rs, rfl, w1, w6, ho, nd, q⟩ := h
    have n := scRead.nd
    refine ⟨_, pss_cons (ps_if (pt_not (pt_val (pe_call GW hr rfl cW.g cW.kp cW.b .nil pass0 (pa_cons (pv 1) pa_nil)))) (pss_one ps_never) pss_nil)
      (pss_cons (ps_if (pt_not (pt_val (pe_callB call_isi (by rfl) T.isi (by decide +kernel) (pa_cons (pv 2) (pa_cons (pe_bltn (v := .ty "str") (by rfl) T.str (by decide +kernel) rfl) pa_nil))))) (pss_one ps_never) pss_nil)
      (pss_cons (ps_set (i := 3) n rfl (.inl rfl) (pe_call GO hr rfl cO.g cO.kp cO.b .nil pass0 (pa_cons (pv 1) (pa_cons (pv 2) pa_nil))))
      (pss_cons (ps_if (pt_cmpR op_isN (pv 3) pe_non (nomark _)) (pss_one ps_never) pss_nil)
      (pss_one (ps_ret (pe_makeLS (i := 0) m.M GN hr rfl (.inl rfl) pass0 (pa_cons (pv 1) (StX.pa_star (pv 3) pa_nil)))))))), ?_⟩
    refine ⟨_, rfl, w, rfl, w1, w6, _, rfl, iteF ?_⟩
    refine ⟨_, rfl, _, _, _, _, true, rfl, .ty _, .base (.str _), kit_ty (by decide +kernel), _, rfl, iteF ?_⟩
    refine ⟨_, rfl, _, rfl, w, rs, rfl, w6, ho, nd, fun p us H1 s1 np hp dp => ?_⟩
    refine ⟨_, rfl, rfl, _, rfl, iteF ?_⟩
    have rl := few_rules w6 ho nd
    have ul : us.length = rs.length := by rw [dps_len dp, List.length_map]
    refine ⟨rfl, _, rfl, _, rfl, p, us, rfl, .inr (SqL.of hp), fun x dx nx ndx ne => ?_⟩
    rw [List.append_nil]
    refine ⟨[.ref x, .int (w : Int)], us, rfl, rfl, Nat.le_of_lt (small1000 (by omega)), fun g ng => ?_⟩
    have gx : x ≠ g := fun z => by rw [← z, upd_same] at ng; cases ng
    have gdx : dx ≠ g := fun z => by rw [← z, upd_ne ne, upd_same] at ng; cases ng
    have ng1 : H1 g = none := by
      rw [upd_ne gx.symm, upd_ne gdx.symm] at ng
      exact ng
    have keep : ∀ b o, H1 b = some o → (upd (upd (upd H1 dx (.own x)) x (.ins C dx [])) g (.tup us)) b = some o := fun b o e => by
      rw [upd_ne (ne_of_none e ng1), upd_ne (ne_of_none e nx), upd_ne (ne_of_none e ndx)]
      exact e
    refine ⟨x, dx, w, g, us, rs, rfl, by rw [upd_ne gx]; exact upd_same, w1, w6, upd_same, dps_same ?_ _ _ dp, ho, nd, fun H' k1 k2 => ⟨rfl, q x H' ?_ ?_ ⟨dx, g, us, k2, ?_, ?_⟩⟩⟩
    · exact fun b o e => by
        have e1 := wo_le p _ _ e
        rw [wo_ne (ne_of_none e1 nx)]
        exact keep b o e1
    · exact fun b o e => k1 b o (keep b o (s1 _ _ e)) (ne_of_none (s1 _ _ e) nx)
    · cases z : H x with
      | none => rfl
      | some o => rw [s1 _ _ z] at nx; cases nx
    · exact k1 g _ upd_same gx.symm
    · refine dps_same (fun b o e => ?_) _ _ dp
      have e1 := wo_le p _ _ e
      exact k1 b o (keep b o e1) (ne_of_none e1 nx)
end
end CC
namespace CC
open PySem L2
/-! ### steps down -/
def down (r : R) : Nat × Nat := if r.k then (r.a, r.b) else (r.b, r.a)
abbrev sDown : Stmt := tp 17
def spDown (K : PySem.W.Frag) : Sp := fun vs H Q _ => ∃ (g : Addr) (us : List V) (rs : List R), vs = [.ref g] ∧ SqT K H g us ∧ DpAll K H us (rs.map R.d) ∧ rs.length ≤ 60 ∧ NewF prd K H (rs.map down) Q
theorem kd_eq (k : Bool) : decide (V.str (kd k) = V.str "settles") = k := by
  cases k <;> decide +kernel
section
variable {P : Program} {w : World} {K : PySem.W.Frag} {mg : Str → Option Value} {base : Heap} {kA : Addr}
abbrev nDn : List Str := ["rules", "kind", "a", "b"]
theorem scDown : FnScope nDn ["rules"] (defScope sDown) := ⟨rfl, rfl, rfl, by decide +kernel, rfl, by decide +kernel, by decide +kernel⟩
theorem ok_down {f : Addr} {fd : FuncData} {k : Nat} (F : Fun K "steps_down" "steps_down" sDown f fd) : FnOk P w K mg base CX0 (k + 1) f fd ["rules"] (spDown K) := by
  refine F.ok scDown (fun vs H Q E h => ?_) (fun cdv A outer s H vs Q E hr h => ?_)
  · obtain ⟨g, us, rs, rfl, _⟩ := h
    rfl
  · obtain ⟨g, us, rs, rfl, hg, dp, hl, q⟩ := h
    have n := scDown.nd
    refine ⟨_, pss_one (ps_ret (pe_lc (own := [("kind", 1), ("a", 2), ("b", 3)]) (g := g3 K 1 2 3) (tt := tYes) rfl n (pi_tup (pv 0)) (blkOk_by (N := nDn) (sc := defScope sDown) (by decide +kernel))
      (fun _ _ _ _ _ => pg_tup rfl (pgs_cons (pg_name (i := 1) n rfl (.inl rfl)) (pgs_cons (pg_name (i := 2) n rfl (.inl rfl)) (pgs_cons (pg_name (i := 3) n rfl (.inl rfl)) pgs_nil)))) (fun _ _ _ _ _ => pts_nil)
      (fun _ _ _ _ _ => pe_ifExp (pt_cmpR op_eq (pv 1) pe_str (nomark _)) (pe_tup (pa_cons (pv 2) (pa_cons (pv 3) pa_nil))) (pe_tup (pa_cons (pv 3) (pa_cons (pv 2) pa_nil)))))), ?_⟩
    have ul : us.length = rs.length := by rw [dps_len dp, List.length_map]
    refine ⟨_, rfl, g, rfl, ⟨_, hg⟩, fun D nD => ?_⟩
    refine lc_tup (xs := us) (fun i H1 => MadeF prd K H D i H1 ((rs.take i).map down)) MadeF.start (fun i H1 _ z => same_t (z.old nD) hg) ?_ ?_
    · intro i v H1 hv p
      obtain ⟨r, hr2, dr⟩ := dps_rat dp hv
      have il : i < rs.length := (List.getElem?_eq_some_iff.mp hr2).1
      obtain ⟨t, rfl, ht⟩ := dp_r (dp_same (p.old nD) _ _ dr)
      refine ⟨t, _, rfl, ht, rfl, _, _, rfl, _, _, rfl, _, _, rfl, rfl, rfl, yes_if ?_⟩
      refine ⟨_, rfl, rfl, _, rfl, ?_⟩
      rw [SG.take_one hr2, List.map_append]
      rw [show decide (V.str (kd r.k) = V.str (Str.ofString "settles")) = r.k from kd_eq r.k]
      cases hk : r.k with
      | true =>
        refine iteT ⟨_, rfl, _, rfl, (by show 2 ≤ sizeLine; decide), fun t2 n2 => ?_⟩
        refine p.push (r := down r) (by omega) (Nat.lt_succ_self _) (same_new n2) (p_dp ?_)
        have e : down r = (r.a, r.b) := by unfold down; rw [hk]; rfl
        rw [e]
        exact p.tup n2
      | false =>
        refine iteF ⟨_, rfl, _, rfl, (by show 2 ≤ sizeLine; decide), fun t2 n2 => ?_⟩
        refine p.push (r := down r) (by omega) (Nat.lt_succ_self _) (same_new n2) (p_dp ?_)
        have e : down r = (r.b, r.a) := by unfold down; rw [hk]; rfl
        rw [e]
        exact p.tup n2
    · intro H1 p
      rw [ul, List.take_length] at p
      exact p.out nD (Same.refl _) q
end
end CC
namespace CC
/-! ### words in their order: shorter ones first, then by their signs -/
def lx : List Nat → List Nat → Prop
  | [], [] => False
  | [], _ :: _ => True
  | _ :: _, [] => False
  | a :: p, b :: q => a < b ∨ (a = b ∧ lx p q)
theorem lx_irr : ∀ p, ¬ lx p p
  | [], h => h
  | a :: p, h => by
    rcases h with h | ⟨_, h⟩
    · omega
    · exact lx_irr p h
theorem lx_trans : ∀ {p q r : List Nat}, lx p q → lx q r → lx p r
  | [], [], _, h, _ => False.elim h
  | [], _ :: _, [], _, h => False.elim h
  | [], _ :: _, _ :: _, _, _ => trivial
  | _ :: _, [], _, h, _ => False.elim h
  | _ :: _, _ :: _, [], _, h => False.elim h
  | a :: p, b :: q, c :: r, h1, h2 => by
    rcases h1 with h1 | ⟨rfl, h1⟩ <;> rcases h2 with h2 | ⟨rfl, h2⟩
    · exact .inl (by omega)
    · exact .inl h1
    · exact .inl h2
    · exact .inr ⟨rfl, lx_trans h1 h2⟩
theorem lx_tri : ∀ p q : List Nat, lx p q ∨ p = q ∨ lx q p
  | [], [] => .inr (.inl rfl)
  | [], _ :: _ => .inl trivial
  | _ :: _, [] => .inr (.inr trivial)
  | a :: p, b :: q => by
    rcases Nat.lt_trichotomy a b with h | h | h
    · exact .inl (.inl h)
    · subst h
      rcases lx_tri p q with z | z | z
      · exact .inl (.inr ⟨rfl, z⟩)
      · exact .inr (.inl (by rw [z]))
      · exact .inr (.inr (.inr ⟨rfl, z⟩))
    · exact .inr (.inr (.inl h))
theorem lx_app : ∀ {p q : List Nat} (r s : List Nat), p.length = q.length → lx p q → lx (p ++ r) (q ++ s)
  | [], [], _, _, _, h => False.elim h
  | [], _ :: _, _, _, e, _ => by simp at e
  | _ :: _, [], _, _, e, _ => by simp at e
  | a :: p, b :: q, r, s, e, h => by
    rcases h with h | ⟨h1, h⟩
    · exact .inl h
    · exact .inr ⟨h1, lx_app r s (by simpa using e) h⟩
theorem lx_last : ∀ (p : List Nat) {a b : Nat}, a < b → lx (p ++ [a]) (p ++ [b])
  | [], _, _, h => .inl h
  | _ :: p, _, _, h => .inr ⟨rfl, lx_last p h⟩
def SS (p q : List Nat) : Prop := p.length < q.length ∨ (p.length = q.length ∧ lx p q)
theorem SS.irr {p : List Nat} (h : SS p p) : False := by
  rcases h with h | ⟨_, h⟩
  · omega
  · exact lx_irr p h
theorem SS.trans {p q r : List Nat} (h1 : SS p q) (h2 : SS q r) : SS p r := by
  rcases h1 with h1 | ⟨e1, h1⟩ <;> rcases h2 with h2 | ⟨e2, h2⟩
  · exact .inl (by omega)
  · exact .inl (by omega)
  · exact .inl (by omega)
  · exact .inr ⟨by omega, lx_trans h1 h2⟩
theorem SS.tri (p q : List Nat) : SS p q ∨ p = q ∨ SS q p := by
  rcases Nat.lt_trichotomy p.length q.length with h | h | h
  · exact .inl (.inl h)
  · rcases lx_tri p q with z | z | z
    · exact .inl (.inr ⟨h, z⟩)
    · exact .inr (.inl z)
    · exact .inr (.inr (.inr ⟨h.symm, z⟩))
  · exact .inr (.inr (.inl h))
theorem SS.app {p q : List Nat} (x y : Nat) (h : SS p q) : SS (p ++ [x]) (q ++ [y]) := by
  rcases h with h | ⟨e, h⟩
  · exact .inl (by simp; omega)
  · exact .inr ⟨by simp [e], lx_app _ _ e h⟩
theorem SS.last (p : List Nat) {x y : Nat} (h : x < y) : SS (p ++ [x]) (p ++ [y]) := .inr ⟨by simp, lx_last p h⟩
theorem SS.snoc (p : List Nat) (x : Nat) : SS p (p ++ [x]) := .inl (by simp)
/-- a walk -/
inductive Wk (ps : List (Nat × Nat)) (a : Nat) : Nat → List Nat → Prop
  | one : Wk ps a a [a]
  | step {b c : Nat} {w : List Nat} : Wk ps a b w → (b, c) ∈ ps → Wk ps a c (w ++ [c])
theorem Wk.ne {ps : List (Nat × Nat)} {a b : Nat} {w : List Nat} (h : Wk ps a b w) : w ≠ [] := by
  cases h <;> simp
/-- what is found: each column that is reached, with the first of the shortest walks -/
structure FW (ps : List (Nat × Nat)) (st : Nat) (ws : List (Nat × List Nat)) : Prop where
  nd : (ws.map (·.1)).Nodup
  lt : ∀ e ∈ ws, e.1 < 6
  wk : ∀ e ∈ ws, Wk ps st e.1 e.2
  fst : ∀ c q, Wk ps st c q → ∃ v, (c, v) ∈ ws ∧ (v = q ∨ SS v q)
  len : ∀ e ∈ ws, e.2.length ≤ ws.length
/-- between two turns: n columns are through -/
structure BI (ps : List (Nat × Nat)) (st : Nat) (ws : List (Nat × List Nat)) (n : Nat) : Prop where
  nd : (ws.map (·.1)).Nodup
  lt : ∀ e ∈ ws, e.1 < 6
  wk : ∀ e ∈ ws, Wk ps st e.1 e.2
  ord : ∀ (i j : Nat) (e f : Nat × List Nat), i < j → ws[i]? = some e → ws[j]? = some f → SS e.2 f.2
  beg : (st, [st]) ∈ ws
  le : n ≤ ws.length
  len : ∀ (i : Nat) (e : Nat × List Nat), ws[i]? = some e → e.2.length ≤ i + 1
  don : ∀ (i : Nat) (e : Nat × List Nat), i < n → ws[i]? = some e → ∀ b, (e.1, b) ∈ ps → ∃ v, (b, v) ∈ ws ∧ (v = e.2 ++ [b] ∨ SS v (e.2 ++ [b]))
  low : ∀ e ∈ ws, ∀ (j : Nat) (f : Nat × List Nat), n ≤ j → ws[j]? = some f → ∀ x, SS e.2 (f.2 ++ [x])
theorem BI.start {ps : List (Nat × Nat)} {st : Nat} (h : st < 6) : BI ps st [(st, [st])] 0 where
  nd := by simp
  lt := fun e he => by rw [List.mem_singleton.mp he]; exact h
  wk := fun e he => by rw [List.mem_singleton.mp he]; exact .one
  ord := fun i j e f hij h1 h2 => by
    have := (List.getElem?_eq_some_iff.mp h2).1
    simp at this
    omega
  beg := List.mem_singleton.mpr rfl
  le := Nat.zero_le _
  len := fun i e h => by
    have : e ∈ [(st, [st])] := List.mem_of_getElem? h
    rw [List.mem_singleton.mp this]
    simp
  don := fun i e hi => absurd hi (Nat.not_lt_zero _)
  low := fun e he j f _ hf x => by
    have : f ∈ [(st, [st])] := List.mem_of_getElem? hf
    rw [List.mem_singleton.mp he, List.mem_singleton.mp this]
    exact SS.snoc _ _
theorem BI.out {ps : List (Nat × Nat)} {st : Nat} {ws : List (Nat × List Nat)} {n : Nat} (h : BI ps st ws n) (hn : ws.length ≤ n) : FW ps st ws where
  nd := h.nd
  lt := h.lt
  wk := h.wk
  fst := fun c q w => by
    induction w with
    | one => exact ⟨_, h.beg, .inl rfl⟩
    | @step b c w w1 hb ih =>
      obtain ⟨v, hv, e⟩ := ih
      obtain ⟨i, hi⟩ := List.mem_iff_getElem?.mp hv
      have il := (List.getElem?_eq_some_iff.mp hi).1
      obtain ⟨u, hu, e2⟩ := h.don i _ (by omega) hi c hb
      refine ⟨u, hu, ?_⟩
      rcases e with rfl | e
      · exact e2
      · rcases e2 with rfl | e2
        · exact .inr (e.app _ _)
        · exact .inr (e2.trans (e.app _ _))
  len := fun e he => by
    obtain ⟨i, hi⟩ := List.mem_iff_getElem?.mp he
    have := h.len i e hi
    have := (List.getElem?_eq_some_iff.mp hi).1
    omega
/-- within a turn, the column c with the way w: the new ones -/
def nws (w : List Nat) (nb : List Nat) : List (Nat × List Nat) := nb.map fun b => (b, w ++ [b])
structure TI (ps : List (Nat × Nat)) (ws : List (Nat × List Nat)) (c : Nat) (w : List Nat) (bs : List Nat) (i : Nat) (nb : List Nat) : Prop where
  inc : nb.Pairwise (· < ·)
  sub : ∀ b ∈ nb, b ∈ bs.take i
  new : ∀ b ∈ nb, b ∉ ws.map (·.1)
  all : ∀ b ∈ bs.take i, b ∈ ws.map (·.1) ∨ b ∈ nb
theorem TI.start {ps : List (Nat × Nat)} {ws : List (Nat × List Nat)} {c : Nat} {w bs : List Nat} : TI ps ws c w bs 0 [] where
  inc := .nil
  sub := fun _ h => nomatch h
  new := fun _ h => nomatch h
  all := fun _ h => by simp at h
theorem take1 {α : Type} {l : List α} {i : Nat} {x : α} (h : l[i]? = some x) : l.take (i + 1) = l.take i ++ [x] := by
  rw [List.take_succ, h]
  rfl
theorem nws_keys (w nb : List Nat) : (nws w nb).map (·.1) = nb := by
  unfold nws
  rw [List.map_map]
  exact List.map_id' nb
theorem TI.old {ps : List (Nat × Nat)} {ws : List (Nat × List Nat)} {c : Nat} {w bs nb : List Nat} {i b : Nat} (h : TI ps ws c w bs i nb) (hb : bs[i]? = some b) (hm : b ∈ (ws ++ nws w nb).map (·.1)) : TI ps ws c w bs (i + 1) nb where
  inc := h.inc
  sub := fun x hx => by
    rw [take1 hb]
    exact List.mem_append_left _ (h.sub x hx)
  new := h.new
  all := fun x hx => by
    rw [take1 hb] at hx
    rcases List.mem_append.mp hx with z | z
    · exact h.all x z
    · rw [List.mem_singleton.mp z]
      rw [List.map_append, nws_keys] at hm
      exact List.mem_append.mp hm
theorem TI.add {ps : List (Nat × Nat)} {ws : List (Nat × List Nat)} {c : Nat} {w bs nb : List Nat} {i b : Nat} (h : TI ps ws c w bs i nb) (hs : bs.Pairwise (· ≤ ·)) (hb : bs[i]? = some b) (hm : b ∉ (ws ++ nws w nb).map (·.1)) : TI ps ws c w bs (i + 1) (nb ++ [b]) where
  inc := by
    rw [List.pairwise_append]
    refine ⟨h.inc, by simp, fun x hx y hy => ?_⟩
    rw [List.mem_singleton.mp hy]
    have hx2 := h.sub x hx
    obtain ⟨j, hj⟩ := List.mem_iff_getElem?.mp hx2
    have jl := (List.getElem?_eq_some_iff.mp hj).1
    rw [List.length_take] at jl
    have ji : j < i := by omega
    rw [List.getElem?_take_of_lt ji] at hj
    have le : x ≤ b := by
      obtain ⟨l1, e1⟩ := List.getElem?_eq_some_iff.mp hj
      obtain ⟨l2, e2⟩ := List.getElem?_eq_some_iff.mp hb
      have := List.pairwise_iff_getElem.mp hs j i l1 l2 ji
      rw [e1, e2] at this
      exact this
    have ne : x ≠ b := fun e => hm (by rw [List.map_append, nws_keys, ← e]; exact List.mem_append_right _ hx)
    omega
  sub := fun x hx => by
    rw [take1 hb]
    rcases List.mem_append.mp hx with z | z
    · exact List.mem_append_left _ (h.sub x z)
    · exact List.mem_append_right _ z
  new := fun x hx => by
    rcases List.mem_append.mp hx with z | z
    · exact h.new x z
    · rw [List.mem_singleton.mp z]
      intro q
      exact hm (by rw [List.map_append]; exact List.mem_append_left _ q)
  all := fun x hx => by
    rw [take1 hb] at hx
    rcases List.mem_append.mp hx with z | z
    · rcases h.all x z with y | y
      · exact .inl y
      · exact .inr (List.mem_append_left _ y)
    · exact .inr (List.mem_append_right _ z)
theorem nws_mem {w nb : List Nat} {e : Nat × List Nat} : e ∈ nws w nb ↔ e.1 ∈ nb ∧ e.2 = w ++ [e.1] := by
  unfold nws
  rw [List.mem_map]
  constructor
  · rintro ⟨b, hb, rfl⟩
    exact ⟨hb, rfl⟩
  · rintro ⟨h1, h2⟩
    exact ⟨e.1, h1, by rw [← h2]⟩
/-- the turn's end -/
theorem BI.turn {ps : List (Nat × Nat)} {st : Nat} {ws : List (Nat × List Nat)} {n : Nat} (h : BI ps st ws n) {c : Nat} {w bs nb : List Nat} (hc : ws[n]? = some (c, w)) (hbs : ∀ b, b ∈ bs ↔ (c, b) ∈ ps) (hlt : ∀ x ∈ ps, x.1 < 6 ∧ x.2 < 6) (t : TI ps ws c w bs bs.length nb) : BI ps st (ws ++ nws w nb) (n + 1) := by
  have all : ∀ b ∈ bs, b ∈ ws.map (·.1) ∨ b ∈ nb := fun b hb => t.all b (by rw [List.take_length]; exact hb)
  have sub : ∀ b ∈ nb, (c, b) ∈ ps := fun b hb => (hbs b).mp (by have := t.sub b hb; rw [List.take_length] at this; exact this)
  have hw := h.wk _ (List.mem_of_getElem? hc)
  have nl := (List.getElem?_eq_some_iff.mp hc).1
  have at_ : ∀ {j : Nat} {f : Nat × List Nat}, (ws ++ nws w nb)[j]? = some f → (j < ws.length ∧ ws[j]? = some f) ∨ (ws.length ≤ j ∧ (nws w nb)[j - ws.length]? = some f) := fun {j f} hf => by
    by_cases lt : j < ws.length
    · rw [List.getElem?_append_left lt] at hf
      exact .inl ⟨lt, hf⟩
    · rw [List.getElem?_append_right (by omega)] at hf
      exact .inr ⟨by omega, hf⟩
  constructor
  · rw [List.map_append, nws_keys]
    refine List.nodup_append.mpr ⟨h.nd, t.inc.imp (fun h => by omega), fun x hx y hy e => ?_⟩
    subst e
    exact t.new x hy hx
  · intro e he
    rcases List.mem_append.mp he with z | z
    · exact h.lt e z
    · exact (hlt _ (sub _ (nws_mem.mp z).1)).2
  · intro e he
    rcases List.mem_append.mp he with z | z
    · exact h.wk e z
    · obtain ⟨z1, z2⟩ := nws_mem.mp z
      rw [z2]
      exact hw.step (sub _ z1)
  · intro i j e f hij hi hj
    rcases at_ hi with ⟨i1, i2⟩ | ⟨i1, i2⟩ <;> rcases at_ hj with ⟨j1, j2⟩ | ⟨j1, j2⟩
    · exact h.ord i j e f hij i2 j2
    · rw [(nws_mem.mp (List.mem_of_getElem? j2)).2]
      exact h.low e (List.mem_of_getElem? i2) n _ (Nat.le_refl _) hc _
    · omega
    · rw [(nws_mem.mp (List.mem_of_getElem? j2)).2, (nws_mem.mp (List.mem_of_getElem? i2)).2]
      refine SS.last _ ?_
      unfold nws at i2 j2
      rw [List.getElem?_map] at i2 j2
      cases hi3 : nb[i - ws.length]? with
      | none => rw [hi3] at i2; cases i2
      | some x =>
        cases hj3 : nb[j - ws.length]? with
        | none => rw [hj3] at j2; cases j2
        | some y =>
          rw [hi3] at i2
          rw [hj3] at j2
          cases i2
          cases j2
          obtain ⟨l1, e1⟩ := List.getElem?_eq_some_iff.mp hi3
          obtain ⟨l2, e2⟩ := List.getElem?_eq_some_iff.mp hj3
          have := List.pairwise_iff_getElem.mp t.inc _ _ l1 l2 (by omega)
          rw [e1, e2] at this
          exact this
  · exact List.mem_append_left _ h.beg
  · rw [List.length_append]
    omega
  · intro i e hi
    rcases at_ hi with ⟨i1, i2⟩ | ⟨i1, i2⟩
    · exact h.len i e i2
    · rw [(nws_mem.mp (List.mem_of_getElem? i2)).2, List.length_append]
      have := h.len n _ hc
      simp only [List.length_singleton] at this ⊢
      omega
  · intro i e hi he b hb
    rcases at_ he with ⟨i1, i2⟩ | ⟨i1, i2⟩
    · by_cases lt : i < n
      · obtain ⟨v, hv, q⟩ := h.don i e lt i2 b hb
        exact ⟨v, List.mem_append_left _ hv, q⟩
      · have : i = n := by omega
        subst this
        rw [hc] at i2
        cases i2
        rcases all b ((hbs b).mpr hb) with z | z
        · obtain ⟨⟨b', v⟩, hv, rfl⟩ := List.mem_map.mp z
          exact ⟨v, List.mem_append_left _ hv, .inr (h.low _ hv i _ (Nat.le_refl _) hc _)⟩
        · exact ⟨w ++ [b], List.mem_append_right _ (nws_mem.mpr ⟨z, rfl⟩), .inl rfl⟩
    · omega
  · intro e he j f hj hf x
    have old : ∀ e ∈ ws, ∀ b, SS e.2 (w ++ [b]) := fun e he b => h.low e he n _ (Nat.le_refl _) hc b
    rcases List.mem_append.mp he with z | z
    · rcases at_ hf with ⟨j1, j2⟩ | ⟨j1, j2⟩
      · exact h.low e z j f (by omega) j2 x
      · rw [(nws_mem.mp (List.mem_of_getElem? j2)).2]
        exact (old e z _).trans (SS.snoc _ _)
    · rw [(nws_mem.mp z).2]
      rcases at_ hf with ⟨j1, j2⟩ | ⟨j1, j2⟩
      · exact (h.ord n j _ _ (by omega) hc j2).app _ _
      · rw [(nws_mem.mp (List.mem_of_getElem? j2)).2]
        exact .inl (by simp)
end CC
namespace CC
open PySem L2
/-! ### the dict of ways -/
def Ents (H : Hp) : List (Key × V) → List (Nat × List Nat) → Prop
  | [], [] => True
  | (k, v) :: r, (c, w) :: s => k = Sum.inl (c : Int) ∧ (∃ t, v = .ref t ∧ H t = some (.tup (nms w))) ∧ Ents H r s
  | [], _ :: _ => False
  | _ :: _, [] => False
theorem Ents.mono {H H' : Hp} (e : ∀ t xs, H t = some (.tup xs) → H' t = some (.tup xs)) : ∀ {kvs : List (Key × V)} {ws : List (Nat × List Nat)}, Ents H kvs ws → Ents H' kvs ws
  | [], [], _ => trivial
  | [], _ :: _, h => False.elim h
  | _ :: _, [], h => False.elim h
  | (k, v) :: r, (c, w) :: s, ⟨h1, ⟨t, h2, h3⟩, h4⟩ => ⟨h1, ⟨t, h2, e _ _ h3⟩, Ents.mono e h4⟩
theorem Ents.len {H : Hp} : ∀ {kvs : List (Key × V)} {ws : List (Nat × List Nat)}, Ents H kvs ws → kvs.length = ws.length
  | [], [], _ => rfl
  | [], _ :: _, h => False.elim h
  | _ :: _, [], h => False.elim h
  | (k, v) :: r, (c, w) :: s, ⟨_, _, h⟩ => congrArg (· + 1) (Ents.len h)
theorem Ents.app {H : Hp} : ∀ {kvs kvs2 : List (Key × V)} {ws ws2 : List (Nat × List Nat)}, Ents H kvs ws → Ents H kvs2 ws2 → Ents H (kvs ++ kvs2) (ws ++ ws2)
  | [], _, [], _, _, h => h
  | [], _, _ :: _, _, h, _ => False.elim h
  | _ :: _, _, [], _, h, _ => False.elim h
  | (k, v) :: r, _, (c, w) :: s, _, ⟨h1, h2, h3⟩, h => ⟨h1, h2, Ents.app h3 h⟩
theorem Ents.keys {H : Hp} : ∀ {kvs : List (Key × V)} {ws : List (Nat × List Nat)}, Ents H kvs ws → (kvs.map fun kv => kV kv.1) = nms (ws.map (·.1))
  | [], [], _ => rfl
  | [], _ :: _, h => False.elim h
  | _ :: _, [], h => False.elim h
  | (k, v) :: r, (c, w) :: s, ⟨h1, _, h⟩ => by
    subst h1
    rw [List.map_cons, Ents.keys h]
    rfl
theorem Ents.none {H : Hp} {c : Nat} : ∀ {kvs : List (Key × V)} {ws : List (Nat × List Nat)}, Ents H kvs ws → c ∉ ws.map (·.1) → valV kvs (Sum.inl (c : Int)) = none
  | [], [], _, _ => rfl
  | [], _ :: _, h, _ => False.elim h
  | _ :: _, [], h, _ => False.elim h
  | (k, v) :: r, (d, w) :: s, ⟨h1, _, h⟩, n => by
    subst h1
    rw [List.map_cons, List.mem_cons, not_or] at n
    rw [valV_neg (fun e => n.1 (by have := Sum.inl.inj e; simp only at this ⊢; omega))]
    exact Ents.none h n.2
theorem Ents.some {H : Hp} {c : Nat} {u : List Nat} : ∀ {kvs : List (Key × V)} {ws : List (Nat × List Nat)}, Ents H kvs ws → (ws.map (·.1)).Nodup → (c, u) ∈ ws → ∃ t, valV kvs (Sum.inl (c : Int)) = some (.ref t) ∧ H t = some (.tup (nms u))
  | [], [], _, _, h => nomatch h
  | [], _ :: _, h, _, _ => False.elim h
  | _ :: _, [], h, _, _ => False.elim h
  | (k, v) :: r, (d, w) :: s, ⟨h1, ⟨t, h2, h3⟩, h⟩, nd, m => by
    subst h1 h2
    rw [List.map_cons, List.nodup_cons] at nd
    rcases List.mem_cons.mp m with e | m
    · cases e
      exact ⟨t, valV_pos rfl, h3⟩
    · have ne : ¬ (c = d) := fun e => nd.1 (List.mem_map.mpr ⟨(c, u), m, e⟩)
      obtain ⟨t2, e2, h2⟩ := Ents.some h nd.2 m
      exact ⟨t2, (valV_neg (fun e => ne (by have := Sum.inl.inj e; omega))).trans e2, h2⟩
abbrev sFw : Stmt := tp 18
def spFw (K : PySem.W.Frag) : Sp := fun vs H Q _ => ∃ (a : Addr) (us : List V) (ps : List (Nat × Nat)) (st : Nat), vs = [.ref a, .int (st : Int)] ∧ SqL K H a us ∧ DpAll K H us (ps.map prd) ∧ (∀ x ∈ ps, x.1 < 6 ∧ x.2 < 6) ∧ st < 6 ∧ ps.length ≤ 1000 ∧
  ∀ (D : Addr) (kvs : List (Key × V)) (ws : List (Nat × List Nat)) (H' : Hp), Same H H' → H D = none → H' D = some (.dK kvs) → Ents H' kvs ws → FW ps st ws → Q (.ref D) H'
theorem mem_take_bs {ps : List (Nat × Nat)} {c b : Nat} : b ∈ (ps.filter fun p => decide (p.1 = c)).map (·.2) ↔ (c, b) ∈ ps := by
  simp only [List.mem_map, List.mem_filter, decide_eq_true_eq]
  constructor
  · rintro ⟨⟨x, y⟩, ⟨h1, h2⟩, h3⟩
    simp only at h2 h3
    subst h2 h3
    exact h1
  · exact fun h => ⟨(c, b), ⟨h, rfl⟩, rfl⟩
/-- a sorted list of such numbers -/
theorem nats_of {ns : List Nat} {ns' : List Int} (h : ns'.Perm (ns.map fun (n : Nat) => (n : Int))) : ∃ ms : List Nat, ns' = ms.map (fun (n : Nat) => (n : Int)) ∧ ms.Perm ns := by
  refine ⟨ns'.map Int.toNat, ?_, ?_⟩
  · rw [List.map_map]
    have : ∀ x ∈ ns', ((fun (n : Nat) => (n : Int)) ∘ Int.toNat) x = x := fun x hx => by
      obtain ⟨n, _, rfl⟩ := List.mem_map.mp (h.mem_iff.mp hx)
      simp
    rw [List.map_congr_left this]
    simp
  · have := h.map Int.toNat
    rw [List.map_map] at this
    have e : (Int.toNat ∘ fun (n : Nat) => (n : Int)) = id := by
      funext n
      simp
    rw [e, List.map_id] at this
    exact this
theorem nms_ints (ns : List Nat) : nms ns = (ns.map fun (n : Nat) => (n : Int)).map V.int := by
  unfold nms
  rw [List.map_map]
  rfl
theorem few6' {ws : List (Nat × List Nat)} (nd : (ws.map (·.1)).Nodup) (h : ∀ e ∈ ws, e.1 < 6) : ws.length ≤ 6 := by
  have := few6 nd fun x hx => by
    obtain ⟨e, he, rfl⟩ := List.mem_map.mp hx
    exact h e he
  rwa [List.length_map] at this
def bsF (ps : List (Nat × Nat)) (c : Nat) : List Nat := (ps.filter fun p => decide (p.1 = c)).map (·.2)
theorem bsF_step {ps : List (Nat × Nat)} {c i x y : Nat} (h : ps[i]? = some (x, y)) : bsF (ps.take (i + 1)) c = bsF (ps.take i) c ++ (if x = c then [y] else []) := by
  unfold bsF
  rw [take1 h, List.filter_append, List.map_append]
  by_cases e : x = c
  · simp [e]
  · simp [e]
theorem bsF_len (ps : List (Nat × Nat)) (c : Nat) : (bsF ps c).length ≤ ps.length := by
  unfold bsF
  rw [List.length_map]
  exact List.length_filter_le _ _
section
variable {P : Program} {w : World} {K : PySem.W.Frag} {mg : Str → Option Value} {base : Heap} {kA : Addr}
abbrev nFw : List Str := ["pairs", "start", "ways", "waiting", "column", "b", "first", "second"]
theorem scFw : FnScope nFw ["pairs", "start"] (defScope sFw) := ⟨rfl, rfl, rfl, by decide +kernel, rfl, by decide +kernel, by decide +kernel⟩
theorem ok_fw {f : Addr} {fd : FuncData} {k : Nat} (F : Fun K "first_ways" "first_ways" sFw f fd) (T : Glb K mg kA) : FnOk P w K mg base CX0 (k + 1) f fd ["pairs", "start"] (spFw K) := by
  refine F.ok scFw (fun vs H Q E h => ?_) (fun cdv A outer s H vs Q E hr h => ?_)
  · obtain ⟨a, us, ps, st, rfl, _⟩ := h
    rfl
  · obtain ⟨a, us, ps, st, rfl, ha, dp, hps, hst, hpl, q⟩ := h
    have n := scFw.nd
    have hu := hu_of hr
    refine ⟨_, pss_cons (ps_set (i := 2) n rfl (.inl rfl) (pe_disp (pps_cons (pv 1) (pe_tup (pa_cons (pv 1) pa_nil)) pps_nil) (by rfl) (by rfl) (fun z => by cases z) (by decide)))
      (pss_cons (ps_set (i := 3) n rfl (.inl rfl) (pe_lst (pa_cons (pv 1) pa_nil)))
      (pss_cons (ps_while PassesOwn.never (pt_truth (pv 3) (by intro _; rfl))
        (pss_cons (ps_set (i := 4) n rfl (.inr rfl) (pe_bm PySem.F.plainAttrs_list PySem.F.slot_list_pop PySem.F.type_list_pop mt_popAt (pv 3) (pa_cons pe_int pa_nil)))
        (pss_one (ps_for PassesOwn.never rfl (pi_list (pe_callB cr_sortedI (by rfl) T.srt (by decide +kernel) (pa_cons (pe_lc (own := [("first", 6), ("second", 7)]) (g := g2 K 6 7) (tt := tTest (tOp rEq (tVar 6) (tVar 4))) rfl n (pi_list (pv 0)) (blkOk_by (N := nFw) (sc := defScope sFw) (by decide +kernel))
            (fun _ _ _ _ _ => pg_tup rfl (pgs_cons (pg_name (i := 6) n rfl (.inl rfl)) (pgs_cons (pg_name (i := 7) n rfl (.inl rfl)) pgs_nil)))
            (fun _ _ _ _ _ => pts_one (pt_cmpR op_eq (pv 6) (pv 4) (nomark _))) (fun _ _ _ _ _ => pv 7)) pa_nil))) (pg_name (i := 5) n rfl (.inl rfl))
          (pss_one (ps_if (pt_cmp (pc_dnotin hu (pv 5) (pv 2)))
            (pss_cons (ps_dput hu (pv 2) (pv 5) (pe_tup (StX.pa_star (pe_dget hu (pv 2) (pv 4) (fun _ _ => rfl)) (pa_cons (pv 5) pa_nil))) rfl)
            (pss_one (ps_expr (pe_bm PySem.F.plainAttrs_list PySem.F.slot_list_append PySem.F.type_list_append mt_append (pv 3) (pa_cons (pv 5) pa_nil))))) pss_nil))))))
      (pss_one (ps_ret (pv 2))))), ?_⟩
    have ul : us.length = ps.length := by rw [dps_len dp, List.length_map]
    have un : ∀ {t : Addr} {xs ys : List V} {H1 : Hp} {b : Addr}, H1 t = some (.tup xs) → H1 b = some (.lst ys) → t ≠ b := fun h1 h2 => ne_of h1 h2 (by intro z; cases z)
    have ud : ∀ {t : Addr} {xs : List V} {kvs : List (Key × V)} {H1 : Hp} {b : Addr}, H1 t = some (.tup xs) → H1 b = some (.dK kvs) → t ≠ b := fun h1 h2 => ne_of h1 h2 (by intro z; cases z)
    -- ways = {start: (start,)}
    intro D nD
    refine ⟨_, rfl, _, rfl, (by show 1 ≤ sizeLine; decide), fun t0 nt0 => ?_⟩
    have t0D : t0 ≠ D := fun e => by rw [e, upd_same] at nt0; cases nt0
    refine ⟨by rw [upd_ne t0D.symm]; exact upd_same, [(Sum.inl (st : Int), .ref t0)], rfl, (by show 1 ≤ 15; decide), ?_⟩
    have hD0 : (upd (upd (upd H D (.dK [])) t0 (.tup [.int (st : Int)])) D (.dK (mergeK [] [(Sum.inl (st : Int), .ref t0)]))) D = some (.dK [(Sum.inl (st : Int), .ref t0)]) := upd_same
    have ht0 : (upd (upd (upd H D (.dK [])) t0 (.tup [.int (st : Int)])) D (.dK (mergeK [] [(Sum.inl (st : Int), .ref t0)]))) t0 = some (.tup (nms [st])) := by
      rw [upd_ne t0D, upd_same]
      rfl
    have s0 : Same H (upd (upd (upd H D (.dK [])) t0 (.tup [.int (st : Int)])) D (.dK (mergeK [] [(Sum.inl (st : Int), .ref t0)]))) := same_mut ((same_new nD).trans (same_new nt0)) nD
    generalize upd (upd (upd H D (.dK [])) t0 (.tup [.int (st : Int)])) D (.dK (mergeK [] [(Sum.inl (st : Int), .ref t0)])) = H0 at hD0 ht0 s0
    refine ⟨_, rfl, (by show 1 ≤ sizeLine; decide), fun wt nwt => ?_⟩
    have wD : wt ≠ D := (ne_of_none hD0 nwt).symm
    have nwt0 : H wt = none := s0.free nwt
    -- the while
    refine ⟨fun m σ H1 => ∃ (kvs : List (Key × V)) (ws : List (Nat × List Nat)) (j : Nat) (y4 y5 y6 y7 : Option V), σ = [some (.ref a), some (.int (st : Int)), some (.ref D), some (.ref wt), y4, y5, y6, y7] ∧ Same H H1 ∧ H1 D = some (.dK kvs) ∧ Ents H1 kvs ws ∧ H1 wt = some (.lst (nms ((ws.drop j).map (·.1)))) ∧ BI ps st ws j ∧ m = 6 - j,
      ⟨_, [(Sum.inl (st : Int), .ref t0)], [(st, [st])], 0, none, none, none, none, rfl, s0.trans (same_new nwt), same_new nwt _ _ hD0, ⟨rfl, ⟨t0, rfl, same_new nwt _ _ ht0⟩, trivial⟩, upd_same, BI.start hst, rfl⟩, ?_⟩
    rintro m σ H1 ⟨kvs, ws, j, y4, y5, y6, y7, rfl, s1, hD, en, hw, inv, rfl⟩
    refine ⟨_, rfl, _, .inl ⟨_, SqL.of hw, rfl⟩, ?_⟩
    by_cases jl : j < ws.length
    · obtain ⟨⟨c, cw⟩, hc⟩ : ∃ e, ws[j]? = some e := ⟨_, List.getElem?_eq_getElem jl⟩
      have dr : ws.drop j = (c, cw) :: ws.drop (j + 1) := by
        rw [List.drop_eq_getElem_cons jl]
        congr 1
        exact (List.getElem?_eq_some_iff.mp hc).2
      have w6 := few6' inv.nd inv.lt
      have ne : (!(nms ((ws.drop j).map (·.1))).isEmpty) = true := by
        rw [dr]
        rfl
      rw [ne]
      refine iteT ⟨fun σ' H' => ∃ (kvs : List (Key × V)) (ws' : List (Nat × List Nat)) (y4 y5 y6 y7 : Option V), σ' = [some (.ref a), some (.int (st : Int)), some (.ref D), some (.ref wt), y4, y5, y6, y7] ∧ Same H H' ∧ H' D = some (.dK kvs) ∧ Ents H' kvs ws' ∧ H' wt = some (.lst (nms ((ws'.drop (j + 1)).map (·.1)))) ∧ BI ps st ws' (j + 1), ?_, ?_⟩
      · rintro σ' H' ⟨kvs, ws', y4, y5, y6, y7, rfl, g1, g2, g3, g4, g5⟩
        exact ⟨6 - (j + 1), by omega, kvs, ws', j + 1, y4, y5, y6, y7, rfl, g1, g2, g3, g4, g5, rfl⟩
      -- column = waiting.pop(0)
      refine ⟨_, rfl, .inl ⟨rfl, _, SqL.of hw⟩, wt, _, 0, 0, .int (c : Int), rfl, rfl, hw, by decide, by decide, ?_, ?_, ?_⟩
      · rw [dr]
        simp [seqIndex?, nms]
      · rw [dr]
        rfl
      have e1 : (nms ((ws.drop j).map (·.1))).eraseIdx 0 = nms ((ws.drop (j + 1)).map (·.1)) := by
        rw [dr]
        rfl
      rw [e1]
      have s2 : Same H (upd H1 wt (.lst (nms ((ws.drop (j + 1)).map (·.1))))) := same_mut s1 nwt0
      have h2D : (upd H1 wt (.lst (nms ((ws.drop (j + 1)).map (·.1))))) D = some (.dK kvs) := by rw [upd_ne wD.symm]; exact hD
      have h2w : (upd H1 wt (.lst (nms ((ws.drop (j + 1)).map (·.1))))) wt = some (.lst (nms ((ws.drop (j + 1)).map (·.1)))) := upd_same
      have en2 : Ents (upd H1 wt (.lst (nms ((ws.drop (j + 1)).map (·.1))))) kvs ws := en.mono fun t xs h => by rw [upd_ne (un h hw)]; exact h
      generalize upd H1 wt (.lst (nms ((ws.drop (j + 1)).map (·.1)))) = H2 at s2 h2D h2w en2
      -- the columns behind it
      refine ⟨_, rfl, a, rfl, ⟨_, same_l s2 ha⟩, fun L nL => ?_⟩
      refine lc_list (xs := us) (fun i H3 => Same H2 (wo H3 L) ∧ H3 L = some (.lst (nms (bsF (ps.take i) c)))) ⟨?_, upd_same⟩ (fun i H3 _ z => same_l (s2.trans (z.1.trans (wo_le L))) ha) ?_ ?_
      · rw [wo_upd]
        exact fun b o e => by rw [wo_ne (ne_of_none e nL)]; exact e
      · rintro i v H3 hv ⟨q1, q2⟩
        obtain ⟨⟨x, y⟩, hxy, dv⟩ := dps_pat dp hv
        have il : i < ps.length := (List.getElem?_eq_some_iff.mp hxy).1
        obtain ⟨t, rfl, ht⟩ := dp_p (dp_same (s2.trans (q1.trans (wo_le L))) _ _ dv)
        refine ⟨t, _, rfl, ht, rfl, _, _, rfl, _, _, rfl, rfl, rfl, ?_⟩
        refine ⟨_, rfl, _, rfl, rfl, _, rfl, ?_⟩
        rw [bsF_step hxy]
        by_cases e : x = c
        · subst e
          rw [show decide (V.int (x : Int) = V.int (x : Int)) = true from decide_eq_true rfl, if_pos (show x = x from rfl)]
          have bl := bsF_len (ps.take i) x
          rw [List.length_take] at bl
          have big : (nms (bsF (ps.take i) x)).length < sizeLine := Nat.lt_of_lt_of_le (show (nms (bsF (ps.take i) x)).length < 100000 by rw [nms_len]; omega) (by decide)
          refine iteT ?_
          refine ⟨_, rfl, _, q2, big, ?_, ?_⟩
          · rw [wo_upd]
            exact q1
          · rw [upd_same, nms_app]
            rfl
        · rw [show decide (V.int (x : Int) = V.int (c : Int)) = false from decide_eq_false (fun z => e (by injection z with z; omega)), if_neg e, List.append_nil]
          exact iteF ⟨q1, q2⟩
      rintro H3 ⟨q1, q2⟩
      rw [ul, List.take_length] at q2
      have s23 : Same H2 H3 := q1.trans (wo_le L)
      rw [nms_ints] at q2
      refine ⟨L, _, rfl, SqL.of q2, fun ns' p2 pm st2 n2 => ?_⟩
      obtain ⟨bs, rfl, pm2⟩ := nats_of pm
      rw [← nms_ints]
      have bsl : bs.Pairwise (· ≤ ·) := by
        rw [List.pairwise_map] at st2
        exact st2.imp fun h => by omega
      have hbs : ∀ b, b ∈ bs ↔ (c, b) ∈ ps := fun b => by
        rw [pm2.mem_iff]
        exact mem_take_bs
      have s24 : Same H2 (upd H3 p2 (.lst (nms bs))) := s23.trans (same_new n2)
      have h4p : (upd H3 p2 (.lst (nms bs))) p2 = some (.lst (nms bs)) := upd_same
      have n2' : H2 p2 = none := s23.free n2
      generalize upd H3 p2 (.lst (nms bs)) = H4 at s24 h4p
      have pD : p2 ≠ D := (ne_of_none h2D n2').symm
      have pw : p2 ≠ wt := (ne_of_none h2w n2').symm
      refine ⟨p2, rfl, ⟨_, SqL.of h4p⟩, ?_⟩
      have cm : (c, cw) ∈ ws := List.mem_of_getElem? hc
      refine for_list (xs := nms bs) (fun i σ' H' => ∃ (kvs : List (Key × V)) (nb : List Nat) (y5 y6 y7 : Option V), σ' = [some (.ref a), some (.int (st : Int)), some (.ref D), some (.ref wt), some (.int (c : Int)), y5, y6, y7] ∧ Same H H' ∧ H' p2 = some (.lst (nms bs)) ∧ H' D = some (.dK kvs) ∧ Ents H' kvs (ws ++ nws cw nb) ∧ H' wt = some (.lst (nms (((ws ++ nws cw nb).drop (j + 1)).map (·.1)))) ∧ TI ps ws c cw bs i nb)
        ⟨kvs, [], y5, y6, y7, rfl, s2.trans s24, h4p, s24 _ _ h2D, by rw [show nws cw [] = [] from rfl, List.append_nil]; exact en2.mono fun t xs h => s24 _ _ h, by rw [show nws cw [] = [] from rfl, List.append_nil]; exact s24 _ _ h2w, TI.start⟩
        (fun i σ' H' _ ⟨_, _, _, _, _, _, _, z, _⟩ => SqL.of z) ?_ ?_
      · rintro i v σ' H5 hv ⟨kvs, nb, y5, y6, y7, rfl, s5, g0, g1, g2, g3, ti⟩
        obtain ⟨b, hb, rfl⟩ : ∃ b, bs[i]? = some b ∧ v = .int (b : Int) := by
          rw [nms, List.getElem?_map] at hv
          cases z : bs[i]? with
          | none => rw [z] at hv; cases hv
          | some m => rw [z] at hv; exact ⟨m, rfl, (Option.some.inj hv).symm⟩
        have hbp : (c, b) ∈ ps := (hbs b).mp (List.mem_of_getElem? hb)
        have nbs : ∀ x ∈ nb, x < 6 := fun x hx => (hps _ ((hbs x).mp (List.mem_of_mem_take (ti.sub x hx)))).2
        have ndk : ((ws ++ nws cw nb).map (·.1)).Nodup := by
          rw [List.map_append, nws_keys]
          refine List.nodup_append.mpr ⟨inv.nd, ti.inc.imp (fun h => by omega), fun x hx y hy e => ?_⟩
          subst e
          exact ti.new x hy hx
        have lt6 : ∀ e ∈ ws ++ nws cw nb, e.1 < 6 := fun e he => by
          rcases List.mem_append.mp he with z | z
          · exact inv.lt e z
          · exact nbs _ (nws_mem.mp z).1
        have few := few6' ndk lt6
        have kl := g2.len
        refine ⟨_, rfl, _, rfl, D, _, rfl, DGet.k (k := Sum.inl (b : Int)) g1, _, rfl, ?_⟩
        by_cases hm : b ∈ (ws ++ nws cw nb).map (·.1)
        · obtain ⟨⟨b', u⟩, hu2, rfl⟩ := List.mem_map.mp hm
          obtain ⟨t, e3, _⟩ := g2.some ndk hu2
          rw [e3]
          exact iteF ⟨kvs, nb, _, _, _, rfl, s5, g0, g1, g2, g3, ti.old hb hm⟩
        · rw [g2.none hm]
          refine iteT ?_
          obtain ⟨t, e3, h3⟩ := g2.some ndk (List.mem_append_left _ cm)
          have gc := DGet.k (k := Sum.inl (c : Int)) g1
          rw [e3] at gc
          refine ⟨_, rfl, _, rfl, D, _, rfl, gc, t, _, rfl, .inl (SqT.of h3), _, rfl, ?_, fun t5 nt5 => ?_⟩
          · have := inv.len j _ hc
            exact Nat.le_of_lt (small1000 (by rw [List.length_append, nms_len]; simp only [List.length_singleton] at this ⊢; omega))
          have t5D : t5 ≠ D := (ne_of_none g1 nt5).symm
          have t5w : t5 ≠ wt := (ne_of_none g3 nt5).symm
          have t5p : t5 ≠ p2 := (ne_of_none g0 nt5).symm
          have nt5' : H t5 = none := s5.free nt5
          refine ⟨_, rfl, _, rfl, D, _, rfl, DPut.k (k := Sum.inl (b : Int)) (by rw [upd_ne t5D.symm]; exact g1) (small1000 (by omega)), ?_⟩
          rw [putK_new _ (g2.none hm)]
          have g3' : (upd (upd H5 t5 (.tup (nms cw ++ [.int (b : Int)]))) D (.dK (kvs ++ [(Sum.inl (b : Int), .ref t5)]))) wt = some (.lst (nms (((ws ++ nws cw nb).drop (j + 1)).map (·.1)))) := by
            rw [upd_ne wD, upd_ne t5w.symm]
            exact g3
          refine ⟨_, rfl, .inl ⟨rfl, _, SqL.of g3'⟩, _, rfl, wt, _, _, rfl, rfl, g3', small1000 (by rw [nms_len, List.length_map, List.length_drop]; omega), ?_⟩
          have eq1 : ws ++ nws cw (nb ++ [b]) = (ws ++ nws cw nb) ++ [(b, cw ++ [b])] := by
            unfold nws
            rw [List.map_append, List.append_assoc]
            rfl
          refine ⟨kvs ++ [(Sum.inl (b : Int), .ref t5)], nb ++ [b], _, _, _, rfl, same_mut (same_mut (s5.trans (same_new nt5)) nD) nwt0, ?_, ?_, ?_, ?_, ti.add bsl hb hm⟩
          · rw [upd_ne pw, upd_ne pD, upd_ne t5p.symm]
            exact g0
          · rw [upd_ne wD.symm]
            exact upd_same
          · rw [eq1]
            refine Ents.app (g2.mono fun t xs h => ?_) ⟨rfl, ⟨t5, rfl, ?_⟩, trivial⟩
            · rw [upd_ne (un h g3), upd_ne (ud h g1), upd_ne (ne_of_none h nt5)]
              exact h
            · rw [upd_ne t5w, upd_ne t5D, upd_same, nms_app]
              rfl
          · have eq2 : (ws ++ nws cw (nb ++ [b])).drop (j + 1) = (ws ++ nws cw nb).drop (j + 1) ++ [(b, cw ++ [b])] := by
              rw [eq1]
              exact List.drop_append_of_le_length (by rw [List.length_append]; omega)
            rw [upd_same, eq2, List.map_append, nms_app]
            rfl
      · rintro σ' H5 ⟨kvs, nb, y5, y6, y7, rfl, s5, g0, g1, g2, g3, ti⟩
        rw [nms_len] at ti
        exact ⟨kvs, _, _, _, _, _, rfl, s5, g1, g2, g3, inv.turn hc hbs hps ti⟩
    · have e1 : (!(nms ((ws.drop j).map (·.1))).isEmpty) = false := by
        rw [List.drop_eq_nil_of_le (by omega)]
        rfl
      rw [e1]
      refine iteF ⟨_, rfl, q D kvs ws H1 s1 nD hD en (inv.out (by omega))⟩
end
end CC
namespace CC
open PySem L2
abbrev sReached : Stmt := tp 19
theorem wk_of {ps : List (Nat × Nat)} {a b : Nat} (h : Rch ps a b) : ∃ w, Wk ps a b w := by
  induction h with
  | refl => exact ⟨_, .one⟩
  | step _ h ih =>
    obtain ⟨w, hw⟩ := ih
    exact ⟨_, hw.step h⟩
theorem rch_of {ps : List (Nat × Nat)} {a b : Nat} {w : List Nat} (h : Wk ps a b w) : Rch ps a b := by
  induction h with
  | one => exact .refl
  | step _ h ih => exact ih.step h
theorem FW.keys {ps : List (Nat × Nat)} {st : Nat} {ws : List (Nat × List Nat)} (h : FW ps st ws) (c : Nat) : c ∈ ws.map (·.1) ↔ Rch ps st c := by
  constructor
  · intro z
    obtain ⟨e, he, rfl⟩ := List.mem_map.mp z
    exact rch_of (h.wk e he)
  · intro z
    obtain ⟨w, hw⟩ := wk_of z
    obtain ⟨v, hv, _⟩ := h.fst c w hw
    exact List.mem_map.mpr ⟨_, hv, rfl⟩
def spReached (K : PySem.W.Frag) : Sp := fun vs H Q _ => ∃ (a : Addr) (us : List V) (ps : List (Nat × Nat)) (st : Nat), vs = [.ref a, .int (st : Int)] ∧ SqL K H a us ∧ DpAll K H us (ps.map prd) ∧ (∀ x ∈ ps, x.1 < 6 ∧ x.2 < 6) ∧ st < 6 ∧ ps.length ≤ 1000 ∧
  ∀ (p : Addr) (fs : List Nat) (H' : Hp), Same H H' → H p = none → H' p = some (.lst (nms fs)) → (∀ c, c ∈ fs ↔ Rch ps st c) → fs.Pairwise (· < ·) → Q (.ref p) H'
section
variable {P : Program} {w : World} {K : PySem.W.Frag} {mg : Str → Option Value} {base : Heap} {kA : Addr}
theorem scReached : FnScope ["pairs", "start"] ["pairs", "start"] (defScope sReached) := ⟨rfl, rfl, rfl, by decide +kernel, rfl, by decide +kernel, by decide +kernel⟩
theorem ok_reached {f : Addr} {fd : FuncData} {k : Nat} (F : Fun K "reached" "reached" sReached f fd) (T : Glb K mg kA) (cF : Cal P w K mg base "first_ways" ["pairs", "start"] (spFw K) 1) : FnOk P w K mg base CX0 (k + 2) f fd ["pairs", "start"] (spReached K) := by
  have GF := cF.ok (k + 1) (by omega)
  refine F.ok scReached (fun vs H Q E h => ?_) (fun cdv A outer s H vs Q E hr h => ?_)
  · obtain ⟨a, us, ps, st, rfl, _⟩ := h
    rfl
  · obtain ⟨a, us, ps, st, rfl, ha, dp, hps, hst, hpl, q⟩ := h
    refine ⟨_, pss_one (ps_ret (pe_callB cr_sortedI (by rfl) T.srt (by decide +kernel) (pa_cons (pe_callTy (call_listD rfl) (by rfl) T.lst (by decide +kernel) (pa_cons (pe_call GF hr rfl cF.g cF.kp cF.b .nil pass0 (pa_cons (pv 0) (pa_cons (pv 1) pa_nil))) pa_nil)) pa_nil))), ?_⟩
    refine ⟨_, rfl, _, rfl, a, us, ps, st, rfl, ha, dp, hps, hst, hpl, fun D kvs ws H1 s1 nD hD en fw => ?_⟩
    refine ⟨D, kvs, rfl, .inl hD, fun p np => ?_⟩
    rw [en.keys, nms_ints]
    have s2 : Same H1 (upd H1 p (.lst (((ws.map (·.1)).map fun (n : Nat) => (n : Int)).map V.int))) := same_new np
    have h2 : (upd H1 p (.lst (((ws.map (·.1)).map fun (n : Nat) => (n : Int)).map V.int))) p = some (.lst (((ws.map (·.1)).map fun (n : Nat) => (n : Int)).map V.int)) := upd_same
    generalize upd H1 p (.lst (((ws.map (·.1)).map fun (n : Nat) => (n : Int)).map V.int)) = H2 at s2 h2
    refine ⟨p, _, rfl, SqL.of h2, fun ns' p2 pm st2 n2 => ?_⟩
    obtain ⟨ms, rfl, pm2⟩ := nats_of pm
    rw [← nms_ints]
    refine q p2 ms _ ((s1.trans s2).trans (same_new n2)) ((s1.trans s2).free n2) upd_same (fun c => ?_) ?_
    · rw [pm2.mem_iff]
      exact fw.keys c
    · have nd : ms.Nodup := pm2.nodup_iff.mpr fw.nd
      have le : ms.Pairwise (· ≤ ·) := by
        rw [List.pairwise_map] at st2
        exact st2.imp fun h => by omega
      exact (le.and nd).imp fun h => by omega
end
end CC
namespace CC
open PySem L2 TL
/-- the source at s is one again, all else that stood still stands -/
structure Ran (H H' : Hp) (s : Addr) : Prop where
  same : Same (wo H s) (wo H' s)
  src : ∃ o, H' s = some o ∧ IsSrc o
theorem Ran.one {H : Hp} {s : Addr} {o : HO} (h : IsSrc o) : Ran H (upd H s o) s := ⟨by rw [wo_upd]; exact Same.refl _, o, upd_same, h⟩
theorem Ran.trans {H H1 H2 : Hp} {s : Addr} (a : Ran H H1 s) (b : Ran H1 H2 s) : Ran H H2 s := ⟨a.same.trans b.same, b.src⟩
theorem Ran.grow {H H1 H2 : Hp} {s : Addr} (a : Ran H H1 s) (b : Same H1 H2) : Ran H H2 s := by
  obtain ⟨o, h1, h2⟩ := a.src
  exact ⟨a.same.trans (wo_same b), o, b _ _ h1, h2⟩
theorem Ran.at_ {H H1 : Hp} {s b : Addr} {o : HO} (a : Ran H H1 s) (h : H b = some o) (n : b ≠ s) : H1 b = some o := wo_le s _ _ (a.same b o (by rw [wo_ne n]; exact h))
theorem Ran.free {H H1 : Hp} {s b : Addr} (a : Ran H H1 s) (h : H1 b = none) : H b = none := by
  by_cases e : b = s
  · obtain ⟨o, h1, _⟩ := a.src
    rw [e, h1] at h
    cases h
  · cases z : H b with
    | none => rfl
    | some o =>
      rw [a.at_ z e] at h
      cases h
theorem Ran.ne {H H1 : Hp} {s b : Addr} (a : Ran H H1 s) (h : H1 b = none) : b ≠ s := fun e => by
  obtain ⟨o, h1, _⟩ := a.src
  rw [e, h1] at h
  cases h
def Src (H : Hp) (s : Addr) : Prop := ∃ o, H s = some o ∧ IsSrc o
def spDraw2 : Sp := fun vs H Q _ => ∃ (s : Addr) (m : Nat), vs = [.ref s, .int (m : Int)] ∧ Src H s ∧ 0 < m ∧ m < 1000000 ∧ ∀ (r : Nat) (H' : Hp), r < m → Ran H H' s → Q (.int (r : Int)) H'
def spChoose (K : PySem.W.Frag) : Sp := fun vs H Q _ => ∃ (s : Addr) (v : V), vs = [.ref s, v] ∧ Src H s ∧
  ((∃ (a : Addr) (xs : List V), v = .ref a ∧ SqL K (wo H s) a xs ∧ 0 < xs.length ∧ xs.length < 1000 ∧ ∀ (i : Nat) (x : V) (H' : Hp), xs[i]? = some x → Ran H H' s → Q x H') ∨
  ∃ z : Str, v = .str z ∧ 0 < z.length ∧ z.length < 1000 ∧ ∀ (c : Nat) (H' : Hp), Ran H H' s → Q (.str ⟨#[c]⟩) H')
def spIsEq : Sp := fun vs H Q _ => ∃ b c : Bool, vs = [.bl b, .bl c] ∧ Q (.bl (b == c)) H
def spMixed (K : PySem.W.Frag) : Sp := fun vs H Q _ => ∃ (s : Addr) (m : Nat), vs = [.ref s, .int (m : Int)] ∧ Src H s ∧ m ≤ 900 ∧
  ∀ (p : Addr) (ns : List Nat) (H' : Hp), Ran H H' s → H p = none → p ≠ s → H' p = some (.lst (nms ns)) → ns.length = m → ns.Nodup → (∀ x ∈ ns, x < m) → Q (.ref p) H'
def spStep (K : PySem.W.Frag) : Sp := fun vs H Q _ => ∃ (s : Addr) (a b : Nat) (z : Str), vs = [.ref s, .int (a : Int), .int (b : Int), .str z] ∧ Src H s ∧ 0 < z.length ∧ z.length < 1000 ∧
  ∀ (t : Addr) (r : R) (H' : Hp), (r = ⟨true, a, b⟩ ∨ r = ⟨false, b, a⟩) → Ran H H' s → H t = none → t ≠ s → Dp K (wo H' s) (.ref t) r.d → Q (.ref t) H'
section
variable {X : Cx}
theorem call_repr_bl : CallR X (.builtin "repr") (fun xs H Q => ∃ b, xs = [.bl b] ∧ Q (.str (if b then "True" else "False")) H) := by
  intro pins s σ H xs us Q I r h
  obtain ⟨b, rfl, q⟩ := h
  obtain ⟨u, rfl, rfl⟩ := vals1 r
  exact PySem.P.repr_of_bool ⟨.str _, H, I.tok _, ⟨_, by cases b <;> rfl⟩, q⟩
end
theorem nms_at {ns : List Nat} {i : Nat} {x : V} (h : (nms ns)[i]? = some x) : ∃ m, ns[i]? = some m ∧ x = .int (m : Int) := by
  rw [nms, List.getElem?_map] at h
  cases z : ns[i]? with
  | none =>
    rw [z] at h
    cases h
  | some m =>
    rw [z] at h
    exact ⟨m, rfl, (Option.some.inj h).symm⟩
theorem int_ne (a b : Nat) : (!decide (V.int (a : Int) = V.int (b : Int))) = decide (a ≠ b) := by
  by_cases e : a = b
  · subst e
    simp
  · rw [decide_eq_false (fun z => e (by injection z with z; omega)), decide_eq_true e]
    rfl
end CC
namespace CC
open PySem L2
def spAll (K : PySem.W.Frag) : Sp := fun vs H Q _ => ∃ w : Nat, vs = [.int (w : Int)] ∧ w ≤ 6 ∧ NewF R.d K H (allR w) Q
theorem MadeF.extend {α : Type} {f : α → PyData} {K : PySem.W.Frag} {H0 H H' : Hp} {D : Addr} {n m : Nat} {rs rs2 : List α} {us zs : List V} (p : MadeF f K H0 D n H rs) (hD : H D = some (.lst us)) (q3 : Same H H') (q1 : DpAll K (wo H' D) zs (rs2.map f)) (hm : n + zs.length ≤ m) :
    MadeF f K H0 D m (upd H' D (.lst (us ++ zs))) (rs ++ rs2) := by
  obtain ⟨us', p1, p2, p3, p4⟩ := p
  rw [hD] at p2
  cases p2
  refine ⟨us ++ zs, ?_, upd_same, ?_, ?_⟩
  · rw [wo_upd]
    exact p1.trans (wo_same q3)
  · rw [wo_upd, List.map_append]
    exact dps_app (dps_same (wo_same q3) _ _ p3) q1
  · rw [List.length_append]
    omega
/-! tuples never change -/
structure SameT (H H' : Hp) : Prop where
  tup : ∀ b xs, H b = some (.tup xs) → H' b = some (.tup xs)
  frz : ∀ b o xs, H b = some (.frz o (.tup xs)) → H' b = some (.frz o (.tup xs))
theorem sqt_T {K : PySem.W.Frag} {H H' : Hp} {a : Addr} {xs : List V} (e : SameT H H') (h : SqT K H a xs) : SqT K H' a xs := by
  rcases h with (h | ⟨o, h⟩) | h
  · exact .inl (.inl (e.tup _ _ h))
  · exact .inl (.inr ⟨o, e.frz _ _ _ h⟩)
  · exact .inr h
theorem rd_T {K : PySem.W.Frag} {H H' : Hp} {v : V} {r : R} (e : SameT H H') (h : Dp K H v r.d) : Dp K H' v r.d := by
  obtain ⟨p, rfl, hp⟩ := dp_r h
  exact r_dp (sqt_T e hp)
theorem rds_T {K : PySem.W.Frag} {H H' : Hp} (e : SameT H H') : ∀ {rs : List R} {us : List V}, DpAll K H us (rs.map R.d) → DpAll K H' us (rs.map R.d)
  | [], _, h => by
    cases h
    exact .nil
  | r :: rs, _, h => by
    cases h with
    | cons h1 h2 => exact .cons (rd_T e h1) (rds_T e h2)
theorem prd_T {K : PySem.W.Frag} {H H' : Hp} {v : V} {r : Nat × Nat} (e : SameT H H') (h : Dp K H v (prd r)) : Dp K H' v (prd r) := by
  obtain ⟨p, rfl, hp⟩ := dp_p h
  exact p_dp (sqt_T e hp)
theorem prds_T {K : PySem.W.Frag} {H H' : Hp} (e : SameT H H') : ∀ {rs : List (Nat × Nat)} {us : List V}, DpAll K H us (rs.map prd) → DpAll K H' us (rs.map prd)
  | [], _, h => by
    cases h
    exact .nil
  | r :: rs, _, h => by
    cases h with
    | cons h1 h2 => exact .cons (prd_T e h1) (prds_T e h2)
theorem same_T {H H' : Hp} (e : Same H H') : SameT H H' := ⟨fun b xs h => e _ _ h, fun b o xs h => e _ _ h⟩
theorem SameT.trans {H H1 H2 : Hp} (a : SameT H H1) (b : SameT H1 H2) : SameT H H2 := ⟨fun c xs h => b.tup _ _ (a.tup _ _ h), fun c o xs h => b.frz _ _ _ (a.frz _ _ _ h)⟩
/-- a list that is left out, or changed, is no tuple -/
theorem wo_T {H : Hp} {l : Addr} {us : List V} (h : H l = some (.lst us)) : SameT H (wo H l) := by
  constructor
  · intro b xs e
    rw [wo_ne (ne_of e h (by intro z; cases z))]
    exact e
  · intro b o xs e
    rw [wo_ne (ne_of e h (by intro z; cases z))]
    exact e
theorem upd_T {H : Hp} {l : Addr} {us : List V} {o : HO} (h : H l = some (.lst us)) : SameT H (upd H l o) := by
  constructor
  · intro b xs e
    rw [upd_ne (ne_of e h (by intro z; cases z))]
    exact e
  · intro b o xs e
    rw [upd_ne (ne_of e h (by intro z; cases z))]
    exact e
theorem row_len (w a : Nat) (k : Bool) : (row w a k).length ≤ w := by
  unfold row
  rw [List.length_map]
  have := List.length_filter_le (fun b => decide (a ≠ b)) (List.range w)
  rw [List.length_range] at this
  exact this
end CC
namespace CC
open PySem L2 TL
def gd (m : List Nat) : PyData := .tuple (m.map fun (n : Nat) => PyData.int (n : Int))
theorem dps_nms {K : PySem.W.Frag} {H : Hp} : ∀ fs : List Nat, DpAll K H (nms fs) (fs.map fun (n : Nat) => PyData.int (n : Int))
  | [] => .nil
  | n :: fs => .cons (.int _) (dps_nms fs)
theorem nms_dps {K : PySem.W.Frag} {H : Hp} : ∀ {fs : List Nat} {us : List V}, DpAll K H us (fs.map fun (n : Nat) => PyData.int (n : Int)) → us = nms fs
  | [], _, h => by
    cases h
    rfl
  | n :: fs, _, h => by
    cases h with
    | cons h1 h2 =>
      rw [dp_int h1, nms_dps h2]
      rfl
theorem dp_gd {K : PySem.W.Frag} {H : Hp} {t : Addr} {m : List Nat} (h : SqT K H t (nms m)) : Dp K H (.ref t) (gd m) := .tup h (dps_nms m)
theorem gd_at {K : PySem.W.Frag} {H : Hp} {v : V} {m : List Nat} (h : Dp K H v (gd m)) : ∃ t, v = .ref t ∧ SqT K H t (nms m) := by
  obtain ⟨p, us, rfl, h1, h2⟩ := dp_t h
  rw [nms_dps h2] at h1
  exact ⟨p, rfl, h1⟩
theorem gd_T {K : PySem.W.Frag} {H H' : Hp} {v : V} {m : List Nat} (e : SameT H H') (h : Dp K H v (gd m)) : Dp K H' v (gd m) := by
  obtain ⟨t, rfl, ht⟩ := gd_at h
  exact dp_gd (sqt_T e ht)
theorem gds_T {K : PySem.W.Frag} {H H' : Hp} (e : SameT H H') : ∀ {ms : List (List Nat)} {us : List V}, DpAll K H us (ms.map gd) → DpAll K H' us (ms.map gd)
  | [], _, h => by
    cases h
    exact .nil
  | m :: ms, _, h => by
    cases h with
    | cons h1 h2 => exact .cons (gd_T e h1) (gds_T e h2)
theorem dps_gat {K : PySem.W.Frag} {H : Hp} {gs : List V} {ms : List (List Nat)} {i : Nat} {v : V} (h : DpAll K H gs (ms.map gd)) (e : gs[i]? = some v) : ∃ m, ms[i]? = some m ∧ Dp K H v (gd m) := by
  obtain ⟨d, h1, h2⟩ := dps_at h e
  rw [List.getElem?_map] at h1
  cases q : ms[i]? with
  | none => rw [q] at h1; cases h1
  | some m =>
    rw [q] at h1
    cases h1
    exact ⟨m, rfl, h2⟩
def rTupOf (K : PySem.W.Frag) : List V → Hp → VK → Prop := fun xs H Q => ∃ p ys, xs = [.ref p] ∧ ((SqL K H p ys ∧ ∀ l, H l = none → Q (.ref l) (upd H l (.tup ys))) ∨ (SqT K H p ys ∧ Q (.ref p) H))
end CC
namespace CC
open PySem L2
/-! ### what follows -/
inductive RT (S : Nat → Nat → Prop) (a : Nat) : Nat → Prop
  | refl : RT S a a
  | step {b c : Nat} : RT S a b → S b c → RT S a c
theorem rch_rt {ps : List (Nat × Nat)} {S : Nat → Nat → Prop} (h : ∀ x y, (x, y) ∈ ps ↔ S x y) {a b : Nat} : Rch ps a b ↔ RT S a b := by
  constructor
  · intro r
    induction r with
    | refl => exact .refl
    | step _ q ih => exact ih.step ((h _ _).mp q)
  · intro r
    induction r with
    | refl => exact .refl
    | step _ q ih => exact ih.step ((h _ _).mpr q)
theorem RT.trans {S : Nat → Nat → Prop} {a b c : Nat} (h1 : RT S a b) (h2 : RT S b c) : RT S a c := by
  induction h2 with
  | refl => exact h1
  | step _ h ih => exact ih.step h
/-- a given rule, or one that can be turned round -/
def Lk (rs : List R) (k : Bool) (x y : Nat) : Prop := (⟨k, x, y⟩ : R) ∈ rs ∨ ((⟨k, y, x⟩ : R) ∈ rs ∧ Rch (rs.map down) x y ∧ Rch (rs.map down) y x)
def Fol (rs : List R) (r : R) : Prop := RT (Lk rs r.k) r.a r.b
def lsd (fs : List Nat) : PyData := .list (fs.map fun (n : Nat) => PyData.int (n : Int))
theorem lsd_at {K : PySem.W.Frag} {H : Hp} {v : V} {fs : List Nat} (h : Dp K H v (lsd fs)) : ∃ p, v = .ref p ∧ SqL K H p (nms fs) := by
  obtain ⟨p, us, rfl, h1, h2⟩ := dp_l h
  rw [nms_dps h2] at h1
  exact ⟨p, rfl, h1⟩
abbrev sLinks : Stmt := tp 20
abbrev sFollows : Stmt := tp 21
abbrev sCall : Stmt := inClass (tp 25) 7
def spLinks (K : PySem.W.Frag) : Sp := fun vs H Q _ => ∃ (w : Nat) (g : Addr) (us : List V) (rs : List R) (k : Bool), vs = [.int (w : Int), .ref g, .str (kd k)] ∧ SqT K H g us ∧ DpAll K H us (rs.map R.d) ∧ (∀ r ∈ rs, r.ok w) ∧ w ≤ 6 ∧ rs.length ≤ 60 ∧
  ∀ (p : Addr) (us' : List V) (ps : List (Nat × Nat)) (H' : Hp), Same H H' → H p = none → H' p = some (.lst us') → DpAll K (wo H' p) us' (ps.map prd) → (∀ x y, (x, y) ∈ ps ↔ Lk rs k x y) → ps.length ≤ 120 → Q (.ref p) H'
theorem kd_ne (j k : Bool) : decide (V.str (kd j) = V.str (kd k)) = decide (j = k) := by
  cases j <;> cases k <;> decide +kernel
def pk (rs : List R) (k : Bool) : List (Nat × Nat) := (rs.filter fun r => decide (r.k = k)).map fun r => (r.a, r.b)
theorem pk_mem {rs : List R} {k : Bool} {x y : Nat} : (x, y) ∈ pk rs k ↔ (⟨k, x, y⟩ : R) ∈ rs := by
  simp only [pk, List.mem_map, List.mem_filter, decide_eq_true_eq, Prod.mk.injEq]
  constructor
  · rintro ⟨r, ⟨h1, rfl⟩, rfl, rfl⟩
    exact h1
  · intro h
    exact ⟨_, ⟨h, rfl⟩, rfl, rfl⟩
theorem pk_step {rs : List R} {k : Bool} {i : Nat} {r : R} (h : rs[i]? = some r) : pk (rs.take (i + 1)) k = pk (rs.take i) k ++ (if r.k = k then [(r.a, r.b)] else []) := by
  rw [SG.take_one h, pk, List.filter_append, List.map_append]
  by_cases e : r.k = k
  · simp [pk, e]
  · simp [pk, e]
/-- those of the pairs that are turned, by the lists of what lies below -/
def trn (fss : List (List Nat)) (ps : List (Nat × Nat)) : List (Nat × Nat) := (ps.filter fun p => decide (p.1 ∈ fss.getD p.2 []) && decide (p.2 ∈ fss.getD p.1 [])).map fun p => (p.2, p.1)
theorem trn_step {fss : List (List Nat)} {ps : List (Nat × Nat)} {i : Nat} {p : Nat × Nat} (h : ps[i]? = some p) : trn fss (ps.take (i + 1)) = trn fss (ps.take i) ++ (if (decide (p.1 ∈ fss.getD p.2 []) && decide (p.2 ∈ fss.getD p.1 [])) = true then [(p.2, p.1)] else []) := by
  rw [SG.take_one h, trn, List.filter_append, List.map_append]
  by_cases e : (decide (p.1 ∈ fss.getD p.2 []) && decide (p.2 ∈ fss.getD p.1 [])) = true
  · rw [if_pos e]
    simp only [trn, List.filter_cons, e, if_true, List.filter_nil, List.map_cons, List.map_nil]
  · rw [if_neg e]
    simp only [trn, List.filter_cons, e, if_false, List.filter_nil, List.map_nil]
    rfl
theorem down_lt {rs : List R} {w : Nat} (h : ∀ r ∈ rs, r.ok w) : ∀ x ∈ rs.map down, x.1 < w ∧ x.2 < w := fun x hx => by
  obtain ⟨r, hr, rfl⟩ := List.mem_map.mp hx
  have := h r hr
  unfold down
  cases r.k
  · exact ⟨this.2.1, this.1⟩
  · exact ⟨this.1, this.2.1⟩
theorem getD_left {α : Type} {l r : List α} {i : Nat} {d : α} (h : i < l.length) : (l ++ r).getD i d = l.getD i d := by
  simp [List.getD, List.getElem?_append_left h]
theorem getD_last {α : Type} {l : List α} {x d : α} : (l ++ [x]).getD l.length d = x := by
  simp [List.getD]
section
variable {P : Program} {w : World} {K : PySem.W.Frag} {mg : Str → Option Value} {base : Heap} {kA : Addr}
abbrev nLk : List Str := ["width", "rules", "kind", "steps", "below", "pairs", "turned", "column", "word", "a", "b"]
theorem scLinks : FnScope nLk ["width", "rules", "kind"] (defScope sLinks) := ⟨rfl, rfl, rfl, by decide +kernel, rfl, by decide +kernel, by decide +kernel⟩
theorem ok_links {f : Addr} {fd : FuncData} {k : Nat} (F : Fun K "links" "links" sLinks f fd) (T : Glb K mg kA) (cD : Cal P w K mg base "steps_down" ["rules"] (spDown K) 1)
 (cR : Cal P w K mg base "reached" ["pairs", "start"] (spReached K) 2) : FnOk P w K mg base CX0 (k + 3) f fd ["width", "rules", "kind"] (spLinks K) := by
  have GD := cD.ok (k + 2) (by omega)
  have GR := cR.ok (k + 2) (by omega)
  refine F.ok scLinks (fun vs H Q E h => ?_) (fun cdv A outer s H vs Q E hr h => ?_)
  · obtain ⟨w, g, us, rs, k, rfl, _⟩ := h
    rfl
  · obtain ⟨w, g, us, rs, kk, rfl, hg, dp, ho, hw, hl, q⟩ := h
    have n := scLinks.nd
    refine ⟨_, pss_cons (ps_set (i := 3) n rfl (.inr rfl) (pe_call GD hr rfl cD.g cD.kp cD.b .nil pass0 (pa_cons (pv 1) pa_nil)))
      (pss_cons (ps_set (i := 4) n rfl (.inr rfl) (pe_lc (own := [("column", 7)]) (g := gName 7) (tt := tYes) rfl n (pi_range1 (by rfl) T.rng (pa_cons (pv 0) pa_nil)) (blkOk_by (N := nLk) (sc := defScope sLinks) (by decide +kernel))
          (fun _ _ _ _ _ => pg_name (i := 7) n rfl (.inl rfl)) (fun _ _ _ _ _ => pts_nil) (fun _ _ _ _ _ => pe_call GR hr rfl cR.g cR.kp cR.b .nil pass0 (pa_cons (pv 3) (pa_cons (pv 7) pa_nil)))))
      (pss_cons (ps_setLc (i := 5) (own := [("word", 8), ("a", 9), ("b", 10)]) (g := g3 K 8 9 10) (tt := tTest (tOp rEq (tVar 8) (tVar 2))) rfl n rfl rfl (sw_true rfl rfl rfl (by decide +kernel)) (pi_tup (pv 1)) (blkOk_by (N := nLk) (sc := defScope sLinks) (by decide +kernel))
          (fun _ _ _ _ _ => pg_tup rfl (pgs_cons (pg_name (i := 8) n rfl (.inl rfl)) (pgs_cons (pg_name (i := 9) n rfl (.inl rfl)) (pgs_cons (pg_name (i := 10) n rfl (.inl rfl)) pgs_nil))))
          (fun _ _ _ _ _ => pts_one (pt_cmpR op_eq (pv 8) (pv 2) (nomark _))) (fun _ _ _ _ _ => pe_tup (pa_cons (pv 9) (pa_cons (pv 10) pa_nil))))
      (pss_cons (ps_setLc (i := 6) (own := [("a", 9), ("b", 10)]) (g := g2 K 9 10) (tt := tAnd (tTest (tOp (rIn K false) (tVar 9) (tOp (rIxL K) (tVar 4) (tVar 10)))) (tTest (tOp (rIn K false) (tVar 10) (tOp (rIxL K) (tVar 4) (tVar 9))))) rfl n rfl rfl (sw_true rfl rfl rfl (by decide +kernel)) (pi_list (pv 5)) (blkOk_by (N := nLk) (sc := defScope sLinks) (by decide +kernel))
          (fun _ _ _ _ _ => pg_tup rfl (pgs_cons (pg_name (i := 9) n rfl (.inl rfl)) (pgs_cons (pg_name (i := 10) n rfl (.inl rfl)) pgs_nil)))
          (fun _ _ _ _ _ => pts_one (PW.pt (pw_and (pt_cmpR op_in_seq (pv 9) (pe_ix ix_list (pv 4) (pv 10) (fun _ _ => rfl)) (by rfl)) (pw_and1 (pt_cmpR op_in_seq (pv 10) (pe_ix ix_list (pv 4) (pv 9) (fun _ _ => rfl)) (by rfl))))))
          (fun _ _ _ _ _ => pe_tup (pa_cons (pv 10) (pa_cons (pv 9) pa_nil))))
      (pss_one (ps_ret (pe_op op_cat (pv 5) (pv 6))))))), ?_⟩
    have ul : us.length = rs.length := by rw [dps_len dp, List.length_map]
    -- steps
    refine ⟨_, rfl, g, us, rs, rfl, hg, dp, hl, fun sa su H1 s1 nsa hsa dsa => ?_⟩
    have dsa1 : DpAll K H1 su ((rs.map down).map prd) := dps_same (wo_le sa) _ _ dsa
    have dlt := down_lt ho
    have dl6 : ∀ x ∈ rs.map down, x.1 < 6 ∧ x.2 < 6 := fun x hx => ⟨Nat.lt_of_lt_of_le (dlt x hx).1 hw, Nat.lt_of_lt_of_le (dlt x hx).2 hw⟩
    -- below
    refine ⟨_, rfl, _, rfl, by omega, by omega, fun B nB => ?_⟩
    refine lc_range (lo := 0) (n := ((w : Nat) : Int).toNat) (fun i H2 => ∃ fss : List (List Nat), MadeF lsd K H1 B i H2 fss ∧ fss.length = i ∧ ∀ c, c < i → ∀ x, x ∈ fss.getD c [] ↔ Rch (rs.map down) c x) ⟨[], MadeF.start, rfl, fun c hc => absurd hc (Nat.not_lt_zero _)⟩ ?_ ?_
    · rintro i H2 hi ⟨fss, p, fl, ff⟩
      have iw : i < w := by omega
      have o2 := p.old nB
      refine ⟨rfl, yes_if ?_⟩
      refine ⟨_, rfl, _, rfl, sa, su, rs.map down, i, by rw [Int.zero_add]; rfl, SqL.of (o2 _ _ hsa), dps_same o2 _ _ dsa1, dl6, by omega, by rw [List.length_map]; omega, fun pr fs H3 s3 npr hpr hfs _ => ?_⟩
      obtain ⟨us2, _, pB, _⟩ := id p
      have prB : pr ≠ B := (ne_of_none pB npr).symm
      obtain ⟨acc, a1, a2, a3⟩ := p.push (r := fs) (y := .ref pr) (m := i + 1) (by omega) (Nat.lt_succ_self _) s3 (.lst (.inl (.inl (by rw [wo_ne prB]; exact hpr))) (dps_nms fs))
      refine ⟨acc, a1, a2, fss ++ [fs], a3, by rw [List.length_append, fl]; rfl, fun c hc x => ?_⟩
      by_cases e : c < i
      · rw [getD_left (by omega)]
        exact ff c e x
      · have : c = i := by omega
        subst this
        rw [← fl, getD_last]
        rw [fl]
        exact hfs x
    rintro H2 ⟨fss, pB, fl, ff⟩
    have ew : ((w : Nat) : Int).toNat = w := by omega
    rw [ew] at fl ff pB
    have o2 := pB.old nB
    obtain ⟨bu, _, hB, dB, _⟩ := pB
    have dB2 : DpAll K H2 bu (fss.map lsd) := dps_same (wo_le B) _ _ dB
    have s2 : Same H H2 := s1.trans o2
    -- pairs
    refine ⟨_, rfl, g, rfl, ⟨_, same_t s2 hg⟩, fun D3 n3 => ?_⟩
    refine lc_tup (xs := us) (fun i H3 => MadeF prd K H2 D3 i H3 (pk (rs.take i) kk)) MadeF.start (fun i H3 _ z => same_t (s2.trans (z.old n3)) hg) ?_ ?_
    · intro i v H3 hv p
      obtain ⟨r, hr2, dr⟩ := dps_rat dp hv
      have il : i < rs.length := (List.getElem?_eq_some_iff.mp hr2).1
      obtain ⟨t, rfl, ht⟩ := dp_r (dp_same (s2.trans (p.old n3)) _ _ dr)
      refine ⟨t, _, rfl, ht, rfl, _, _, rfl, _, _, rfl, _, _, rfl, rfl, rfl, ?_⟩
      refine ⟨_, rfl, _, rfl, rfl, _, rfl, ?_⟩
      rw [show decide (V.str (kd r.k) = V.str (kd kk)) = decide (r.k = kk) from kd_ne _ _, pk_step hr2]
      by_cases e : r.k = kk
      · rw [decide_eq_true e, if_pos e]
        refine iteT ⟨_, rfl, _, rfl, (by show 2 ≤ sizeLine; decide), fun t2 n2 => ?_⟩
        exact p.push (r := (r.a, r.b)) (by omega) (Nat.lt_succ_self _) (same_new n2) (p_dp (p.tup n2))
      · rw [decide_eq_false e, if_neg e]
        exact iteF (p.up (by omega) (by simp))
    intro H3 p3
    rw [ul, List.take_length] at p3
    have o3 := p3.old n3
    obtain ⟨pu, _, hP, dP, _⟩ := p3
    have dP3 : DpAll K H3 pu ((pk rs kk).map prd) := dps_same (wo_le D3) _ _ dP
    have pl : pu.length = (pk rs kk).length := by rw [dps_len dP3, List.length_map]
    have pkl : (pk rs kk).length ≤ 60 := by
      unfold pk
      rw [List.length_map]
      exact Nat.le_trans (List.length_filter_le _ _) hl
    -- turned
    refine ⟨_, rfl, D3, rfl, ⟨_, SqL.of hP⟩, fun D4 n4 => ?_⟩
    refine lc_list (xs := pu) (fun i H4 => MadeF prd K H3 D4 i H4 (trn fss ((pk rs kk).take i))) MadeF.start (fun i H4 _ z => SqL.of (z.old n4 _ _ hP)) ?_ ?_
    · intro i v H4 hv p
      obtain ⟨⟨x, y⟩, hxy, dv⟩ := dps_pat dP3 hv
      have il : i < (pk rs kk).length := (List.getElem?_eq_some_iff.mp hxy).1
      have o4 := p.old n4
      obtain ⟨t, rfl, ht⟩ := dp_p (dp_same o4 _ _ dv)
      have hm := ho _ (pk_mem.mp (List.mem_of_getElem? hxy))
      have get : ∀ c, c < w → ∃ pc, bu[c]? = some (.ref pc) ∧ SqL K H4 pc (nms (fss.getD c [])) := fun c hc => by
        have hc2 : c < fss.length := by omega
        have e1 : (fss.map lsd)[c]? = some (lsd (fss.getD c [])) := by
          rw [List.getElem?_map, List.getElem?_eq_getElem hc2]
          simp [List.getD, List.getElem?_eq_getElem hc2]
        obtain ⟨u, u1, u2⟩ := dps_to dB2 e1
        obtain ⟨pc, rfl, hpc⟩ := lsd_at (dp_same (o3.trans o4) _ _ u2)
        exact ⟨pc, u1, hpc⟩
      obtain ⟨p1, b1, l1⟩ := get y hm.2.1
      obtain ⟨p2, b2, l2⟩ := get x hm.1
      have hB4 : SqL K H4 B bu := SqL.of (o4 _ _ (o3 _ _ hB))
      refine ⟨t, _, rfl, ht, rfl, _, _, rfl, _, _, rfl, rfl, rfl, ?_⟩
      refine ⟨_, rfl, _, rfl, _, rfl, B, bu, _, _, rfl, rfl, hB4, atI_nat b1, p1, _, rfl, .inl l1, rfl, nms_flat _, _, rfl, ?_⟩
      rw [show inV (V.int (x : Int)) (nms (fss.getD y [])) = decide (x ∈ fss.getD y []) from nms_in _ _]
      have stp : trn fss ((pk rs kk).take (i + 1)) = trn fss ((pk rs kk).take i) ++ (if (decide (x ∈ fss.getD y []) && decide (y ∈ fss.getD x [])) = true then [(y, x)] else []) := trn_step hxy
      by_cases e : x ∈ fss.getD y []
      · rw [decide_eq_true e]
        refine iteT ⟨_, rfl, _, rfl, _, rfl, B, bu, _, _, rfl, rfl, hB4, atI_nat b2, p2, _, rfl, .inl l2, rfl, nms_flat _, _, rfl, ?_⟩
        rw [show inV (V.int (y : Int)) (nms (fss.getD x [])) = decide (y ∈ fss.getD x []) from nms_in _ _]
        by_cases e2 : y ∈ fss.getD x []
        · rw [decide_eq_true e2]
          rw [if_pos (by rw [decide_eq_true e, decide_eq_true e2]; rfl)] at stp
          rw [stp]
          refine iteT ⟨_, rfl, _, rfl, (by show 2 ≤ sizeLine; decide), fun t2 n2 => ?_⟩
          exact p.push (r := (y, x)) (by omega) (Nat.lt_succ_self _) (same_new n2) (p_dp (p.tup n2))
        · rw [decide_eq_false e2]
          rw [if_neg (by rw [decide_eq_false e2, Bool.and_false]; exact Bool.false_ne_true)] at stp
          rw [stp]
          exact iteF (p.up (by omega) (by simp))
      · rw [decide_eq_false e]
        rw [if_neg (by rw [decide_eq_false e]; exact Bool.false_ne_true)] at stp
        rw [stp]
        refine iteF ?_
        exact iteF (p.up (by omega) (by simp))
    intro H4 p4
    rw [pl, List.take_length] at p4
    have o4 := p4.old n4
    obtain ⟨tu, _, hT, dT, _⟩ := p4
    have trl : (trn fss (pk rs kk)).length ≤ 60 := by
      unfold trn
      rw [List.length_map]
      exact Nat.le_trans (List.length_filter_le _ _) pkl
    have tul : tu.length = (trn fss (pk rs kk)).length := by rw [dps_len dT, List.length_map]
    refine ⟨_, rfl, _, rfl, D3, D4, pu, tu, rfl, rfl, o4 _ _ hP, hT, Nat.le_of_lt (small1000 (by omega)), fun p5 n5 => ?_⟩
    have m5 : Same H4 (upd H4 p5 (.lst (pu ++ tu))) := same_new n5
    have toV : Same H4 (wo (upd H4 p5 (.lst (pu ++ tu))) p5) := fun b o e => by
      rw [wo_ne (ne_of_none e n5)]
      exact m5 _ _ e
    have sH : Same H H4 := s2.trans (o3.trans o4)
    refine q p5 (pu ++ tu) (pk rs kk ++ trn fss (pk rs kk)) _ (sH.trans m5) (sH.free n5) upd_same ?_ (fun x y => ?_) (by rw [List.length_append]; omega)
    · rw [List.map_append]
      exact dps_app (dps_same (o4.trans toV) _ _ dP3) (dps_same ((wo_le D4).trans toV) _ _ dT)
    · rw [List.mem_append, pk_mem]
      unfold Lk
      refine or_congr Iff.rfl ?_
      simp only [trn, List.mem_map, List.mem_filter, Bool.and_eq_true, decide_eq_true_eq, Prod.mk.injEq]
      constructor
      · rintro ⟨⟨a, b⟩, ⟨h1, h2, h3⟩, rfl, rfl⟩
        have hm := ho _ (pk_mem.mp h1)
        exact ⟨pk_mem.mp h1, (ff _ hm.2.1 _).mp h2, (ff _ hm.1 _).mp h3⟩
      · rintro ⟨h1, h2, h3⟩
        have hm := ho _ h1
        exact ⟨(y, x), ⟨pk_mem.mpr h1, (ff _ hm.2.1 _).mpr h2, (ff _ hm.1 _).mpr h3⟩, rfl, rfl⟩
end
end CC
namespace CC
open PySem L2
def spFollows (K : PySem.W.Frag) : Sp := fun vs H Q _ => ∃ (w : Nat) (g : Addr) (us : List V) (rs : List R) (v : V) (r : R), vs = [.int (w : Int), .ref g, v] ∧ SqT K H g us ∧ DpAll K H us (rs.map R.d) ∧ (∀ r ∈ rs, r.ok w) ∧ w ≤ 6 ∧ rs.length ≤ 60 ∧ Dp K H v r.d ∧ r.ok w ∧
  ∀ (b : Bool) (H' : Hp), Same H H' → (b = true ↔ Fol rs r) → Q (.bl b) H'
def spCall (K : PySem.W.Frag) (C : Addr) : Sp := fun vs H Q _ => ∃ (x : Addr) (w : Nat) (rs : List R) (v : V) (r : R), vs = [.ref x, v] ∧ RulesAt K C H x w rs ∧ (∀ r ∈ rs, r.ok w) ∧ w ≤ 6 ∧ rs.length ≤ 60 ∧ Dp K H v r.d ∧ r.ok w ∧
  ∀ (b : Bool) (H' : Hp), Same H H' → (b = true ↔ Fol rs r) → Q (.bl b) H'
theorem lk_lt {rs : List R} {w : Nat} (ho : ∀ r ∈ rs, r.ok w) {k : Bool} {x y : Nat} (h : Lk rs k x y) : x < w ∧ y < w := by
  rcases h with h | ⟨h, _⟩
  · exact ⟨(ho _ h).1, (ho _ h).2.1⟩
  · exact ⟨(ho _ h).2.1, (ho _ h).1⟩
/-- rules(rule) -/
structure CallC (P : Program) (w : World) (K : PySem.W.Frag) (mg : Str → Option Value) (base : Heap) (C : Addr) (l : Nat) where
  fC : Addr
  cC : StX.CallO K C fC
  ok : ∀ k, l ≤ k → FnR P w K mg base CX0 k fC (spCall K C)
section
variable {P : Program} {w : World} {K : PySem.W.Frag} {mg : Str → Option Value} {base : Heap} {kA : Addr}
abbrev nFo : List Str := ["width", "rules", "rule", "kind", "first", "second"]
theorem scFollows : FnScope nFo ["width", "rules", "rule"] (defScope sFollows) := ⟨rfl, rfl, rfl, by decide +kernel, rfl, by decide +kernel, by decide +kernel⟩
theorem ok_follows {f : Addr} {fd : FuncData} {k : Nat} (F : Fun K "follows" "follows" sFollows f fd) (T : Glb K mg kA) (cL : Cal P w K mg base "links" ["width", "rules", "kind"] (spLinks K) 3)
 (cR : Cal P w K mg base "reached" ["pairs", "start"] (spReached K) 2) :
    FnOk P w K mg base CX0 (k + 4) f fd ["width", "rules", "rule"] (spFollows K) := by
  have GL := cL.ok (k + 3) (by omega)
  have GR := cR.ok (k + 3) (by omega)
  refine F.ok scFollows (fun vs H Q E h => ?_) (fun cdv A outer s H vs Q E hr h => ?_)
  · obtain ⟨w, g, us, rs, v, r, rfl, _⟩ := h
    rfl
  · obtain ⟨w, g, us, rs, v, r, rfl, hg, dp, ho, hw, hl, dv, hr2, q⟩ := h
    have n := scFollows.nd
    obtain ⟨t, rfl, ht⟩ := dp_r dv
    refine ⟨_, pss_cons (ps_asg (pv 2) (pg_tup rfl (pgs_cons (pg_name (i := 3) n rfl (.inl rfl)) (pgs_cons (pg_name (i := 4) n rfl (.inl rfl)) (pgs_cons (pg_name (i := 5) n rfl (.inl rfl)) pgs_nil)))))
      (pss_one (ps_ret (pe_cmpR op_in_seq (pv 5) (pe_call GR hr rfl cR.g cR.kp cR.b .nil pass0 (pa_cons (pe_call GL hr rfl cL.g cL.kp cL.b .nil pass0 (pa_cons (pv 0) (pa_cons (pv 1) (pa_cons (pv 3) pa_nil)))) (pa_cons (pv 4) pa_nil))) (by rfl)))), ?_⟩
    refine ⟨_, rfl, t, _, rfl, ht, rfl, _, _, rfl, _, _, rfl, _, _, rfl, rfl, ?_⟩
    refine ⟨_, rfl, _, rfl, _, rfl, _, rfl, w, g, us, rs, r.k, rfl, hg, dp, ho, hw, hl, fun p us' ps H1 s1 np hp dps hps pl => ?_⟩
    refine ⟨_, rfl, p, us', ps, r.a, rfl, SqL.of hp, dps_same (wo_le p) _ _ dps, fun x hx => ?_, Nat.lt_of_lt_of_le hr2.1 hw, by omega, fun p2 fs H2 s2 np2 hp2 hfs _ => ?_⟩
    · obtain ⟨x1, x2⟩ := x
      have := lk_lt ho ((hps x1 x2).mp hx)
      exact ⟨Nat.lt_of_lt_of_le this.1 hw, Nat.lt_of_lt_of_le this.2 hw⟩
    · refine ⟨p2, _, rfl, .inl (SqL.of hp2), rfl, nms_flat _, ?_⟩
      show Q (.bl (inV (V.int (r.b : Int)) (nms fs))) H2
      rw [nms_in]
      refine q _ H2 (s1.trans s2) ?_
      rw [decide_eq_true_eq, hfs]
      exact rch_rt hps
abbrev nCa : List Str := ["self", "rule"]
theorem scCall : FnScope nCa ["self", "rule"] (defScope sCall) := ⟨rfl, rfl, rfl, by decide +kernel, rfl, by decide +kernel, by decide +kernel⟩
theorem ok_call {f C : Addr} {fd : FuncData} {k : Nat} (F : Fun K "__call__" "Rules.__call__" sCall f fd) (T : Glb K mg kA) (TC : Txt1 K mg C) (cF : Cal P w K mg base "follows" ["width", "rules", "rule"] (spFollows K) 4)
 (cU : Cal P w K mg base "is_rule" ["width", "thing"] (spIsRule K) 3) :
    FnOk P w K mg base CX0 (k + 5) f fd ["self", "rule"] (spCall K C) := by
  have GF := cF.ok (k + 4) (by omega)
  have GU := cU.ok (k + 4) (by omega)
  refine F.ok scCall (fun vs H Q E h => ?_) (fun cdv A outer s H vs Q E hr h => ?_)
  · obtain ⟨x, w, rs, v, r, rfl, _⟩ := h
    rfl
  · obtain ⟨x, w, rs, v, r, rfl, ⟨dx, g, us, h1, h2, h3⟩, ho, hw, hl, dv, hr2, q⟩ := h
    refine ⟨_, pss_cons (ps_if (pt_not (pt_val (pe_call GU hr rfl cU.g cU.kp cU.b .nil pass0 (pa_cons (pe_fld (pv 0) rfl) (pa_cons (pv 1) pa_nil))))) (pss_one ps_never) pss_nil)
      (pss_one (ps_ret (pe_call GF hr rfl cF.g cF.kp cF.b .nil pass0 (pa_cons (pe_fld (pv 0) rfl) (pa_cons (pe_fld (pv 0) rfl) (pa_cons (pv 1) pa_nil)))))), ?_⟩
    refine ⟨_, rfl, x, C, dx, _, _, rfl, h1, TC.cl, TC.nS, flds_span _ _, _, rfl, w, v, r, rfl, dv, hr2, _, rfl, iteF ?_⟩
    refine ⟨_, rfl, x, C, dx, _, _, rfl, h1, TC.cl, TC.nS, flds_span _ _, _, rfl, x, C, dx, _, _, rfl, h1, TC.cl, TC.nG, flds_given _ _, _, rfl, ?_⟩
    exact ⟨w, g, us, rs, v, r, rfl, .inl (.inl h2), h3, ho, hw, hl, dv, hr2, q⟩
end
end CC
namespace CC
open PySem L2
/-! ### reaching by way of the first columns -/
def Via (ps : List (Nat × Nat)) : Nat → Nat → Nat → Prop
  | 0, a, b => a = b ∨ (a, b) ∈ ps
  | m + 1, a, b => Via ps m a b ∨ (Via ps m a m ∧ Via ps m m b)
theorem via_rch {ps : List (Nat × Nat)} : ∀ {m a b : Nat}, Via ps m a b → Rch ps a b
  | 0, a, b, h => by
    rcases h with rfl | h
    · exact .refl
    · exact Rch.refl.step h
  | m + 1, a, b, h => by
    rcases h with h | ⟨h1, h2⟩
    · exact via_rch h
    · exact (via_rch h1).trans (via_rch h2)
theorem via_trans {ps : List (Nat × Nat)} : ∀ {m a b c : Nat}, c < m → Via ps m a c → Via ps m c b → Via ps m a b
  | 0, _, _, _, h, _, _ => absurd h (Nat.not_lt_zero _)
  | m + 1, a, b, c, h, h1, h2 => by
    by_cases e : c = m
    · subst e
      have h3 : Via ps c a c := by
        rcases h1 with z | z
        · exact z
        · exact z.1
      have h4 : Via ps c c b := by
        rcases h2 with z | z
        · exact z
        · exact z.2
      exact .inr ⟨h3, h4⟩
    · have lt : c < m := by omega
      rcases h1 with x | ⟨x1, x2⟩
      · rcases h2 with y | ⟨y1, y2⟩
        · exact .inl (via_trans lt x y)
        · exact .inr ⟨via_trans lt x y1, y2⟩
      · rcases h2 with y | ⟨y1, y2⟩
        · exact .inr ⟨x1, via_trans lt x2 y⟩
        · exact .inr ⟨x1, y2⟩
theorem via_up {ps : List (Nat × Nat)} {a b : Nat} (h : Via ps 0 a b) : ∀ m, Via ps m a b
  | 0 => h
  | m + 1 => .inl (via_up h m)
theorem rch_via {ps : List (Nat × Nat)} {w a b : Nat} (hp : ∀ x ∈ ps, x.1 < w ∧ x.2 < w) (h : Rch ps a b) : Via ps w a b := by
  induction h with
  | refl => exact via_up (.inl rfl) w
  | step _ q ih => exact via_trans (hp _ q).1 ih (via_up (.inr q) w)
/-- what is known while the lists of lists are gone through -/
structure FlW (ps : List (Nat × Nat)) (w m i j : Nat) (M : Nat → Nat → Bool) : Prop where
  snd : ∀ a b, M a b = true → Rch ps a b
  cmp : ∀ a b, a < w → b < w → Via ps m a b → M a b = true
  rows : ∀ a b, a < i → b < w → Via ps (m + 1) a b → M a b = true
  cols : ∀ b, b < j → Via ps (m + 1) i b → M i b = true
def put1 (M : Nat → Nat → Bool) (a b : Nat) : Nat → Nat → Bool := fun x y => if x = a ∧ y = b then true else M x y
theorem put1_le {M : Nat → Nat → Bool} {a b x y : Nat} (h : M x y = true) : put1 M a b x y = true := by
  unfold put1
  split
  · rfl
  · exact h
theorem FlW.hit {ps : List (Nat × Nat)} {w m i j : Nat} {M : Nat → Nat → Bool} (f : FlW ps w m i j M) (h1 : M i m = true) (h2 : M m j = true) : FlW ps w m i (j + 1) (put1 M i j) where
  snd := fun a b h => by
    unfold put1 at h
    by_cases e : a = i ∧ b = j
    · rw [e.1, e.2]
      exact (f.snd _ _ h1).trans (f.snd _ _ h2)
    · rw [if_neg e] at h
      exact f.snd a b h
  cmp := fun a b ha hb v => put1_le (f.cmp a b ha hb v)
  rows := fun a b ha hb v => put1_le (f.rows a b ha hb v)
  cols := fun b hb v => by
    by_cases e : b = j
    · subst e
      unfold put1
      rw [if_pos ⟨rfl, rfl⟩]
    · exact put1_le (f.cols b (by omega) v)
theorem FlW.miss {ps : List (Nat × Nat)} {w m i j : Nat} {M : Nat → Nat → Bool} (f : FlW ps w m i j M) (hi : i < w) (hj : j < w) (hm : m < w) (h : ¬ (M i m = true ∧ M m j = true)) : FlW ps w m i (j + 1) M where
  snd := f.snd
  cmp := f.cmp
  rows := f.rows
  cols := fun b hb v => by
    by_cases e : b = j
    · subst e
      rcases v with v | ⟨v1, v2⟩
      · exact f.cmp _ _ hi hj v
      · exact absurd ⟨f.cmp _ _ hi hm v1, f.cmp _ _ hm hj v2⟩ h
    · exact f.cols b (by omega) v
theorem FlW.nextRow {ps : List (Nat × Nat)} {w m i : Nat} {M : Nat → Nat → Bool} (f : FlW ps w m i w M) : FlW ps w m (i + 1) 0 M where
  snd := f.snd
  cmp := f.cmp
  rows := fun a b ha hb v => by
    by_cases e : a = i
    · subst e
      exact f.cols b hb v
    · exact f.rows a b (by omega) hb v
  cols := fun b hb => absurd hb (Nat.not_lt_zero _)
theorem FlW.nextMid {ps : List (Nat × Nat)} {w m : Nat} {M : Nat → Nat → Bool} (f : FlW ps w m w 0 M) : FlW ps w (m + 1) 0 0 M where
  snd := f.snd
  cmp := fun a b ha hb v => f.rows a b ha hb v
  rows := fun a b ha => absurd ha (Nat.not_lt_zero _)
  cols := fun b hb => absurd hb (Nat.not_lt_zero _)
/-! ### a list of lists of truths -/
def brow (w : Nat) (m : Nat → Bool) : List V := (List.range w).map fun b => V.bl (m b)
theorem brow_len (w : Nat) (m : Nat → Bool) : (brow w m).length = w := by rw [brow, List.length_map, List.length_range]
theorem brow_at {w b : Nat} {m : Nat → Bool} (h : b < w) : (brow w m)[b]? = some (.bl (m b)) := by
  rw [brow, List.getElem?_map, List.getElem?_range h]
  rfl
theorem brow_set {w b : Nat} {m : Nat → Bool} (h : b < w) : (brow w m).set b (.bl true) = brow w (fun y => if y = b then true else m y) := by
  refine List.ext_getElem? fun i => ?_
  by_cases hi : i < w
  · rw [brow_at hi]
    by_cases e : i = b
    · subst e
      rw [List.getElem?_set_self (by rw [brow_len]; exact h), if_pos rfl]
    · rw [List.getElem?_set_ne (fun z => e z.symm), brow_at hi, if_neg e]
  · rw [List.getElem?_eq_none (by rw [List.length_set, brow_len]; omega), List.getElem?_eq_none (by rw [brow_len]; omega)]
structure Mat (H0 H : Hp) (fo : Addr) (rows : List Addr) (w : Nat) (M : Nat → Nat → Bool) : Prop where
  same : Same H0 H
  new : H0 fo = none
  top : H fo = some (.lst (rows.map V.ref))
  len : rows.length = w
  nd : rows.Nodup
  off : fo ∉ rows
  row : ∀ (a : Nat) r, rows[a]? = some r → H r = some (.lst (brow w (M a))) ∧ H0 r = none
theorem Mat.put {H0 H : Hp} {fo : Addr} {rows : List Addr} {w : Nat} {M : Nat → Nat → Bool} (m : Mat H0 H fo rows w M) {a b : Nat} {r : Addr} (ha : rows[a]? = some r) (hb : b < w) : Mat H0 (upd H r (.lst ((brow w (M a)).set b (.bl true)))) fo rows w (put1 M a b) := by
  have rm : r ∈ rows := List.mem_of_getElem? ha
  refine ⟨same_mut m.same (m.row a r ha).2, m.new, ?_, m.len, m.nd, m.off, fun x s hx => ⟨?_, (m.row x s hx).2⟩⟩
  · rw [upd_ne (fun e => m.off (by rw [e]; exact rm))]
    exact m.top
  · by_cases e : x = a
    · subst e
      rw [ha] at hx
      cases hx
      rw [upd_same, brow_set hb]
      congr 3
      funext y
      unfold put1
      simp
    · have ne : s ≠ r := fun z => by
        subst z
        exact e (nd_ix m.nd hx ha)
      rw [upd_ne ne, (m.row x s hx).1]
      congr 3
      funext y
      unfold put1
      simp [e]
theorem Mat.at_ {H0 H : Hp} {fo : Addr} {rows : List Addr} {w : Nat} {M : Nat → Nat → Bool} (m : Mat H0 H fo rows w M) {a : Nat} (ha : a < w) : ∃ r, rows[a]? = some r ∧ (rows.map V.ref)[a]? = some (.ref r) ∧ H r = some (.lst (brow w (M a))) := by
  have h : a < rows.length := by rw [m.len]; exact ha
  have e := List.getElem?_eq_getElem h
  exact ⟨_, e, by rw [List.getElem?_map, e]; rfl, (m.row a _ e).1⟩
abbrev sDowns : Stmt := tp 41
def spDowns (K : PySem.W.Frag) : Sp := fun vs H Q _ => ∃ (g : Addr) (us : List V) (rs : List R), vs = [.ref g] ∧ SqL K H g us ∧ DpAll K H us (rs.map R.d) ∧ rs.length ≤ 60 ∧ NewF prd K H (rs.map down) Q
abbrev sReach : Stmt := tp 40
def asgVal : Stmt → Expr
  | .Assign _ v _ => v
  | _ => .Constant .none 0 ⟨0, 0, 0, 0⟩
def lcSc : Expr → Scope
  | .ListComp _ _ sc _ => sc
  | _ => { kind := .function, names := [], isGenerator := false, isCoroutine := false }
abbrev scRe0 : Scope := lcSc (asgVal ((defBody sReach).getD 0 (.Pass ⟨0, 0, 0, 0⟩)))
/-- the answer: read only -/
structure MatR (K : PySem.W.Frag) (H : Hp) (p : Addr) (w : Nat) (M : Nat → Nat → Bool) : Prop where
  ex : ∃ rows : List Addr, SqL K H p (rows.map V.ref) ∧ rows.length = w ∧ ∀ (a : Nat) r, rows[a]? = some r → SqL K H r (brow w (M a))
theorem MatR.same {K : PySem.W.Frag} {H H' : Hp} {p : Addr} {w : Nat} {M : Nat → Nat → Bool} (m : MatR K H p w M) (e : Same H H') : MatR K H' p w M := by
  obtain ⟨rows, h1, h2, h3⟩ := m.ex
  exact ⟨rows, same_l e h1, h2, fun a r h => same_l e (h3 a r h)⟩
def spReach (K : PySem.W.Frag) : Sp := fun vs H Q _ => ∃ (w : Nat) (a : Addr) (us : List V) (ps : List (Nat × Nat)), vs = [.int (w : Int), .ref a] ∧ w ≤ 6 ∧ SqL K H a us ∧ DpAll K H us (ps.map prd) ∧ (∀ x ∈ ps, x.1 < w ∧ x.2 < w) ∧
  ∀ (p : Addr) (M : Nat → Nat → Bool) (H' : Hp), Same H H' → H p = none → MatR K H' p w M → (∀ x y, x < w → y < w → (M x y = true ↔ Rch ps x y)) → Q (.ref p) H'
section
variable {P : Program} {w : World} {K : PySem.W.Frag} {mg : Str → Option Value} {base : Heap} {kA : Addr}
abbrev nDs : List Str := ["_law_rules_here", "_law_kind", "_law_a", "_law_b"]
theorem scDowns : FnScope nDs ["_law_rules_here"] (defScope sDowns) := ⟨rfl, rfl, rfl, by decide +kernel, rfl, by decide +kernel, by decide +kernel⟩
theorem ok_downs {f : Addr} {fd : FuncData} {k : Nat} (F : Fun K "_law_downs" "_law_downs" sDowns f fd) : FnOk P w K mg base CX0 (k + 1) f fd ["_law_rules_here"] (spDowns K) := by
  refine F.ok scDowns (fun vs H Q E h => ?_) (fun cdv A outer s H vs Q E hr h => ?_)
  · obtain ⟨g, us, rs, rfl, _⟩ := h
    rfl
  · obtain ⟨g, us, rs, rfl, hg, dp, hl, q⟩ := h
    have n := scDowns.nd
    refine ⟨_, pss_one (ps_ret (pe_lc (own := [("_law_kind", 1), ("_law_a", 2), ("_law_b", 3)]) (g := g3 K 1 2 3) (tt := tYes) rfl n (pi_list (pv 0)) (blkOk_by (N := nDs) (sc := defScope sDowns) (by decide +kernel))
      (fun _ _ _ _ _ => pg_tup rfl (pgs_cons (pg_name (i := 1) n rfl (.inl rfl)) (pgs_cons (pg_name (i := 2) n rfl (.inl rfl)) (pgs_cons (pg_name (i := 3) n rfl (.inl rfl)) pgs_nil)))) (fun _ _ _ _ _ => pts_nil)
      (fun _ _ _ _ _ => pe_ifExp (pt_cmpR op_eq (pv 1) pe_str (nomark _)) (pe_tup (pa_cons (pv 2) (pa_cons (pv 3) pa_nil))) (pe_tup (pa_cons (pv 3) (pa_cons (pv 2) pa_nil)))))), ?_⟩
    have ul : us.length = rs.length := by rw [dps_len dp, List.length_map]
    refine ⟨_, rfl, g, rfl, ⟨_, hg⟩, fun D nD => ?_⟩
    refine lc_list (xs := us) (fun i H1 => MadeF prd K H D i H1 ((rs.take i).map down)) MadeF.start (fun i H1 _ z => same_l (z.old nD) hg) ?_ ?_
    · intro i v H1 hv p
      obtain ⟨r, hr2, dr⟩ := dps_rat dp hv
      have il : i < rs.length := (List.getElem?_eq_some_iff.mp hr2).1
      obtain ⟨t, rfl, ht⟩ := dp_r (dp_same (p.old nD) _ _ dr)
      refine ⟨t, _, rfl, ht, rfl, _, _, rfl, _, _, rfl, _, _, rfl, rfl, rfl, yes_if ?_⟩
      refine ⟨_, rfl, rfl, _, rfl, ?_⟩
      rw [SG.take_one hr2, List.map_append]
      rw [show decide (V.str (kd r.k) = V.str (Str.ofString "settles")) = r.k from kd_eq r.k]
      cases hk : r.k with
      | true =>
        refine iteT ⟨_, rfl, _, rfl, (by show 2 ≤ sizeLine; decide), fun t2 n2 => ?_⟩
        refine p.push (r := down r) (by omega) (Nat.lt_succ_self _) (same_new n2) (p_dp ?_)
        have e : down r = (r.a, r.b) := by unfold down; rw [hk]; rfl
        rw [e]
        exact p.tup n2
      | false =>
        refine iteF ⟨_, rfl, _, rfl, (by show 2 ≤ sizeLine; decide), fun t2 n2 => ?_⟩
        refine p.push (r := down r) (by omega) (Nat.lt_succ_self _) (same_new n2) (p_dp ?_)
        have e : down r = (r.b, r.a) := by unfold down; rw [hk]; rfl
        rw [e]
        exact p.tup n2
    · intro H1 p
      rw [ul, List.take_length] at p
      exact p.out nD (Same.refl _) q
abbrev nRe : List Str := ["_law_width", "_law_pairs", "_law_found", "_law_middle", "_law_a", "_law_b"]
theorem scReach : FnScope nRe ["_law_width", "_law_pairs"] (defScope sReach) := ⟨rfl, rfl, rfl, by decide +kernel, rfl, by decide +kernel, by decide +kernel⟩
theorem ok_reach {f : Addr} {fd : FuncData} {k : Nat} (F : Fun K "_law_reach" "_law_reach" sReach f fd) (T : Glb K mg kA) : FnOk P w K mg base CX0 (k + 1) f fd ["_law_width", "_law_pairs"] (spReach K) := by
  refine F.ok scReach (fun vs H Q E h => ?_) (fun cdv A outer s H vs Q E hr h => ?_)
  · obtain ⟨w, a, us, ps, rfl, _⟩ := h
    rfl
  · obtain ⟨w, a, us, ps, rfl, hw, ha, dp, hps, q⟩ := h
    have n := scReach.nd
    have hu65 := Nat.lt_of_le_of_lt (Nat.le_trans (Nat.add_le_add_left (by decide : 65 ≤ 200) _) (Nat.add_le_add_right (Nat.le_add_right _ (16 * k)) 200)) hr.un
    refine ⟨_, pss_cons (ps_setLc (i := 2) (own := [("_law_a", 4)]) (g := gName 4) (tt := tYes) (te := tLc (iRng1 (tCons (tVar 0) tNil)) (gName 5) tYes (tOrV (tOp rEq (tVar 4) (tVar 5)) (tOp (rInD K) (tTup (tCons (tVar 4) (tCons (tVar 5) tNil))) (tVar 1))) [5]) rfl n rfl rfl (sw_true rfl rfl rfl (by decide +kernel)) (pi_range1 (by rfl) T.rng (pa_cons (pv 0) pa_nil)) (blkOk_by (N := nRe) (sc := defScope sReach) (by decide +kernel))
          (fun _ _ _ _ _ => pg_name (i := 4) n rfl (.inr rfl)) (fun _ _ _ _ _ => pts_nil)
          (fun _ _ _ _ _ => pe_lc (own := [("_law_b", 5)]) (g := gName 5) (tt := tYes) rfl n (pi_range1 (by rfl) T.rng (pa_cons (pv 0) pa_nil)) (blkOk_by (N := nRe) (sc := relS scRe0 (defScope sReach)) (by decide +kernel)) (fun _ _ _ _ _ => pg_name (i := 5) n rfl (.inl rfl)) (fun _ _ _ _ _ => pts_nil)
            (fun _ _ _ _ _ => pe_or (pe_cmpR op_eq (pv 4) (pv 5) (nomark _)) (pe_one (pe_cmpR (op_inD hu65) (pe_tup (pa_cons (pv 4) (pa_cons (pv 5) pa_nil))) (pv 1) (by rfl))))))
      (pss_cons (ps_for PassesOwn.never rfl (pi_range1 (by rfl) T.rng (pa_cons (pv 0) pa_nil)) (pg_name (i := 3) n rfl (.inl rfl))
        (pss_one (ps_for PassesOwn.never rfl (pi_range1 (by rfl) T.rng (pa_cons (pv 0) pa_nil)) (pg_name (i := 4) n rfl (.inl rfl))
          (pss_one (ps_for PassesOwn.never rfl (pi_range1 (by rfl) T.rng (pa_cons (pv 0) pa_nil)) (pg_name (i := 5) n rfl (.inl rfl))
            (pss_one (ps_if (PW.pt (pw_and (pt_val (pe_ix ix_list (pe_ix ix_list (pv 2) (pv 4) (fun _ _ => rfl)) (pv 3) (fun _ _ => rfl))) (pw_and1 (pt_val (pe_ix ix_list (pe_ix ix_list (pv 2) (pv 3) (fun _ _ => rfl)) (pv 5) (fun _ _ => rfl))))))
              (pss_one (ps_asg pe_bl (pg_sub (pe_ix ix_list (pv 2) (pv 4) (fun _ _ => rfl)) (pv 5) set_list))) pss_nil)))))))
      (pss_one (ps_ret (pv 2)))), ?_⟩
    have ew : ((w : Nat) : Int).toNat = w := by omega
    let M0 : Nat → Nat → Bool := fun x y => decide (x = y) || decide ((x, y) ∈ ps)
    refine ⟨_, rfl, _, rfl, by omega, by omega, fun fo nfo => ?_⟩
    refine lc_range (lo := 0) (n := ((w : Nat) : Int).toNat) (fun i H2 => ∃ rows : List Addr, H2 fo = some (.lst (rows.map V.ref)) ∧ rows.length = i ∧ rows.Nodup ∧ fo ∉ rows ∧ (∀ (x : Nat) r, rows[x]? = some r → H2 r = some (.lst (brow w (M0 x))) ∧ H r = none) ∧ Same H H2)
      ⟨[], upd_same, rfl, List.nodup_nil, by simp, fun x r h => by simp at h, same_new nfo⟩ ?_ ?_
    · rintro i H2 hi ⟨rows, r1, r2, r3, r4, r5, r6⟩
      refine ⟨rfl, yes_if ?_⟩
      refine ⟨_, rfl, _, rfl, by omega, by omega, fun D nD => ?_⟩
      have fD : fo ≠ D := ne_of_none r1 nD
      refine lc_range (lo := 0) (n := ((w : Nat) : Int).toNat) (fun j H3 => Same H2 (wo H3 D) ∧ H3 D = some (.lst (brow j (M0 i)))) ⟨?_, upd_same⟩ ?_ ?_
      · rw [wo_upd]
        exact fun b o e => by rw [wo_ne (ne_of_none e nD)]; exact e
      · rintro j H3 hj ⟨e1, e2⟩
        have bs : brow (j + 1) (M0 i) = brow j (M0 i) ++ [.bl (M0 i j)] := by
          unfold brow
          rw [List.range_succ, List.map_append]
          rfl
        have fin : ∀ H4 : Hp, Same H3 H4 → ∃ acc, H4 D = some (.lst acc) ∧ acc.length < sizeLine ∧ (Same H2 (wo (upd H4 D (.lst (acc ++ [.bl (M0 i j)]))) D) ∧ (upd H4 D (.lst (acc ++ [.bl (M0 i j)]))) D = some (.lst (brow (j + 1) (M0 i)))) := fun H4 s4 => by
          refine ⟨_, s4 _ _ e2, small1000 (by rw [brow_len]; omega), ?_, by rw [upd_same, bs]⟩
          rw [wo_upd]
          exact e1.trans (wo_same s4)
        refine ⟨rfl, yes_if ?_⟩
        refine ⟨_, rfl, _, rfl, rfl, _, rfl, ite2 (fun e => ?_) (fun e => ?_)⟩
        · have eij : i = j := by
            have := of_decide_eq_true e
            injection this with this
            omega
          have em : M0 i j = true := by
            show (decide (i = j) || decide ((i, j) ∈ ps)) = true
            rw [decide_eq_true eij]
            rfl
          have z := fin H3 (Same.refl _)
          rw [em] at z
          exact z
        · have nij : ¬ i = j := fun z => e (decide_eq_true (by rw [z]))
          refine ⟨_, rfl, _, rfl, (by show 2 ≤ sizeLine; decide), fun t nt => ?_⟩
          have m4 : Same H3 (upd H3 t (.tup [.int (0 + (i : Int)), .int (0 + (j : Int))])) := same_new nt
          have ht : (upd H3 t (.tup [.int (0 + (i : Int)), .int (0 + (j : Int))])) t = some (.tup [.int (i : Int), .int (j : Int)]) := by
            rw [upd_same, Int.zero_add, Int.zero_add]
          have s3 : Same H H3 := r6.trans (e1.trans (wo_le D))
          refine ⟨_, rfl, prd (i, j), ps.map prd, p_dp (r := (i, j)) (.inl (.inl ht)), .lst (same_l (s3.trans m4) ha) (dps_same (s3.trans m4) _ _ dp), prd_shaped _, prds_shaped _, ?_⟩
          rw [prds_any]
          have em : M0 i j = decide ((i, j) ∈ ps) := by
            show (decide (i = j) || decide ((i, j) ∈ ps)) = _
            rw [decide_eq_false nij]
            rfl
          have z := fin _ m4
          rw [em] at z
          exact z
      · rintro H3 ⟨e1, e2⟩
        rw [ew] at e2
        have s3 : Same H2 H3 := e1.trans (wo_le D)
        refine ⟨_, s3 _ _ r1, small1000 (by rw [List.length_map]; omega), rows ++ [D], by rw [upd_same, List.map_append]; rfl, by rw [List.length_append, r2]; rfl, ?_, ?_, fun x r hx => ?_, same_mut (r6.trans s3) nfo⟩
        · refine List.nodup_append.mpr ⟨r3, by simp, fun x hx y hy e => ?_⟩
          rw [List.mem_singleton.mp hy] at e
          obtain ⟨i2, h2⟩ := List.mem_iff_getElem?.mp hx
          have := (r5 i2 x h2).1
          rw [e, nD] at this
          cases this
        · intro z
          rcases List.mem_append.mp z with z | z
          · exact r4 z
          · exact fD (List.mem_singleton.mp z)
        · by_cases hx2 : x < rows.length
          · rw [List.getElem?_append_left hx2] at hx
            have nf : r ≠ fo := fun z => r4 (by rw [← z]; exact List.mem_of_getElem? hx)
            rw [upd_ne nf]
            exact ⟨s3 _ _ (r5 x r hx).1, (r5 x r hx).2⟩
          · have hx3 : x = rows.length := by
              have := (List.getElem?_eq_some_iff.mp hx).1
              rw [List.length_append] at this
              simp at this
              omega
            subst hx3
            have er : D = r := by simpa using hx
            subst er
            rw [upd_ne fD.symm]
            refine ⟨?_, r6.free nD⟩
            rw [e2, r2]
    rintro H2 ⟨rows, r1, r2, r3, r4, r5, r6⟩
    rw [ew] at r2
    have mt : Mat H H2 fo rows w M0 := ⟨r6, nfo, r1, r2, r3, r4, r5⟩
    have fw : FlW ps w 0 0 0 M0 := by
      refine ⟨fun x y h => ?_, fun x y _ _ v => ?_, fun x y hx => absurd hx (Nat.not_lt_zero _), fun y hy => absurd hy (Nat.not_lt_zero _)⟩
      · have h : (decide (x = y) || decide ((x, y) ∈ ps)) = true := h
        rw [Bool.or_eq_true, decide_eq_true_eq, decide_eq_true_eq] at h
        rcases h with rfl | h
        · exact .refl
        · exact Rch.refl.step h
      · show (decide (x = y) || decide ((x, y) ∈ ps)) = true
        rw [Bool.or_eq_true, decide_eq_true_eq, decide_eq_true_eq]
        exact v
    generalize M0 = M0' at mt fw
    -- the three loops
    refine ⟨_, rfl, _, rfl, by omega, by omega, ?_⟩
    refine for_range (lo := 0) (n := ((w : Nat) : Int).toNat) (fun m σ H3 => ∃ M y3 y4 y5, σ = [some (.int (w : Int)), some (.ref a), some (.ref fo), y3, y4, y5] ∧ Mat H H3 fo rows w M ∧ FlW ps w m 0 0 M) ⟨M0', none, none, none, rfl, mt, fw⟩ ?_ ?_
    · rintro m σ H3 hm ⟨M, y3, y4, y5, rfl, mt, fw⟩
      have hm : m < w := by omega
      refine ⟨_, rfl, _, rfl, by omega, by omega, ?_⟩
      refine for_range (lo := 0) (n := ((w : Nat) : Int).toNat) (fun i σ H4 => ∃ M y4 y5, σ = [some (.int (w : Int)), some (.ref a), some (.ref fo), some (.int (0 + (m : Int))), y4, y5] ∧ Mat H H4 fo rows w M ∧ FlW ps w m i 0 M) ⟨M, y4, y5, rfl, mt, fw⟩ ?_ ?_
      · rintro i σ H4 hi ⟨M, y4, y5, rfl, mt, fw⟩
        have hi : i < w := by omega
        refine ⟨_, rfl, _, rfl, by omega, by omega, ?_⟩
        refine for_range (lo := 0) (n := ((w : Nat) : Int).toNat) (fun j σ H5 => ∃ M y5, σ = [some (.int (w : Int)), some (.ref a), some (.ref fo), some (.int (0 + (m : Int))), some (.int (0 + (i : Int))), y5] ∧ Mat H H5 fo rows w M ∧ FlW ps w m i j M) ⟨M, y5, rfl, mt, fw⟩ ?_ ?_
        · rintro j σ H5 hj ⟨M, y5, rfl, mt, fw⟩
          have hj : j < w := by omega
          obtain ⟨ri, i1, i2, i3⟩ := mt.at_ hi
          obtain ⟨rm, n1, n2, n3⟩ := mt.at_ hm
          have zi : ∀ x : Nat, (0 + (x : Int)) = (x : Int) := fun x => Int.zero_add _
          refine ⟨_, rfl, _, rfl, fo, _, _, _, rfl, rfl, SqL.of mt.top, by rw [zi]; exact atI_nat i2, _, rfl, ri, _, _, _, rfl, rfl, SqL.of i3, by rw [zi]; exact atI_nat (brow_at hm), _, rfl, ?_⟩
          cases c1 : M i m with
          | false =>
            refine iteF (iteF ⟨M, _, rfl, mt, fw.miss hi hj hm fun z => ?_⟩)
            rw [c1] at z
            cases z.1
          | true =>
            refine iteT ⟨_, rfl, _, rfl, fo, _, _, _, rfl, rfl, SqL.of mt.top, by rw [zi]; exact atI_nat n2, _, rfl, rm, _, _, _, rfl, rfl, SqL.of n3, by rw [zi]; exact atI_nat (brow_at hj), _, rfl, ?_⟩
            cases c2 : M m j with
            | false =>
              refine iteF ⟨M, _, rfl, mt, fw.miss hi hj hm fun z => ?_⟩
              rw [c2] at z
              cases z.2
            | true =>
              refine iteT ⟨_, rfl, _, rfl, fo, _, _, _, rfl, rfl, SqL.of mt.top, by rw [zi]; exact atI_nat i2, _, rfl, ri, _, _, j, rfl, rfl, i3, ?_, ?_⟩
              · rw [zi, brow_len]
                unfold ixN
                rw [if_pos (by omega), if_pos (by omega)]
                simp
              · exact ⟨put1 M i j, _, rfl, mt.put i1 hj, fw.hit c1 c2⟩
        · rintro σ H5 ⟨M, y5, rfl, mt, fw⟩
          rw [ew] at fw
          exact ⟨M, _, _, rfl, mt, fw.nextRow⟩
      · rintro σ H4 ⟨M, y4, y5, rfl, mt, fw⟩
        rw [ew] at fw
        exact ⟨M, _, _, _, rfl, mt, fw.nextMid⟩
    · rintro σ H3 ⟨M, y3, y4, y5, rfl, mt, fw⟩
      rw [ew] at fw
      refine ⟨_, rfl, q fo M H3 mt.same nfo ⟨rows, SqL.of mt.top, mt.len, fun x r h => SqL.of (mt.row x r h).1⟩ fun x y hx hy => ⟨fw.snd x y, fun r => fw.cmp x y hx hy (rch_via hps r)⟩⟩
end
end CC
namespace CC
open PySem L2
abbrev sArrows : Stmt := tp 42
def spArrows (K : PySem.W.Frag) : Sp := fun vs H Q _ => ∃ (w : Nat) (g : Addr) (us : List V) (rs : List R) (k : Bool), vs = [.int (w : Int), .ref g, .str (kd k)] ∧ SqL K H g us ∧ DpAll K H us (rs.map R.d) ∧ (∀ r ∈ rs, r.ok w) ∧ w ≤ 6 ∧ rs.length ≤ 60 ∧
  ∀ (p : Addr) (us' : List V) (ps : List (Nat × Nat)) (H' : Hp), Same H H' → H p = none → H' p = some (.lst us') → DpAll K (wo H' p) us' (ps.map prd) → (∀ x y, (x, y) ∈ ps ↔ Lk rs k x y) → Q (.ref p) H'
/-- the same, with the pairs themselves -/
def spArrowsM (K : PySem.W.Frag) : Sp := fun vs H Q _ => ∃ (w : Nat) (g : Addr) (us : List V) (rs : List R) (k : Bool), vs = [.int (w : Int), .ref g, .str (kd k)] ∧ SqL K H g us ∧ DpAll K H us (rs.map R.d) ∧ (∀ r ∈ rs, r.ok w) ∧ w ≤ 6 ∧ rs.length ≤ 60 ∧
  ∀ (p : Addr) (us' : List V) (M : Nat → Nat → Bool) (ps : List (Nat × Nat)) (H' : Hp), Same H H' → H p = none → H' p = some (.lst us') → DpAll K (wo H' p) us' (ps.map prd) → (∀ x y, (x, y) ∈ ps ↔ Lk rs k x y) → ps = pk rs k ++ ((pk rs k).filter fun p => M p.1 p.2 && M p.2 p.1).map (fun p => (p.2, p.1)) → Q (.ref p) H'
theorem arr_weak {K : PySem.W.Frag} {vs : List V} {H : Hp} {Q : VK} {E : XK} (h : spArrows K vs H Q E) : spArrowsM K vs H Q E := by
  obtain ⟨w, g, us, rs, k, h1, h2, h3, h4, h5, h6, q⟩ := h
  exact ⟨w, g, us, rs, k, h1, h2, h3, h4, h5, h6, fun p us' M ps H' a b c d e _ => q p us' ps H' a b c d e⟩
def spDue (K : PySem.W.Frag) : Sp := fun vs H Q _ => ∃ (w : Nat) (g : Addr) (us : List V) (rs : List R), vs = [.int (w : Int), .ref g] ∧ SqL K H g us ∧ DpAll K H us (rs.map R.d) ∧ (∀ r ∈ rs, r.ok w) ∧ w ≤ 6 ∧ rs.length ≤ 60 ∧
  ∀ (p : Addr) (us' : List V) (ds : List R) (H' : Hp), Same H H' → H p = none → H' p = some (.lst us') → DpAll K (wo H' p) us' (ds.map R.d) → (∀ r, r.ok w → (r ∈ ds ↔ Fol rs r)) → Q (.ref p) H'
theorem MatR.at_ {K : PySem.W.Frag} {H : Hp} {p : Addr} {w : Nat} {M : Nat → Nat → Bool} (m : MatR K H p w M) : ∃ rows : List Addr, SqL K H p (rows.map V.ref) ∧ ∀ a, a < w → ∃ r, (rows.map V.ref)[a]? = some (.ref r) ∧ SqL K H r (brow w (M a)) := by
  obtain ⟨rows, h1, h2, h3⟩ := m.ex
  refine ⟨rows, h1, fun a ha => ?_⟩
  have e := List.getElem?_eq_getElem (show a < rows.length by omega)
  exact ⟨_, by rw [List.getElem?_map, e]; rfl, h3 a _ e⟩
def trm (M : Nat → Nat → Bool) (ps : List (Nat × Nat)) : List (Nat × Nat) := (ps.filter fun p => M p.1 p.2 && M p.2 p.1).map fun p => (p.2, p.1)
theorem trm_step {M : Nat → Nat → Bool} {ps : List (Nat × Nat)} {i x y : Nat} (h : ps[i]? = some (x, y)) : trm M (ps.take (i + 1)) = trm M (ps.take i) ++ (if (M x y && M y x) = true then [(y, x)] else []) := by
  rw [SG.take_one h, trm, List.filter_append, List.map_append]
  by_cases e : (M x y && M y x) = true
  · rw [if_pos e]
    simp only [trm, List.filter_cons, e, if_true, List.filter_nil, List.map_cons, List.map_nil]
  · rw [if_neg e]
    simp only [trm, List.filter_cons, e, if_false, List.filter_nil, List.map_nil]
    rfl
theorem filter_step {α : Type} {f : α → Bool} {l : List α} {i : Nat} {x : α} (h : l[i]? = some x) : (l.take (i + 1)).filter f = (l.take i).filter f ++ (if f x = true then [x] else []) := by
  have e : l.take (i + 1) = l.take i ++ [x] := by
    rw [List.take_succ, h]
    rfl
  rw [e, List.filter_append]
  by_cases e : f x = true
  · simp [e]
  · simp [e]
section
variable {P : Program} {w : World} {K : PySem.W.Frag} {mg : Str → Option Value} {base : Heap} {kA : Addr}
abbrev nAr : List Str := ["_law_width", "_law_rules_here", "_law_kind", "_law_there", "_law_found", "_law_other", "_law_a", "_law_b"]
theorem scArrows : FnScope nAr ["_law_width", "_law_rules_here", "_law_kind"] (defScope sArrows) := ⟨rfl, rfl, rfl, by decide +kernel, rfl, by decide +kernel, by decide +kernel⟩
theorem ok_arrowsM {f : Addr} {fd : FuncData} {k : Nat} (F : Fun K "_law_arrows" "_law_arrows" sArrows f fd) (T : Glb K mg kA) (cR : Cal P w K mg base "_law_reach" ["_law_width", "_law_pairs"] (spReach K) 1)
 (cD : Cal P w K mg base "_law_downs" ["_law_rules_here"] (spDowns K) 1) : FnOk P w K mg base CX0 (k + 2) f fd ["_law_width", "_law_rules_here", "_law_kind"] (spArrowsM K) := by
  have GR := cR.ok (k + 1) (by omega)
  have GD := cD.ok (k + 1) (by omega)
  refine F.ok scArrows (fun vs H Q E h => ?_) (fun cdv A outer s H vs Q E hr h => ?_)
  · obtain ⟨w, g, us, rs, k, rfl, _⟩ := h
    rfl
  · obtain ⟨w, g, us, rs, kk, rfl, hg, dp, ho, hw, hl, q⟩ := h
    have n := scArrows.nd
    refine ⟨_, pss_cons (ps_set (i := 3) n rfl (.inr rfl) (pe_call GR hr rfl cR.g cR.kp cR.b .nil pass0 (pa_cons (pv 0) (pa_cons (pe_call GD hr rfl cD.g cD.kp cD.b .nil pass0 (pa_cons (pv 1) pa_nil)) pa_nil))))
      (pss_cons (ps_setLc (i := 4) (own := [("_law_other", 5), ("_law_a", 6), ("_law_b", 7)]) (g := g3 K 5 6 7) (tt := tTest (tOp rEq (tVar 5) (tVar 2))) rfl n rfl rfl (sw_true rfl rfl rfl (by decide +kernel)) (pi_list (pv 1)) (blkOk_by (N := nAr) (sc := defScope sArrows) (by decide +kernel))
          (fun _ _ _ _ _ => pg_tup rfl (pgs_cons (pg_name (i := 5) n rfl (.inl rfl)) (pgs_cons (pg_name (i := 6) n rfl (.inl rfl)) (pgs_cons (pg_name (i := 7) n rfl (.inl rfl)) pgs_nil))))
          (fun _ _ _ _ _ => pts_one (pt_cmpR op_eq (pv 5) (pv 2) (nomark _))) (fun _ _ _ _ _ => pe_tup (pa_cons (pv 6) (pa_cons (pv 7) pa_nil))))
      (pss_one (ps_ret (pe_op op_cat (pv 4) (pe_lc (own := [("_law_a", 6), ("_law_b", 7)]) (g := g2 K 6 7) (tt := tAnd (tB (tOp (rIxL K) (tOp (rIxL K) (tVar 3) (tVar 6)) (tVar 7))) (tB (tOp (rIxL K) (tOp (rIxL K) (tVar 3) (tVar 7)) (tVar 6)))) rfl n (pi_list (pv 4)) (blkOk_by (N := nAr) (sc := defScope sArrows) (by decide +kernel))
          (fun _ _ _ _ _ => pg_tup rfl (pgs_cons (pg_name (i := 6) n rfl (.inl rfl)) (pgs_cons (pg_name (i := 7) n rfl (.inl rfl)) pgs_nil)))
          (fun _ _ _ _ _ => pts_one (PW.pt (pw_and (pt_val (pe_ix ix_list (pe_ix ix_list (pv 3) (pv 6) (fun _ _ => rfl)) (pv 7) (fun _ _ => rfl))) (pw_and1 (pt_val (pe_ix ix_list (pe_ix ix_list (pv 3) (pv 7) (fun _ _ => rfl)) (pv 6) (fun _ _ => rfl)))))))
          (fun _ _ _ _ _ => pe_tup (pa_cons (pv 7) (pa_cons (pv 6) pa_nil)))))))), ?_⟩
    have ul : us.length = rs.length := by rw [dps_len dp, List.length_map]
    have dlt := down_lt ho
    -- there
    refine ⟨_, rfl, _, rfl, g, us, rs, rfl, hg, dp, hl, fun sa su H1 s1 nsa hsa dsa => ?_⟩
    refine ⟨w, sa, su, rs.map down, rfl, hw, SqL.of hsa, dps_same (wo_le sa) _ _ dsa, dlt, fun tp3 M H2 s2 ntp mt hM => ?_⟩
    have s12 : Same H H2 := s1.trans s2
    -- found
    refine ⟨_, rfl, g, rfl, ⟨_, same_l s12 hg⟩, fun D3 n3 => ?_⟩
    refine lc_list (xs := us) (fun i H3 => MadeF prd K H2 D3 i H3 (pk (rs.take i) kk)) MadeF.start (fun i H3 _ z => same_l (s12.trans (z.old n3)) hg) ?_ ?_
    · intro i v H3 hv p
      obtain ⟨r, hr2, dr⟩ := dps_rat dp hv
      have il : i < rs.length := (List.getElem?_eq_some_iff.mp hr2).1
      obtain ⟨t, rfl, ht⟩ := dp_r (dp_same (s12.trans (p.old n3)) _ _ dr)
      refine ⟨t, _, rfl, ht, rfl, _, _, rfl, _, _, rfl, _, _, rfl, rfl, rfl, ?_⟩
      refine ⟨_, rfl, _, rfl, rfl, _, rfl, ?_⟩
      rw [show decide (V.str (kd r.k) = V.str (kd kk)) = decide (r.k = kk) from kd_ne _ _, pk_step hr2]
      by_cases e : r.k = kk
      · rw [decide_eq_true e, if_pos e]
        refine iteT ⟨_, rfl, _, rfl, (by show 2 ≤ sizeLine; decide), fun t2 n2 => ?_⟩
        exact p.push (r := (r.a, r.b)) (by omega) (Nat.lt_succ_self _) (same_new n2) (p_dp (p.tup n2))
      · rw [decide_eq_false e, if_neg e]
        exact iteF (p.up (by omega) (by simp))
    intro H3 p3
    rw [ul, List.take_length] at p3
    have o3 := p3.old n3
    obtain ⟨pu, _, hP, dP, _⟩ := p3
    have dP3 : DpAll K H3 pu ((pk rs kk).map prd) := dps_same (wo_le D3) _ _ dP
    have pl : pu.length = (pk rs kk).length := by rw [dps_len dP3, List.length_map]
    have pkl : (pk rs kk).length ≤ 60 := by
      unfold pk
      rw [List.length_map]
      exact Nat.le_trans (List.length_filter_le _ _) hl
    -- found + [..]
    refine ⟨_, rfl, _, rfl, D3, rfl, ⟨_, SqL.of hP⟩, fun D4 n4 => ?_⟩
    refine lc_list (xs := pu) (fun i H4 => MadeF prd K H3 D4 i H4 (trm M ((pk rs kk).take i))) MadeF.start (fun i H4 _ z => SqL.of (z.old n4 _ _ hP)) ?_ ?_
    · intro i v H4 hv p
      obtain ⟨⟨x, y⟩, hxy, dv⟩ := dps_pat dP3 hv
      have il : i < (pk rs kk).length := (List.getElem?_eq_some_iff.mp hxy).1
      have o4 := p.old n4
      obtain ⟨t, rfl, ht⟩ := dp_p (dp_same o4 _ _ dv)
      have hm := ho _ (pk_mem.mp (List.mem_of_getElem? hxy))
      obtain ⟨rows, R1, R2⟩ := (mt.same (o3.trans o4)).at_
      obtain ⟨rx, x1, x2⟩ := R2 x hm.1
      obtain ⟨ry, y1, y2⟩ := R2 y hm.2.1
      have stp := trm_step (M := M) hxy
      refine ⟨t, _, rfl, ht, rfl, _, _, rfl, _, _, rfl, rfl, rfl, ?_⟩
      refine ⟨_, rfl, _, rfl, tp3, _, _, _, rfl, rfl, R1, atI_nat x1, _, rfl, rx, _, _, _, rfl, rfl, x2, atI_nat (brow_at hm.2.1), _, rfl, ?_⟩
      cases c1 : M x y with
      | false =>
        rw [c1, if_neg (by rw [Bool.false_and]; exact Bool.false_ne_true)] at stp
        rw [stp]
        exact iteF (iteF (p.up (by omega) (by simp)))
      | true =>
        refine iteT ⟨_, rfl, _, rfl, tp3, _, _, _, rfl, rfl, R1, atI_nat y1, _, rfl, ry, _, _, _, rfl, rfl, y2, atI_nat (brow_at hm.1), _, rfl, ?_⟩
        cases c2 : M y x with
        | false =>
          rw [c1, c2, if_neg (by rw [Bool.and_false]; exact Bool.false_ne_true)] at stp
          rw [stp]
          exact iteF (p.up (by omega) (by simp))
        | true =>
          rw [c1, c2, if_pos (show (true && true) = true from rfl)] at stp
          rw [stp]
          refine iteT ⟨_, rfl, _, rfl, (by show 2 ≤ sizeLine; decide), fun t2 n2 => ?_⟩
          exact p.push (r := (y, x)) (by omega) (Nat.lt_succ_self _) (same_new n2) (p_dp (p.tup n2))
    intro H4 p4
    rw [pl, List.take_length] at p4
    have o4 := p4.old n4
    obtain ⟨tu, _, hT, dT, _⟩ := p4
    have trl : (trm M (pk rs kk)).length ≤ 60 := by
      unfold trm
      rw [List.length_map]
      exact Nat.le_trans (List.length_filter_le _ _) pkl
    have tul : tu.length = (trm M (pk rs kk)).length := by rw [dps_len dT, List.length_map]
    refine ⟨D3, D4, pu, tu, rfl, rfl, o4 _ _ hP, hT, Nat.le_of_lt (small1000 (by omega)), fun p5 n5 => ?_⟩
    have m5 : Same H4 (upd H4 p5 (.lst (pu ++ tu))) := same_new n5
    have toV : Same H4 (wo (upd H4 p5 (.lst (pu ++ tu))) p5) := fun b o e => by
      rw [wo_ne (ne_of_none e n5)]
      exact m5 _ _ e
    have sH : Same H H4 := s12.trans (o3.trans o4)
    refine q p5 (pu ++ tu) M (pk rs kk ++ trm M (pk rs kk)) _ (sH.trans m5) (sH.free n5) upd_same ?_ (fun x y => ?_) rfl
    · rw [List.map_append]
      exact dps_app (dps_same (o4.trans toV) _ _ dP3) (dps_same ((wo_le D4).trans toV) _ _ dT)
    · rw [List.mem_append, pk_mem]
      unfold Lk
      refine or_congr Iff.rfl ?_
      simp only [trm, List.mem_map, List.mem_filter, Bool.and_eq_true, Prod.mk.injEq]
      constructor
      · rintro ⟨⟨a, b⟩, ⟨h1, h2, h3⟩, rfl, rfl⟩
        have hm := ho _ (pk_mem.mp h1)
        exact ⟨pk_mem.mp h1, (hM _ _ hm.2.1 hm.1).mp h3, (hM _ _ hm.1 hm.2.1).mp h2⟩
      · rintro ⟨h1, h2, h3⟩
        have hm := ho _ h1
        exact ⟨(y, x), ⟨pk_mem.mpr h1, (hM _ _ hm.1 hm.2.1).mpr h3, (hM _ _ hm.2.1 hm.1).mpr h2⟩, rfl, rfl⟩
theorem ok_arrows {f : Addr} {fd : FuncData} {k : Nat} (F : Fun K "_law_arrows" "_law_arrows" sArrows f fd) (T : Glb K mg kA) (cR : Cal P w K mg base "_law_reach" ["_law_width", "_law_pairs"] (spReach K) 1)
 (cD : Cal P w K mg base "_law_downs" ["_law_rules_here"] (spDowns K) 1) : FnOk P w K mg base CX0 (k + 2) f fd ["_law_width", "_law_rules_here", "_law_kind"] (spArrows K) := by
  have z := ok_arrowsM (k := k) F T cR cD
  exact ⟨fun vs H Q E h => z.len vs H Q E (arr_weak h), fun A out s H args us vs Q E hr e0 hb r h => z.run A out s H args us vs Q E hr e0 hb r (arr_weak h)⟩
end
end CC
namespace CC
open PySem L2
abbrev sSource : Stmt := tp 31
abbrev sDraw : Stmt := tp 32
abbrev sChoose : Stmt := tp 33
section
variable {P : Program} {w : World} {K : PySem.W.Frag} {mg : Str → Option Value} {base : Heap}
theorem scSource : FnScope ["_law_cell_here"] ["_law_cell_here"] (defScope sSource) := ⟨rfl, rfl, rfl, by decide +kernel, rfl, by decide +kernel, by decide +kernel⟩
theorem ok_source {f : Addr} {fd : FuncData} {k : Nat} (F : Fun K "_law_source" "_law_source" sSource f fd) (mm : mg "max" = none) : FnOk P w K mg base CX0 (k + 1) f fd ["_law_cell_here"] spSource := by
  refine F.ok scSource (fun vs H Q E h => ?_) (fun cdv A outer s H vs Q E hr h => ?_)
  · obtain ⟨z, rfl, _⟩ := h
    rfl
  · obtain ⟨z, rfl, q⟩ := h
    refine ⟨_, pss_one (ps_ret (pe_lst (pa_cons (pe_callB (call_max2 rfl) (by rfl) mm (by decide +kernel) (pa_cons pe_int (pa_cons (pe_op op_sub (pv 0) (pe_op op_pow pe_int pe_int)) pa_nil))) (pa_cons (pe_op op_add (pe_op op_mod (pv 0) pe_int) pe_int) (pa_cons pe_int pa_nil))))), ?_⟩
    refine ⟨_, rfl, _, _, rfl, rfl, ⟨by decide, by decide, by decide⟩, _, _, rfl, rfl, _, _, rfl, _, rfl, _, _, rfl, rfl, (by show (0 : Int) < 2147483629; decide), _, _, rfl, rfl, (by show 3 ≤ sizeLine; decide), fun p hp => ?_⟩
    exact q p _ hp ⟨_, _, _, rfl, by omega, by omega⟩
theorem scDraw : FnScope ["_law_source_here", "_law_many", "_law_found", "_law_mixed_here"] ["_law_source_here", "_law_many"] (defScope sDraw) := ⟨rfl, rfl, rfl, by decide +kernel, rfl, by decide +kernel, by decide +kernel⟩
theorem ok_draw {f : Addr} {fd : FuncData} {k : Nat} (F : Fun K "_law_draw" "_law_draw" sDraw f fd) : FnOk P w K mg base CX0 (k + 1) f fd ["_law_source_here", "_law_many"] spDraw := by
  refine F.ok scDraw (fun vs H Q E h => ?_) (fun cdv A outer s H vs Q E hr h => ?_)
  · obtain ⟨a, m, o, rfl, _⟩ := h
    rfl
  · obtain ⟨a, m, o, rfl, ho, ⟨x, y, z, rfl, y0, y1⟩, m0, m1, q⟩ := h
    refine ⟨_, pss_cons (ps_if (pt_cmpR op_gt (pe_ix ix_list (pv 0) pe_int (fun _ _ => rfl)) pe_int (nomark _))
        (pss_cons (ps_set (i := 2) scDraw.nd rfl (.inl rfl) (pe_op op_mod (pe_ix ix_list (pv 0) pe_int (fun _ _ => rfl)) (pv 1)))
        (pss_cons (ps_asg (pe_op op_fdiv (pe_ix ix_list (pv 0) pe_int (fun _ _ => rfl)) (pv 1)) (pg_sub (pv 0) pe_int set_list))
        (pss_one (ps_ret (pv 2))))) pss_nil)
      (pss_cons (ps_asg (pe_op op_add (pe_ix ix_list (pv 0) pe_int (fun _ _ => rfl)) pe_int) (pg_sub (pv 0) pe_int set_list))
      (pss_cons (ps_asg (pe_op op_mod (pe_op op_add (pe_op op_add (pe_op op_mul (pe_ix ix_list (pv 0) pe_int (fun _ _ => rfl)) pe_int) (pe_op op_mul pe_int (pe_ix ix_list (pv 0) pe_int (fun _ _ => rfl)))) pe_int) pe_int) (pg_sub (pv 0) pe_int set_list))
      (pss_cons (ps_set (i := 3) scDraw.nd rfl (.inl rfl) (pe_op op_mod (pe_op op_add (pe_op op_add (pe_op op_mul (pe_ix ix_list (pv 0) pe_int (fun _ _ => rfl)) (pe_ix ix_list (pv 0) pe_int (fun _ _ => rfl))) (pe_op op_mul pe_int (pe_ix ix_list (pv 0) pe_int (fun _ _ => rfl)))) pe_int) pe_int))
      (pss_cons (ps_set (i := 3) scDraw.nd rfl (.inl rfl) (pe_op op_mod (pe_op op_add (pe_op op_mul (pv 3) (pv 3)) (pe_op op_mul pe_int (pv 3))) pe_int))
      (pss_one (ps_ret (pe_op op_mod (pe_op op_fdiv (pv 3) pe_int) (pv 1)))))))), ?_⟩
    have hA : SqL K H a [.int x, .int y, .int z] := SqL.of ho
    refine ⟨_, rfl, a, _, _, _, rfl, rfl, hA, rfl, _, _, rfl, rfl, _, rfl, ite2 (fun e => ?_) (fun e => ?_)⟩
    · refine ⟨_, rfl, a, _, _, _, rfl, rfl, hA, rfl, _, rfl, _, _, rfl, rfl, m0, ?_⟩
      refine ⟨_, rfl, a, _, _, _, rfl, rfl, hA, rfl, _, rfl, _, _, rfl, rfl, ⟨m0, by omega⟩, _, rfl, a, _, _, 0, rfl, rfl, ho, rfl, ?_⟩
      exact ⟨_, rfl, q _ _ (Int.emod_nonneg _ (by omega)) (Int.emod_lt_of_pos _ m0) ⟨_, _, _, rfl, y0, y1⟩⟩
    · refine ⟨_, rfl, a, _, _, _, rfl, rfl, hA, rfl, _, _, rfl, rfl, _, rfl, a, _, _, 2, rfl, rfl, ho, rfl, ?_⟩
      have h1 : (upd H a (.lst [.int x, .int y, .int (z + 1)])) a = some (.lst [.int x, .int y, .int (z + 1)]) := upd_same
      refine ⟨_, rfl, a, _, _, _, rfl, rfl, SqL.of h1, rfl, _, _, rfl, rfl, .inl ⟨by omega, by omega⟩, _, rfl, a, _, _, _, rfl, rfl, SqL.of h1, rfl, _, _, rfl, rfl, .inl ⟨by decide, by decide⟩, _, _, rfl, rfl, _, _, rfl, rfl, _, _, rfl, rfl, (by show (0 : Int) < 2147483647; decide), _, rfl, a, _, _, 1, rfl, rfl, h1, rfl, ?_⟩
      obtain ⟨y', hy⟩ : ∃ y' : Int, y' = (y * 48271 + 1009 * (z + 1) + 7) % 2147483647 := ⟨_, rfl⟩
      have b0 : 0 ≤ y' := by omega
      have b1 : y' < 2147483648 := by omega
      have h2 : (upd (upd H a (.lst [.int x, .int y, .int (z + 1)])) a (.lst [.int x, .int ((y * 48271 + 1009 * (z + 1) + 7) % 2147483647), .int (z + 1)])) a = some (.lst [.int x, .int y', .int (z + 1)]) := by
        rw [hy]
        exact upd_same
      refine ⟨_, rfl, a, _, _, _, rfl, rfl, SqL.of h2, rfl, _, rfl, a, _, _, _, rfl, rfl, SqL.of h2, rfl, _, _, rfl, rfl, .inl ⟨by omega, by omega⟩, _, rfl, a, _, _, _, rfl, rfl, SqL.of h2, rfl, _, _, rfl, rfl, .inl ⟨by decide, by decide⟩, _, _, rfl, rfl, _, _, rfl, rfl, _, _, rfl, rfl, (by show (0 : Int) < 2147483629; decide), ?_⟩
      obtain ⟨m2, hm⟩ : ∃ m2 : Int, m2 = (y' * y' + 69621 * y' + 11) % 2147483629 := ⟨_, rfl⟩
      have c0 : 0 ≤ (y' * y' + 69621 * y' + 11) % 2147483629 := Int.emod_nonneg _ (by decide)
      have c1 : (y' * y' + 69621 * y' + 11) % 2147483629 < 2147483629 := Int.emod_lt_of_pos _ (by decide)
      refine ⟨_, rfl, _, rfl, _, _, rfl, rfl, .inl ⟨Int.lt_of_lt_of_le (by decide) c0, Int.lt_trans c1 (by decide)⟩, _, rfl, _, _, rfl, rfl, .inl ⟨by decide, by decide⟩, _, _, rfl, rfl, _, _, rfl, rfl, (by show (0 : Int) < 2147483587; decide), ?_⟩
      refine ⟨_, rfl, _, _, rfl, rfl, ⟨by decide, by decide⟩, _, rfl, _, _, rfl, rfl, m0, ?_⟩
      rw [upd_upd]
      exact q _ _ (Int.emod_nonneg _ (by omega)) (Int.emod_lt_of_pos _ m0) ⟨x, y', z + 1, by rw [hy]; rfl, b0, b1⟩
end
end CC
namespace CC
open PySem L2 TL
section
variable {P : Program} {w : World} {K : PySem.W.Frag} {mg : Str → Option Value} {base : Heap} {kA : Addr}
theorem ok_draw2 {f : Addr} {fd : FuncData} {k : Nat} (F : Fun K "_law_draw" "_law_draw" sDraw f fd) : FnOk P w K mg base CX0 (k + 1) f fd ["_law_source_here", "_law_many"] spDraw2 := by
  have G : FnOk P w K mg base CX0 (k + 1) f fd ["_law_source_here", "_law_many"] spDraw := ok_draw F
  refine ⟨fun vs H Q E h => ?_, fun A outer s H args us vs Q E hr e0 hb r h => G.run A outer s H args us vs Q E hr e0 hb r ?_⟩
  · obtain ⟨s, m, rfl, _⟩ := h
    rfl
  · obtain ⟨a, m, rfl, ⟨o, h1, h2⟩, m0, m1, q⟩ := h
    refine ⟨a, m, o, rfl, h1, h2, by omega, by omega, fun r o' r0 r1 ho => ?_⟩
    have e : r = ((r.toNat : Nat) : Int) := by omega
    rw [e]
    exact q _ _ (by omega) (.one ho)
theorem scChoose : FnScope ["_law_source_here", "_law_values"] ["_law_source_here", "_law_values"] (defScope sChoose) := ⟨rfl, rfl, rfl, by decide +kernel, rfl, by decide +kernel, by decide +kernel⟩
theorem ok_choose {f : Addr} {fd : FuncData} {k : Nat} (F : Fun K "_law_choose" "_law_choose" sChoose f fd) (T : Glb K mg kA) (cD : Cal P w K mg base "_law_draw" ["_law_source_here", "_law_many"] spDraw2 1) :
    FnOk P w K mg base CX0 (k + 2) f fd ["_law_source_here", "_law_values"] (spChoose K) := by
  have GD := cD.ok (k + 1) (by omega)
  refine F.ok scChoose (fun vs H Q E h => ?_) (fun cdv A outer s H vs Q E hr h => ?_)
  · obtain ⟨s, v, rfl, _⟩ := h
    rfl
  · obtain ⟨sr, v, rfl, hs, h⟩ := h
    refine ⟨_, pss_one (ps_ret (pe_ix ix_seq (pv 1) (pe_call GD hr rfl cD.g cD.kp cD.b .nil pass0 (pa_cons (pv 0) (pa_cons (pe_callB call_len (by rfl) T.len PySem.boot_len (pa_cons (pv 1) pa_nil)) pa_nil))) (fun _ _ => rfl))), ?_⟩
    rcases h with ⟨a, xs, rfl, ha, l0, l1, q⟩ | ⟨z, rfl, l0, l1, q⟩
    · refine ⟨_, rfl, _, rfl, _, rfl, _, xs.length, rfl, .inl ⟨xs, same_l (wo_le sr) ha, rfl⟩, sr, xs.length, rfl, hs, l0, by omega, fun r H' hr2 rn => ?_⟩
      have e : xs[r]? = some xs[r] := List.getElem?_eq_getElem hr2
      exact .inl ⟨a, xs, _, _, rfl, rfl, same_l (rn.same.trans (wo_le sr)) ha, atI_nat e, q r _ H' e rn⟩
    · refine ⟨_, rfl, _, rfl, _, rfl, _, z.length, rfl, ⟨Nat.le_of_lt (small1000 (by omega)), rfl⟩, sr, z.length, rfl, hs, l0, by omega, fun r H' hr2 rn => ?_⟩
      rw [len_tl] at hr2
      have e : (tl z)[r]? = some (tl z)[r] := List.getElem?_eq_getElem hr2
      exact .inr (.inr ⟨z, _, _, rfl, rfl, Nat.le_of_lt (small1000 (by omega)), atI_nat e, q _ H' rn⟩)
end
end CC
namespace CC
open PySem L2 TL
abbrev sIsEq : Stmt := tp 34
section
variable {P : Program} {w : World} {K : PySem.W.Frag} {mg : Str → Option Value} {base : Heap} {kA : Addr}
theorem scIsEq : FnScope ["_law_actual", "_law_expected"] ["_law_actual", "_law_expected"] (defScope sIsEq) := ⟨rfl, rfl, rfl, by decide +kernel, rfl, by decide +kernel, by decide +kernel⟩
theorem ok_iseq {f : Addr} {fd : FuncData} {k : Nat} (F : Fun K "_law_is_equal" "_law_is_equal" sIsEq f fd) (T : Glb K mg kA) : FnOk P w K mg base CX0 (k + 1) f fd ["_law_actual", "_law_expected"] spIsEq := by
  refine F.ok scIsEq (fun vs H Q E h => ?_) (fun cdv A outer s H vs Q E hr h => ?_)
  · obtain ⟨b, c, rfl, _⟩ := h
    rfl
  · obtain ⟨b, c, rfl, q⟩ := h
    refine ⟨_, pss_one (ps_ret (pe_cmpR op_eq (pe_callB call_repr_bl (by rfl) T.rep (by decide +kernel) (pa_cons (pv 0) pa_nil)) (pe_callB call_repr_bl (by rfl) T.rep (by decide +kernel) (pa_cons (pv 1) pa_nil)) (nomark _))), ?_⟩
    refine ⟨_, rfl, b, rfl, _, rfl, c, rfl, rfl, ?_⟩
    have e : decide (V.str (if b then "True" else "False") = V.str (if c then "True" else "False")) = (b == c) := by
      cases b <;> cases c <;> decide +kernel
    show Q (.bl (decide (V.str (if b then "True" else "False") = V.str (if c then "True" else "False")))) H
    rw [e]
    exact q
end
end CC
namespace CC
open PySem L2 TL
abbrev sMixed : Stmt := tp 35
abbrev sStep : Stmt := tp 36
section
variable {P : Program} {w : World} {K : PySem.W.Frag} {mg : Str → Option Value} {base : Heap} {kA : Addr}
theorem scStep : FnScope ["_law_source_here", "_law_a", "_law_b", "_law_kinds"] ["_law_source_here", "_law_a", "_law_b", "_law_kinds"] (defScope sStep) := ⟨rfl, rfl, rfl, by decide +kernel, rfl, by decide +kernel, by decide +kernel⟩
theorem ok_step {f : Addr} {fd : FuncData} {k : Nat} (F : Fun K "_law_step" "_law_step" sStep f fd) (T : Glb K mg kA) (cC : Cal P w K mg base "_law_choose" ["_law_source_here", "_law_values"] (spChoose K) 2)
 : FnOk P w K mg base CX0 (k + 3) f fd ["_law_source_here", "_law_a", "_law_b", "_law_kinds"] (spStep K) := by
  have GC := cC.ok (k + 2) (by omega)
  refine F.ok scStep (fun vs H Q E h => ?_) (fun cdv A outer s H vs Q E hr h => ?_)
  · obtain ⟨s, a, b, z, rfl, _⟩ := h
    rfl
  · obtain ⟨sr, a, b, z, rfl, hs, z0, z1, q⟩ := h
    refine ⟨_, pss_one (ps_ret (pe_ifExp (pt_cmpR op_eq (pe_call GC hr rfl cC.g cC.kp cC.b .nil pass0 (pa_cons (pv 0) (pa_cons (pv 3) pa_nil))) pe_str (nomark _)) (pe_tup (pa_cons pe_str (pa_cons (pv 1) (pa_cons (pv 2) pa_nil)))) (pe_tup (pa_cons pe_str (pa_cons (pv 2) (pa_cons (pv 1) pa_nil)))))), ?_⟩
    refine ⟨_, rfl, _, rfl, sr, _, rfl, hs, .inr ⟨z, rfl, z0, z1, fun c H1 rn => ⟨rfl, _, rfl, ite2 (fun _ => ?_) (fun _ => ?_)⟩⟩⟩
    · refine ⟨_, rfl, _, rfl, (by show 3 ≤ sizeLine; decide), fun t nt => ?_⟩
      have ne := rn.ne nt
      refine q t ⟨true, a, b⟩ _ (.inl rfl) (rn.grow (same_new nt)) (rn.free nt) ne (r_dp (r := ⟨true, a, b⟩) ?_)
      rw [wo_upd_ne _ ne]
      exact .inl (.inl upd_same)
    · refine ⟨_, rfl, _, rfl, (by show 3 ≤ sizeLine; decide), fun t nt => ?_⟩
      have ne := rn.ne nt
      refine q t ⟨false, b, a⟩ _ (.inr rfl) (rn.grow (same_new nt)) (rn.free nt) ne (r_dp (r := ⟨false, b, a⟩) ?_)
      rw [wo_upd_ne _ ne]
      exact .inl (.inl upd_same)
abbrev nMx : List Str := ["_law_source_here", "_law_many", "_law_found", "_law_left", "_law_one", "_law_turn", "_law_at"]
theorem scMixed : FnScope nMx ["_law_source_here", "_law_many"] (defScope sMixed) := ⟨rfl, rfl, rfl, by decide +kernel, rfl, by decide +kernel, by decide +kernel⟩
theorem ok_mixed {f : Addr} {fd : FuncData} {k : Nat} (F : Fun K "_law_mixed" "_law_mixed" sMixed f fd) (T : Glb K mg kA) (cC : Cal P w K mg base "_law_choose" ["_law_source_here", "_law_values"] (spChoose K) 2)
 : FnOk P w K mg base CX0 (k + 3) f fd ["_law_source_here", "_law_many"] (spMixed K) := by
  have GC := cC.ok (k + 2) (by omega)
  refine F.ok scMixed (fun vs H Q E h => ?_) (fun cdv A outer s H vs Q E hr h => ?_)
  · obtain ⟨s, m, rfl, _⟩ := h
    rfl
  · obtain ⟨sr, m, rfl, hs, m6, q⟩ := h
    have n := scMixed.nd
    refine ⟨_, pss_cons (ps_par (i := 2) (j := 3) rfl n rfl rfl (by decide) rfl rfl (pa_cons (pe_lst pa_nil) (pa_cons (pe_lc (own := [("_law_at", 6)]) (g := gName 6) (tt := tYes) rfl n (pi_range1 (by rfl) T.rng (pa_cons (pv 1) pa_nil)) (blkOk_by (N := nMx) (sc := defScope sMixed) (by decide +kernel))
          (fun _ _ _ _ _ => pg_name (i := 6) n rfl (.inl rfl)) (fun _ _ _ _ _ => pts_nil) (fun _ _ _ _ _ => pv 6)) pa_nil)) (by rfl))
      (pss_cons (ps_for PassesOwn.never rfl (pi_range1 (by rfl) T.rng (pa_cons (pv 1) pa_nil)) (pg_name (i := 5) n rfl (.inl rfl))
        (pss_cons (ps_set (i := 4) n rfl (.inr rfl) (pe_call GC hr rfl cC.g cC.kp cC.b .nil pass0 (pa_cons (pv 0) (pa_cons (pv 3) pa_nil))))
        (pss_cons (ps_expr (pe_bm PySem.F.plainAttrs_list PySem.F.slot_list_append PySem.F.type_list_append mt_append (pv 2) (pa_cons (pv 4) pa_nil)))
        (pss_one (ps_setLc (i := 3) (own := [("_law_at", 6)]) (g := gName 6) (tt := tTest (tOp rNe (tVar 6) (tVar 4))) rfl n rfl rfl (sw_true rfl rfl rfl (by decide +kernel)) (pi_list (pv 3)) (blkOk_by (N := nMx) (sc := defScope sMixed) (by decide +kernel))
          (fun _ _ _ _ _ => pg_name (i := 6) n rfl (.inl rfl)) (fun _ _ _ _ _ => pts_one (pt_cmpR op_ne (pv 6) (pv 4) (nomark _))) (fun _ _ _ _ _ => pv 6))))))
      (pss_one (ps_ret (pv 2)))), ?_⟩
    obtain ⟨o0, hs1, hs2⟩ := hs
    refine ⟨Nat.zero_le _, fun fo nfo => ?_⟩
    have fos : fo ≠ sr := (ne_of_none hs1 nfo).symm
    have s1 : Same H (upd H fo (.lst [])) := same_new nfo
    have h1f : (upd H fo (.lst [])) fo = some (.lst (nms [])) := upd_same
    generalize upd H fo (.lst []) = H1 at s1 h1f
    refine ⟨_, rfl, _, rfl, by omega, by omega, fun le nle => ?_⟩
    have em : ((m : Nat) : Int).toNat = m := by omega
    refine lc_range (lo := 0) (n := ((m : Nat) : Int).toNat) (fun i H2 => Same H1 (wo H2 le) ∧ H2 le = some (.lst (nms (List.range i)))) ⟨?_, upd_same⟩ ?_ ?_
    · rw [wo_upd]
      exact fun b o e => by rw [wo_ne (ne_of_none e nle)]; exact e
    · rintro i H2 hi ⟨e1, e2⟩
      refine ⟨rfl, yes_if ⟨_, rfl, _, e2, small1000 (by rw [nms_len, List.length_range]; omega), ?_, ?_⟩⟩
      · rw [wo_upd]
        exact e1
      · rw [upd_same, List.range_succ, nms_app, Int.zero_add]
        rfl
    rintro H2 ⟨e1, e2⟩
    rw [em] at e2
    have s2 : Same H H2 := s1.trans (e1.trans (wo_le le))
    have lef : le ≠ fo := (ne_of_none h1f nle).symm
    have les : le ≠ sr := (ne_of_none (s1 _ _ hs1) nle).symm
    have h2f : H2 fo = some (.lst (nms [])) := wo_le le _ _ (e1 _ _ h1f)
    refine ⟨_, _, rfl, ?_⟩
    refine ⟨_, rfl, _, rfl, by omega, by omega, ?_⟩
    refine for_range (lo := 0) (n := ((m : Nat) : Int).toNat) (fun i σ H3 => ∃ (ns ms : List Nat) (le : Addr) (y4 y5 y6 : Option V), σ = [some (.ref sr), some (.int (m : Int)), some (.ref fo), some (.ref le), y4, y5, y6] ∧ Ran H H3 sr ∧ H3 fo = some (.lst (nms ns)) ∧ H3 le = some (.lst (nms ms)) ∧ le ≠ sr ∧ le ≠ fo ∧
        ns.length = i ∧ ms.length + i = m ∧ (ns ++ ms).Nodup ∧ ∀ x ∈ ns ++ ms, x < m) ⟨[], List.range m, le, none, none, none, rfl, ⟨wo_same s2, o0, s2 _ _ hs1, hs2⟩, h2f, e2, les, lef, rfl, by rw [List.length_range]; omega, by simpa using List.nodup_range, fun x hx => by simpa using hx⟩ ?_ ?_
    · rintro i σ H3 hi ⟨ns, ms, le, y4, y5, y6, rfl, rn, g1, g2, le1, le2, n1, n2, n3, n4⟩
      refine ⟨_, rfl, _, rfl, sr, _, rfl, rn.src, .inl ⟨le, nms ms, rfl, .inl (.inl (by rw [wo_ne le1]; exact g2)), by rw [nms_len]; omega, by rw [nms_len]; omega, fun j x H4 hx rn4 => ?_⟩⟩
      obtain ⟨c, hc, rfl⟩ := nms_at hx
      have g1' := rn4.at_ g1 fos
      have g2' := rn4.at_ g2 le1
      have cm : c ∈ ms := List.mem_of_getElem? hc
      refine ⟨_, rfl, .inl ⟨rfl, _, SqL.of g1'⟩, _, rfl, fo, _, _, rfl, rfl, g1', small1000 (by rw [nms_len]; omega), ?_⟩
      have g3 : (upd H4 fo (.lst (nms ns ++ [.int (c : Int)]))) fo = some (.lst (nms (ns ++ [c]))) := by
        rw [upd_same, nms_app]
        rfl
      have g4 : (upd H4 fo (.lst (nms ns ++ [.int (c : Int)]))) le = some (.lst (nms ms)) := by rw [upd_ne le2]; exact g2'
      have rn5 : Ran H (upd H4 fo (.lst (nms ns ++ [.int (c : Int)]))) sr := by
        have z := rn.trans rn4
        obtain ⟨o5, h5, h6⟩ := z.src
        refine ⟨fun b o e => ?_, o5, by rw [upd_ne fos.symm]; exact h5, h6⟩
        have e5 := wo_le sr _ _ e
        have nb : b ≠ fo := ne_of_none e5 nfo
        rw [wo_upd_ne _ fos, upd_ne nb]
        exact z.same b o e
      generalize upd H4 fo (.lst (nms ns ++ [.int (c : Int)])) = H5 at g3 g4 rn5
      refine ⟨_, rfl, le, rfl, ⟨_, SqL.of g4⟩, fun D nD => ?_⟩
      refine lc_list (xs := nms ms) (fun j H6 => Same H5 (wo H6 D) ∧ H6 D = some (.lst (nms ((ms.take j).filter fun x => decide (x ≠ c))))) ⟨?_, upd_same⟩ (fun j H6 _ z => SqL.of (wo_le D _ _ (z.1 _ _ g4))) ?_ ?_
      · rw [wo_upd]
        exact fun b o e => by rw [wo_ne (ne_of_none e nD)]; exact e
      · rintro j y H6 hy ⟨e1, e2⟩
        obtain ⟨d, hd, rfl⟩ := nms_at hy
        refine ⟨rfl, _, rfl, _, rfl, rfl, _, rfl, ?_⟩
        rw [show (!decide (V.int (d : Int) = V.int (c : Int))) = decide (d ≠ c) from int_ne _ _]
        have tk : ((ms.take (j + 1)).filter fun x => decide (x ≠ c)) = ((ms.take j).filter fun x => decide (x ≠ c)) ++ (if d ≠ c then [d] else []) := by
          rw [SG.take_one hd, List.filter_append]
          by_cases e : d = c
          · simp [e]
          · simp [e]
        rw [tk]
        by_cases e : d ≠ c
        · rw [decide_eq_true e, if_pos e]
          refine iteT ⟨_, rfl, _, e2, small1000 ?_, ?_, ?_⟩
          · rw [nms_len]
            have := List.length_filter_le (fun x => decide (x ≠ c)) (ms.take j)
            rw [List.length_take] at this
            omega
          · rw [wo_upd]
            exact e1
          · rw [upd_same, nms_app]
            rfl
        · rw [decide_eq_false e, if_neg e, List.append_nil]
          exact iteF ⟨e1, e2⟩
      rintro H6 ⟨e1, e2⟩
      rw [nms_len, List.take_length] at e2
      have o6 : Same H5 H6 := e1.trans (wo_le D)
      obtain ⟨o5, h5, _⟩ := rn5.src
      have cn : c ∉ ns := fun z => by
        have := (List.nodup_append.mp n3).2.2 c z c cm
        exact this rfl
      have msn := (List.nodup_append.mp n3).2.1
      have fl : (ms.filter fun x => decide (x ≠ c)).length + 1 = ms.length := by
        have e : (ms.filter fun x => decide (x ≠ c)) = ms.erase c := by
          rw [List.Nodup.erase_eq_filter msn]
          refine List.filter_congr fun x _ => ?_
          by_cases h : x = c
          · rw [h]
            simp
          · rw [decide_eq_true h]
            exact (bne_iff_ne.mpr h).symm
        rw [e, List.length_erase_of_mem cm]
        have : 0 < ms.length := List.length_pos_of_mem cm
        omega
      refine ⟨ns ++ [c], ms.filter fun x => decide (x ≠ c), D, _, _, _, rfl, rn5.grow o6, o6 _ _ g3, e2, (ne_of_none h5 nD).symm, (ne_of_none g3 nD).symm, by rw [List.length_append, n1]; rfl, by omega, ?_, fun x hx => ?_⟩
      · refine List.nodup_append.mpr ⟨List.nodup_append.mpr ⟨(List.nodup_append.mp n3).1, by simp, fun a ha b hb e => ?_⟩, msn.filter _, fun a ha b hb e => ?_⟩
        · rw [List.mem_singleton.mp hb] at e
          exact cn (e ▸ ha)
        · subst e
          rcases List.mem_append.mp ha with z | z
          · exact (List.nodup_append.mp n3).2.2 a z a ((List.mem_filter.mp hb).1) rfl
          · rw [List.mem_singleton.mp z] at hb
            have := (List.mem_filter.mp hb).2
            simp at this
      · rcases List.mem_append.mp hx with z | z
        · rcases List.mem_append.mp z with z | z
          · exact n4 x (List.mem_append_left _ z)
          · rw [List.mem_singleton.mp z]
            exact n4 c (List.mem_append_right _ cm)
        · exact n4 x (List.mem_append_right _ ((List.mem_filter.mp z).1))
    · rintro σ H3 ⟨ns, ms, le, y4, y5, y6, rfl, rn, g1, g2, le1, le2, n1, n2, n3, n4⟩
      exact ⟨_, rfl, q fo ns H3 rn nfo fos g1 (by omega) (List.nodup_append.mp n3).1 fun x hx => n4 x (List.mem_append_left _ hx)⟩
end
end CC
namespace CC
open PySem L2
abbrev sAll : Stmt := tp 39
section
variable {P : Program} {w : World} {K : PySem.W.Frag} {mg : Str → Option Value} {base : Heap} {kA : Addr}
abbrev nAl : List Str := ["_law_width", "_law_found", "_law_kind", "_law_a", "_law_b"]
theorem scAll : FnScope nAl ["_law_width"] (defScope sAll) := ⟨rfl, rfl, rfl, by decide +kernel, rfl, by decide +kernel, by decide +kernel⟩
theorem ok_all {f : Addr} {fd : FuncData} {k : Nat} (F : Fun K "_law_all" "_law_all" sAll f fd) (T : Glb K mg kA) : FnOk P w K mg base CX0 (k + 1) f fd ["_law_width"] (spAll K) := by
  refine F.ok scAll (fun vs H Q E h => ?_) (fun cdv A outer s H vs Q E hr h => ?_)
  · obtain ⟨z, rfl, _⟩ := h
    rfl
  · obtain ⟨z, rfl, hz, q⟩ := h
    have n := scAll.nd
    refine ⟨_, pss_cons (ps_set (i := 1) n rfl (.inl rfl) (pe_lst pa_nil))
      (pss_cons (ps_for PassesOwn.never rfl (pi_tup (pe_tup (pa_cons pe_str (pa_cons pe_str pa_nil)))) (pg_name (i := 2) n rfl (.inr rfl))
        (pss_one (ps_for PassesOwn.never rfl (pi_range1 (by rfl) T.rng (pa_cons (pv 0) pa_nil)) (pg_name (i := 3) n rfl (.inr rfl))
          (pss_one (ps_expr (pe_bm PySem.F.plainAttrs_list PySem.F.slot_list_extend PySem.F.type_list_extend mt_extend (pv 1)
            (pa_cons (pe_lc (own := [("_law_b", 4)]) (g := gName 4) (tt := tTest (tOp rNe (tVar 4) (tVar 3))) rfl n (pi_range1 (by rfl) T.rng (pa_cons (pv 0) pa_nil)) (blkOk_by (N := nAl) (sc := defScope sAll) (by decide +kernel))
              (fun _ _ _ _ _ => pg_name (i := 4) n rfl (.inl rfl)) (fun _ _ _ _ _ => pts_one (pt_cmpR op_ne (pv 4) (pv 3) (nomark _))) (fun _ _ _ _ _ => pe_tup (pa_cons (pv 2) (pa_cons (pv 3) (pa_cons (pv 4) pa_nil))))) pa_nil)))))))
      (pss_one (ps_ret (pv 1)))), ?_⟩
    have ez : ((z : Nat) : Int).toNat = z := by omega
    refine ⟨Nat.zero_le _, fun fo nfo => ?_⟩
    refine ⟨(by show 2 ≤ sizeLine; decide), fun tp2 ntp => ?_⟩
    have tf : tp2 ≠ fo := fun e => by rw [e, upd_same] at ntp; cases ntp
    have h1t : (upd (upd H fo (.lst [])) tp2 (.tup [.str "settles", .str "within"])) tp2 = some (.tup [.str "settles", .str "within"]) := upd_same
    have m1 : MadeF R.d K (upd H tp2 (.tup [.str "settles", .str "within"])) fo 0 (upd (upd H fo (.lst [])) tp2 (.tup [.str "settles", .str "within"])) [] := by
      refine ⟨[], ?_, by rw [upd_ne tf.symm]; exact upd_same, .nil, Nat.le_refl _⟩
      rw [wo_upd_ne _ tf, wo_upd_ne _ tf, wo_upd]
      exact Same.refl _
    have ntH : H tp2 = none := by
      rw [upd_ne tf] at ntp
      exact ntp
    have sH : Same H (upd H tp2 (.tup [.str "settles", .str "within"])) := same_new ntH
    have nf1 : (upd H tp2 (.tup [.str "settles", .str "within"])) fo = none := by
      rw [upd_ne tf.symm]
      exact nfo
    have t0 : (upd H tp2 (.tup [.str "settles", .str "within"])) tp2 = some (.tup [.str "settles", .str "within"]) := upd_same
    generalize upd H tp2 (.tup [.str "settles", .str "within"]) = H0 at m1 sH nf1 t0
    generalize upd (upd H fo (.lst [])) tp2 (.tup [.str "settles", .str "within"]) = H1 at m1 h1t
    refine ⟨tp2, rfl, ⟨_, .inl (.inl h1t)⟩, ?_⟩
    refine for_tup (xs := [.str "settles", .str "within"]) (fun i σ H2 => ∃ y2 y3 y4, σ = [some (.int (z : Int)), some (.ref fo), y2, y3, y4] ∧ MadeF R.d K H0 fo (36 * i) H2 (([true, false].take i).flatMap fun k => (List.range z).flatMap fun a => row z a k)) ⟨none, none, none, rfl, m1⟩
      (fun i σ H2 _ ⟨_, _, _, _, p⟩ => .inl (.inl (p.old nf1 _ _ t0))) ?_ ?_
    · rintro i x σ H2 hx ⟨y2, y3, y4, rfl, p⟩
      obtain ⟨kk, rfl, hi, tk⟩ : ∃ kk : Bool, x = .str (kd kk) ∧ i < 2 ∧ [true, false].take (i + 1) = [true, false].take i ++ [kk] := by
        match i, hx with
        | 0, hx =>
          simp at hx
          exact ⟨true, hx.symm, by decide, rfl⟩
        | 1, hx =>
          simp at hx
          exact ⟨false, hx.symm, by decide, rfl⟩
        | n + 2, hx => simp at hx
      rw [tk, List.flatMap_append]
      generalize ([true, false].take i).flatMap (fun k => (List.range z).flatMap fun a => row z a k) = pre at p
      refine ⟨_, rfl, _, rfl, by omega, by omega, ?_⟩
      refine for_range (lo := 0) (n := ((z : Nat) : Int).toNat) (fun j σ H3 => ∃ y3 y4, σ = [some (.int (z : Int)), some (.ref fo), some (.str (kd kk)), y3, y4] ∧ MadeF R.d K H0 fo (36 * i + 6 * j) H3 (pre ++ (List.range j).flatMap fun a => row z a kk)) ⟨y3, y4, rfl, p.up (by omega) (by simp)⟩ ?_ ?_
      · rintro j σ H3 hj ⟨y3, y4, rfl, p3⟩
        obtain ⟨us3, _, hfo, _⟩ := id p3
        refine ⟨_, rfl, .inl ⟨rfl, _, SqL.of hfo⟩, _, rfl, _, rfl, by omega, by omega, fun D nD => ?_⟩
        have fD : fo ≠ D := ne_of_none hfo nD
        refine lc_range (lo := 0) (n := ((z : Nat) : Int).toNat) (fun l H4 => MadeF R.d K H3 D l H4 (((List.range l).filter fun b => decide (j ≠ b)).map fun b => ⟨kk, j, b⟩)) MadeF.start ?_ ?_
        · intro l H4 hl p4
          refine ⟨rfl, _, rfl, _, rfl, rfl, _, rfl, ?_⟩
          rw [Int.zero_add, Int.zero_add, row_step z j kk l (by omega), List.map_append]
          rw [show (!decide (V.int (l : Int) = V.int (j : Int))) = decide (l ≠ j) from int_ne _ _]
          by_cases e : j = l
          · have e2 : decide (l ≠ j) = false := by rw [e]; simp
            rw [e2, if_pos e]
            exact iteF (p4.up (by omega) (by simp))
          · have e2 : decide (l ≠ j) = true := decide_eq_true (fun h => e h.symm)
            rw [e2, if_neg e]
            refine iteT ⟨_, rfl, _, rfl, _, rfl, (by show 3 ≤ sizeLine; decide), fun t nt => ?_⟩
            exact p4.push (r := ⟨kk, j, l⟩) (by omega) (Nat.lt_succ_self _) (same_new nt) (r_dp (r := ⟨kk, j, l⟩) (p4.tup nt))
        · intro H4 p4
          rw [ez] at p4
          have o4 := p4.old nD
          obtain ⟨zs, _, hD, dz, zl⟩ := p4
          have zl2 : zs.length ≤ 6 := by omega
          refine ⟨fo, D, us3, zs, rfl, rfl, o4 _ _ hfo, hD, ?_, ?_⟩
          · have l1 : us3.length ≤ 36 * i + 6 * j := by
              obtain ⟨us4, _, h4, _, h5⟩ := id p3
              rw [hfo] at h4
              cases h4
              exact h5
            exact Nat.le_of_lt (small1000 (by omega))
          · refine ⟨_, _, rfl, ?_⟩
            rw [List.range_succ, List.flatMap_append, ← List.append_assoc]
            have fin := p3.extend (rs2 := row z j kk) (m := 36 * i + 6 * (j + 1)) hfo o4 (zs := zs) ?_ (by omega)
            · simpa using fin
            · exact rds_T ((same_T (wo_le D)).trans (wo_T (o4 _ _ hfo))) dz
      · rintro σ H3 ⟨y3, y4, rfl, p3⟩
        rw [ez] at p3
        refine ⟨_, y3, y4, rfl, p3.up (by omega) ?_⟩
        simp
    · rintro σ H2 ⟨y2, y3, y4, rfl, p⟩
      exact ⟨_, rfl, p.out nf1 sH q⟩
end
end CC
namespace CC
open PySem L2
abbrev sDue : Stmt := tp 43
section
variable {P : Program} {w : World} {K : PySem.W.Frag} {mg : Str → Option Value} {base : Heap} {kA : Addr}
abbrev nDu : List Str := ["_law_width", "_law_rules_here", "_law_settled", "_law_named", "_law_kind", "_law_a", "_law_b"]
theorem scDue : FnScope nDu ["_law_width", "_law_rules_here"] (defScope sDue) := ⟨rfl, rfl, rfl, by decide +kernel, rfl, by decide +kernel, by decide +kernel⟩
theorem ok_due {f : Addr} {fd : FuncData} {k : Nat} (F : Fun K "_law_due" "_law_due" sDue f fd) (T : Glb K mg kA) (cA : Cal P w K mg base "_law_arrows" ["_law_width", "_law_rules_here", "_law_kind"] (spArrows K) 2)
 (cR : Cal P w K mg base "_law_reach" ["_law_width", "_law_pairs"] (spReach K) 1)
 (cL : Cal P w K mg base "_law_all" ["_law_width"] (spAll K) 1) : FnOk P w K mg base CX0 (k + 3) f fd ["_law_width", "_law_rules_here"] (spDue K) := by
  have GA := cA.ok (k + 2) (by omega)
  have GR := cR.ok (k + 2) (by omega)
  have GL := cL.ok (k + 2) (by omega)
  refine F.ok scDue (fun vs H Q E h => ?_) (fun cdv A outer s H vs Q E hr h => ?_)
  · obtain ⟨w, g, us, rs, rfl, _⟩ := h
    rfl
  · obtain ⟨w, g, us, rs, rfl, hg, dp, ho, hw, hl, q⟩ := h
    have n := scDue.nd
    refine ⟨_, pss_cons (ps_set (i := 2) n rfl (.inr rfl) (pe_call GR hr rfl cR.g cR.kp cR.b .nil pass0 (pa_cons (pv 0) (pa_cons (pe_call GA hr rfl cA.g cA.kp cA.b .nil pass0 (pa_cons (pv 0) (pa_cons (pv 1) (pa_cons pe_str pa_nil)))) pa_nil))))
      (pss_cons (ps_set (i := 3) n rfl (.inr rfl) (pe_call GR hr rfl cR.g cR.kp cR.b .nil pass0 (pa_cons (pv 0) (pa_cons (pe_call GA hr rfl cA.g cA.kp cA.b .nil pass0 (pa_cons (pv 0) (pa_cons (pv 1) (pa_cons pe_str pa_nil)))) pa_nil))))
      (pss_one (ps_ret (pe_lc (own := [("_law_kind", 4), ("_law_a", 5), ("_law_b", 6)]) (g := g3 K 4 5 6) (tt := tB (tOp (rIxL K) (tOp (rIxL K) (tIf (tTest (tOp rEq (tVar 4) (tC (.str "settles")))) (tVar 2) (tVar 3)) (tVar 5)) (tVar 6))) rfl n (pi_list (pe_call GL hr rfl cL.g cL.kp cL.b .nil pass0 (pa_cons (pv 0) pa_nil))) (blkOk_by (N := nDu) (sc := defScope sDue) (by decide +kernel))
          (fun _ _ _ _ _ => pg_tup rfl (pgs_cons (pg_name (i := 4) n rfl (.inl rfl)) (pgs_cons (pg_name (i := 5) n rfl (.inl rfl)) (pgs_cons (pg_name (i := 6) n rfl (.inl rfl)) pgs_nil))))
          (fun _ _ _ _ _ => pts_one (pt_val (pe_ix ix_list (pe_ix ix_list (pe_ifExp (pt_cmpR op_eq (pv 4) pe_str (nomark _)) (pv 2) (pv 3)) (pv 5) (fun _ _ => rfl)) (pv 6) (fun _ _ => rfl))))
          (fun _ _ _ _ _ => pe_tup (pa_cons (pv 4) (pa_cons (pv 5) (pa_cons (pv 6) pa_nil)))))))), ?_⟩
    have plt : ∀ {k : Bool} {ps : List (Nat × Nat)}, (∀ x y, (x, y) ∈ ps ↔ Lk rs k x y) → ∀ x ∈ ps, x.1 < w ∧ x.2 < w := fun {k ps} h x hx => by
      obtain ⟨a, b⟩ := x
      exact lk_lt ho ((h a b).mp hx)
    refine ⟨_, rfl, _, rfl, _, rfl, w, g, us, rs, true, rfl, hg, dp, ho, hw, hl, fun p1 u1 ps1 H1 s1 np1 hp1 d1 k1 => ?_⟩
    refine ⟨w, p1, u1, ps1, rfl, hw, SqL.of hp1, dps_same (wo_le p1) _ _ d1, plt k1, fun ta M1 H2 s2 nta mt1 hM1 => ?_⟩
    have s12 : Same H H2 := s1.trans s2
    refine ⟨_, rfl, _, rfl, _, rfl, w, g, us, rs, false, rfl, same_l s12 hg, dps_same s12 _ _ dp, ho, hw, hl, fun p3 u3 ps3 H3 s3 np3 hp3 d3 k3 => ?_⟩
    refine ⟨w, p3, u3, ps3, rfl, hw, SqL.of hp3, dps_same (wo_le p3) _ _ d3, plt k3, fun tb M2 H4 s4 ntb mt2 hM2 => ?_⟩
    have s24 : Same H2 H4 := s3.trans s4
    refine ⟨_, rfl, w, rfl, hw, fun pa ua H5 s5 npa hpa da => ⟨pa, rfl, ⟨_, SqL.of hpa⟩, fun D nD => ?_⟩⟩
    have da5 : DpAll K H5 ua ((allR w).map R.d) := dps_same (wo_le pa) _ _ da
    have al : (allR w).length ≤ 60 := few_rules hw (fun r h => mem_allR.mp h) (allR_nodup hw)
    have ual : ua.length = (allR w).length := by rw [dps_len da5, List.length_map]
    refine lc_list (xs := ua) (fun i H6 => MadeF R.d K H5 D i H6 (((allR w).take i).filter fun r => (if r.k then M1 else M2) r.a r.b)) MadeF.start (fun i H6 _ z => SqL.of (z.old nD _ _ hpa)) ?_ ?_
    · intro i v H6 hv p
      obtain ⟨r, hr2, dr⟩ := dps_rat da5 hv
      have il : i < (allR w).length := (List.getElem?_eq_some_iff.mp hr2).1
      have o6 := p.old nD
      have hm := mem_allR.mp (List.mem_of_getElem? hr2)
      obtain ⟨t, rfl, ht⟩ := dp_r (dp_same o6 _ _ dr)
      obtain ⟨rows1, R1, R2⟩ := ((mt1.same s24).same (s5.trans o6)).at_
      obtain ⟨rows2, S1, S2⟩ := (mt2.same (s5.trans o6)).at_
      obtain ⟨rx, x1, x2⟩ := R2 r.a hm.1
      obtain ⟨ry, y1, y2⟩ := S2 r.a hm.1
      rw [filter_step hr2]
      refine ⟨t, _, rfl, ht, rfl, _, _, rfl, _, _, rfl, _, _, rfl, rfl, rfl, ?_⟩
      have tail : ∀ b : Bool, (if r.k then M1 else M2) r.a r.b = b → (if b = true then (tTup (tCons (tVar 4) (tCons (tVar 5) (tCons (tVar 6) tNil)))) [some (.int (w : Int)), some (.ref g), some (.ref ta), some (.ref tb), some (.str (kd r.k)), some (.int (r.a : Int)), some (.int (r.b : Int))] H6
          (fun y H4 => ∃ acc, H4 D = some (.lst acc) ∧ acc.length < sizeLine ∧ MadeF R.d K H5 D (i + 1) (upd H4 D (.lst (acc ++ [y]))) (((allR w).take i).filter (fun r => (if r.k then M1 else M2) r.a r.b) ++ (if (if r.k then M1 else M2) r.a r.b = true then [r] else [])))
          else MadeF R.d K H5 D (i + 1) H6 (((allR w).take i).filter (fun r => (if r.k then M1 else M2) r.a r.b) ++ (if (if r.k then M1 else M2) r.a r.b = true then [r] else []))) := fun b hb => by
        rw [hb]
        cases b with
        | false => exact iteF (p.up (by omega) (by simp))
        | true =>
          refine iteT ⟨_, rfl, _, rfl, _, rfl, (by show 3 ≤ sizeLine; decide), fun t2 n2 => ?_⟩
          exact p.push (r := r) (by omega) (Nat.lt_succ_self _) (same_new n2) (r_dp (p.tup n2))
      refine ⟨_, rfl, rfl, _, rfl, ?_⟩
      rw [show decide (V.str (kd r.k) = V.str (Str.ofString "settles")) = r.k from kd_eq r.k]
      cases hk : r.k with
      | true =>
        rw [hk] at tail
        refine iteT ⟨_, rfl, _, rfl, ta, _, _, _, rfl, rfl, R1, atI_nat x1, _, rfl, rx, _, _, _, rfl, rfl, x2, atI_nat (brow_at hm.2.1), _, rfl, ?_⟩
        exact tail _ rfl
      | false =>
        rw [hk] at tail
        refine iteF ⟨_, rfl, _, rfl, tb, _, _, _, rfl, rfl, S1, atI_nat y1, _, rfl, ry, _, _, _, rfl, rfl, y2, atI_nat (brow_at hm.2.1), _, rfl, ?_⟩
        exact tail _ rfl
    · intro H6 p
      rw [ual, List.take_length] at p
      have o6 := p.old nD
      obtain ⟨uf, _, hf, df, _⟩ := p
      have sH : Same H H5 := s12.trans (s24.trans s5)
      refine q D uf _ H6 (sH.trans o6) (sH.free nD) hf df fun r hr2 => ?_
      rw [List.mem_filter, mem_allR]
      unfold Fol
      cases hk : r.k with
      | true =>
        rw [← rch_rt k1, ← hM1 _ _ hr2.1 hr2.2.1]
        exact ⟨fun z => z.2, fun z => ⟨hr2, z⟩⟩
      | false =>
        rw [← rch_rt k3, ← hM2 _ _ hr2.1 hr2.2.1]
        exact ⟨fun z => z.2, fun z => ⟨hr2, z⟩⟩
end
end CC
/-! ### groups of columns, by a table of what is reached -/
namespace CC
open PySem L2
def grpM (M : Nat → Nat → Bool) (w a : Nat) : List Nat := (List.range w).filter fun b => M a b && M b a
def clsM (M : Nat → Nat → Bool) (w : Nat) : List (List Nat) := ((List.range w).filter fun a => (grpM M w a).head? == some a).map (grpM M w)
section
variable {M N : Nat → Nat → Bool} {w a b : Nat}
theorem grp_congr (h : ∀ x y, x < w → y < w → M x y = N x y) (ha : a < w) : grpM M w a = grpM N w a := by
  unfold grpM
  refine List.filter_congr fun b hb => ?_
  have hb := List.mem_range.mp hb
  rw [h a b ha hb, h b a hb ha]
theorem cls_congr (h : ∀ x y, x < w → y < w → M x y = N x y) : clsM M w = clsM N w := by
  unfold clsM
  have e : ((List.range w).filter fun a => (grpM M w a).head? == some a) = ((List.range w).filter fun a => (grpM N w a).head? == some a) := by
    refine List.filter_congr fun b hb => ?_
    rw [grp_congr h (List.mem_range.mp hb)]
  rw [e]
  refine List.map_congr_left fun b hb => ?_
  exact grp_congr h (List.mem_range.mp (List.mem_filter.mp hb).1)
theorem grp_mem : b ∈ grpM M w a ↔ b < w ∧ M a b = true ∧ M b a = true := by
  unfold grpM
  rw [List.mem_filter, List.mem_range, Bool.and_eq_true]
theorem grp_inc : (grpM M w a).Pairwise (· < ·) := List.Pairwise.filter _ List.pairwise_lt_range
theorem grp_lt {x : Nat} (h : x ∈ grpM M w a) : x < w := (grp_mem.mp h).1
theorem grp_len : (grpM M w a).length ≤ w := by
  unfold grpM
  have := List.length_filter_le (fun b => M a b && M b a) (List.range w)
  rwa [List.length_range] at this
theorem inc_eq : ∀ {l m : List Nat}, l.Pairwise (· < ·) → m.Pairwise (· < ·) → (∀ x, x ∈ l ↔ x ∈ m) → l = m
  | [], [], _, _, _ => rfl
  | [], y :: m, _, _, h => absurd ((h y).mpr List.mem_cons_self) (by simp)
  | x :: l, [], _, _, h => absurd ((h x).mp List.mem_cons_self) (by simp)
  | x :: l, y :: m, hl, hm, h => by
    rw [List.pairwise_cons] at hl hm
    have e : x = y := by
      rcases List.mem_cons.mp ((h x).mp List.mem_cons_self) with z | z
      · exact z
      · rcases List.mem_cons.mp ((h y).mpr List.mem_cons_self) with q | q
        · exact q.symm
        · have := hm.1 x z
          have := hl.1 y q
          omega
    subst e
    rw [inc_eq hl.2 hm.2 fun z => ?_]
    constructor
    · intro hz
      rcases List.mem_cons.mp ((h z).mp (List.mem_cons_of_mem _ hz)) with q | q
      · have := hl.1 z hz
        omega
      · exact q
    · intro hz
      rcases List.mem_cons.mp ((h z).mpr (List.mem_cons_of_mem _ hz)) with q | q
      · have := hm.1 z hz
        omega
      · exact q
/-- what is told of M for a law: it leads from each column to itself, and on -/
structure Eqr (M : Nat → Nat → Bool) (w : Nat) : Prop where
  refl : ∀ x, x < w → M x x = true
  trans : ∀ x y z, x < w → y < w → z < w → M x y = true → M y z = true → M x z = true
theorem Eqr.self (h : Eqr M w) (ha : a < w) : a ∈ grpM M w a := grp_mem.mpr ⟨ha, h.refl a ha, h.refl a ha⟩
theorem Eqr.same (h : Eqr M w) (ha : a < w) (hb : b ∈ grpM M w a) : grpM M w b = grpM M w a := by
  obtain ⟨b1, b2, b3⟩ := grp_mem.mp hb
  refine inc_eq grp_inc grp_inc fun x => ?_
  rw [grp_mem, grp_mem]
  constructor
  · rintro ⟨x1, x2, x3⟩
    exact ⟨x1, h.trans _ _ _ ha b1 x1 b2 x2, h.trans _ _ _ x1 b1 ha x3 b3⟩
  · rintro ⟨x1, x2, x3⟩
    exact ⟨x1, h.trans _ _ _ b1 ha x1 b3 x2, h.trans _ _ _ x1 ha b1 x3 b2⟩
theorem Eqr.head (h : Eqr M w) (ha : a < w) : ∃ c, (grpM M w a).head? = some c ∧ c ≤ a ∧ c ∈ grpM M w a := by
  cases e : grpM M w a with
  | nil =>
    have := h.self ha
    rw [e] at this
    cases this
  | cons c r =>
    refine ⟨c, rfl, ?_, List.mem_cons_self⟩
    have m := h.self ha
    have i := grp_inc (M := M) (w := w) (a := a)
    rw [e] at m i
    rcases List.mem_cons.mp m with z | z
    · omega
    · have := (List.pairwise_cons.mp i).1 a z
      omega
/-- the groups of the columns below i, each once -/
def clsTo (M : Nat → Nat → Bool) (w i : Nat) : List (List Nat) := ((List.range i).filter fun a => (grpM M w a).head? == some a).map (grpM M w)
theorem clsTo_step (i : Nat) : clsTo M w (i + 1) = clsTo M w i ++ (if ((grpM M w i).head? == some i) = true then [grpM M w i] else []) := by
  unfold clsTo
  rw [List.range_succ, List.filter_append, List.map_append]
  by_cases e : ((grpM M w i).head? == some i) = true
  · rw [if_pos e, List.filter_cons_of_pos (p := fun a => (grpM M w a).head? == some a) e]
    rfl
  · rw [if_neg e, List.filter_cons_of_neg (p := fun a => (grpM M w a).head? == some a) e]
    rfl
theorem Eqr.seen (h : Eqr M w) {i : Nat} (hi : i < w) : grpM M w i ∈ clsTo M w i ↔ ¬ ((grpM M w i).head? == some i) = true := by
  obtain ⟨c, c1, c2, c3⟩ := h.head hi
  rw [c1]
  constructor
  · intro m e
    have e : c = i := by simpa using e
    subst e
    unfold clsTo at m
    obtain ⟨x, hx, ex⟩ := List.mem_map.mp m
    have hx1 := List.mem_range.mp (List.mem_filter.mp hx).1
    have mx : x ∈ grpM M w c := by
      rw [← ex]
      exact h.self (by omega)
    cases q : grpM M w c with
    | nil => rw [q] at c3; cases c3
    | cons y r =>
      rw [q] at c1 mx
      have ey : y = c := by simpa using c1
      have i2 := grp_inc (M := M) (w := w) (a := c)
      rw [q] at i2
      rcases List.mem_cons.mp mx with z | z
      · omega
      · have := (List.pairwise_cons.mp i2).1 x z
        omega
  · intro e
    have ne : ¬ c = i := fun z => e (by rw [z]; simp)
    have cw : c < w := grp_lt c3
    have es := h.same hi c3
    unfold clsTo
    refine List.mem_map.mpr ⟨c, List.mem_filter.mpr ⟨List.mem_range.mpr (by omega), ?_⟩, es⟩
    rw [es, c1]
    simp
theorem clsTo_heads (i : Nat) : (clsTo M w i).Pairwise fun x y => ∃ a b, x.head? = some a ∧ y.head? = some b ∧ a < b := by
  unfold clsTo
  rw [List.pairwise_map]
  have p : ((List.range i).filter fun a => (grpM M w a).head? == some a).Pairwise (· < ·) := List.Pairwise.filter _ List.pairwise_lt_range
  refine (List.pairwise_iff_forall_sublist.mpr fun {x y} hs => ?_)
  have hx : x ∈ (List.range i).filter fun a => (grpM M w a).head? == some a := hs.subset (by simp)
  have hy : y ∈ (List.range i).filter fun a => (grpM M w a).head? == some a := hs.subset (by simp)
  have lt := List.pairwise_iff_forall_sublist.mp p hs
  exact ⟨x, y, by simpa using (List.mem_filter.mp hx).2, by simpa using (List.mem_filter.mp hy).2, lt⟩
theorem clsTo_len (i : Nat) : (clsTo M w i).length ≤ i := by
  unfold clsTo
  rw [List.length_map]
  have := List.length_filter_le (fun a => (grpM M w a).head? == some a) (List.range i)
  rwa [List.length_range] at this
end
end CC
namespace CC
open PySem L2
theorem lc_enum {K : PySem.W.Frag} {a : Addr} {xs : List V} {g : TG} {tt : TT} {te : TE} {vs : List Nat} {σ : L2.St} {H1 : Hp} {D : Addr} {N : Hp → Prop} (Pv : Nat → Hp → Prop) (h0 : Pv 0 (upd H1 D (.lst []))) (hl : ∀ i H, i ≤ xs.length → Pv i H → SqL K H a xs)
    (hs : ∀ i x t H, xs[i]? = some x → Pv i H → H t = none → g (.ref t) (wipe σ vs) (upd H t (.tup [.int (i : Nat), x])) fun τ H2 => wipe τ vs = wipe σ vs ∧ tt τ H2 fun b H3 => if b = true then te τ H3 fun y H4 => ∃ acc, H4 D = some (.lst acc) ∧ acc.length < sizeLine ∧ Pv (i + 1) (upd H4 D (.lst (acc ++ [y]))) else Pv (i + 1) H3)
    (hd : ∀ H, Pv xs.length H → N H) :
    ∃ W : Nat → Nat → Hp → Prop, (∃ m, W 0 m (upd H1 D (.lst []))) ∧ ∀ i m H, W i m H → ((Ite K a).stop i H ∧ N H) ∨ ((Ite K a).go i H ∧ ∃ Nx : Hp → Prop, (∀ H', Nx H' → ∃ m', m' < m ∧ W (i + 1) m' H') ∧ ∀ x H', (Ite K a).yld i H x H' →
      g x (wipe σ vs) H' fun τ H2 => wipe τ vs = wipe σ vs ∧ tt τ H2 fun b H3 => if b = true then te τ H3 fun y H4 => ∃ acc, H4 D = some (.lst acc) ∧ acc.length < sizeLine ∧ Nx (upd H4 D (.lst (acc ++ [y]))) else Nx H3) := by
  refine ⟨fun i m H => m = xs.length - i ∧ i ≤ xs.length ∧ Pv i H, ⟨xs.length, by simp, Nat.zero_le _, h0⟩, ?_⟩
  rintro i m H ⟨rfl, hi, p⟩
  have q := hl i H hi p
  by_cases lt : i < xs.length
  · refine .inr ⟨⟨xs, xs[i], q, by simp [lt]⟩, Pv (i + 1), fun H' p' => ⟨xs.length - (i + 1), by omega, rfl, lt, p'⟩, fun x H' y => ?_⟩
    obtain ⟨t, v, rfl, nt, rfl, hv⟩ := y
    exact hs i v t H (hv xs q) p nt
  · have e : i = xs.length := by omega
    subst e
    exact .inl ⟨⟨xs, q, Nat.le_refl _⟩, hd H p⟩
end CC
namespace CC
open PySem L2 TL
/-- a property of an own class: a field's value -/
structure Prp (P : Program) (w : World) (K : PySem.W.Frag) (mg : Str → Option Value) (base : Heap) (C : Addr) (f fld : Str) where
  p : Addr
  g : Addr
  fd : FuncData
  hp : PropOf K C f p g
  ok : ∀ k, 1 ≤ k → FnOk P w K mg base CX0 k g fd ["self"] (getSp C fld)
  b : Binds K fd ["self"] []
/-- a property, by its promise -/
structure PrpG (P : Program) (w : World) (K : PySem.W.Frag) (mg : Str → Option Value) (base : Heap) (C : Addr) (f : Str) (sp : Sp) where
  p : Addr
  g : Addr
  fd : FuncData
  hp : PropOf K C f p g
  ok : ∀ k, 1 ≤ k → FnOk P w K mg base CX0 k g fd ["self"] sp
  b : Binds K fd ["self"] []
end CC
namespace CC
open PySem L2
abbrev sPW : Stmt := inClass (tp 25) 1
abbrev sPR : Stmt := inClass (tp 25) 2
section
variable {P : Program} {w : World} {K : PySem.W.Frag} {mg : Str → Option Value} {base : Heap} {kA : Addr}
theorem scPW : FnScope ["self"] ["self"] (defScope sPW) := ⟨rfl, rfl, rfl, by decide +kernel, rfl, by decide +kernel, by decide +kernel⟩
theorem scPR : FnScope ["self"] ["self"] (defScope sPR) := ⟨rfl, rfl, rfl, by decide +kernel, rfl, by decide +kernel, by decide +kernel⟩
theorem ok_pw {f C : Addr} {fd : FuncData} {k : Nat} (F : Fun K "width" "Rules.width" sPW f fd) (TC : Txt1 K mg C) : FnOk P w K mg base CX0 (k + 1) f fd ["self"] (getSp C "span") := by
  refine F.ok scPW (fun vs H Q E h => ?_) (fun cdv A outer s H vs Q E hr h => ?_)
  · obtain ⟨a, dx, fs, v, rfl, _⟩ := h
    rfl
  · obtain ⟨a, dx, fs, v, rfl, ea, l, q⟩ := h
    exact ⟨_, pss_one (ps_ret (pe_fld (pv 0) rfl)), _, rfl, a, C, dx, fs, v, rfl, ea, TC.cl, TC.nS, l, q⟩
theorem ok_pr {f C : Addr} {fd : FuncData} {k : Nat} (F : Fun K "rules" "Rules.rules" sPR f fd) (TC : Txt1 K mg C) : FnOk P w K mg base CX0 (k + 1) f fd ["self"] (getSp C "given") := by
  refine F.ok scPR (fun vs H Q E h => ?_) (fun cdv A outer s H vs Q E hr h => ?_)
  · obtain ⟨a, dx, fs, v, rfl, _⟩ := h
    rfl
  · obtain ⟨a, dx, fs, v, rfl, ea, l, q⟩ := h
    exact ⟨_, pss_one (ps_ret (pe_fld (pv 0) rfl)), _, rfl, a, C, dx, fs, v, rfl, ea, TC.cl, TC.nG, l, q⟩
end
end CC
namespace CC
open PySem L2
def asgVal1 : Stmt → Expr
  | .Assign _ v _ => v
  | _ => .Constant .none 0 ⟨0, 0, 0, 0⟩
def lcSc1 : Expr → Scope
  | .ListComp _ _ sc _ => sc
  | _ => { kind := .function, names := [], isGenerator := false, isCoroutine := false }
abbrev sChk : Stmt := tp 27
def spChk (K : PySem.W.Frag) (C : Addr) : Sp := fun vs H Q _ => ∃ (x : Addr) (w : Nat) (rs : List R), vs = [.ref x] ∧ RulesAt K C H x w rs ∧ Q .non H
def MIs (M : Nat → Nat → Bool) (w : Nat) (ps : List (Nat × Nat)) : Prop := ∀ x y, x < w → y < w → (M x y = true ↔ Rch ps x y)
/-- a new tuple of groups -/
def NewG (K : PySem.W.Frag) (H : Hp) (w : Nat) (ps : List (Nat × Nat)) (Q : VK) : Prop := ∀ (v : V) (M : Nat → Nat → Bool) (H' : Hp), Same H H' → Dp K H' v (.tuple ((clsM M w).map gd)) → MIs M w ps → Q v H'
def spCls (K : PySem.W.Frag) : Sp := fun vs H Q _ => ∃ (w : Nat) (a : Addr) (us : List V) (ps : List (Nat × Nat)), vs = [.int (w : Int), .ref a] ∧ w ≤ 6 ∧ SqL K H a us ∧ DpAll K H us (ps.map prd) ∧ (∀ x ∈ ps, x.1 < w ∧ x.2 < w) ∧ ps.length ≤ 1000 ∧ NewG K H w ps Q
def spGrp (K : PySem.W.Frag) (C : Addr) : Sp := fun vs H Q _ => ∃ (x : Addr) (w : Nat) (rs : List R), vs = [.ref x] ∧ RulesAt K C H x w rs ∧ (∀ r ∈ rs, r.ok w) ∧ w ≤ 6 ∧ rs.length ≤ 60 ∧ NewG K H w (rs.map down) Q
theorem down_ltw {rs : List R} {w : Nat} (ho : ∀ r ∈ rs, r.ok w) : ∀ x ∈ rs.map down, x.1 < w ∧ x.2 < w := fun x hx => by
  obtain ⟨r, hr, rfl⟩ := List.mem_map.mp hx
  have := ho r hr
  unfold down
  cases r.k
  · exact ⟨this.2.1, this.1⟩
  · exact ⟨this.1, this.2.1⟩
section
variable {P : Program} {w : World} {K : PySem.W.Frag} {mg : Str → Option Value} {base : Heap} {kA : Addr}
theorem scChk : FnScope ["rules"] ["rules"] (defScope sChk) := ⟨rfl, rfl, rfl, by decide +kernel, rfl, by decide +kernel, by decide +kernel⟩
theorem ok_chk {f C : Addr} {fd : FuncData} {k : Nat} (F : Fun K "check_rules" "check_rules" sChk f fd) (T : Glb K mg kA) (TC : Txt1 K mg C) (ic : C8.InsC K C) : FnOk P w K mg base CX0 (k + 1) f fd ["rules"] (spChk K C) := by
  refine F.ok scChk (fun vs H Q E h => ?_) (fun cdv A outer s H vs Q E hr h => ?_)
  · obtain ⟨x, w, rs, rfl, _⟩ := h
    rfl
  · obtain ⟨x, w, rs, rfl, ⟨dx, g, us, h1, _, _⟩, q⟩ := h
    refine ⟨_, pss_one (ps_if (pt_not (pt_val (pe_callB (C8.call_isC ic) (by rfl) T.isi (by decide +kernel) (pa_cons (pv 0) (pa_cons (pe_glob (v := .ref C) rfl TC.mgC rfl) pa_nil))))) (pss_one ps_never) pss_nil), ?_⟩
    exact ⟨_, rfl, x, dx, _, rfl, h1, _, rfl, iteF q⟩
end
end CC
namespace GF
open PySem PySem.Spec PyProof.Rows L2
section
variable {M : Model} {A : Around} {R : GenEnd} {Y : Protocol} {n : Nat} {s₀ : Shared} {c : Code} {fs : List Frame} {s : Shared} {env : Env} {K : Flow → Sem PySem.Fin} {J : Value → Sem PySem.Fin} {gd : Bool → Bool} {lv : List Value → List Value}
theorem seg_For {tg iter : Expr} {body : List Stmt} {pos : Pos} (hs : ∀ x, foldedSetIterable iter env x = pure x)
    (h : wpAny M (A.over c fs) (eval iter env) (fun x s1 => wpAny M (A.over c fs) (pyIter x) (fun it s2 => ∀ p, Seg M A R Y n s₀ (.forLoop tg it body [] env) (M.den (.forLoop tg it body [] env)) (.ret (fun r => ((match r with | .ok f => (.pure f : Sem Flow) | .error e => .raise e).onRaise (cameBack env)).wrap K J gd lv) none (gd false) (lv []) c p [] :: fs) s2) (fun x s' => Seg M A R Y n s₀ c (J x) fs s') s1) (fun x s' => Seg M A R Y n s₀ c (J x) fs s') s) :
    Seg M A R Y n s₀ c ((exec (.For tg iter body [] pos) env).wrap K J gd lv) fs s := by
  rw [exec_For]
  show Seg M A R Y n s₀ c (.at pos fun _ => (eval iter env >>= fun v => (foldedSetIterable iter env v >>= fun x => (standAt iter.pos >>= fun _ => (holding [x] (pyIter x) >>= fun it => runOwn (.forLoop tg it body [] env) env)))).wrap K J gd lv) fs s
  refine seg_at ?_
  rw [Sem.bind_eq_wrap', Sem.wrap_wrap]
  refine seg_wrap (wpAny_mono h (fun x s1 h1 => ?_) fun _ _ z => z)
  rw [hs x]
  show Seg M A R Y n s₀ c (.at iter.pos fun _ => (holding [x] (pyIter x) >>= fun it => runOwn (.forLoop tg it body [] env) env).wrap K J (gd ∘ id) (lv ∘ id)) fs s1
  refine seg_at ?_
  rw [Sem.bind_eq_wrap', Sem.wrap_wrap]
  refine seg_wrap (wpAny_holding (wpAny_mono h1 (fun it s2 h2 => ?_) fun _ _ z => z))
  exact seg_call h2
end
section
variable {prog : Program} {w : World} {A : Around} {R : GenEnd} {Y : Protocol} {n : Nat} {s₀ : Shared} {fs : List Frame} {s : Shared} {env : Env}
/-- an exception within a loop's turn -/
abbrev Out (env : Env) (e : Value) : Sem PySem.Fin := (do noteFrame e env; theTreesLotGoes e : Sem Unit).wrap (fun _ => .raise e) .raise id id
abbrev Back (tg : Expr) (it : Value) (body : List Stmt) (env : Env) (f : Flow) : Sem PySem.Fin := match f with
  | .next | .cont => .pure (.again (.forLoop tg it body [] env))
  | .brk => .pure (.done .next)
  | .ret v => .pure (.done (.ret v))
theorem seg_forLoop {tg : Expr} {it : Value} {body : List Stmt}
    (h : wpAny (model prog w) (A.over (.forLoop tg it body [] env) fs) (pyNext it) (fun r s1 => match r with
        | none => Seg (model prog w) A R Y n s₀ (.block [] env) ((model prog w).den (.block [] env)) fs s1
        | some v => wpAny (model prog w) (A.over (.forLoop tg it body [] env) fs) (letOwnedTupleGo tg it v) (fun _ s2 =>
            wpAny (model prog w) (A.over (.forLoop tg it body [] env) fs) (assign tg env v) (fun _ s3 =>
              Seg (model prog w) A R Y n s₀ (.forLoop tg it body [] env) ((execs body env).wrap (Back tg it body env) (Out env) id id) fs s3)
              (fun x s' => Seg (model prog w) A R Y n s₀ (.forLoop tg it body [] env) (Out env x) fs s') s2)
            (fun x s' => Seg (model prog w) A R Y n s₀ (.forLoop tg it body [] env) (Out env x) fs s') s1)
      (fun x s' => Seg (model prog w) A R Y n s₀ (.forLoop tg it body [] env) (Out env x) fs s') s) :
    Seg (model prog w) A R Y n s₀ (.forLoop tg it body [] env) ((model prog w).den (.forLoop tg it body [] env)) fs s := by
  show Seg _ A R Y n s₀ _ ((forTurn tg it body [] env).onRaise (fun x => do noteFrame x env; theTreesLotGoes x)) fs s
  have eH : (fun e => ((do noteFrame e env; theTreesLotGoes e : Sem Unit).bind fun _ => (.raise e : Sem PySem.Fin))) = Out env := funext fun e => Sem.bind_eq_wrap _ _
  unfold forTurn
  rw [Sem.onRaise_eq_wrap, eH]
  refine seg_at ?_
  rw [Sem.bind_eq_wrap', Sem.onRaise_eq_wrap]
  show Seg _ A R Y n s₀ _ (Sem.wrap Sem.pure (Out env) id id (Sem.wrap _ Sem.raise id id (Sem.wrap Sem.pure _ id id (pyNext it)))) fs s
  rw [Sem.wrap_wrap, Sem.wrap_wrap]
  refine seg_wrap (wpAny_mono h (fun r s1 h1 => ?_) fun e s' h' => ?_)
  · cases r with
    | none => exact seg_again rfl h1
    | some v =>
      show Seg _ A R Y n s₀ _ (Sem.wrap Sem.pure (Out env) id id (letOwnedTupleGo tg it v >>= fun _ => (assign tg env v >>= fun _ => (execs body env >>= fun f => _)))) fs s1
      rw [Sem.bind_eq_wrap', Sem.wrap_wrap]
      refine seg_wrap (wpAny_mono h1 (fun _ s2 h2 => ?_) fun _ _ z => z)
      rw [Sem.bind_eq_wrap', Sem.wrap_wrap]
      refine seg_wrap (wpAny_mono h2 (fun _ s3 h3 => ?_) fun _ _ z => z)
      rw [Sem.bind_eq_wrap', Sem.wrap_wrap]
      refine Eq.mp (congrArg (fun z => Seg (model prog w) A R Y n s₀ (.forLoop tg it body [] env) z fs s3) (Sem.wrap_congr (execs body env) (K := Back tg it body env) (H := Out env) id id (fun f => ?_) (fun e => rfl))) h3
      cases f <;> rfl
  · exact seg_at h'
end
/-! ### for and if in a generator's body -/
def tGFor (wi : TI) (g : TG) (tb : TGn) : TGn := fun D ys σ H => wi σ H fun J H1 => ∃ W : Nat → Nat → List V → L2.St → Hp → Prop, (∃ m, W 0 m ys σ H1) ∧ ∀ i m ys σ H, W i m ys σ H →
  (J.stop i H ∧ D.nx ys σ H) ∨ (J.go i H ∧ ∃ N : List V → L2.St → Hp → Prop, (∀ ys' σ' H', N ys' σ' H' → ∃ m', m' < m ∧ W (i + 1) m' ys' σ' H') ∧ ∀ x H', J.yld i H x H' → g x σ H' fun σ2 H2 => tb { D with nx := N, ct := N, bk := D.nx } ys σ2 H2)
section
variable {X : Cx}
theorem gs_for {tg iter : Expr} {body : List Stmt} {wi : TI} {g : TG} {tb : TGn} {pos : Pos} (hp : PassesOwn (model X.prog X.w) X.A X.env X.xe) (hc : X.calm = true) (hi : PI X tg iter wi) (hg : PG X tg g) (hb : GSs X body tb)
    (hs : ∀ x, foldedSetIterable iter X.env x = pure x := by intro _; rfl) : GS X (.For tg iter body [] pos) (tGFor wi g tb) := by
  refine ⟨fun A S ip R n ys s₀ c fs K J gd lv s σ H D g1 hn k hI ht => ?_⟩
  obtain ⟨acc0, c0, r0, I0⟩ := hI
  refine seg_For hs ?_
  rw [g1.over]
  refine wpAny_mono (hi.run _ s σ H _ I0 ht) (fun v s1 h1 => wpAny_mono h1 (fun itv s2 h2 p => ?_) fun x s' hx => k.exc n s₀ x s' hx) fun x s' hx => k.exc n s₀ x s' hx
  obtain ⟨it, fp, tn, Jt, H2, e, I2, T, st2, f2, W, ⟨m0, w0⟩, turn⟩ := h2
  subst e
  -- the iterator's own objects lie apart from the consumer's list, whatever stands in it
  have stat : ∀ {acc : Array Value} {cc : Nat} {H' : Hp}, (∀ b ∈ fp, H' b = none) → ∀ b ∈ fp, FpOk X ((S, lstObj acc cc) :: ip) H' b := fun {acc cc H'} hz b hb => by
    obtain ⟨_, z1, z2, z3, z4, z5⟩ := f2 b hb
    refine ⟨hz b hb, z1, z2, z3, z4, fun q hq => ?_⟩
    rcases List.mem_append.mp hq with y | y
    · exact z5 q (List.mem_append_left _ y)
    · rcases List.mem_cons.mp y with y | y
      · rw [y]
        exact z5 (S, lstObj acc0 c0) (List.mem_append_right _ List.mem_cons_self)
      · exact z5 q (List.mem_append_right _ (List.mem_cons_of_mem _ y))
  have gl := fun (kk : Result → Sem PySem.Fin) => gc_loop (k := kk) (c' := .forLoop tg (.ref it) body [] X.env) (l := lv []) (kp := []) (p := p) g1 rfl rfl
  have loop : ∀ (m i n : Nat) (ys : List V) (s₀ s : Shared) (σ : L2.St) (H : Hp) (acc : Array Value) (cc : Nat), n + ys.length = sizeLine → W i m ys σ H → Vals ys acc.toList → Inv X ((S, lstObj acc cc) :: ip) σ H s → tn i s.heap → (∀ b ∈ fp, H b = none) →
      Seg (model X.prog X.w) A R (GY X S) n s₀ (.forLoop tg (.ref it) body [] X.env) ((model X.prog X.w).den (.forLoop tg (.ref it) body [] X.env))
        (.ret (fun r => ((match r with | .ok f => (.pure f : Sem Flow) | .error e => .raise e).onRaise (cameBack X.env)).wrap K J gd lv) none (gd false) (lv []) c p [] :: fs) s := by
    intro m
    induction m using Nat.strongRecOn with
    | ind m ih =>
      intro i n ys s₀ s σ H acc cc hn w r I st fr
      have ee : ∀ (n : Nat) (s₀ : Shared) (x : Value) (s' : Shared), X.xe x s' → Seg (model X.prog X.w) A R (GY X S) n s₀ (.forLoop tg (.ref it) body [] X.env) (Out X.env x)
          (.ret (fun r => ((match r with | .ok f => (.pure f : Sem Flow) | .error e => .raise e).onRaise (cameBack X.env)).wrap K J gd lv) none (gd false) (lv []) c p [] :: fs) s' := fun n s₀ x s' hx => by
        refine seg_wrap ?_
        rw [(gl _).over]
        exact wpAny_bind (wpAny_mono (hp x s' hx) (fun _ s2 hq => wpAny_theTreesLotGoes (seg_leaf (.error x) (seg_cameBack g1 k hq))) fun y s2 hq => seg_leaf (.error y) (seg_cameBack g1 k hq))
      refine seg_forLoop ?_
      rw [(gl _).over]
      rcases turn i m ys σ H w with ⟨stop, qn⟩ | ⟨go, N, hN, step⟩
      · refine wpAny_mono (T.done X rfl rfl rfl hc i _ s σ H X.xe I (stat fr) st stop) (fun q s4 z => ?_) fun x s' hx => ee n s₀ x s' hx
        obtain ⟨rfl, I4⟩ := z
        show Seg _ A R _ n s₀ _ (.pure (.done .next)) _ s4
        exact seg_leaf (.ok .next) (k.ok n ys s₀ s4 .next hn ⟨σ, H, ⟨acc, cc, r, I4⟩, qn⟩)
      · refine wpAny_mono (T.item X rfl rfl rfl hc i _ s σ H X.xe I (stat fr) st go) (fun q s4 z => ?_) fun x s' hx => ee n s₀ x s' hx
        obtain ⟨u, rfl, h4⟩ := z
        refine wpAny_mono h4 (fun _ s5 z => ?_) fun x s' hx => ee n s₀ x s' hx
        obtain ⟨x, H5, I5, r5, y5, st5, fr5⟩ := z
        have I5p := I5.pinned (stat fr5) (T.obj _ _ st5)
        refine wpAny_mono (hg.run _ s5 σ H5 x u _ I5p r5 (step x H5 y5)) (fun _ s6 z => ?_) fun x s' hx => ee n s₀ x s' hx
        obtain ⟨σ6, H6, I6, q6⟩ := z
        have gb : GC X S (ip ++ pinsAt fp s5.heap) A (.forLoop tg (.ref it) body [] X.env) (.ret (fun r => ((match r with | .ok f => (.pure f : Sem Flow) | .error e => .raise e).onRaise (cameBack X.env)).wrap K J gd lv) none (gd false) (lv []) c p [] :: fs) id := by
          obtain ⟨a1, a2, a3, a4, a5, a6, a7⟩ := gl (fun r => ((match r with | .ok f => (.pure f : Sem Flow) | .error e => .raise e).onRaise (cameBack X.env)).wrap K J gd lv)
          refine ⟨a1, fun q hq => ?_, a3, a4, a5, a6, a7⟩
          rcases List.mem_append.mp hq with y | y
          · exact a2 q y
          · obtain ⟨hb, _⟩ := of_pinsAt y
            obtain ⟨_, _, _, _, _, z5⟩ := f2 _ hb
            exact (z5 (S, lstObj acc0 c0) (List.mem_append_right _ List.mem_cons_self)).symm
        have back : ∀ {acc7 : Array Value} {c7 : Nat} {σ7 : L2.St} {H7 : Hp} {s7 : Shared}, Inv X ((S, lstObj acc7 c7) :: (ip ++ pinsAt fp s5.heap)) σ7 H7 s7 → Inv X ((S, lstObj acc7 c7) :: ip) σ7 H7 s7 ∧ tn (i + 1) s7.heap ∧ ∀ b ∈ fp, H7 b = none := fun {acc7 c7 σ7 H7 s7} I7 => by
          have pin : ∀ b ∈ fp, ∀ o, s5.heap.get? b = some o → s7.heap.get? b = some o ∧ H7 b = none := fun b hb o e => by
            have z := I7.pin (b, o) (List.mem_append_right _ (List.mem_cons_of_mem _ (List.mem_append_right _ (mem_pinsAt hb e))))
            exact ⟨z.1, z.2.1⟩
          refine ⟨Inv.unpinned (pins := (S, lstObj acc7 c7) :: ip) (pl := pinsAt fp s5.heap) I7, T.keep _ _ _ st5 fun b hb o e => (pin b hb o e).1, fun b hb => ?_⟩
          obtain ⟨o, e, _⟩ := T.obj _ _ st5 b hb
          exact (pin b hb o e).2
        refine hb.run A S (ip ++ pinsAt fp s5.heap) R n ys s₀ _ _ _ _ id id s6 σ6 H6 { D with nx := N, ct := N, bk := D.nx } gb hn ⟨fun n7 ys7 s07 s7 f hn7 z => ?_, fun n7 s07 x s7 hx => ee n7 s07 x s7 hx⟩ ⟨acc, cc, r, I6⟩ q6
        cases f with
        | next =>
          obtain ⟨σ7, H7, ⟨acc7, c7, r7, I7⟩, n7'⟩ := z
          obtain ⟨m', hm, w7⟩ := hN ys7 σ7 H7 n7'
          obtain ⟨b1, b2, b3⟩ := back I7
          exact seg_again rfl (ih m' hm (i + 1) n7 ys7 s07 s7 σ7 H7 acc7 c7 hn7 w7 r7 b1 b2 b3)
        | cont =>
          obtain ⟨σ7, H7, ⟨acc7, c7, r7, I7⟩, n7'⟩ := z
          obtain ⟨m', hm, w7⟩ := hN ys7 σ7 H7 n7'
          obtain ⟨b1, b2, b3⟩ := back I7
          exact seg_again rfl (ih m' hm (i + 1) n7 ys7 s07 s7 σ7 H7 acc7 c7 hn7 w7 r7 b1 b2 b3)
        | brk =>
          obtain ⟨σ7, H7, ⟨acc7, c7, r7, I7⟩, q7⟩ := z
          exact seg_leaf (.ok .next) (k.ok n7 ys7 s07 s7 .next hn7 ⟨σ7, H7, ⟨acc7, c7, r7, (back I7).1⟩, q7⟩)
        | ret v =>
          obtain ⟨x7, σ7, H7, ⟨acc7, c7, r7, I7⟩, rv, q7⟩ := z
          exact seg_leaf (.ok (.ret v)) (k.ok n7 ys7 s07 s7 (.ret v) hn7 ⟨x7, σ7, H7, ⟨acc7, c7, r7, (back I7).1⟩, rv, q7⟩)
  exact loop m0 0 n ys s₀ s2 σ H2 acc0 c0 hn w0 r0 I2 st2 fun b hb => (f2 b hb).1
def tGIf (tc : TT) (t u : TGn) : TGn := fun D ys σ H => tc σ H fun b H1 => if b = true then t D ys σ H1 else u D ys σ H1
theorem gs_if {test : Expr} {body orelse : List Stmt} {tc : TT} {t u : TGn} {pos : Pos} (hc : PT X test tc) (ha : GSs X body t) (hb : GSs X orelse u) : GS X (.If test body orelse pos) (tGIf tc t u) := by
  refine ⟨fun A S ip R n ys s₀ c fs K J gd lv s σ H D g1 hn k hI ht => ?_⟩
  obtain ⟨acc, cc, r, I⟩ := hI
  show Seg _ A R _ n s₀ c (.at pos fun _ => (isTrue test X.env (eval test X.env) >>= fun b => if b = true then execs body X.env else execs orelse X.env).wrap K J gd lv) fs s
  refine seg_at ?_
  rw [Sem.bind_eq_wrap', Sem.wrap_wrap]
  refine seg_wrap ?_
  rw [g1.over]
  refine wpAny_mono (hc.run _ s σ H _ I ht) (fun b s1 z => ?_) fun x s' hx => k.exc n s₀ x s' hx
  obtain ⟨H1, I1, q1⟩ := z
  cases b with
  | true =>
    rw [if_pos rfl] at q1
    exact ha.run A S ip R n ys s₀ c fs K J gd lv s1 σ H1 D g1 hn k ⟨acc, cc, r, I1⟩ q1
  | false =>
    rw [if_neg Bool.false_ne_true] at q1
    exact hb.run A S ip R n ys s₀ c fs K J gd lv s1 σ H1 D g1 hn k ⟨acc, cc, r, I1⟩ q1
end
end GF
namespace CC
open PySem L2 GF
abbrev sFol : Stmt := tp 28
/-- what follows, ascending -/
def folL (F : R → Bool) (w : Nat) : List R := (allR w).filter F
def FIs (F : R → Bool) (w : Nat) (rs : List R) : Prop := ∀ r, r.ok w → (F r = true ↔ Fol rs r)
theorem fol_congr {F G : R → Bool} {w : Nat} {rs : List R} (h1 : FIs F w rs) (h2 : FIs G w rs) : folL F w = folL G w := by
  unfold folL
  refine List.filter_congr fun r hr => ?_
  have ok := mem_allR.mp hr
  exact Bool.eq_iff_iff.mpr ((h1 r ok).trans (h2 r ok).symm)
theorem folL_mem {F : R → Bool} {w : Nat} {rs : List R} (h : FIs F w rs) {r : R} : r ∈ folL F w ↔ r.ok w ∧ Fol rs r := by
  unfold folL
  rw [List.mem_filter, mem_allR]
  exact ⟨fun z => ⟨z.1, (h r z.1).mp z.2⟩, fun z => ⟨z.1, (h r z.1).mpr z.2⟩⟩
def spFolG (K : PySem.W.Frag) (C : Addr) : SpG := fun vs H Q _ => ∃ (x : Addr) (w : Nat) (rs : List R), vs = [.ref x] ∧ RulesAt K C H x w rs ∧ (∀ r ∈ rs, r.ok w) ∧ w ≤ 6 ∧ rs.length ≤ 60 ∧ ∀ (us : List V) (F : R → Bool) (H' : Hp), Same H H' → DpAll K H' us ((folL F w).map R.d) → FIs F w rs → Q us H'
/-- a generator def that keeps a promise -/
structure CalY (P : Program) (w : World) (K : PySem.W.Frag) (mg : Str → Option Value) (base : Heap) (x : Str) (ps : List Str) (sp : SpG) (l : Nat) where
  f : Addr
  fd : FuncData
  ok : ∀ k, l ≤ k → GFn P w K mg base k f fd ps sp
  kp : PySem.W.keepIn K (.ref f) = true
  b : Binds K fd ps []
  g : mg x = some (.ref f)
def calY {P : Program} {w : World} {K : PySem.W.Frag} {mg : Str → Option Value} {base : Heap} {x : Str} {st : Stmt} {ps : List Str} {sp : SpG} {l : Nat} (d : Df K mg x st ps) (h : ∀ k, GFn P w K mg base (k + l) d.f d.fd ps sp) : CalY P w K mg base x ps sp l :=
  ⟨d.f, d.fd, fun k hk => (Nat.sub_add_cancel hk) ▸ h (k - l), d.F.kp, d.b, d.g⟩
theorem pass0X {X : Cx} : Passes (CX X.prog X.w) X E0 := fun _ _ _ _ _ _ _ h => by
  obtain ⟨_, _, _, _, _, _, _, _, _, _, _, _, z⟩ := h
  exact z.elim
theorem nostop0 {K : PySem.W.Frag} : NoStop K E0 := fun _ _ _ h => h.elim
theorem for_listG {K : PySem.W.Frag} {a : Addr} {xs : List V} {g : TG} {tb : TGn} {D : GEnds} {ys : List V} {σ : L2.St} {H : Hp} (Pv : Nat → List V → L2.St → Hp → Prop) (h0 : Pv 0 ys σ H) (hl : ∀ i ys σ H, i ≤ xs.length → Pv i ys σ H → SqL K H a xs)
    (hs : ∀ i x ys σ H, xs[i]? = some x → Pv i ys σ H → g x σ H fun σ2 H2 => tb { D with nx := Pv (i + 1), ct := Pv (i + 1), bk := D.nx } ys σ2 H2) (hd : ∀ ys σ H, Pv xs.length ys σ H → D.nx ys σ H) :
    ∃ W : Nat → Nat → List V → L2.St → Hp → Prop, (∃ m, W 0 m ys σ H) ∧ ∀ i m ys σ H, W i m ys σ H →
      ((Itl K a).stop i H ∧ D.nx ys σ H) ∨ ((Itl K a).go i H ∧ ∃ N : List V → L2.St → Hp → Prop, (∀ ys' σ' H', N ys' σ' H' → ∃ m', m' < m ∧ W (i + 1) m' ys' σ' H') ∧ ∀ x H', (Itl K a).yld i H x H' → g x σ H' fun σ2 H2 => tb { D with nx := N, ct := N, bk := D.nx } ys σ2 H2) := by
  refine ⟨fun i m ys σ H => m = xs.length - i ∧ i ≤ xs.length ∧ Pv i ys σ H, ⟨xs.length, by simp, Nat.zero_le _, h0⟩, ?_⟩
  rintro i m ys σ H ⟨rfl, hi, p⟩
  have q := hl i ys σ H hi p
  by_cases lt : i < xs.length
  · refine .inr ⟨⟨xs, xs[i], q, by simp [lt]⟩, Pv (i + 1), fun ys' σ' H' p' => ⟨xs.length - (i + 1), by omega, rfl, lt, p'⟩, fun x H' y => ?_⟩
    obtain ⟨e, y⟩ := y
    subst e
    exact hs i x ys σ _ (y xs q) p
  · have e : i = xs.length := by omega
    subst e
    exact .inl ⟨⟨xs, q, Nat.le_refl _⟩, hd ys σ H p⟩
theorem for_tupG {K : PySem.W.Frag} {a : Addr} {xs : List V} {g : TG} {tb : TGn} {D : GEnds} {ys : List V} {σ : L2.St} {H : Hp} (Pv : Nat → List V → L2.St → Hp → Prop) (h0 : Pv 0 ys σ H) (hl : ∀ i ys σ H, i ≤ xs.length → Pv i ys σ H → SqT K H a xs)
    (hs : ∀ i x ys σ H, xs[i]? = some x → Pv i ys σ H → g x σ H fun σ2 H2 => tb { D with nx := Pv (i + 1), ct := Pv (i + 1), bk := D.nx } ys σ2 H2) (hd : ∀ ys σ H, Pv xs.length ys σ H → D.nx ys σ H) :
    ∃ W : Nat → Nat → List V → L2.St → Hp → Prop, (∃ m, W 0 m ys σ H) ∧ ∀ i m ys σ H, W i m ys σ H →
      ((Itt K a).stop i H ∧ D.nx ys σ H) ∨ ((Itt K a).go i H ∧ ∃ N : List V → L2.St → Hp → Prop, (∀ ys' σ' H', N ys' σ' H' → ∃ m', m' < m ∧ W (i + 1) m' ys' σ' H') ∧ ∀ x H', (Itt K a).yld i H x H' → g x σ H' fun σ2 H2 => tb { D with nx := N, ct := N, bk := D.nx } ys σ2 H2) := by
  refine ⟨fun i m ys σ H => m = xs.length - i ∧ i ≤ xs.length ∧ Pv i ys σ H, ⟨xs.length, by simp, Nat.zero_le _, h0⟩, ?_⟩
  rintro i m ys σ H ⟨rfl, hi, p⟩
  have q := hl i ys σ H hi p
  by_cases lt : i < xs.length
  · refine .inr ⟨⟨xs, xs[i], q, by simp [lt]⟩, Pv (i + 1), fun ys' σ' H' p' => ⟨xs.length - (i + 1), by omega, rfl, lt, p'⟩, fun x H' y => ?_⟩
    obtain ⟨e, y⟩ := y
    subst e
    exact hs i x ys σ _ (y xs q) p
  · have e : i = xs.length := by omega
    subst e
    exact .inl ⟨⟨xs, q, Nat.le_refl _⟩, hd ys σ H p⟩
theorem for_rangeG {lo : Int} {n : Nat} {g : TG} {tb : TGn} {D : GEnds} {ys : List V} {σ : L2.St} {H : Hp} (Pv : Nat → List V → L2.St → Hp → Prop) (h0 : Pv 0 ys σ H)
    (hs : ∀ i ys σ H, i < n → Pv i ys σ H → g (.int (lo + i)) σ H fun σ2 H2 => tb { D with nx := Pv (i + 1), ct := Pv (i + 1), bk := D.nx } ys σ2 H2) (hd : ∀ ys σ H, Pv n ys σ H → D.nx ys σ H) :
    ∃ W : Nat → Nat → List V → L2.St → Hp → Prop, (∃ m, W 0 m ys σ H) ∧ ∀ i m ys σ H, W i m ys σ H →
      ((Itr lo n).stop i H ∧ D.nx ys σ H) ∨ ((Itr lo n).go i H ∧ ∃ N : List V → L2.St → Hp → Prop, (∀ ys' σ' H', N ys' σ' H' → ∃ m', m' < m ∧ W (i + 1) m' ys' σ' H') ∧ ∀ x H', (Itr lo n).yld i H x H' → g x σ H' fun σ2 H2 => tb { D with nx := N, ct := N, bk := D.nx } ys σ2 H2) := by
  refine ⟨fun i m ys σ H => m = n - i ∧ i ≤ n ∧ Pv i ys σ H, ⟨n, by simp, Nat.zero_le _, h0⟩, ?_⟩
  rintro i m ys σ H ⟨rfl, hi, p⟩
  by_cases lt : i < n
  · refine .inr ⟨lt, Pv (i + 1), fun ys' σ' H' p' => ⟨n - (i + 1), by omega, rfl, lt, p'⟩, fun x H' y => ?_⟩
    obtain ⟨e1, e2⟩ := y
    subst e1 e2
    exact hs i ys σ _ lt p
  · have e : i = n := by omega
    subst e
    exact .inl ⟨Nat.le_refl _, hd ys σ H p⟩
section
variable {P : Program} {w : World} {K : PySem.W.Frag} {mg : Str → Option Value} {base : Heap} {kA : Addr}
abbrev nFol : List Str := ["rules", "kind", "pairs", "a", "b"]
theorem scFol : GScope nFol ["rules"] (defScope sFol) := ⟨rfl, rfl, rfl, by decide +kernel, rfl, by decide +kernel, by decide +kernel⟩
theorem ok_fol {f C : Addr} {fd : FuncData} {k : Nat} (F : Fun K "following" "following" sFol f fd) (T : Glb K mg kA) (TC : Txt1 K mg C) (pW : Prp P w K mg base C "width" "span") (pR : Prp P w K mg base C "rules" "given") (cK : Cal P w K mg base "check_rules" ["rules"] (spChk K C) 1) (cL : Cal P w K mg base "links" ["width", "rules", "kind"] (spLinks K) 3) (cR : Cal P w K mg base "reached" ["pairs", "start"] (spReached K) 2) : GFn P w K mg base (k + 4) f fd ["rules"] (spFolG K C) := by
  have GK := cK.ok (k + 3) (by omega)
  have GL := cL.ok (k + 3) (by omega)
  have GR := cR.ok (k + 3) (by omega)
  obtain ⟨oc, od, kV, doc, pm, an, cdv, ct, osl, rfl, lk, hcd⟩ := F.ex
  refine gfn_of lk hcd scFol (fun vs H Q E h => ?_) (fun A outer s H vs Q E pn hr h => ?_)
  · obtain ⟨x, w, rs, rfl, _⟩ := h
    rfl
  · obtain ⟨x, w, rs, rfl, ra, ho, hw, hl, q⟩ := h
    obtain ⟨dx, g, us, h1, h2, h3⟩ := id ra
    have n := scFol.nd
    refine ⟨_, gss_cons (gs_ps (ps_expr (pe_call GK hr rfl cK.g cK.kp cK.b .nil pass0 (pa_cons (pv 0) pa_nil))))
      (gss_cons (gs_for owns_gcx rfl (pi_tup (pe_glob (v := .ref kA) rfl T.knd rfl)) (pg_name (i := 1) n rfl (.inl rfl))
        (gss_cons (gs_ps (ps_set (i := 2) n rfl (.inl rfl) (pe_call GL hr rfl cL.g cL.kp cL.b .nil pass0 (pa_cons (pe_prop (pv 0) TC.cl pW.hp (pW.ok (k + 2) (by omega)) hr pW.b .nil pass0 rfl) (pa_cons (pe_prop (pv 0) TC.cl pR.hp (pR.ok (k + 2) (by omega)) hr pR.b .nil pass0 rfl) (pa_cons (pv 1) pa_nil))))))
        (gss_cons (gs_for owns_gcx rfl (pi_range1 (by rfl) T.rng (pa_cons (pe_prop (pv 0) TC.cl pW.hp (pW.ok (k + 2) (by omega)) hr pW.b .nil pass0 rfl) pa_nil)) (pg_name (i := 3) n rfl (.inl rfl))
          (gss_cons (gs_for owns_gcx rfl (pi_list (pe_call GR hr rfl cR.g cR.kp cR.b .nil pass0 (pa_cons (pv 2) (pa_cons (pv 3) pa_nil)))) (pg_name (i := 4) n rfl (.inl rfl))
            (gss_cons (gs_if (pt_cmpR op_ne (pv 3) (pv 4) (nomark _)) (gss_cons (gs_yield (pe_tup (pa_cons (pv 1) (pa_cons (pv 3) (pa_cons (pv 4) pa_nil))))) gss_nil) gss_nil) gss_nil)) gss_nil)) gss_nil))) gss_nil), ?_⟩
    obtain ⟨F, hF⟩ : ∃ F : R → Bool, ∀ r, F r = true ↔ Fol rs r := by
      classical
      exact ⟨fun r => decide (Fol rs r), fun r => decide_eq_true_iff⟩
    have hk : ∀ H, SqT K H kA [.str "settles", .str "within"] := fun H => .inr T.kseq
    have ew : ((w : Nat) : Int).toNat = w := by omega
    refine ⟨_, rfl, x, w, rs, rfl, ra, ?_⟩
    refine ⟨kA, rfl, ⟨_, hk _⟩, ?_⟩
    refine for_tupG (xs := [.str "settles", .str "within"]) (fun i ys σ H' => ∃ y1 y2 y3 y4, σ = [some (.ref x), y1, y2, y3, y4] ∧ Same H H' ∧ DpAll K H' ys ((([true, false].take i).flatMap fun k => (List.range w).flatMap fun a => (row w a k).filter F).map R.d) ∧ ys.length ≤ 36 * i)
      ⟨none, none, none, none, rfl, Same.refl _, .nil, Nat.zero_le _⟩ (fun i ys σ H' _ _ => hk _) ?_ ?_
    · rintro i v ys σ H1 hv ⟨y1, y2, y3, y4, rfl, s1, dy, yl⟩
      obtain ⟨kk, rfl, hi, tk⟩ : ∃ kk : Bool, v = .str (kd kk) ∧ i < 2 ∧ [true, false].take (i + 1) = [true, false].take i ++ [kk] := by
        match i, hv with
        | 0, hv =>
          simp at hv
          exact ⟨true, hv.symm, by decide, rfl⟩
        | 1, hv =>
          simp at hv
          exact ⟨false, hv.symm, by decide, rfl⟩
        | n + 2, hv => simp at hv
      rw [tk, List.flatMap_append]
      generalize ([true, false].take i).flatMap (fun k => (List.range w).flatMap fun a => (row w a k).filter F) = pre at dy
      -- pairs
      refine ⟨_, rfl, x, dx, _, rfl, s1 _ _ h1, x, dx, _, _, rfl, s1 _ _ h1, flds_span _ _, ?_⟩
      refine ⟨_, rfl, x, dx, _, rfl, s1 _ _ h1, x, dx, _, _, rfl, s1 _ _ h1, flds_given _ _, ?_⟩
      refine ⟨_, rfl, w, g, us, rs, kk, rfl, .inl (.inl (s1 _ _ h2)), dps_same s1 _ _ h3, ho, hw, hl, fun p pu ps H2 s2 np hp dps hps pl => ?_⟩
      have dps2 : DpAll K H2 pu (ps.map prd) := dps_same (wo_le p) _ _ dps
      have plt : ∀ z ∈ ps, z.1 < w ∧ z.2 < w := fun z hz => by
        obtain ⟨z1, z2⟩ := z
        have hz := (hps z1 z2).mp hz
        rcases hz with hz | ⟨hz, _⟩
        · exact ⟨(ho _ hz).1, (ho _ hz).2.1⟩
        · exact ⟨(ho _ hz).2.1, (ho _ hz).1⟩
      have plt6 : ∀ z ∈ ps, z.1 < 6 ∧ z.2 < 6 := fun z hz => ⟨Nat.lt_of_lt_of_le (plt z hz).1 hw, Nat.lt_of_lt_of_le (plt z hz).2 hw⟩
      have s12 := s1.trans s2
      -- for a in range(rules.width)
      refine ⟨_, rfl, x, dx, _, rfl, s12 _ _ h1, x, dx, _, _, rfl, s12 _ _ h1, flds_span _ _, ?_⟩
      refine ⟨_, rfl, by omega, by omega, ?_⟩
      refine for_rangeG (lo := 0) (n := ((w : Nat) : Int).toNat) (fun a ys σ H' => ∃ y3 y4, σ = [some (.ref x), some (.str (kd kk)), some (.ref p), y3, y4] ∧ Same H2 H' ∧ DpAll K H' ys ((pre ++ (List.range a).flatMap fun a => (row w a kk).filter F).map R.d) ∧ ys.length ≤ 36 * i + 6 * a)
        ⟨y3, y4, rfl, Same.refl _, by rw [List.range_zero, List.flatMap_nil, List.append_nil]; exact dps_same s2 _ _ dy, by omega⟩ ?_ ?_
      · rintro a ys σ H3 ha ⟨y3, y4, rfl, s3, dy3, yl3⟩
        have aw : a < w := by omega
        rw [Int.zero_add]
        refine ⟨_, rfl, _, rfl, p, pu, ps, a, rfl, SqL.of (s3 _ _ hp), dps_same s3 _ _ dps2, plt6, by omega, by omega, fun pr fs H4 s4 npr hpr hfs hsr => ⟨pr, rfl, ⟨_, SqL.of hpr⟩, ?_⟩⟩
        have fs_is : fs = (List.range w).filter (fun b => F ⟨kk, a, b⟩) := by
          refine inc_eq hsr (List.Pairwise.filter _ List.pairwise_lt_range) fun b => ?_
          rw [List.mem_filter, List.mem_range, hF, hfs]
          constructor
          · intro z
            exact ⟨Rch.lt plt aw z, (rch_rt hps).mp z⟩
          · rintro ⟨_, z⟩
            exact (rch_rt hps).mpr z
        have fl : fs.length ≤ 6 := by
          rw [fs_is]
          have := List.length_filter_le (fun b => F ⟨kk, a, b⟩) (List.range w)
          rw [List.length_range] at this
          omega
        refine for_listG (xs := nms fs) (fun j ys σ H' => ∃ y4, σ = [some (.ref x), some (.str (kd kk)), some (.ref p), some (.int (a : Int)), y4] ∧ Same H4 H' ∧ DpAll K H' ys (((pre ++ (List.range a).flatMap fun a => (row w a kk).filter F) ++ (((fs.take j).filter fun b => decide (a ≠ b)).map fun b => (⟨kk, a, b⟩ : R))).map R.d) ∧ ys.length ≤ 36 * i + 6 * a + j)
          ⟨y4, rfl, Same.refl _, by rw [List.take_zero, List.filter_nil, List.map_nil, List.append_nil]; exact dps_same s4 _ _ dy3, by omega⟩ (fun j ys σ H' _ ⟨_, _, z, _⟩ => SqL.of (z _ _ hpr)) ?_ ?_
        · rintro j v ys σ H5 hv ⟨y4, rfl, s5, dy5, yl5⟩
          obtain ⟨b, hb, rfl⟩ : ∃ b, fs[j]? = some b ∧ v = .int (b : Int) := by
            rw [nms, List.getElem?_map] at hv
            cases z : fs[j]? with
            | none => rw [z] at hv; cases hv
            | some m => rw [z] at hv; exact ⟨m, rfl, (Option.some.inj hv).symm⟩
          have jl : j < fs.length := (List.getElem?_eq_some_iff.mp hb).1
          refine ⟨_, rfl, _, rfl, rfl, _, rfl, ?_⟩
          rw [take1 hb, List.filter_append]
          by_cases e : a = b
          · have e1 : (!decide (V.int (a : Int) = V.int (b : Int))) = false := by rw [e]; simp
            rw [e1, List.filter_cons_of_neg (p := fun b => decide (a ≠ b)) (by simp [e]), List.filter_nil, List.append_nil]
            exact iteF ⟨_, rfl, s5, dy5, by omega⟩
          · have e1 : (!decide (V.int (a : Int) = V.int (b : Int))) = true := by
              rw [decide_eq_false (fun q => e (by injection q with q; omega))]
              rfl
            rw [e1, List.filter_cons_of_pos (p := fun b => decide (a ≠ b)) (decide_eq_true e), List.filter_nil]
            refine iteT ⟨small1000 (by omega), ?_⟩
            refine ⟨_, rfl, _, rfl, _, rfl, (by show 3 ≤ sizeLine; decide), fun t nt => ?_⟩
            refine ⟨_, rfl, s5.trans (same_new nt), ?_, by rw [List.length_append]; simp only [List.length_singleton]; omega⟩
            rw [List.map_append (f := fun b => (⟨kk, a, b⟩ : R)), ← List.append_assoc, List.map_append]
            exact dps_app (dps_same (same_new nt) _ _ dy5) (dps_one (r_dp (r := ⟨kk, a, b⟩) (.inl (.inl upd_same))))
        · rintro ys σ H5 ⟨y4, rfl, s5, dy5, yl5⟩
          rw [nms_len, List.take_length] at dy5
          refine ⟨_, _, rfl, s3.trans (s4.trans s5), ?_, by rw [nms_len] at yl5; omega⟩
          have er : (row w a kk).filter F = (fs.filter fun b => decide (a ≠ b)).map fun b => (⟨kk, a, b⟩ : R) := by
            rw [fs_is, List.filter_filter]
            unfold row
            rw [List.filter_map, List.filter_filter]
            congr 1
            refine List.filter_congr fun b _ => ?_
            rw [Bool.and_comm]
            rfl
          rw [List.range_succ, List.flatMap_append, List.flatMap_cons, List.flatMap_nil, List.append_nil, ← List.append_assoc, er]
          exact dy5
      · rintro ys σ H3 ⟨y3, y4, rfl, s3, dy3, yl3⟩
        rw [ew] at dy3 yl3
        refine ⟨_, _, _, _, rfl, s12.trans s3, ?_, by omega⟩
        rw [List.flatMap_cons, List.flatMap_nil, List.append_nil]
        exact dy3
    · rintro ys σ H1 ⟨y1, y2, y3, y4, rfl, s1, dy, yl⟩
      refine q ys F H1 s1 ?_ fun r _ => hF r
      have ef : folL F w = ([true, false].take 2).flatMap fun k => (List.range w).flatMap fun a => (row w a k).filter F := by
        unfold folL allR
        simp only [List.filter_flatMap]
        rfl
      rw [ef]
      exact dy
end
end CC
namespace CC
open PySem L2
def spDueL (K : PySem.W.Frag) : Sp := fun vs H Q _ => ∃ (w : Nat) (g : Addr) (us : List V) (rs : List R), vs = [.int (w : Int), .ref g] ∧ SqL K H g us ∧ DpAll K H us (rs.map R.d) ∧ (∀ r ∈ rs, r.ok w) ∧ w ≤ 6 ∧ rs.length ≤ 60 ∧
  ∀ (p : Addr) (us' : List V) (F : R → Bool) (H' : Hp), Same H H' → H p = none → H' p = some (.lst us') → DpAll K H' us' ((folL F w).map R.d) → FIs F w rs → Q (.ref p) H'
section
variable {P : Program} {w : World} {K : PySem.W.Frag} {mg : Str → Option Value} {base : Heap} {kA : Addr}
theorem ok_dueL {f : Addr} {fd : FuncData} {k : Nat} (F : Fun K "_law_due" "_law_due" sDue f fd) (T : Glb K mg kA) (cA : Cal P w K mg base "_law_arrows" ["_law_width", "_law_rules_here", "_law_kind"] (spArrows K) 2)
 (cR : Cal P w K mg base "_law_reach" ["_law_width", "_law_pairs"] (spReach K) 1)
 (cL : Cal P w K mg base "_law_all" ["_law_width"] (spAll K) 1) : FnOk P w K mg base CX0 (k + 3) f fd ["_law_width", "_law_rules_here"] (spDueL K) := by
  have GA := cA.ok (k + 2) (by omega)
  have GR := cR.ok (k + 2) (by omega)
  have GL := cL.ok (k + 2) (by omega)
  refine F.ok scDue (fun vs H Q E h => ?_) (fun cdv A outer s H vs Q E hr h => ?_)
  · obtain ⟨w, g, us, rs, rfl, _⟩ := h
    rfl
  · obtain ⟨w, g, us, rs, rfl, hg, dp, ho, hw, hl, q⟩ := h
    have n := scDue.nd
    refine ⟨_, pss_cons (ps_set (i := 2) n rfl (.inr rfl) (pe_call GR hr rfl cR.g cR.kp cR.b .nil pass0 (pa_cons (pv 0) (pa_cons (pe_call GA hr rfl cA.g cA.kp cA.b .nil pass0 (pa_cons (pv 0) (pa_cons (pv 1) (pa_cons pe_str pa_nil)))) pa_nil))))
      (pss_cons (ps_set (i := 3) n rfl (.inr rfl) (pe_call GR hr rfl cR.g cR.kp cR.b .nil pass0 (pa_cons (pv 0) (pa_cons (pe_call GA hr rfl cA.g cA.kp cA.b .nil pass0 (pa_cons (pv 0) (pa_cons (pv 1) (pa_cons pe_str pa_nil)))) pa_nil))))
      (pss_one (ps_ret (pe_lc (own := [("_law_kind", 4), ("_law_a", 5), ("_law_b", 6)]) (g := g3 K 4 5 6) (tt := tB (tOp (rIxL K) (tOp (rIxL K) (tIf (tTest (tOp rEq (tVar 4) (tC (.str "settles")))) (tVar 2) (tVar 3)) (tVar 5)) (tVar 6))) rfl n (pi_list (pe_call GL hr rfl cL.g cL.kp cL.b .nil pass0 (pa_cons (pv 0) pa_nil))) (blkOk_by (N := nDu) (sc := defScope sDue) (by decide +kernel))
          (fun _ _ _ _ _ => pg_tup rfl (pgs_cons (pg_name (i := 4) n rfl (.inl rfl)) (pgs_cons (pg_name (i := 5) n rfl (.inl rfl)) (pgs_cons (pg_name (i := 6) n rfl (.inl rfl)) pgs_nil))))
          (fun _ _ _ _ _ => pts_one (pt_val (pe_ix ix_list (pe_ix ix_list (pe_ifExp (pt_cmpR op_eq (pv 4) pe_str (nomark _)) (pv 2) (pv 3)) (pv 5) (fun _ _ => rfl)) (pv 6) (fun _ _ => rfl))))
          (fun _ _ _ _ _ => pe_tup (pa_cons (pv 4) (pa_cons (pv 5) (pa_cons (pv 6) pa_nil)))))))), ?_⟩
    have plt : ∀ {k : Bool} {ps : List (Nat × Nat)}, (∀ x y, (x, y) ∈ ps ↔ Lk rs k x y) → ∀ x ∈ ps, x.1 < w ∧ x.2 < w := fun {k ps} h x hx => by
      obtain ⟨a, b⟩ := x
      exact lk_lt ho ((h a b).mp hx)
    refine ⟨_, rfl, _, rfl, _, rfl, w, g, us, rs, true, rfl, hg, dp, ho, hw, hl, fun p1 u1 ps1 H1 s1 np1 hp1 d1 k1 => ?_⟩
    refine ⟨w, p1, u1, ps1, rfl, hw, SqL.of hp1, dps_same (wo_le p1) _ _ d1, plt k1, fun ta M1 H2 s2 nta mt1 hM1 => ?_⟩
    have s12 : Same H H2 := s1.trans s2
    refine ⟨_, rfl, _, rfl, _, rfl, w, g, us, rs, false, rfl, same_l s12 hg, dps_same s12 _ _ dp, ho, hw, hl, fun p3 u3 ps3 H3 s3 np3 hp3 d3 k3 => ?_⟩
    refine ⟨w, p3, u3, ps3, rfl, hw, SqL.of hp3, dps_same (wo_le p3) _ _ d3, plt k3, fun tb M2 H4 s4 ntb mt2 hM2 => ?_⟩
    have s24 : Same H2 H4 := s3.trans s4
    refine ⟨_, rfl, w, rfl, hw, fun pa ua H5 s5 npa hpa da => ⟨pa, rfl, ⟨_, SqL.of hpa⟩, fun D nD => ?_⟩⟩
    have da5 : DpAll K H5 ua ((allR w).map R.d) := dps_same (wo_le pa) _ _ da
    have al : (allR w).length ≤ 60 := few_rules hw (fun r h => mem_allR.mp h) (allR_nodup hw)
    have ual : ua.length = (allR w).length := by rw [dps_len da5, List.length_map]
    refine lc_list (xs := ua) (fun i H6 => MadeF R.d K H5 D i H6 (((allR w).take i).filter fun r => (if r.k then M1 else M2) r.a r.b)) MadeF.start (fun i H6 _ z => SqL.of (z.old nD _ _ hpa)) ?_ ?_
    · intro i v H6 hv p
      obtain ⟨r, hr2, dr⟩ := dps_rat da5 hv
      have il : i < (allR w).length := (List.getElem?_eq_some_iff.mp hr2).1
      have o6 := p.old nD
      have hm := mem_allR.mp (List.mem_of_getElem? hr2)
      obtain ⟨t, rfl, ht⟩ := dp_r (dp_same o6 _ _ dr)
      obtain ⟨rows1, R1, R2⟩ := ((mt1.same s24).same (s5.trans o6)).at_
      obtain ⟨rows2, S1, S2⟩ := (mt2.same (s5.trans o6)).at_
      obtain ⟨rx, x1, x2⟩ := R2 r.a hm.1
      obtain ⟨ry, y1, y2⟩ := S2 r.a hm.1
      rw [filter_step hr2]
      refine ⟨t, _, rfl, ht, rfl, _, _, rfl, _, _, rfl, _, _, rfl, rfl, rfl, ?_⟩
      have tail : ∀ b : Bool, (if r.k then M1 else M2) r.a r.b = b → (if b = true then (tTup (tCons (tVar 4) (tCons (tVar 5) (tCons (tVar 6) tNil)))) [some (.int (w : Int)), some (.ref g), some (.ref ta), some (.ref tb), some (.str (kd r.k)), some (.int (r.a : Int)), some (.int (r.b : Int))] H6
          (fun y H4 => ∃ acc, H4 D = some (.lst acc) ∧ acc.length < sizeLine ∧ MadeF R.d K H5 D (i + 1) (upd H4 D (.lst (acc ++ [y]))) (((allR w).take i).filter (fun r => (if r.k then M1 else M2) r.a r.b) ++ (if (if r.k then M1 else M2) r.a r.b = true then [r] else [])))
          else MadeF R.d K H5 D (i + 1) H6 (((allR w).take i).filter (fun r => (if r.k then M1 else M2) r.a r.b) ++ (if (if r.k then M1 else M2) r.a r.b = true then [r] else []))) := fun b hb => by
        rw [hb]
        cases b with
        | false => exact iteF (p.up (by omega) (by simp))
        | true =>
          refine iteT ⟨_, rfl, _, rfl, _, rfl, (by show 3 ≤ sizeLine; decide), fun t2 n2 => ?_⟩
          exact p.push (r := r) (by omega) (Nat.lt_succ_self _) (same_new n2) (r_dp (p.tup n2))
      refine ⟨_, rfl, rfl, _, rfl, ?_⟩
      rw [show decide (V.str (kd r.k) = V.str (Str.ofString "settles")) = r.k from kd_eq r.k]
      cases hk : r.k with
      | true =>
        rw [hk] at tail
        refine iteT ⟨_, rfl, _, rfl, ta, _, _, _, rfl, rfl, R1, atI_nat x1, _, rfl, rx, _, _, _, rfl, rfl, x2, atI_nat (brow_at hm.2.1), _, rfl, ?_⟩
        exact tail _ rfl
      | false =>
        rw [hk] at tail
        refine iteF ⟨_, rfl, _, rfl, tb, _, _, _, rfl, rfl, S1, atI_nat y1, _, rfl, ry, _, _, _, rfl, rfl, y2, atI_nat (brow_at hm.2.1), _, rfl, ?_⟩
        exact tail _ rfl
    · intro H6 p
      rw [ual, List.take_length] at p
      have o6 := p.old nD
      obtain ⟨uf, _, hf, df, _⟩ := p
      have sH : Same H H5 := s12.trans (s24.trans s5)
      refine q D uf (fun r => (if r.k then M1 else M2) r.a r.b) H6 (sH.trans o6) (sH.free nD) hf (dps_same (wo_le D) _ _ df) fun r hr2 => ?_
      unfold Fol
      cases hk : r.k with
      | true =>
        rw [← rch_rt k1, ← hM1 _ _ hr2.1 hr2.2.1]
        show (if r.k = true then M1 else M2) r.a r.b = true ↔ _
        rw [hk, if_pos rfl]
      | false =>
        rw [← rch_rt k3, ← hM2 _ _ hr2.1 hr2.2.1]
        show (if r.k = true then M1 else M2) r.a r.b = true ↔ _
        rw [hk, if_neg Bool.false_ne_true]
end
end CC
/-! ### a run has one end; two words about one run are one word -/
namespace KG
open PySem
theorem runs_one {M : Model} {Γ : Ctx} {p : Pos} {t : Sem Fin} {fs : List Frame} {s s1 : Shared} {e1 : End} (h : Runs M Γ p t fs s e1 s1) : ∀ {e2 : End} {s2 : Shared}, Runs M Γ p t fs s e2 s2 → e2 = e1 ∧ s2 = s1 := by
  induction h with
  | done => intro e2 s2 k; cases k; exact ⟨rfl, rfl⟩
  | raise => intro e2 s2 k; cases k; exact ⟨rfl, rfl⟩
  | again _ _ ih => intro e2 s2 k; cases k with | again _ k => exact ih k
  | rule _ ih => intro e2 s2 k; cases k with | rule k => exact ih k
  | «at» _ ih => intro e2 s2 k; cases k with | «at» k => exact ih k
  | load q _ ih => intro e2 s2 k; cases k with | load q2 k => rw [q] at q2; cases q2; exact ih k
  | update _ _ ih => intro e2 s2 k; cases k with | update _ k => exact ih k
  | loadIfAlive _ ih => intro e2 s2 k; cases k with | loadIfAlive k => exact ih k
  | point _ ih => intro e2 s2 k; cases k with | point k => exact ih k
  | alloc _ ih => intro e2 s2 k; cases k with | alloc k => exact ih k
  | fresh _ ih => intro e2 s2 k; cases k with | fresh k => exact ih k
  | ask _ ih => intro e2 s2 k; cases k with | ask k => exact ih k
  | choose _ _ ih => intro e2 s2 k; cases k with | choose _ k => exact ih k
  | os _ ih => intro e2 s2 k; cases k with | os k => exact ih k
  | handled _ ih => intro e2 s2 k; cases k with | handled k => exact ih k
  | genState q _ ih => intro e2 s2 k; cases k with | genState q2 k => rw [q] at q2; cases q2; exact ih k
  | stack _ ih => intro e2 s2 k; cases k with | stack k => exact ih k
  | thread _ ih => intro e2 s2 k; cases k with | thread k => exact ih k
  | newGen _ ih => intro e2 s2 k; cases k with | newGen k => exact ih k
  | call _ _ ih1 ih2 =>
    intro e2 s2 k
    cases k with
    | call k1 k2 =>
      obtain ⟨a, b⟩ := ih1 k1
      cases a
      subst b
      exact ih2 k2
    | callSusp k1 => exact nomatch (ih1 k1).1
  | callSusp _ ih =>
    intro e2 s2 k
    cases k with
    | call k1 k2 => exact nomatch (ih k1).1
    | callSusp k1 =>
      obtain ⟨a, b⟩ := ih k1
      cases a
      exact ⟨rfl, b⟩
  | yield => intro e2 s2 k; cases k; exact ⟨rfl, rfl⟩
  | resumeFresh q _ _ _ ih1 ih2 =>
    intro e2 s2 k
    cases k with
    | resumeFresh q2 k1 _ k2 =>
      rw [q] at q2
      cases q2
      obtain ⟨rfl, rfl⟩ := ih1 k1
      exact ih2 k2
    | resumeSuspended q2 => rw [q] at q2; cases q2
    | resumeJustStarted q2 n => exact absurd rfl n
    | resumeRunning q2 => rw [q] at q2; cases q2
    | resumeFinished q2 => rw [q] at q2; cases q2
  | resumeSuspended q _ _ _ ih1 ih2 =>
    intro e2 s2 k
    cases k with
    | resumeFresh q2 => rw [q] at q2; cases q2
    | resumeSuspended q2 k1 _ k2 =>
      rw [q] at q2
      cases q2
      obtain ⟨rfl, rfl⟩ := ih1 k1
      exact ih2 k2
    | resumeJustStarted q2 => rw [q] at q2; cases q2
    | resumeThrowFresh q2 => rw [q] at q2; cases q2
    | resumeRunning q2 => rw [q] at q2; cases q2
    | resumeFinished q2 => rw [q] at q2; cases q2
  | resumeJustStarted q n _ ih =>
    intro e2 s2 k
    cases k with
    | resumeFresh => exact absurd rfl n
    | resumeSuspended q2 => rw [q] at q2; cases q2
    | resumeJustStarted _ _ k => exact ih k
    | resumeRunning q2 => rw [q] at q2; cases q2
    | resumeFinished q2 => rw [q] at q2; cases q2
  | resumeThrowFresh q _ ih =>
    intro e2 s2 k
    cases k with
    | resumeSuspended q2 => rw [q] at q2; cases q2
    | resumeThrowFresh _ k => exact ih k
    | resumeRunning q2 => rw [q] at q2; cases q2
    | resumeFinished q2 => rw [q] at q2; cases q2
  | resumeRunning q _ ih =>
    intro e2 s2 k
    cases k with
    | resumeFresh q2 => rw [q] at q2; cases q2
    | resumeSuspended q2 => rw [q] at q2; cases q2
    | resumeJustStarted q2 => rw [q] at q2; cases q2
    | resumeThrowFresh q2 => rw [q] at q2; cases q2
    | resumeRunning _ k => exact ih k
    | resumeFinished q2 => rw [q] at q2; cases q2
  | resumeFinished q _ ih =>
    intro e2 s2 k
    cases k with
    | resumeFresh q2 => rw [q] at q2; cases q2
    | resumeSuspended q2 => rw [q] at q2; cases q2
    | resumeJustStarted q2 => rw [q] at q2; cases q2
    | resumeThrowFresh q2 => rw [q] at q2; cases q2
    | resumeRunning q2 => rw [q] at q2; cases q2
    | resumeFinished _ k => exact ih k
  | segRet _ _ ih1 ih2 =>
    intro e2 s2 k
    cases k with
    | segRet k1 k2 =>
      obtain ⟨a, b⟩ := ih1 k1
      cases a
      subst b
      exact ih2 k2
    | segSuspOut _ k1 => exact nomatch (ih1 k1).1
    | segSuspGen _ k1 => exact nomatch (ih1 k1).1
  | segGen _ _ ih1 ih2 =>
    intro e2 s2 k
    cases k with
    | segGen k1 k2 =>
      obtain ⟨a, b⟩ := ih1 k1
      cases a
      subst b
      exact ih2 k2
    | segSuspOut _ k1 => exact nomatch (ih1 k1).1
    | segSuspGen _ k1 => exact nomatch (ih1 k1).1
  | segSuspOut q _ ih =>
    intro e2 s2 k
    cases k with
    | segRet k1 => exact nomatch (ih k1).1
    | segGen k1 => exact nomatch (ih k1).1
    | segSuspOut _ k1 =>
      obtain ⟨a, b⟩ := ih k1
      cases a
      exact ⟨rfl, b⟩
    | segSuspGen q2 k1 => rw [q] at q2; cases q2
  | segSuspGen q _ _ _ ih1 ih2 =>
    intro e2 s2 k
    cases k with
    | segRet k1 => exact nomatch (ih1 k1).1
    | segGen k1 => exact nomatch (ih1 k1).1
    | segSuspOut q2 => rw [q] at q2; cases q2
    | segSuspGen q2 k1 _ k2 =>
      rw [q] at q2
      cases q2
      obtain ⟨a, b⟩ := ih1 k1
      cases a
      subst b
      exact ih2 k2
theorem wakes_one {M : Model} {Γ : Ctx} {p : Pos} {g : Nat} {r : Resume} {s s1 s2 : Shared} {x1 x2 : GenResult} (h : Wakes M Γ p g r s x1 s1) (k : Wakes M Γ p g r s x2 s2) : x2 = x1 ∧ s2 = s1 := by
  unfold Wakes at h k
  cases q : s.gens[g]? with
  | none => rw [q] at h; exact h.elim
  | some st =>
    rw [q] at h k
    cases st with
    | fresh c =>
      cases r with
      | throw x => exact ⟨k.1.trans h.1.symm, k.2.trans h.2.symm⟩
      | send v =>
        cases v with
        | none =>
          obtain ⟨e1, t1, a1, _, rfl, rfl⟩ := h
          obtain ⟨e2, t2, a2, _, rfl, rfl⟩ := k
          obtain ⟨rfl, rfl⟩ := runs_one a1 a2
          exact ⟨rfl, rfl⟩
        | _ => exact ⟨k.1.trans h.1.symm, k.2.trans h.2.symm⟩
    | suspended k₀ l₀ c₀ p₀ fs cl =>
      obtain ⟨e1, t1, a1, _, rfl, rfl⟩ := h
      obtain ⟨e2, t2, a2, _, rfl, rfl⟩ := k
      obtain ⟨rfl, rfl⟩ := runs_one a1 a2
      exact ⟨rfl, rfl⟩
    | running => exact ⟨k.1.trans h.1.symm, k.2.trans h.2.symm⟩
    | finished => exact ⟨k.1.trans h.1.symm, k.2.trans h.2.symm⟩
theorem wp_two {α : Type} {M : Model} {Γ : Ctx} (t : Sem α) : ∀ {Q1 Q2 : α → Pos → Shared → Prop} {E1 E2 : Value → Pos → Shared → Prop} {p : Pos} {s : Shared}, Sem.wp M Γ t Q1 E1 p s → Sem.wp M Γ t Q2 E2 p s →
    Sem.wp M Γ t (fun a p s => Q1 a p s ∧ Q2 a p s) (fun e p s => E1 e p s ∧ E2 e p s) p s := by
  induction t with
  | pure a => exact fun h k => ⟨h, k⟩
  | raise e => exact fun h k => ⟨h, k⟩
  | unsupported _ => exact fun h _ => h
  | finish _ => exact fun h _ => h
  | register => exact fun h _ => h
  | fork => exact fun h _ => h
  | await => exact fun h _ => h
  | yield => exact fun h _ => h
  | rule _ k ih => exact fun h k => ih () h k
  | «at» p' k ih => exact fun h k => ih () h k
  | load a _ k ih =>
    rintro Q1 Q2 E1 E2 p s ⟨o, e, h⟩ ⟨o2, e2, k⟩
    rw [e] at e2
    cases e2
    exact ⟨o, e, ih _ h k⟩
  | update a _ f k ih => exact fun h k => ⟨h.1, ih () h.2 k.2⟩
  | loadIfAlive a k ih => exact fun h k => ih _ h k
  | point _ k ih => exact fun h k => ih () h k
  | alloc o k ih => exact fun h k => ih _ h k
  | fresh k ih => exact fun h k => ih _ h k
  | ask k ih => exact fun h k => ih _ h k
  | choose src m k ih => exact fun h k => ⟨h.1, ih _ h.2 k.2⟩
  | os q _ k ih => exact fun h k => ih _ h k
  | call c hd _ _ k ih =>
    rintro Q1 Q2 E1 E2 p s ⟨r, s1, hr, h⟩ ⟨r2, s2, hr2, k⟩
    obtain ⟨a, rfl⟩ := runs_one hr hr2
    cases a
    exact ⟨r, s2, hr, ih _ h k⟩
  | handled own k ih => exact fun h k => ih _ h k
  | genState g k ih =>
    rintro Q1 Q2 E1 E2 p s ⟨o, e, h⟩ ⟨o2, e2, k⟩
    rw [e] at e2
    cases e2
    exact ⟨o, e, ih _ h k⟩
  | newGen c k ih => exact fun h k => ih _ h k
  | resume g r _ k ih =>
    rintro Q1 Q2 E1 E2 p s ⟨x, s1, hw, h⟩ ⟨x2, s2, hw2, k⟩
    obtain ⟨rfl, rfl⟩ := wakes_one hw hw2
    exact ⟨x2, s2, hw, ih _ h k⟩
  | stack k ih => exact fun h k => ih _ h k
  | thread k ih => exact fun h k => ih _ h k
section
variable {α : Type} {M : Model} {A : Around} {t : Sem α} {Q1 Q2 : α → Shared → Prop} {E1 E2 : Value → Shared → Prop} {s : Shared}
theorem both (h : wpAny M A t Q1 E1 s) (k : wpAny M A t Q2 E2 s) : wpAny M A t (fun a s => Q1 a s ∧ Q2 a s) (fun e s => E1 e s ∧ E2 e s) s := fun Γ p hΓ => wp_two t (h Γ p hΓ) (k Γ p hΓ)
theorem both_code {c : Code} {R1 R2 : Result → Shared → Prop} (h : codeAny M A c R1 s) (k : codeAny M A c R2 s) : codeAny M A c (fun r s => R1 r s ∧ R2 r s) s := fun Γ p e hΓ => by
  obtain ⟨r, s1, hr, q⟩ := h Γ p e hΓ
  obtain ⟨r2, s2, hr2, q2⟩ := k Γ p e hΓ
  obtain ⟨a, rfl⟩ := runs_one hr hr2
  cases a
  exact ⟨r, s2, hr, q, q2⟩
end
/-- nothing is raised -/
abbrev Fl : Value → Shared → Prop := fun _ _ => False
/-- the run ends, and the generators stand as they stood -/
abbrev Kp {α : Type} (M : Model) (A : Around) (t : Sem α) (s : Shared) : Prop := wpAny M A t (fun _ s2 => s2.gens = s.gens) Fl s
abbrev KpC (M : Model) (A : Around) (c : Code) (s : Shared) : Prop := codeAny M A c (fun _ s2 => s2.gens = s.gens) s
end KG
/-! ### readings that leave the generators alone -/
namespace KG
open PySem PySem.Spec PyProof.Rows L2
abbrev MX (X : Cx) : Model := model X.prog X.w
/-- one word more behind a run -/
theorem thk {α : Type} {M : Model} {A : Around} {t : Sem α} {P Q : α → Shared → Prop} {s : Shared} (h : wpAny M A t (fun a s2 => P a s2 ∧ s2.gens = s.gens) Fl s) (q : ∀ a s2, P a s2 → s2.gens = s.gens → Q a s2) : wpAny M A t Q Fl s :=
  wpAny_mono h (fun a s2 z => q a s2 z.1 z.2) fun _ _ z => z
theorem two {α : Type} {M : Model} {A : Around} {t : Sem α} {P : α → Shared → Prop} {E : Value → Shared → Prop} {s : Shared} (h : wpAny M A t P E s) (k : Kp M A t s) : wpAny M A t (fun a s2 => P a s2 ∧ s2.gens = s.gens) Fl s :=
  wpAny_mono (both h k) (fun _ _ z => z) fun _ _ z => z.2
section
variable (X : Cx)
structure KE (e : Expr) (t : TE) : Prop where
  p : PE X e t
  k : ∀ (pins : List (Addr × Obj)) (s : Shared) (σ : L2.St) (H : Hp) (Q : VK), Inv X pins σ H s → t σ H Q → Kp (MX X) X.A (eval e X.env) s
structure KT (e : Expr) (t : TT) : Prop where
  p : PT X e t
  k : ∀ (pins : List (Addr × Obj)) (s : Shared) (σ : L2.St) (H : Hp) (Q : Bool → Hp → Prop), Inv X pins σ H s → t σ H Q → Kp (MX X) X.A (isTrue e X.env (eval e X.env)) s
structure KW (e : Expr) (t : TT) : Prop where
  p : PW X e t
  k : ∀ (whole : Sem Value) (pins : List (Addr × Obj)) (s : Shared) (σ : L2.St) (H : Hp) (Q : Bool → Hp → Prop), Inv X pins σ H s → t σ H Q → Kp (MX X) X.A (isTrue e X.env whole) s
structure KA (es : List Expr) (t : TA) : Prop where
  p : PA X es t
  k : ∀ (pos : Pos) (pins : List (Addr × Obj)) (s : Shared) (σ : L2.St) (H : Hp) (Q : List V → Hp → Prop), Inv X pins σ H s → t σ H Q → Kp (MX X) X.A (spliced (backTo pos (starEach es X.env))) s
structure KS (st : Stmt) (t : TS) : Prop where
  p : PS X st t
  k : ∀ (pins : List (Addr × Obj)) (s : Shared) (σ : L2.St) (H : Hp) (D : Ends), Inv X pins σ H s → t D σ H → Kp (MX X) X.A (exec st X.env) s
structure KSs (st : List Stmt) (t : TS) : Prop where
  p : PSs X st t
  k : ∀ (pins : List (Addr × Obj)) (s : Shared) (σ : L2.St) (H : Hp) (D : Ends), Inv X pins σ H s → t D σ H → Kp (MX X) X.A (execs st X.env) s
structure KOp (f : Value → Value → Sem Value) (r : R2) : Prop where
  p : OpR X f r
  k : ∀ (pins : List (Addr × Obj)) (s : Shared) (σ : L2.St) (H : Hp) (x y : V) (v u : Value) (Q : VK), Inv X pins σ H s → RelV x v → RelV y u → r x y H Q → Kp (MX X) X.A (f v u) s
structure KCall (f : Value) (r : List V → Hp → VK → Prop) : Prop where
  p : CallR X f r
  k : ∀ (pins : List (Addr × Obj)) (s : Shared) (σ : L2.St) (H : Hp) (xs : List V) (us : List Value) (Q : VK), Inv X pins σ H s → Vals xs us → r xs H Q → Kp (MX X) X.A (call f us) s
structure KMt (id : String) (r : V → List V → Hp → VK → Prop) : Prop where
  p : MtR X id r
  k : ∀ (pins : List (Addr × Obj)) (s : Shared) (σ : L2.St) (H : Hp) (x : V) (xs : List V) (v : Value) (us : List Value) (Q : VK), Inv X pins σ H s → RelV x v → Vals xs us → r x xs H Q → Kp (MX X) X.A (call (.builtin id) (v :: us)) s
structure KIx (r : R2) : Prop where
  p : IxR X r
  k : ∀ (value slice : Expr) (pins : List (Addr × Obj)) (s : Shared) (σ : L2.St) (H : Hp) (x y : V) (v u : Value) (Q : VK), Inv X pins σ H s → RelV x v → RelV y u → r x y H Q →
    subscripted slice false v u = operate [v, u] (getItem v u) → Kp (MX X) X.A (subscriptTail value slice v u) s
structure KC (op : CmpOp) (a b : Expr) (t : TE) : Prop where
  p : PC X op a b t
  k : ∀ (pins : List (Addr × Obj)) (s : Shared) (σ : L2.St) (H : Hp) (Q : VK), Inv X pins σ H s → t σ H Q →
    wpAny (MX X) X.A (eval a X.env) (fun v s1 => wpAny (MX X) X.A (eval b X.env) (fun u s2 => wpAny (MX X) X.A (compareOp op v u) (fun _ s3 => s3.gens = s.gens) Fl s2) Fl s1) Fl s
structure KGt (target : Expr) (t : TG) : Prop where
  p : PG X target t
  k : ∀ (pins : List (Addr × Obj)) (s : Shared) (σ : L2.St) (H : Hp) (v : V) (u : Value) (Q : L2.St → Hp → Prop), Inv X pins σ H s → RelV v u → t v σ H Q → Kp (MX X) X.A (assign target X.env u) s
structure KGts (ts : List Expr) (t : TGs) : Prop where
  p : PGs X ts t
  k : ∀ (pins : List (Addr × Obj)) (s : Shared) (σ : L2.St) (H : Hp) (vs : List V) (us : List Value) (Q : L2.St → Hp → Prop), Inv X pins σ H s → Vals vs us → t vs σ H Q → Kp (MX X) X.A (assignInOrder ((assignEach ts X.env).map (·.2)) us) s
end
section
variable {X : Cx} {pins : List (Addr × Obj)} {s : Shared} {σ : L2.St} {H : Hp}
theorem KE.run {e : Expr} {t : TE} {Q : VK} (h : KE X e t) (I : Inv X pins σ H s) (q : t σ H Q) : wpAny (MX X) X.A (eval e X.env) (fun u s2 => EP X pins σ Q u s2 ∧ s2.gens = s.gens) Fl s := two (h.p.run pins s σ H Q I q) (h.k pins s σ H Q I q)
theorem KT.run {e : Expr} {t : TT} {Q : Bool → Hp → Prop} (h : KT X e t) (I : Inv X pins σ H s) (q : t σ H Q) : wpAny (MX X) X.A (isTrue e X.env (eval e X.env)) (fun u s2 => TP X pins σ Q u s2 ∧ s2.gens = s.gens) Fl s := two (h.p.run pins s σ H Q I q) (h.k pins s σ H Q I q)
theorem KW.run {e : Expr} {t : TT} {Q : Bool → Hp → Prop} (h : KW X e t) (whole : Sem Value) (I : Inv X pins σ H s) (q : t σ H Q) : wpAny (MX X) X.A (isTrue e X.env whole) (fun u s2 => TP X pins σ Q u s2 ∧ s2.gens = s.gens) Fl s := two (h.p.run whole pins s σ H Q I q) (h.k whole pins s σ H Q I q)
theorem KA.run {es : List Expr} {t : TA} {Q : List V → Hp → Prop} (h : KA X es t) (pos : Pos) (I : Inv X pins σ H s) (q : t σ H Q) : wpAny (MX X) X.A (spliced (backTo pos (starEach es X.env))) (fun u s2 => AP X pins σ Q u s2 ∧ s2.gens = s.gens) Fl s := two (h.p.run pos pins s σ H Q I q) (h.k pos pins s σ H Q I q)
theorem KS.run {st : Stmt} {t : TS} {D : Ends} (h : KS X st t) (I : Inv X pins σ H s) (q : t D σ H) : wpAny (MX X) X.A (exec st X.env) (fun u s2 => SP X pins D u s2 ∧ s2.gens = s.gens) Fl s := two (h.p.run pins s σ H D I q) (h.k pins s σ H D I q)
theorem KSs.run {st : List Stmt} {t : TS} {D : Ends} (h : KSs X st t) (I : Inv X pins σ H s) (q : t D σ H) : wpAny (MX X) X.A (execs st X.env) (fun u s2 => SP X pins D u s2 ∧ s2.gens = s.gens) Fl s := two (h.p.run pins s σ H D I q) (h.k pins s σ H D I q)
theorem KGt.run {tg : Expr} {t : TG} {v : V} {u : Value} {Q : L2.St → Hp → Prop} (h : KGt X tg t) (I : Inv X pins σ H s) (r : RelV v u) (q : t v σ H Q) : wpAny (MX X) X.A (assign tg X.env u) (fun _ s2 => (∃ σ2 H2, Inv X pins σ2 H2 s2 ∧ Q σ2 H2) ∧ s2.gens = s.gens) Fl s := two (h.p.run pins s σ H v u Q I r q) (h.k pins s σ H v u Q I r q)
end
/-! ### expressions -/
section
variable {X : Cx} {a b e : Expr} {es : List Expr} {ta tb te : TE} {t : TA} {pos : Pos}
theorem pe_var {i : Nat} {x : Str} (hN : X.N[i]? = some x) (hv : Vis X.env.scope x) (hd : (x == ("__debug__" : Str)) = false := by decide) (hcd : (x == ("__classdict__" : Str)) = false := by decide) : KE X (.Name x pos) (tVar i) := by
  refine ⟨L2.pe_var hN hv hd hcd, fun pins s σ H Q I h => ?_⟩
  obtain ⟨v, e, _⟩ := h
  obtain ⟨m, hn, hl⟩ := I.loc
  obtain ⟨u, _, l⟩ := hl i x v hN e hv
  rcases l with ⟨hk, hm⟩ | ⟨hk | hk, c, hc, hcell⟩
  · exact wpAny_Name (wpAny_loadName_local I.ok.kind hk hn hm rfl) hd
  · exact wpAny_Name (wpAny_loadName_cell I.ok.kind hk hc hcell rfl) hd
  · exact wpAny_Name (wpAny_loadName_free I.ok.kind hk hc hcell rfl hcd) hd
theorem pv (i : Nat) {x : Str} (hN : X.N[i]? = some x := by rfl) (hv : Vis X.env.scope x := by first | exact Or.inl rfl | exact Or.inr (Or.inl rfl) | exact Or.inr (Or.inr rfl)) (hd : (x == ("__debug__" : Str)) = false := by decide)
    (hcd : (x == ("__classdict__" : Str)) = false := by decide) : KE X (.Name x pos) (tVar i) := pe_var hN hv hd hcd
theorem pe_int {i j} : KE X (.Constant (.int i) j pos) (tC (.int i)) := ⟨L2.pe_int, fun _ _ _ _ _ _ _ => wpAny_Constant_int rfl⟩
theorem pe_str {x j} : KE X (.Constant (.str x) j pos) (tC (.str x)) := ⟨L2.pe_str, fun _ _ _ _ _ _ _ => Calls.Constant_str rfl⟩
theorem pe_glob {x : Str} {v : V} {u : Value} (hg : Gl X x) (hm : X.mg x = some u) (r : RelV v u) (hd : (x == ("__debug__" : Str)) = false := by decide) : KE X (.Name x pos) (tC v) :=
  ⟨L2.pe_glob hg hm r hd, fun _ _ _ _ _ I _ => ld_glob I hg hm rfl hd⟩
/-- two expressions, then an operation -/
theorem op2 {pins : List (Addr × Obj)} {s : Shared} {σ : L2.St} {H : Hp} {Q : VK} {f : Value → Value → Sem Value} {r : R2} (ho : KOp X f r) (ha : KE X a ta) (hb : KE X b tb) (I : Inv X pins σ H s) (h : tOp r ta tb σ H Q) :
    wpAny (MX X) X.A (eval a X.env) (fun v s1 => wpAny (MX X) X.A (eval b X.env) (fun u s2 => wpAny (MX X) X.A (f v u) (fun w s3 => EP X pins σ Q w s3 ∧ s3.gens = s.gens) Fl s2) Fl s1) Fl s := by
  refine thk (ha.run I h) fun v s1 ⟨x, H1, I1, r1, q1⟩ g1 => thk (hb.run I1 q1) fun u s2 ⟨y, H2, I2, r2, q2⟩ g2 => ?_
  exact thk (two (ho.p pins s2 σ H2 x y v u Q I2 r1 r2 q2) (ho.k pins s2 σ H2 x y v u Q I2 r1 r2 q2)) fun w s3 z g3 => ⟨z, g3.trans (g2.trans g1)⟩
theorem last2 {pins : List (Addr × Obj)} {s : Shared} {σ : L2.St} {H : Hp} {Q : VK} {f : Value → Value → Sem Value} {r : R2} (ho : KOp X f r) (ha : KE X a ta) (hb : KE X b tb) (I : Inv X pins σ H s) (h : tOp r ta tb σ H Q) :
    wpAny (MX X) X.A (eval a X.env) (fun v s1 => wpAny (MX X) X.A (eval b X.env) (fun u s2 => wpAny (MX X) X.A (f v u) (fun _ s3 => s3.gens = s.gens) Fl s2) Fl s1) Fl s :=
  wpAny_mono (op2 ho ha hb I h) (fun _ _ z => wpAny_mono z (fun _ _ z => wpAny_mono z (fun _ _ z => z.2) fun _ _ z => z) fun _ _ z => z) fun _ _ z => z
theorem pe_op {op : Operator} {r : R2} (ho : KOp X (binaryOp op) r) (ha : KE X a ta) (hb : KE X b tb) : KE X (.BinOp a op b pos) (tOp r ta tb) :=
  ⟨L2.pe_op ho.p ha.p hb.p, fun _ _ _ _ _ I h => wpAny_BinOp (last2 ho ha hb I h)⟩
theorem pe_ix {r : R2} (hr : KIx X r) (ha : KE X a ta) (hb : KE X b tb) (hs : PlainIx b) : KE X (.Subscript a b pos) (tOp r ta tb) := by
  refine ⟨L2.pe_ix hr.p ha.p hb.p hs, fun pins s σ H Q I h => Subscript_ ?_⟩
  refine thk (ha.run I h) fun v s1 ⟨x, H1, I1, r1, q1⟩ g1 => thk (hb.run I1 q1) fun u s2 ⟨y, H2, I2, r2, q2⟩ g2 => ?_
  exact wpAny_mono (hr.k a b pins s2 σ H2 x y v u Q I2 r1 r2 q2 (hs _ _)) (fun _ s3 g3 => g3.trans (g2.trans g1)) fun _ _ z => z
theorem pe_ifExp {c : Expr} {tA : TT} (hc : KT X c tA) (ha : KE X a ta) (hb : KE X b tb) : KE X (.IfExp c a b pos) (tIf tA ta tb) := by
  refine ⟨L2.pe_ifExp hc.p ha.p hb.p, fun pins s σ H Q I h => wpAny_IfExp (thk (hc.run I h) fun d s1 ⟨H1, I1, q1⟩ g1 => ?_)⟩
  cases d with
  | true => exact wpAny_mono (ha.k pins s1 σ H1 Q I1 q1) (fun _ _ g => g.trans g1) fun _ _ z => z
  | false => exact wpAny_mono (hb.k pins s1 σ H1 Q I1 q1) (fun _ _ g => g.trans g1) fun _ _ z => z
/-! tests -/
theorem pt_cmpR {op : CmpOp} {r : R2} (ho : KOp X (compareOp op) r) (ha : KE X a ta) (hb : KE X b tb) (hm : behindInMarks op b = false) : KT X (.Compare a [op] [b] pos) (tTest (tOp r ta tb)) := by
  refine ⟨L2.pt_cmpR ho.p ha.p hb.p hm, fun pins s σ H Q I h => wpAny_isTrue_Compare1 (wpAny_mono (op2 ho ha hb I h) (fun v s1 z => wpAny_mono z (fun u s2 z => wpAny_mono z (fun c s3 z => ?_) fun _ _ z => z) fun _ _ z => z) fun _ _ z => z) hm⟩
  obtain ⟨⟨z, H3, I3, r3, k, rfl, q3⟩, g3⟩ := z
  cases r3
  exact wpAny_truthy_bool g3
theorem pt_cmp {op : CmpOp} {t : TE} (h : KC X op a b t) (h1 : behindInMarks op b = false := by first | exact nobehind _ (by decide) (by decide) | rfl) : KT X (.Compare a [op] [b] pos) (tB t) := by
  refine ⟨L2.pt_cmp h.p h1, fun pins s σ H Q I hw => ?_⟩
  have three : wpAny (MX X) X.A (eval a X.env) (fun v s1 => wpAny (MX X) X.A (eval b X.env) (fun u s2 => wpAny (MX X) X.A (compareOp op v u) (fun c s3 => (∃ k, c = .bool k) ∧ s3.gens = s.gens) Fl s2) Fl s1) Fl s := by
    refine wpAny_mono (both (h.p.run pins s σ H _ I hw) (h.k pins s σ H _ I hw)) (fun v s1 z => wpAny_mono (both z.1 z.2) (fun u s2 z => wpAny_mono (both z.1 z.2) (fun c s3 z => ⟨?_, z.2⟩) fun _ _ z => z.2) fun _ _ z => z.2) fun _ _ z => z.2
    obtain ⟨⟨x, H1, I1, r1, d, rfl, q⟩, _⟩ := z
    exact ⟨d, r1⟩
  refine wpAny_isTrue_Compare1 (wpAny_mono three (fun v s1 z => wpAny_mono z (fun u s2 z => wpAny_mono z (fun c s3 z => ?_) fun _ _ z => z) fun _ _ z => z) fun _ _ z => z) h1
  obtain ⟨⟨k, rfl⟩, g⟩ := z
  exact wpAny_truthy_bool g
theorem pt_val {t : TE} (h : KE X e t) (he : ∀ whole, isTrue e X.env whole = (do let v ← whole; standAt e.pos; holding [v] (truthy v)) := by intro _; rfl) : KT X e (tB t) := by
  refine ⟨L2.pt_val h.p he, fun pins s σ H Q I hw => isTrue_plain (thk (h.run I hw) fun v s1 ⟨x, H1, I1, r1, d, ex, q1⟩ g1 => ?_) (he _)⟩
  subst ex
  cases r1
  exact wpAny_truthy_bool g1
theorem pt_not {tA : TT} (ha : KT X a tA) : KT X (.UnaryOp .Not a pos) (tNot tA) :=
  ⟨L2.pt_not ha.p, fun pins s σ H Q I h => isTrue_not (ha.k pins s σ H (fun c H1 => Q (!c) H1) I h)⟩
theorem KW.pt {tA : TT} (h : KW X e tA) : KT X e tA := ⟨h.p.pt, h.k _⟩
theorem pw_and1 {tA : TT} (ha : KT X a tA) : KW X (.BoolOp .And [a] pos) tA := by
  refine ⟨L2.pw_and1 ha.p, fun wh pins s σ H Q I h => isTrue_and (wpAny_mono (ha.k pins s σ H Q I h) (fun c s1 g => ?_) fun _ _ z => z)⟩
  cases c with
  | true => exact isTrue_and_nil g
  | false => exact g
theorem pw_and {rest : List Expr} {tA tB' : TT} (ha : KT X a tA) (hb : KW X (.BoolOp .And (b :: rest) pos) tB') : KW X (.BoolOp .And (a :: b :: rest) pos) (tAnd tA tB') := by
  refine ⟨L2.pw_and ha.p hb.p, fun wh pins s σ H Q I h => isTrue_and (thk (ha.run I h) fun c s1 ⟨H1, I1, q1⟩ g1 => ?_)⟩
  cases c with
  | true => exact wpAny_mono (hb.k wh pins s1 σ H1 Q I1 q1) (fun _ _ g => g.trans g1) fun _ _ z => z
  | false => exact g1
/-! arguments, displays -/
theorem pa_nil : KA X [] tNil := ⟨L2.pa_nil, fun _ _ _ _ _ _ _ _ => Calls.spliced_nil rfl⟩
theorem pa_cons (ha : KE X e te) (hr : KA X es t) (hs : starEach (e :: es) X.env = (false, eval e X.env) :: starEach es X.env := by rfl) : KA X (e :: es) (tCons te t) := by
  refine ⟨L2.pa_cons ha.p hr.p hs, fun pos pins s σ H Q I h => ?_⟩
  rw [hs]
  show Kp _ _ (spliced ((false, eval e X.env) :: backTo pos (starEach es X.env))) s
  exact Calls.spliced_cons (thk (ha.run I h) fun u s1 ⟨x, H1, I1, _, q1⟩ g1 => wpAny_mono (hr.k pos pins s1 σ H1 _ I1 q1) (fun _ _ g => g.trans g1) fun _ _ z => z)
theorem pe_tup {x1} (h : KA X es t) : KE X (.Tuple es x1 pos) (tTup t) :=
  ⟨L2.pe_tup h.p, fun pins s σ H Q I hq => wpAny_Tuple_spliced (thk (h.run pos I hq) fun us s1 ⟨xs, H1, I1, r, z, _⟩ g => ⟨by rw [← r.length]; exact z, g⟩)⟩
theorem pe_lst (h : KA X es t) : KE X (.List es pos) (tLst t) :=
  ⟨L2.pe_lst h.p, fun pins s σ H Q I hq => wpAny_List_spliced (thk (h.run pos I hq) fun us s1 ⟨xs, H1, I1, r, z, _⟩ g => ⟨by rw [← r.length]; exact z, g⟩)⟩
end
end KG
/-! ### statements, targets, loops that leave the generators alone -/
namespace KG
open PySem PySem.Spec PyProof.Rows L2
section
variable {X : Cx} {st : Stmt} {rest : List Stmt} {t u : TS} {e : Expr} {te : TE} {pos : Pos}
theorem pss_nil : KSs X [] tNext := ⟨L2.pss_nil, fun _ _ _ _ _ _ _ => wpAny_execs_nil rfl⟩
theorem pss_cons (h1 : KS X st t) (h2 : KSs X rest u) : KSs X (st :: rest) (tSeq t u) := by
  refine ⟨L2.pss_cons h1.p h2.p, fun pins s σ H D I h => wpAny_execs_cons (thk (h1.run (D := { D with nx := u D }) I h) fun f s1 q g1 => ?_)⟩
  cases f with
  | next =>
    obtain ⟨σ2, H2, I2, q⟩ := q
    exact wpAny_mono (h2.k pins s1 σ2 H2 D I2 q) (fun _ _ g => g.trans g1) fun _ _ z => z
  | _ => exact g1
theorem pss_one (h1 : KS X st t) : KSs X [st] t := by
  refine ⟨L2.pss_one h1.p, fun pins s σ H D I h => wpAny_execs_cons (wpAny_mono (h1.k pins s σ H D I h) (fun f s1 g1 => ?_) fun _ _ z => z)⟩
  cases f with
  | next => exact wpAny_execs_nil g1
  | _ => exact g1
theorem ps_expr (he : KE X e te) (hs : swapsWith e none pos.line X.env = pure false := by rfl) : KS X (.Expr e pos) (tDrop te) :=
  ⟨L2.ps_expr he.p hs, fun pins s σ H D I h => wpAny_Expr_any (he.k pins s σ H _ I h) I.quiet hs⟩
theorem ps_ret (he : KE X e te) : KS X (.Return (some e) pos) (tRet te) := ⟨L2.ps_ret he.p, fun pins s σ H D I h => wpAny_Return_some (he.k pins s σ H _ I h)⟩
theorem ps_if {c : Expr} {a b : List Stmt} {tc : TT} (hc : KT X c tc) (ha : KSs X a t) (hb : KSs X b u) : KS X (.If c a b pos) (tIfS tc t u) := by
  refine ⟨L2.ps_if hc.p ha.p hb.p, fun pins s σ H D I h => wpAny_If (thk (hc.run I h) fun d s1 ⟨H1, I1, q1⟩ g1 => ?_)⟩
  cases d with
  | true => exact wpAny_mono (ha.k pins s1 σ H1 D I1 q1) (fun _ _ g => g.trans g1) fun _ _ z => z
  | false => exact wpAny_mono (hb.k pins s1 σ H1 D I1 q1) (fun _ _ g => g.trans g1) fun _ _ z => z
theorem ps_never : KS X st tNever := ⟨L2.ps_never, fun _ _ _ _ _ _ h => h.elim⟩
/-! targets -/
theorem stored {pins : List (Addr × Obj)} {s : Shared} {σ : L2.St} {H : Hp} {x : Str} {v : Value} (I : Inv X pins σ H s) (hx : Loc X.env.scope x) : Kp (MX X) X.A (storeName X.env x v) s := by
  rcases hx with hx | hx
  · obtain ⟨m, hn, _⟩ := I.loc
    exact wpAny_storeName_local hx hn (fun _ _ _ => rfl) (by rw [I.ok.kind]; rfl)
  · obtain ⟨c, hc⟩ := I.ok.has x (.inl hx)
    obtain ⟨w, z⟩ := I.cell x c hc
    exact wpAny_storeName_cell I.ok.kind hx hc z fun _ _ _ => rfl
theorem pg_name {i : Nat} {x : Str} (hN : X.N.Nodup) (hi : X.N[i]? = some x) (hx : Loc X.env.scope x) (hf : X.fn x = true ∨ X.env.scope.names.lookup x = some .local := by first | exact .inl rfl | exact .inr rfl | assumption) : KGt X (.Name x pos) (gName i) :=
  ⟨L2.pg_name hN hi hx hf, fun pins s σ H v u Q I r h => wpAny_assign_Name (stored I hx)⟩
theorem pgs_nil : KGts X [] gNil := by
  refine ⟨L2.pgs_nil, fun pins s σ H vs us Q I r h => ?_⟩
  obtain ⟨rfl, _⟩ := h
  cases r
  exact assignInOrder_nil rfl
theorem pgs_cons {es : List Expr} {g : TG} {gs : TGs} (h1 : KGt X e g) (h2 : KGts X es gs) (hs : (assignEach (e :: es) X.env).map (·.2) = assign e X.env :: (assignEach es X.env).map (·.2) := by rfl) : KGts X (e :: es) (gCons g gs) := by
  refine ⟨L2.pgs_cons h1.p h2.p hs, fun pins s σ H vs us Q I r h => ?_⟩
  obtain ⟨v, vr, rfl, h⟩ := h
  cases r with
  | cons r rr =>
    rw [hs]
    exact assignInOrder_cons (thk (h1.run I r h) fun _ s1 ⟨σ1, H1, I1, q1⟩ g1 => wpAny_mono (h2.k pins s1 σ1 H1 _ _ Q I1 rr q1) (fun _ _ g => g.trans g1) fun _ _ z => z)
theorem pg_tup {es : List Expr} {k : Nat} {gs : TGs} {n : Nat} (hc : X.calm = true) (h : KGts X es gs) (hn : (assignEach es X.env).length = n := by rfl) (hst : (assignEach es X.env).findIdx? (·.1) = none := by rfl) : KGt X (.Tuple es k pos) (gTup X.K n gs) := by
  refine ⟨L2.pg_tup hc h.p hn hst, fun pins s σ H v u Q I r hw => ?_⟩
  obtain ⟨a, xs, rfl, hq, hl, hw⟩ := hw
  cases r
  obtain ⟨its, rv, ht, _⟩ := I.tuple hq
  refine assign_Tuple_tuple (I.ok.hd hc) ht (by simp [hn, ← hl, rv.length]) hst fun h' hx => ?_
  have I1 : Inv X pins σ H { s with heap := h' } := I.kept (t' := s.toks) fun b o e => hx b o (Nat.ne_of_lt (Heap.lt_size e)) e
  exact h.k pins _ σ H xs _ Q I1 (by simpa using rv) hw
theorem ps_set {i : Nat} {x : Str} {pos' : Pos} (hN : X.N.Nodup) (hi : X.N[i]? = some x) (hx : Loc X.env.scope x) (he : KE X e te) (hs : swapsWith e (some (.Name x pos')) pos.line X.env = pure false := by rfl) (hf : X.fn x = true ∨ X.env.scope.names.lookup x = some .local := by first | exact .inl rfl | exact .inr rfl | assumption) :
    KS X (.Assign [.Name x pos'] e pos) (tAsg te (gName i)) := by
  refine ⟨L2.ps_set hN hi hx he.p hs hf, fun pins s σ H D I h => wpAny_Assign_Name (thk (he.run I h) fun v s1 ⟨y, H1, I1, _, _⟩ g1 => ?_) hs⟩
  exact wpAny_mono (stored I1 hx) (fun _ _ g => g.trans g1) fun _ _ z => z
/-! while -/
theorem ps_while {c : Expr} {body : List Stmt} {tc : TT} {tb : TS} (hp : PassesOwn (MX X) X.A X.env X.xe) (hc : KT X c tc) (hb : KSs X body tb) : KS X (.While c body [] pos) (tWhile tc tb) := by
  refine ⟨L2.ps_while hp hc.p hb.p, fun pins s σ H D I h => ?_⟩
  obtain ⟨W, ⟨m0, w0⟩, turn⟩ := h
  refine wpAny_While (codeAny_whileLoop (fun n s2 => s2.gens = s.gens ∧ ∃ σ2 H2, Inv X pins σ2 H2 s2 ∧ W n σ2 H2) ?_ m0 ⟨rfl, σ, H, I, w0⟩)
  rintro n s1 ⟨g1, σ1, H1, I1, w1⟩
  refine wpAny_passesOwn PassesOwn.never (thk (hc.run I1 (turn n σ1 H1 w1)) fun b s2 ⟨H2, I2, q2⟩ g2 => ?_)
  cases b with
  | false => exact wpAny_execs_nil (g2.trans g1)
  | true =>
    obtain ⟨N, hN, q2⟩ := q2
    rw [if_pos rfl]
    refine wpAny_passesOwn PassesOwn.never (thk (hb.run I2 q2) fun f s3 q3 g3 => ?_)
    have g := g3.trans (g2.trans g1)
    have on : ∀ {σ3 : L2.St} {H3 : Hp}, Inv X pins σ3 H3 s3 → N σ3 H3 → ∃ m, m < n ∧ s3.gens = s.gens ∧ ∃ σ2 H2, Inv X pins σ2 H2 s3 ∧ W m σ2 H2 := fun {σ3 H3} I3 n3 => by
      obtain ⟨m, hm, w3⟩ := hN σ3 H3 n3
      exact ⟨m, hm, g, σ3, H3, I3, w3⟩
    cases f with
    | next => obtain ⟨σ3, H3, I3, n3⟩ := q3; exact on I3 n3
    | cont => obtain ⟨σ3, H3, I3, n3⟩ := q3; exact on I3 n3
    | brk => exact g
    | ret v => exact g
end
/-! ### what is walked -/
structure KTn (P : Program) (w : World) (K : PySem.W.Frag) (tg : Expr) (J : It) (fp : List Addr) (it : Addr) (tn : Nat → Heap → Prop) : Prop where
  t : Turn P w K tg J fp it tn
  item : ∀ (X : Cx), X.prog = P → X.w = w → X.K = K → X.calm = true → ∀ (i : Nat) (pins : List (Addr × Obj)) (s : Shared) (σ : L2.St) (H : Hp), Inv X pins σ H s → (∀ b ∈ fp, FpOk X pins H b) → tn i s.heap → J.go i H →
    wpAny (model P w) X.A (pyNext (.ref it)) (fun r s1 => s1.gens = s.gens ∧ ∀ u, r = some u → Kp (model P w) X.A (letOwnedTupleGo tg (.ref it) u) s1) Fl s
  done : ∀ (X : Cx), X.prog = P → X.w = w → X.K = K → X.calm = true → ∀ (i : Nat) (pins : List (Addr × Obj)) (s : Shared) (σ : L2.St) (H : Hp), Inv X pins σ H s → (∀ b ∈ fp, FpOk X pins H b) → tn i s.heap → J.stop i H → Kp (model P w) X.A (pyNext (.ref it)) s
section
variable {P : Program} {w : World} {K : PySem.W.Frag} {tg : Expr} {J : It} {fp : List Addr} {it : Addr} {tn : Nat → Heap → Prop}
theorem KTn.both {X : Cx} (T : KTn X.prog X.w X.K tg J fp it tn) (hc : X.calm = true) {i : Nat} {pins : List (Addr × Obj)} {s : Shared} {σ : L2.St} {H : Hp} (I : Inv X pins σ H s) (hf : ∀ b ∈ fp, FpOk X pins H b) (st : tn i s.heap) (go : J.go i H) :
    wpAny (MX X) X.A (pyNext (.ref it)) (fun r s1 => s1.gens = s.gens ∧ ∃ u, r = some u ∧
      wpAny (MX X) X.A (letOwnedTupleGo tg (.ref it) u) (fun _ s2 => (∃ x H', Inv X pins σ H' s2 ∧ RelV x u ∧ J.yld i H x H' ∧ tn (i + 1) s2.heap ∧ ∀ b ∈ fp, H' b = none) ∧ s2.gens = s1.gens) Fl s1) Fl s := by
  refine wpAny_mono (KG.both (T.t.item X rfl rfl rfl hc i pins s σ H Fl I hf st go) (T.item X rfl rfl rfl hc i pins s σ H I hf st go)) (fun r s1 z => ?_) fun _ _ z => z.1
  obtain ⟨⟨u, rfl, h⟩, g, k⟩ := z
  exact ⟨g, u, rfl, two h (k u rfl)⟩
theorem KTn.fin {X : Cx} (T : KTn X.prog X.w X.K tg J fp it tn) (hc : X.calm = true) {i : Nat} {pins : List (Addr × Obj)} {s : Shared} {σ : L2.St} {H : Hp} (I : Inv X pins σ H s) (hf : ∀ b ∈ fp, FpOk X pins H b) (st : tn i s.heap) (stop : J.stop i H) :
    wpAny (MX X) X.A (pyNext (.ref it)) (fun r s1 => (r = none ∧ Inv X pins σ H s1) ∧ s1.gens = s.gens) Fl s :=
  two (T.t.done X rfl rfl rfl hc i pins s σ H Fl I hf st stop) (T.done X rfl rfl rfl hc i pins s σ H I hf st stop)
end
/-- the step ahead of the store keeps them, too -/
theorem go_keeps {M : Model} {A : Around} {s : Shared} {tg : Expr} {it : Addr} {u : Value} {o : Obj} {n : String} {vs : Array Value} (ho : s.heap.get? it = some o) (hc : o.cls = .type n) (hd : o.data = .fields vs)
    (hn : ["enumerate", "zip", "dict_itemiterator", "dict_reverseitemiterator", "odict_iterator", "itertools.zip_longest", "itertools.pairwise"].contains n = false) : Kp M A (letOwnedTupleGo tg (.ref it) u) s := go_of ho hc hd hn rfl
theorem turn_list {P : Program} {w : World} {K : PySem.W.Frag} {tg : Expr} (a it : Addr) : KTn P w K tg (Itl K a) [it] it (fun i h => h.IsListIter it a i) := by
  refine ⟨L2.turn_list a it, ?_, ?_⟩
  · intro X hP hw hK hc i pins s σ H I hf st hg
    subst hP hw hK
    obtain ⟨xs, x, hq, hx⟩ := hg
    obtain ⟨its, rv, p, _⟩ := I.list hq
    obtain ⟨u, hu, _⟩ := rv.get hx
    refine wpAny_pyNext_list_item st p.isList (x := u) (by simpa using hu) fun h' st2 _ => ⟨rfl, fun u2 _ => ?_⟩
    obtain ⟨o, e, c, d⟩ := st2
    exact go_keeps (s := { s with heap := h' }) e c d (by decide)
  · intro X hP hw hK hc i pins s σ H I hf st hg
    subst hP hw hK
    obtain ⟨xs, hq, hx⟩ := hg
    obtain ⟨its, rv, p, _⟩ := I.list hq
    have hl := rv.length
    exact wpAny_pyNext_list_end (I.ok.hd hc) st p.isList (by simp; omega) fun _ _ => rfl
theorem turn_tuple {P : Program} {w : World} {K : PySem.W.Frag} {tg : Expr} (a it : Addr) : KTn P w K tg (Itt K a) [it] it (fun i h => h.IsTupleIter it a i) := by
  refine ⟨L2.turn_tuple a it, ?_, ?_⟩
  · intro X hP hw hK hc i pins s σ H I hf st hg
    subst hP hw hK
    obtain ⟨xs, x, hq, hx⟩ := hg
    obtain ⟨its, rv, p, _⟩ := I.tuple hq
    obtain ⟨u, hu, _⟩ := rv.get hx
    refine wpAny_pyNext_tuple_item st (show s.heap.IsTuple a its.toArray from p) (x := u) (by simpa using hu) fun h' st2 _ => ⟨rfl, fun u2 _ => ?_⟩
    obtain ⟨o, e, c, d⟩ := st2
    exact go_keeps (s := { s with heap := h' }) e c d (by decide)
  · intro X hP hw hK hc i pins s σ H I hf st hg
    subst hP hw hK
    obtain ⟨xs, hq, hx⟩ := hg
    obtain ⟨its, rv, p, _⟩ := I.tuple hq
    have hl := rv.length
    exact wpAny_pyNext_tuple_end (I.ok.hd hc) st (show s.heap.IsTuple a its.toArray from p) (by simp; omega) fun _ _ => rfl
theorem turn_range {P : Program} {w : World} {K : PySem.W.Frag} {tg : Expr} (it : Addr) (lo : Int) (n : Nat) : KTn P w K tg (Itr lo n) [it] it (fun i h => IsRangeIter h it (lo + (i : Nat) * 1) ((n : Int) - (i : Nat)) 1) := by
  refine ⟨L2.turn_range it lo n, ?_, ?_⟩
  · intro X hP hw hK hc i pins s σ H I hf st hg
    subst hP hw hK
    have W := Walks.range (prog := X.prog) (w := X.w) (I.ok.hd hc) it lo 1 n
    exact W.item i s _ _ hg st fun v h' tk hv st2 _ => ⟨rfl, fun u2 _ => go_keeps (s := { s with heap := h', toks := tk }) (n := "range_iterator") st2 rfl rfl (by decide)⟩
  · intro X hP hw hK hc i pins s σ H I hf st hg
    subst hP hw hK
    exact wpAny_pyNext_range_end (I.ok.hd hc) st (by have : n ≤ i := hg; omega) fun _ _ => rfl
/-- an iterator has come -/
def KIE (X : Cx) (pins : List (Addr × Obj)) (σ : L2.St) (tg : Expr) (R : It → Hp → Prop) (itv : Value) (s2 : Shared) : Prop :=
  ∃ (it : Addr) (fp : List Addr) (tn : Nat → Heap → Prop) (J : It) (H' : Hp), itv = .ref it ∧ Inv X pins σ H' s2 ∧ KTn X.prog X.w X.K tg J fp it tn ∧ tn 0 s2.heap ∧ (∀ b ∈ fp, FpOk X pins H' b) ∧ R J H'
structure KI (X : Cx) (tg iter : Expr) (wi : TI) : Prop where
  p : PI X tg iter wi
  run : ∀ (pins : List (Addr × Obj)) (s : Shared) (σ : L2.St) (H : Hp) (R : It → Hp → Prop), Inv X pins σ H s → wi σ H R →
    wpAny (MX X) X.A (eval iter X.env) (fun v s1 => wpAny (MX X) X.A (pyIter v) (fun itv s2 => KIE X pins σ tg R itv s2 ∧ s2.gens = s.gens) Fl s1) Fl s
section
variable {X : Cx} {tg : Expr}
theorem pi_list {l : Expr} {tl : TE} (hl : KE X l tl) : KI X tg l (iList X.K tl) := by
  refine ⟨L2.pi_list hl.p, fun pins s σ H R I h => thk (hl.run I h) fun v s1 ⟨x, H1, I1, r1, q1⟩ g1 => ?_⟩
  obtain ⟨a, rfl, ⟨xs, hq⟩, q⟩ := q1
  cases r1
  obtain ⟨its, rv, p, _⟩ := I1.list hq
  refine wpAny_pyIter_list p.isList ⟨⟨s1.heap.objs.size, [s1.heap.objs.size], _, _, H1, rfl, I1.kept (t' := s1.toks) fun b o e => Heap.get?_push_of_some _ e, turn_list a _, ⟨_, Heap.get?_push_size _ rfl, rfl, rfl⟩, fun b hb => ?_, q⟩, g1⟩
  rw [List.mem_singleton.mp hb]
  exact I1.fpOk (Nat.le_refl _) (I1.hok.fresh (Nat.le_refl _))
theorem pi_tup {l : Expr} {tl : TE} (hl : KE X l tl) : KI X tg l (iTup X.K tl) := by
  refine ⟨L2.pi_tup hl.p, fun pins s σ H R I h => thk (hl.run I h) fun v s1 ⟨x, H1, I1, r1, q1⟩ g1 => ?_⟩
  obtain ⟨a, rfl, ⟨xs, hq⟩, q⟩ := q1
  cases r1
  obtain ⟨its, rv, p, _⟩ := I1.tuple hq
  refine wpAny_pyIter_tuple (show s1.heap.IsTuple a its.toArray from p) ⟨⟨s1.heap.objs.size, [s1.heap.objs.size], _, _, H1, rfl, I1.kept (t' := s1.toks) fun b o e => Heap.get?_push_of_some _ e, turn_tuple a _, ⟨_, Heap.get?_push_size _ rfl, rfl, rfl⟩, fun b hb => ?_, q⟩, g1⟩
  rw [List.mem_singleton.mp hb]
  exact I1.fpOk (Nat.le_refl _) (I1.hok.fresh (Nat.le_refl _))
theorem pi_range1 {a : Expr} {ta : TA} {p pos : Pos} (hg : Gl X "range") (hm : X.mg "range" = none) (ha : KA X [a] ta) (hs : starEach [a] X.env = [(false, eval a X.env)] := by rfl) : KI X tg (.Call (.Name "range" p) [a] [] pos) (iRng1 ta) := by
  refine ⟨L2.pi_range1 hg hm ha.p hs, fun pins s σ H R I h => Call_ (ld_blt I hg hm boot_range (PyProof.Rows.callWith_type1 (thk (ha.run pos I h) fun us s1 ⟨vs, H1, I1, r1, q1⟩ g1 => ?_) hs rfl))⟩
  obtain ⟨j, rfl, q1, q2, q⟩ := q1
  cases r1 with
  | cons r rr =>
    cases rr
    obtain ⟨t, rfl⟩ := r
    refine call_range_1 (wpAny_pyIter_range (IsRange.new ..) (small_one (by omega) (by omega) q1 q2) ?_)
    generalize hr : s1.heap.push _ = hh
    have I2 : ∀ tk, Inv X pins σ H1 { s1 with heap := hh, toks := tk } := fun tk => by
      rw [← hr]
      exact I1.kept fun b o e => Heap.get?_push_of_some _ e
    refine ⟨⟨hh.objs.size, [hh.objs.size], _, _, H1, rfl, (I2 _).kept (t' := _) fun b o e => Heap.get?_push_of_some _ e, turn_range _ 0 (j - 0).toNat, ?_, fun b hb => ?_, by simpa using q⟩, g1⟩
    · have e1 : (0 : Int) + ((0 : Nat) : Int) * 1 = 0 := by simp
      have e2 : (((j - 0).toNat : Nat) : Int) - ((0 : Nat) : Int) = Builtin.Range.rangeSize 0 j 1 := by rw [rangeSize_one]; split <;> omega
      show IsRangeIter _ _ ((0 : Int) + ((0 : Nat) : Int) * 1) ((((j - 0).toNat : Nat) : Int) - ((0 : Nat) : Int)) 1
      rw [e1, e2]
      exact Heap.get?_push_size _ rfl
    · rw [List.mem_singleton.mp hb]
      exact (I2 0).fpOk (s := { s1 with heap := hh, toks := 0 }) (Nat.le_refl _) ((I2 0).hok.fresh (Nat.le_refl _))
/-! for -/
theorem ps_for {iter : Expr} {body : List Stmt} {wi : TI} {g : TG} {tb : TS} {pos : Pos} (hp : PassesOwn (MX X) X.A X.env X.xe) (hc : X.calm = true) (hi : KI X tg iter wi) (hg : KGt X tg g) (hb : KSs X body tb)
    (hs : ∀ x, foldedSetIterable iter X.env x = pure x := by intro _; rfl) : KS X (.For tg iter body [] pos) (tFor wi g tb) := by
  refine ⟨L2.ps_for hp hc hi.p hg.p hb.p hs, fun pins s σ H D I h => wpAny_For (wpAny_mono (hi.run pins s σ H _ I h) (fun v s1 h1 => wpAny_mono h1 (fun itv s2 h2 => ?_) fun _ _ z => z) fun _ _ z => z) hs⟩
  obtain ⟨⟨it, fp, tn, J, H2, rfl, I2, T, st2, f2, W, ⟨m0, w0⟩, turn⟩, g2⟩ := h2
  have stat : ∀ {H' : Hp}, (∀ b ∈ fp, H' b = none) → ∀ b ∈ fp, FpOk X pins H' b := fun hn b hb => ⟨hn b hb, (f2 b hb).2⟩
  refine codeAny_forLoop_any (fun n s' => s'.gens = s.gens ∧ ∃ i σ' H', Inv X pins σ' H' s' ∧ tn i s'.heap ∧ (∀ b ∈ fp, H' b = none) ∧ W i n σ' H') ?_ m0 ⟨g2, 0, σ, H2, I2, st2, fun b hb => (f2 b hb).1, w0⟩
  rintro n s3 ⟨g3, i, σ3, H3, I3, st3, fr3, w3⟩
  rcases turn i n σ3 H3 w3 with ⟨stop, _⟩ | ⟨go, N, hN, step⟩
  · refine wpAny_passesOwn PassesOwn.never (thk (T.fin hc I3 (stat fr3) st3 stop) fun r s4 ⟨hr, _⟩ g4 => ?_)
    subst hr
    exact wpAny_execs_nil (g4.trans g3)
  · refine wpAny_passesOwn PassesOwn.never (wpAny_mono (T.both hc I3 (stat fr3) st3 go) (fun r s4 ⟨g4, u, hr, h4⟩ => ?_) fun _ _ z => z)
    subst hr
    refine wpAny_passesOwn PassesOwn.never (thk h4 fun _ s5 ⟨x, H5, I5, r5, y5, st5, fr5⟩ g5 => ?_)
    have I5' := I5.pinned (stat fr5) (T.t.obj _ _ st5)
    refine wpAny_passesOwn PassesOwn.never (thk (hg.run I5' r5 (step x H5 y5)) fun _ s6 ⟨σ6, H6, I6, q6⟩ g6 => ?_)
    refine wpAny_passesOwn PassesOwn.never (thk (hb.run I6 q6) fun f s7 q7 g7 => ?_)
    have ga := g7.trans (g6.trans (g5.trans (g4.trans g3)))
    have again : ∀ {σ7 : L2.St} {H7 : Hp}, Inv X (pins ++ pinsAt fp s5.heap) σ7 H7 s7 → N σ7 H7 → ∃ m, m < n ∧ s7.gens = s.gens ∧ ∃ i σ' H', Inv X pins σ' H' s7 ∧ tn i s7.heap ∧ (∀ b ∈ fp, H' b = none) ∧ W i m σ' H' := fun {σ7 H7} I7 n7 => by
      obtain ⟨m, hm, w7⟩ := hN σ7 H7 n7
      have pin : ∀ b ∈ fp, ∀ o, s5.heap.get? b = some o → s7.heap.get? b = some o ∧ H7 b = none := fun b hb o e =>
        let z := I7.pin (b, o) (List.mem_append_right _ (List.mem_append_right _ (mem_pinsAt hb e)))
        ⟨z.1, z.2.1⟩
      refine ⟨m, hm, ga, i + 1, σ7, H7, I7.unpinned, T.t.keep _ _ _ st5 fun b hb o e => (pin b hb o e).1, fun b hb => ?_, w7⟩
      obtain ⟨o, e, _⟩ := T.t.obj _ _ st5 b hb
      exact (pin b hb o e).2
    cases f with
    | next => obtain ⟨σ7, H7, I7, n7⟩ := q7; exact again I7 n7
    | cont => obtain ⟨σ7, H7, I7, n7⟩ := q7; exact again I7 n7
    | brk => exact ga
    | ret v => exact ga
end
end KG
/-! ### operations, containers -/
namespace KG
open PySem PySem.Spec PyProof.Rows L2
section
variable {X : Cx} {a b e o i : Expr} {es : List Expr} {ta tb te to ti td ty tv : TE} {t : TA} {pos : Pos}
/-- two ints or two texts -/
def eqS : V → V → Bool
  | .int _, .int _ => true
  | .str _, .str _ => true
  | _, _ => false
theorem eqS_scal {x y : V} (h : eqS x y = true) : scal x y = true := by
  cases x <;> cases y <;> first | rfl | exact nomatch h
def rEq : R2 := fun x y H Q => eqS x y = true ∧ Q (.bl (decide (x = y))) H
def rNe : R2 := fun x y H Q => eqS x y = true ∧ Q (.bl (!decide (x = y))) H
theorem op_eq : KOp X (compareOp .Eq) rEq := by
  refine ⟨fun pins s σ H x y v u Q I rx ry h => L2.op_eq pins s σ H x y v u Q I rx ry ⟨eqS_scal h.1, h.2⟩, fun pins s σ H x y v u Q I rx ry h => ?_⟩
  obtain ⟨h, _⟩ := h
  cases x with
  | int i =>
    obtain ⟨t1, rfl⟩ := rx
    cases y with
    | int j => obtain ⟨t2, rfl⟩ := ry; exact eq_int rfl
    | _ => exact Bool.noConfusion (show false = true from h)
  | str i =>
    obtain ⟨t1, rfl⟩ := rx
    cases y with
    | str j => obtain ⟨t2, rfl⟩ := ry; exact eq_str rfl
    | _ => exact Bool.noConfusion (show false = true from h)
  | _ => cases y <;> exact Bool.noConfusion (show false = true from h)
theorem op_ne : KOp X (compareOp .NotEq) rNe := by
  refine ⟨fun pins s σ H x y v u Q I rx ry h => L2.op_ne pins s σ H x y v u Q I rx ry ⟨eqS_scal h.1, h.2⟩, fun pins s σ H x y v u Q I rx ry h => ?_⟩
  obtain ⟨h, _⟩ := h
  cases x with
  | int i =>
    obtain ⟨t1, rfl⟩ := rx
    cases y with
    | int j => obtain ⟨t2, rfl⟩ := ry; exact ne_int rfl
    | _ => exact Bool.noConfusion (show false = true from h)
  | str i =>
    obtain ⟨t1, rfl⟩ := rx
    cases y with
    | str j => obtain ⟨t2, rfl⟩ := ry; exact ne_str rfl
    | _ => exact Bool.noConfusion (show false = true from h)
  | _ => cases y <;> exact Bool.noConfusion (show false = true from h)
theorem op_in_seq : KOp X (compareOp .In) (rIn X.K false) := by
  refine ⟨L2.op_in_seq, fun pins s σ H x y v u Q I rx ry h => ?_⟩
  obtain ⟨p, xs, rfl, hq, fx, fs, _⟩ := h
  cases ry
  rcases hq with hq | hq
  · obtain ⟨its, r, pl, _⟩ := I.list hq
    exact SeqAt.in_listAt (eqU x) pl.isList (fun w hw => mem_eqAt rx fx r fs w (by simpa using hw)) rfl
  · obtain ⟨its, r, pl, _⟩ := I.tuple hq
    exact SeqAt.in_tupleAt (eqU x) pl (fun w hw => mem_eqAt rx fx r fs w (by simpa using hw)) rfl
theorem op_cat : KOp X (binaryOp .Add) rCat := by
  refine ⟨L2.op_cat, fun pins s σ H x y v u Q I rx ry h => ?_⟩
  obtain ⟨l, b, xs, zs, rfl, rfl, hH, hB, hz, _⟩ := h
  cases rx
  cases ry
  obtain ⟨_, its, n, _, hl, e⟩ := I.lstM hH
  obtain ⟨_, its2, n2, _, hl2, e2⟩ := I.lstM hB
  exact PySem.P.add_list e e2 rfl (by rw [List.size_toArray, List.size_toArray]; omega)
theorem ix_list : KIx X (rIxL X.K) := by
  refine ⟨L2.ix_list, fun value slice pins s σ H x y v u Q I rx ry h hs => ?_⟩
  obtain ⟨p, xs, i, z, rfl, rfl, hq, he, _⟩ := h
  cases rx
  obtain ⟨t, rfl⟩ := ry
  obtain ⟨its, r, pl, hz⟩ := I.list hq
  obtain ⟨j, h1, h2, h3, h4, h5⟩ := atI_get he
  obtain ⟨w, ew, _⟩ := r.get h2
  have hl := r.length
  have hn := line63
  by_cases h0 : 0 ≤ i
  · have hj : i.toNat = j := by
      rw [seqIndex_of h0 h5] at h1
      exact Option.some.inj h1
    exact item_listR pl.isList h0 (by omega) (by rw [hj]; simpa using ew) rfl hs
  · have hj : (i + (its.toArray.size : Int)).toNat = j := by
      rw [seqIndex_neg (by omega) h4] at h1
      rw [List.size_toArray, ← hl]
      exact Option.some.inj h1
    exact subscriptTail_builtinR (x := w) pl.isList.typeIs slot_list_getitem.lookup
      (wpAny_getItem_list_neg (Q := fun r s2 => r = w ∧ s2.gens = s.gens) pl.isList (by omega) (by rw [List.size_toArray] <;> omega) (by omega) (by rw [hj]; simpa using ew) ⟨rfl, rfl⟩) hs
theorem mt_append : KMt X "list.append" rAppend := by
  refine ⟨L2.mt_append, fun pins s σ H x vs v us Q I rx rv h => ?_⟩
  obtain ⟨l, xs, y, rfl, rfl, hH, hz, _⟩ := h
  cases rx
  obtain ⟨u, rfl, _⟩ := rv.one
  obtain ⟨_, its, n, _, hl, e⟩ := I.lstM hH
  exact call_meets F.slot_list_append ⟨_, e, rfl⟩ F.entry_list_append (F.args_list_append_2 _ _) (PySem.list_append l its.toArray n u (by rw [List.size_toArray]; omega)) ⟨e, rfl⟩
theorem mt_popAt : KMt X "list.pop" rPopAt := by
  refine ⟨L2.mt_popAt, fun pins s σ H x vs v us Q I rx rv h => ?_⟩
  obtain ⟨l, xs, i, k, y, rfl, rfl, hH, h1, h2, hk, hy, _⟩ := h
  cases rx
  obtain ⟨u, rfl, ru⟩ := rv.one
  obtain ⟨t, rfl⟩ := ru
  obtain ⟨_, its, n, r, hl, e⟩ := I.lstM hH
  obtain ⟨w, hw, _⟩ := r.get hy
  exact call_meets F.slot_list_pop ⟨_, e, rfl⟩ F.entry_list_pop (F.args_list_pop_2 _ _)
    (MeetsSeq.list_pop_at l its.toArray n i t k w (fitsIndex_both h1 h2) (by rw [List.size_toArray, ← hl]; exact hk) (by rw [← Array.getElem?_toList]; exact hw) (by rw [List.size_toArray]; omega)) ⟨e, rfl⟩
/-- o.m(e, ..) of a built-in's object -/
theorem pe_bm {T : String} {name : Str} {id : String} {r : V → List V → Hp → VK → Prop} {apos cpos : Pos} (pa : PlainAttrs T) (slot : Slot T name id) (hty : typeOf (.builtin id) = pure (.type "method_descriptor")) (hm : KMt X id r) (ho : KE X o to) (ha : KA X (e :: es) t)
    (hbase : attributeBase o name X.env (eval o X.env) = eval o X.env := by rfl)
    (hfew : ((backTo cpos (starEach (e :: es) X.env)).all (fun x => !x.1) && (backToKw cpos (keywordEach [] X.env)).all (fun x => x.1.isSome)
      && decide ((e :: es).length + ([] : List Keyword).length + (if ([] : List Keyword).isEmpty then 0 else 1) < 30)) = true := by rfl)
    (hline : (apos.endLine == cpos.line) = true := by rfl) (hs : starEach (e :: es) X.env = (false, eval e X.env) :: starEach es X.env := by rfl) (hplain : (backTo cpos (starEach es X.env)).any (·.1) = false := by rfl) :
    KE X (.Call (.Attribute o name apos) (e :: es) [] cpos) (tBM X.K T r to t) := by
  refine ⟨L2.pe_bm pa slot hty hm.p ho.p ha.p hbase hfew hline hs hplain, fun pins s σ H Q I h => ?_⟩
  refine wpAny_Call_method_late hbase hfew hline rfl (thk (ho.run I h) fun v s1 ⟨x, H1, I1, r1, ty, q1⟩ g1 => ?_)
  obtain ⟨h1, h2⟩ := tyV_is I1 r1 ty
  refine ⟨T, id, pa, slot, hty, h1, h2, ?_⟩
  have hA := ha.run cpos I1 q1
  rw [hs] at hA ⊢
  refine Calls.callWith_builtin (by show (false || (backTo cpos (starEach es X.env)).any (·.1)) = false; rw [hplain] <;> rfl) (Calls.evalArgs_plain ?_)
  exact thk hA fun us s2 ⟨vs, H2, I2, r2, q2⟩ g2 => wpAny_mono (hm.k pins s2 σ H2 x vs v us Q I2 r1 r2 q2) (fun _ _ g => g.trans (g2.trans g1)) fun _ _ z => z
/-- a list, a tuple, a dict as a test -/
theorem tru (pins : List (Addr × Obj)) (s : Shared) (σ : L2.St) (H : Hp) (x : V) (v : Value) (k : Bool) (I : Inv X pins σ H s) (rx : RelV x v) (h : TruV X.K x H k) : Kp (MX X) X.A (truthy v) s := by
  have hl := line63
  have hs : sizeLine = 16777216 := sizeLine_eq
  cases x with
  | non => cases rx; exact truthy_none rfl
  | bl b => cases rx; exact wpAny_truthy_bool rfl
  | int i => obtain ⟨t, rfl⟩ := rx; exact PySem.P.truthy_int rfl
  | str y =>
    obtain ⟨t, rfl⟩ := rx
    have hy : y.length ≤ sizeLine := h.1
    exact PySem.P.truthy_str (by omega) rfl
  | byt y =>
    obtain ⟨t, rfl⟩ := rx
    have hy : y.size ≤ sizeLine := h.1
    exact PySem.W.truthy_bytes (by omega) rfl
  | ref p =>
    cases rx
    rcases h with ⟨xs, hx, _⟩ | ⟨xs, hx, _⟩ | ⟨kvs, hx, _⟩
    · obtain ⟨its, r, pl, _⟩ := I.list hx
      have hlen := r.length
      exact wpAny_truthy_list pl.isList (by simp only [List.size_toArray]; omega) rfl
    · obtain ⟨its, r, pl, _⟩ := I.tuple hx
      have hlen := r.length
      exact truthy_tuple pl (by simp only [List.size_toArray]; omega) rfl
    · obtain ⟨hz, hS, vs, r, m⟩ := dk_of I.hok hx
      have hlen : kvs.length = vs.length := Paired.length r
      exact wpAny_truthy_dict hS m (by omega) rfl
  | _ => exact (show False from h).elim
theorem pt_truth (ha : KE X a ta) (he : ∀ whole, isTrue a X.env whole = (do let v ← whole; standAt a.pos; holding [v] (truthy v))) : KT X a (fun σ H Q => ta σ H fun x H' => ∃ k, TruV X.K x H' k ∧ Q k H') :=
  ⟨L2.pt_truth ha.p he, fun pins s σ H Q I h => isTrue_plain (thk (ha.run I h) fun v s1 ⟨x, H1, I1, r1, k, q1, _⟩ g1 => wpAny_mono (tru pins s1 σ H1 x v k I1 r1 q1) (fun _ _ g => g.trans g1) fun _ _ z => z) (he _)⟩
/-! dicts -/
theorem d_get {A : Around} {pins : List (Addr × Obj)} {s : Shared} {σ : L2.St} {H : Hp} {p : Addr} {y : V} {v : V} {u : Value} (hu : A.units + 1 < cLine) (I : Inv X pins σ H s) (g : DGet H p y (some v)) (ry : RelV y u) : Kp (MX X) A (getItem (.ref p) u) s := by
  rcases g with ⟨kvs, k, e, rfl, l⟩ | ⟨kvs, k, b, e, rfl, eb, l⟩
  · obtain ⟨_, _, vs, rel, dd⟩ := dk_rd I.hok e
    obtain ⟨w', hw, _⟩ := RelO.some_of (v := v) (o := valueAt vs k) (by rw [l]; exact rel.val k)
    exact wpAny_getItem_of (kV_is ry) dd.mapOf hw rfl
  · cases (show u = Value.ref b from ry)
    obtain ⟨_, _, xs, rel, dd⟩ := dt_rd I.hok e
    obtain ⟨w', hw, _⟩ := RelO.some_of (v := v) (o := (atKey xs k).map (·.2)) (by rw [l]; exact rel.val k)
    obtain ⟨q, hp, _⟩ := Option.map_eq_some_iff.mp hw
    exact wpAny_getItem_heap (tupleKind_room_in1 hu) (key_of I.hok eb) dd hp rfl
theorem d_notin {A : Around} {pins : List (Addr × Obj)} {s : Shared} {σ : L2.St} {H : Hp} {p : Addr} {y : V} {v : Option V} {u : Value} (hu : A.units + 1 < cLine) (I : Inv X pins σ H s) (g : DGet H p y v) (ry : RelV y u) : Kp (MX X) A (compareOp .NotIn u (.ref p)) s := by
  rcases g with ⟨kvs, k, e, rfl, l⟩ | ⟨kvs, k, b, e, rfl, eb, l⟩
  · obtain ⟨_, hd, vs, rel, dd⟩ := dk_rd I.hok e
    exact wpAny_notIn_of (kV_is ry) hd dd.mapOf rfl
  · cases (show u = Value.ref b from ry)
    obtain ⟨_, hd, xs, rel, dd⟩ := dt_rd I.hok e
    exact wpAny_notIn_heap (tupleKind_room_in1 hu) (key_of I.hok eb) hd dd rfl
theorem d_put {A : Around} {pins : List (Addr × Obj)} {s : Shared} {σ : L2.St} {H H' : Hp} {p : Addr} {y v : V} {u r : Value} (hu : A.units + 1 < cLine) (I : Inv X pins σ H s) (g : DPut H p y v H') (ry : RelV y u) : Kp (MX X) A (setItem (.ref p) u r) s := by
  rcases g with ⟨kvs, k, e, rfl, l, _⟩ | ⟨kvs, k, b, e, rfl, eb, l, _⟩
  · obtain ⟨z, hd, vs, rel, dd⟩ := dk_of I.hok e
    exact wpAny_setItem_pairs (hsz := by rw [← rel.length]; exact z) (kV_is ry) dd fun _ _ _ => rfl
  · cases (show u = Value.ref b from ry)
    obtain ⟨z, hd, xs, rel, dd⟩ := dt_of I.hok e
    exact wpAny_setItem_heap (hsz := by rw [← Paired.length rel]; exact z) (tupleKind_room_in1 hu) (key_of I.hok eb) dd fun _ _ _ => rfl
theorem pe_dget (hu : X.A.units + 1 < cLine) (ho : KE X o td) (hi : KE X i ty) (hs : NoSl i) : KE X (.Subscript o i pos) (tDGet td ty) := by
  refine ⟨L2.pe_dget hu ho.p hi.p hs, fun pins s σ H Q I h => ?_⟩
  refine subD_of PySem.F.slot_dict_getitem.lookup hs (thk (ho.run I h) fun u s1 ⟨x, H1, I1, rx, q1⟩ g1 => thk (hi.run I1 q1) fun iv s2 ⟨y, H2, I2, ry, p, v, ex, g, _⟩ g2 => ?_)
  subst ex
  obtain rfl : u = Value.ref p := rx
  exact ⟨dict_typeIs I2 g, wpAny_mono (d_get hu I2 g ry) (fun _ _ g3 => g3.trans (g2.trans g1)) fun _ _ z => z⟩
theorem pc_dnotin (hu : X.A.units + 1 < cLine) (hi : KE X i ty) (ho : KE X o td) : KC X .NotIn i o (tDNotIn ty td) := by
  refine ⟨L2.pc_dnotin hu hi.p ho.p, fun pins s σ H Q I h => thk (hi.run I h) fun iv s1 ⟨y, H1, I1, ry, q1⟩ g1 => thk (ho.run I1 q1) fun u s2 ⟨x, H2, I2, rx, p, v, ex, g, _⟩ g2 => ?_⟩
  subst ex
  obtain rfl : u = Value.ref p := rx
  exact wpAny_mono (d_notin hu I2 g ry) (fun _ _ g3 => g3.trans (g2.trans g1)) fun _ _ z => z
theorem ps_dput {value : Expr} {pos' : Pos} (hu : X.A.units + 1 < cLine) (ho : KE X o td) (hi : KE X i ty) (hv : KE X value tv) (hs : swapsWith value (some (.Subscript o i pos')) pos.line X.env = pure false) : KS X (.Assign [.Subscript o i pos'] value pos) (sDPut td ty tv) := by
  refine ⟨L2.ps_dput hu ho.p hi.p hv.p hs, fun pins s σ H D I h => wpAny_Assign_Subscript (thk (hv.run I h) fun r s1 ⟨v, H1, I1, _, q1⟩ g1 => thk (ho.run I1 q1) fun u s2 ⟨x, H2, I2, rx, q2⟩ g2 => thk (hi.run I2 q2) fun iv s3 ⟨y, H3, I3, ry, p, H4, ex, g, _⟩ g3 => ?_) hs⟩
  subst ex
  obtain rfl : u = Value.ref p := rx
  exact wpAny_mono (d_put hu I3 g ry) (fun _ _ g4 => g4.trans (g3.trans (g2.trans g1))) fun _ _ z => z
structure KPs (X : Cx) (pos : Pos) (keys : List (Option Expr)) (values : List Expr) (trs : List (TE × TE)) : Prop where
  p : PPs X pos keys values trs
  k : ∀ (pins : List (Addr × Obj)) (s : Shared) (σ : L2.St) (H : Hp) (Q : List (V × V) → Hp → Prop), Inv X pins σ H s → tPairs trs σ H Q → Kp (MX X) X.A (evalPairs (pairTrees keys values X.env pos)) s
theorem pps_nil : KPs X pos [] [] [] := ⟨L2.pps_nil, fun _ _ _ _ _ _ _ => pairTrees_nil_walk rfl⟩
theorem pps_cons {k v : Expr} {ks : List (Option Expr)} {vs : List Expr} {tk tv : TE} {trs : List (TE × TE)} (hk : KE X k tk) (hv : KE X v tv) (hr : KPs X pos ks vs trs) : KPs X pos (some k :: ks) (v :: vs) ((tk, tv) :: trs) :=
  ⟨L2.pps_cons hk.p hv.p hr.p, fun pins s σ H Q I h => pairTrees_cons_walk (thk (hk.run I h) fun u s1 ⟨x, H1, I1, _, q1⟩ g1 => thk (hv.run I1 q1) fun w2 s2 ⟨y, H2, I2, _, q2⟩ g2 =>
    wpAny_mono (hr.k pins s2 σ H2 _ I2 q2) (fun _ _ g3 => g3.trans (g2.trans g1)) fun _ _ z => z)⟩
theorem pe_disp {keys : List (Option Expr)} {values : List Expr} {trs : List (TE × TE)} (h : KPs X pos keys values trs) (hall : keys.all (·.isSome) = true) (hl : keys.length = values.length) (h0 : keys ≠ []) (h15 : keys.length ≤ 15) : KE X (.Dict keys values pos) (tDisp trs) := by
  refine ⟨L2.pe_disp h.p hall hl h0 h15, fun pins s σ H Q I q => ?_⟩
  have hn := I.hok.fresh (Nat.le_refl s.heap.objs.size)
  have I1 := I.laid (a := s.heap.objs.size) (o := .dK []) (h' := s.heap.push { cls := .type "dict", data := .dict #[] }) (t' := s.toks) (fun _ _ q => Heap.get?_push_of_some _ q) (Nat.le_refl _) (dk_empty s.heap I.big)
  refine wpAny_Dict_walk (knd := mixKind X.prog X.w) hall hl h0 h15 (wpAny_mono (both (h.p.run pins _ σ _ _ I1 (q _ hn)) (h.k pins _ σ _ _ I1 (q _ hn))) (fun ws s2 z => ?_) fun _ _ z => z.2)
  obtain ⟨⟨ps, H2, I2, rel, e, kvs, ep, _, _⟩, g2⟩ := z
  subst ep
  obtain ⟨rs, c, _⟩ := carries_of (P := X.prog) (w := X.w) rel
  obtain ⟨_, _, vs0, r0, dd⟩ := dk_of I2.hok e
  cases r0
  exact ⟨rs, c, dd, fun _ _ _ => g2⟩
/-! (*e, ..) -/
theorem star_keeps {pins : List (Addr × Obj)} {s : Shared} {σ : L2.St} {H : Hp} {p : Addr} {xs : List V} {Q : List Value → Shared → Prop} (I : Inv X pins σ H s) (h : SqT X.K H p xs ∨ SqL X.K H p xs) (hQ : ∀ us s2, Inv X pins σ H s2 → Vals xs us → s2.gens = s.gens → Q us s2) : PySem.W.StarOf (MX X) X.A Fl (.ref p) Q s := by
  rcases h with h | h
  · obtain ⟨its, r, ⟨ob, ho, hc, n, hd⟩, hz⟩ := I.tuple h
    have hl := r.length
    have z : wpAny (MX X) X.A (collect (.ref p)) Q Fl s := wpAny_collect_seq p (.inr rfl) ho hc hd (fun h' hk => by
      have e : its.toArray.toList = its := by simp
      rw [e]
      exact hQ its _ (I.kept (t' := s.toks) hk) r rfl) (by rw [List.size_toArray]; omega)
    unfold PySem.W.StarOf notIterableAtAll
    exact wpAny_bind (wpAny_specialOf (T := "tuple") ⟨ob, ho, hc⟩ PySem.F.slot_tuple_iter.lookup (wpAny_pure ⟨rfl, z⟩))
  · obtain ⟨its, r, pl, hz⟩ := I.list h
    obtain ⟨ob, ho, hc, n, hd⟩ := pl.isList
    have hl := r.length
    have z : wpAny (MX X) X.A (collect (.ref p)) Q Fl s := wpAny_collect_seq p (.inl rfl) ho hc hd (fun h' hk => by
      have e : its.toArray.toList = its := by simp
      rw [e]
      exact hQ its _ (I.kept (t' := s.toks) hk) r rfl) (by rw [List.size_toArray]; omega)
    unfold PySem.W.StarOf notIterableAtAll
    exact wpAny_bind (wpAny_specialOf (T := "list") ⟨ob, ho, hc⟩ PySem.F.slot_list_iter.lookup (wpAny_pure ⟨rfl, z⟩))
theorem pa_star {p : Pos} (he : KE X e te) (hr : KA X es t) (hs : starEach (.Starred e p :: es) X.env = (true, eval e X.env) :: starEach es X.env := by rfl) : KA X (.Starred e p :: es) (StX.tStar X.K te t) := by
  refine ⟨StX.pa_star he.p hr.p hs, fun pos pins s σ H Q I h => PySem.W.items_star (thk (he.run I h) fun v s1 ⟨y, H1, I1, ry, q, xs, ey, hx, q1⟩ g1 => ?_) hs⟩
  subst ey
  obtain rfl : v = Value.ref q := ry
  exact star_keeps I1 hx fun us s2 I2 _ g2 => wpAny_mono (hr.k pos pins s2 σ H1 _ I2 q1) (fun _ _ g3 => g3.trans (g2.trans g1)) fun _ _ z => z
/-! built-ins by name -/
section
variable {x : Str} {p : Pos} {id T : String} {r : List V → Hp → VK → Prop}
theorem pe_callB (hc : KCall X (.builtin id) r) (hg : Gl X x) (hm : X.mg x = none) (hv : bootBuiltins x = some (.builtin id)) (ha : KA X (e :: es) t) (hn : x ≠ "__name__" := by decide) (hdb : (x == ("__debug__" : Str)) = false := by decide)
    (he : starEach (e :: es) X.env = (false, eval e X.env) :: starEach es X.env := by rfl) (hpl : (backTo pos (starEach es X.env)).any (·.1) = false := by rfl) : KE X (.Call (.Name x p) (e :: es) [] pos) (tCB r t) :=
  ⟨L2.pe_callB hc.p hg hm hv ha.p hn hdb he hpl, fun pins s σ H Q I h => wpAny_Call_Name_kw (ld_blt I hg hm hv (PyProof.Rows.callWith_builtin1 (thk (ha.run pos I h) fun us s1 ⟨vs, H1, I1, r1, q1⟩ g1 =>
    wpAny_mono (hc.k pins s1 σ H1 vs us Q I1 r1 q1) (fun _ _ g => g.trans g1) fun _ _ z => z) he hpl) hn hdb)⟩
theorem pe_callTy (hc : KCall X (.type T) r) (hg : Gl X x) (hm : X.mg x = none) (hv : bootBuiltins x = some (.type T)) (ha : KA X (e :: es) t) (hn : x ≠ "__name__" := by decide) (hdb : (x == ("__debug__" : Str)) = false := by decide)
    (he : starEach (e :: es) X.env = (false, eval e X.env) :: starEach es X.env := by rfl) (hpl : (backTo pos (starEach es X.env)).any (·.1) = false := by rfl) : KE X (.Call (.Name x p) (e :: es) [] pos) (tCB r t) :=
  ⟨L2.pe_callTy hc.p hg hm hv ha.p hn hdb he hpl, fun pins s σ H Q I h => wpAny_Call_Name_kw (ld_blt I hg hm hv (PyProof.Rows.callWith_type1 (thk (ha.run pos I h) fun us s1 ⟨vs, H1, I1, r1, q1⟩ g1 =>
    wpAny_mono (hc.k pins s1 σ H1 vs us Q I1 r1 q1) (fun _ _ g => g.trans g1) fun _ _ z => z) he hpl) hn hdb)⟩
theorem cr_sortedI : KCall X (.builtin "sorted") (rSortedI X.K) := by
  refine ⟨L2.cr_sortedI, fun pins s σ H vs us Q I r h => ?_⟩
  obtain ⟨p, ns, rfl, hs, _⟩ := h
  obtain ⟨its, rv, hl, hz⟩ := I.list hs
  rw [Vals.ref1 r]
  have hi := rv.ints
  exact SrtO.sorted_ord SrtO.swo_int hl.isList (by rw [← rv.length]; exact hz) (fun h2 h₁ a' _ _ => SrtO.ints_sortable hi h2) fun _ _ _ => rfl
theorem call_listD (hcalm : X.calm = true) : KCall X (.type "list") (fun xs H Q => ∃ (a : Addr) (kvs : List (Key × V)), xs = [.ref a] ∧ Rd H a (.dK kvs) ∧ ∀ p, H p = none → Q (.ref p) (upd H p (.lst (kvs.map fun kv => kV kv.1)))) := by
  refine ⟨L2.call_listD hcalm, fun pins s σ H xs us Q I r q => ?_⟩
  obtain ⟨p, kvs, rfl, hd, _⟩ := q
  obtain ⟨u, rfl, rx⟩ := vals1 r
  cases rx
  obtain ⟨z, lo, vs, rel, dd⟩ := dk_rd I.hok hd
  obtain ⟨ep, hat⟩ := dd.dictAt
  exact PySem.W.kdl_call (PySem.W.kdl_dict (knd := mixKind X.prog X.w) (kvs := vs) (ep := ep) lo) (I.ok.hd hcalm) hat (by rw [← rel.length]; exact z) fun _ _ _ _ _ _ _ => rfl
theorem call_isC {C : Addr} (c : C8.InsC X.K C) : KCall X (.builtin "isinstance") (fun xs H Q => ∃ a dx fs, xs = [.ref a, .ref C] ∧ H a = some (.ins C dx fs) ∧ Q (.bl true) H) := by
  refine ⟨C8.call_isC c, fun pins s σ H xs us Q I r h => ?_⟩
  obtain ⟨p, dx, fs, rfl, ha, _⟩ := h
  obtain ⟨u, w', rfl, ru, rw'⟩ := vals2 r
  cases rw'
  exact isinst_ok I ru (TyOf.ins ha c.cl c.ha c.hn c.htk c.hm) c.me fun _ => rfl
end
/-! attributes -/
theorem pe_fld {f : Str} (he : KE X e ta) (hb : attributeBase e f X.env (eval e X.env) = eval e X.env) : KE X (.Attribute e f pos) (tFld X.K ta f) := by
  refine ⟨L2.pe_fld he.p hb, fun pins s σ H Q I h => attr_of hb (thk (he.run I h) fun u s1 ⟨x, H1, I1, rx, p, C, dx, fs, v, ex, ea, c, n, l, _⟩ g1 => ?_)⟩
  subst ex
  obtain rfl : u = Value.ref p := rx
  obtain ⟨mA, O, r, _, _, _⟩ := ins_get I1.hok ea
  obtain ⟨w, hw, rw'⟩ := RelO.some_of (v := v) (o := mA f) (by rw [← l]; exact r f)
  exact get_map I1.kIn O (c.get f) c.hd n hw (handed_of rw') g1
end
end KG
/-! ### calls of own defs -/
namespace KG
open PySem PySem.Spec PyProof.Rows L2
/-- a def's promise, and that it leaves the generators alone -/
structure FnK (P : Program) (w : World) (K : PySem.W.Frag) (mg : Str → Option Value) (base : Heap) (k : Nat) (f : Addr) (fd : FuncData) (ps : List Str) (sp : Sp) : Prop where
  p : FnOk P w K mg base CX0 k f fd ps sp
  k : ∀ (A : Around) (outer : List Env) (s : Shared) (H : Hp) (args : Args) (us : List Value) (vs : List V) (Q : VK) (E : XK), Room k A → Env0 P w K mg base A outer s H → BindsTo s fd args (ps.zip us) → Vals vs us → sp vs H Q E →
    KpC (model P w) A (.call (.ref f) args) s
section
variable {X : Cx} {k : Nat} {f : Addr} {fd : FuncData} {ps : List Str} {sp : Sp} {dvs : List V} {ds : List Value} {x : Str} {p pos : Pos} {e : Expr} {es : List Expr} {ta : TE} {t : TA}
theorem run_fn {pins : List (Addr × Obj)} {σ : L2.St} {H : Hp} {s : Shared} {Q : VK} {us : List Value} {vs : List V} (F : FnK X.prog X.w X.K X.mg X.base k f fd ps sp) (hr : Room k X.A) (hb : Binds X.K fd ps ds) (hd : Vals dvs ds) (I : Inv X pins σ H s) (r : Vals vs us) (h : sp (vs ++ dvs) H Q E0) : Kp (MX X) X.A (call (.ref f) us) s := by
  have r2 : Vals (vs ++ dvs) (us ++ ds) := r.append hd
  have hl : (us ++ ds).length = ps.length := by rw [← r2.length]; exact F.p.len _ _ _ _ h
  refine wpAny_call (codeAny_mono (both_code (F.p.run X.A X.stack s H ⟨us, []⟩ (us ++ ds) (vs ++ dvs) Q E0 hr I.env0 (hb s us I.kIn hl) r2 h) (F.k X.A X.stack s H ⟨us, []⟩ (us ++ ds) (vs ++ dvs) Q E0 hr I.env0 (hb s us I.kIn hl) r2 h)) fun r s2 hq => ?_)
  obtain ⟨hq, g⟩ := hq
  cases r with
  | error e => exact hq.elim
  | ok fl =>
    cases fl with
    | ret u => exact g
    | _ => exact False.elim hq
theorem pe_call (F : FnK X.prog X.w X.K X.mg X.base k f fd ps sp) (hr : Room k X.A) (hg : Gl X x) (hm : X.mg x = some (.ref f)) (hk : PySem.W.keepIn X.K (.ref f) = true) (hb : Binds X.K fd ps ds) (hd : Vals dvs ds)
    (ha : KA X (e :: es) t) (hdb : (x == ("__debug__" : Str)) = false := by decide) (he : starEach (e :: es) X.env = (false, eval e X.env) :: starEach es X.env := by rfl) (hpl : (backTo pos (starEach es X.env)).any (·.1) = false := by rfl) :
    KE X (.Call (.Name x p) (e :: es) [] pos) (tCall sp dvs E0 t) := by
  refine ⟨L2.pe_call F.p hr hg hm hk hb hd pass0 ha.p hdb he hpl, fun pins s σ H Q I h => wpAny_Call_Name_kw (ld_glob I hg hm ?_ hdb)⟩
  refine PySem.W.callWith_K (h₀ := X.base) I.ok.mod.kin hk (thk (ha.run pos I h) fun us s1 ⟨vs, H1, I1, r, q⟩ g1 => ⟨I1.kIn, ?_⟩) he hpl
  exact wpAny_mono (run_fn F hr hb hd I1 r q) (fun _ _ g => g.trans g1) fun _ _ z => z
/-- e.f, a property -/
theorem pe_prop {C q g : Addr} {n : Str} (he : KE X e ta) (c : Cls X.K C) (hp : PropOf X.K C n q g) (F : FnK X.prog X.w X.K X.mg X.base k g fd ps sp) (hr : Room (k + 1) X.A) (hb : Binds X.K fd ps ds) (hd : Vals dvs ds)
    (hab : attributeBase e n X.env (eval e X.env) = eval e X.env) : KE X (.Attribute e n pos) (tProp C sp dvs E0 ta) := by
  refine ⟨L2.pe_prop he.p c hp F.p hr hb hd pass0 hab, fun pins s σ H Q I h => attr_of hab (thk (he.run I h) fun u s1 ⟨x, H1, I1, rx, a, dx, fs, ex, ea, h1⟩ g1 => ?_)⟩
  subst ex
  obtain rfl : u = Value.ref a := rx
  obtain ⟨mA, O, _, _, _, _⟩ := ins_get I1.hok ea
  obtain ⟨od, J, _⟩ := O.look
  obtain ⟨rest, hrec⟩ := hp.rec_
  have I2 := I1.tok (s1.toks + 1)
  have hl : ([Value.ref a] ++ ds).length = ps.length := by
    rw [← F.p.len _ _ _ _ h1]
    show ds.length + 1 = dvs.length + 1
    rw [hd.length]
  have hc : (PySem.W.clsIn X.K C).isSome = true := by
    obtain ⟨cd, hc, _⟩ := PySem.W.any_some c.hd
    rw [hc]
    rfl
  refine PySem.W.get_bind I1.kIn J (PySem.W.plainGet_of (c.get n)).1 (PySem.W.findObj_data hc hp.at_ hp.get hp.tak) (PySem.W.plainGet_of (c.get n)).2 (wpAny_call (PySem.W.prop_get (s := { s1 with toks := s1.toks + 1 }) I1.kIn hrec ?_))
  have b1 := hb { s1 with toks := s1.toks + 1 } [.ref a] I2.kIn hl
  refine codeAny_mono (both_code (F.p.run X.A.in1 X.stack { s1 with toks := s1.toks + 1 } H1 ⟨[.ref a], []⟩ (.ref a :: ds) (.ref a :: dvs) Q E0 hr.in1 I2.env0.in1 b1 (.cons rfl hd) h1) (F.k X.A.in1 X.stack { s1 with toks := s1.toks + 1 } H1 ⟨[.ref a], []⟩ (.ref a :: ds) (.ref a :: dvs) Q E0 hr.in1 I2.env0.in1 b1 (.cons rfl hd) h1)) fun r s' hq => ?_
  obtain ⟨hq, g2⟩ := hq
  cases r with
  | error er => exact hq.elim
  | ok fl =>
    cases fl with
    | ret u =>
      obtain ⟨v, H', I3, rv, _⟩ := I2.after hq
      show wpAny _ _ (handedOut u) _ _ _
      rw [PySem.W.handedOut_of (handed_of rv)]
      exact wpAny_pure (g2.trans g1)
    | _ => exact False.elim hq
end
/-- a def by its body -/
theorem fun_ok {P : Program} {w : World} {K : PySem.W.Frag} {mg : Str → Option Value} {base : Heap} {x qual : Str} {st : Stmt} {f : Addr} {fd : FuncData} {N ps : List Str} {k : Nat} {sp : Sp} (F : Fun K x qual st f fd) (S : FnScope N ps (defScope st)) (len : ∀ vs H Q E, sp vs H Q E → vs.length = ps.length)
    (hbody : ∀ (cdv : Value) (A : Around) (outer : List Env) (s : Shared) (H : Hp) (vs : List V) (Q : VK) (E : XK), Room k (A.deeper (envOfC qual (defScope st) s.heap.objs.size f cdv)) → sp vs H Q E →
      ∃ t, KSs (cxOf CX0 P w K mg base N qual (defScope st) f cdv A outer s H E).nox (defBody st) t ∧ t { nx := fun _ H' => Q .non H', rt := Q } (L2.start N vs) H) : FnK P w K mg base (k + 1) f fd ps sp := by
  refine ⟨F.ok S len fun cdv A outer s H vs Q E hr hsp => ?_, ?_⟩
  · obtain ⟨t, h, q⟩ := hbody cdv A outer s H vs Q E hr hsp
    exact ⟨t, h.p, q⟩
  obtain ⟨oc, od, kV, doc, pm, an, cdv, ct, osl, rfl, lk, hcd⟩ := F.ex
  intro A outer s H args us vs Q E hr e0 hb r hsp
  have hl := len _ _ _ _ hsp
  have KX : K.In s.heap := e0.mod.kin.keeps fun b o e => (e0.bs b o e).1
  have lim : s.heap.NoLimit := e0.mod.nolimit.keeps fun b o e => (e0.bs b o e).1
  have hkind : ∀ y ∈ ps.zip us, (defScope st).names.lookup y.1 = some .local ∨ ((defScope st).names.lookup y.1 = some .cell ∧ ((cellsFrom (s.heap.objs.size + 1) (defScope st).names []).lookup y.1).isSome = true) := fun y hy => by
    rcases S.par y.1 (List.of_mem_zip (a := y.1) (b := y.2) hy).1 with q | q
    · exact .inl q
    · exact .inr ⟨q, PySem.W.cellsFrom_some _ _ _ (.inl q)⟩
  refine codeAny_call_function hr.depth (KX _ _ lk) rfl S.co S.gen rfl (PySem.W.codeRec_of KX hcd) (hb _ _ _ _ ?_)
  refine wpAny_newFunctionEnv_cells S.kind hkind fun env he s1 x => ?_
  subst he
  refine ⟨lim.keeps x.toInCall.keep, codeAny_func ?_⟩
  obtain ⟨t, ht, hq⟩ := hbody cdv A outer s H vs Q E (hr.deeper _) hsp
  have I : Inv (cxOf CX0 P w K mg base N qual (defScope st) f cdv A outer s H E) [] (L2.start N vs) H s1 := inv_start S hr.hd e0 hl r x
  obtain ⟨h1, tk1, es1, _⟩ := x.done
  have g1 : s1.gens = s.gens := by rw [es1]
  exact wpAny_mono (ht.k [] s1 (L2.start N vs) H _ (I.wish _) hq) (fun fl s2 g => g.trans g1) fun _ _ z => z.elim
/-- a def of the top that keeps such a promise -/
structure KCal (P : Program) (w : World) (K : PySem.W.Frag) (mg : Str → Option Value) (base : Heap) (x : Str) (ps : List Str) (sp : Sp) (l : Nat) where
  f : Addr
  fd : FuncData
  ok : ∀ k, l ≤ k → FnK P w K mg base k f fd ps sp
  kp : PySem.W.keepIn K (.ref f) = true
  b : Binds K fd ps []
  g : mg x = some (.ref f)
/-- a property: a field's value -/
structure KPrp (P : Program) (w : World) (K : PySem.W.Frag) (mg : Str → Option Value) (base : Heap) (C : Addr) (f fld : Str) where
  p : Addr
  g : Addr
  fd : FuncData
  hp : PropOf K C f p g
  ok : ∀ k, 1 ≤ k → FnK P w K mg base k g fd ["self"] (getSp C fld)
  b : Binds K fd ["self"] []
end KG
/-! ### list comprehensions -/
namespace KG
open PySem PySem.Spec PyProof.Rows L2
structure KTs (X : Cx) (ifs : List Expr) (t : TT) : Prop where
  p : PTs X ifs t
  k : ∀ (pins : List (Addr × Obj)) (s : Shared) (σ : L2.St) (H : Hp) (Q : Bool → Hp → Prop), Inv X pins σ H s → t σ H Q →
    Kp (MX X) X.A (forIn ifs true fun c r => if r = true then do let ok ← isTrue c X.env (eval c X.env); pure (ForInStep.yield ok) else pure (ForInStep.yield r)) s
theorem pts_nil {X : Cx} : KTs X [] tYes := ⟨L2.pts_nil, fun _ _ _ _ _ _ _ => wpAny_tests_nil rfl⟩
theorem pts_one {X : Cx} {c : Expr} {t : TT} (h : KT X c t) : KTs X [c] t := ⟨L2.pts_one h.p, fun pins s σ H Q I hw => wpAny_tests_one (h.k pins s σ H Q I hw)⟩
section
variable {X : Cx}
theorem add_item {A : Around} {pins : List (Addr × Obj)} {s : Shared} {σ : L2.St} {H : Hp} {D : Addr} {xs : List V} {v : Value} (I : Inv X pins σ H s) (hD : H D = some (.lst xs)) (hz : xs.length < sizeLine) : Kp (MX X) A (call (.builtin "list.append") [.ref D, v]) s := by
  obtain ⟨_, its, n, ri, e⟩ := I.hok D _ hD
  have hl := ri.length
  exact append_at (hsz := by rw [List.size_toArray]; omega) e fun _ _ _ => rfl
/-- the comprehension runs and keeps the generators; what is done with its list keeps them, too -/
theorem lc_keeps {pins : List (Addr × Obj)} {s : Shared} {σ : L2.St} {H : Hp} {Q : VK} {elt tg iter : Expr} {ifs : List Expr} {scope : Scope} {own : List (Str × Nat)} {pos pos' : Pos} {wi : TI} {g : TG} {tt : TT} {te : TE} {use : Option (Value → Sem Unit)}
    (hc : X.calm = true) (hN : X.N.Nodup) (I : Inv X pins σ H s) (hi : KI X tg iter wi) (ok : BlkOk X.N X.env.scope scope own)
    (hg : ∀ (s : Shared) (H : Hp) (C : Addr) (cl : List (Str × Addr)) (fp : List Addr), KGt (X.blk s H scope (compEnvC scope cl C X.env) fp) tg g) (ht : ∀ (s : Shared) (H : Hp) (C : Addr) (cl : List (Str × Addr)) (fp : List Addr), KTs (X.blk s H scope (compEnvC scope cl C X.env) fp) ifs tt)
    (he : ∀ (s : Shared) (H : Hp) (C : Addr) (cl : List (Str × Addr)) (fp : List Addr), KE (X.blk s H scope (compEnvC scope cl C X.env) fp) elt te) (hs : ∀ x, foldedSetIterable iter X.env x = pure x)
    (h : tLc wi g tt te (own.map (·.2)) σ H Q)
    (hu : ∀ D C s2 m H2, Inv X pins σ H2 s2 → s2.heap.Ns C m → FpOk X pins H2 C → s2.gens = s.gens → compPost (MX X) X.A Fl use (fun _ s3 => s3.gens = s.gens) (.ref D) C (.ok .next) s2) :
    Kp (MX X) X.A (comprehension (.ListComp elt [⟨tg, iter, ifs, 0⟩] scope pos) scope X.env pos' (newList []) false (eval iter X.env) use) s := by
  have hfree : ∀ y ∈ scope.names, y.2 = .free → ∃ c, X.env.cells.lookup y.1 = some c := fun y hy e => by
    rcases ok.free y hy e with k | k
    · exact I.ok.has _ (.inl k)
    · exact I.ok.has _ (.inr k)
  refine wpAny_comprehension_free (use := use) rfl hs (closure_ok hfree) ok.kind (fun y hy e => by rw [ok.uniq y hy, e]) (wpAny_mono (hi.run pins s σ H _ I h) (fun xv s1 h1 => wpAny_mono h1 (fun itv s2 h2 => ?_) fun _ _ z => z) fun _ _ z => z)
  obtain ⟨⟨it, fp, tn, J, H2, rfl, I2, T, st2, f2, q⟩, g2⟩ := h2
  refine wpAny_newObj_type (newEnv_comp ?_) (by show 0 ≤ sizeLine; decide)
  generalize hD : s2.heap.objs.size = D
  have hDn : H2 D = none := I2.hok.fresh (Nat.le_of_eq hD)
  obtain ⟨W, ⟨m0, w0⟩, turn⟩ := q D hDn
  generalize hs3 : ({ s2 with heap := s2.heap.push { cls := .type "list", data := .seq ([] : List Value).toArray } } : Shared) = s3
  have g3 : s3.gens = s.gens := by rw [← hs3]; exact g2
  have I3 : Inv X pins σ (upd H2 D (.lst [])) s3 := by
    rw [← hs3]
    refine I2.laid (t' := s2.toks) (fun b o e => Heap.get?_push_of_some _ e) (Nat.le_of_eq hD) ⟨Nat.zero_le _, [], 0, .nil, ?_⟩
    rw [← hD]
    exact Heap.get?_push_size _ rfl
  have h3 : s3.heap = s2.heap.push { cls := .type "list", data := .seq ([] : List Value).toArray } := by rw [← hs3]
  have f3 : ∀ b ∈ fp, FpOk X pins (upd H2 D (.lst [])) b ∧ b < s3.heap.objs.size := fun b hb => by
    obtain ⟨o, e, _⟩ := T.t.obj _ _ st2 b hb
    have hlt := Heap.lt_size e
    refine ⟨⟨?_, (f2 b hb).2⟩, by rw [h3, Heap.size_push]; exact Nat.lt_succ_of_lt hlt⟩
    rw [upd_ne (by rw [← hD]; exact Nat.ne_of_lt hlt)]
    exact (f2 b hb).1
  have st3 : tn 0 s3.heap := T.t.keep _ _ _ st2 fun b _ o e => by rw [h3]; exact Heap.get?_push_of_some _ e
  have I4 := block_start I3 ok hN f3
  have kg := hg s3 (upd H2 D (.lst [])) s3.heap.objs.size (cellsFrom (s3.heap.objs.size + 1) scope.names (cloFrom X.env.cells scope.names [])) fp
  have kt := ht s3 (upd H2 D (.lst [])) s3.heap.objs.size (cellsFrom (s3.heap.objs.size + 1) scope.names (cloFrom X.env.cells scope.names [])) fp
  have ke := he s3 (upd H2 D (.lst [])) s3.heap.objs.size (cellsFrom (s3.heap.objs.size + 1) scope.names (cloFrom X.env.cells scope.names [])) fp
  show codeAny _ _ (.compStart (.ListComp elt [⟨tg, iter, ifs, 0⟩] scope pos) 0 (.ref it) (.ref D) (compEnvC scope (cellsFrom (s3.heap.objs.size + 1) scope.names (cloFrom X.env.cells scope.names [])) s3.heap.objs.size X.env)) (compPost (MX X) X.A Fl use (fun _ s5 => s5.gens = s.gens) (.ref D) s3.heap.objs.size) { s3 with heap := pushCells (s3.heap.push { cls := .type "dict", data := .dict #[] }) scope.names }
  have nfp : ∀ b ∈ fp, (upd H2 D (.lst [])) b = none := fun b hb => (f3 b hb).1.1
  generalize hce : compEnvC scope (cellsFrom (s3.heap.objs.size + 1) scope.names (cloFrom X.env.cells scope.names [])) s3.heap.objs.size X.env = ce at I4 kg kt ke ⊢
  have cL : ce.locals = s3.heap.objs.size := by subst hce; rfl
  generalize hH3 : upd H2 D (.lst []) = H3 at I3 I4 kg kt ke w0 nfp f3
  generalize hs4 : ({ s3 with heap := pushCells (s3.heap.push { cls := .type "dict", data := .dict #[] }) scope.names } : Shared) = s4 at I4 ⊢
  have g4 : s4.gens = s.gens := by rw [← hs4]; exact g3
  have st4 : tn 0 s4.heap := T.t.keep _ _ _ st3 fun b _ o e => by rw [← hs4]; exact pushCells_keeps _ _ _ _ (Heap.get?_push_of_some _ e)
  have stat : ∀ {σ' : L2.St} {H' : Hp} {s' : Shared}, Inv (X.blk s3 H3 scope ce fp) [] σ' H' s' → (∀ b ∈ fp, H' b = none) → ∀ b ∈ fp, FpOk (X.blk s3 H3 scope ce fp) [] H' b := fun {σ' H' s'} I' hn b hb =>
    ⟨hn b hb, (I'.ok.exf b hb).1, I'.ok.exfs b hb, .inl hb, fun x c e => (I'.ok.exf b hb).2 x c e, fun p hp => nomatch (show p ∈ ([] : List (Addr × Obj)) from hp)⟩
  have loop : codeAny (MX X) X.A (.compLoop (.ListComp elt [⟨tg, iter, ifs, 0⟩] scope pos) 0 (.ref it) (.ref D) ce) (compPost (MX X) X.A Fl use (fun _ s5 => s5.gens = s.gens) (.ref D) s3.heap.objs.size) s4 := by
    refine compLoop_any (fun n s' => s'.gens = s.gens ∧ ∃ i H', Inv (X.blk s3 H3 scope ce fp) [] (wipe σ (own.map (·.2))) H' s' ∧ tn i s'.heap ∧ (∀ b ∈ fp, H' b = none) ∧ W i n H') ?_ m0 ⟨g4, 0, H3, I4, st4, nfp, w0⟩
    rintro n s5 ⟨g5, i, H5, I5, st5, n5, w5⟩
    rcases turn i n H5 w5 with ⟨stop, _⟩ | ⟨go, Nx, hNx, step⟩
    · refine thnF (KTn.fin (X := X.blk s3 H3 scope ce fp) T hc I5 (stat I5 n5) st5 stop) fun r s6 ⟨⟨hr, I6⟩, g6⟩ => ?_
      subst hr
      have I7 : Inv X pins σ H5 s6 := I3.call' (ch := fp) I6.os I6.base I6.hok I6.bare fun b hb => ⟨(f3 b hb).1.2.2.2.1, (f3 b hb).1.2.1, (f3 b hb).1.2.2.2.2.1, (f3 b hb).1.2.2.2.2.2⟩
      have nC : H5 s3.heap.objs.size = none := by
        have z : H5 ce.locals = none := I6.free
        rwa [cL] at z
      obtain ⟨m, hn, _⟩ := I6.loc
      have hn : s6.heap.Ns ce.locals m := hn
      rw [cL] at hn
      exact hu D s3.heap.objs.size s6 m H5 I7 hn (I3.fpOk (Nat.le_refl _) nC) (g6.trans g5)
    · refine thnF (KTn.both (X := X.blk s3 H3 scope ce fp) T hc I5 (stat I5 n5) st5 go) fun r s6 ⟨g6, u, hr, h6⟩ => ?_
      subst hr
      refine thnF h6 fun _ s7 ⟨⟨x, H7, I7, r7, y7, st7, n7⟩, g7⟩ => ?_
      have I7' := I7.pinned (stat I7 n7) (T.t.obj _ _ st7)
      refine thnF (kg.run I7' r7 (step x H7 y7)) fun _ s8 ⟨⟨σ8, H8, I8, hw8, q8⟩, g8⟩ => ?_
      refine thnF (wpAny_mono (both (kt.p.run _ s8 σ8 H8 _ I8 q8) (kt.k _ s8 σ8 H8 _ I8 q8)) (fun _ _ z => z) fun _ _ z => z.2) fun b s9 ⟨⟨H9, I9, q9⟩, g9⟩ => ?_
      have ga := g9.trans (g8.trans (g7.trans (g6.trans g5)))
      have fin : ∀ {s' : Shared} {H' : Hp}, s'.gens = s.gens → Inv (X.blk s3 H3 scope ce fp) ([] ++ pinsAt fp s7.heap) σ8 H' s' → Nx H' → ∃ m, m < n ∧ s'.gens = s.gens ∧ ∃ i H', Inv (X.blk s3 H3 scope ce fp) [] (wipe σ (own.map (·.2))) H' s' ∧ tn i s'.heap ∧ (∀ b ∈ fp, H' b = none) ∧ W i m H' := fun {s' H'} gs I' nx => by
        obtain ⟨m', hm, w'⟩ := hNx H' nx
        have pin' : ∀ b ∈ fp, ∀ o, s7.heap.get? b = some o → s'.heap.get? b = some o ∧ H' b = none := fun b hb o e =>
          let z := I'.pin (b, o) (List.mem_append_right _ (List.mem_append_right _ (mem_pinsAt hb e)))
          ⟨z.1, z.2.1⟩
        have hl : (wipe σ (own.map (·.2))).length = σ8.length := by rw [← hw8, wipe_length]
        refine ⟨m', hm, gs, i + 1, H', (I'.unpinned (pins := [])).weak hl (fun j v e => ?_), T.t.keep _ _ _ st7 fun b hb o e => (pin' b hb o e).1, fun b hb => ?_, w'⟩
        · rw [← hw8] at e
          exact (wipe_some e).1
        · obtain ⟨o, e, _⟩ := T.t.obj _ _ st7 b hb
          exact (pin' b hb o e).2
      cases b with
      | false =>
        simp only [Bool.false_eq_true, if_false] at q9 ⊢
        exact fin ga I9 q9
      | true =>
        simp only [if_true] at q9 ⊢
        refine thnF (ke.run I9 q9) fun z s10 ⟨⟨yv, H10, I10, r10, acc, hD10, hz10, nx⟩, g10⟩ => ?_
        have ap : wpAny (MX X) X.A (call (.builtin "list.append") [.ref D, z]) (fun v s11 => v = Value.none ∧ Inv (X.blk s3 H3 scope ce fp) ([] ++ pinsAt fp s7.heap) σ8 (upd H10 D (.lst (acc ++ [yv]))) s11) Fl s10 := app_ok (X := X.blk s3 H3 scope ce fp) I10 hD10 hz10 r10 fun s11 I11 => ⟨rfl, I11⟩
        exact thnF (two ap (add_item (X := X.blk s3 H3 scope ce fp) I10 hD10 hz10)) fun _ s11 ⟨⟨_, I11⟩, g11⟩ => fin (g11.trans (g10.trans ga)) I11 nx
  exact codeAny_compStart_list loop (T.t.self X.A 0 _ _ _ st4 loop)
theorem pe_lc {elt tg iter : Expr} {ifs : List Expr} {scope : Scope} {own : List (Str × Nat)} {pos : Pos} {wi : TI} {g : TG} {tt : TT} {te : TE} (hc : X.calm = true) (hN : X.N.Nodup) (hi : KI X tg iter wi) (ok : BlkOk X.N X.env.scope scope own)
    (hg : ∀ (s : Shared) (H : Hp) (C : Addr) (cl : List (Str × Addr)) (fp : List Addr), KGt (X.blk s H scope (compEnvC scope cl C X.env) fp) tg g) (ht : ∀ (s : Shared) (H : Hp) (C : Addr) (cl : List (Str × Addr)) (fp : List Addr), KTs (X.blk s H scope (compEnvC scope cl C X.env) fp) ifs tt)
    (he : ∀ (s : Shared) (H : Hp) (C : Addr) (cl : List (Str × Addr)) (fp : List Addr), KE (X.blk s H scope (compEnvC scope cl C X.env) fp) elt te) (hs : ∀ x, foldedSetIterable iter X.env x = pure x := by intro _; rfl) :
    KE X (.ListComp elt [⟨tg, iter, ifs, 0⟩] scope pos) (tLc wi g tt te (own.map (·.2))) := by
  refine ⟨L2.pe_lc hc hN hi.p ok (fun s H C cl fp => (hg s H C cl fp).p) (fun s H C cl fp => (ht s H C cl fp).p) (fun s H C cl fp => (he s H C cl fp).p) hs, fun pins s σ H Q I h => ?_⟩
  rw [eval_ListComp]
  exact lc_keeps hc hN I hi ok hg ht he hs h fun D C s2 m H2 _ hn _ g2 => ⟨m, hn, fun _ _ => g2⟩
theorem ps_setLc {i : Nat} {y : Str} {py : Pos} {elt tg iter : Expr} {ifs : List Expr} {scope : Scope} {own : List (Str × Nat)} {pos spos : Pos} {wi : TI} {g : TG} {tt : TT} {te : TE} (hc : X.calm = true) (hN : X.N.Nodup) (hy : X.N[i]? = some y) (hyl : X.env.scope.names.lookup y = some .local)
    (hsw : swapsWith (.ListComp elt [⟨tg, iter, ifs, 0⟩] scope pos) (some (.Name y py)) spos.line X.env = pure true) (hi : KI X tg iter wi) (ok : BlkOk X.N X.env.scope scope own)
    (hg : ∀ (s : Shared) (H : Hp) (C : Addr) (cl : List (Str × Addr)) (fp : List Addr), KGt (X.blk s H scope (compEnvC scope cl C X.env) fp) tg g) (ht : ∀ (s : Shared) (H : Hp) (C : Addr) (cl : List (Str × Addr)) (fp : List Addr), KTs (X.blk s H scope (compEnvC scope cl C X.env) fp) ifs tt)
    (he : ∀ (s : Shared) (H : Hp) (C : Addr) (cl : List (Str × Addr)) (fp : List Addr), KE (X.blk s H scope (compEnvC scope cl C X.env) fp) elt te) (hs : ∀ x, foldedSetIterable iter X.env x = pure x := by intro _; rfl) :
    KS X (.Assign [.Name y py] (.ListComp elt [⟨tg, iter, ifs, 0⟩] scope pos) spos) (tAsg (tLc wi g tt te (own.map (·.2))) (gName i)) := by
  refine ⟨L2.ps_setLc hc hN hy hyl hsw hi.p ok (fun s H C cl fp => (hg s H C cl fp).p) (fun s H C cl fp => (ht s H C cl fp).p) (fun s H C cl fp => (he s H C cl fp).p) hs, fun pins s σ H D I h => ?_⟩
  rw [exec_Assign_Name_used _ _ _ _ hsw]
  refine wpAny_bind (wpAny_standAt (wpAny_bind ?_))
  show wpAny _ X.A (do let _ ← comprehension (.ListComp elt [⟨tg, iter, ifs, 0⟩] scope pos) scope X.env (firstIterPos [⟨tg, iter, ifs, 0⟩] pos) (newList []) false (eval iter X.env) (some (assign (.Name y py) X.env))) _ _ s
  have h : tLc wi g tt te (own.map (·.2)) σ H (fun x H1 => gName i x σ H1 D.nx) := h
  refine wpAny_bind (wpAny_mono (lc_keeps hc hN I hi ok hg ht he hs h fun L C s2 m H2 I2 hn f g2 => ?_) (fun _ s2 g => wpAny_pure (wpAny_pure g)) fun _ _ z => z)
  show wpAny _ _ (assign (.Name y py) X.env (.ref L)) _ _ _
  obtain ⟨f0, f1, f2, f3, f4, f5⟩ := f
  have sto : wpAny (MX X) X.A (storeName X.env y (.ref L)) (fun _ s3 => (Inv X pins (σ.set i (some (.ref L))) H2 s3 ∧ ∃ a, Heap.SameBut a s2.heap s3.heap ∧ (a = X.env.locals ∨ X.env.cells.lookup y = some a)) ∧ s3.gens = s2.gens) Fl s2 :=
    two (E := Fl) (store_ok2 (v := V.ref L) I2 hN hy (.inl hyl) rfl (fun s3 I3 w => ⟨I3, w⟩) (.inr hyl)) (stored I2 (.inl hyl))
  refine wpAny_assign_Name (wpAny_mono sto (fun _ s3 z => ?_) fun _ _ z => z)
  obtain ⟨⟨I3, a, sb, ha⟩, g3⟩ := z
  have haC : C ≠ a := by
    rcases ha with z | z
    · rw [z]; exact f1
    · exact fun e => f4 y a z e.symm
  exact ⟨m, hn.sameBut sb haC, fun _ _ => g3.trans g2⟩
end
end KG
/-! ### the program's own defs leave the generators alone (genk.py) -/
namespace CC
open PySem L2
section
variable {P : Program} {w : World} {K : PySem.W.Frag} {mg : Str → Option Value} {base : Heap} {kA : Addr}
theorem kk_down {f : Addr} {fd : FuncData} {k : Nat} (F : Fun K "steps_down" "steps_down" sDown f fd) : KG.FnK P w K mg base (k + 1) f fd ["rules"] (spDown K) := by
  refine KG.fun_ok F scDown (fun vs H Q E h => ?_) (fun cdv A outer s H vs Q E hr h => ?_)
  · obtain ⟨g, us, rs, rfl, _⟩ := h
    rfl
  · obtain ⟨g, us, rs, rfl, hg, dp, hl, q⟩ := h
    have n := scDown.nd
    refine ⟨_, KG.pss_one (KG.ps_ret (KG.pe_lc (own := [("kind", 1), ("a", 2), ("b", 3)]) (g := g3 K 1 2 3) (tt := tYes) rfl n (KG.pi_tup (KG.pv 0)) (blkOk_by (N := nDn) (sc := defScope sDown) (by decide +kernel))
      (fun _ _ _ _ _ => KG.pg_tup rfl (KG.pgs_cons (KG.pg_name (i := 1) n rfl (.inl rfl)) (KG.pgs_cons (KG.pg_name (i := 2) n rfl (.inl rfl)) (KG.pgs_cons (KG.pg_name (i := 3) n rfl (.inl rfl)) KG.pgs_nil)))) (fun _ _ _ _ _ => KG.pts_nil)
      (fun _ _ _ _ _ => KG.pe_ifExp (KG.pt_cmpR KG.op_eq (KG.pv 1) KG.pe_str (nomark _)) (KG.pe_tup (KG.pa_cons (KG.pv 2) (KG.pa_cons (KG.pv 3) KG.pa_nil))) (KG.pe_tup (KG.pa_cons (KG.pv 3) (KG.pa_cons (KG.pv 2) KG.pa_nil)))))), ?_⟩
    have ul : us.length = rs.length := by rw [dps_len dp, List.length_map]
    refine ⟨_, rfl, g, rfl, ⟨_, hg⟩, fun D nD => ?_⟩
    refine lc_tup (xs := us) (fun i H1 => MadeF prd K H D i H1 ((rs.take i).map down)) MadeF.start (fun i H1 _ z => same_t (z.old nD) hg) ?_ ?_
    · intro i v H1 hv p
      obtain ⟨r, hr2, dr⟩ := dps_rat dp hv
      have il : i < rs.length := (List.getElem?_eq_some_iff.mp hr2).1
      obtain ⟨t, rfl, ht⟩ := dp_r (dp_same (p.old nD) _ _ dr)
      refine ⟨t, _, rfl, ht, rfl, _, _, rfl, _, _, rfl, _, _, rfl, rfl, rfl, yes_if ?_⟩
      refine ⟨_, rfl, rfl, _, rfl, ?_⟩
      rw [SG.take_one hr2, List.map_append]
      rw [show decide (V.str (kd r.k) = V.str (Str.ofString "settles")) = r.k from kd_eq r.k]
      cases hk : r.k with
      | true =>
        refine iteT ⟨_, rfl, _, rfl, (by show 2 ≤ sizeLine; decide), fun t2 n2 => ?_⟩
        refine p.push (r := down r) (by omega) (Nat.lt_succ_self _) (same_new n2) (p_dp ?_)
        have e : down r = (r.a, r.b) := by unfold down; rw [hk]; rfl
        rw [e]
        exact p.tup n2
      | false =>
        refine iteF ⟨_, rfl, _, rfl, (by show 2 ≤ sizeLine; decide), fun t2 n2 => ?_⟩
        refine p.push (r := down r) (by omega) (Nat.lt_succ_self _) (same_new n2) (p_dp ?_)
        have e : down r = (r.b, r.a) := by unfold down; rw [hk]; rfl
        rw [e]
        exact p.tup n2
    · intro H1 p
      rw [ul, List.take_length] at p
      exact p.out nD (Same.refl _) q
theorem kk_fw {f : Addr} {fd : FuncData} {k : Nat} (F : Fun K "first_ways" "first_ways" sFw f fd) (T : Glb K mg kA) : KG.FnK P w K mg base (k + 1) f fd ["pairs", "start"] (spFw K) := by
  refine KG.fun_ok F scFw (fun vs H Q E h => ?_) (fun cdv A outer s H vs Q E hr h => ?_)
  · obtain ⟨a, us, ps, st, rfl, _⟩ := h
    rfl
  · obtain ⟨a, us, ps, st, rfl, ha, dp, hps, hst, hpl, q⟩ := h
    have n := scFw.nd
    have hu := hu_of hr
    refine ⟨_, KG.pss_cons (KG.ps_set (i := 2) n rfl (.inl rfl) (KG.pe_disp (KG.pps_cons (KG.pv 1) (KG.pe_tup (KG.pa_cons (KG.pv 1) KG.pa_nil)) KG.pps_nil) (by rfl) (by rfl) (fun z => by cases z) (by decide)))
      (KG.pss_cons (KG.ps_set (i := 3) n rfl (.inl rfl) (KG.pe_lst (KG.pa_cons (KG.pv 1) KG.pa_nil)))
      (KG.pss_cons (KG.ps_while PassesOwn.never (KG.pt_truth (KG.pv 3) (by intro _; rfl))
        (KG.pss_cons (KG.ps_set (i := 4) n rfl (.inr rfl) (KG.pe_bm PySem.F.plainAttrs_list PySem.F.slot_list_pop PySem.F.type_list_pop KG.mt_popAt (KG.pv 3) (KG.pa_cons KG.pe_int KG.pa_nil)))
        (KG.pss_one (KG.ps_for PassesOwn.never rfl (KG.pi_list (KG.pe_callB KG.cr_sortedI (by rfl) T.srt (by decide +kernel) (KG.pa_cons (KG.pe_lc (own := [("first", 6), ("second", 7)]) (g := g2 K 6 7) (tt := tTest (tOp KG.rEq (tVar 6) (tVar 4))) rfl n (KG.pi_list (KG.pv 0)) (blkOk_by (N := nFw) (sc := defScope sFw) (by decide +kernel))
            (fun _ _ _ _ _ => KG.pg_tup rfl (KG.pgs_cons (KG.pg_name (i := 6) n rfl (.inl rfl)) (KG.pgs_cons (KG.pg_name (i := 7) n rfl (.inl rfl)) KG.pgs_nil)))
            (fun _ _ _ _ _ => KG.pts_one (KG.pt_cmpR KG.op_eq (KG.pv 6) (KG.pv 4) (nomark _))) (fun _ _ _ _ _ => KG.pv 7)) KG.pa_nil))) (KG.pg_name (i := 5) n rfl (.inl rfl))
          (KG.pss_one (KG.ps_if (KG.pt_cmp (KG.pc_dnotin hu (KG.pv 5) (KG.pv 2)))
            (KG.pss_cons (KG.ps_dput hu (KG.pv 2) (KG.pv 5) (KG.pe_tup (KG.pa_star (KG.pe_dget hu (KG.pv 2) (KG.pv 4) (fun _ _ => rfl)) (KG.pa_cons (KG.pv 5) KG.pa_nil))) rfl)
            (KG.pss_one (KG.ps_expr (KG.pe_bm PySem.F.plainAttrs_list PySem.F.slot_list_append PySem.F.type_list_append KG.mt_append (KG.pv 3) (KG.pa_cons (KG.pv 5) KG.pa_nil))))) KG.pss_nil))))))
      (KG.pss_one (KG.ps_ret (KG.pv 2))))), ?_⟩
    have ul : us.length = ps.length := by rw [dps_len dp, List.length_map]
    have un : ∀ {t : Addr} {xs ys : List V} {H1 : Hp} {b : Addr}, H1 t = some (.tup xs) → H1 b = some (.lst ys) → t ≠ b := fun h1 h2 => ne_of h1 h2 (by intro z; cases z)
    have ud : ∀ {t : Addr} {xs : List V} {kvs : List (Key × V)} {H1 : Hp} {b : Addr}, H1 t = some (.tup xs) → H1 b = some (.dK kvs) → t ≠ b := fun h1 h2 => ne_of h1 h2 (by intro z; cases z)
    -- ways = {start: (start,)}
    intro D nD
    refine ⟨_, rfl, _, rfl, (by show 1 ≤ sizeLine; decide), fun t0 nt0 => ?_⟩
    have t0D : t0 ≠ D := fun e => by rw [e, upd_same] at nt0; cases nt0
    refine ⟨by rw [upd_ne t0D.symm]; exact upd_same, [(Sum.inl (st : Int), .ref t0)], rfl, (by show 1 ≤ 15; decide), ?_⟩
    have hD0 : (upd (upd (upd H D (.dK [])) t0 (.tup [.int (st : Int)])) D (.dK (mergeK [] [(Sum.inl (st : Int), .ref t0)]))) D = some (.dK [(Sum.inl (st : Int), .ref t0)]) := upd_same
    have ht0 : (upd (upd (upd H D (.dK [])) t0 (.tup [.int (st : Int)])) D (.dK (mergeK [] [(Sum.inl (st : Int), .ref t0)]))) t0 = some (.tup (nms [st])) := by
      rw [upd_ne t0D, upd_same]
      rfl
    have s0 : Same H (upd (upd (upd H D (.dK [])) t0 (.tup [.int (st : Int)])) D (.dK (mergeK [] [(Sum.inl (st : Int), .ref t0)]))) := same_mut ((same_new nD).trans (same_new nt0)) nD
    generalize upd (upd (upd H D (.dK [])) t0 (.tup [.int (st : Int)])) D (.dK (mergeK [] [(Sum.inl (st : Int), .ref t0)])) = H0 at hD0 ht0 s0
    refine ⟨_, rfl, (by show 1 ≤ sizeLine; decide), fun wt nwt => ?_⟩
    have wD : wt ≠ D := (ne_of_none hD0 nwt).symm
    have nwt0 : H wt = none := s0.free nwt
    -- the while
    refine ⟨fun m σ H1 => ∃ (kvs : List (Key × V)) (ws : List (Nat × List Nat)) (j : Nat) (y4 y5 y6 y7 : Option V), σ = [some (.ref a), some (.int (st : Int)), some (.ref D), some (.ref wt), y4, y5, y6, y7] ∧ Same H H1 ∧ H1 D = some (.dK kvs) ∧ Ents H1 kvs ws ∧ H1 wt = some (.lst (nms ((ws.drop j).map (·.1)))) ∧ BI ps st ws j ∧ m = 6 - j,
      ⟨_, [(Sum.inl (st : Int), .ref t0)], [(st, [st])], 0, none, none, none, none, rfl, s0.trans (same_new nwt), same_new nwt _ _ hD0, ⟨rfl, ⟨t0, rfl, same_new nwt _ _ ht0⟩, trivial⟩, upd_same, BI.start hst, rfl⟩, ?_⟩
    rintro m σ H1 ⟨kvs, ws, j, y4, y5, y6, y7, rfl, s1, hD, en, hw, inv, rfl⟩
    refine ⟨_, rfl, _, .inl ⟨_, SqL.of hw, rfl⟩, ?_⟩
    by_cases jl : j < ws.length
    · obtain ⟨⟨c, cw⟩, hc⟩ : ∃ e, ws[j]? = some e := ⟨_, List.getElem?_eq_getElem jl⟩
      have dr : ws.drop j = (c, cw) :: ws.drop (j + 1) := by
        rw [List.drop_eq_getElem_cons jl]
        congr 1
        exact (List.getElem?_eq_some_iff.mp hc).2
      have w6 := few6' inv.nd inv.lt
      have ne : (!(nms ((ws.drop j).map (·.1))).isEmpty) = true := by
        rw [dr]
        rfl
      rw [ne]
      refine iteT ⟨fun σ' H' => ∃ (kvs : List (Key × V)) (ws' : List (Nat × List Nat)) (y4 y5 y6 y7 : Option V), σ' = [some (.ref a), some (.int (st : Int)), some (.ref D), some (.ref wt), y4, y5, y6, y7] ∧ Same H H' ∧ H' D = some (.dK kvs) ∧ Ents H' kvs ws' ∧ H' wt = some (.lst (nms ((ws'.drop (j + 1)).map (·.1)))) ∧ BI ps st ws' (j + 1), ?_, ?_⟩
      · rintro σ' H' ⟨kvs, ws', y4, y5, y6, y7, rfl, g1, g2, g3, g4, g5⟩
        exact ⟨6 - (j + 1), by omega, kvs, ws', j + 1, y4, y5, y6, y7, rfl, g1, g2, g3, g4, g5, rfl⟩
      -- column = waiting.pop(0)
      refine ⟨_, rfl, .inl ⟨rfl, _, SqL.of hw⟩, wt, _, 0, 0, .int (c : Int), rfl, rfl, hw, by decide, by decide, ?_, ?_, ?_⟩
      · rw [dr]
        simp [seqIndex?, nms]
      · rw [dr]
        rfl
      have e1 : (nms ((ws.drop j).map (·.1))).eraseIdx 0 = nms ((ws.drop (j + 1)).map (·.1)) := by
        rw [dr]
        rfl
      rw [e1]
      have s2 : Same H (upd H1 wt (.lst (nms ((ws.drop (j + 1)).map (·.1))))) := same_mut s1 nwt0
      have h2D : (upd H1 wt (.lst (nms ((ws.drop (j + 1)).map (·.1))))) D = some (.dK kvs) := by rw [upd_ne wD.symm]; exact hD
      have h2w : (upd H1 wt (.lst (nms ((ws.drop (j + 1)).map (·.1))))) wt = some (.lst (nms ((ws.drop (j + 1)).map (·.1)))) := upd_same
      have en2 : Ents (upd H1 wt (.lst (nms ((ws.drop (j + 1)).map (·.1))))) kvs ws := en.mono fun t xs h => by rw [upd_ne (un h hw)]; exact h
      generalize upd H1 wt (.lst (nms ((ws.drop (j + 1)).map (·.1)))) = H2 at s2 h2D h2w en2
      -- the columns behind it
      refine ⟨_, rfl, a, rfl, ⟨_, same_l s2 ha⟩, fun L nL => ?_⟩
      refine lc_list (xs := us) (fun i H3 => Same H2 (wo H3 L) ∧ H3 L = some (.lst (nms (bsF (ps.take i) c)))) ⟨?_, upd_same⟩ (fun i H3 _ z => same_l (s2.trans (z.1.trans (wo_le L))) ha) ?_ ?_
      · rw [wo_upd]
        exact fun b o e => by rw [wo_ne (ne_of_none e nL)]; exact e
      · rintro i v H3 hv ⟨q1, q2⟩
        obtain ⟨⟨x, y⟩, hxy, dv⟩ := dps_pat dp hv
        have il : i < ps.length := (List.getElem?_eq_some_iff.mp hxy).1
        obtain ⟨t, rfl, ht⟩ := dp_p (dp_same (s2.trans (q1.trans (wo_le L))) _ _ dv)
        refine ⟨t, _, rfl, ht, rfl, _, _, rfl, _, _, rfl, rfl, rfl, ?_⟩
        refine ⟨_, rfl, _, rfl, rfl, _, rfl, ?_⟩
        rw [bsF_step hxy]
        by_cases e : x = c
        · subst e
          rw [show decide (V.int (x : Int) = V.int (x : Int)) = true from decide_eq_true rfl, if_pos (show x = x from rfl)]
          have bl := bsF_len (ps.take i) x
          rw [List.length_take] at bl
          have big : (nms (bsF (ps.take i) x)).length < sizeLine := Nat.lt_of_lt_of_le (show (nms (bsF (ps.take i) x)).length < 100000 by rw [nms_len]; omega) (by decide)
          refine iteT ?_
          refine ⟨_, rfl, _, q2, big, ?_, ?_⟩
          · rw [wo_upd]
            exact q1
          · rw [upd_same, nms_app]
            rfl
        · rw [show decide (V.int (x : Int) = V.int (c : Int)) = false from decide_eq_false (fun z => e (by injection z with z; omega)), if_neg e, List.append_nil]
          exact iteF ⟨q1, q2⟩
      rintro H3 ⟨q1, q2⟩
      rw [ul, List.take_length] at q2
      have s23 : Same H2 H3 := q1.trans (wo_le L)
      rw [nms_ints] at q2
      refine ⟨L, _, rfl, SqL.of q2, fun ns' p2 pm st2 n2 => ?_⟩
      obtain ⟨bs, rfl, pm2⟩ := nats_of pm
      rw [← nms_ints]
      have bsl : bs.Pairwise (· ≤ ·) := by
        rw [List.pairwise_map] at st2
        exact st2.imp fun h => by omega
      have hbs : ∀ b, b ∈ bs ↔ (c, b) ∈ ps := fun b => by
        rw [pm2.mem_iff]
        exact mem_take_bs
      have s24 : Same H2 (upd H3 p2 (.lst (nms bs))) := s23.trans (same_new n2)
      have h4p : (upd H3 p2 (.lst (nms bs))) p2 = some (.lst (nms bs)) := upd_same
      have n2' : H2 p2 = none := s23.free n2
      generalize upd H3 p2 (.lst (nms bs)) = H4 at s24 h4p
      have pD : p2 ≠ D := (ne_of_none h2D n2').symm
      have pw : p2 ≠ wt := (ne_of_none h2w n2').symm
      refine ⟨p2, rfl, ⟨_, SqL.of h4p⟩, ?_⟩
      have cm : (c, cw) ∈ ws := List.mem_of_getElem? hc
      refine for_list (xs := nms bs) (fun i σ' H' => ∃ (kvs : List (Key × V)) (nb : List Nat) (y5 y6 y7 : Option V), σ' = [some (.ref a), some (.int (st : Int)), some (.ref D), some (.ref wt), some (.int (c : Int)), y5, y6, y7] ∧ Same H H' ∧ H' p2 = some (.lst (nms bs)) ∧ H' D = some (.dK kvs) ∧ Ents H' kvs (ws ++ nws cw nb) ∧ H' wt = some (.lst (nms (((ws ++ nws cw nb).drop (j + 1)).map (·.1)))) ∧ TI ps ws c cw bs i nb)
        ⟨kvs, [], y5, y6, y7, rfl, s2.trans s24, h4p, s24 _ _ h2D, by rw [show nws cw [] = [] from rfl, List.append_nil]; exact en2.mono fun t xs h => s24 _ _ h, by rw [show nws cw [] = [] from rfl, List.append_nil]; exact s24 _ _ h2w, TI.start⟩
        (fun i σ' H' _ ⟨_, _, _, _, _, _, _, z, _⟩ => SqL.of z) ?_ ?_
      · rintro i v σ' H5 hv ⟨kvs, nb, y5, y6, y7, rfl, s5, g0, g1, g2, g3, ti⟩
        obtain ⟨b, hb, rfl⟩ : ∃ b, bs[i]? = some b ∧ v = .int (b : Int) := by
          rw [nms, List.getElem?_map] at hv
          cases z : bs[i]? with
          | none => rw [z] at hv; cases hv
          | some m => rw [z] at hv; exact ⟨m, rfl, (Option.some.inj hv).symm⟩
        have hbp : (c, b) ∈ ps := (hbs b).mp (List.mem_of_getElem? hb)
        have nbs : ∀ x ∈ nb, x < 6 := fun x hx => (hps _ ((hbs x).mp (List.mem_of_mem_take (ti.sub x hx)))).2
        have ndk : ((ws ++ nws cw nb).map (·.1)).Nodup := by
          rw [List.map_append, nws_keys]
          refine List.nodup_append.mpr ⟨inv.nd, ti.inc.imp (fun h => by omega), fun x hx y hy e => ?_⟩
          subst e
          exact ti.new x hy hx
        have lt6 : ∀ e ∈ ws ++ nws cw nb, e.1 < 6 := fun e he => by
          rcases List.mem_append.mp he with z | z
          · exact inv.lt e z
          · exact nbs _ (nws_mem.mp z).1
        have few := few6' ndk lt6
        have kl := g2.len
        refine ⟨_, rfl, _, rfl, D, _, rfl, DGet.k (k := Sum.inl (b : Int)) g1, _, rfl, ?_⟩
        by_cases hm : b ∈ (ws ++ nws cw nb).map (·.1)
        · obtain ⟨⟨b', u⟩, hu2, rfl⟩ := List.mem_map.mp hm
          obtain ⟨t, e3, _⟩ := g2.some ndk hu2
          rw [e3]
          exact iteF ⟨kvs, nb, _, _, _, rfl, s5, g0, g1, g2, g3, ti.old hb hm⟩
        · rw [g2.none hm]
          refine iteT ?_
          obtain ⟨t, e3, h3⟩ := g2.some ndk (List.mem_append_left _ cm)
          have gc := DGet.k (k := Sum.inl (c : Int)) g1
          rw [e3] at gc
          refine ⟨_, rfl, _, rfl, D, _, rfl, gc, t, _, rfl, .inl (SqT.of h3), _, rfl, ?_, fun t5 nt5 => ?_⟩
          · have := inv.len j _ hc
            exact Nat.le_of_lt (small1000 (by rw [List.length_append, nms_len]; simp only [List.length_singleton] at this ⊢; omega))
          have t5D : t5 ≠ D := (ne_of_none g1 nt5).symm
          have t5w : t5 ≠ wt := (ne_of_none g3 nt5).symm
          have t5p : t5 ≠ p2 := (ne_of_none g0 nt5).symm
          have nt5' : H t5 = none := s5.free nt5
          refine ⟨_, rfl, _, rfl, D, _, rfl, DPut.k (k := Sum.inl (b : Int)) (by rw [upd_ne t5D.symm]; exact g1) (small1000 (by omega)), ?_⟩
          rw [putK_new _ (g2.none hm)]
          have g3' : (upd (upd H5 t5 (.tup (nms cw ++ [.int (b : Int)]))) D (.dK (kvs ++ [(Sum.inl (b : Int), .ref t5)]))) wt = some (.lst (nms (((ws ++ nws cw nb).drop (j + 1)).map (·.1)))) := by
            rw [upd_ne wD, upd_ne t5w.symm]
            exact g3
          refine ⟨_, rfl, .inl ⟨rfl, _, SqL.of g3'⟩, _, rfl, wt, _, _, rfl, rfl, g3', small1000 (by rw [nms_len, List.length_map, List.length_drop]; omega), ?_⟩
          have eq1 : ws ++ nws cw (nb ++ [b]) = (ws ++ nws cw nb) ++ [(b, cw ++ [b])] := by
            unfold nws
            rw [List.map_append, List.append_assoc]
            rfl
          refine ⟨kvs ++ [(Sum.inl (b : Int), .ref t5)], nb ++ [b], _, _, _, rfl, same_mut (same_mut (s5.trans (same_new nt5)) nD) nwt0, ?_, ?_, ?_, ?_, ti.add bsl hb hm⟩
          · rw [upd_ne pw, upd_ne pD, upd_ne t5p.symm]
            exact g0
          · rw [upd_ne wD.symm]
            exact upd_same
          · rw [eq1]
            refine Ents.app (g2.mono fun t xs h => ?_) ⟨rfl, ⟨t5, rfl, ?_⟩, trivial⟩
            · rw [upd_ne (un h g3), upd_ne (ud h g1), upd_ne (ne_of_none h nt5)]
              exact h
            · rw [upd_ne t5w, upd_ne t5D, upd_same, nms_app]
              rfl
          · have eq2 : (ws ++ nws cw (nb ++ [b])).drop (j + 1) = (ws ++ nws cw nb).drop (j + 1) ++ [(b, cw ++ [b])] := by
              rw [eq1]
              exact List.drop_append_of_le_length (by rw [List.length_append]; omega)
            rw [upd_same, eq2, List.map_append, nms_app]
            rfl
      · rintro σ' H5 ⟨kvs, nb, y5, y6, y7, rfl, s5, g0, g1, g2, g3, ti⟩
        rw [nms_len] at ti
        exact ⟨kvs, _, _, _, _, _, rfl, s5, g1, g2, g3, inv.turn hc hbs hps ti⟩
    · have e1 : (!(nms ((ws.drop j).map (·.1))).isEmpty) = false := by
        rw [List.drop_eq_nil_of_le (by omega)]
        rfl
      rw [e1]
      refine iteF ⟨_, rfl, q D kvs ws H1 s1 nD hD en (inv.out (by omega))⟩
theorem kk_reached {f : Addr} {fd : FuncData} {k : Nat} (F : Fun K "reached" "reached" sReached f fd) (T : Glb K mg kA) (cF : KG.KCal P w K mg base "first_ways" ["pairs", "start"] (spFw K) 1) : KG.FnK P w K mg base (k + 2) f fd ["pairs", "start"] (spReached K) := by
  have GF := cF.ok (k + 1) (by omega)
  refine KG.fun_ok F scReached (fun vs H Q E h => ?_) (fun cdv A outer s H vs Q E hr h => ?_)
  · obtain ⟨a, us, ps, st, rfl, _⟩ := h
    rfl
  · obtain ⟨a, us, ps, st, rfl, ha, dp, hps, hst, hpl, q⟩ := h
    refine ⟨_, KG.pss_one (KG.ps_ret (KG.pe_callB KG.cr_sortedI (by rfl) T.srt (by decide +kernel) (KG.pa_cons (KG.pe_callTy (KG.call_listD rfl) (by rfl) T.lst (by decide +kernel) (KG.pa_cons (KG.pe_call GF hr rfl cF.g cF.kp cF.b .nil (KG.pa_cons (KG.pv 0) (KG.pa_cons (KG.pv 1) KG.pa_nil))) KG.pa_nil)) KG.pa_nil))), ?_⟩
    refine ⟨_, rfl, _, rfl, a, us, ps, st, rfl, ha, dp, hps, hst, hpl, fun D kvs ws H1 s1 nD hD en fw => ?_⟩
    refine ⟨D, kvs, rfl, .inl hD, fun p np => ?_⟩
    rw [en.keys, nms_ints]
    have s2 : Same H1 (upd H1 p (.lst (((ws.map (·.1)).map fun (n : Nat) => (n : Int)).map V.int))) := same_new np
    have h2 : (upd H1 p (.lst (((ws.map (·.1)).map fun (n : Nat) => (n : Int)).map V.int))) p = some (.lst (((ws.map (·.1)).map fun (n : Nat) => (n : Int)).map V.int)) := upd_same
    generalize upd H1 p (.lst (((ws.map (·.1)).map fun (n : Nat) => (n : Int)).map V.int)) = H2 at s2 h2
    refine ⟨p, _, rfl, SqL.of h2, fun ns' p2 pm st2 n2 => ?_⟩
    obtain ⟨ms, rfl, pm2⟩ := nats_of pm
    rw [← nms_ints]
    refine q p2 ms _ ((s1.trans s2).trans (same_new n2)) ((s1.trans s2).free n2) upd_same (fun c => ?_) ?_
    · rw [pm2.mem_iff]
      exact fw.keys c
    · have nd : ms.Nodup := pm2.nodup_iff.mpr fw.nd
      have le : ms.Pairwise (· ≤ ·) := by
        rw [List.pairwise_map] at st2
        exact st2.imp fun h => by omega
      exact (le.and nd).imp fun h => by omega
theorem kk_links {f : Addr} {fd : FuncData} {k : Nat} (F : Fun K "links" "links" sLinks f fd) (T : Glb K mg kA) (cD : KG.KCal P w K mg base "steps_down" ["rules"] (spDown K) 1)
 (cR : KG.KCal P w K mg base "reached" ["pairs", "start"] (spReached K) 2) : KG.FnK P w K mg base (k + 3) f fd ["width", "rules", "kind"] (spLinks K) := by
  have GD := cD.ok (k + 2) (by omega)
  have GR := cR.ok (k + 2) (by omega)
  refine KG.fun_ok F scLinks (fun vs H Q E h => ?_) (fun cdv A outer s H vs Q E hr h => ?_)
  · obtain ⟨w, g, us, rs, k, rfl, _⟩ := h
    rfl
  · obtain ⟨w, g, us, rs, kk, rfl, hg, dp, ho, hw, hl, q⟩ := h
    have n := scLinks.nd
    refine ⟨_, KG.pss_cons (KG.ps_set (i := 3) n rfl (.inr rfl) (KG.pe_call GD hr rfl cD.g cD.kp cD.b .nil (KG.pa_cons (KG.pv 1) KG.pa_nil)))
      (KG.pss_cons (KG.ps_set (i := 4) n rfl (.inr rfl) (KG.pe_lc (own := [("column", 7)]) (g := gName 7) (tt := tYes) rfl n (KG.pi_range1 (by rfl) T.rng (KG.pa_cons (KG.pv 0) KG.pa_nil)) (blkOk_by (N := nLk) (sc := defScope sLinks) (by decide +kernel))
          (fun _ _ _ _ _ => KG.pg_name (i := 7) n rfl (.inl rfl)) (fun _ _ _ _ _ => KG.pts_nil) (fun _ _ _ _ _ => KG.pe_call GR hr rfl cR.g cR.kp cR.b .nil (KG.pa_cons (KG.pv 3) (KG.pa_cons (KG.pv 7) KG.pa_nil)))))
      (KG.pss_cons (KG.ps_setLc (i := 5) (own := [("word", 8), ("a", 9), ("b", 10)]) (g := g3 K 8 9 10) (tt := tTest (tOp KG.rEq (tVar 8) (tVar 2))) rfl n rfl rfl (sw_true rfl rfl rfl (by decide +kernel)) (KG.pi_tup (KG.pv 1)) (blkOk_by (N := nLk) (sc := defScope sLinks) (by decide +kernel))
          (fun _ _ _ _ _ => KG.pg_tup rfl (KG.pgs_cons (KG.pg_name (i := 8) n rfl (.inl rfl)) (KG.pgs_cons (KG.pg_name (i := 9) n rfl (.inl rfl)) (KG.pgs_cons (KG.pg_name (i := 10) n rfl (.inl rfl)) KG.pgs_nil))))
          (fun _ _ _ _ _ => KG.pts_one (KG.pt_cmpR KG.op_eq (KG.pv 8) (KG.pv 2) (nomark _))) (fun _ _ _ _ _ => KG.pe_tup (KG.pa_cons (KG.pv 9) (KG.pa_cons (KG.pv 10) KG.pa_nil))))
      (KG.pss_cons (KG.ps_setLc (i := 6) (own := [("a", 9), ("b", 10)]) (g := g2 K 9 10) (tt := tAnd (tTest (tOp (rIn K false) (tVar 9) (tOp (rIxL K) (tVar 4) (tVar 10)))) (tTest (tOp (rIn K false) (tVar 10) (tOp (rIxL K) (tVar 4) (tVar 9))))) rfl n rfl rfl (sw_true rfl rfl rfl (by decide +kernel)) (KG.pi_list (KG.pv 5)) (blkOk_by (N := nLk) (sc := defScope sLinks) (by decide +kernel))
          (fun _ _ _ _ _ => KG.pg_tup rfl (KG.pgs_cons (KG.pg_name (i := 9) n rfl (.inl rfl)) (KG.pgs_cons (KG.pg_name (i := 10) n rfl (.inl rfl)) KG.pgs_nil)))
          (fun _ _ _ _ _ => KG.pts_one (KG.KW.pt (KG.pw_and (KG.pt_cmpR KG.op_in_seq (KG.pv 9) (KG.pe_ix KG.ix_list (KG.pv 4) (KG.pv 10) (fun _ _ => rfl)) (by rfl)) (KG.pw_and1 (KG.pt_cmpR KG.op_in_seq (KG.pv 10) (KG.pe_ix KG.ix_list (KG.pv 4) (KG.pv 9) (fun _ _ => rfl)) (by rfl))))))
          (fun _ _ _ _ _ => KG.pe_tup (KG.pa_cons (KG.pv 10) (KG.pa_cons (KG.pv 9) KG.pa_nil))))
      (KG.pss_one (KG.ps_ret (KG.pe_op KG.op_cat (KG.pv 5) (KG.pv 6))))))), ?_⟩
    have ul : us.length = rs.length := by rw [dps_len dp, List.length_map]
    -- steps
    refine ⟨_, rfl, g, us, rs, rfl, hg, dp, hl, fun sa su H1 s1 nsa hsa dsa => ?_⟩
    have dsa1 : DpAll K H1 su ((rs.map down).map prd) := dps_same (wo_le sa) _ _ dsa
    have dlt := down_lt ho
    have dl6 : ∀ x ∈ rs.map down, x.1 < 6 ∧ x.2 < 6 := fun x hx => ⟨Nat.lt_of_lt_of_le (dlt x hx).1 hw, Nat.lt_of_lt_of_le (dlt x hx).2 hw⟩
    -- below
    refine ⟨_, rfl, _, rfl, by omega, by omega, fun B nB => ?_⟩
    refine lc_range (lo := 0) (n := ((w : Nat) : Int).toNat) (fun i H2 => ∃ fss : List (List Nat), MadeF lsd K H1 B i H2 fss ∧ fss.length = i ∧ ∀ c, c < i → ∀ x, x ∈ fss.getD c [] ↔ Rch (rs.map down) c x) ⟨[], MadeF.start, rfl, fun c hc => absurd hc (Nat.not_lt_zero _)⟩ ?_ ?_
    · rintro i H2 hi ⟨fss, p, fl, ff⟩
      have iw : i < w := by omega
      have o2 := p.old nB
      refine ⟨rfl, yes_if ?_⟩
      refine ⟨_, rfl, _, rfl, sa, su, rs.map down, i, by rw [Int.zero_add]; rfl, SqL.of (o2 _ _ hsa), dps_same o2 _ _ dsa1, dl6, by omega, by rw [List.length_map]; omega, fun pr fs H3 s3 npr hpr hfs _ => ?_⟩
      obtain ⟨us2, _, pB, _⟩ := id p
      have prB : pr ≠ B := (ne_of_none pB npr).symm
      obtain ⟨acc, a1, a2, a3⟩ := p.push (r := fs) (y := .ref pr) (m := i + 1) (by omega) (Nat.lt_succ_self _) s3 (.lst (.inl (.inl (by rw [wo_ne prB]; exact hpr))) (dps_nms fs))
      refine ⟨acc, a1, a2, fss ++ [fs], a3, by rw [List.length_append, fl]; rfl, fun c hc x => ?_⟩
      by_cases e : c < i
      · rw [getD_left (by omega)]
        exact ff c e x
      · have : c = i := by omega
        subst this
        rw [← fl, getD_last]
        rw [fl]
        exact hfs x
    rintro H2 ⟨fss, pB, fl, ff⟩
    have ew : ((w : Nat) : Int).toNat = w := by omega
    rw [ew] at fl ff pB
    have o2 := pB.old nB
    obtain ⟨bu, _, hB, dB, _⟩ := pB
    have dB2 : DpAll K H2 bu (fss.map lsd) := dps_same (wo_le B) _ _ dB
    have s2 : Same H H2 := s1.trans o2
    -- pairs
    refine ⟨_, rfl, g, rfl, ⟨_, same_t s2 hg⟩, fun D3 n3 => ?_⟩
    refine lc_tup (xs := us) (fun i H3 => MadeF prd K H2 D3 i H3 (pk (rs.take i) kk)) MadeF.start (fun i H3 _ z => same_t (s2.trans (z.old n3)) hg) ?_ ?_
    · intro i v H3 hv p
      obtain ⟨r, hr2, dr⟩ := dps_rat dp hv
      have il : i < rs.length := (List.getElem?_eq_some_iff.mp hr2).1
      obtain ⟨t, rfl, ht⟩ := dp_r (dp_same (s2.trans (p.old n3)) _ _ dr)
      refine ⟨t, _, rfl, ht, rfl, _, _, rfl, _, _, rfl, _, _, rfl, rfl, rfl, ?_⟩
      refine ⟨_, rfl, _, rfl, rfl, _, rfl, ?_⟩
      rw [show decide (V.str (kd r.k) = V.str (kd kk)) = decide (r.k = kk) from kd_ne _ _, pk_step hr2]
      by_cases e : r.k = kk
      · rw [decide_eq_true e, if_pos e]
        refine iteT ⟨_, rfl, _, rfl, (by show 2 ≤ sizeLine; decide), fun t2 n2 => ?_⟩
        exact p.push (r := (r.a, r.b)) (by omega) (Nat.lt_succ_self _) (same_new n2) (p_dp (p.tup n2))
      · rw [decide_eq_false e, if_neg e]
        exact iteF (p.up (by omega) (by simp))
    intro H3 p3
    rw [ul, List.take_length] at p3
    have o3 := p3.old n3
    obtain ⟨pu, _, hP, dP, _⟩ := p3
    have dP3 : DpAll K H3 pu ((pk rs kk).map prd) := dps_same (wo_le D3) _ _ dP
    have pl : pu.length = (pk rs kk).length := by rw [dps_len dP3, List.length_map]
    have pkl : (pk rs kk).length ≤ 60 := by
      unfold pk
      rw [List.length_map]
      exact Nat.le_trans (List.length_filter_le _ _) hl
    -- turned
    refine ⟨_, rfl, D3, rfl, ⟨_, SqL.of hP⟩, fun D4 n4 => ?_⟩
    refine lc_list (xs := pu) (fun i H4 => MadeF prd K H3 D4 i H4 (trn fss ((pk rs kk).take i))) MadeF.start (fun i H4 _ z => SqL.of (z.old n4 _ _ hP)) ?_ ?_
    · intro i v H4 hv p
      obtain ⟨⟨x, y⟩, hxy, dv⟩ := dps_pat dP3 hv
      have il : i < (pk rs kk).length := (List.getElem?_eq_some_iff.mp hxy).1
      have o4 := p.old n4
      obtain ⟨t, rfl, ht⟩ := dp_p (dp_same o4 _ _ dv)
      have hm := ho _ (pk_mem.mp (List.mem_of_getElem? hxy))
      have get : ∀ c, c < w → ∃ pc, bu[c]? = some (.ref pc) ∧ SqL K H4 pc (nms (fss.getD c [])) := fun c hc => by
        have hc2 : c < fss.length := by omega
        have e1 : (fss.map lsd)[c]? = some (lsd (fss.getD c [])) := by
          rw [List.getElem?_map, List.getElem?_eq_getElem hc2]
          simp [List.getD, List.getElem?_eq_getElem hc2]
        obtain ⟨u, u1, u2⟩ := dps_to dB2 e1
        obtain ⟨pc, rfl, hpc⟩ := lsd_at (dp_same (o3.trans o4) _ _ u2)
        exact ⟨pc, u1, hpc⟩
      obtain ⟨p1, b1, l1⟩ := get y hm.2.1
      obtain ⟨p2, b2, l2⟩ := get x hm.1
      have hB4 : SqL K H4 B bu := SqL.of (o4 _ _ (o3 _ _ hB))
      refine ⟨t, _, rfl, ht, rfl, _, _, rfl, _, _, rfl, rfl, rfl, ?_⟩
      refine ⟨_, rfl, _, rfl, _, rfl, B, bu, _, _, rfl, rfl, hB4, atI_nat b1, p1, _, rfl, .inl l1, rfl, nms_flat _, _, rfl, ?_⟩
      rw [show inV (V.int (x : Int)) (nms (fss.getD y [])) = decide (x ∈ fss.getD y []) from nms_in _ _]
      have stp : trn fss ((pk rs kk).take (i + 1)) = trn fss ((pk rs kk).take i) ++ (if (decide (x ∈ fss.getD y []) && decide (y ∈ fss.getD x [])) = true then [(y, x)] else []) := trn_step hxy
      by_cases e : x ∈ fss.getD y []
      · rw [decide_eq_true e]
        refine iteT ⟨_, rfl, _, rfl, _, rfl, B, bu, _, _, rfl, rfl, hB4, atI_nat b2, p2, _, rfl, .inl l2, rfl, nms_flat _, _, rfl, ?_⟩
        rw [show inV (V.int (y : Int)) (nms (fss.getD x [])) = decide (y ∈ fss.getD x []) from nms_in _ _]
        by_cases e2 : y ∈ fss.getD x []
        · rw [decide_eq_true e2]
          rw [if_pos (by rw [decide_eq_true e, decide_eq_true e2]; rfl)] at stp
          rw [stp]
          refine iteT ⟨_, rfl, _, rfl, (by show 2 ≤ sizeLine; decide), fun t2 n2 => ?_⟩
          exact p.push (r := (y, x)) (by omega) (Nat.lt_succ_self _) (same_new n2) (p_dp (p.tup n2))
        · rw [decide_eq_false e2]
          rw [if_neg (by rw [decide_eq_false e2, Bool.and_false]; exact Bool.false_ne_true)] at stp
          rw [stp]
          exact iteF (p.up (by omega) (by simp))
      · rw [decide_eq_false e]
        rw [if_neg (by rw [decide_eq_false e]; exact Bool.false_ne_true)] at stp
        rw [stp]
        refine iteF ?_
        exact iteF (p.up (by omega) (by simp))
    intro H4 p4
    rw [pl, List.take_length] at p4
    have o4 := p4.old n4
    obtain ⟨tu, _, hT, dT, _⟩ := p4
    have trl : (trn fss (pk rs kk)).length ≤ 60 := by
      unfold trn
      rw [List.length_map]
      exact Nat.le_trans (List.length_filter_le _ _) pkl
    have tul : tu.length = (trn fss (pk rs kk)).length := by rw [dps_len dT, List.length_map]
    refine ⟨_, rfl, _, rfl, D3, D4, pu, tu, rfl, rfl, o4 _ _ hP, hT, Nat.le_of_lt (small1000 (by omega)), fun p5 n5 => ?_⟩
    have m5 : Same H4 (upd H4 p5 (.lst (pu ++ tu))) := same_new n5
    have toV : Same H4 (wo (upd H4 p5 (.lst (pu ++ tu))) p5) := fun b o e => by
      rw [wo_ne (ne_of_none e n5)]
      exact m5 _ _ e
    have sH : Same H H4 := s2.trans (o3.trans o4)
    refine q p5 (pu ++ tu) (pk rs kk ++ trn fss (pk rs kk)) _ (sH.trans m5) (sH.free n5) upd_same ?_ (fun x y => ?_) (by rw [List.length_append]; omega)
    · rw [List.map_append]
      exact dps_app (dps_same (o4.trans toV) _ _ dP3) (dps_same ((wo_le D4).trans toV) _ _ dT)
    · rw [List.mem_append, pk_mem]
      unfold Lk
      refine or_congr Iff.rfl ?_
      simp only [trn, List.mem_map, List.mem_filter, Bool.and_eq_true, decide_eq_true_eq, Prod.mk.injEq]
      constructor
      · rintro ⟨⟨a, b⟩, ⟨h1, h2, h3⟩, rfl, rfl⟩
        have hm := ho _ (pk_mem.mp h1)
        exact ⟨pk_mem.mp h1, (ff _ hm.2.1 _).mp h2, (ff _ hm.1 _).mp h3⟩
      · rintro ⟨h1, h2, h3⟩
        have hm := ho _ h1
        exact ⟨(y, x), ⟨pk_mem.mpr h1, (ff _ hm.2.1 _).mpr h2, (ff _ hm.1 _).mpr h3⟩, rfl, rfl⟩
theorem kk_chk {f C : Addr} {fd : FuncData} {k : Nat} (F : Fun K "check_rules" "check_rules" sChk f fd) (T : Glb K mg kA) (TC : Txt1 K mg C) (ic : C8.InsC K C) : KG.FnK P w K mg base (k + 1) f fd ["rules"] (spChk K C) := by
  refine KG.fun_ok F scChk (fun vs H Q E h => ?_) (fun cdv A outer s H vs Q E hr h => ?_)
  · obtain ⟨x, w, rs, rfl, _⟩ := h
    rfl
  · obtain ⟨x, w, rs, rfl, ⟨dx, g, us, h1, _, _⟩, q⟩ := h
    refine ⟨_, KG.pss_one (KG.ps_if (KG.pt_not (KG.pt_val (KG.pe_callB (KG.call_isC ic) (by rfl) T.isi (by decide +kernel) (KG.pa_cons (KG.pv 0) (KG.pa_cons (KG.pe_glob (v := .ref C) rfl TC.mgC rfl) KG.pa_nil))))) (KG.pss_one KG.ps_never) KG.pss_nil), ?_⟩
    exact ⟨_, rfl, x, dx, _, rfl, h1, _, rfl, iteF q⟩
theorem kk_pw {f C : Addr} {fd : FuncData} {k : Nat} (F : Fun K "width" "Rules.width" sPW f fd) (TC : Txt1 K mg C) : KG.FnK P w K mg base (k + 1) f fd ["self"] (getSp C "span") := by
  refine KG.fun_ok F scPW (fun vs H Q E h => ?_) (fun cdv A outer s H vs Q E hr h => ?_)
  · obtain ⟨a, dx, fs, v, rfl, _⟩ := h
    rfl
  · obtain ⟨a, dx, fs, v, rfl, ea, l, q⟩ := h
    exact ⟨_, KG.pss_one (KG.ps_ret (KG.pe_fld (KG.pv 0) rfl)), _, rfl, a, C, dx, fs, v, rfl, ea, TC.cl, TC.nS, l, q⟩
theorem kk_pr {f C : Addr} {fd : FuncData} {k : Nat} (F : Fun K "rules" "Rules.rules" sPR f fd) (TC : Txt1 K mg C) : KG.FnK P w K mg base (k + 1) f fd ["self"] (getSp C "given") := by
  refine KG.fun_ok F scPR (fun vs H Q E h => ?_) (fun cdv A outer s H vs Q E hr h => ?_)
  · obtain ⟨a, dx, fs, v, rfl, _⟩ := h
    rfl
  · obtain ⟨a, dx, fs, v, rfl, ea, l, q⟩ := h
    exact ⟨_, KG.pss_one (KG.ps_ret (KG.pe_fld (KG.pv 0) rfl)), _, rfl, a, C, dx, fs, v, rfl, ea, TC.cl, TC.nG, l, q⟩
end
end CC
/-! ### a sleeping generator whom nobody wakes stays as it is: what runs where all sleepers are dead, runs where they live -/
namespace PZ
open PySem
def Asleep : GenState → Prop
  | .suspended .. => True
  | _ => False
/-- a sleeper that cannot be woken -/
def dead : GenState → GenState
  | .suspended _ l c p fs cl => .suspended (fun _ => .unsupported "dead") l c p fs cl
  | x => x
def Clean : GenState → Prop
  | .suspended _ _ _ _ fs _ => splitAtGen fs = none
  | _ => True
theorem dead_seen (x : GenState) : (dead x).seen = x.seen := by cases x <;> rfl
theorem dead_bare (x : GenState) : (dead x).bare = x.bare := by cases x <;> rfl
/-- A: all who slept are dead; G: they live -/
structure Tw (D : Nat → Option GenState) (A G : Array GenState) : Prop where
  size : A.size = G.size
  deads : ∀ j x, D j = some x → Asleep x ∧ A[j]? = some (dead x) ∧ G[j]? = some x
  rest : ∀ j, D j = none → A[j]? = G[j]? ∧ ∀ x, G[j]? = some x → Clean x
section
variable {D : Nat → Option GenState} {A G : Array GenState} {g : Nat} {x : GenState}
theorem Tw.push (t : Tw D A G) (h : Clean x) : Tw D (A.push x) (G.push x) := by
  refine ⟨by rw [Array.size_push, Array.size_push, t.size], fun j y e => ?_, fun j e => ?_⟩
  · obtain ⟨a1, a2, a3⟩ := t.deads j y e
    have la := (Array.getElem?_eq_some_iff.mp a2).1
    have lg := (Array.getElem?_eq_some_iff.mp a3).1
    refine ⟨a1, ?_, ?_⟩
    · rw [Array.getElem?_push_lt la, ← Array.getElem?_eq_getElem la]
      exact a2
    · rw [Array.getElem?_push_lt lg, ← Array.getElem?_eq_getElem lg]
      exact a3
  · obtain ⟨r1, r2⟩ := t.rest j e
    rw [Array.getElem?_push, Array.getElem?_push, t.size, r1]
    refine ⟨rfl, fun y hy => ?_⟩
    split at hy
    · cases hy
      exact h
    · exact r2 y hy
theorem Tw.set (t : Tw D A G) (n : D g = none) (h : Clean x) : Tw D (A.setIfInBounds g x) (G.setIfInBounds g x) := by
  refine ⟨by rw [Array.size_setIfInBounds, Array.size_setIfInBounds, t.size], fun j y e => ?_, fun j e => ?_⟩
  · obtain ⟨a1, a2, a3⟩ := t.deads j y e
    have ne : g ≠ j := fun z => by rw [z, e] at n; cases n
    exact ⟨a1, by rw [Array.getElem?_setIfInBounds_ne ne]; exact a2, by rw [Array.getElem?_setIfInBounds_ne ne]; exact a3⟩
  · obtain ⟨r1, r2⟩ := t.rest j e
    by_cases z : g = j
    · subst z
      rw [Array.getElem?_setIfInBounds_self, Array.getElem?_setIfInBounds_self, t.size]
      refine ⟨rfl, fun y hy => ?_⟩
      split at hy
      · cases hy
        exact h
      · cases hy
    · rw [Array.getElem?_setIfInBounds_ne z, Array.getElem?_setIfInBounds_ne z]
      exact ⟨r1, r2⟩
theorem Tw.seen {st : GenState} (t : Tw D A G) (h : A[g]? = some st) : ∃ st', G[g]? = some st' ∧ st'.seen = st.seen := by
  cases e : D g with
  | none => exact ⟨st, by rw [← (t.rest g e).1]; exact h, rfl⟩
  | some x =>
    obtain ⟨_, a2, a3⟩ := t.deads g x e
    rw [h] at a2
    cases a2
    exact ⟨x, a3, (dead_seen x).symm⟩
/-- who is no sleeper is the same in both -/
theorem Tw.awake {st : GenState} (t : Tw D A G) (h : A[g]? = some st) (n : ¬ Asleep st) : D g = none ∧ G[g]? = some st := by
  cases e : D g with
  | none => exact ⟨rfl, by rw [← (t.rest g e).1]; exact h⟩
  | some x =>
    obtain ⟨a1, a2, _⟩ := t.deads g x e
    rw [h] at a2
    cases a2
    cases x <;> first | exact a1.elim | exact (n trivial).elim
theorem Tw.sleeper {k : Resume → Sem Fin} {l : List Value} {c : Code} {p : Pos} {fs : List Frame} {cl : Bool} (t : Tw D A G) (h : A[g]? = some (.suspended k l c p fs cl)) :
    (D g = none ∧ G[g]? = some (.suspended k l c p fs cl) ∧ splitAtGen fs = none) ∨ k = fun _ => .unsupported "dead" := by
  cases e : D g with
  | none =>
    obtain ⟨r1, r2⟩ := t.rest g e
    have q : G[g]? = some (.suspended k l c p fs cl) := by rw [← r1]; exact h
    exact .inl ⟨rfl, q, r2 _ q⟩
  | some x =>
    obtain ⟨a1, a2, _⟩ := t.deads g x e
    rw [h] at a2
    cases x with
    | suspended k' l' c' p' fs' cl' =>
      cases a2
      exact .inr rfl
    | _ => exact a1.elim
end
theorem split_app {a b : List Frame} (h : splitAtGen a = none) (h2 : splitAtGen b = none) : splitAtGen (a ++ b) = none := by
  induction a with
  | nil => exact h2
  | cons f a ih =>
    cases f with
    | gen => cases h
    | ret k hh g l c p kp =>
      have h' : (splitAtGen a).map (fun (x : List Frame × (Nat × (GenResult → Sem Fin) × Code × Pos) × List Frame) => (Frame.ret k hh g l c p kp :: x.1, x.2.1, x.2.2)) = none := h
      show (splitAtGen (a ++ b)).map _ = none
      rw [ih (Option.map_eq_none_iff.mp h')]
      rfl
theorem split_tail {F : Frame} {b : List Frame} (h : splitAtGen (F :: b) = none) : splitAtGen b = none := by
  cases F with
  | gen => cases h
  | ret k hh g l c p kp =>
    have h' : (splitAtGen b).map (fun (x : List Frame × (Nat × (GenResult → Sem Fin) × Code × Pos) × List Frame) => (Frame.ret k hh g l c p kp :: x.1, x.2.1, x.2.2)) = none := h
    exact Option.map_eq_none_iff.mp h'
theorem runs_dead {M : Model} {Γ : Ctx} {p : Pos} {t : Sem Fin} {fs : List Frame} {s s' : Shared} {e : End} (h : Runs M Γ p t fs s e s') {w : String} (ht : t = .unsupported w) : False := by
  induction h with
  | segRet _ _ ih _ => exact ih ht
  | segGen _ _ ih _ => exact ih ht
  | segSuspOut _ _ ih => exact ih ht
  | segSuspGen _ _ _ _ ih _ => exact ih ht
  | _ => cases ht
def EClean : End → Prop
  | .ret _ => True
  | .susp _ _ _ _ _ _ fs => splitAtGen fs = none
theorem eclean_clean {e : End} (h : EClean e) : Clean e.genState := by
  cases e with
  | ret _ => trivial
  | susp => exact h
theorem runs_tw {M : Model} {D : Nat → Option GenState} {Γ : Ctx} {p : Pos} {t : Sem Fin} {fs : List Frame} {s s' : Shared} {e : End} (h : Runs M Γ p t fs s e s') :
    splitAtGen fs = none → ∀ G, Tw D s.gens G → ∃ G', Tw D s'.gens G' ∧ Runs M Γ p t fs { s with gens := G } e { s' with gens := G' } ∧ EClean e := by
  induction h with
  | done => exact fun _ G w => ⟨G, w, .done, trivial⟩
  | raise => exact fun _ G w => ⟨G, w, .raise, trivial⟩
  | again q _ ih => exact fun z G w => let ⟨G', a, b, c⟩ := ih z G w; ⟨G', a, .again q b, c⟩
  | rule _ ih => exact fun z G w => let ⟨G', a, b, c⟩ := ih z G w; ⟨G', a, .rule b, c⟩
  | «at» _ ih => exact fun z G w => let ⟨G', a, b, c⟩ := ih z G w; ⟨G', a, .at b, c⟩
  | load q _ ih => exact fun z G w => let ⟨G', a, b, c⟩ := ih z G w; ⟨G', a, .load q b, c⟩
  | update q _ ih => exact fun z G w => let ⟨G', a, b, c⟩ := ih z G w; ⟨G', a, .update q b, c⟩
  | loadIfAlive _ ih => exact fun z G w => let ⟨G', a, b, c⟩ := ih z G w; ⟨G', a, .loadIfAlive b, c⟩
  | point _ ih => exact fun z G w => let ⟨G', a, b, c⟩ := ih z G w; ⟨G', a, .point b, c⟩
  | alloc _ ih => exact fun z G w => let ⟨G', a, b, c⟩ := ih z G w; ⟨G', a, .alloc b, c⟩
  | fresh _ ih => exact fun z G w => let ⟨G', a, b, c⟩ := ih z G w; ⟨G', a, .fresh b, c⟩
  | ask _ ih => exact fun z G w => let ⟨G', a, b, c⟩ := ih z G w; ⟨G', a, .ask b, c⟩
  | choose q _ ih => exact fun z G w => let ⟨G', a, b, c⟩ := ih z G w; ⟨G', a, .choose q b, c⟩
  | os _ ih => exact fun z G w => let ⟨G', a, b, c⟩ := ih z G w; ⟨G', a, .os b, c⟩
  | handled _ ih => exact fun z G w => let ⟨G', a, b, c⟩ := ih z G w; ⟨G', a, .handled b, c⟩
  | stack _ ih => exact fun z G w => let ⟨G', a, b, c⟩ := ih z G w; ⟨G', a, .stack b, c⟩
  | thread _ ih => exact fun z G w => let ⟨G', a, b, c⟩ := ih z G w; ⟨G', a, .thread b, c⟩
  | @genState g st Γ p k s e s' q _ ih =>
    intro z G w
    obtain ⟨G', a, b, c⟩ := ih z G w
    obtain ⟨st', h1, h2⟩ := w.seen q
    exact ⟨G', a, .genState (s := { s with gens := G }) h1 (by rw [h2]; exact b), c⟩
  | @newGen Γ p k s e s' c _ ih =>
    intro z G w
    obtain ⟨G', a, b, c'⟩ := ih z (G.push (.fresh c)) (w.push (x := .fresh c) trivial)
    refine ⟨G', a, .newGen (s := { s with gens := G }) ?_, c'⟩
    show Runs M Γ p (k G.size) [] _ _ _
    rw [← w.size]
    exact b
  | call _ _ ih1 ih2 =>
    intro z G w
    obtain ⟨G1, a1, b1, _⟩ := ih1 rfl G w
    obtain ⟨G2, a2, b2, c2⟩ := ih2 rfl G1 a1
    exact ⟨G2, a2, .call b1 b2, c2⟩
  | callSusp _ ih =>
    intro z G w
    obtain ⟨G1, a1, b1, c1⟩ := ih rfl G w
    exact ⟨G1, a1, .callSusp b1, split_app c1 rfl⟩
  | yield => exact fun _ G w => ⟨G, w, .yield, rfl⟩
  | @resumeFresh Γ p g l k s c e₁ s₁ e s' q _ hq _ ih1 ih2 =>
    intro z G w
    obtain ⟨n, hG⟩ := w.awake q (fun z => z)
    obtain ⟨G1, a1, b1, c1⟩ := ih1 rfl (G.setIfInBounds g .running) (w.set (x := .running) n trivial)
    obtain ⟨G2, a2, b2, c2⟩ := ih2 rfl (G1.setIfInBounds g e₁.genState) (a1.set n (eclean_clean c1))
    exact ⟨G2, a2, .resumeFresh (s := { s with gens := G }) (s₁ := { s₁ with gens := G1 }) hG b1 hq b2, c2⟩
  | @resumeSuspended Γ p g r l k s k₀ l₀ c₀ p₀ fs cl e₁ s₁ e s' q hr hq _ ih1 ih2 =>
    intro z G w
    rcases w.sleeper q with ⟨n, hG, hfs⟩ | e0
    · obtain ⟨G1, a1, b1, c1⟩ := ih1 hfs (G.setIfInBounds g .running) (w.set (x := .running) n trivial)
      obtain ⟨G2, a2, b2, c2⟩ := ih2 rfl (G1.setIfInBounds g e₁.genState) (a1.set n (eclean_clean c1))
      exact ⟨G2, a2, .resumeSuspended (s := { s with gens := G }) (s₁ := { s₁ with gens := G1 }) hG b1 hq b2, c2⟩
    · exact (runs_dead hr (by rw [e0])).elim
  | @resumeJustStarted g v Γ p k s e s' l c q hv _ ih =>
    intro z G w
    obtain ⟨G', a, b, c'⟩ := ih z G w
    exact ⟨G', a, .resumeJustStarted (s := { s with gens := G }) (w.awake q (fun z => z)).2 hv b, c'⟩
  | @resumeThrowFresh g Γ p k e s' x l s c q _ ih =>
    intro z G w
    obtain ⟨n, hG⟩ := w.awake q (fun z => z)
    obtain ⟨G', a, b, c'⟩ := ih z (G.setIfInBounds g .finished) (w.set (x := .finished) n trivial)
    exact ⟨G', a, .resumeThrowFresh (s := { s with gens := G }) hG b, c'⟩
  | @resumeRunning g Γ p k s e s' r l q _ ih =>
    intro z G w
    obtain ⟨G', a, b, c'⟩ := ih z G w
    exact ⟨G', a, .resumeRunning (s := { s with gens := G }) (w.awake q (fun z => z)).2 b, c'⟩
  | @resumeFinished g Γ p k s e s' r l q _ ih =>
    intro z G w
    obtain ⟨G', a, b, c'⟩ := ih z G w
    exact ⟨G', a, .resumeFinished (s := { s with gens := G }) (w.awake q (fun z => z)).2 b, c'⟩
  | segRet _ _ ih1 ih2 =>
    intro z G w
    obtain ⟨G1, a1, b1, _⟩ := ih1 rfl G w
    obtain ⟨G2, a2, b2, c2⟩ := ih2 (split_tail z) G1 a1
    exact ⟨G2, a2, .segRet b1 b2, c2⟩
  | segGen => exact fun z => nomatch z
  | segSuspOut q _ ih =>
    intro z G w
    obtain ⟨G1, a1, b1, c1⟩ := ih rfl G w
    exact ⟨G1, a1, .segSuspOut q b1, split_app c1 q⟩
  | segSuspGen q => exact fun z => by rw [q] at z; cases z
/-- the sleepers of a table -/
noncomputable def dd (G : Array GenState) : Nat → Option GenState := fun j => open Classical in if h : ∃ x, G[j]? = some x ∧ Asleep x then some h.choose else none
theorem tw_start (G : Array GenState) : Tw (dd G) (G.map dead) G := by
  refine ⟨by simp, fun j x e => ?_, fun j e => ?_⟩
  · unfold dd at e
    split at e
    · rename_i h
      obtain ⟨q1, q2⟩ := h.choose_spec
      cases e
      generalize h.choose = y at q1 q2
      exact ⟨q2, by rw [Array.getElem?_map, q1]; rfl, q1⟩
    · cases e
  · unfold dd at e
    split at e
    · cases e
    · rename_i h
      rw [Array.getElem?_map]
      cases q : G[j]? with
      | none => exact ⟨rfl, fun x z => nomatch z⟩
      | some x =>
        have na : ¬ Asleep x := fun z => h ⟨x, q, z⟩
        cases x with
        | suspended => exact absurd trivial na
        | _ => exact ⟨rfl, fun y z => by cases z; trivial⟩
theorem dd_at {G : Array GenState} {j : Nat} {x : GenState} (h : G[j]? = some x) (a : Asleep x) : dd G j = some x := by
  have e : ∃ y, G[j]? = some y ∧ Asleep y := ⟨x, h, a⟩
  unfold dd
  rw [dif_pos e]
  obtain ⟨q, _⟩ := e.choose_spec
  generalize e.choose = y at q
  exact q.symm.trans h
theorem wakes_tw {M : Model} {D : Nat → Option GenState} {Γ : Ctx} {p : Pos} {g : Nat} {r : Resume} {s s' : Shared} {res : GenResult} {G : Array GenState} (w : Tw D s.gens G) (h : Wakes M Γ p g r s res s') :
    ∃ G', Tw D s'.gens G' ∧ Wakes M Γ p g r { s with gens := G } res { s' with gens := G' } := by
  unfold Wakes at h
  cases q : s.gens[g]? with
  | none => rw [q] at h; exact h.elim
  | some st =>
    rw [q] at h
    cases st with
    | fresh c =>
      obtain ⟨n, hG⟩ := w.awake q (fun z => z)
      have hG' : ({ s with gens := G } : Shared).gens[g]? = some (.fresh c) := hG
      cases r with
      | throw x =>
        obtain ⟨rfl, rfl⟩ := h
        exact ⟨G.setIfInBounds g .finished, w.set (x := .finished) n trivial, by unfold Wakes; rw [hG']; exact ⟨rfl, rfl⟩⟩
      | send v =>
        cases v with
        | none =>
          obtain ⟨e₁, s₁, hr, hq, rfl, rfl⟩ := h
          obtain ⟨G1, a1, b1, c1⟩ := runs_tw hr rfl (G.setIfInBounds g .running) (w.set (x := .running) n trivial)
          exact ⟨G1.setIfInBounds g e₁.genState, a1.set n (eclean_clean c1), by unfold Wakes; rw [hG']; exact ⟨e₁, { s₁ with gens := G1 }, b1, hq, rfl, rfl⟩⟩
        | _ =>
          obtain ⟨rfl, rfl⟩ := h
          exact ⟨G, w, by unfold Wakes; rw [hG']; exact ⟨rfl, rfl⟩⟩
    | suspended k₀ l₀ c₀ p₀ fs cl =>
      obtain ⟨e₁, s₁, hr, hq, rfl, rfl⟩ := h
      rcases w.sleeper q with ⟨n, hG, hfs⟩ | e0
      · obtain ⟨G1, a1, b1, c1⟩ := runs_tw hr hfs (G.setIfInBounds g .running) (w.set (x := .running) n trivial)
        refine ⟨G1.setIfInBounds g e₁.genState, a1.set n (eclean_clean c1), ?_⟩
        have hG' : ({ s with gens := G } : Shared).gens[g]? = some (.suspended k₀ l₀ c₀ p₀ fs cl) := hG
        unfold Wakes
        rw [hG']
        exact ⟨e₁, { s₁ with gens := G1 }, b1, hq, rfl, rfl⟩
      · exact (runs_dead hr (by rw [e0])).elim
    | running =>
      obtain ⟨rfl, rfl⟩ := h
      refine ⟨G, w, ?_⟩
      have hG' : (({ s' with gens := G } : Shared).gens[g]?) = some .running := (w.awake q (fun z => z)).2
      unfold Wakes
      rw [hG']
      exact ⟨rfl, rfl⟩
    | finished =>
      obtain ⟨rfl, rfl⟩ := h
      refine ⟨G, w, ?_⟩
      have hG' : (({ s' with gens := G } : Shared).gens[g]?) = some .finished := (w.awake q (fun z => z)).2
      unfold Wakes
      rw [hG']
      exact ⟨rfl, rfl⟩
theorem wp_tw {α : Type} {M : Model} {D : Nat → Option GenState} {Γ : Ctx} (t : Sem α) : ∀ (Q : α → Pos → Shared → Prop) (E : Value → Pos → Shared → Prop) (p : Pos) (s : Shared) (G : Array GenState), Tw D s.gens G → Sem.wp M Γ t Q E p s →
    Sem.wp M Γ t (fun a p' s' => ∃ A, Tw D A s'.gens ∧ Q a p' { s' with gens := A }) (fun e p' s' => ∃ A, Tw D A s'.gens ∧ E e p' { s' with gens := A }) p { s with gens := G } := by
  induction t with
  | pure a => exact fun Q E p s G w h => ⟨s.gens, w, h⟩
  | raise e => exact fun Q E p s G w h => ⟨s.gens, w, h⟩
  | unsupported _ => exact fun Q E p s G w h => h
  | finish _ => exact fun Q E p s G w h => h
  | register => exact fun Q E p s G w h => h
  | fork => exact fun Q E p s G w h => h
  | await => exact fun Q E p s G w h => h
  | yield => exact fun Q E p s G w h => h
  | rule _ k ih => exact fun Q E p s G w h => ih () Q E p s G w h
  | «at» p' k ih => exact fun Q E p s G w h => ih () Q E p' s G w h
  | load a _ k ih => exact fun Q E p s G w h => ⟨h.choose, h.choose_spec.1, ih _ Q E p s G w h.choose_spec.2⟩
  | update a _ f k ih => exact fun Q E p s G w h => ⟨h.1, ih () Q E p { s with heap := s.heap.update a f } G w h.2⟩
  | loadIfAlive a k ih => exact fun Q E p s G w h => ih _ Q E p s G w h
  | point _ k ih => exact fun Q E p s G w h => ih () Q E p s G w h
  | alloc o k ih => exact fun Q E p s G w h => ih _ Q E p { s with heap := s.heap.push o } G w h
  | fresh k ih => exact fun Q E p s G w h => ih _ Q E p { s with toks := s.toks + 1 } G w h
  | ask k ih => exact fun Q E p s G w h => ih _ Q E p s G w h
  | choose src m k ih => exact fun Q E p s G w h => ⟨h.1, ih _ Q E p { s with drawn := s.drawn.bump src } G w h.2⟩
  | os q _ k ih => exact fun Q E p s G w h => ih _ Q E p { s with os := (Os.step s.os q).1 } G w h
  | call c hd _ _ k ih =>
    intro Q E p s G w h
    obtain ⟨r, s1, hr, h2⟩ := h
    obtain ⟨G1, a1, b1, _⟩ := runs_tw hr rfl G w
    exact ⟨r, { s1 with gens := G1 }, b1, ih r Q E p s1 G1 a1 h2⟩
  | handled own k ih => exact fun Q E p s G w h => ih _ Q E p s G w h
  | genState g k ih =>
    intro Q E p s G w h
    obtain ⟨st, hs, h2⟩ := h
    obtain ⟨st', q1, q2⟩ := w.seen hs
    exact ⟨st', q1, by rw [q2]; exact ih _ Q E p s G w h2⟩
  | newGen c k ih =>
    intro Q E p s G w h
    have z := ih s.gens.size Q E p { s with gens := s.gens.push (.fresh c) } (G.push (.fresh c)) (w.push (x := .fresh c) trivial) h
    show Sem.wp M Γ (k G.size) _ _ p _
    rw [← w.size]
    exact z
  | resume g r _ k ih =>
    intro Q E p s G w h
    obtain ⟨res, s1, hw, h2⟩ := h
    obtain ⟨G1, a1, b1⟩ := wakes_tw w hw
    exact ⟨res, { s1 with gens := G1 }, b1, ih res Q E p s1 G1 a1 h2⟩
  | stack k ih => exact fun Q E p s G w h => ih _ Q E p s G w h
  | thread k ih => exact fun Q E p s G w h => ih _ Q E p s G w h
/-- what holds where the sleepers are dead, holds where they live, and they sleep on -/
theorem wpAny_tw {α : Type} {M : Model} {A : Around} {t : Sem α} {Q : α → Shared → Prop} {E : Value → Shared → Prop} {s : Shared} (h : wpAny M A t Q E { s with gens := s.gens.map dead }) :
    wpAny M A t (fun a s' => ∃ B, Tw (dd s.gens) B s'.gens ∧ Q a { s' with gens := B }) (fun e s' => ∃ B, Tw (dd s.gens) B s'.gens ∧ E e { s' with gens := B }) s :=
  fun Γ p hΓ => wp_tw t _ _ p { s with gens := s.gens.map dead } s.gens (tw_start s.gens) (h Γ p hΓ)
theorem codeAny_tw {M : Model} {A : Around} {c : Code} {R : Result → Shared → Prop} {s : Shared} (h : codeAny M A c R { s with gens := s.gens.map dead }) :
    codeAny M A c (fun r s' => ∃ B, Tw (dd s.gens) B s'.gens ∧ R r { s' with gens := B }) s := fun Γ p hc hΓ => by
  obtain ⟨r, s', hr, hR⟩ := h Γ p hc hΓ
  obtain ⟨G1, a1, b1, _⟩ := runs_tw hr rfl s.gens (tw_start s.gens)
  exact ⟨r, { s' with gens := G1 }, b1, s'.gens, a1, hR⟩
theorem Tw.kept {G A B : Array GenState} {j : Nat} {x : GenState} (w : Tw (dd G) A B) (h : G[j]? = some x) (a : Asleep x) : B[j]? = some x := (w.deads j x (dd_at h a)).2.2
open PyProof.Rows in
theorem bare_dead {G : Array GenState} (h : AllBare G) : AllBare (G.map dead) := fun y hy => by
  obtain ⟨x, hx, rfl⟩ := Array.mem_map.mp hy
  rw [dead_bare]
  exact h x hx
open PyProof.Rows in
theorem Tw.bare {D : Nat → Option GenState} {A G : Array GenState} (w : Tw D A G) (h : AllBare A) : AllBare G := fun y hy => by
  obtain ⟨j, hj, e⟩ := Array.mem_iff_getElem.mp hy
  have q : G[j]? = some y := by rw [Array.getElem?_eq_getElem hj, e]
  cases z : D j with
  | none => exact h y (Array.mem_of_getElem? (by rw [(w.rest j z).1]; exact q))
  | some x =>
    obtain ⟨_, a2, a3⟩ := w.deads j x z
    rw [q] at a3
    cases a3
    rw [← dead_bare]
    exact h _ (Array.mem_of_getElem? a2)
end PZ
/-! ### a generator's segments, each with a word of its own (η) that the consumer says when it wakes the generator -/
namespace GH
open PySem PySem.Spec PyProof.Rows L2
abbrev REnd (η : Type) := Nat → η → Shared → Result → Shared → Prop
abbrev YOut (η : Type) := Nat → η → Shared → Value → Shared → (η → Resume → Shared → Prop) → Prop
section
variable {η : Type}
def Fin1 (R : REnd η) (Y : YOut η) (n : Nat) (go : η → Code → Sem PySem.Fin → List Frame → Shared → Prop) (h : η) (sB : Shared) : End → Shared → Prop
  | .ret r, sE => R n h sB r sE
  | .susp v gd lv k c p fs, sE => 0 < n ∧ (End.susp v gd lv k c p fs).quiet = true ∧ Y (n - 1) h sB v sE fun h2 r s2 => go h2 c (k r) fs s2
def SegH (M : Model) (A : Around) (R : REnd η) (Y : YOut η) : Nat → η → Shared → Code → Sem PySem.Fin → List Frame → Shared → Prop
  | 0, h, sB, c, t, fs, s => ∀ Γ p, Γ.code = c → Γ.Woken A → ∃ e sE, Runs M Γ p t fs s e sE ∧ Fin1 R Y 0 (fun _ _ _ _ _ => False) h sB e sE
  | n + 1, h, sB, c, t, fs, s => ∀ Γ p, Γ.code = c → Γ.Woken A → ∃ e sE, Runs M Γ p t fs s e sE ∧ Fin1 R Y (n + 1) (fun h2 c2 t2 fs2 s2 => SegH M A R Y n h2 s2 c2 t2 fs2 s2) h sB e sE
def goH (M : Model) (A : Around) (R : REnd η) (Y : YOut η) : Nat → η → Code → Sem PySem.Fin → List Frame → Shared → Prop
  | 0 => fun _ _ _ _ _ => False
  | n + 1 => fun h c t fs s => SegH M A R Y n h s c t fs s
variable {M : Model} {A : Around} {R : REnd η} {Y : YOut η} {n : Nat} {h : η} {sB s : Shared} {c : Code} {fs : List Frame}
theorem sg_iff {t : Sem PySem.Fin} : SegH M A R Y n h sB c t fs s ↔ ∀ Γ p, Γ.code = c → Γ.Woken A → ∃ e sE, Runs M Γ p t fs s e sE ∧ Fin1 R Y n (goH M A R Y n) h sB e sE := by
  cases n with
  | zero => exact Iff.rfl
  | succ n => exact Iff.rfl
theorem sg_wrap {α : Type} {m : Sem α} {K : α → Sem PySem.Fin} {J : Value → Sem PySem.Fin} {gd : Bool → Bool} {lv : List Value → List Value}
    (q : wpAny M (A.over c fs) m (fun a s2 => SegH M A R Y n h sB c (K a) fs s2) (fun x s2 => SegH M A R Y n h sB c (J x) fs s2) s) : SegH M A R Y n h sB c (m.wrap K J gd lv) fs s := by
  refine sg_iff.mpr fun Γ p e hΓ => ?_
  subst e
  refine runs_wrap_of_wp K J gd lv m (q (Γ.over fs) p (hΓ.over fs)) (fun a p2 s2 z => ?_) (fun x p2 s2 z => ?_)
  · exact sg_iff.mp z Γ p2 rfl hΓ
  · exact sg_iff.mp z Γ p2 rfl hΓ
theorem sg_at {p2 : Pos} {k : Unit → Sem PySem.Fin} (q : SegH M A R Y n h sB c (k ()) fs s) : SegH M A R Y n h sB c (.at p2 k) fs s :=
  sg_wrap (m := standAt p2) (K := k) (J := fun x => .raise x) (gd := id) (lv := id) (wpAny_standAt q)
theorem sg_point {lv : List Value} {k : Unit → Sem PySem.Fin} (q : SegH M A R Y n h sB c (k ()) fs s) : SegH M A R Y n h sB c (.point lv k) fs s :=
  sg_wrap (m := point) (K := k) (J := fun x => .raise x) (gd := id) (lv := fun _ => lv) (wpAny_point q)
theorem sg_call {c2 : Code} {hd : Option Value} {gd : Bool} {lv : List Value} {k : Result → Sem PySem.Fin} (q : ∀ p, SegH M A R Y n h sB c2 (M.den c2) (.ret k hd gd lv c p [] :: fs) s) : SegH M A R Y n h sB c (.call c2 hd gd lv k) fs s := by
  refine sg_iff.mpr fun Γ p e hΓ => ?_
  subst e
  have ⟨e, sE, r, z⟩ := sg_iff.mp (q p) (Γ.goto c2) p rfl (hΓ.goto c2)
  exact ⟨e, sE, runs_call_seg r, z⟩
theorem sg_leaf {k : Result → Sem PySem.Fin} {hd : Option Value} {gd : Bool} {lv kp : List Value} {c2 : Code} {p2 : Pos} (r : Result) (q : SegH M A R Y n h sB c2 (k r) fs s) : SegH M A R Y n h sB c (leafOf r) (.ret k hd gd lv c2 p2 kp :: fs) s := by
  refine sg_iff.mpr fun Γ p e hΓ => ?_
  subst e
  have ⟨e, sE, rr, z⟩ := sg_iff.mp q (Γ.goto c2) p2 rfl (hΓ.goto c2)
  exact ⟨e, sE, Runs.pop r rr, z⟩
theorem sg_again {c2 : Code} (hq : c2.quiet = true) (q : SegH M A R Y n h sB c2 (M.den c2) fs s) : SegH M A R Y n h sB c (.pure (.again c2)) fs s := by
  refine sg_iff.mpr fun Γ p e hΓ => ?_
  subst e
  have ⟨e, sE, rr, z⟩ := sg_iff.mp q (Γ.goto c2) p rfl (hΓ.goto c2)
  exact ⟨e, sE, Runs.head (c₁ := c2) (fun _ _ x => .again hq x) rr, z⟩
theorem sg_end (r : Result) (q : R n h sB r s) : SegH M A R Y n h sB c (leafOf r) [] s :=
  sg_iff.mpr fun Γ p e hΓ => ⟨.ret r, s, Runs.leaf r, q⟩
theorem sg_yield {v : Value} {lv : List Value} {k : Resume → Sem PySem.Fin} (hs : splitAtGen fs = none) (hg : fs.any Frame.guarded = false) (q : Y n h sB v s fun h2 r s2 => SegH M A R Y n h2 s2 c (k r) fs s2) : SegH M A R Y (n + 1) h sB c (.yield v false lv k) fs s := fun Γ p e hΓ => by
  subst e
  exact ⟨_, s, Runs.yield' fs hs, ⟨Nat.succ_pos n, by simp [End.quiet, hg], q⟩⟩
/-- a generator, as its state says, woken by r -/
def Goes (M : Model) (A : Around) (R : REnd η) (Y : YOut η) (n : Nat) (h : η) (gs : GenState) (r : Resume) (s : Shared) : Prop := match gs with
  | .fresh c => r = .send .none ∧ SegH M A R Y n h s c (M.den c) [] s
  | .suspended k _ c _ fs _ => SegH M A R Y n h s c (k r) fs s
  | .running => False
  | .finished => False
def kapH (M : Model) (A : Around) (R : REnd η) (Y : YOut η) (n : Nat) (gs : GenState) (h : η) (r : Resume) (s : Shared) : Prop := match n with
  | 0 => False
  | m + 1 => Goes M A R Y m h gs r s
theorem wake_any {E : Value → Shared → Prop} {g : Nat} {gs : GenState} {r : Resume} {lv : List Value} {α : Type} {k : GenResult → Sem α} {Q : α → Shared → Prop} (hg : s.gens[g]? = some gs) (go : Goes M A R Y n h gs r (s.setGen g .running))
    (hR : ∀ x s1, R n h (s.setGen g .running) x s1 → wpAny M A (k (End.ret x).result) Q E (s1.setGen g .finished))
    (hY : ∀ v s1 gs2, 0 < n → gs2.bare = true → PZ.Asleep gs2 → Y (n - 1) h (s.setGen g .running) v s1 (kapH M A R Y n gs2) → wpAny M A (k (.yielded v)) Q E (s1.setGen g gs2)) :
    wpAny M A (.resume g r lv k) Q E s := by
  intro Γ p hΓ
  rw [Sem.wp_resume]
  have quiet : ∀ e1 s1, Fin1 R Y n (goH M A R Y n) h (s.setGen g .running) e1 s1 → e1.quiet = true := fun e1 s1 z => by
    cases e1 with
    | ret x => rfl
    | susp v gd l2 k2 c2 p2 f2 => exact z.2.1
  have last : ∀ e1 s1, Fin1 R Y n (goH M A R Y n) h (s.setGen g .running) e1 s1 → Sem.wp M Γ (k e1.result) (fun a _ s2 => Q a s2) (fun e _ s2 => E e s2) p (s1.setGen g e1.genState) := fun e1 s1 z => by
    cases e1 with
    | ret x => exact hR x s1 z Γ p hΓ
    | susp v gd l2 k2 c2 p2 f2 =>
      refine hY v s1 _ z.1 (End.bare_of_quiet z.2.1) trivial ?_ Γ p hΓ
      cases n with
      | zero => exact absurd z.1 (Nat.lt_irrefl 0)
      | succ m => exact z.2.2
  cases gs with
  | fresh c =>
    obtain ⟨rfl, w⟩ := go
    obtain ⟨e1, s1, rr, z⟩ := sg_iff.mp w (Γ.wake c p) p rfl (hΓ.wake c p)
    refine ⟨_, _, ?_, last e1 s1 z⟩
    unfold Wakes
    rw [hg]
    exact ⟨e1, s1, rr, quiet e1 s1 z, rfl, rfl⟩
  | suspended k2 l2 c2 p2 f2 cl =>
    obtain ⟨e1, s1, rr, z⟩ := sg_iff.mp go (Γ.wake c2 p) p2 rfl (hΓ.wake c2 p)
    refine ⟨_, _, ?_, last e1 s1 z⟩
    unfold Wakes
    rw [hg]
    exact ⟨e1, s1, rr, quiet e1 s1 z, rfl, rfl⟩
  | running => exact go.elim
  | finished => exact go.elim
end
/-! ### statements -/
section
variable {η : Type} {M : Model} {A : Around} {R : REnd η} {Y : YOut η} {n : Nat} {h : η} {sB s : Shared} {c : Code} {fs : List Frame} {env : Env} {K : Flow → Sem PySem.Fin} {J : Value → Sem PySem.Fin} {gd : Bool → Bool} {lv : List Value → List Value}
theorem sg_cons {st : Stmt} {rest : List Stmt} (q : SegH M A R Y n h sB c ((exec st env).wrap (fun f => match f with | .next => (execs rest env).wrap K J gd lv | f => K f) J gd lv) fs s) : SegH M A R Y n h sB c ((execs (st :: rest) env).wrap K J gd lv) fs s := by
  rw [execs_cons_wrap]
  exact q
theorem sg_outY {e : Expr} {yp pos : Pos} (hs : splitAtGen fs = none) (hg : gd false = false) (hf : fs.any Frame.guarded = false)
    (q : wpAny M (A.over c fs) (eval e env) (fun v s2 => ∀ kap : η → Resume → Shared → Prop, (∀ h3 s3, SegH M A R Y n h3 s3 c (K .next) fs s3 → kap h3 (.send .none) s3) → Y n h sB v s2 kap) (fun x s2 => SegH M A R Y (n + 1) h sB c (J x) fs s2) s)
    (hc : env.scope.isCoroutine = false := by rfl) (hi : interactive env = false := by rfl) : SegH M A R Y (n + 1) h sB c ((exec (.Expr (.Yield (some e) yp) pos) env).wrap K J gd lv) fs s := by
  rw [exec_Expr env _ pos hi rfl]
  show SegH M A R Y (n + 1) h sB c (.at pos fun _ => ((eval e env >>= fun v => (standAt yp >>= fun _ => yieldOut env v)) >>= fun x => dropValue (.Yield (some e) yp) pos x).wrap K J gd lv) fs s
  have ey : ∀ v, yieldOut env v = yieldValue v := fun v => by simp only [yieldOut, hc, Bool.false_eq_true, if_false]
  simp only [ey]
  refine sg_at ?_
  rw [Sem.bind_eq_wrap', Sem.bind_eq_wrap', Sem.wrap_wrap, Sem.wrap_wrap]
  refine sg_wrap (wpAny_mono q (fun v s2 z => ?_) fun _ _ z => z)
  refine sg_at ?_
  have e0 : gd false = false := hg
  show SegH M A R Y (n + 1) h sB c (.yield v (gd false) _ _) fs s2
  rw [e0]
  refine sg_yield hs hf ?_
  refine z _ fun h3 s3 w => ?_
  exact w
theorem sg_For {tg iter : Expr} {body : List Stmt} {pos : Pos} (hs : ∀ x, foldedSetIterable iter env x = pure x)
    (q : wpAny M (A.over c fs) (eval iter env) (fun x s1 => wpAny M (A.over c fs) (pyIter x) (fun it s2 => ∀ p, SegH M A R Y n h sB (.forLoop tg it body [] env) (M.den (.forLoop tg it body [] env)) (.ret (fun r => ((match r with | .ok f => (.pure f : Sem Flow) | .error e => .raise e).onRaise (cameBack env)).wrap K J gd lv) none (gd false) (lv []) c p [] :: fs) s2) (fun x s' => SegH M A R Y n h sB c (J x) fs s') s1) (fun x s' => SegH M A R Y n h sB c (J x) fs s') s) :
    SegH M A R Y n h sB c ((exec (.For tg iter body [] pos) env).wrap K J gd lv) fs s := by
  rw [exec_For]
  show SegH M A R Y n h sB c (.at pos fun _ => (eval iter env >>= fun v => (foldedSetIterable iter env v >>= fun x => (standAt iter.pos >>= fun _ => (holding [x] (pyIter x) >>= fun it => runOwn (.forLoop tg it body [] env) env)))).wrap K J gd lv) fs s
  refine sg_at ?_
  rw [Sem.bind_eq_wrap', Sem.wrap_wrap]
  refine sg_wrap (wpAny_mono q (fun x s1 h1 => ?_) fun _ _ z => z)
  rw [hs x]
  show SegH M A R Y n h sB c (.at iter.pos fun _ => (holding [x] (pyIter x) >>= fun it => runOwn (.forLoop tg it body [] env) env).wrap K J (gd ∘ id) (lv ∘ id)) fs s1
  refine sg_at ?_
  rw [Sem.bind_eq_wrap', Sem.wrap_wrap]
  refine sg_wrap (wpAny_holding (wpAny_mono h1 (fun it s2 h2 => ?_) fun _ _ z => z))
  exact sg_call h2
end
section
variable {η : Type} {prog : Program} {w : World} {A : Around} {R : REnd η} {Y : YOut η} {n : Nat} {h : η} {sB s : Shared} {fs : List Frame} {env : Env}
theorem sg_forLoop {tg : Expr} {it : Value} {body : List Stmt}
    (q : wpAny (model prog w) (A.over (.forLoop tg it body [] env) fs) (pyNext it) (fun r s1 => match r with
        | none => SegH (model prog w) A R Y n h sB (.block [] env) ((model prog w).den (.block [] env)) fs s1
        | some v => wpAny (model prog w) (A.over (.forLoop tg it body [] env) fs) (letOwnedTupleGo tg it v) (fun _ s2 =>
            wpAny (model prog w) (A.over (.forLoop tg it body [] env) fs) (assign tg env v) (fun _ s3 =>
              SegH (model prog w) A R Y n h sB (.forLoop tg it body [] env) ((execs body env).wrap (GF.Back tg it body env) (GF.Out env) id id) fs s3)
              (fun x s' => SegH (model prog w) A R Y n h sB (.forLoop tg it body [] env) (GF.Out env x) fs s') s2)
            (fun x s' => SegH (model prog w) A R Y n h sB (.forLoop tg it body [] env) (GF.Out env x) fs s') s1)
      (fun x s' => SegH (model prog w) A R Y n h sB (.forLoop tg it body [] env) (GF.Out env x) fs s') s) :
    SegH (model prog w) A R Y n h sB (.forLoop tg it body [] env) ((model prog w).den (.forLoop tg it body [] env)) fs s := by
  show SegH _ A R Y n h sB _ ((forTurn tg it body [] env).onRaise (fun x => do noteFrame x env; theTreesLotGoes x)) fs s
  have eH : (fun e => ((do noteFrame e env; theTreesLotGoes e : Sem Unit).bind fun _ => (.raise e : Sem PySem.Fin))) = GF.Out env := funext fun e => Sem.bind_eq_wrap _ _
  unfold forTurn
  rw [Sem.onRaise_eq_wrap, eH]
  refine sg_at ?_
  rw [Sem.bind_eq_wrap', Sem.onRaise_eq_wrap]
  show SegH _ A R Y n h sB _ (Sem.wrap Sem.pure (GF.Out env) id id (Sem.wrap _ Sem.raise id id (Sem.wrap Sem.pure _ id id (pyNext it)))) fs s
  rw [Sem.wrap_wrap, Sem.wrap_wrap]
  refine sg_wrap (wpAny_mono q (fun r s1 h1 => ?_) fun e s' h' => ?_)
  · cases r with
    | none => exact sg_again rfl h1
    | some v =>
      show SegH _ A R Y n h sB _ (Sem.wrap Sem.pure (GF.Out env) id id (letOwnedTupleGo tg it v >>= fun _ => (assign tg env v >>= fun _ => (execs body env >>= fun f => _)))) fs s1
      rw [Sem.bind_eq_wrap', Sem.wrap_wrap]
      refine sg_wrap (wpAny_mono h1 (fun _ s2 h2 => ?_) fun _ _ z => z)
      rw [Sem.bind_eq_wrap', Sem.wrap_wrap]
      refine sg_wrap (wpAny_mono h2 (fun _ s3 h3 => ?_) fun _ _ z => z)
      rw [Sem.bind_eq_wrap', Sem.wrap_wrap]
      refine Eq.mp (congrArg (fun z => SegH (model prog w) A R Y n h sB (.forLoop tg it body [] env) z fs s3) (Sem.wrap_congr (execs body env) (K := GF.Back tg it body env) (H := GF.Out env) id id (fun f => ?_) (fun e => rfl))) h3
      cases f <;> rfl
  · exact sg_at h'
theorem sg_func {body : List Stmt} (q : SegH (model prog w) A R Y n h sB (.func body env) ((execs body env).wrap (fun f => .pure (.done (.ret (match f with | .ret v => v | _ => .none)))) (fun e => (leaving env e).wrap (fun _ => .raise e) .raise id id) id id) fs s) :
    SegH (model prog w) A R Y n h sB (.func body env) ((model prog w).den (.func body env)) fs s := by
  show SegH _ A R Y n h sB _ (.point [] fun _ => ((execs body env).onRaise (leaving env)) >>= _) fs s
  refine sg_point ?_
  rw [Sem.onRaise_eq_wrap, Sem.bind_eq_wrap', Sem.wrap_wrap]
  refine Eq.mp (congrArg (fun z => SegH (model prog w) A R Y n h sB (.func body env) z fs s) (Sem.wrap_congr (execs body env) (K := fun f => (.pure (.done (.ret (match f with | .ret v => v | _ => .none))) : Sem PySem.Fin)) (H := fun e => (leaving env e).wrap (fun _ => (.raise e : Sem PySem.Fin)) .raise id id) id id (fun f => ?_) (fun e => ?_))) q
  · cases f <;> rfl
  · rw [Sem.bind_eq_wrap, Sem.wrap_wrap]
    rfl
end
end GH
/-! ### a generator def's body, whose consumer may do as it likes between two items, as long as what is tracked stays -/
namespace GH
open PySem PySem.Spec PyProof.Rows L2 CC
def cutHeap (n : Nat) (h : Heap) : Heap := ⟨h.objs.extract 0 n, h.life⟩
theorem ext_get {α : Type} (xs : Array α) (n b : Nat) : (xs.extract 0 n)[b]? = if b < n then xs[b]? else none := by
  rw [Array.getElem?_extract]
  by_cases hb : b < n
  · rw [if_pos hb]
    by_cases hs : b < xs.size
    · rw [if_pos (show b < min n xs.size - 0 by omega), Nat.zero_add]
    · rw [if_neg (show ¬ b < min n xs.size - 0 by omega), Array.getElem?_eq_none (by omega)]
  · rw [if_neg hb, if_neg (show ¬ b < min n xs.size - 0 by omega)]
theorem cut_get (n : Nat) (h : Heap) (b : Addr) : (cutHeap n h).get? b = if b < n then h.get? b else none := by
  unfold cutHeap Heap.get?
  show (match (h.objs.extract 0 n)[b]? with | some ⟨_, _, .freed, _⟩ => none | o => o) = _
  rw [ext_get]
  by_cases hb : b < n
  · rw [if_pos hb, if_pos hb]
    rfl
  · rw [if_neg hb, if_neg hb]
theorem cut_size {n : Nat} {h : Heap} (hn : n ≤ h.objs.size) : (cutHeap n h).objs.size = n := by
  show (h.objs.extract 0 n).size = n
  rw [Array.size_extract]
  omega
abbrev cutS (n : Nat) (s : Shared) : Shared := { s with heap := cutHeap n s.heap }
def cutH (n : Nat) (H : Hp) : Hp := fun b => if b < n then H b else none
theorem cutH_lt {n : Nat} {H : Hp} {b : Addr} (h : b < n) : cutH n H b = H b := if_pos h
/-- the context of a generator's segment: it began with s0, H0 -/
abbrev rb (X : Cx) (s0 : Shared) (H0 : Hp) : Cx := { X with s_0 := s0, H_0 := H0, xe := fun _ _ => False }
structure GX (X : Cx) (n0 : Nat) : Prop where
  cells : X.env.cells = []
  loc : X.env.locals = n0
  ex : X.ex = []
  pn : ∀ p ∈ X.pn, n0 ≤ p.1
  bsz : X.base.objs.size ≤ n0
  fs : ∀ b ∈ X.fs, b < n0
/-- the generator runs; Hs, sB: what stood when it was woken last -/
structure GIH (X : Cx) (n0 : Nat) (Hs : Hp) (sB : Shared) (ip : List (Addr × Obj)) (σ : L2.St) (H : Hp) (s : Shared) : Prop where
  inv : Inv (rb X (cutS n0 sB) (cutH n0 Hs)) ip σ H s
  ipn : ∀ p ∈ ip, n0 ≤ p.1
  siz : n0 ≤ sB.heap.objs.size
/-- while it sleeps -/
structure WokeG (P : Program) (w : World) (base : Heap) (outer : List Env) (n0 : Nat) (H : Hp) (s : Shared) (H2 : Hp) (s2 : Shared) : Prop where
  bs : ∀ b o, base.get? b = some o → s2.heap.get? b = some o ∧ H2 b = none
  funs : s2.heap.FunFrames base outer
  frf : ∀ b ∈ frs outer, H2 b = none
  hok : HOk P w H2 s2.heap
  bare : AllBare s2.gens
  os : s2.os = s.os
  same : Same H H2
  own : ∀ b o, n0 ≤ b → s.heap.get? b = some o → H b = none → (∀ v, o.data ≠ .cell v) → s2.heap.get? b = some o ∧ H2 b = none
abbrev Woke (X : Cx) (n0 : Nat) (H : Hp) (s : Shared) (H2 : Hp) (s2 : Shared) : Prop := WokeG X.prog X.w X.base X.outer n0 H s H2 s2
theorem fun_cut {h base : Heap} {n : Nat} : ∀ {l : List Env}, h.FunFrames base l → (∀ b ∈ frs l, b < n) → (cutHeap n h).FunFrames base l
  | [], _, _ => trivial
  | env :: l, ⟨k, ⟨L, o, f, nb, e, d⟩, r⟩, hb => by
    have eL : frs (env :: l) = L :: frs l := by
      unfold frs
      rw [List.filterMap_cons_some f]
    refine ⟨k, ⟨L, o, f, nb, ?_, d⟩, fun_cut r fun b hm => hb b (by rw [eL]; exact List.mem_cons_of_mem _ hm)⟩
    rw [cut_get, if_pos (hb L (by rw [eL]; exact List.mem_cons_self))]
    exact e
section
variable {X : Cx} {n0 : Nat} {Hs H H2 : Hp} {sB s s2 : Shared} {ip : List (Addr × Obj)} {σ : L2.St}
theorem woke_size {s0 : Shared} {H0 : Hp} (g : GX X n0) (I : Inv (rb X s0 H0) ip σ H s) (z : Woke X n0 H s H2 s2) : n0 < s2.heap.objs.size := by
  obtain ⟨m, hn, _⟩ := I.loc
  obtain ⟨o, es, ep, ho, hd, _⟩ := id hn
  have hf := I.free
  have e : (rb X s0 H0).env.locals = n0 := g.loc
  rw [e] at ho hf
  exact Heap.lt_size (z.own n0 o (Nat.le_refl _) ho hf fun v q => by rw [hd] at q; cases q).1
theorem rebase {s0 : Shared} {H0 : Hp} (g : GX X n0) (I : Inv (rb X s0 H0) ip σ H s) (ipn : ∀ p ∈ ip, n0 ≤ p.1) (z : Woke X n0 H s H2 s2) : GIH X n0 H2 s2 ip σ H2 s2 := by
  have sz := woke_size g I z
  have el : X.env.locals = n0 := g.loc
  have ek : ∀ (x : Str) (c : Addr), X.env.cells.lookup x = some c → False := fun x c e => by rw [g.cells] at e; cases e
  have eks : (cutS n0 s2).heap.objs.size = n0 := cut_size (Nat.le_of_lt sz)
  refine ⟨⟨⟨I.ok.mod, I.ok.kind, I.ok.glob, I.ok.blt, ?_, I.ok.inj, I.ok.has, ?_, I.ok.hd, I.ok.frames, I.ok.stk, I.ok.exf, ?_, ?_, I.ok.noex, I.ok.exfs, ?_, ?_⟩, rfl, z.bare, ⟨?_, ?_, ?_, ?_, ?_, ?_, ?_⟩, ?_, ?_, ?_, ?_, ?_, z.hok, I.len⟩, ipn, Nat.le_of_lt sz⟩
  · show (cutS n0 s2).heap.objs.size ≤ X.env.locals
    rw [eks, el]
    exact Nat.le_refl _
  · exact fun x c _ e => (ek x c e).elim
  · intro b o e
    have hb : b < n0 := Nat.lt_of_lt_of_le (Heap.lt_size e) g.bsz
    obtain ⟨q1, q2⟩ := z.bs b o e
    refine ⟨?_, ?_⟩
    · show (cutHeap n0 s2.heap).get? b = some o
      rw [cut_get, if_pos hb]
      exact q1
    · show cutH n0 H2 b = none
      rw [cutH_lt hb]
      exact q2
  · show X.base.objs.size ≤ (cutS n0 s2).heap.objs.size
    rw [eks]
    exact g.bsz
  · exact fun_cut z.funs g.fs
  · intro b hb
    show cutH n0 H2 b = none
    rw [cutH_lt (g.fs b hb)]
    exact z.frf b hb
  · intro b o e _ _ _
    have e : (cutHeap n0 s2.heap).get? b = some o := e
    rw [cut_get] at e
    split at e
    · exact e
    · cases e
  · intro b o e _ _ _
    have e : (cutHeap n0 s2.heap).get? b = some o := e
    rw [cut_get] at e
    split at e
    · exact ⟨o.slots, e⟩
    · cases e
  · intro b o e q _
    have e : (cutHeap n0 s2.heap).get? b = some o := e
    rw [cut_get] at e
    split at e
    · rename_i hb
      have q : cutH n0 H2 b = none := q
      rwa [cutH_lt hb] at q
    · cases e
  · intro b o e _
    have e : (cutHeap n0 s2.heap).get? b = some o := e
    rw [cut_get] at e
    split at e
    · exact ⟨o, e⟩
    · cases e
  · intro b xs q
    have q : cutH n0 H2 b = some (.tup xs) := q
    unfold cutH at q
    split at q
    · exact q
    · cases q
  · intro b o u q
    have q : cutH n0 H2 b = some (.frz o u) := q
    unfold cutH at q
    split at q
    · exact q
    · cases q
  · intro b ps q
    have q : cutH n0 H2 b = some (.tbl ps) := q
    unfold cutH at q
    split at q
    · exact ⟨#[], by rw [q]; simp⟩
    · cases q
  · obtain ⟨m, hn, look⟩ := I.loc
    obtain ⟨o, es, ep, ho, hd, r⟩ := id hn
    have hf : H X.env.locals = none := I.free
    have ho : s.heap.get? X.env.locals = some o := ho
    refine ⟨m, ⟨o, es, ep, ?_, hd, r⟩, fun i x v h1 h2 h3 => ?_⟩
    · exact (z.own X.env.locals o (Nat.le_of_eq el.symm) ho hf fun v q => by rw [hd] at q; cases q).1
    · obtain ⟨u, ru, lk⟩ := look i x v h1 h2 h3
      refine ⟨u, ru, ?_⟩
      rcases lk with lk | ⟨_, c, e, _⟩
      · exact .inl lk
      · exact (ek x c e).elim
  · exact fun x c e => (ek x c e).elim
  · obtain ⟨m, hn, _⟩ := I.loc
    obtain ⟨o, es, ep, ho, hd, r⟩ := id hn
    exact (z.own X.env.locals o (Nat.le_of_eq el.symm) ho I.free fun v q => by rw [hd] at q; cases q).2
  · exact fun x c e => (ek x c e).elim
  · intro p hp
    obtain ⟨q1, q2, q3, q4, q5⟩ := I.pin p hp
    have hb : n0 ≤ p.1 := (List.mem_append.mp hp).elim (g.pn p) (ipn p)
    obtain ⟨y1, y2⟩ := z.own p.1 p.2 hb q1 q2 q5
    exact ⟨y1, y2, q3, q4, q5⟩
theorem GIH.woken (g : GX X n0) (w : GIH X n0 Hs sB ip σ H s) (z : Woke X n0 H s H2 s2) : GIH X n0 H2 s2 ip σ H2 s2 := rebase g w.inv w.ipn z
end
/-- what is wanted behind a statement; the number of items that are out; what stood when it was woken last -/
structure GE where
  nx : Nat → Hp → L2.St → Hp → Prop
  rt : Nat → Hp → VK
  bk : Nat → Hp → L2.St → Hp → Prop := fun _ _ _ _ => False
  ct : Nat → Hp → L2.St → Hp → Prop := fun _ _ _ _ => False
abbrev TGH := GE → Nat → Hp → L2.St → Hp → Prop
def GE.at (D : GE) (i : Nat) (Hs : Hp) : Ends := { nx := D.nx i Hs, rt := D.rt i Hs, bk := D.bk i Hs, ct := D.ct i Hs }
def GP (X : Cx) (n0 : Nat) (ip : List (Addr × Obj)) (D : GE) (i : Nat) (Hs : Hp) (sB : Shared) (f : Flow) (s : Shared) : Prop := match f with
  | .next => ∃ σ H, GIH X n0 Hs sB ip σ H s ∧ D.nx i Hs σ H
  | .brk => ∃ σ H, GIH X n0 Hs sB ip σ H s ∧ D.bk i Hs σ H
  | .cont => ∃ σ H, GIH X n0 Hs sB ip σ H s ∧ D.ct i Hs σ H
  | .ret u => ∃ v σ H, GIH X n0 Hs sB ip σ H s ∧ RelV v u ∧ D.rt i Hs v H
abbrev YpT := Nat → V → Hp → Prop
def YH (X : Cx) (n0 N : Nat) (Yp : YpT) : YOut Hp := fun n h sB v s kap =>
  ∃ i x ip σ H, n + 1 + i = N ∧ RelV x v ∧ GIH X n0 h sB ip σ H s ∧ Same h H ∧ Yp i x H ∧ ∀ H2 s2, Woke X n0 H s H2 s2 → kap H2 (.send .none) s2
structure GCH (X : Cx) (A : Around) (c : Code) (fs : List Frame) (gd : Bool → Bool) : Prop where
  over : A.over c fs = X.A
  split : splitAtGen fs = none
  guard : fs.any Frame.guarded = false
  gd : gd false = false
def GKH (X : Cx) (n0 N : Nat) (Yp : YpT) (ip : List (Addr × Obj)) (A : Around) (R : REnd Hp) (c : Code) (fs : List Frame) (K : Flow → Sem PySem.Fin) (D : GE) : Prop :=
  ∀ (n i : Nat) (Hs : Hp) (sB s : Shared) (f : Flow), n + i = N → GP X n0 ip D i Hs sB f s → SegH (model X.prog X.w) A R (YH X n0 N Yp) n Hs sB c (K f) fs s
structure GSH (X : Cx) (n0 N : Nat) (Yp : YpT) (st : Stmt) (t : TGH) : Prop where
  run : ∀ (A : Around) (ip : List (Addr × Obj)) (R : REnd Hp) (n i : Nat) (Hs : Hp) (sB : Shared) (c : Code) (fs : List Frame) (K : Flow → Sem PySem.Fin) (J : Value → Sem PySem.Fin) (gd : Bool → Bool) (lv : List Value → List Value) (s : Shared) (σ : L2.St) (H : Hp) (D : GE),
    GCH X A c fs gd → n + i = N → GKH X n0 N Yp ip A R c fs K D → GIH X n0 Hs sB ip σ H s → t D i Hs σ H → SegH (model X.prog X.w) A R (YH X n0 N Yp) n Hs sB c ((exec st X.env).wrap K J gd lv) fs s
structure GSsH (X : Cx) (n0 N : Nat) (Yp : YpT) (st : List Stmt) (t : TGH) : Prop where
  run : ∀ (A : Around) (ip : List (Addr × Obj)) (R : REnd Hp) (n i : Nat) (Hs : Hp) (sB : Shared) (c : Code) (fs : List Frame) (K : Flow → Sem PySem.Fin) (J : Value → Sem PySem.Fin) (gd : Bool → Bool) (lv : List Value → List Value) (s : Shared) (σ : L2.St) (H : Hp) (D : GE),
    GCH X A c fs gd → n + i = N → GKH X n0 N Yp ip A R c fs K D → GIH X n0 Hs sB ip σ H s → t D i Hs σ H → SegH (model X.prog X.w) A R (YH X n0 N Yp) n Hs sB c ((execs st X.env).wrap K J gd lv) fs s
section
variable {X : Cx} {n0 N : Nat} {Yp : YpT} {st : Stmt} {rest : List Stmt}
def tP (t : TS) : TGH := fun D i Hs σ H => t (D.at i Hs) σ H
theorem h_ps {t : TS} (h : ∀ s0 H0, PS (rb X s0 H0) st t) : GSH X n0 N Yp st (tP t) := by
  refine ⟨fun A ip R n i Hs sB c fs K J gd lv s σ H D g hn k w ht => ?_⟩
  refine sg_wrap ?_
  rw [g.over]
  refine wpAny_mono ((h _ _).run ip s σ H (D.at i Hs) w.inv ht) (fun f s2 z => k n i Hs sB s2 f hn ?_) fun _ _ z => z.elim
  cases f with
  | next => obtain ⟨σ2, H2, I, q⟩ := z; exact ⟨σ2, H2, ⟨I, w.ipn, w.siz⟩, q⟩
  | brk => obtain ⟨σ2, H2, I, q⟩ := z; exact ⟨σ2, H2, ⟨I, w.ipn, w.siz⟩, q⟩
  | cont => obtain ⟨σ2, H2, I, q⟩ := z; exact ⟨σ2, H2, ⟨I, w.ipn, w.siz⟩, q⟩
  | ret u => obtain ⟨v, σ2, H2, I, rv, q⟩ := z; exact ⟨v, σ2, H2, ⟨I, w.ipn, w.siz⟩, rv, q⟩
def tH0 : TGH := fun D i Hs σ H => D.nx i Hs σ H
theorem hs_nil : GSsH X n0 N Yp [] tH0 := ⟨fun A ip R n i Hs sB c fs K J gd lv s σ H D g hn k w ht => k n i Hs sB s .next hn ⟨σ, H, w, ht⟩⟩
def tThen (t u : TGH) : TGH := fun D i Hs σ H => t { D with nx := fun i2 Hs2 σ2 H2 => u D i2 Hs2 σ2 H2 } i Hs σ H
theorem hs_cons {t u : TGH} (a : GSH X n0 N Yp st t) (b : GSsH X n0 N Yp rest u) : GSsH X n0 N Yp (st :: rest) (tThen t u) := by
  refine ⟨fun A ip R n i Hs sB c fs K J gd lv s σ H D g hn k w ht => ?_⟩
  refine sg_cons ?_
  refine a.run A ip R n i Hs sB c fs _ J gd lv s σ H { D with nx := fun i2 Hs2 σ2 H2 => u D i2 Hs2 σ2 H2 } g hn (fun n2 i2 Hs2 sB2 s2 f hn2 z => ?_) w ht
  cases f with
  | next =>
    obtain ⟨σ2, H2, w2, q⟩ := z
    exact b.run A ip R n2 i2 Hs2 sB2 c fs K J gd lv s2 σ2 H2 D g hn2 k w2 q
  | brk => exact k n2 i2 Hs2 sB2 s2 .brk hn2 z
  | cont => exact k n2 i2 Hs2 sB2 s2 .cont hn2 z
  | ret u => exact k n2 i2 Hs2 sB2 s2 (.ret u) hn2 z
def tIf (tc : TT) (t u : TGH) : TGH := fun D i Hs σ H => tc σ H fun b H1 => if b = true then t D i Hs σ H1 else u D i Hs σ H1
theorem h_if {test : Expr} {body orelse : List Stmt} {tc : TT} {t u : TGH} {pos : Pos} (hc : ∀ s0 H0, PT (rb X s0 H0) test tc) (ha : GSsH X n0 N Yp body t) (hb : GSsH X n0 N Yp orelse u) : GSH X n0 N Yp (.If test body orelse pos) (tIf tc t u) := by
  refine ⟨fun A ip R n i Hs sB c fs K J gd lv s σ H D g hn k w ht => ?_⟩
  show SegH _ A R _ n Hs sB c (.at pos fun _ => (isTrue test X.env (eval test X.env) >>= fun b => if b = true then execs body X.env else execs orelse X.env).wrap K J gd lv) fs s
  refine sg_at ?_
  rw [Sem.bind_eq_wrap', Sem.wrap_wrap]
  refine sg_wrap ?_
  rw [g.over]
  refine wpAny_mono ((hc _ _).run ip s σ H _ w.inv ht) (fun b s1 z => ?_) fun _ _ z => z.elim
  obtain ⟨H1, I1, q1⟩ := z
  cases b with
  | true =>
    rw [if_pos rfl] at q1
    exact ha.run A ip R n i Hs sB c fs K J gd lv s1 σ H1 D g hn k ⟨I1, w.ipn, w.siz⟩ q1
  | false =>
    rw [if_neg Bool.false_ne_true] at q1
    exact hb.run A ip R n i Hs sB c fs K J gd lv s1 σ H1 D g hn k ⟨I1, w.ipn, w.siz⟩ q1
/-- an item goes out; whoever took it may add to the heap -/
def tY (N : Nat) (Yp : YpT) (te : TE) : TGH := fun D i Hs σ H => i < N ∧ te σ H fun x H1 => Same Hs H1 ∧ Yp i x H1 ∧ ∀ H2, Same H1 H2 → D.nx (i + 1) H2 σ H2
theorem h_yield {e : Expr} {yp pos : Pos} {te : TE} (gx : GX X n0) (he : ∀ s0 H0, PE (rb X s0 H0) e te) (hco : X.env.scope.isCoroutine = false := by rfl) (hi : interactive X.env = false := by rfl) : GSH X n0 N Yp (.Expr (.Yield (some e) yp) pos) (tY N Yp te) := by
  refine ⟨fun A ip R n i Hs sB c fs K J gd lv s σ H D g hn k w ht => ?_⟩
  obtain ⟨hlt, ht⟩ := ht
  obtain ⟨n, rfl⟩ : ∃ m, n = m + 1 := ⟨n - 1, by omega⟩
  refine sg_outY g.split g.gd g.guard ?_ hco hi
  rw [g.over]
  refine wpAny_mono ((he _ _).run ip s σ H _ w.inv ht) (fun v s2 z => ?_) fun _ _ z => z.elim
  obtain ⟨x, H1, I1, rv, q1, q2, q3⟩ := z
  have w1 : GIH X n0 Hs sB ip σ H1 s2 := ⟨I1, w.ipn, w.siz⟩
  intro kap hk
  refine ⟨i, x, ip, σ, H1, hn, rv, w1, q1, q2, fun H3 s3 y => hk H3 s3 ?_⟩
  exact k n (i + 1) H3 s3 s3 .next (by omega) ⟨σ, H3, w1.woken gx y, q3 H3 y.same⟩
end
end GH
/-! ### for in a generator's body -/
namespace GH
open PySem PySem.Spec PyProof.Rows L2 CC
def tForH (wi : TI) (g : TG) (tb : TGH) : TGH := fun D i Hs σ H => wi σ H fun J H1 => ∃ W : Nat → Nat → Nat → Hp → L2.St → Hp → Prop, (∃ m, W 0 m i Hs σ H1) ∧ ∀ j m i Hs σ H, W j m i Hs σ H →
  (J.stop j H ∧ D.nx i Hs σ H) ∨ (J.go j H ∧ ∃ N : Nat → Hp → L2.St → Hp → Prop, (∀ i2 Hs2 σ2 H2, N i2 Hs2 σ2 H2 → ∃ m2, m2 < m ∧ W (j + 1) m2 i2 Hs2 σ2 H2) ∧ ∀ x H2, J.yld j H x H2 → g x σ H2 fun σ3 H3 => tb { D with nx := N, ct := N, bk := D.nx } i Hs σ3 H3)
section
variable {X : Cx} {n0 N : Nat} {Yp : YpT}
/-- the iterator's own objects, whatever the segment began with -/
theorem fp_rb {Hs : Hp} {sB : Shared} {ip : List (Addr × Obj)} {H : Hp} {b : Addr} (gx : GX X n0) (hs : n0 ≤ sB.heap.objs.size) (f : FpOk (rb X (cutS n0 sB) (cutH n0 Hs)) ip H b) : n0 ≤ b ∧ ∀ {Hs2 : Hp} {sB2 : Shared} {H2 : Hp}, n0 ≤ sB2.heap.objs.size → H2 b = none → FpOk (rb X (cutS n0 sB2) (cutH n0 Hs2)) ip H2 b := by
  obtain ⟨z0, z1, z2, z3, z4, z5⟩ := f
  have hb : n0 ≤ b := by
    rcases z3 with z | z
    · have z : b ∈ X.ex := z
      rw [gx.ex] at z
      cases z
    · have z : (cutHeap n0 sB.heap).objs.size ≤ b := z
      rwa [cut_size hs] at z
  refine ⟨hb, fun {Hs2 sB2 H2} h2 hn => ⟨hn, z1, z2, .inr ?_, z4, z5⟩⟩
  show (cutHeap n0 sB2.heap).objs.size ≤ b
  rw [cut_size h2]
  exact hb
theorem h_for {tg iter : Expr} {body : List Stmt} {wi : TI} {g : TG} {tb : TGH} {pos : Pos} (gx : GX X n0) (hc : X.calm = true) (hi : ∀ s0 H0, PI (rb X s0 H0) tg iter wi) (hg : ∀ s0 H0, PG (rb X s0 H0) tg g) (hb : GSsH X n0 N Yp body tb)
    (hs : ∀ x, foldedSetIterable iter X.env x = pure x := by intro _; rfl) : GSH X n0 N Yp (.For tg iter body [] pos) (tForH wi g tb) := by
  refine ⟨fun A ip R n i Hs sB c fs K J gd lv s σ H D g1 hn k w ht => ?_⟩
  refine sg_For hs ?_
  rw [g1.over]
  refine wpAny_mono ((hi _ _).run ip s σ H _ w.inv ht) (fun v s1 h1 => wpAny_mono h1 (fun itv s2 h2 p => ?_) fun _ _ z => z.elim) fun _ _ z => z.elim
  obtain ⟨it, fp, tn, Jt, H2, e, I2, T, st2, f2, W, ⟨m0, w0⟩, turn⟩ := h2
  subst e
  have stat : ∀ b ∈ fp, n0 ≤ b ∧ ∀ {Hs2 : Hp} {sB2 : Shared} {H2 : Hp}, n0 ≤ sB2.heap.objs.size → H2 b = none → FpOk (rb X (cutS n0 sB2) (cutH n0 Hs2)) ip H2 b := fun b hb => fp_rb gx w.siz (f2 b hb)
  have gl : ∀ kk : Result → Sem PySem.Fin, GCH X A (.forLoop tg (.ref it) body [] X.env) (.ret kk none (gd false) (lv []) c p [] :: fs) id := fun kk => by
    refine ⟨(GenW.over_loop rfl rfl).trans g1.over, ?_, ?_, rfl⟩
    · show (splitAtGen fs).map _ = none
      rw [g1.split]
      rfl
    · show (gd false || fs.any Frame.guarded) = false
      rw [g1.gd, g1.guard]
      rfl
  have loop : ∀ (m j n i : Nat) (Hs : Hp) (sB s : Shared) (σ : L2.St) (H : Hp), n + i = N → W j m i Hs σ H → GIH X n0 Hs sB ip σ H s → tn j s.heap → (∀ b ∈ fp, H b = none) →
      SegH (model X.prog X.w) A R (YH X n0 N Yp) n Hs sB (.forLoop tg (.ref it) body [] X.env) ((model X.prog X.w).den (.forLoop tg (.ref it) body [] X.env))
        (.ret (fun r => ((match r with | .ok f => (.pure f : Sem Flow) | .error e => .raise e).onRaise (cameBack X.env)).wrap K J gd lv) none (gd false) (lv []) c p [] :: fs) s := by
    intro m
    induction m using Nat.strongRecOn with
    | ind m ih =>
      intro j n i Hs sB s σ H hn ww w st fr
      refine sg_forLoop ?_
      rw [(gl _).over]
      rcases turn j m i Hs σ H ww with ⟨stop, qn⟩ | ⟨go, N1, hN, step⟩
      · refine wpAny_mono (T.done (rb X (cutS n0 sB) (cutH n0 Hs)) rfl rfl rfl hc j _ s σ H (fun _ _ => False) w.inv (fun b hb => (stat b hb).2 w.siz (fr b hb)) st stop) (fun q s4 z => ?_) fun _ _ z => z.elim
        obtain ⟨rfl, I4⟩ := z
        show SegH _ A R _ n Hs sB _ (.pure (.done .next)) _ s4
        exact sg_leaf (.ok .next) (k n i Hs sB s4 .next hn ⟨σ, H, ⟨I4, w.ipn, w.siz⟩, qn⟩)
      · refine wpAny_mono (T.item (rb X (cutS n0 sB) (cutH n0 Hs)) rfl rfl rfl hc j _ s σ H (fun _ _ => False) w.inv (fun b hb => (stat b hb).2 w.siz (fr b hb)) st go) (fun q s4 z => ?_) fun _ _ z => z.elim
        obtain ⟨u, rfl, h4⟩ := z
        refine wpAny_mono h4 (fun _ s5 z => ?_) fun _ _ z => z.elim
        obtain ⟨x, H5, I5, r5, y5, st5, fr5⟩ := z
        have I5p := I5.pinned (fun b hb => (stat b hb).2 w.siz (fr5 b hb)) (T.obj _ _ st5)
        refine wpAny_mono ((hg _ _).run _ s5 σ H5 x u _ I5p r5 (step x H5 y5)) (fun _ s6 z => ?_) fun _ _ z => z.elim
        obtain ⟨σ6, H6, I6, q6⟩ := z
        have ipn6 : ∀ p ∈ ip ++ pinsAt fp s5.heap, n0 ≤ p.1 := fun p hp => (List.mem_append.mp hp).elim (w.ipn p) fun y => (stat p.1 (of_pinsAt y).1).1
        have back : ∀ {Hs7 : Hp} {sB7 : Shared} {σ7 : L2.St} {H7 : Hp} {s7 : Shared}, GIH X n0 Hs7 sB7 (ip ++ pinsAt fp s5.heap) σ7 H7 s7 → GIH X n0 Hs7 sB7 ip σ7 H7 s7 ∧ tn (j + 1) s7.heap ∧ ∀ b ∈ fp, H7 b = none := fun {Hs7 sB7 σ7 H7 s7} w7 => by
          have pin : ∀ b ∈ fp, ∀ o, s5.heap.get? b = some o → s7.heap.get? b = some o ∧ H7 b = none := fun b hb o e => by
            have z := w7.inv.pin (b, o) (List.mem_append_right _ (List.mem_append_right _ (mem_pinsAt hb e)))
            exact ⟨z.1, z.2.1⟩
          refine ⟨⟨Inv.unpinned (pl := pinsAt fp s5.heap) w7.inv, w.ipn, w7.siz⟩, T.keep _ _ _ st5 fun b hb o e => (pin b hb o e).1, fun b hb => ?_⟩
          obtain ⟨o, e, _⟩ := T.obj _ _ st5 b hb
          exact (pin b hb o e).2
        refine hb.run A (ip ++ pinsAt fp s5.heap) R n i Hs sB _ _ _ _ id id s6 σ6 H6 { D with nx := N1, ct := N1, bk := D.nx } (gl _) hn (fun n7 i7 Hs7 sB7 s7 f hn7 z => ?_) ⟨I6, ipn6, w.siz⟩ q6
        cases f with
        | next =>
          obtain ⟨σ7, H7, w7, n7'⟩ := z
          obtain ⟨m', hm, y7⟩ := hN i7 Hs7 σ7 H7 n7'
          obtain ⟨b1, b2, b3⟩ := back w7
          exact sg_again rfl (ih m' hm (j + 1) n7 i7 Hs7 sB7 s7 σ7 H7 hn7 y7 b1 b2 b3)
        | cont =>
          obtain ⟨σ7, H7, w7, n7'⟩ := z
          obtain ⟨m', hm, y7⟩ := hN i7 Hs7 σ7 H7 n7'
          obtain ⟨b1, b2, b3⟩ := back w7
          exact sg_again rfl (ih m' hm (j + 1) n7 i7 Hs7 sB7 s7 σ7 H7 hn7 y7 b1 b2 b3)
        | brk =>
          obtain ⟨σ7, H7, w7, q7⟩ := z
          exact sg_leaf (.ok .next) (k n7 i7 Hs7 sB7 s7 .next hn7 ⟨σ7, H7, (back w7).1, q7⟩)
        | ret v =>
          obtain ⟨x7, σ7, H7, w7, rv, q7⟩ := z
          exact sg_leaf (.ok (.ret v)) (k n7 i7 Hs7 sB7 s7 (.ret v) hn7 ⟨x7, σ7, H7, (back w7).1, rv, q7⟩)
  exact loop m0 0 n i Hs sB s2 σ H2 hn w0 ⟨I2, w.ipn, w.siz⟩ st2 fun b hb => (f2 b hb).1
end
end GH
/-! ### what a generator def promises to whoever walks it -/
namespace GH
open PySem PySem.Spec PyProof.Rows L2 CC GenW
/-- what a segment has done -/
structure SegF (P : Program) (w : World) (outer : List Env) (n0 : Nat) (h : Hp) (sB : Shared) (H : Hp) (s : Shared) : Prop where
  os : s.os = sB.os
  bare : AllBare s.gens
  lim : s.heap.NoLimit
  un : Un (frs outer) [] (cutH n0 h) H (cutHeap n0 sB.heap) s.heap
  hok : HOk P w H s.heap
  same : Same h H
abbrev SpY := List V → Hp → YpT → (Nat → Hp → Prop) → Prop
def YE (P : Program) (w : World) (base : Heap) (outer : List Env) (n0 N : Nat) (a : Addr) (g : Nat) (Yp : YpT) : YOut Hp := fun n h sB v s kap =>
  ∃ i x H, n + 1 + i = N ∧ RelV x v ∧ SegF P w outer n0 h sB H s ∧ s.heap.IsGen a g ∧ H a = none ∧ Yp i x H ∧ ∀ H2 s2, WokeG P w base outer n0 H s H2 s2 → kap H2 (.send .none) s2
def RE (P : Program) (w : World) (outer : List Env) (n0 N : Nat) (a : Addr) (g : Nat) (Q : Nat → Hp → Prop) : REnd Hp := fun n h sB r s =>
  r = .ok (.ret .none) ∧ ∃ i H, n + i = N ∧ SegF P w outer n0 h sB H s ∧ s.heap.IsGen a g ∧ Q i H
/-- a generator that has not begun -/
structure Fresh (P : Program) (w : World) (base : Heap) (k : Nat) (outer : List Env) (H : Hp) (s : Shared) (N : Nat) (Yp : YpT) (Q : Nat → Hp → Prop) (a : Addr) (g : Nat) (c : Code) (s2 : Shared) : Prop where
  lo : s.heap.objs.size ≤ a
  hi : a < s2.heap.objs.size
  gen : s2.heap.IsGen a g
  at_ : s2.gens[g]? = some (.fresh c)
  os : s2.os = s.os
  bare : AllBare s2.gens
  lim : s2.heap.NoLimit
  keep : ∀ b o, s.heap.get? b = some o → s2.heap.get? b = some o
  run : ∀ (A : Around) (H3 : Hp) (s3 : Shared), Room k A → A.frames = some outer → WokeG P w base outer s.heap.objs.size H s2 H3 s3 →
    SegH (model P w) A (RE P w outer s.heap.objs.size N a g Q) (YE P w base outer s.heap.objs.size N a g Yp) N H3 s3 c ((model P w).den c) [] s3
structure GFnH (P : Program) (w : World) (K : PySem.W.Frag) (mg : Str → Option Value) (base : Heap) (k : Nat) (f : Addr) (fd : FuncData) (ps : List Str) (N : Nat) (sp : SpY) : Prop where
  len : ∀ vs H Yp Q, sp vs H Yp Q → vs.length = ps.length
  run : ∀ (A : Around) (outer : List Env) (s : Shared) (H : Hp) (args : Args) (us : List Value) (vs : List V) (Yp : YpT) (Q : Nat → Hp → Prop), Room k A → Env0 P w K mg base A outer s H → BindsTo s fd args (ps.zip us) → Vals vs us → sp vs H Yp Q →
    codeAny (model P w) A (.call (.ref f) args) (fun r s2 => match r with | .ok (.ret u) => ∃ a g c, u = .ref a ∧ Fresh P w base k outer H s N Yp Q a g c s2 | _ => False) s
theorem gfnH_of {P : Program} {w : World} {K : PySem.W.Frag} {mg : Str → Option Value} {base : Heap} {k : Nat} {f : Addr} {name qual : Str} {params : Arguments} {body : List Stmt} {scope : Scope} {dV kV doc pm cdv ct oc : Value} {an od : Option Addr} {osl : Array (Option Value)} {nms ps : List Str} {N : Nat} {sp : SpY}
    (lk : K.lookup f = some ⟨oc, od, .func (PySem.W.fnOf name qual params body scope dV kV doc pm an cdv ct), osl⟩) (hcd : PySem.W.codeIn K cdv qual = true) (S : GScope nms ps scope) (noCells : ∀ n, cellsFrom n scope.names [] = []) (len : ∀ vs H Yp Q, sp vs H Yp Q → vs.length = ps.length)
    (hbody : ∀ (A : Around) (outer : List Env) (s : Shared) (H : Hp) (vs : List V) (Yp : YpT) (Q : Nat → Hp → Prop) (pn : List (Addr × Obj)), Room k (A.deeper (envOfC qual scope s.heap.objs.size f cdv)) → GX (gcxOf P w K mg base nms qual scope f cdv A outer s H L2.E0 pn) s.heap.objs.size → sp vs H Yp Q →
      ∃ t, GSsH (gcxOf P w K mg base nms qual scope f cdv A outer s H L2.E0 pn) s.heap.objs.size N Yp body t ∧ ∀ H2, Same H H2 → t { nx := fun i Hs _ H3 => Same Hs H3 ∧ Q i H3, rt := fun i Hs v H3 => v = .non ∧ Same Hs H3 ∧ Q i H3 } 0 H2 (L2.start nms vs) H2) :
    GFnH P w K mg base (k + 1) f (PySem.W.fnOf name qual params body scope dV kV doc pm an cdv ct) ps N sp := by
  refine ⟨len, fun A outer s H args us vs Yp Q room e0 hb rvs hsp => ?_⟩
  have vl := len _ _ _ _ hsp
  have kin : K.In s.heap := e0.mod.kin.keeps fun b o e => (e0.bs b o e).1
  have lim0 : s.heap.NoLimit := e0.mod.nolimit.keeps fun b o e => (e0.bs b o e).1
  have kinds : ∀ y ∈ ps.zip us, scope.names.lookup y.1 = some .local ∨ (scope.names.lookup y.1 = some .cell ∧ ((cellsFrom (s.heap.objs.size + 1) scope.names []).lookup y.1).isSome = true) := fun y hy => by
    rcases S.par y.1 (List.of_mem_zip (a := y.1) (b := y.2) hy).1 with q | q
    · exact .inl q
    · exact .inr ⟨q, PySem.W.cellsFrom_some _ _ _ (.inl q)⟩
  refine codeAny_call_generator (room.depth) (kin _ _ lk) (by rfl) S.co S.gen (by rfl) (PySem.W.codeRec_of kin hcd) (hb _ _ _ _ ?_)
  refine wpAny_newFunctionEnv_cells S.kind kinds (fun env he s1 x => ?_)
  subst he
  have lim1 : s1.heap.NoLimit := lim0.keeps x.toInCall.keep
  refine ⟨lim1, ?_⟩
  obtain ⟨hh1, tk1, es1, hk1⟩ := x.done
  have os1 : s1.os = s.os := by rw [es1]
  have gens1 : s1.gens = s.gens := by rw [es1]
  have more : s.heap.objs.size < s1.heap.objs.size := x.toInCall.ns.lt
  have kp1 : ∀ b o, s.heap.get? b = some o → s1.heap.get? b = some o := x.toInCall.keep
  have made : ∀ (go : Obj) (nm qn : Value) (tk2 : Nat), go.cls = .type "generator" → go.data = .fields #[.int s1.gens.size 0, nm, qn] → go.slots = #[] → (∀ h : Heap, (h.push go).get? h.objs.size = some go) →
      Fresh P w base (k + 1) outer H s N Yp Q s1.heap.objs.size s1.gens.size (.func body (envOfC qual scope s.heap.objs.size f cdv)) { s1 with gens := s1.gens.push (.fresh (.func body (envOfC qual scope s.heap.objs.size f cdv))), toks := tk2, heap := s1.heap.push go } := by
    intro go nm qn tk2 gcls gdat gslt gpush
    have isG : ∀ h : Heap, h.get? s1.heap.objs.size = some go → h.IsGen s1.heap.objs.size s1.gens.size := fun h e => ⟨go, nm, qn, e, gcls, gdat, gslt⟩
    have old : ∀ b o, s1.heap.get? b = some o → (s1.heap.push go).get? b = some o := fun b o e => Heap.get?_push_of_some _ e
    have noc : ∀ v, go.data ≠ .cell v := fun v q => by rw [gdat] at q; cases q
    refine ⟨Nat.le_of_lt more, ?_, isG _ (gpush _), Array.getElem?_push_size .., os1, ?_, lim1.keeps old, fun b o e => old b o (kp1 b o e), ?_⟩
    · show _ < (s1.heap.push _).objs.size
      rw [Heap.size_push]
      exact Nat.lt_succ_self _
    · exact AllBare.push (by rw [gens1]; exact e0.bare) rfl
    intro Aw H3 s3 roomW frW z
    have e0w : Env0 P w K mg base Aw outer s H := ⟨frW, e0.mod, e0.bs, e0.bsz, e0.funs, e0.frf, e0.hok, e0.bare⟩
    have I1 : Inv (gcxOf P w K mg base nms qual scope f cdv Aw outer s H L2.E0 []) [] (L2.start nms vs) H s1 := inv_startG S roomW.hd e0w vl rvs x
    have I2 : Inv (gcxOf P w K mg base nms qual scope f cdv Aw outer s H L2.E0 []) [] (L2.start nms vs) H { s1 with gens := s1.gens.push (.fresh (.func body (envOfC qual scope s.heap.objs.size f cdv))), toks := tk2, heap := s1.heap.push go } :=
      I1.call' (ch := []) rfl (Un.kept old) (I1.hok.kept old) (AllBare.push (by rw [gens1]; exact e0.bare) rfl) fun b y => by simp at y
    have young : H s1.heap.objs.size = none ∧ s1.heap.objs.size ≠ s.heap.objs.size ∧ s1.heap.objs.size ∉ frs outer := ⟨I1.hok.fresh (Nat.le_refl _), Nat.ne_of_gt more, I1.nofs (Nat.le_refl _)⟩
    have I3 : Inv (gcxOf P w K mg base nms qual scope f cdv Aw outer s H L2.E0 [(s1.heap.objs.size, go)]) [] (L2.start nms vs) H { s1 with gens := s1.gens.push (.fresh (.func body (envOfC qual scope s.heap.objs.size f cdv))), toks := tk2, heap := s1.heap.push go } := by
      refine Inv.pinnedG I2 fun p hp => ?_
      rw [List.append_nil] at hp
      rw [List.mem_singleton.mp hp]
      exact ⟨gpush _, young.1, young.2.1, young.2.2, noc⟩
    have gx : GX (gcxOf P w K mg base nms qual scope f cdv Aw outer s H L2.E0 [(s1.heap.objs.size, go)]) s.heap.objs.size := by
      refine ⟨noCells _, rfl, rfl, fun p hp => ?_, e0.bsz, fun b hb => ?_⟩
      · have hp : p ∈ [(s1.heap.objs.size, go)] := hp
        rw [List.mem_singleton.mp hp]
        exact Nat.le_of_lt more
      · obtain ⟨_, o, ho, _⟩ := e0.funs.mem hb
        exact Heap.lt_size ho
    obtain ⟨t, ht, hq⟩ := hbody Aw outer s H vs Yp Q [(s1.heap.objs.size, go)] (roomW.deeper _) gx hsp
    have I4 : Inv (rb (gcxOf P w K mg base nms qual scope f cdv Aw outer s H L2.E0 [(s1.heap.objs.size, go)]) s H) [] (L2.start nms vs) H { s1 with gens := s1.gens.push (.fresh (.func body (envOfC qual scope s.heap.objs.size f cdv))), toks := tk2, heap := s1.heap.push go } :=
      ⟨⟨I3.ok.mod, I3.ok.kind, I3.ok.glob, I3.ok.blt, I3.ok.above, I3.ok.inj, I3.ok.has, I3.ok.cab, I3.ok.hd, I3.ok.frames, I3.ok.stk, I3.ok.exf, I3.ok.bs, I3.ok.bsz, I3.ok.noex, I3.ok.exfs, I3.ok.funs, I3.ok.frf⟩, I3.os, I3.bare, I3.base, I3.loc, I3.cell, I3.free, I3.freeC, I3.pin, I3.hok, I3.len⟩
    have w0 := rebase (ip := []) gx I4 (fun p hp => by cases hp) z
    have facts : ∀ {ip : List (Addr × Obj)} {Hs : Hp} {sB s5 : Shared} {σ : L2.St} {H5 : Hp}, GIH (gcxOf P w K mg base nms qual scope f cdv Aw outer s H L2.E0 [(s1.heap.objs.size, go)]) s.heap.objs.size Hs sB ip σ H5 s5 → Same Hs H5 → SegF P w outer s.heap.objs.size Hs sB H5 s5 ∧ s5.heap.IsGen s1.heap.objs.size s1.gens.size ∧ H5 s1.heap.objs.size = none := fun {ip Hs sB s5 σ H5} y sm => by
      have pa := y.inv.pin (s1.heap.objs.size, go) (List.mem_append_left _ (List.mem_singleton.mpr rfl))
      exact ⟨⟨y.inv.os, y.inv.bare, y.inv.nolimit, y.inv.base, y.inv.hok, sm⟩, isG _ pa.1, pa.2.1⟩
    refine sg_func ?_
    have wide : ∀ (n : Nat) {h : Hp} {sB : Shared} {c : Code} {t : Sem PySem.Fin} {fs : List Frame} {s5 : Shared}, SegH (model P w) Aw (RE P w outer s.heap.objs.size N s1.heap.objs.size s1.gens.size Q) (YH (gcxOf P w K mg base nms qual scope f cdv Aw outer s H L2.E0 [(s1.heap.objs.size, go)]) s.heap.objs.size N Yp) n h sB c t fs s5 →
        SegH (model P w) Aw (RE P w outer s.heap.objs.size N s1.heap.objs.size s1.gens.size Q) (YE P w base outer s.heap.objs.size N s1.heap.objs.size s1.gens.size Yp) n h sB c t fs s5 := by
      intro n
      induction n with
      | zero =>
        intro h sB c t fs s5 y
        refine sg_iff.mpr fun Γ p e hΓ => ?_
        obtain ⟨e1, sE, rr, q⟩ := sg_iff.mp y Γ p e hΓ
        refine ⟨e1, sE, rr, ?_⟩
        cases e1 with
        | ret r => exact q
        | susp v gd lv k2 c2 p2 f2 =>
          obtain ⟨q0, q1, i, xv, ip, σ, H5, hn, rv, y5, sm, yp, wk⟩ := q
          obtain ⟨f1, f2', f3⟩ := facts y5 sm
          exact ⟨q0, q1, i, xv, H5, hn, rv, f1, f2', f3, yp, fun H6 s6 y6 => wk H6 s6 y6⟩
      | succ n ih =>
        intro h sB c t fs s5 y
        refine sg_iff.mpr fun Γ p e hΓ => ?_
        obtain ⟨e1, sE, rr, q⟩ := sg_iff.mp y Γ p e hΓ
        refine ⟨e1, sE, rr, ?_⟩
        cases e1 with
        | ret r => exact q
        | susp v gd lv k2 c2 p2 f2 =>
          obtain ⟨q0, q1, i, xv, ip, σ, H5, hn, rv, y5, sm, yp, wk⟩ := q
          obtain ⟨f1, f2', f3⟩ := facts y5 sm
          exact ⟨q0, q1, i, xv, H5, hn, rv, f1, f2', f3, yp, fun H6 s6 y6 => ih (wk H6 s6 y6)⟩
    refine wide N ?_
    refine ht.run Aw [] _ N 0 H3 s3 _ [] _ _ id id s3 (L2.start nms vs) H3 _ ⟨over_func, rfl, rfl, rfl⟩ (Nat.add_zero _) (fun n i Hs sB s5 fl hn y => ?_) w0 (hq H3 z.same)
    cases fl with
    | next =>
      obtain ⟨σ5, H5, y5, sm, q5⟩ := y
      obtain ⟨f1, f2, _⟩ := facts y5 sm
      exact sg_end (.ok (.ret .none)) ⟨rfl, i, H5, hn, f1, f2, q5⟩
    | brk => obtain ⟨_, _, _, q⟩ := y; exact q.elim
    | cont => obtain ⟨_, _, _, q⟩ := y; exact q.elim
    | ret u =>
      obtain ⟨v, σ5, H5, y5, rv, ev, sm, q5⟩ := y
      subst ev
      have eu : u = Value.none := rv
      subst eu
      obtain ⟨f1, f2, _⟩ := facts y5 sm
      exact sg_end (.ok (.ret .none)) ⟨rfl, i, H5, hn, f1, f2, q5⟩
  exact ⟨_, _, _, rfl, made _ _ _ _ rfl rfl rfl (fun h => Heap.get?_push_size h rfl)⟩
end GH
/-! ### a generator's body beside others: it leaves the other generators alone, and what it is told to be foreign (fo) -/
namespace KH
open PySem PySem.Spec PyProof.Rows L2 CC GenW GH KG
/-- what the consumer says when it wakes the generator: what is tracked, what is foreign -/
abbrev Wd := Hp × List (Addr × Obj)
structure GIK (X : Cx) (n0 : Nat) (Hs : Hp) (sB : Shared) (ip fo : List (Addr × Obj)) (σ : L2.St) (H : Hp) (s : Shared) : Prop where
  inv : Inv (rb X (cutS n0 sB) (cutH n0 Hs)) (ip ++ fo) σ H s
  ipn : ∀ p ∈ ip, n0 ≤ p.1
  siz : n0 ≤ sB.heap.objs.size
  gens : s.gens = sB.gens
  dis : ∀ p ∈ fo, ∀ q ∈ X.pn ++ ip, p.1 ≠ q.1
/-- while it sleeps; O: its own objects -/
structure WokeK (P : Program) (w : World) (base : Heap) (outer : List Env) (O : List Addr) (H : Hp) (s : Shared) (H2 : Hp) (s2 : Shared) (fo : List (Addr × Obj)) : Prop where
  bs : ∀ b o, base.get? b = some o → s2.heap.get? b = some o ∧ H2 b = none
  funs : s2.heap.FunFrames base outer
  frf : ∀ b ∈ frs outer, H2 b = none
  hok : HOk P w H2 s2.heap
  bare : AllBare s2.gens
  os : s2.os = s.os
  same : Same H H2
  own : ∀ b ∈ O, ∀ o, s.heap.get? b = some o → s2.heap.get? b = some o ∧ H2 b = none
  fo : ∀ p ∈ fo, s2.heap.get? p.1 = some p.2 ∧ H2 p.1 = none ∧ p.1 ∉ O ∧ p.1 ∉ frs outer ∧ ∀ v, p.2.data ≠ .cell v
abbrev ownO (X : Cx) (ip : List (Addr × Obj)) : List Addr := X.env.locals :: (X.pn ++ ip).map (·.1)
abbrev Woke (X : Cx) (ip : List (Addr × Obj)) (H : Hp) (s : Shared) (H2 : Hp) (s2 : Shared) (fo : List (Addr × Obj)) : Prop := WokeK X.prog X.w X.base X.outer (ownO X ip) H s H2 s2 fo
section
variable {X : Cx} {n0 : Nat} {Hs H H2 : Hp} {sB s s2 : Shared} {ip fo fo2 : List (Addr × Obj)} {σ : L2.St}
theorem rebase {s0 : Shared} {H0 : Hp} (g : GX X n0) (I : Inv (rb X s0 H0) (ip ++ fo) σ H s) (ipn : ∀ p ∈ ip, n0 ≤ p.1) (z : Woke X ip H s H2 s2 fo2) : GIK X n0 H2 s2 ip fo2 σ H2 s2 := by
  have el : X.env.locals = n0 := g.loc
  have ek : ∀ (x : Str) (c : Addr), X.env.cells.lookup x = some c → False := fun x c e => by rw [g.cells] at e; cases e
  obtain ⟨m0, hn0, _⟩ := id I.loc
  obtain ⟨o0, _, _, ho0, hd0, _⟩ := id hn0
  have ho0 : s.heap.get? X.env.locals = some o0 := ho0
  have own0 := z.own X.env.locals List.mem_cons_self
  have sz : n0 < s2.heap.objs.size := by
    have := Heap.lt_size (own0 o0 ho0).1
    rwa [el] at this
  have eks : (cutS n0 s2).heap.objs.size = n0 := cut_size (Nat.le_of_lt sz)
  have mem : ∀ p ∈ X.pn ++ ip, p.1 ∈ ownO X ip := fun p hp => List.mem_cons_of_mem _ (List.mem_map.mpr ⟨p, hp, rfl⟩)
  refine ⟨⟨⟨I.ok.mod, I.ok.kind, I.ok.glob, I.ok.blt, ?_, I.ok.inj, I.ok.has, ?_, I.ok.hd, I.ok.frames, I.ok.stk, I.ok.exf, ?_, ?_, I.ok.noex, I.ok.exfs, ?_, ?_⟩, rfl, z.bare, ⟨?_, ?_, ?_, ?_, ?_, ?_, ?_⟩, ?_, ?_, ?_, ?_, ?_, z.hok, I.len⟩, ipn, Nat.le_of_lt sz, rfl, fun p hp q hq e => (z.fo p hp).2.2.1 (by rw [e]; exact mem q hq)⟩
  · show (cutS n0 s2).heap.objs.size ≤ X.env.locals
    rw [eks, el]
    exact Nat.le_refl _
  · exact fun x c _ e => (ek x c e).elim
  · intro b o e
    have hb : b < n0 := Nat.lt_of_lt_of_le (Heap.lt_size e) g.bsz
    obtain ⟨q1, q2⟩ := z.bs b o e
    refine ⟨?_, ?_⟩
    · show (cutHeap n0 s2.heap).get? b = some o
      rw [cut_get, if_pos hb]
      exact q1
    · show cutH n0 H2 b = none
      rw [cutH_lt hb]
      exact q2
  · show X.base.objs.size ≤ (cutS n0 s2).heap.objs.size
    rw [eks]
    exact g.bsz
  · exact fun_cut z.funs g.fs
  · intro b hb
    show cutH n0 H2 b = none
    rw [cutH_lt (g.fs b hb)]
    exact z.frf b hb
  · intro b o e _ _ _
    have e : (cutHeap n0 s2.heap).get? b = some o := e
    rw [cut_get] at e
    split at e
    · exact e
    · cases e
  · intro b o e _ _ _
    have e : (cutHeap n0 s2.heap).get? b = some o := e
    rw [cut_get] at e
    split at e
    · exact ⟨o.slots, e⟩
    · cases e
  · intro b o e q _
    have e : (cutHeap n0 s2.heap).get? b = some o := e
    rw [cut_get] at e
    split at e
    · rename_i hb
      have q : cutH n0 H2 b = none := q
      rwa [cutH_lt hb] at q
    · cases e
  · intro b o e _
    have e : (cutHeap n0 s2.heap).get? b = some o := e
    rw [cut_get] at e
    split at e
    · exact ⟨o, e⟩
    · cases e
  · intro b xs q
    have q : cutH n0 H2 b = some (.tup xs) := q
    unfold cutH at q
    split at q
    · exact q
    · cases q
  · intro b o u q
    have q : cutH n0 H2 b = some (.frz o u) := q
    unfold cutH at q
    split at q
    · exact q
    · cases q
  · intro b ps q
    have q : cutH n0 H2 b = some (.tbl ps) := q
    unfold cutH at q
    split at q
    · exact ⟨#[], by rw [q]; simp⟩
    · cases q
  · obtain ⟨m, hn, look⟩ := I.loc
    obtain ⟨o, es, ep, ho, hd, r⟩ := id hn
    have ho : s.heap.get? X.env.locals = some o := ho
    refine ⟨m, ⟨o, es, ep, (own0 o ho).1, hd, r⟩, fun i x v h1 h2 h3 => ?_⟩
    obtain ⟨u, ru, lk⟩ := look i x v h1 h2 h3
    refine ⟨u, ru, ?_⟩
    rcases lk with lk | ⟨_, c, e, _⟩
    · exact .inl lk
    · exact (ek x c e).elim
  · exact fun x c e => (ek x c e).elim
  · exact (own0 o0 ho0).2
  · exact fun x c e => (ek x c e).elim
  · intro p hp
    have low : p ∈ X.pn ++ ip → s2.heap.get? p.1 = some p.2 ∧ H2 p.1 = none ∧ p.1 ≠ X.env.locals ∧ p.1 ∉ X.fs ∧ ∀ v, p.2.data ≠ .cell v := fun hp => by
      obtain ⟨q1, q2, q3, q4, q5⟩ := I.pin p (by
        rcases List.mem_append.mp hp with y | y
        · exact List.mem_append_left _ y
        · exact List.mem_append_right _ (List.mem_append_left _ y))
      obtain ⟨y1, y2⟩ := z.own p.1 (mem p hp) p.2 q1
      exact ⟨y1, y2, q3, q4, q5⟩
    rcases List.mem_append.mp hp with hp | hp
    · exact low (List.mem_append_left _ hp)
    · rcases List.mem_append.mp hp with hp | hp
      · exact low (List.mem_append_right _ hp)
      · obtain ⟨q1, q2, q3, q4, q5⟩ := z.fo p hp
        exact ⟨q1, q2, fun e => q3 (by rw [e]; exact List.mem_cons_self), q4, q5⟩
end
def GPK (X : Cx) (n0 : Nat) (ip fo : List (Addr × Obj)) (D : GE) (i : Nat) (Hs : Hp) (sB : Shared) (f : Flow) (s : Shared) : Prop := match f with
  | .next => ∃ σ H, GIK X n0 Hs sB ip fo σ H s ∧ D.nx i Hs σ H
  | .brk => ∃ σ H, GIK X n0 Hs sB ip fo σ H s ∧ D.bk i Hs σ H
  | .cont => ∃ σ H, GIK X n0 Hs sB ip fo σ H s ∧ D.ct i Hs σ H
  | .ret u => ∃ v σ H, GIK X n0 Hs sB ip fo σ H s ∧ RelV v u ∧ D.rt i Hs v H
def YB (X : Cx) (n0 N : Nat) (Yp : YpT) : YOut Wd := fun n h sB v s kap =>
  ∃ i x ip σ H, n + 1 + i = N ∧ RelV x v ∧ GIK X n0 h.1 sB ip h.2 σ H s ∧ Same h.1 H ∧ Yp i x H ∧ ∀ H2 s2 fo2, Woke X ip H s H2 s2 fo2 → kap (H2, fo2) (.send .none) s2
def GKK (X : Cx) (n0 N : Nat) (Yp : YpT) (ip : List (Addr × Obj)) (A : Around) (R : REnd Wd) (c : Code) (fs : List Frame) (K : Flow → Sem PySem.Fin) (D : GE) : Prop :=
  ∀ (n i : Nat) (Hs : Hp) (fo : List (Addr × Obj)) (sB s : Shared) (f : Flow), n + i = N → GPK X n0 ip fo D i Hs sB f s → SegH (model X.prog X.w) A R (YB X n0 N Yp) n (Hs, fo) sB c (K f) fs s
structure GSK (X : Cx) (n0 N : Nat) (Yp : YpT) (st : Stmt) (t : TGH) : Prop where
  run : ∀ (A : Around) (ip fo : List (Addr × Obj)) (R : REnd Wd) (n i : Nat) (Hs : Hp) (sB : Shared) (c : Code) (fs : List Frame) (K : Flow → Sem PySem.Fin) (J : Value → Sem PySem.Fin) (gd : Bool → Bool) (lv : List Value → List Value) (s : Shared) (σ : L2.St) (H : Hp) (D : GE),
    GCH X A c fs gd → n + i = N → GKK X n0 N Yp ip A R c fs K D → GIK X n0 Hs sB ip fo σ H s → t D i Hs σ H → SegH (model X.prog X.w) A R (YB X n0 N Yp) n (Hs, fo) sB c ((exec st X.env).wrap K J gd lv) fs s
structure GSsK (X : Cx) (n0 N : Nat) (Yp : YpT) (st : List Stmt) (t : TGH) : Prop where
  run : ∀ (A : Around) (ip fo : List (Addr × Obj)) (R : REnd Wd) (n i : Nat) (Hs : Hp) (sB : Shared) (c : Code) (fs : List Frame) (K : Flow → Sem PySem.Fin) (J : Value → Sem PySem.Fin) (gd : Bool → Bool) (lv : List Value → List Value) (s : Shared) (σ : L2.St) (H : Hp) (D : GE),
    GCH X A c fs gd → n + i = N → GKK X n0 N Yp ip A R c fs K D → GIK X n0 Hs sB ip fo σ H s → t D i Hs σ H → SegH (model X.prog X.w) A R (YB X n0 N Yp) n (Hs, fo) sB c ((execs st X.env).wrap K J gd lv) fs s
section
variable {X : Cx} {n0 N : Nat} {Yp : YpT} {st : Stmt} {rest : List Stmt}
theorem h_ps {t : TS} (h : ∀ s0 H0, KS (rb X s0 H0) st t) : GSK X n0 N Yp st (tP t) := by
  refine ⟨fun A ip fo R n i Hs sB c fs K J gd lv s σ H D g hn k w ht => sg_wrap ?_⟩
  rw [g.over]
  refine wpAny_mono ((h _ _).run (D := D.at i Hs) w.inv ht) (fun f s2 z => k n i Hs fo sB s2 f hn ?_) fun _ _ z => z.elim
  obtain ⟨z, g2⟩ := z
  have ge := g2.trans w.gens
  cases f with
  | next => obtain ⟨σ2, H2, I, q⟩ := z; exact ⟨σ2, H2, ⟨I, w.ipn, w.siz, ge, w.dis⟩, q⟩
  | brk => obtain ⟨σ2, H2, I, q⟩ := z; exact ⟨σ2, H2, ⟨I, w.ipn, w.siz, ge, w.dis⟩, q⟩
  | cont => obtain ⟨σ2, H2, I, q⟩ := z; exact ⟨σ2, H2, ⟨I, w.ipn, w.siz, ge, w.dis⟩, q⟩
  | ret u => obtain ⟨v, σ2, H2, I, rv, q⟩ := z; exact ⟨v, σ2, H2, ⟨I, w.ipn, w.siz, ge, w.dis⟩, rv, q⟩
theorem hs_nil : GSsK X n0 N Yp [] tH0 := ⟨fun A ip fo R n i Hs sB c fs K J gd lv s σ H D g hn k w ht => k n i Hs fo sB s .next hn ⟨σ, H, w, ht⟩⟩
theorem hs_cons {t u : TGH} (a : GSK X n0 N Yp st t) (b : GSsK X n0 N Yp rest u) : GSsK X n0 N Yp (st :: rest) (tThen t u) := by
  refine ⟨fun A ip fo R n i Hs sB c fs K J gd lv s σ H D g hn k w ht => sg_cons ?_⟩
  refine a.run A ip fo R n i Hs sB c fs _ J gd lv s σ H { D with nx := fun i2 Hs2 σ2 H2 => u D i2 Hs2 σ2 H2 } g hn (fun n2 i2 Hs2 fo2 sB2 s2 f hn2 z => ?_) w ht
  cases f with
  | next =>
    obtain ⟨σ2, H2, w2, q⟩ := z
    exact b.run A ip fo2 R n2 i2 Hs2 sB2 c fs K J gd lv s2 σ2 H2 D g hn2 k w2 q
  | brk => exact k n2 i2 Hs2 fo2 sB2 s2 .brk hn2 z
  | cont => exact k n2 i2 Hs2 fo2 sB2 s2 .cont hn2 z
  | ret u => exact k n2 i2 Hs2 fo2 sB2 s2 (.ret u) hn2 z
theorem h_if {test : Expr} {body orelse : List Stmt} {tc : TT} {t u : TGH} {pos : Pos} (hc : ∀ s0 H0, KT (rb X s0 H0) test tc) (ha : GSsK X n0 N Yp body t) (hb : GSsK X n0 N Yp orelse u) : GSK X n0 N Yp (.If test body orelse pos) (GH.tIf tc t u) := by
  refine ⟨fun A ip fo R n i Hs sB c fs K J gd lv s σ H D g hn k w ht => ?_⟩
  show SegH _ A R _ n (Hs, fo) sB c (.at pos fun _ => (isTrue test X.env (eval test X.env) >>= fun b => if b = true then execs body X.env else execs orelse X.env).wrap K J gd lv) fs s
  refine sg_at ?_
  rw [Sem.bind_eq_wrap', Sem.wrap_wrap]
  refine sg_wrap ?_
  rw [g.over]
  refine wpAny_mono ((hc _ _).run w.inv ht) (fun b s1 z => ?_) fun _ _ z => z.elim
  obtain ⟨⟨H1, I1, q1⟩, g1⟩ := z
  have w1 : GIK X n0 Hs sB ip fo σ H1 s1 := ⟨I1, w.ipn, w.siz, g1.trans w.gens, w.dis⟩
  cases b with
  | true =>
    rw [if_pos rfl] at q1
    exact ha.run A ip fo R n i Hs sB c fs K J gd lv s1 σ H1 D g hn k w1 q1
  | false =>
    rw [if_neg Bool.false_ne_true] at q1
    exact hb.run A ip fo R n i Hs sB c fs K J gd lv s1 σ H1 D g hn k w1 q1
theorem h_yield {e : Expr} {yp pos : Pos} {te : TE} (gx : GX X n0) (he : ∀ s0 H0, KE (rb X s0 H0) e te) (hco : X.env.scope.isCoroutine = false := by rfl) (hi : interactive X.env = false := by rfl) : GSK X n0 N Yp (.Expr (.Yield (some e) yp) pos) (tY N Yp te) := by
  refine ⟨fun A ip fo R n i Hs sB c fs K J gd lv s σ H D g hn k w ht => ?_⟩
  obtain ⟨hlt, ht⟩ := ht
  obtain ⟨n, rfl⟩ : ∃ m, n = m + 1 := ⟨n - 1, by omega⟩
  refine sg_outY g.split g.gd g.guard ?_ hco hi
  rw [g.over]
  refine wpAny_mono ((he _ _).run w.inv ht) (fun v s2 z => ?_) fun _ _ z => z.elim
  obtain ⟨⟨x, H1, I1, rv, q1, q2, q3⟩, g2⟩ := z
  have w1 : GIK X n0 Hs sB ip fo σ H1 s2 := ⟨I1, w.ipn, w.siz, g2.trans w.gens, w.dis⟩
  intro kap hk
  refine ⟨i, x, ip, σ, H1, hn, rv, w1, q1, q2, fun H3 s3 fo3 y => hk (H3, fo3) s3 ?_⟩
  exact k n (i + 1) H3 fo3 s3 s3 .next (by omega) ⟨σ, H3, rebase gx I1 w.ipn y, q3 H3 y.same⟩
/-- the iterator's own objects, whatever the segment began with, and whatever is foreign -/
theorem fp_rb {Hs : Hp} {sB : Shared} {ip fo : List (Addr × Obj)} {H : Hp} {b : Addr} (gx : GX X n0) (hs : n0 ≤ sB.heap.objs.size) (f : FpOk (rb X (cutS n0 sB) (cutH n0 Hs)) (ip ++ fo) H b) :
    n0 ≤ b ∧ ∀ {Hs2 : Hp} {sB2 : Shared} {fo2 : List (Addr × Obj)} {H2 : Hp}, n0 ≤ sB2.heap.objs.size → (∀ p ∈ fo2, p.1 ≠ b) → H2 b = none → FpOk (rb X (cutS n0 sB2) (cutH n0 Hs2)) (ip ++ fo2) H2 b := by
  obtain ⟨z0, z1, z2, z3, z4, z5⟩ := f
  have hb : n0 ≤ b := by
    rcases z3 with z | z
    · have z : b ∈ X.ex := z
      rw [gx.ex] at z
      cases z
    · have z : (cutHeap n0 sB.heap).objs.size ≤ b := z
      rwa [cut_size hs] at z
  refine ⟨hb, fun {Hs2 sB2 fo2 H2} h2 hf hn => ⟨hn, z1, z2, .inr ?_, z4, fun p hp => ?_⟩⟩
  · show (cutHeap n0 sB2.heap).objs.size ≤ b
    rw [cut_size h2]
    exact hb
  · rcases List.mem_append.mp hp with y | y
    · exact z5 p (List.mem_append_left _ y)
    · rcases List.mem_append.mp y with y | y
      · exact z5 p (List.mem_append_right _ (List.mem_append_left _ y))
      · exact hf p y
theorem h_for {tg iter : Expr} {body : List Stmt} {wi : TI} {g : TG} {tb : TGH} {pos : Pos} (gx : GX X n0) (hc : X.calm = true) (hi : ∀ s0 H0, KI (rb X s0 H0) tg iter wi) (hg : ∀ s0 H0, KGt (rb X s0 H0) tg g) (hb : GSsK X n0 N Yp body tb)
    (hs : ∀ x, foldedSetIterable iter X.env x = pure x := by intro _; rfl) : GSK X n0 N Yp (.For tg iter body [] pos) (tForH wi g tb) := by
  refine ⟨fun A ip fo R n i Hs sB c fs K J gd lv s σ H D g1 hn k w ht => sg_For hs ?_⟩
  rw [g1.over]
  refine wpAny_mono ((hi _ _).run (ip ++ fo) s σ H _ w.inv ht) (fun v s1 h1 => wpAny_mono h1 (fun itv s2 h2 p => ?_) fun _ _ z => z.elim) fun _ _ z => z.elim
  obtain ⟨⟨it, fp, tn, Jt, H2, rfl, I2, T, st2, f2, W, ⟨m0, w0⟩, turn⟩, g2⟩ := h2
  have stat : ∀ b ∈ fp, n0 ≤ b ∧ ∀ {Hs2 : Hp} {sB2 : Shared} {fo2 : List (Addr × Obj)} {H2 : Hp}, n0 ≤ sB2.heap.objs.size → (∀ p ∈ fo2, p.1 ≠ b) → H2 b = none → FpOk (rb X (cutS n0 sB2) (cutH n0 Hs2)) (ip ++ fo2) H2 b := fun b hb => fp_rb gx w.siz (f2 b hb)
  have gl : ∀ kk : Result → Sem PySem.Fin, GCH X A (.forLoop tg (.ref it) body [] X.env) (.ret kk none (gd false) (lv []) c p [] :: fs) id := fun kk => by
    refine ⟨(GenW.over_loop rfl rfl).trans g1.over, ?_, ?_, rfl⟩
    · show (splitAtGen fs).map _ = none
      rw [g1.split]
      rfl
    · show (gd false || fs.any Frame.guarded) = false
      rw [g1.gd, g1.guard]
      rfl
  have loop : ∀ (m j n i : Nat) (Hs : Hp) (fo : List (Addr × Obj)) (sB s : Shared) (σ : L2.St) (H : Hp), n + i = N → W j m i Hs σ H → GIK X n0 Hs sB ip fo σ H s → (∀ b ∈ fp, ∀ p ∈ fo, p.1 ≠ b) → tn j s.heap → (∀ b ∈ fp, H b = none) →
      SegH (model X.prog X.w) A R (YB X n0 N Yp) n (Hs, fo) sB (.forLoop tg (.ref it) body [] X.env) ((model X.prog X.w).den (.forLoop tg (.ref it) body [] X.env))
        (.ret (fun r => ((match r with | .ok f => (.pure f : Sem Flow) | .error e => .raise e).onRaise (cameBack X.env)).wrap K J gd lv) none (gd false) (lv []) c p [] :: fs) s := by
    intro m
    induction m using Nat.strongRecOn with
    | ind m ih =>
      intro j n i Hs fo sB s σ H hn ww w ff st fr
      have fpk : ∀ {H' : Hp}, (∀ b ∈ fp, H' b = none) → ∀ b ∈ fp, FpOk (rb X (cutS n0 sB) (cutH n0 Hs)) (ip ++ fo) H' b := fun hz b hb => (stat b hb).2 w.siz (ff b hb) (hz b hb)
      refine sg_forLoop ?_
      rw [(gl _).over]
      rcases turn j m i Hs σ H ww with ⟨stop, qn⟩ | ⟨go, N1, hN, step⟩
      · refine wpAny_mono (KTn.fin (X := rb X (cutS n0 sB) (cutH n0 Hs)) T hc w.inv (fpk fr) st stop) (fun q s4 z => ?_) fun _ _ z => z.elim
        obtain ⟨⟨rfl, I4⟩, g4⟩ := z
        show SegH _ A R _ n (Hs, fo) sB _ (.pure (.done .next)) _ s4
        exact sg_leaf (.ok .next) (k n i Hs fo sB s4 .next hn ⟨σ, H, ⟨I4, w.ipn, w.siz, g4.trans w.gens, w.dis⟩, qn⟩)
      · refine wpAny_mono (KTn.both (X := rb X (cutS n0 sB) (cutH n0 Hs)) T hc w.inv (fpk fr) st go) (fun q s4 z => ?_) fun _ _ z => z.elim
        obtain ⟨g4, u, rfl, h4⟩ := z
        refine wpAny_mono h4 (fun _ s5 z => ?_) fun _ _ z => z.elim
        obtain ⟨⟨x, H5, I5, r5, y5, st5, fr5⟩, g5⟩ := z
        have I5p : Inv (rb X (cutS n0 sB) (cutH n0 Hs)) ((ip ++ pinsAt fp s5.heap) ++ fo) σ H5 s5 := by
          have q := I5.pinned (fpk fr5) (T.t.obj _ _ st5)
          refine q.pins_of fun p hp => q.pin p (List.mem_append_right _ ?_)
          rcases List.mem_append.mp hp with y | y
          · rcases List.mem_append.mp y with y | y
            · exact List.mem_append_left _ (List.mem_append_left _ y)
            · exact List.mem_append_right _ y
          · exact List.mem_append_left _ (List.mem_append_right _ y)
        refine wpAny_mono ((hg _ _).run I5p r5 (step x H5 y5)) (fun _ s6 z => ?_) fun _ _ z => z.elim
        obtain ⟨⟨σ6, H6, I6, q6⟩, g6⟩ := z
        have ipn6 : ∀ p ∈ ip ++ pinsAt fp s5.heap, n0 ≤ p.1 := fun p hp => (List.mem_append.mp hp).elim (w.ipn p) fun y => (stat p.1 (of_pinsAt y).1).1
        have dis6 : ∀ p ∈ fo, ∀ q ∈ X.pn ++ (ip ++ pinsAt fp s5.heap), p.1 ≠ q.1 := fun p hp q hq => by
          rcases List.mem_append.mp hq with y | y
          · exact w.dis p hp q (List.mem_append_left _ y)
          · rcases List.mem_append.mp y with y | y
            · exact w.dis p hp q (List.mem_append_right _ y)
            · exact ff q.1 (of_pinsAt y).1 p hp
        have back : ∀ {Hs7 : Hp} {fo7 : List (Addr × Obj)} {sB7 : Shared} {σ7 : L2.St} {H7 : Hp} {s7 : Shared}, GIK X n0 Hs7 sB7 (ip ++ pinsAt fp s5.heap) fo7 σ7 H7 s7 → GIK X n0 Hs7 sB7 ip fo7 σ7 H7 s7 ∧ (∀ b ∈ fp, ∀ p ∈ fo7, p.1 ≠ b) ∧ tn (j + 1) s7.heap ∧ ∀ b ∈ fp, H7 b = none := fun {Hs7 fo7 sB7 σ7 H7 s7} w7 => by
          have pin : ∀ b ∈ fp, ∀ o, s5.heap.get? b = some o → s7.heap.get? b = some o ∧ H7 b = none := fun b hb o e => by
            have z := w7.inv.pin (b, o) (List.mem_append_right _ (List.mem_append_left _ (List.mem_append_right _ (mem_pinsAt hb e))))
            exact ⟨z.1, z.2.1⟩
          refine ⟨⟨?_, w.ipn, w7.siz, w7.gens, fun p hp q hq => w7.dis p hp q ?_⟩, fun b hb p hp => ?_, T.t.keep _ _ _ st5 fun b hb o e => (pin b hb o e).1, fun b hb => ?_⟩
          · refine w7.inv.pins_of fun p hp => w7.inv.pin p (List.mem_append_right _ ?_)
            rcases List.mem_append.mp hp with y | y
            · exact List.mem_append_left _ (List.mem_append_left _ y)
            · exact List.mem_append_right _ y
          · rcases List.mem_append.mp hq with y | y
            · exact List.mem_append_left _ y
            · exact List.mem_append_right _ (List.mem_append_left _ y)
          · obtain ⟨o, e, _⟩ := T.t.obj _ _ st5 b hb
            exact w7.dis p hp (b, o) (List.mem_append_right _ (List.mem_append_right _ (mem_pinsAt hb e)))
          · obtain ⟨o, e, _⟩ := T.t.obj _ _ st5 b hb
            exact (pin b hb o e).2
        refine hb.run A (ip ++ pinsAt fp s5.heap) fo R n i Hs sB _ _ _ _ id id s6 σ6 H6 { D with nx := N1, ct := N1, bk := D.nx } (gl _) hn (fun n7 i7 Hs7 fo7 sB7 s7 f hn7 z => ?_) ⟨I6, ipn6, w.siz, g6.trans (g5.trans (g4.trans w.gens)), dis6⟩ q6
        cases f with
        | next =>
          obtain ⟨σ7, H7, w7, n7'⟩ := z
          obtain ⟨m', hm, y7⟩ := hN i7 Hs7 σ7 H7 n7'
          obtain ⟨b1, b2, b3, b4⟩ := back w7
          exact sg_again rfl (ih m' hm (j + 1) n7 i7 Hs7 fo7 sB7 s7 σ7 H7 hn7 y7 b1 b2 b3 b4)
        | cont =>
          obtain ⟨σ7, H7, w7, n7'⟩ := z
          obtain ⟨m', hm, y7⟩ := hN i7 Hs7 σ7 H7 n7'
          obtain ⟨b1, b2, b3, b4⟩ := back w7
          exact sg_again rfl (ih m' hm (j + 1) n7 i7 Hs7 fo7 sB7 s7 σ7 H7 hn7 y7 b1 b2 b3 b4)
        | brk =>
          obtain ⟨σ7, H7, w7, q7⟩ := z
          exact sg_leaf (.ok .next) (k n7 i7 Hs7 fo7 sB7 s7 .next hn7 ⟨σ7, H7, (back w7).1, q7⟩)
        | ret v =>
          obtain ⟨x7, σ7, H7, w7, rv, q7⟩ := z
          exact sg_leaf (.ok (.ret v)) (k n7 i7 Hs7 fo7 sB7 s7 (.ret v) hn7 ⟨x7, σ7, H7, (back w7).1, rv, q7⟩)
  exact loop m0 0 n i Hs fo sB s2 σ H2 hn w0 ⟨I2, w.ipn, w.siz, g2.trans w.gens, w.dis⟩ (fun b hb q hq => (f2 b hb).2.2.2.2.2 q (List.mem_append_right _ (List.mem_append_right _ hq))) st2 fun b hb => (f2 b hb).1
end
end KH
/-! ### what a generator def promises to whoever walks it beside others -/
namespace KH
open PySem PySem.Spec PyProof.Rows L2 CC GenW GH KG
structure SegK (P : Program) (w : World) (outer : List Env) (n0 : Nat) (h : Wd) (sB : Shared) (H : Hp) (s : Shared) : Prop where
  os : s.os = sB.os
  bare : AllBare s.gens
  lim : s.heap.NoLimit
  un : Un (frs outer) [] (cutH n0 h.1) H (cutHeap n0 sB.heap) s.heap
  hok : HOk P w H s.heap
  same : Same h.1 H
  gens : s.gens = sB.gens
  fo : ∀ p ∈ h.2, s.heap.get? p.1 = some p.2 ∧ H p.1 = none
/-- its own objects -/
def Own (n0 : Nat) (a : Addr) (O : List Addr) (H : Hp) (s : Shared) : Prop := a ∈ O ∧ ∀ b ∈ O, n0 ≤ b ∧ H b = none ∧ ∃ o, s.heap.get? b = some o ∧ ∀ v, o.data ≠ .cell v
def YK (P : Program) (w : World) (base : Heap) (outer : List Env) (n0 N : Nat) (a : Addr) (g : Nat) (Yp : YpT) : YOut Wd := fun n h sB v s kap =>
  ∃ i x H O, n + 1 + i = N ∧ RelV x v ∧ SegK P w outer n0 h sB H s ∧ s.heap.IsGen a g ∧ Own n0 a O H s ∧ (∀ p ∈ h.2, p.1 ∉ O) ∧ Yp i x H ∧ ∀ H2 s2 fo2, WokeK P w base outer O H s H2 s2 fo2 → kap (H2, fo2) (.send .none) s2
def RK (P : Program) (w : World) (outer : List Env) (n0 N : Nat) (a : Addr) (g : Nat) (Q : Nat → Hp → Prop) : REnd Wd := fun n h sB r s =>
  r = .ok (.ret .none) ∧ ∃ i H, n + i = N ∧ SegK P w outer n0 h sB H s ∧ s.heap.IsGen a g ∧ Q i H
structure FreshK (P : Program) (w : World) (base : Heap) (k : Nat) (outer : List Env) (H : Hp) (s : Shared) (N : Nat) (Yp : YpT) (Q : Nat → Hp → Prop) (a : Addr) (c : Code) (s2 : Shared) : Prop where
  lo : s.heap.objs.size < a
  hi : a < s2.heap.objs.size
  gen : s2.heap.IsGen a s.gens.size
  gens : s2.gens = s.gens.push (.fresh c)
  os : s2.os = s.os
  lim : s2.heap.NoLimit
  keep : ∀ b o, s.heap.get? b = some o → s2.heap.get? b = some o
  own : Own s.heap.objs.size a [s.heap.objs.size, a] H s2
  run : ∀ (A : Around) (H3 : Hp) (s3 : Shared) (fo : List (Addr × Obj)), Room k A → A.frames = some outer → WokeK P w base outer [s.heap.objs.size, a] H s2 H3 s3 fo →
    SegH (model P w) A (RK P w outer s.heap.objs.size N a s.gens.size Q) (YK P w base outer s.heap.objs.size N a s.gens.size Yp) N (H3, fo) s3 c ((model P w).den c) [] s3
structure GFnK (P : Program) (w : World) (K : PySem.W.Frag) (mg : Str → Option Value) (base : Heap) (k : Nat) (f : Addr) (fd : FuncData) (ps : List Str) (N : Nat) (sp : SpY) : Prop where
  len : ∀ vs H Yp Q, sp vs H Yp Q → vs.length = ps.length
  run : ∀ (A : Around) (outer : List Env) (s : Shared) (H : Hp) (args : Args) (us : List Value) (vs : List V) (Yp : YpT) (Q : Nat → Hp → Prop), Room k A → Env0 P w K mg base A outer s H → BindsTo s fd args (ps.zip us) → Vals vs us → sp vs H Yp Q →
    codeAny (model P w) A (.call (.ref f) args) (fun r s2 => match r with | .ok (.ret u) => ∃ a c, u = .ref a ∧ FreshK P w base k outer H s N Yp Q a c s2 | _ => False) s
theorem gfnK_of {P : Program} {w : World} {K : PySem.W.Frag} {mg : Str → Option Value} {base : Heap} {k : Nat} {f : Addr} {name qual : Str} {params : Arguments} {body : List Stmt} {scope : Scope} {dV kV doc pm cdv ct oc : Value} {an od : Option Addr} {osl : Array (Option Value)} {nms ps : List Str} {N : Nat} {sp : SpY}
    (lk : K.lookup f = some ⟨oc, od, .func (PySem.W.fnOf name qual params body scope dV kV doc pm an cdv ct), osl⟩) (hcd : PySem.W.codeIn K cdv qual = true) (S : GScope nms ps scope) (noCells : ∀ n, cellsFrom n scope.names [] = []) (len : ∀ vs H Yp Q, sp vs H Yp Q → vs.length = ps.length)
    (hbody : ∀ (A : Around) (outer : List Env) (s : Shared) (H : Hp) (vs : List V) (Yp : YpT) (Q : Nat → Hp → Prop) (pn : List (Addr × Obj)), Room k (A.deeper (envOfC qual scope s.heap.objs.size f cdv)) → GX (gcxOf P w K mg base nms qual scope f cdv A outer s H L2.E0 pn) s.heap.objs.size → sp vs H Yp Q →
      ∃ t, GSsK (gcxOf P w K mg base nms qual scope f cdv A outer s H L2.E0 pn) s.heap.objs.size N Yp body t ∧ ∀ H2, Same H H2 → t { nx := fun i Hs _ H3 => Same Hs H3 ∧ Q i H3, rt := fun i Hs v H3 => v = .non ∧ Same Hs H3 ∧ Q i H3 } 0 H2 (L2.start nms vs) H2) :
    GFnK P w K mg base (k + 1) f (PySem.W.fnOf name qual params body scope dV kV doc pm an cdv ct) ps N sp := by
  refine ⟨len, fun A outer s H args us vs Yp Q room e0 hb rvs hsp => ?_⟩
  have vl := len _ _ _ _ hsp
  have kin : K.In s.heap := e0.mod.kin.keeps fun b o e => (e0.bs b o e).1
  have lim0 : s.heap.NoLimit := e0.mod.nolimit.keeps fun b o e => (e0.bs b o e).1
  have kinds : ∀ y ∈ ps.zip us, scope.names.lookup y.1 = some .local ∨ (scope.names.lookup y.1 = some .cell ∧ ((cellsFrom (s.heap.objs.size + 1) scope.names []).lookup y.1).isSome = true) := fun y hy => by
    rcases S.par y.1 (List.of_mem_zip (a := y.1) (b := y.2) hy).1 with q | q
    · exact .inl q
    · exact .inr ⟨q, PySem.W.cellsFrom_some _ _ _ (.inl q)⟩
  refine codeAny_call_generator (room.depth) (kin _ _ lk) (by rfl) S.co S.gen (by rfl) (PySem.W.codeRec_of kin hcd) (hb _ _ _ _ ?_)
  refine wpAny_newFunctionEnv_cells S.kind kinds (fun env he s1 x => ?_)
  subst he
  have lim1 : s1.heap.NoLimit := lim0.keeps x.toInCall.keep
  refine ⟨lim1, ?_⟩
  obtain ⟨hh1, tk1, es1, hk1⟩ := x.done
  have os1 : s1.os = s.os := by rw [es1]
  have gens1 : s1.gens = s.gens := by rw [es1]
  have more : s.heap.objs.size < s1.heap.objs.size := x.toInCall.ns.lt
  have kp1 : ∀ b o, s.heap.get? b = some o → s1.heap.get? b = some o := x.toInCall.keep
  have made : ∀ (go : Obj) (nm qn : Value) (tk2 : Nat), go.cls = .type "generator" → go.data = .fields #[.int s1.gens.size 0, nm, qn] → go.slots = #[] → (∀ h : Heap, (h.push go).get? h.objs.size = some go) →
      FreshK P w base (k + 1) outer H s N Yp Q s1.heap.objs.size (.func body (envOfC qual scope s.heap.objs.size f cdv)) { s1 with gens := s1.gens.push (.fresh (.func body (envOfC qual scope s.heap.objs.size f cdv))), toks := tk2, heap := s1.heap.push go } := by
    intro go nm qn tk2 gcls gdat gslt gpush
    have isG : ∀ h : Heap, h.get? s1.heap.objs.size = some go → h.IsGen s1.heap.objs.size s.gens.size := fun h e => ⟨go, nm, qn, e, gcls, by rw [← gens1]; exact gdat, gslt⟩
    have old : ∀ b o, s1.heap.get? b = some o → (s1.heap.push go).get? b = some o := fun b o e => Heap.get?_push_of_some _ e
    have noc : ∀ v, go.data ≠ .cell v := fun v q => by rw [gdat] at q; cases q
    have hok1 : HOk P w H s1.heap := e0.hok.kept kp1
    refine ⟨more, ?_, isG _ (gpush _), by rw [← gens1], os1, lim1.keeps old, fun b o e => old b o (kp1 b o e), ⟨by simp, fun b hb => ?_⟩, ?_⟩
    · show _ < (s1.heap.push _).objs.size
      rw [Heap.size_push]
      exact Nat.lt_succ_self _
    · have hb : b = s.heap.objs.size ∨ b = s1.heap.objs.size := by simpa using hb
      rcases hb with rfl | rfl
      · obtain ⟨o, es, ep, ho, hd, _⟩ := x.toInCall.ns
        exact ⟨Nat.le_refl _, e0.hok.fresh (Nat.le_refl _), o, old _ _ ho, fun v q => by rw [hd] at q; cases q⟩
      · exact ⟨Nat.le_of_lt more, hok1.fresh (Nat.le_refl _), go, gpush _, noc⟩
    intro Aw H3 s3 fo3 roomW frW z
    have e0w : Env0 P w K mg base Aw outer s H := ⟨frW, e0.mod, e0.bs, e0.bsz, e0.funs, e0.frf, e0.hok, e0.bare⟩
    have I1 : Inv (gcxOf P w K mg base nms qual scope f cdv Aw outer s H L2.E0 []) [] (L2.start nms vs) H s1 := inv_startG S roomW.hd e0w vl rvs x
    have I2 : Inv (gcxOf P w K mg base nms qual scope f cdv Aw outer s H L2.E0 []) [] (L2.start nms vs) H { s1 with gens := s1.gens.push (.fresh (.func body (envOfC qual scope s.heap.objs.size f cdv))), toks := tk2, heap := s1.heap.push go } :=
      I1.call' (ch := []) rfl (Un.kept old) (I1.hok.kept old) (AllBare.push (by rw [gens1]; exact e0.bare) rfl) fun b y => by simp at y
    have young : H s1.heap.objs.size = none ∧ s1.heap.objs.size ≠ s.heap.objs.size ∧ s1.heap.objs.size ∉ frs outer := ⟨I1.hok.fresh (Nat.le_refl _), Nat.ne_of_gt more, I1.nofs (Nat.le_refl _)⟩
    have I3 : Inv (gcxOf P w K mg base nms qual scope f cdv Aw outer s H L2.E0 [(s1.heap.objs.size, go)]) [] (L2.start nms vs) H { s1 with gens := s1.gens.push (.fresh (.func body (envOfC qual scope s.heap.objs.size f cdv))), toks := tk2, heap := s1.heap.push go } := by
      refine Inv.pinnedG I2 fun p hp => ?_
      rw [List.append_nil] at hp
      rw [List.mem_singleton.mp hp]
      exact ⟨gpush _, young.1, young.2.1, young.2.2, noc⟩
    have gx : GX (gcxOf P w K mg base nms qual scope f cdv Aw outer s H L2.E0 [(s1.heap.objs.size, go)]) s.heap.objs.size := by
      refine ⟨noCells _, rfl, rfl, fun p hp => ?_, e0.bsz, fun b hb => ?_⟩
      · have hp : p ∈ [(s1.heap.objs.size, go)] := hp
        rw [List.mem_singleton.mp hp]
        exact Nat.le_of_lt more
      · obtain ⟨_, o, ho, _⟩ := e0.funs.mem hb
        exact Heap.lt_size ho
    obtain ⟨t, ht, hq⟩ := hbody Aw outer s H vs Yp Q [(s1.heap.objs.size, go)] (roomW.deeper _) gx hsp
    have I4 : Inv (rb (gcxOf P w K mg base nms qual scope f cdv Aw outer s H L2.E0 [(s1.heap.objs.size, go)]) s H) ([] ++ []) (L2.start nms vs) H { s1 with gens := s1.gens.push (.fresh (.func body (envOfC qual scope s.heap.objs.size f cdv))), toks := tk2, heap := s1.heap.push go } :=
      ⟨⟨I3.ok.mod, I3.ok.kind, I3.ok.glob, I3.ok.blt, I3.ok.above, I3.ok.inj, I3.ok.has, I3.ok.cab, I3.ok.hd, I3.ok.frames, I3.ok.stk, I3.ok.exf, I3.ok.bs, I3.ok.bsz, I3.ok.noex, I3.ok.exfs, I3.ok.funs, I3.ok.frf⟩, I3.os, I3.bare, I3.base, I3.loc, I3.cell, I3.free, I3.freeC, I3.pin, I3.hok, I3.len⟩
    have w0 := rebase (ip := []) (fo := []) gx I4 (fun p hp => by cases hp) z
    have facts : ∀ {ip : List (Addr × Obj)} {Hs : Hp} {fo : List (Addr × Obj)} {sB s5 : Shared} {σ : L2.St} {H5 : Hp}, GIK (gcxOf P w K mg base nms qual scope f cdv Aw outer s H L2.E0 [(s1.heap.objs.size, go)]) s.heap.objs.size Hs sB ip fo σ H5 s5 → Same Hs H5 → SegK P w outer s.heap.objs.size (Hs, fo) sB H5 s5 ∧ s5.heap.IsGen s1.heap.objs.size s.gens.size ∧
        Own s.heap.objs.size s1.heap.objs.size (ownO (gcxOf P w K mg base nms qual scope f cdv Aw outer s H L2.E0 [(s1.heap.objs.size, go)]) ip) H5 s5 ∧ ∀ p ∈ fo, p.1 ∉ ownO (gcxOf P w K mg base nms qual scope f cdv Aw outer s H L2.E0 [(s1.heap.objs.size, go)]) ip := fun {ip Hs fo sB s5 σ H5} y sm => by
      have pa := y.inv.pin (s1.heap.objs.size, go) (List.mem_append_left _ (List.mem_singleton.mpr rfl))
      have low : ∀ p ∈ (gcxOf P w K mg base nms qual scope f cdv Aw outer s H L2.E0 [(s1.heap.objs.size, go)]).pn ++ ip, p ∈ (gcxOf P w K mg base nms qual scope f cdv Aw outer s H L2.E0 [(s1.heap.objs.size, go)]).pn ++ (ip ++ fo) := fun p hp => by
        rcases List.mem_append.mp hp with e | e
        · exact List.mem_append_left _ e
        · exact List.mem_append_right _ (List.mem_append_left _ e)
      refine ⟨⟨y.inv.os, y.inv.bare, y.inv.nolimit, y.inv.base, y.inv.hok, sm, y.gens, fun p hp => ?_⟩, isG _ pa.1, ⟨List.mem_cons_of_mem _ (List.mem_map.mpr ⟨(s1.heap.objs.size, go), List.mem_append_left _ (List.mem_singleton.mpr rfl), rfl⟩), fun b hb => ?_⟩, fun p hp hm => ?_⟩
      · have q := y.inv.pin p (List.mem_append_right _ (List.mem_append_right _ hp))
        exact ⟨q.1, q.2.1⟩
      · rcases List.mem_cons.mp hb with rfl | hb
        · obtain ⟨m, ⟨o, es, ep, ho, hd, _⟩, _⟩ := y.inv.loc
          exact ⟨Nat.le_refl _, y.inv.free, o, ho, fun v q => by rw [hd] at q; cases q⟩
        · obtain ⟨p, hp, rfl⟩ := List.mem_map.mp hb
          obtain ⟨q1, q2, _, _, q5⟩ := y.inv.pin p (low p hp)
          refine ⟨?_, q2, p.2, q1, q5⟩
          rcases List.mem_append.mp hp with e | e
          · exact gx.pn p e
          · exact y.ipn p e
      · rcases List.mem_cons.mp hm with e | hm
        · exact (y.inv.pin p (List.mem_append_right _ (List.mem_append_right _ hp))).2.2.1 e
        · obtain ⟨q, hq, e⟩ := List.mem_map.mp hm
          exact y.dis p hp q hq e.symm
    refine sg_func ?_
    have wide : ∀ (n : Nat) {h : Wd} {sB : Shared} {c : Code} {t : Sem PySem.Fin} {fs : List Frame} {s5 : Shared}, SegH (model P w) Aw (RK P w outer s.heap.objs.size N s1.heap.objs.size s.gens.size Q) (YB (gcxOf P w K mg base nms qual scope f cdv Aw outer s H L2.E0 [(s1.heap.objs.size, go)]) s.heap.objs.size N Yp) n h sB c t fs s5 →
        SegH (model P w) Aw (RK P w outer s.heap.objs.size N s1.heap.objs.size s.gens.size Q) (YK P w base outer s.heap.objs.size N s1.heap.objs.size s.gens.size Yp) n h sB c t fs s5 := by
      intro n
      induction n with
      | zero =>
        intro h sB c t fs s5 y
        refine sg_iff.mpr fun Γ p e hΓ => ?_
        obtain ⟨e1, sE, rr, q⟩ := sg_iff.mp y Γ p e hΓ
        refine ⟨e1, sE, rr, ?_⟩
        cases e1 with
        | ret r => exact q
        | susp v gd lv k2 c2 p2 f2 =>
          obtain ⟨q0, q1, i, xv, ip, σ, H5, hn, rv, y5, sm, yp, wk⟩ := q
          obtain ⟨f1, f2', f3, f4⟩ := facts y5 sm
          exact ⟨q0, q1, i, xv, H5, _, hn, rv, f1, f2', f3, f4, yp, fun H6 s6 fo6 y6 => wk H6 s6 fo6 y6⟩
      | succ n ih =>
        intro h sB c t fs s5 y
        refine sg_iff.mpr fun Γ p e hΓ => ?_
        obtain ⟨e1, sE, rr, q⟩ := sg_iff.mp y Γ p e hΓ
        refine ⟨e1, sE, rr, ?_⟩
        cases e1 with
        | ret r => exact q
        | susp v gd lv k2 c2 p2 f2 =>
          obtain ⟨q0, q1, i, xv, ip, σ, H5, hn, rv, y5, sm, yp, wk⟩ := q
          obtain ⟨f1, f2', f3, f4⟩ := facts y5 sm
          exact ⟨q0, q1, i, xv, H5, _, hn, rv, f1, f2', f3, f4, yp, fun H6 s6 fo6 y6 => ih (wk H6 s6 fo6 y6)⟩
    refine wide N ?_
    refine ht.run Aw [] fo3 _ N 0 H3 s3 _ [] _ _ id id s3 (L2.start nms vs) H3 _ ⟨over_func, rfl, rfl, rfl⟩ (Nat.add_zero _) (fun n i Hs fo sB s5 fl hn y => ?_) w0 (hq H3 z.same)
    cases fl with
    | next =>
      obtain ⟨σ5, H5, y5, sm, q5⟩ := y
      obtain ⟨f1, f2, _⟩ := facts y5 sm
      exact sg_end (.ok (.ret .none)) ⟨rfl, i, H5, hn, f1, f2, q5⟩
    | brk => obtain ⟨_, _, _, q⟩ := y; exact q.elim
    | cont => obtain ⟨_, _, _, q⟩ := y; exact q.elim
    | ret u =>
      obtain ⟨v, σ5, H5, y5, rv, ev, sm, q5⟩ := y
      subst ev
      have eu : u = Value.none := rv
      subst eu
      obtain ⟨f1, f2, _⟩ := facts y5 sm
      exact sg_end (.ok (.ret .none)) ⟨rfl, i, H5, hn, f1, f2, q5⟩
  exact ⟨_, _, rfl, made _ _ _ _ rfl rfl rfl (fun h => Heap.get?_push_size h rfl)⟩
end KH
/-! ### walking a generator: next, for -/
namespace GH
open PySem PySem.Spec PyProof.Rows L2 CC GenW
/-- the next item of a generator, or its end; nothing is raised -/
theorem nextH {P : Program} {w : World} {A : Around} {E : Value → Shared → Prop} {s : Shared} {a : Addr} {g n : Nat} {h : Hp} {gs : GenState} {RE2 : REnd Hp} {Y : YOut Hp} {Q : Option Value → Shared → Prop} (quietA : A.handled = none) (lim : s.heap.NoLimit) (low : A.depth < recursionLimit)
    (isG : s.heap.IsGen a g) (st : s.gens[g]? = some gs) (go : Goes (model P w) A.in1 RE2 Y n h gs (.send .none) (s.setGen g .running))
    (atEnd : ∀ x s1, RE2 n h (s.setGen g .running) x s1 → x = .ok (.ret .none) ∧ ∀ h2, (∀ b o, s1.heap.get? b = some o → h2.get? b = some o) → Q none { s1.setGen g .finished with heap := h2 })
    (atItem : ∀ v s1 gs2, 0 < n → gs2.bare = true → PZ.Asleep gs2 → Y (n - 1) h (s.setGen g .running) v s1 (kapH (model P w) A.in1 RE2 Y n gs2) → Q (some v) (s1.setGen g gs2)) :
    wpAny (model P w) A (pyNext (.ref a)) Q E s := by
  unfold pyNext
  refine wpAny_bind (wpAny_attempt (wpAny_callSpecial?_slot (name := Str.ofString "__next__") isG.typeIs slot_gen_next (wpAny_call_entry slot_gen_next isG.typeIs entry_gen_next ?_ (args_gen_next _))))
  show wpAny _ A.in1 (Builtin.Generator.genWake (.ref a) (.send .none)) _ _ s
  unfold Builtin.Generator.genWake
  refine wpAny_bind (wpAny_holding (wpAny_genNumber isG (wpAny_bind (wpAny_genState st ?_))))
  cases gs with
  | running => exact go.elim
  | finished => exact go.elim
  | _ =>
    refine wpAny_bind (wpAny_roomToWake lim low ?_)
    show wpAny _ A.in1 (.resume g (.send .none) ([] : List Value) _) _ _ s
    refine wake_any st go (fun x s1 hx => ?_) (fun v s1 gs2 h0 hb ha hv => ?_)
    · obtain ⟨rfl, q⟩ := atEnd x s1 hx
      show wpAny _ A.in1 ((newExc (.type "StopIteration") []) >>= _) _ _ _
      refine wpAny_bind ?_
      simp only [newExc, newTuple]
      refine wpAny_bind (wpAny_newObj_type ?_ (by size_fits))
      refine wpAny_bind (m := firstArgMember _ _) (wpAny_of_eq (a := Value.none) (by first | rfl | (simp only [firstArgMember]; rfl)) ?_)
      refine (wpAny_newObj_type ?_ (by size_fits))
      simp only [raiseNew]
      refine wpAny_bind (wpAny_bind (wpAny_handled ?_))
      first | rw [show A.in1.handled = none from quietA] | rw [quietA]
      refine (wpAny_throw ?_)
      refine wpAny_bind (wpAny_isInstance (T := "StopIteration") (b := true) ⟨_, Heap.get?_push_size _ rfl, rfl⟩ isSubtype_stop ?_)
      exact wpAny_pure (q _ fun b o eb => Heap.get?_push_of_some _ (Heap.get?_push_of_some _ eb))
    · exact wpAny_pure ⟨v, rfl, wpAny_pure (atItem v s1 gs2 h0 hb ha hv)⟩
/-- what the segment of a generator has left of our own -/
theorem seg_inv {X : Cx} {pins : List (Addr × Obj)} {σ : L2.St} {H H5 : Hp} {s sB s1 s2 : Shared} {n0 : Nat} (I : Inv X pins σ H s) (f : SegF X.prog X.w X.stack n0 H sB H5 s1) (hB : sB.heap = s.heap) (oB : sB.os = s.os) (k2 : ∀ b o, s1.heap.get? b = some o → s2.heap.get? b = some o) (o2 : s2.os = s1.os) (b2 : AllBare s2.gens)
    (lo : X.s_0.heap.objs.size ≤ n0) (hL : X.env.locals < n0) (hcell : ∀ x c, X.env.cells.lookup x = some c → c < n0) (hpin : ∀ p ∈ X.pn ++ pins, p.1 < n0) : Inv X pins σ H5 s2 := by
  have hlt : ∀ b, b ∉ (List.range s.heap.objs.size).filter (fun b => decide (n0 ≤ b)) → ∀ o, s.heap.get? b = some o → b < n0 := fun b hb o e => by
    have := Heap.lt_size e
    by_cases z : n0 ≤ b
    · exact absurd (List.mem_filter.mpr ⟨List.mem_range.mpr this, decide_eq_true z⟩) hb
    · exact Nat.lt_of_not_le z
  have cg : ∀ b o, s.heap.get? b = some o → b < n0 → (cutHeap n0 sB.heap).get? b = some o := fun b o e hb => by
    rw [cut_get, if_pos hb, hB]
    exact e
  have u : Un (frs X.stack) ((List.range s.heap.objs.size).filter (fun b => decide (n0 ≤ b))) H H5 s.heap s2.heap := by
    refine ⟨fun b o e n hb hx => ?_, fun b o e n hb hx => ?_, fun b o e n hx => ?_, fun b o e hx => ?_, fun b xs q => f.same _ _ q, fun b o u q => f.same _ _ q, fun b ps q => ⟨#[], by rw [f.same _ _ q]; simp⟩⟩
    · have z := hlt b hx o e
      exact k2 _ _ (f.un.keep b o (cg b o e z) (by rw [cutH_lt z]; exact n) hb (by simp))
    · have z := hlt b hx o e
      obtain ⟨sl, y⟩ := f.un.slot b o (cg b o e z) (by rw [cutH_lt z]; exact n) hb (by simp)
      exact ⟨sl, k2 _ _ y⟩
    · have z := hlt b hx o e
      exact f.un.free b o (cg b o e z) (by rw [cutH_lt z]; exact n) (by simp)
    · have z := hlt b hx o e
      obtain ⟨o', y⟩ := f.un.there b o (cg b o e z) (by simp)
      exact ⟨o', k2 _ _ y⟩
  refine I.call' (ch := (List.range s.heap.objs.size).filter (fun b => decide (n0 ≤ b))) (o2.trans (f.os.trans oB)) u (f.hok.kept k2) b2 fun b hb => ?_
  have z : n0 ≤ b := of_decide_eq_true (List.mem_filter.mp hb).2
  exact ⟨.inr (Nat.le_trans lo z), Nat.ne_of_gt (Nat.lt_of_lt_of_le hL z), fun x c e => Nat.ne_of_lt (Nat.lt_of_lt_of_le (hcell x c e) z), fun p hp => Nat.ne_of_lt (Nat.lt_of_lt_of_le (hpin p hp) z)⟩
theorem inv_gens {X : Cx} {pins : List (Addr × Obj)} {σ : L2.St} {H : Hp} {s : Shared} {G : Array GenState} (I : Inv X pins σ H s) (h : AllBare G) : Inv X pins σ H { s with gens := G } :=
  ⟨I.ok, I.os, h, I.base, I.loc, I.cell, I.free, I.freeC, I.pin, I.hok, I.len⟩
/-- all that is not ours and stands behind n0 -/
noncomputable def ownP (n0 : Nat) (H : Hp) (h : Heap) : List (Addr × Obj) := pinsAt ((List.range h.objs.size).filter fun b => open Classical in decide (n0 ≤ b ∧ H b = none ∧ ∀ o, h.get? b = some o → ∀ v, o.data ≠ .cell v)) h
open Classical in
theorem mem_ownP {n0 : Nat} {H : Hp} {h : Heap} {b : Addr} {o : Obj} (hb : n0 ≤ b) (e : h.get? b = some o) (hn : H b = none) (hc : ∀ v, o.data ≠ .cell v) : (b, o) ∈ ownP n0 H h :=
  mem_pinsAt (List.mem_filter.mpr ⟨List.mem_range.mpr (Heap.lt_size e), decide_eq_true ⟨hb, hn, fun o' e' => by rw [e] at e'; cases e'; exact hc⟩⟩) e
open Classical in
theorem of_ownP {n0 : Nat} {H : Hp} {h : Heap} {p : Addr × Obj} (hp : p ∈ ownP n0 H h) : n0 ≤ p.1 ∧ h.get? p.1 = some p.2 ∧ H p.1 = none ∧ ∀ v, p.2.data ≠ .cell v := by
  obtain ⟨h1, h2⟩ := of_pinsAt hp
  obtain ⟨q1, q2, q3⟩ := of_decide_eq_true (List.mem_filter.mp h1).2
  exact ⟨q1, h2, q2, q3 p.2 h2⟩
def tForY (ta : TA) (sp : SpY) (dvs : List V) (g : TG) (tb : TS) : TS := fun D σ H => ta σ H fun vs H1 => ∃ (Yp : YpT) (Q : Nat → Hp → Prop), sp (vs ++ dvs) H1 Yp Q ∧ ∃ W : Nat → L2.St → Hp → Prop, W 0 σ H1 ∧
  (∀ i σ H H2, W i σ H → Same H H2 → Q i H2 → D.nx σ H2) ∧
  ∀ i σ H x H2, W i σ H → Same H H2 → Yp i x H2 → g x σ H2 fun σ3 H3 => tb { D with nx := fun σ4 H4 => Same H2 H4 ∧ W (i + 1) σ4 H4, ct := fun σ4 H4 => Same H2 H4 ∧ W (i + 1) σ4 H4, bk := D.nx } σ3 H3
/-- for x in f(e, ..): .., f a generator def -/
theorem ps_forY {X : Cx} {k N : Nat} {f : Addr} {fd : FuncData} {ps : List Str} {sp : SpY} {ds : List Value} {dvs : List V} {x : Str} {p cp pos : Pos} {e tg : Expr} {es : List Expr} {body : List Stmt} {ta : TA} {g : TG} {tb : TS} (F : GFnH X.prog X.w X.K X.mg X.base k f fd ps N sp) (hr : Room (k + 1) X.A) (gl : Gl X x) (hm : X.mg x = some (.ref f)) (hk : PySem.W.keepIn X.K (.ref f) = true) (hb : Binds X.K fd ps ds) (hd : Vals dvs ds)
    (ha : PA X (e :: es) ta) (hgt : PG X.nox tg g) (hbody : PSs X.nox body tb) (hs : ∀ v, foldedSetIterable (.Call (.Name x p) (e :: es) [] cp) X.env v = pure v := by intro _; rfl) (hdb : (x == ("__debug__" : Str)) = false := by decide) (he : starEach (e :: es) X.env = (false, eval e X.env) :: starEach es X.env := by rfl) (hpl : (backTo cp (starEach es X.env)).any (·.1) = false := by rfl) :
    PS X (.For tg (.Call (.Name x p) (e :: es) [] cp) body [] pos) (tForY ta sp dvs g tb) := by
  refine ⟨fun pins s σ H D I h => ?_⟩
  refine wpAny_For (wpAny_Call_Name_kw (ld_glob I gl hm ?_ hdb)) hs
  refine PySem.W.callWith_K (h₀ := X.base) I.ok.mod.kin hk (thn (ha.run cp pins s σ H _ I h) fun us s1 ⟨vs, H1, I1, r, q⟩ => ⟨I1.kIn, ?_⟩) he hpl
  obtain ⟨Yp, Q, hsp, W, w0, hend, step⟩ := q
  have r2 : Vals (vs ++ dvs) (us ++ ds) := r.append hd
  have hl2 : (us ++ ds).length = ps.length := by rw [← r2.length]; exact F.len _ _ _ _ hsp
  refine wpAny_call (codeAny_mono (F.run X.A X.stack s1 H1 ⟨us, []⟩ (us ++ ds) (vs ++ dvs) Yp Q (hr.mono (Nat.le_succ k)) I1.env0 (hb s1 us I1.kIn hl2) r2 hsp) fun r s2 hq => ?_)
  cases r with
  | error e => exact hq.elim
  | ok fl =>
  cases fl with
  | next => exact hq.elim
  | brk => exact hq.elim
  | cont => exact hq.elim
  | ret u =>
  obtain ⟨a, gn, c, rfl, fr⟩ := hq
  refine wpAny_pyIter_gen fr.gen ?_
  obtain ⟨n0, en⟩ : ∃ n, n = s1.heap.objs.size := ⟨_, rfl⟩
  have lo : X.s_0.heap.objs.size ≤ n0 := by rw [en]; exact I1.sz
  have hL : X.env.locals < n0 := by rw [en]; exact I1.lt
  have hcell : ∀ x c, X.env.cells.lookup x = some c → c < n0 := fun x c e => by
    obtain ⟨v, o, ho, _⟩ := I1.cell x c e
    rw [en]
    exact Heap.lt_size ho
  have hpin : ∀ p ∈ X.pn ++ pins, p.1 < n0 := fun p hp => by rw [en]; exact Heap.lt_size (I1.pin p hp).1
  have I2 : Inv X pins σ H1 s2 := I1.call' (ch := []) fr.os (Un.kept fr.keep) (I1.hok.kept fr.keep) fr.bare fun b z => by simp at z
  have woken : ∀ {H5 H7 : Hp} {s5 s7 : Shared} {pins7 : List (Addr × Obj)} {σ7 : L2.St} {G : Array GenState}, Inv X pins7 σ7 H7 s7 → AllBare G → s7.os = s5.os → Same H5 H7 → (∀ b o, n0 ≤ b → s5.heap.get? b = some o → H5 b = none → (∀ v, o.data ≠ .cell v) → s7.heap.get? b = some o ∧ H7 b = none) →
      WokeG X.prog X.w X.base X.stack n0 H5 s5 H7 { s7 with gens := G } := fun {H5 H7 s5 s7 pins7 σ7 G} I7 hG ho sm ow => ⟨I7.bs, I7.env0.funs, I7.env0.frf, I7.hok, hG, ho, sm, ow⟩
  refine codeAny_forLoop_any (fun m s' => ∃ i σ' H' gs, m + i = N ∧ W i σ' H' ∧ Inv X pins σ' H' s' ∧ s'.heap.IsGen a gn ∧ s'.gens[gn]? = some gs ∧ Goes (model X.prog X.w) X.A.in1 (RE X.prog X.w X.stack n0 N a gn Q) (YE X.prog X.w X.base X.stack n0 N a gn Yp) m H' gs (.send .none) (s'.setGen gn .running)) ?_ N
    ⟨0, σ, H1, _, Nat.add_zero _, w0, I2, fr.gen, fr.at_, rfl, ?_⟩
  rotate_left
  · have z := fr.run X.A.in1 H1 (s2.setGen gn .running) (hr.in1) I1.ok.frames (by
      rw [← en]
      exact woken I2 (allBare_setGen fr.bare rfl) rfl (Same.refl _) fun b o _ e n _ => ⟨e, n⟩)
    rw [← en] at z
    exact z
  rintro m s3 ⟨i, σ3, H3, gs, hmi, w3, I3, ig3, st3, go3⟩
  have gsz : gn < s3.gens.size := (Array.getElem?_eq_some_iff.mp st3).1
  refine wpAny_gsz (n := gn + 1) gsz ?_
  refine nextH (by exact hr.hd) I3.nolimit (by have := hr.dp; omega) ig3 st3 go3 (fun x5 s5 hx => ?_) (fun v s5 gs5 hpos hbare hsleep hx => ?_)
  · obtain ⟨rfl, i5, H5, hn5, f5, ig5, q5⟩ := hx
    refine ⟨rfl, fun h6 k6 => ?_⟩
    intro _
    obtain rfl : i5 = i := by omega
    have I6 : Inv X pins σ3 H5 { s5.setGen gn .finished with heap := h6 } := seg_inv I3 f5 rfl rfl k6 rfl (allBare_setGen (s := s5) f5.bare rfl) lo hL hcell hpin
    exact wpAny_execs_nil ⟨σ3, H5, I6, hend _ _ _ _ w3 f5.same q5⟩
  · obtain ⟨i5, xv, H5, hn5, rv, f5, ig5, na5, yp5, wk5⟩ := hx
    intro hsz
    obtain ⟨m, rfl⟩ : ∃ z, m = z + 1 := ⟨m - 1, by omega⟩
    obtain rfl : i5 = i := by omega
    have hsz5 : gn < s5.gens.size := by
      have q : (s5.setGen gn gs5).gens.size = s5.gens.size := setGen_size _ _ _
      have hsz : gn + 1 ≤ (s5.setGen gn gs5).gens.size := hsz
      omega
    have st5 : (s5.setGen gn gs5).gens[gn]? = some gs5 := setGen_at hsz5
    have I5 : Inv X pins σ3 H5 (s5.setGen gn gs5) := seg_inv I3 f5 rfl rfl (fun _ _ z => z) rfl (allBare_setGen f5.bare hbare) lo hL hcell hpin
    have P5 : Inv X (pins ++ ownP n0 H5 s5.heap) σ3 H5 (s5.setGen gn gs5) := I5.pins_of fun p hp => by
      rcases List.mem_append.mp hp with z | z
      · exact I5.pin p (List.mem_append_right _ z)
      · obtain ⟨q1, q2, q3, q4⟩ := of_ownP z
        exact ⟨q2, q3, Nat.ne_of_gt (Nat.lt_of_lt_of_le hL q1), fun hm => by
          obtain ⟨_, o, ho, _⟩ := I1.ok.funs.mem hm
          exact absurd (Nat.lt_of_lt_of_le (Nat.lt_of_lt_of_le (Heap.lt_size ho) lo) q1) (Nat.lt_irrefl _), q4⟩
    obtain ⟨og, nm, qn, ho, hcl, hda, hsl⟩ := id ig5
    refine go_of (s := s5.setGen gn gs5) ho hcl hda (by decide) ?_
    have z5 := PZ.wpAny_tw (s := s5.setGen gn gs5) (hgt.run _ _ σ3 H5 xv v _ (inv_gens (P5.wish _) (PZ.bare_dead I5.bare)) rv (step _ _ _ _ _ w3 f5.same yp5))
    refine wpAny_mono z5 (fun _ s6 z6 => ?_) (fun _ _ ⟨_, _, z⟩ => z.elim)
    obtain ⟨B6, tw6, σ6, H6, I6, q6⟩ := z6
    have st6 : s6.gens[gn]? = some gs5 := tw6.kept st5 hsleep
    have z7 := PZ.wpAny_tw (s := s6) (hbody.run _ { s6 with gens := s6.gens.map PZ.dead } σ6 H6 _ (inv_gens (s := { s6 with gens := B6 }) (G := s6.gens.map PZ.dead) I6 (PZ.bare_dead (tw6.bare I6.bare))) q6)
    refine wpAny_mono z7 (fun fl s7 z8 => ?_) (fun _ _ ⟨_, _, z⟩ => z.elim)
    obtain ⟨B7, tw7, sp7⟩ := z8
    have st7 : s7.gens[gn]? = some gs5 := tw7.kept st6 hsleep
    have inv7 : ∀ {σ7 : L2.St} {H7 : Hp}, Inv X.nox (pins ++ ownP n0 H5 s5.heap) σ7 H7 { s7 with gens := B7 } → Inv X (pins ++ ownP n0 H5 s5.heap) σ7 H7 s7 := fun {σ7 H7} I7 => (show Inv X.nox _ σ7 H7 s7 from inv_gens (s := { s7 with gens := B7 }) (G := s7.gens) I7 (tw7.bare I7.bare)).unwish
    have again : ∀ {σ7 : L2.St} {H7 : Hp}, Inv X.nox (pins ++ ownP n0 H5 s5.heap) σ7 H7 { s7 with gens := B7 } → Same H5 H7 → W (i5 + 1) σ7 H7 → ∃ m2, m2 < m + 1 ∧ ∃ i σ' H' gs, m2 + i = N ∧ W i σ' H' ∧ Inv X pins σ' H' s7 ∧ s7.heap.IsGen a gn ∧ s7.gens[gn]? = some gs ∧ Goes (model X.prog X.w) X.A.in1 (RE X.prog X.w X.stack n0 N a gn Q) (YE X.prog X.w X.base X.stack n0 N a gn Yp) m2 H' gs (.send .none) (s7.setGen gn .running) := fun {σ7 H7} J7 sm7 w7 => by
      have I7 := inv7 J7
      have own7 : ∀ b o, n0 ≤ b → s5.heap.get? b = some o → H5 b = none → (∀ v, o.data ≠ .cell v) → s7.heap.get? b = some o ∧ H7 b = none := fun b o hb e n c => by
        obtain ⟨y1, y2, _⟩ := I7.pin (b, o) (List.mem_append_right _ (List.mem_append_right _ (mem_ownP hb e n c)))
        exact ⟨y1, y2⟩
      refine ⟨m, Nat.lt_succ_self m, i5 + 1, σ7, H7, gs5, by omega, w7, I7.unpinned, ?_, st7, ?_⟩
      · exact ⟨og, nm, qn, (own7 a og (by rw [en]; exact fr.lo) ho na5 fun v q => by rw [hda] at q; cases q).1, hcl, hda, hsl⟩
      · exact wk5 H7 (s7.setGen gn .running) (woken I7 (allBare_setGen I7.bare rfl) (I7.os.trans I5.os.symm) sm7 own7)
    cases fl with
    | next => obtain ⟨σ7, H7, I7, sm7, w7⟩ := sp7; exact again I7 sm7 w7
    | cont => obtain ⟨σ7, H7, I7, sm7, w7⟩ := sp7; exact again I7 sm7 w7
    | brk => obtain ⟨σ7, H7, I7, q7⟩ := sp7; exact ⟨σ7, H7, (inv7 I7).unpinned, q7⟩
    | ret u7 => obtain ⟨v7, σ7, H7, I7, rv7, q7⟩ := sp7; exact ⟨v7, σ7, H7, (inv7 I7).unpinned, rv7, q7⟩
end GH
/-! ### following(rules), walked by whoever likes -/
namespace CC
open PySem L2 GH
def spFolY (K : PySem.W.Frag) (C : Addr) : SpY := fun vs H Yp Q => ∃ (x : Addr) (w : Nat) (rs : List R), vs = [.ref x] ∧ RulesAt K C H x w rs ∧ (∀ r ∈ rs, r.ok w) ∧ w ≤ 6 ∧ rs.length ≤ 60 ∧
  ∀ F : R → Bool, (∀ r, F r = true ↔ Fol rs r) → (∀ i v H2 r, Same H H2 → (folL F w)[i]? = some r → Dp K H2 v r.d → Yp i v H2) ∧ ∀ H2, Same H H2 → Q (folL F w).length H2
structure CalH (P : Program) (w : World) (K : PySem.W.Frag) (mg : Str → Option Value) (base : Heap) (x : Str) (ps : List Str) (N : Nat) (sp : SpY) (l : Nat) where
  f : Addr
  fd : FuncData
  ok : ∀ k, l ≤ k → GFnH P w K mg base k f fd ps N sp
  kp : PySem.W.keepIn K (.ref f) = true
  b : Binds K fd ps []
  g : mg x = some (.ref f)
def calH {P : Program} {w : World} {K : PySem.W.Frag} {mg : Str → Option Value} {base : Heap} {x : Str} {st : Stmt} {ps : List Str} {N : Nat} {sp : SpY} {l : Nat} (d : Df K mg x st ps) (h : ∀ k, GFnH P w K mg base (k + l) d.f d.fd ps N sp) : CalH P w K mg base x ps N sp l :=
  ⟨d.f, d.fd, fun k hk => (Nat.sub_add_cancel hk) ▸ h (k - l), d.F.kp, d.b, d.g⟩
section
variable {K : PySem.W.Frag} {g : TG} {tb : TGH} {D : GE} {i : Nat} {Hs : Hp} {σ : L2.St} {H : Hp}
theorem for_listH {a : Addr} {xs : List V} (Pv : Nat → Nat → Hp → L2.St → Hp → Prop) (h0 : Pv 0 i Hs σ H) (hl : ∀ j i Hs σ H, j ≤ xs.length → Pv j i Hs σ H → SqL K H a xs)
    (hs : ∀ j x i Hs σ H, xs[j]? = some x → Pv j i Hs σ H → g x σ H fun σ2 H2 => tb { D with nx := Pv (j + 1), ct := Pv (j + 1), bk := D.nx } i Hs σ2 H2) (hd : ∀ i Hs σ H, Pv xs.length i Hs σ H → D.nx i Hs σ H) :
    ∃ W : Nat → Nat → Nat → Hp → L2.St → Hp → Prop, (∃ m, W 0 m i Hs σ H) ∧ ∀ j m i Hs σ H, W j m i Hs σ H →
      ((Itl K a).stop j H ∧ D.nx i Hs σ H) ∨ ((Itl K a).go j H ∧ ∃ N : Nat → Hp → L2.St → Hp → Prop, (∀ i2 Hs2 σ2 H2, N i2 Hs2 σ2 H2 → ∃ m2, m2 < m ∧ W (j + 1) m2 i2 Hs2 σ2 H2) ∧ ∀ x H2, (Itl K a).yld j H x H2 → g x σ H2 fun σ3 H3 => tb { D with nx := N, ct := N, bk := D.nx } i Hs σ3 H3) := by
  refine ⟨fun j m i Hs σ H => m = xs.length - j ∧ j ≤ xs.length ∧ Pv j i Hs σ H, ⟨xs.length, by simp, Nat.zero_le _, h0⟩, ?_⟩
  rintro j m i Hs σ H ⟨rfl, hj, p⟩
  have q := hl j i Hs σ H hj p
  by_cases lt : j < xs.length
  · refine .inr ⟨⟨xs, xs[j], q, by simp [lt]⟩, Pv (j + 1), fun i2 Hs2 σ2 H2 p2 => ⟨xs.length - (j + 1), by omega, rfl, lt, p2⟩, fun x H2 y => ?_⟩
    obtain ⟨e, y⟩ := y
    subst e
    exact hs j x i Hs σ _ (y xs q) p
  · have e : j = xs.length := by omega
    subst e
    exact .inl ⟨⟨xs, q, Nat.le_refl _⟩, hd i Hs σ H p⟩
theorem for_tupH {a : Addr} {xs : List V} (Pv : Nat → Nat → Hp → L2.St → Hp → Prop) (h0 : Pv 0 i Hs σ H) (hl : ∀ j i Hs σ H, j ≤ xs.length → Pv j i Hs σ H → SqT K H a xs)
    (hs : ∀ j x i Hs σ H, xs[j]? = some x → Pv j i Hs σ H → g x σ H fun σ2 H2 => tb { D with nx := Pv (j + 1), ct := Pv (j + 1), bk := D.nx } i Hs σ2 H2) (hd : ∀ i Hs σ H, Pv xs.length i Hs σ H → D.nx i Hs σ H) :
    ∃ W : Nat → Nat → Nat → Hp → L2.St → Hp → Prop, (∃ m, W 0 m i Hs σ H) ∧ ∀ j m i Hs σ H, W j m i Hs σ H →
      ((Itt K a).stop j H ∧ D.nx i Hs σ H) ∨ ((Itt K a).go j H ∧ ∃ N : Nat → Hp → L2.St → Hp → Prop, (∀ i2 Hs2 σ2 H2, N i2 Hs2 σ2 H2 → ∃ m2, m2 < m ∧ W (j + 1) m2 i2 Hs2 σ2 H2) ∧ ∀ x H2, (Itt K a).yld j H x H2 → g x σ H2 fun σ3 H3 => tb { D with nx := N, ct := N, bk := D.nx } i Hs σ3 H3) := by
  refine ⟨fun j m i Hs σ H => m = xs.length - j ∧ j ≤ xs.length ∧ Pv j i Hs σ H, ⟨xs.length, by simp, Nat.zero_le _, h0⟩, ?_⟩
  rintro j m i Hs σ H ⟨rfl, hj, p⟩
  have q := hl j i Hs σ H hj p
  by_cases lt : j < xs.length
  · refine .inr ⟨⟨xs, xs[j], q, by simp [lt]⟩, Pv (j + 1), fun i2 Hs2 σ2 H2 p2 => ⟨xs.length - (j + 1), by omega, rfl, lt, p2⟩, fun x H2 y => ?_⟩
    obtain ⟨e, y⟩ := y
    subst e
    exact hs j x i Hs σ _ (y xs q) p
  · have e : j = xs.length := by omega
    subst e
    exact .inl ⟨⟨xs, q, Nat.le_refl _⟩, hd i Hs σ H p⟩
theorem for_rangeH {lo : Int} {n : Nat} (Pv : Nat → Nat → Hp → L2.St → Hp → Prop) (h0 : Pv 0 i Hs σ H)
    (hs : ∀ j i Hs σ H, j < n → Pv j i Hs σ H → g (.int (lo + j)) σ H fun σ2 H2 => tb { D with nx := Pv (j + 1), ct := Pv (j + 1), bk := D.nx } i Hs σ2 H2) (hd : ∀ i Hs σ H, Pv n i Hs σ H → D.nx i Hs σ H) :
    ∃ W : Nat → Nat → Nat → Hp → L2.St → Hp → Prop, (∃ m, W 0 m i Hs σ H) ∧ ∀ j m i Hs σ H, W j m i Hs σ H →
      ((Itr lo n).stop j H ∧ D.nx i Hs σ H) ∨ ((Itr lo n).go j H ∧ ∃ N : Nat → Hp → L2.St → Hp → Prop, (∀ i2 Hs2 σ2 H2, N i2 Hs2 σ2 H2 → ∃ m2, m2 < m ∧ W (j + 1) m2 i2 Hs2 σ2 H2) ∧ ∀ x H2, (Itr lo n).yld j H x H2 → g x σ H2 fun σ3 H3 => tb { D with nx := N, ct := N, bk := D.nx } i Hs σ3 H3) := by
  refine ⟨fun j m i Hs σ H => m = n - j ∧ j ≤ n ∧ Pv j i Hs σ H, ⟨n, by simp, Nat.zero_le _, h0⟩, ?_⟩
  rintro j m i Hs σ H ⟨rfl, hj, p⟩
  by_cases lt : j < n
  · refine .inr ⟨lt, Pv (j + 1), fun i2 Hs2 σ2 H2 p2 => ⟨n - (j + 1), by omega, rfl, lt, p2⟩, fun x H2 y => ?_⟩
    obtain ⟨e1, e2⟩ := y
    subst e1 e2
    exact hs j i Hs σ _ lt p
  · have e : j = n := by omega
    subst e
    exact .inl ⟨Nat.le_refl _, hd i Hs σ H p⟩
end
theorem pre_get {α : Type} {L M : List α} {r : α} (h : L ++ [r] <+: M) : M[L.length]? = some r := by
  obtain ⟨t, rfl⟩ := h
  rw [List.append_assoc, List.getElem?_append_right (Nat.le_refl _), Nat.sub_self]
  rfl
theorem pre_flat {α β : Type} {l1 l2 : List α} (g : α → List β) (h : l1 <+: l2) : l1.flatMap g <+: l2.flatMap g := by
  obtain ⟨t, rfl⟩ := h
  rw [List.flatMap_append]
  exact List.prefix_append _ _
theorem pre_range {a w : Nat} (h : a ≤ w) : List.range a <+: List.range w := by
  have : (List.range w).take a = List.range a := by rw [List.take_range]; congr 1; omega
  rw [← this]
  exact List.take_prefix _ _
theorem pre_left {α : Type} {p a b : List α} (h : a <+: b) : p ++ a <+: p ++ b := by
  obtain ⟨t, rfl⟩ := h
  rw [← List.append_assoc]
  exact List.prefix_append _ _
section
variable {P : Program} {w : World} {K : PySem.W.Frag} {mg : Str → Option Value} {base : Heap} {kA : Addr}
theorem ok_folH {f C : Addr} {fd : FuncData} {k : Nat} (F : Fun K "following" "following" sFol f fd) (T : Glb K mg kA) (TC : Txt1 K mg C) (pW : Prp P w K mg base C "width" "span") (pR : Prp P w K mg base C "rules" "given") (cK : Cal P w K mg base "check_rules" ["rules"] (spChk K C) 1) (cL : Cal P w K mg base "links" ["width", "rules", "kind"] (spLinks K) 3) (cR : Cal P w K mg base "reached" ["pairs", "start"] (spReached K) 2) : GFnH P w K mg base (k + 4) f fd ["rules"] 1000 (spFolY K C) := by
  have GK := cK.ok (k + 3) (by omega)
  have GL := cL.ok (k + 3) (by omega)
  have GR := cR.ok (k + 3) (by omega)
  obtain ⟨oc, od, kV, doc, pm, an, cdv, ct, osl, rfl, lk, hcd⟩ := F.ex
  refine gfnH_of lk hcd scFol (fun _ => rfl) (fun vs H Yp Q h => ?_) (fun A outer s H vs Yp Q pn hr gx h => ?_)
  · obtain ⟨x, w, rs, rfl, _⟩ := h
    rfl
  · obtain ⟨x, w, rs, rfl, ra, ho, hw, hl, q⟩ := h
    have n := scFol.nd
    refine ⟨_, hs_cons (h_ps fun s0 H0 => ps_expr (pe_call GK hr rfl cK.g cK.kp cK.b .nil pass0 (pa_cons (pv 0) pa_nil)))
      (hs_cons (h_for gx rfl (fun s0 H0 => (show PI _ _ _ (iTup K (tC (.ref kA))) from pi_tup (pe_glob (v := .ref kA) rfl T.knd rfl))) (fun s0 H0 => pg_name (i := 1) n rfl (.inl rfl))
        (hs_cons (h_ps fun s0 H0 => ps_set (i := 2) n rfl (.inl rfl) (pe_call GL hr rfl cL.g cL.kp cL.b .nil pass0 (pa_cons (pe_prop (pv 0) TC.cl pW.hp (pW.ok (k + 2) (by omega)) hr pW.b .nil pass0 rfl) (pa_cons (pe_prop (pv 0) TC.cl pR.hp (pR.ok (k + 2) (by omega)) hr pR.b .nil pass0 rfl) (pa_cons (pv 1) pa_nil)))))
        (hs_cons (h_for gx rfl (fun s0 H0 => pi_range1 (by rfl) T.rng (pa_cons (pe_prop (pv 0) TC.cl pW.hp (pW.ok (k + 2) (by omega)) hr pW.b .nil pass0 rfl) pa_nil)) (fun s0 H0 => pg_name (i := 3) n rfl (.inl rfl))
          (hs_cons (h_for gx rfl (fun s0 H0 => (show PI _ _ _ (iList K (tCall (spReached K) [] E0 (tCons (tVar 2) (tCons (tVar 3) tNil)))) from pi_list (pe_call GR hr rfl cR.g cR.kp cR.b .nil pass0 (pa_cons (pv 2) (pa_cons (pv 3) pa_nil))))) (fun s0 H0 => pg_name (i := 4) n rfl (.inl rfl))
            (hs_cons (h_if (fun s0 H0 => pt_cmpR op_ne (pv 3) (pv 4) (nomark _)) (hs_cons (h_yield gx (fun s0 H0 => pe_tup (pa_cons (pv 1) (pa_cons (pv 3) (pa_cons (pv 4) pa_nil))))) hs_nil) hs_nil) hs_nil)) hs_nil)) hs_nil))) hs_nil), fun Hw sw => ?_⟩
    obtain ⟨F, hF⟩ : ∃ F : R → Bool, ∀ r, F r = true ↔ Fol rs r := by
      classical
      exact ⟨fun r => decide (Fol rs r), fun r => decide_eq_true_iff⟩
    obtain ⟨qy, qe⟩ := q F hF
    have hk : ∀ H, SqT K H kA [.str "settles", .str "within"] := fun H => .inr T.kseq
    have ew : ((w : Nat) : Int).toNat = w := by omega
    obtain ⟨gg, egg⟩ : ∃ gg : Bool → Nat → List R, gg = fun k a => (row w a k).filter F := ⟨_, rfl⟩
    have ef : folL F w = [true, false].flatMap fun k => (List.range w).flatMap (gg k) := by
      rw [egg]
      unfold folL allR
      simp only [List.filter_flatMap]
    have f60 : (folL F w).length ≤ 60 := by
      have h1 : (folL F w).length ≤ (allR w).length := List.length_filter_le _ _
      have h2 := few_rules hw (fun r hr => mem_allR.mp hr) (allR_nodup hw)
      omega
    have raw := ra.same sw
    obtain ⟨dx, g, us, h1, h2, h3⟩ := id raw
    refine ⟨_, rfl, x, w, rs, rfl, raw, ?_⟩
    refine ⟨kA, rfl, ⟨_, hk _⟩, ?_⟩
    refine for_tupH (xs := [.str "settles", .str "within"]) (fun j i Hs σ H' => ∃ y1 y2 y3 y4, σ = [some (.ref x), y1, y2, y3, y4] ∧ Same Hw H' ∧ Same Hs H' ∧ i = (([true, false].take j).flatMap fun k => (List.range w).flatMap (gg k)).length)
      ⟨none, none, none, none, rfl, Same.refl _, Same.refl _, rfl⟩ (fun j i Hs σ H' _ _ => hk _) ?_ ?_
    · rintro j v i Hs σ H1 hv ⟨y1, y2, y3, y4, rfl, s1, sb1, ei⟩
      obtain ⟨kk, rfl, hj, tk⟩ : ∃ kk : Bool, v = .str (kd kk) ∧ j < 2 ∧ [true, false].take (j + 1) = [true, false].take j ++ [kk] := by
        match j, hv with
        | 0, hv =>
          simp at hv
          exact ⟨true, hv.symm, by decide, rfl⟩
        | 1, hv =>
          simp at hv
          exact ⟨false, hv.symm, by decide, rfl⟩
        | n + 2, hv => simp at hv
      have pk : ([true, false].take j).flatMap (fun k => (List.range w).flatMap (gg k)) ++ (List.range w).flatMap (gg kk) <+: folL F w := by
        have : ([true, false].take (j + 1)).flatMap (fun k => (List.range w).flatMap (gg k)) <+: folL F w := by
          rw [ef]
          exact pre_flat _ (List.take_prefix _ _)
        rw [tk, List.flatMap_append, List.flatMap_cons, List.flatMap_nil, List.append_nil] at this
        exact this
      rw [tk, List.flatMap_append]
      generalize ([true, false].take j).flatMap (fun k => (List.range w).flatMap (gg k)) = pre at ei pk
      refine ⟨_, rfl, x, dx, _, rfl, s1 _ _ h1, x, dx, _, _, rfl, s1 _ _ h1, flds_span _ _, ?_⟩
      refine ⟨_, rfl, x, dx, _, rfl, s1 _ _ h1, x, dx, _, _, rfl, s1 _ _ h1, flds_given _ _, ?_⟩
      refine ⟨_, rfl, w, g, us, rs, kk, rfl, .inl (.inl (s1 _ _ h2)), dps_same s1 _ _ h3, ho, hw, hl, fun p pu ps H2 s2 np hp dps hps pl => ?_⟩
      have dps2 : DpAll K H2 pu (ps.map prd) := dps_same (wo_le p) _ _ dps
      have plt : ∀ z ∈ ps, z.1 < w ∧ z.2 < w := fun z hz => by
        obtain ⟨z1, z2⟩ := z
        have hz := (hps z1 z2).mp hz
        rcases hz with hz | ⟨hz, _⟩
        · exact ⟨(ho _ hz).1, (ho _ hz).2.1⟩
        · exact ⟨(ho _ hz).2.1, (ho _ hz).1⟩
      have plt6 : ∀ z ∈ ps, z.1 < 6 ∧ z.2 < 6 := fun z hz => ⟨Nat.lt_of_lt_of_le (plt z hz).1 hw, Nat.lt_of_lt_of_le (plt z hz).2 hw⟩
      have s12 := s1.trans s2
      refine ⟨_, rfl, x, dx, _, rfl, s12 _ _ h1, x, dx, _, _, rfl, s12 _ _ h1, flds_span _ _, ?_⟩
      refine ⟨_, rfl, by omega, by omega, ?_⟩
      refine for_rangeH (lo := 0) (n := ((w : Nat) : Int).toNat) (fun a i Hs σ H' => ∃ y3 y4, σ = [some (.ref x), some (.str (kd kk)), some (.ref p), y3, y4] ∧ Same H2 H' ∧ Same Hs H' ∧ i = (pre ++ (List.range a).flatMap (gg kk)).length)
        ⟨y3, y4, rfl, Same.refl _, sb1.trans s2, by rw [List.range_zero, List.flatMap_nil, List.append_nil]; exact ei⟩ ?_ ?_
      · rintro a i Hs σ H3 ha ⟨y3, y4, rfl, s3, sb3, ei3⟩
        have aw : a < w := by omega
        rw [Int.zero_add]
        refine ⟨_, rfl, _, rfl, p, pu, ps, a, rfl, SqL.of (s3 _ _ hp), dps_same s3 _ _ dps2, plt6, by omega, by omega, fun pr fs H4 s4 npr hpr hfs hsr => ⟨pr, rfl, ⟨_, SqL.of hpr⟩, ?_⟩⟩
        have fs_is : fs = (List.range w).filter (fun b => F ⟨kk, a, b⟩) := by
          refine inc_eq hsr (List.Pairwise.filter _ List.pairwise_lt_range) fun b => ?_
          rw [List.mem_filter, List.mem_range, hF, hfs]
          constructor
          · intro z
            exact ⟨Rch.lt plt aw z, (rch_rt hps).mp z⟩
          · rintro ⟨_, z⟩
            exact (rch_rt hps).mpr z
        have er : gg kk a = (fs.filter fun b => decide (a ≠ b)).map fun b => (⟨kk, a, b⟩ : R) := by
          rw [egg, fs_is, List.filter_filter]
          show (row w a kk).filter F = _
          unfold row
          rw [List.filter_map, List.filter_filter]
          congr 1
          refine List.filter_congr fun b _ => ?_
          rw [Bool.and_comm]
          rfl
        have pa : (pre ++ (List.range a).flatMap (gg kk)) ++ gg kk a <+: folL F w := by
          refine List.IsPrefix.trans ?_ pk
          rw [List.append_assoc]
          refine pre_left ?_
          have := pre_flat (gg kk) (pre_range (show a + 1 ≤ w by omega))
          rwa [List.range_succ, List.flatMap_append, List.flatMap_cons, List.flatMap_nil, List.append_nil] at this
        have ea : pre ++ (List.range (a + 1)).flatMap (gg kk) = (pre ++ (List.range a).flatMap (gg kk)) ++ gg kk a := by
          rw [List.range_succ, List.flatMap_append, List.flatMap_cons, List.flatMap_nil, List.append_nil, List.append_assoc]
        rw [ea]
        generalize pre ++ (List.range a).flatMap (gg kk) = pre2 at ei3 pa
        refine for_listH (xs := nms fs) (fun t i Hs σ H' => ∃ y4, σ = [some (.ref x), some (.str (kd kk)), some (.ref p), some (.int (a : Int)), y4] ∧ Same H4 H' ∧ Same Hs H' ∧ i = (pre2 ++ (((fs.take t).filter fun b => decide (a ≠ b)).map fun b => (⟨kk, a, b⟩ : R))).length)
          ⟨y4, rfl, Same.refl _, sb3.trans s4, by rw [List.take_zero, List.filter_nil, List.map_nil, List.append_nil]; exact ei3⟩ (fun t i Hs σ H' _ ⟨_, _, z, _⟩ => SqL.of (z _ _ hpr)) ?_ ?_
        · rintro t v i Hs σ H5 hv ⟨y4, rfl, s5, sb5, ei5⟩
          obtain ⟨b, hb, rfl⟩ : ∃ b, fs[t]? = some b ∧ v = .int (b : Int) := by
            rw [nms, List.getElem?_map] at hv
            cases z : fs[t]? with
            | none => rw [z] at hv; cases hv
            | some m => rw [z] at hv; exact ⟨m, rfl, (Option.some.inj hv).symm⟩
          refine ⟨_, rfl, _, rfl, rfl, _, rfl, ?_⟩
          by_cases e : a = b
          · have e1 : (!decide (V.int (a : Int) = V.int (b : Int))) = false := by rw [e]; simp
            rw [e1]
            refine iteF ⟨_, rfl, s5, sb5, ?_⟩
            rw [take1 hb, List.filter_append, List.filter_cons_of_neg (p := fun b => decide (a ≠ b)) (by simp [e]), List.filter_nil, List.append_nil]
            exact ei5
          · have e1 : (!decide (V.int (a : Int) = V.int (b : Int))) = true := by
              rw [decide_eq_false (fun q => e (by injection q with q; omega))]
              rfl
            rw [e1]
            have et : (((fs.take (t + 1)).filter fun b => decide (a ≠ b)).map fun b => (⟨kk, a, b⟩ : R)) = (((fs.take t).filter fun b => decide (a ≠ b)).map fun b => (⟨kk, a, b⟩ : R)) ++ [⟨kk, a, b⟩] := by
              rw [take1 hb, List.filter_append, List.filter_cons_of_pos (p := fun b => decide (a ≠ b)) (decide_eq_true e), List.filter_nil, List.map_append]
              rfl
            have pt : (pre2 ++ (((fs.take t).filter fun b => decide (a ≠ b)).map fun b => (⟨kk, a, b⟩ : R))) ++ [⟨kk, a, b⟩] <+: folL F w := by
              refine List.IsPrefix.trans ?_ pa
              rw [List.append_assoc, ← et, er]
              exact pre_left ((List.IsPrefix.filter _ (List.take_prefix _ _)).map _)
            have gt := pre_get pt
            rw [← ei5] at gt
            have il : i < (folL F w).length := (List.getElem?_eq_some_iff.mp gt).1
            refine iteT ⟨by omega, ?_⟩
            refine ⟨_, rfl, _, rfl, _, rfl, (by show 3 ≤ sizeLine; decide), fun tt nt => ?_⟩
            refine ⟨sb5.trans (same_new nt), ?_, fun H6 s6 => ?_⟩
            · exact qy i _ _ ⟨kk, a, b⟩ (sw.trans (s12.trans (s3.trans (s4.trans (s5.trans (same_new nt)))))) gt (r_dp (r := ⟨kk, a, b⟩) (.inl (.inl upd_same)))
            · refine ⟨_, rfl, s5.trans ((same_new nt).trans s6), Same.refl _, ?_⟩
              rw [et, ← List.append_assoc, List.length_append, ← ei5]
              rfl
        · rintro i Hs σ H5 ⟨y4, rfl, s5, sb5, ei5⟩
          rw [nms_len, List.take_length, ← er] at ei5
          exact ⟨_, _, rfl, s3.trans (s4.trans s5), sb5, ei5⟩
      · rintro i Hs σ H3 ⟨y3, y4, rfl, s3, sb3, ei3⟩
        rw [ew] at ei3
        refine ⟨_, _, _, _, rfl, s12.trans s3, sb3, ?_⟩
        rw [List.flatMap_cons, List.flatMap_nil, List.append_nil]
        exact ei3
    · rintro i Hs σ H1 ⟨y1, y2, y3, y4, rfl, s1, sb1, ei⟩
      have ei : i = (folL F w).length := by rw [ei, ef]; rfl
      rw [ei]
      exact ⟨sb1, qe H1 (sw.trans s1)⟩
end
end CC
/-! ### following(rules), walked beside others (genk.py) -/
namespace CC
open PySem L2 GH
structure KCalY (P : Program) (w : World) (K : PySem.W.Frag) (mg : Str → Option Value) (base : Heap) (x : Str) (ps : List Str) (N : Nat) (sp : SpY) (l : Nat) where
  f : Addr
  fd : FuncData
  ok : ∀ k, l ≤ k → KH.GFnK P w K mg base k f fd ps N sp
  kp : PySem.W.keepIn K (.ref f) = true
  b : Binds K fd ps []
  g : mg x = some (.ref f)
section
variable {P : Program} {w : World} {K : PySem.W.Frag} {mg : Str → Option Value} {base : Heap} {kA : Addr}
theorem kk_fol {f C : Addr} {fd : FuncData} {k : Nat} (F : Fun K "following" "following" sFol f fd) (T : Glb K mg kA) (TC : Txt1 K mg C) (pW : KG.KPrp P w K mg base C "width" "span") (pR : KG.KPrp P w K mg base C "rules" "given") (cK : KG.KCal P w K mg base "check_rules" ["rules"] (spChk K C) 1) (cL : KG.KCal P w K mg base "links" ["width", "rules", "kind"] (spLinks K) 3) (cR : KG.KCal P w K mg base "reached" ["pairs", "start"] (spReached K) 2) : KH.GFnK P w K mg base (k + 4) f fd ["rules"] 1000 (spFolY K C) := by
  have GK := cK.ok (k + 3) (by omega)
  have GL := cL.ok (k + 3) (by omega)
  have GR := cR.ok (k + 3) (by omega)
  obtain ⟨oc, od, kV, doc, pm, an, cdv, ct, osl, rfl, lk, hcd⟩ := F.ex
  refine KH.gfnK_of lk hcd scFol (fun _ => rfl) (fun vs H Yp Q h => ?_) (fun A outer s H vs Yp Q pn hr gx h => ?_)
  · obtain ⟨x, w, rs, rfl, _⟩ := h
    rfl
  · obtain ⟨x, w, rs, rfl, ra, ho, hw, hl, q⟩ := h
    have n := scFol.nd
    refine ⟨_, KH.hs_cons (KH.h_ps fun s0 H0 => KG.ps_expr (KG.pe_call GK hr rfl cK.g cK.kp cK.b .nil (KG.pa_cons (KG.pv 0) KG.pa_nil)))
      (KH.hs_cons (KH.h_for gx rfl (fun s0 H0 => (show KG.KI _ _ _ (iTup K (tC (.ref kA))) from KG.pi_tup (KG.pe_glob (v := .ref kA) rfl T.knd rfl))) (fun s0 H0 => KG.pg_name (i := 1) n rfl (.inl rfl))
        (KH.hs_cons (KH.h_ps fun s0 H0 => KG.ps_set (i := 2) n rfl (.inl rfl) (KG.pe_call GL hr rfl cL.g cL.kp cL.b .nil (KG.pa_cons (KG.pe_prop (KG.pv 0) TC.cl pW.hp (pW.ok (k + 2) (by omega)) hr pW.b .nil rfl) (KG.pa_cons (KG.pe_prop (KG.pv 0) TC.cl pR.hp (pR.ok (k + 2) (by omega)) hr pR.b .nil rfl) (KG.pa_cons (KG.pv 1) KG.pa_nil)))))
        (KH.hs_cons (KH.h_for gx rfl (fun s0 H0 => KG.pi_range1 (by rfl) T.rng (KG.pa_cons (KG.pe_prop (KG.pv 0) TC.cl pW.hp (pW.ok (k + 2) (by omega)) hr pW.b .nil rfl) KG.pa_nil)) (fun s0 H0 => KG.pg_name (i := 3) n rfl (.inl rfl))
          (KH.hs_cons (KH.h_for gx rfl (fun s0 H0 => (show KG.KI _ _ _ (iList K (tCall (spReached K) [] E0 (tCons (tVar 2) (tCons (tVar 3) tNil)))) from KG.pi_list (KG.pe_call GR hr rfl cR.g cR.kp cR.b .nil (KG.pa_cons (KG.pv 2) (KG.pa_cons (KG.pv 3) KG.pa_nil))))) (fun s0 H0 => KG.pg_name (i := 4) n rfl (.inl rfl))
            (KH.hs_cons (KH.h_if (fun s0 H0 => KG.pt_cmpR KG.op_ne (KG.pv 3) (KG.pv 4) (nomark _)) (KH.hs_cons (KH.h_yield gx (fun s0 H0 => KG.pe_tup (KG.pa_cons (KG.pv 1) (KG.pa_cons (KG.pv 3) (KG.pa_cons (KG.pv 4) KG.pa_nil))))) KH.hs_nil) KH.hs_nil) KH.hs_nil)) KH.hs_nil)) KH.hs_nil))) KH.hs_nil), fun Hw sw => ?_⟩
    obtain ⟨F, hF⟩ : ∃ F : R → Bool, ∀ r, F r = true ↔ Fol rs r := by
      classical
      exact ⟨fun r => decide (Fol rs r), fun r => decide_eq_true_iff⟩
    obtain ⟨qy, qe⟩ := q F hF
    have hk : ∀ H, SqT K H kA [.str "settles", .str "within"] := fun H => .inr T.kseq
    have ew : ((w : Nat) : Int).toNat = w := by omega
    obtain ⟨gg, egg⟩ : ∃ gg : Bool → Nat → List R, gg = fun k a => (row w a k).filter F := ⟨_, rfl⟩
    have ef : folL F w = [true, false].flatMap fun k => (List.range w).flatMap (gg k) := by
      rw [egg]
      unfold folL allR
      simp only [List.filter_flatMap]
    have f60 : (folL F w).length ≤ 60 := by
      have h1 : (folL F w).length ≤ (allR w).length := List.length_filter_le _ _
      have h2 := few_rules hw (fun r hr => mem_allR.mp hr) (allR_nodup hw)
      omega
    have raw := ra.same sw
    obtain ⟨dx, g, us, h1, h2, h3⟩ := id raw
    refine ⟨_, rfl, x, w, rs, rfl, raw, ?_⟩
    refine ⟨kA, rfl, ⟨_, hk _⟩, ?_⟩
    refine for_tupH (xs := [.str "settles", .str "within"]) (fun j i Hs σ H' => ∃ y1 y2 y3 y4, σ = [some (.ref x), y1, y2, y3, y4] ∧ Same Hw H' ∧ Same Hs H' ∧ i = (([true, false].take j).flatMap fun k => (List.range w).flatMap (gg k)).length)
      ⟨none, none, none, none, rfl, Same.refl _, Same.refl _, rfl⟩ (fun j i Hs σ H' _ _ => hk _) ?_ ?_
    · rintro j v i Hs σ H1 hv ⟨y1, y2, y3, y4, rfl, s1, sb1, ei⟩
      obtain ⟨kk, rfl, hj, tk⟩ : ∃ kk : Bool, v = .str (kd kk) ∧ j < 2 ∧ [true, false].take (j + 1) = [true, false].take j ++ [kk] := by
        match j, hv with
        | 0, hv =>
          simp at hv
          exact ⟨true, hv.symm, by decide, rfl⟩
        | 1, hv =>
          simp at hv
          exact ⟨false, hv.symm, by decide, rfl⟩
        | n + 2, hv => simp at hv
      have pk : ([true, false].take j).flatMap (fun k => (List.range w).flatMap (gg k)) ++ (List.range w).flatMap (gg kk) <+: folL F w := by
        have : ([true, false].take (j + 1)).flatMap (fun k => (List.range w).flatMap (gg k)) <+: folL F w := by
          rw [ef]
          exact pre_flat _ (List.take_prefix _ _)
        rw [tk, List.flatMap_append, List.flatMap_cons, List.flatMap_nil, List.append_nil] at this
        exact this
      rw [tk, List.flatMap_append]
      generalize ([true, false].take j).flatMap (fun k => (List.range w).flatMap (gg k)) = pre at ei pk
      refine ⟨_, rfl, x, dx, _, rfl, s1 _ _ h1, x, dx, _, _, rfl, s1 _ _ h1, flds_span _ _, ?_⟩
      refine ⟨_, rfl, x, dx, _, rfl, s1 _ _ h1, x, dx, _, _, rfl, s1 _ _ h1, flds_given _ _, ?_⟩
      refine ⟨_, rfl, w, g, us, rs, kk, rfl, .inl (.inl (s1 _ _ h2)), dps_same s1 _ _ h3, ho, hw, hl, fun p pu ps H2 s2 np hp dps hps pl => ?_⟩
      have dps2 : DpAll K H2 pu (ps.map prd) := dps_same (wo_le p) _ _ dps
      have plt : ∀ z ∈ ps, z.1 < w ∧ z.2 < w := fun z hz => by
        obtain ⟨z1, z2⟩ := z
        have hz := (hps z1 z2).mp hz
        rcases hz with hz | ⟨hz, _⟩
        · exact ⟨(ho _ hz).1, (ho _ hz).2.1⟩
        · exact ⟨(ho _ hz).2.1, (ho _ hz).1⟩
      have plt6 : ∀ z ∈ ps, z.1 < 6 ∧ z.2 < 6 := fun z hz => ⟨Nat.lt_of_lt_of_le (plt z hz).1 hw, Nat.lt_of_lt_of_le (plt z hz).2 hw⟩
      have s12 := s1.trans s2
      refine ⟨_, rfl, x, dx, _, rfl, s12 _ _ h1, x, dx, _, _, rfl, s12 _ _ h1, flds_span _ _, ?_⟩
      refine ⟨_, rfl, by omega, by omega, ?_⟩
      refine for_rangeH (lo := 0) (n := ((w : Nat) : Int).toNat) (fun a i Hs σ H' => ∃ y3 y4, σ = [some (.ref x), some (.str (kd kk)), some (.ref p), y3, y4] ∧ Same H2 H' ∧ Same Hs H' ∧ i = (pre ++ (List.range a).flatMap (gg kk)).length)
        ⟨y3, y4, rfl, Same.refl _, sb1.trans s2, by rw [List.range_zero, List.flatMap_nil, List.append_nil]; exact ei⟩ ?_ ?_
      · rintro a i Hs σ H3 ha ⟨y3, y4, rfl, s3, sb3, ei3⟩
        have aw : a < w := by omega
        rw [Int.zero_add]
        refine ⟨_, rfl, _, rfl, p, pu, ps, a, rfl, SqL.of (s3 _ _ hp), dps_same s3 _ _ dps2, plt6, by omega, by omega, fun pr fs H4 s4 npr hpr hfs hsr => ⟨pr, rfl, ⟨_, SqL.of hpr⟩, ?_⟩⟩
        have fs_is : fs = (List.range w).filter (fun b => F ⟨kk, a, b⟩) := by
          refine inc_eq hsr (List.Pairwise.filter _ List.pairwise_lt_range) fun b => ?_
          rw [List.mem_filter, List.mem_range, hF, hfs]
          constructor
          · intro z
            exact ⟨Rch.lt plt aw z, (rch_rt hps).mp z⟩
          · rintro ⟨_, z⟩
            exact (rch_rt hps).mpr z
        have er : gg kk a = (fs.filter fun b => decide (a ≠ b)).map fun b => (⟨kk, a, b⟩ : R) := by
          rw [egg, fs_is, List.filter_filter]
          show (row w a kk).filter F = _
          unfold row
          rw [List.filter_map, List.filter_filter]
          congr 1
          refine List.filter_congr fun b _ => ?_
          rw [Bool.and_comm]
          rfl
        have pa : (pre ++ (List.range a).flatMap (gg kk)) ++ gg kk a <+: folL F w := by
          refine List.IsPrefix.trans ?_ pk
          rw [List.append_assoc]
          refine pre_left ?_
          have := pre_flat (gg kk) (pre_range (show a + 1 ≤ w by omega))
          rwa [List.range_succ, List.flatMap_append, List.flatMap_cons, List.flatMap_nil, List.append_nil] at this
        have ea : pre ++ (List.range (a + 1)).flatMap (gg kk) = (pre ++ (List.range a).flatMap (gg kk)) ++ gg kk a := by
          rw [List.range_succ, List.flatMap_append, List.flatMap_cons, List.flatMap_nil, List.append_nil, List.append_assoc]
        rw [ea]
        generalize pre ++ (List.range a).flatMap (gg kk) = pre2 at ei3 pa
        refine for_listH (xs := nms fs) (fun t i Hs σ H' => ∃ y4, σ = [some (.ref x), some (.str (kd kk)), some (.ref p), some (.int (a : Int)), y4] ∧ Same H4 H' ∧ Same Hs H' ∧ i = (pre2 ++ (((fs.take t).filter fun b => decide (a ≠ b)).map fun b => (⟨kk, a, b⟩ : R))).length)
          ⟨y4, rfl, Same.refl _, sb3.trans s4, by rw [List.take_zero, List.filter_nil, List.map_nil, List.append_nil]; exact ei3⟩ (fun t i Hs σ H' _ ⟨_, _, z, _⟩ => SqL.of (z _ _ hpr)) ?_ ?_
        · rintro t v i Hs σ H5 hv ⟨y4, rfl, s5, sb5, ei5⟩
          obtain ⟨b, hb, rfl⟩ : ∃ b, fs[t]? = some b ∧ v = .int (b : Int) := by
            rw [nms, List.getElem?_map] at hv
            cases z : fs[t]? with
            | none => rw [z] at hv; cases hv
            | some m => rw [z] at hv; exact ⟨m, rfl, (Option.some.inj hv).symm⟩
          refine ⟨_, rfl, _, rfl, rfl, _, rfl, ?_⟩
          by_cases e : a = b
          · have e1 : (!decide (V.int (a : Int) = V.int (b : Int))) = false := by rw [e]; simp
            rw [e1]
            refine iteF ⟨_, rfl, s5, sb5, ?_⟩
            rw [take1 hb, List.filter_append, List.filter_cons_of_neg (p := fun b => decide (a ≠ b)) (by simp [e]), List.filter_nil, List.append_nil]
            exact ei5
          · have e1 : (!decide (V.int (a : Int) = V.int (b : Int))) = true := by
              rw [decide_eq_false (fun q => e (by injection q with q; omega))]
              rfl
            rw [e1]
            have et : (((fs.take (t + 1)).filter fun b => decide (a ≠ b)).map fun b => (⟨kk, a, b⟩ : R)) = (((fs.take t).filter fun b => decide (a ≠ b)).map fun b => (⟨kk, a, b⟩ : R)) ++ [⟨kk, a, b⟩] := by
              rw [take1 hb, List.filter_append, List.filter_cons_of_pos (p := fun b => decide (a ≠ b)) (decide_eq_true e), List.filter_nil, List.map_append]
              rfl
            have pt : (pre2 ++ (((fs.take t).filter fun b => decide (a ≠ b)).map fun b => (⟨kk, a, b⟩ : R))) ++ [⟨kk, a, b⟩] <+: folL F w := by
              refine List.IsPrefix.trans ?_ pa
              rw [List.append_assoc, ← et, er]
              exact pre_left ((List.IsPrefix.filter _ (List.take_prefix _ _)).map _)
            have gt := pre_get pt
            rw [← ei5] at gt
            have il : i < (folL F w).length := (List.getElem?_eq_some_iff.mp gt).1
            refine iteT ⟨by omega, ?_⟩
            refine ⟨_, rfl, _, rfl, _, rfl, (by show 3 ≤ sizeLine; decide), fun tt nt => ?_⟩
            refine ⟨sb5.trans (same_new nt), ?_, fun H6 s6 => ?_⟩
            · exact qy i _ _ ⟨kk, a, b⟩ (sw.trans (s12.trans (s3.trans (s4.trans (s5.trans (same_new nt)))))) gt (r_dp (r := ⟨kk, a, b⟩) (.inl (.inl upd_same)))
            · refine ⟨_, rfl, s5.trans ((same_new nt).trans s6), Same.refl _, ?_⟩
              rw [et, ← List.append_assoc, List.length_append, ← ei5]
              rfl
        · rintro i Hs σ H5 ⟨y4, rfl, s5, sb5, ei5⟩
          rw [nms_len, List.take_length, ← er] at ei5
          exact ⟨_, _, rfl, s3.trans (s4.trans s5), sb5, ei5⟩
      · rintro i Hs σ H3 ⟨y3, y4, rfl, s3, sb3, ei3⟩
        rw [ew] at ei3
        refine ⟨_, _, _, _, rfl, s12.trans s3, sb3, ?_⟩
        rw [List.flatMap_cons, List.flatMap_nil, List.append_nil]
        exact ei3
    · rintro i Hs σ H1 ⟨y1, y2, y3, y4, rfl, s1, sb1, ei⟩
      have ei : i = (folL F w).length := by rw [ei, ef]; rfl
      rw [ei]
      exact ⟨sb1, qe H1 (sw.trans s1)⟩
end
end CC
/-! ### for x in zip(t, u), one name for the pair: the tuple that zip keeps is not free again, so each turn makes its own -/
namespace ZN
open PySem PySem.Spec PyProof.Rows L2
abbrev IsZN (h : Heap) (z TI TO : Addr) (f0 : Value) (f1 : Bool) : Prop :=
  h.get? z = some { cls := .type "zip", dict := none, data := .fields #[f0, .bool f1, .bool false, .ref TI, .ref TO], slots := #[] }
section
variable {prog : Program} {w : World} {A : Around} {E : Value → Shared → Prop} {s : Shared} {z TI TO i1 i2 l1 l2 : Addr} {k1 k2 : Nat} {xs ys : Array Value} {x y a b f0 : Value} {f1 : Bool}
theorem alive {c : Addr} {Q : Option Obj → Shared → Prop} (h : Q (s.heap.get? c) s) : wpAny (model prog w) A (loadIfAlive c) Q E s := fun _ _ _ => h
/-- whether the kept tuple is free: yes, or no and that is noted -/
theorem isFree {Q : Bool → Shared → Prop} (hz : IsZN s.heap z TI TO f0 f1) (hf : f0 = .none ∨ ∃ c : Int, f0 = rawInt c) (hY : Q true s) (hN : ∀ h', IsZN h' z TI TO f0 true → Heap.SameBut z s.heap h' → Q false { s with heap := h' }) :
    wpAny (model prog w) A (Builtin.SmallTypes.ownedTupleIsFree (.ref z)) Q E s := by
  unfold Builtin.SmallTypes.ownedTupleIsFree
  rcases hf with rfl | ⟨c, rfl⟩
  · exact wpAny_bind (wpAny_field hz rfl (x := .none) rfl (wpAny_pure hY))
  · refine wpAny_bind (wpAny_field hz rfl (x := rawInt c) rfl ?_)
    show wpAny _ _ (loadIfAlive c.toNat >>= _) _ _ _
    refine wpAny_bind (alive ?_)
    cases s.heap.get? c.toNat with
    | none => exact wpAny_pure hY
    | some o =>
      show wpAny _ _ (field (.ref z) 1 >>= _) _ _ _
      refine wpAny_bind (wpAny_field hz rfl (x := .bool f1) rfl ?_)
      cases f1 with
      | true => exact wpAny_pure (hN s.heap hz (Heap.SameBut.refl _ _))
      | false => exact wpAny_bind (wpAny_setField_rec hz (by simp) fun h' hz' hs' => wpAny_pure (hN h' hz' hs'))
/-- what a turn leaves -/
structure Left (h h' : Heap) (z TI TO i1 i2 l1 l2 : Addr) (k1 k2 : Nat) (x y : Value) : Prop where
  zip : ∃ f0 f1, IsZN h' z TI TO f0 f1 ∧ (f0 = .none ∨ ∃ c : Int, f0 = rawInt c)
  own : ∃ a b, IsPair h' TO a b
  it1 : h'.IsTupleIter i1 l1 (k1 + 1)
  it2 : h'.IsTupleIter i2 l2 (k2 + 1)
  new : IsPair h' h.objs.size x y
  old : ∀ c o, c ≠ z → c ≠ TO → c ≠ i1 → c ≠ i2 → h.get? c = some o → h'.get? c = some o
theorem draw_item {it l : Addr} {k : Nat} {zs : Array Value} {v : Value} {Q : Option Value → Shared → Prop} (h1 : s.heap.IsTupleIter it l k) (hl : s.heap.IsTuple l zs) (hx : zs[k]? = some v) (hQ : ∀ h', h'.IsTupleIter it l (k + 1) → Heap.SameBut it s.heap h' → Q (some v) { s with heap := h' }) :
    wpAny (model prog w) A (Builtin.SmallTypes.nextOf (.ref it) >>= fun u => pure (some u)) Q E s := wpAny_bind (RZ.nextOf_tuple_item h1 hl hx fun h' a b => wpAny_pure (hQ h' a b))
theorem next_item {Q : Value → Shared → Prop} (D : ZipApart z TI TO i1 i2 l1 l2) (hz : IsZN s.heap z TI TO f0 f1) (hf : f0 = .none ∨ ∃ c : Int, f0 = rawInt c) (hTI : IsPair s.heap TI (.ref i1) (.ref i2)) (hTO : IsPair s.heap TO a b)
    (h1 : s.heap.IsTupleIter i1 l1 k1) (h2 : s.heap.IsTupleIter i2 l2 k2) (hl1 : s.heap.IsTuple l1 xs) (hl2 : s.heap.IsTuple l2 ys) (hx : xs[k1]? = some x) (hy : ys[k2]? = some y)
    (hQ : ∀ h', Left s.heap h' z TI TO i1 i2 l1 l2 k1 k2 x y → Q (.ref s.heap.objs.size) { s with heap := h' }) :
    wpAny (model prog w) A (Builtin.«zip.__next__» ⟨[.ref z], []⟩) (fun fin s' => ∃ v, fin = .done (.ret v) ∧ Q v s') E s := by
  show wpAny _ _ (field (.ref z) 2 >>= _) _ _ _
  refine wpAny_bind (wpAny_field hz rfl (x := .bool false) rfl ?_)
  show wpAny _ _ (field (.ref z) 3 >>= _) _ _ _
  refine wpAny_bind (wpAny_field hz rfl (x := .ref TI) rfl ?_)
  refine wpAny_bind (wpAny_seqItems hTI rfl ?_)
  show wpAny _ _ (Builtin.SmallTypes.ownedTupleIsFree (.ref z) >>= _) _ _ _
  refine wpAny_bind (isFree hz hf ?_ fun h0 hz0 hs0 => ?_)
  · -- the kept tuple again
    simp only [if_true]
    refine wpAny_bind (wpAny_rule ?_)
    refine wpAny_bind (wpAny_field hz rfl (x := .ref TO) rfl ?_)
    refine wpAny_bind (wpAny_setField_rec hz (by simp) fun g1 hz1 e1 => ?_)
    replace hz1 : IsZN g1 z TI TO .ellipsis f1 := hz1
    have t1 := h1.extBut e1.extBut D.i1z
    have u1 := h2.extBut e1.extBut D.i2z
    have p1 : IsPair g1 TO a b := e1.extBut _ _ D.TOz hTO
    refine wpAny_bind ?_
    simp only [List.zipIdx_cons, List.zipIdx_nil, List.forIn_cons, List.forIn_nil]
    refine wpAny_bind (wpAny_bind (wpAny_onRaise (draw_item t1 (hl1.extBut e1.extBut D.l1z) hx fun g2 t2 e2 => ?_)))
    have p2 : IsPair g2 TO a b := e2.extBut _ _ D.TOi1 p1
    refine wpAny_bind (wpAny_seqItems p2 rfl (wpAny_bind (wpAny_updateSeq_pair p2 fun g3 p3 e3 => ?_)))
    replace p3 : IsPair g3 TO x b := p3
    refine wpAny_bind (wpAny_letGo (wpAny_pure ?_))
    have u3 := (u1.extBut e2.extBut D.i12.symm).extBut e3.extBut D.TOi2.symm
    refine wpAny_bind (wpAny_bind (wpAny_onRaise (draw_item u3 (((hl2.extBut e1.extBut D.l2z).extBut e2.extBut D.l2i1).extBut e3.extBut D.l2TO) hy fun g4 u4 e4 => ?_)))
    have p4 : IsPair g4 TO x b := e4.extBut _ _ D.TOi2 p3
    refine wpAny_bind (wpAny_seqItems p4 rfl (wpAny_bind (wpAny_updateSeq_pair p4 fun g5 p5 e5 => ?_)))
    replace p5 : IsPair g5 TO x y := p5
    refine wpAny_bind (wpAny_letGo (wpAny_pure (wpAny_pure ?_)))
    refine wpAny_bind (wpAny_seqItems p5 rfl (wpAny_bind (wpAny_newTuple ?_)))
    have sz : g5.objs.size = s.heap.objs.size := by rw [e5.1, e4.1, e3.1, e2.1, e1.1]
    have hz5 : IsZN g5 z TI TO .ellipsis f1 := e5.extBut _ _ D.TOz.symm (e4.extBut _ _ D.i2z.symm (e3.extBut _ _ D.TOz.symm (e2.extBut _ _ D.i1z.symm hz1)))
    have t5 := ((t2.extBut e3.extBut D.TOi1.symm).extBut e4.extBut D.i12).extBut e5.extBut D.TOi1.symm
    have u5 := u4.extBut e5.extBut D.TOi2.symm
    have zl : z < g5.objs.size := Heap.lt_size hz5
    show wpAny _ _ (Builtin.SmallTypes.ownedTupleHandOut (.ref z) (.ref g5.objs.size) >>= _) _ _ _
    refine wpAny_bind ?_
    unfold Builtin.SmallTypes.ownedTupleHandOut
    have hz6 : IsZN (g5.push { cls := .type "tuple", data := .seq #[x, y] }) z TI TO .ellipsis f1 := Heap.get?_push_of_some _ hz5
    refine wpAny_bind (wpAny_setField_rec hz6 (by simp) fun g7 hz7 e7 => ?_)
    replace hz7 : IsZN g7 z TI TO (rawInt g5.objs.size) f1 := hz7
    refine wpAny_setField_rec hz7 (by simp) fun g8 hz8 e8 => ?_
    replace hz8 : IsZN g8 z TI TO (rawInt g5.objs.size) false := hz8
    have up : ∀ c o, c ≠ z → g5.get? c = some o → g8.get? c = some o := fun c o n e => e8.extBut _ _ n (e7.extBut _ _ n (Heap.get?_push_of_some _ e))
    refine wpAny_pure ⟨_, rfl, ?_⟩
    show Q (.ref g5.objs.size) _
    rw [sz]
    refine hQ g8 ⟨⟨_, _, hz8, .inr ⟨_, rfl⟩⟩, ⟨x, y, up _ _ D.TOz p5⟩, t5.at fun o e => up _ o D.i1z e, u5.at fun o e => up _ o D.i2z e, ?_, fun c o c1 c2 c3 c4 e => up c o c1 (e5.extBut _ _ c2 (e4.extBut _ _ c4 (e3.extBut _ _ c2 (e2.extBut _ _ c3 (e1.extBut _ _ c1 e)))))⟩
    rw [← sz]
    exact e8.extBut _ _ (Nat.ne_of_gt zl) (e7.extBut _ _ (Nat.ne_of_gt zl) (Heap.get?_push_size _ rfl))
  · -- a tuple of its own
    have t0 := h1.extBut hs0.extBut D.i1z
    have u0 := h2.extBut hs0.extBut D.i2z
    have p0 : IsPair h0 TO a b := hs0.extBut _ _ D.TOz hTO
    simp only [Bool.false_eq_true, if_false]
    refine wpAny_bind ?_
    rw [← Array.forIn_toList]
    simp only [List.forIn_cons, List.forIn_nil]
    refine wpAny_bind (wpAny_bind (wpAny_holding (draw_item t0 (hl1.extBut hs0.extBut D.l1z) hx fun g1 t1 e1 => wpAny_pure ?_)))
    refine wpAny_bind (wpAny_bind (wpAny_holding (draw_item (u0.extBut e1.extBut D.i12.symm) ((hl2.extBut hs0.extBut D.l2z).extBut e1.extBut D.l2i1) hy fun g2 u2 e2 => wpAny_pure ?_)))
    refine wpAny_pure ?_
    refine wpAny_bind (wpAny_newTuple ?_ (by show 2 ≤ sizeLine; decide))
    refine wpAny_pure ⟨_, rfl, ?_⟩
    have sz : g2.objs.size = s.heap.objs.size := by rw [e2.1, e1.1, hs0.1]
    have up : ∀ c o, g2.get? c = some o → (g2.push { cls := .type "tuple", data := .seq #[x, y] }).get? c = some o := fun c o e => Heap.get?_push_of_some _ e
    show Q (.ref g2.objs.size) _
    rw [sz]
    refine hQ _ ⟨⟨f0, true, up _ _ (e2.extBut _ _ D.i2z.symm (e1.extBut _ _ D.i1z.symm hz0)), hf⟩, ⟨a, b, up _ _ (e2.extBut _ _ D.TOi2 (e1.extBut _ _ D.TOi1 p0))⟩, (t1.extBut e2.extBut D.i12).at fun o e => up _ o e, u2.at fun o e => up _ o e, ?_, fun c o c1 c2 c3 c4 e => up c o (e2.extBut _ _ c4 (e1.extBut _ _ c3 (hs0.extBut _ _ c1 e)))⟩
    rw [← sz]
    exact Heap.get?_push_size _ rfl
theorem next_end {Q : Fin → Shared → Prop} (hh : A.handled = none) (D : ZipApart z TI TO i1 i2 l1 l2) (hz : IsZN s.heap z TI TO f0 f1) (hf : f0 = .none ∨ ∃ c : Int, f0 = rawInt c) (hTI : IsPair s.heap TI (.ref i1) (.ref i2)) (hTO : IsPair s.heap TO a b)
    (h1 : s.heap.IsTupleIter i1 l1 k1) (h2 : s.heap.IsTupleIter i2 l2 k2) (hl1 : s.heap.IsTuple l1 xs) (hl2 : s.heap.IsTuple l2 ys) (hend : xs[k1]? = none ∨ ys[k2]? = none)
    (hE : ∀ h' e, (∀ c o, c ≠ z → c ≠ TO → c ≠ i1 → c ≠ i2 → s.heap.get? c = some o → h'.get? c = some o) → (∃ o, h'.get? e = some o ∧ o.cls = .type "StopIteration") → E (.ref e) { s with heap := h' }) :
    wpAny (model prog w) A (Builtin.«zip.__next__» ⟨[.ref z], []⟩) Q E s := by
  show wpAny _ _ (field (.ref z) 2 >>= _) _ _ _
  refine wpAny_bind (wpAny_field hz rfl (x := .bool false) rfl ?_)
  show wpAny _ _ (field (.ref z) 3 >>= _) _ _ _
  refine wpAny_bind (wpAny_field hz rfl (x := .ref TI) rfl ?_)
  refine wpAny_bind (wpAny_seqItems hTI rfl ?_)
  show wpAny _ _ (Builtin.SmallTypes.ownedTupleIsFree (.ref z) >>= _) _ _ _
  refine wpAny_bind (isFree hz hf ?_ fun h0 hz0 hs0 => ?_)
  · simp only [if_true]
    refine wpAny_bind (wpAny_rule ?_)
    refine wpAny_bind (wpAny_field hz rfl (x := .ref TO) rfl ?_)
    refine wpAny_bind (wpAny_setField_rec hz (by simp) fun g1 hz1 e1 => ?_)
    replace hz1 : IsZN g1 z TI TO .ellipsis f1 := hz1
    have t1 := h1.extBut e1.extBut D.i1z
    have u1 := h2.extBut e1.extBut D.i2z
    have p1 : IsPair g1 TO a b := e1.extBut _ _ D.TOz hTO
    refine wpAny_bind ?_
    simp only [List.zipIdx_cons, List.zipIdx_nil, List.forIn_cons, List.forIn_nil]
    cases hx : xs[k1]? with
    | none =>
      refine wpAny_bind (wpAny_bind (wpAny_onRaise ?_))
      show wpAny _ _ (Builtin.SmallTypes.nextOf (.ref i1) >>= _) _ _ _
      refine wpAny_bind (RZ.nextOf_tuple_end hh t1 (hl1.extBut e1.extBut D.l1z) hx fun g2 e e2 he => ?_)
      obtain ⟨oe, hoe, hce⟩ := he
      have hz2 : IsZN g2 z TI TO .ellipsis f1 := e2 _ _ D.i1z.symm hz1
      have ez : e ≠ z := fun q => by subst q; rw [hz2] at hoe; cases hoe; simp at hce
      exact wpAny_setField_rec hz2 (by simp) fun g3 _ e3 => hE g3 e (fun c o c1 _ c3 _ q => e3.extBut _ _ c1 (e2 _ _ c3 (e1.extBut _ _ c1 q))) ⟨oe, e3.extBut _ _ ez hoe, hce⟩
    | some x =>
      have hy : ys[k2]? = none := by
        rcases hend with h | h
        · rw [hx] at h; cases h
        · exact h
      refine wpAny_bind (wpAny_bind (wpAny_onRaise (draw_item t1 (hl1.extBut e1.extBut D.l1z) hx fun g2 t2 e2 => ?_)))
      have p2 : IsPair g2 TO a b := e2.extBut _ _ D.TOi1 p1
      refine wpAny_bind (wpAny_seqItems p2 rfl (wpAny_bind (wpAny_updateSeq_pair p2 fun g3 p3 e3 => ?_)))
      refine wpAny_bind (wpAny_letGo (wpAny_pure ?_))
      have u3 := (u1.extBut e2.extBut D.i12.symm).extBut e3.extBut D.TOi2.symm
      refine wpAny_bind (wpAny_bind (wpAny_onRaise ?_))
      show wpAny _ _ (Builtin.SmallTypes.nextOf (.ref i2) >>= _) _ _ _
      refine wpAny_bind (RZ.nextOf_tuple_end hh u3 (((hl2.extBut e1.extBut D.l2z).extBut e2.extBut D.l2i1).extBut e3.extBut D.l2TO) hy fun g4 e e4 he => ?_)
      obtain ⟨oe, hoe, hce⟩ := he
      have hz4 : IsZN g4 z TI TO .ellipsis f1 := e4 _ _ D.i2z.symm (e3.extBut _ _ D.TOz.symm (e2.extBut _ _ D.i1z.symm hz1))
      have ez : e ≠ z := fun q => by subst q; rw [hz4] at hoe; cases hoe; simp at hce
      exact wpAny_setField_rec hz4 (by simp) fun g5 _ e5 => hE g5 e (fun c o c1 c2 c3 c4 q => e5.extBut _ _ c1 (e4 _ _ c4 (e3.extBut _ _ c2 (e2.extBut _ _ c3 (e1.extBut _ _ c1 q))))) ⟨oe, e5.extBut _ _ ez hoe, hce⟩
  · have t0 := h1.extBut hs0.extBut D.i1z
    have u0 := h2.extBut hs0.extBut D.i2z
    simp only [Bool.false_eq_true, if_false]
    refine wpAny_bind ?_
    rw [← Array.forIn_toList]
    simp only [List.forIn_cons, List.forIn_nil]
    cases hx : xs[k1]? with
    | none =>
      refine wpAny_bind (wpAny_bind (wpAny_holding ?_))
      show wpAny _ _ (Builtin.SmallTypes.nextOf (.ref i1) >>= _) _ _ _
      exact wpAny_bind (RZ.nextOf_tuple_end hh t0 (hl1.extBut hs0.extBut D.l1z) hx fun g2 e e2 he => hE g2 e (fun c o c1 _ c3 _ q => e2 _ _ c3 (hs0.extBut _ _ c1 q)) he)
    | some x =>
      have hy : ys[k2]? = none := by
        rcases hend with h | h
        · rw [hx] at h; cases h
        · exact h
      refine wpAny_bind (wpAny_bind (wpAny_holding (draw_item t0 (hl1.extBut hs0.extBut D.l1z) hx fun g1 t1 e1 => wpAny_pure ?_)))
      refine wpAny_bind (wpAny_bind (wpAny_holding ?_))
      show wpAny _ _ (Builtin.SmallTypes.nextOf (.ref i2) >>= _) _ _ _
      exact wpAny_bind (RZ.nextOf_tuple_end hh (u0.extBut e1.extBut D.i12.symm) ((hl2.extBut hs0.extBut D.l2z).extBut e1.extBut D.l2i1) hy fun g2 e e2 he => hE g2 e (fun c o c1 _ c3 c4 q => e2 _ _ c4 (e1.extBut _ _ c3 (hs0.extBut _ _ c1 q))) he)
end
end ZN
namespace ZN
open PySem PySem.Spec PyProof.Rows L2
section
variable {prog : Program} {w : World} {A : Around} {E : Value → Shared → Prop} {s : Shared} {z TI TO i1 i2 l1 l2 : Addr} {k1 k2 : Nat} {xs ys : Array Value} {x y a b f0 : Value} {f1 : Bool}
theorem pyNext_item {Q : Option Value → Shared → Prop} (D : ZipApart z TI TO i1 i2 l1 l2) (hz : IsZN s.heap z TI TO f0 f1) (hf : f0 = .none ∨ ∃ c : Int, f0 = rawInt c) (hTI : IsPair s.heap TI (.ref i1) (.ref i2)) (hTO : IsPair s.heap TO a b)
    (h1 : s.heap.IsTupleIter i1 l1 k1) (h2 : s.heap.IsTupleIter i2 l2 k2) (hl1 : s.heap.IsTuple l1 xs) (hl2 : s.heap.IsTuple l2 ys) (hx : xs[k1]? = some x) (hy : ys[k2]? = some y)
    (hQ : ∀ h', Left s.heap h' z TI TO i1 i2 l1 l2 k1 k2 x y → Q (some (.ref s.heap.objs.size)) { s with heap := h' }) : wpAny (model prog w) A (pyNext (.ref z)) Q E s := by
  have hT : s.TypeIs (.ref z) "zip" := ⟨_, hz, rfl⟩
  unfold pyNext
  exact wpAny_bind (wpAny_attempt (wpAny_callSpecial?_slot (name := Str.ofString "__next__") hT F.slot_zip_next
    (wpAny_call_entry F.slot_zip_next hT F.entry_zip_next (next_item D hz hf hTI hTO h1 h2 hl1 hl2 hx hy fun h' q => wpAny_pure (hQ h' q)) (F.args_zip_next_1 _))))
theorem pyNext_end {Q : Option Value → Shared → Prop} (hh : A.handled = none) (D : ZipApart z TI TO i1 i2 l1 l2) (hz : IsZN s.heap z TI TO f0 f1) (hf : f0 = .none ∨ ∃ c : Int, f0 = rawInt c) (hTI : IsPair s.heap TI (.ref i1) (.ref i2)) (hTO : IsPair s.heap TO a b)
    (h1 : s.heap.IsTupleIter i1 l1 k1) (h2 : s.heap.IsTupleIter i2 l2 k2) (hl1 : s.heap.IsTuple l1 xs) (hl2 : s.heap.IsTuple l2 ys) (hend : xs[k1]? = none ∨ ys[k2]? = none)
    (hQ : ∀ h', (∀ c o, c ≠ z → c ≠ TO → c ≠ i1 → c ≠ i2 → s.heap.get? c = some o → h'.get? c = some o) → Q none { s with heap := h' }) : wpAny (model prog w) A (pyNext (.ref z)) Q E s := by
  have hT : s.TypeIs (.ref z) "zip" := ⟨_, hz, rfl⟩
  unfold pyNext
  refine wpAny_bind (wpAny_attempt (wpAny_callSpecial?_slot (name := Str.ofString "__next__") hT F.slot_zip_next
    (wpAny_call_entry F.slot_zip_next hT F.entry_zip_next (next_end hh D hz hf hTI hTO h1 h2 hl1 hl2 hend fun h' e hk he => ?_) (F.args_zip_next_1 _))))
  obtain ⟨o, ho, hc⟩ := he
  exact wpAny_bind (wpAny_isInstance (T := "StopIteration") (b := true) ⟨o, ho, hc⟩ isSubtype_stop (wpAny_pure (hQ _ hk)))
theorem pyIter_self {Q : Value → Shared → Prop} (hz : IsZN s.heap z TI TO f0 f1) (h : Q (.ref z) s) : wpAny (model prog w) A (pyIter (.ref z)) Q E s := by
  have hT : s.TypeIs (.ref z) "zip" := ⟨_, hz, rfl⟩
  exact wpAny_pyIter_slot hT F.slot_zip_iter (wpAny_call_entry F.slot_zip_iter hT F.entry_zip_iter (show wpAny _ _ (ret (.ref z)) _ _ s from wpAny_pure ⟨_, rfl, "zip", _, hT, F.slot_zip_next.lookup, h⟩) (F.args_zip_iter_1 _))
end
def ZSt (z TI TO i1 i2 a b : Addr) (i : Nat) (h : Heap) : Prop := (∃ f0 f1, IsZN h z TI TO f0 f1 ∧ (f0 = .none ∨ ∃ c : Int, f0 = rawInt c)) ∧ IsPair h TI (.ref i1) (.ref i2) ∧ (∃ x y, IsPair h TO x y) ∧ h.IsTupleIter i1 a i ∧ h.IsTupleIter i2 b i
theorem turn_zipN {P : Program} {w : World} {K : PySem.W.Frag} {nm : Str} {tpos : Pos} {a b z TI TO i1 i2 : Addr} (D : ZipApart z TI TO i1 i2 a b) :
    Turn P w K (.Name nm tpos) (RZ.ItzT K a b) [z, TI, TO, i1, i2] z (ZSt z TI TO i1 i2 a b) where
  mem := by simp
  obj := fun i h st c hc => by
    obtain ⟨⟨f0, f1, hz, _⟩, hTI, ⟨x, y, hTO⟩, ⟨o1, e1, _, d1⟩, ⟨o2, e2, _, d2⟩⟩ := st
    have e' : c = z ∨ c = TI ∨ c = TO ∨ c = i1 ∨ c = i2 := by simpa using hc
    rcases e' with rfl | rfl | rfl | rfl | rfl
    · exact ⟨_, hz, fun v q => nomatch q⟩
    · exact ⟨_, hTI, fun v q => nomatch q⟩
    · exact ⟨_, hTO, fun v q => nomatch q⟩
    · exact ⟨o1, e1, fun v q => by rw [d1] at q; cases q⟩
    · exact ⟨o2, e2, fun v q => by rw [d2] at q; cases q⟩
  keep := fun i h h' st k => by
    obtain ⟨⟨f0, f1, hz, hf⟩, hTI, ⟨x, y, hTO⟩, h1, h2⟩ := st
    exact ⟨⟨f0, f1, k z (by simp) _ hz, hf⟩, k TI (by simp) _ hTI, ⟨x, y, k TO (by simp) _ hTO⟩, h1.at fun o q => k i1 (by simp) o q, h2.at fun o q => k i2 (by simp) o q⟩
  item := by
    intro X hP hw hK hc i pins s σ H E I hfp st hg
    subst hP hw hK
    obtain ⟨⟨f0, f1, hz, hf⟩, hTI, ⟨x0, y0, hTO⟩, h1, h2⟩ := st
    obtain ⟨xs, ys, x, y, hqx, hqy, hx, hy⟩ := hg
    obtain ⟨its, rv, p, _⟩ := I.tuple hqx
    obtain ⟨its2, rv2, p2, _⟩ := I.tuple hqy
    obtain ⟨u, hu, ru⟩ := rv.get hx
    obtain ⟨u2, hu2, ru2⟩ := rv2.get hy
    refine pyNext_item D hz hf hTI hTO h1 h2 p p2 (x := u) (y := u2) (by simpa using hu) (by simpa using hu2) fun h' L => ?_
    refine ⟨_, rfl, wpAny_pure ?_⟩
    have new : ObjOk X.prog X.w (upd H s.heap.objs.size (.tup [x, y])) h' s.heap.objs.size (.tup [x, y]) :=
      ⟨by show 2 ≤ sizeLine; decide, [u, u2], .cons ru (.cons ru2 .nil), ⟨_, L.new, rfl, _, rfl⟩⟩
    have I1 : Inv X pins σ (upd H s.heap.objs.size (.tup [x, y])) { s with heap := h' } :=
      I.turnedNew (t' := s.toks) (ch := [z, TI, TO, i1, i2]) (fun c o hb q => L.old c o (fun q' => hb (by simp [q'])) (fun q' => hb (by simp [q'])) (fun q' => hb (by simp [q'])) (fun q' => hb (by simp [q'])) q) hfp (Nat.le_refl _) new
    refine ⟨.ref s.heap.objs.size, _, I1, rfl, ⟨_, x, y, rfl, I.hok.fresh (Nat.le_refl _), rfl, fun l hl => by rw [I.tuple_inj hl hqx]; exact hx, fun l hl => by rw [I.tuple_inj hl hqy]; exact hy⟩, ⟨L.zip, L.old _ _ D.TIz D.TITO D.TIi1 D.TIi2 hTI, L.own, L.it1, L.it2⟩, fun c hcm => ?_⟩
    have hlt : c < s.heap.objs.size := by
      have e' : c = z ∨ c = TI ∨ c = TO ∨ c = i1 ∨ c = i2 := by simpa using hcm
      rcases e' with rfl | rfl | rfl | rfl | rfl
      · exact Heap.lt_size hz
      · exact Heap.lt_size hTI
      · exact Heap.lt_size hTO
      · obtain ⟨_, e1, _⟩ := h1; exact Heap.lt_size e1
      · obtain ⟨_, e2, _⟩ := h2; exact Heap.lt_size e2
    rw [upd_ne (Nat.ne_of_lt hlt)]
    exact (hfp c hcm).1
  done := by
    intro X hP hw hK hc i pins s σ H E I hfp st hg
    subst hP hw hK
    obtain ⟨⟨f0, f1, hz, hf⟩, hTI, ⟨x0, y0, hTO⟩, h1, h2⟩ := st
    obtain ⟨xs, ys, hqx, hqy, hend⟩ := hg
    obtain ⟨its, rv, p, _⟩ := I.tuple hqx
    obtain ⟨its2, rv2, p2, _⟩ := I.tuple hqy
    have e1 := rv.length
    have e2 := rv2.length
    have he : its.toArray[i]? = none ∨ its2.toArray[i]? = none := by
      rcases hend with q | q
      · exact .inl (by simp; omega)
      · exact .inr (by simp; omega)
    exact pyNext_end (I.ok.hd hc) D hz hf hTI hTO h1 h2 p p2 he fun h' hk => ⟨rfl, I.turnedL (t' := s.toks) (ch := [z, TI, TO, i1, i2]) (fun c o hb q =>
      hk c o (fun q' => hb (by simp [q'])) (fun q' => hb (by simp [q'])) (fun q' => hb (by simp [q'])) (fun q' => hb (by simp [q'])) q) hfp⟩
  self := fun A i s Q E st h => by
    obtain ⟨⟨f0, f1, hz, _⟩, _⟩ := st
    exact pyIter_self hz h
def iZipN (K : PySem.W.Frag) (ta : TA) : TI := fun σ H R => ta σ H fun vs H1 => ∃ a b xs ys, vs = [.ref a, .ref b] ∧ SqT K H1 a xs ∧ SqT K H1 b ys ∧ R (RZ.ItzT K a b) H1
/-- for x in zip(t, u), t and u tuples -/
theorem pi_zipN {X : Cx} {e e2 : Expr} {ta : TA} {p pos tpos : Pos} {nm : Str} (hg : Gl X "zip") (hm : X.mg "zip" = none) (ha : PA X [e, e2] ta)
    (hs : starEach [e, e2] X.env = (false, eval e X.env) :: starEach [e2] X.env := by rfl) (hpl : (backTo pos (starEach [e2] X.env)).any (·.1) = false := by rfl) :
    PI X (.Name nm tpos) (.Call (.Name "zip" p) [e, e2] [] pos) (iZipN X.K ta) := by
  refine ⟨fun pins s σ H R I h => ?_⟩
  refine Call_ (ld_blt I hg hm PyProof.Rows.boot_zip (PyProof.Rows.callWith_type1 (thn (ha.run pos pins s σ H _ I h) fun us s1 ⟨vs, H1, I1, r1, q1⟩ => ?_) hs hpl))
  obtain ⟨a, b, xs, ys, ex, hqx, hqy, q⟩ := q1
  subst ex
  obtain ⟨u1, u2, rfl, r, r'⟩ := r1.two
  cases r
  cases r'
  have fresh5 : ∀ c, c ∈ [s1.heap.objs.size + 4, s1.heap.objs.size + 2, s1.heap.objs.size + 3, s1.heap.objs.size, s1.heap.objs.size + 1] → FpOk X pins H1 c := fun c hcm => by
    have hle : s1.heap.objs.size ≤ c := by
      have e' : c = s1.heap.objs.size + 4 ∨ c = s1.heap.objs.size + 2 ∨ c = s1.heap.objs.size + 3 ∨ c = s1.heap.objs.size ∨ c = s1.heap.objs.size + 1 := by simpa using hcm
      rcases e' with q | q | q | q | q <;> rw [q] <;> first | exact Nat.le_add_right _ _ | exact Nat.le_refl _
    exact I1.fpOk hle (I1.hok.fresh hle)
  obtain ⟨its, rv, p1, _⟩ := I1.tuple hqx
  obtain ⟨its2, rv2, p2, _⟩ := I1.tuple hqy
  obtain ⟨o1, ho1, _⟩ := id p1
  obtain ⟨o2, ho2, _⟩ := id p2
  refine RZ.call_zipT (show s1.heap.IsTuple a its.toArray from p1) (show s1.heap.IsTuple b its2.toArray from p2) fun h' hz hTI hTO h1 h2 hsz hk => wpAny_pyIter_zip hz ?_
  have I2 : Inv X pins σ H1 { s1 with heap := h' } := I1.kept (t' := s1.toks) hk
  exact ⟨s1.heap.objs.size + 4, [s1.heap.objs.size + 4, s1.heap.objs.size + 2, s1.heap.objs.size + 3, s1.heap.objs.size, s1.heap.objs.size + 1], _, _, H1, rfl, I2, turn_zipN (PySem.W.ktu_apart s1.heap.objs.size a b (Heap.lt_size ho1) (Heap.lt_size ho2)), ⟨⟨_, _, hz, .inl rfl⟩, hTI, ⟨_, _, hTO⟩, h1, h2⟩, fresh5, q⟩
end ZN
/-! list(zip(t, u)) of two tuples -/
namespace ZN
open PySem PySem.Spec PyProof.Rows L2 CC
theorem zip_no_len : typeLookup (.type "zip") "__len__" = pure none := by rw [typeLookup_type, builtinLookup_eq_fast]; kernel_rfl
theorem zip_no_hint : typeLookup (.type "zip") "__length_hint__" = pure none := by rw [typeLookup_type, builtinLookup_eq_fast]; kernel_rfl
def Prs (xs ys : List V) (H : Hp) (ts : List Addr) : Prop := ∀ (i : Nat) t, ts[i]? = some t → ∃ x y, xs[i]? = some x ∧ ys[i]? = some y ∧ H t = some (.tup [x, y])
theorem drainZ {X : Cx} {pins : List (Addr × Obj)} {σ : L2.St} {a b z TI TO i1 i2 S : Addr} {xs ys : List V} {A : Around} {R : Result → Shared → Prop} {H0 : Hp} (hh : A.handled = none) (D : ZipApart z TI TO i1 i2 a b) (hS : S ∉ [z, TI, TO, i1, i2]) (hn : ys.length ≤ xs.length)
    (hend : ∀ s' H' ts, Inv X pins σ H' s' → Same H0 (wo H' S) → H' S = some (.lst (ts.map V.ref)) → ts.length = ys.length → Prs xs ys H' ts → R (.ok (.ret .none)) s') :
    ∀ (m i : Nat) (s : Shared) (H : Hp) (ts : List Addr), i + m = ys.length → Inv X pins σ H s → (∀ c ∈ [z, TI, TO, i1, i2], FpOk X pins H c) → ZSt z TI TO i1 i2 a b i s.heap → SqT X.K H a xs → SqT X.K H b ys → H S = some (.lst (ts.map V.ref)) → ts.length = i → Prs xs ys H ts → Same H0 (wo H S) →
      codeAny (model X.prog X.w) A (.builtin "list.extend.loop" ⟨[.ref S, .ref z, .none], []⟩) R s := by
  intro m
  induction m with
  | zero =>
    intro i s H ts hm I hfp st hqx hqy hSt hts prs same
    refine codeAny_builtin F.entry_extend_loop ?_
    rw [Around.under_plainId F.plain_extend_loop _]
    show wpAny _ A.in1 (pyNext (.ref z) >>= _) _ _ s
    obtain ⟨⟨f0, f1, hz, hf⟩, hTI, ⟨x0, y0, hTO⟩, h1, h2⟩ := st
    obtain ⟨its, rv, p, _⟩ := I.tuple hqx
    obtain ⟨its2, rv2, p2, _⟩ := I.tuple hqy
    have e2 := rv2.length
    refine wpAny_bind (pyNext_end (A := A.in1) hh D hz hf hTI hTO h1 h2 p p2 (.inr (by simp; omega)) fun h' hk => ?_)
    have I1 : Inv X pins σ H { s with heap := h' } := I.turnedL (t' := s.toks) (ch := [z, TI, TO, i1, i2]) (fun c o hb q =>
      hk c o (fun q' => hb (by simp [q'])) (fun q' => hb (by simp [q'])) (fun q' => hb (by simp [q'])) (fun q' => hb (by simp [q'])) q) hfp
    exact wpAny_pure (hend _ H ts I1 same hSt (by omega) prs)
  | succ m ih =>
    intro i s H ts hm I hfp st hqx hqy hSt hts prs same
    refine codeAny_builtin F.entry_extend_loop ?_
    rw [Around.under_plainId F.plain_extend_loop _]
    show wpAny _ A.in1 (pyNext (.ref z) >>= _) _ _ s
    obtain ⟨⟨f0, f1, hz, hf⟩, hTI, ⟨x0, y0, hTO⟩, h1, h2⟩ := st
    obtain ⟨its, rv, p, _⟩ := I.tuple hqx
    obtain ⟨its2, rv2, p2, yl⟩ := I.tuple hqy
    have hx : xs[i]? = some (xs[i]'(by omega)) := List.getElem?_eq_getElem (by omega)
    have hy : ys[i]? = some (ys[i]'(by omega)) := List.getElem?_eq_getElem (by omega)
    generalize xs[i]'(by omega) = x at hx
    generalize ys[i]'(by omega) = y at hy
    obtain ⟨u, hu, ru⟩ := rv.get hx
    obtain ⟨u2, hu2, ru2⟩ := rv2.get hy
    refine wpAny_bind (pyNext_item (A := A.in1) D hz hf hTI hTO h1 h2 p p2 (x := u) (y := u2) (by simpa using hu) (by simpa using hu2) fun h' L => ?_)
    have new : ObjOk X.prog X.w (upd H s.heap.objs.size (.tup [x, y])) h' s.heap.objs.size (.tup [x, y]) :=
      ⟨by show 2 ≤ sizeLine; decide, [u, u2], .cons ru (.cons ru2 .nil), ⟨_, L.new, rfl, _, rfl⟩⟩
    have nT : H s.heap.objs.size = none := I.hok.fresh (Nat.le_refl _)
    have I1 : Inv X pins σ (upd H s.heap.objs.size (.tup [x, y])) { s with heap := h' } :=
      I.turnedNew (t' := s.toks) (ch := [z, TI, TO, i1, i2]) (fun c o hb q => L.old c o (fun q' => hb (by simp [q'])) (fun q' => hb (by simp [q'])) (fun q' => hb (by simp [q'])) (fun q' => hb (by simp [q'])) q) hfp (Nat.le_refl _) new
    have ST : S ≠ s.heap.objs.size := ne_of_none hSt nT
    have hS1 : (upd H s.heap.objs.size (.tup [x, y])) S = some (.lst (ts.map V.ref)) := by rw [upd_ne ST]; exact hSt
    obtain ⟨zl, its3, n3, r3, l3, e3⟩ := I1.lstM hS1
    have tl : its3.length < sizeLine := by
      rw [← l3, List.length_map]
      omega
    show wpAny _ A.in1 (updateSeq S (·.push (.ref s.heap.objs.size)) >>= _) _ _ _
    refine wpAny_bind ?_
    refine wpAny_updateSeq e3 rfl (wpAny_pure ⟨plainId_quiet F.plain_extend_loop _, ?_⟩) (by rw [List.size_toArray]; exact Nat.le_of_lt tl) (by show (its3.toArray.push _).size ≤ sizeLine + 1; rw [Array.size_push, List.size_toArray]; omega)
    have I2 := I1.lset (ys := (ts ++ [s.heap.objs.size]).map V.ref) (its' := its3 ++ [.ref s.heap.objs.size]) (f := (·.push (.ref s.heap.objs.size))) (t' := s.toks) hS1 e3 (by simp) (by rw [List.map_append]; exact r3.append (.cons rfl .nil)) (by rw [List.length_map, List.length_append, List.length_singleton]; rw [List.length_map] at l3; omega)
    have same2 : Same (wo H S) (wo (upd (upd H s.heap.objs.size (.tup [x, y])) S (.lst ((ts ++ [s.heap.objs.size]).map V.ref))) S) := by
      rw [wo_upd]
      exact wo_same (same_new nT)
    have sT : SameT H (upd (upd H s.heap.objs.size (.tup [x, y])) S (.lst ((ts ++ [s.heap.objs.size]).map V.ref))) := (same_T (same_new nT)).trans (upd_T hS1)
    have lt5 : ∀ c ∈ [z, TI, TO, i1, i2], c < s.heap.objs.size := fun c hcm => by
      have e' : c = z ∨ c = TI ∨ c = TO ∨ c = i1 ∨ c = i2 := by simpa using hcm
      rcases e' with rfl | rfl | rfl | rfl | rfl
      · exact Heap.lt_size hz
      · exact Heap.lt_size hTI
      · exact Heap.lt_size hTO
      · obtain ⟨_, e1, _⟩ := h1; exact Heap.lt_size e1
      · obtain ⟨_, e2, _⟩ := h2; exact Heap.lt_size e2
    refine ih (i + 1) _ _ (ts ++ [s.heap.objs.size]) (by omega) I2 (fun c hc => ?_) ?_ (sqt_T sT hqx) (sqt_T sT hqy) upd_same (by rw [List.length_append, hts]; rfl) ?_ (same.trans same2)
    · have q := hfp c hc
      refine ⟨?_, q.2⟩
      have cS : c ≠ S := fun e => hS (by rw [← e]; exact hc)
      rw [upd_ne cS, upd_ne (Nat.ne_of_lt (lt5 c hc))]
      exact q.1
    · refine (turn_zipN (P := X.prog) (w := X.w) (K := X.K) (nm := "x") (tpos := ⟨0, 0, 0, 0⟩) D).keep (i + 1) h' _ ⟨L.zip, L.old _ _ D.TIz D.TITO D.TIi1 D.TIi2 hTI, L.own, L.it1, L.it2⟩ fun c hc o q => ?_
      have cS : S ≠ c := fun e => hS (by rw [e]; exact hc)
      exact (Heap.get?_update_other _ _ cS).trans q
    · intro j t ht
      by_cases hj : j < ts.length
      · rw [List.getElem?_append_left hj] at ht
        obtain ⟨x2, y2, a1, a2, a3⟩ := prs j t ht
        exact ⟨x2, y2, a1, a2, sT.tup _ _ a3⟩
      · rw [List.getElem?_append_right (by omega)] at ht
        have : j - ts.length = 0 := by
          cases e : j - ts.length with
          | zero => rfl
          | succ q => rw [e] at ht; cases ht
        rw [this] at ht
        cases ht
        have ej : j = i := by omega
        subst ej
        exact ⟨x, y, hx, hy, by rw [upd_ne ST.symm, upd_same]⟩
def tListZ (K : PySem.W.Frag) (ta : TA) : TE := fun σ H Q => ta σ H fun vs H1 => ∃ a b xs ys, vs = [.ref a, .ref b] ∧ SqT K H1 a xs ∧ SqT K H1 b ys ∧ ys.length ≤ xs.length ∧
  ∀ (S : Addr) (ts : List Addr) (H' : Hp), H1 S = none → Same H1 (wo H' S) → H' S = some (.lst (ts.map V.ref)) → ts.length = ys.length → Prs xs ys H' ts → Q (.ref S) H'
/-- list(zip(t, u)), t and u tuples -/
theorem pe_listZ {X : Cx} {e e2 : Expr} {ta : TA} {p p2 pos pos2 : Pos} (hc : X.calm = true) (hgl : Gl X "list") (hml : X.mg "list" = none) (hg : Gl X "zip") (hm : X.mg "zip" = none) (ha : PA X [e, e2] ta)
    (hs : starEach [e, e2] X.env = (false, eval e X.env) :: starEach [e2] X.env := by rfl) (hpl : (backTo pos (starEach [e2] X.env)).any (·.1) = false := by rfl)
    (he : starEach [Expr.Call (.Name "zip" p) [e, e2] [] pos] X.env = (false, eval (.Call (.Name "zip" p) [e, e2] [] pos) X.env) :: starEach [] X.env := by rfl) :
    PE X (.Call (.Name "list" p2) [.Call (.Name "zip" p) [e, e2] [] pos] [] pos2) (tListZ X.K ta) := by
  refine ⟨fun pins s σ H Q I h => ?_⟩
  refine wpAny_Call_Name_kw (ld_blt I hgl hml boot_list ?_)
  refine PyProof.Rows.callWith_type1 ?_ he rfl
  rw [he]
  show wpAny _ _ (spliced ((false, eval (.Call (.Name "zip" p) [e, e2] [] pos) X.env) :: backTo pos2 (starEach [] X.env))) _ _ s
  refine Calls.spliced_cons ?_
  refine Call_ (ld_blt I hg hm PyProof.Rows.boot_zip (PyProof.Rows.callWith_type1 (thn (ha.run pos pins s σ H _ I h) fun us s1 ⟨vs, H1, I1, r1, q1⟩ => ?_) hs hpl))
  obtain ⟨a, b, xs, ys, ex, hqx, hqy, hn, q⟩ := q1
  subst ex
  obtain ⟨u1, u2, rfl, r, r'⟩ := r1.two
  cases r
  cases r'
  obtain ⟨its, rv, p1, _⟩ := I1.tuple hqx
  obtain ⟨its2, rv2, p2, yl⟩ := I1.tuple hqy
  obtain ⟨o1, ho1, _⟩ := id p1
  obtain ⟨o2, ho2, _⟩ := id p2
  have fresh5 : ∀ c, c ∈ [s1.heap.objs.size + 4, s1.heap.objs.size + 2, s1.heap.objs.size + 3, s1.heap.objs.size, s1.heap.objs.size + 1] → s1.heap.objs.size ≤ c ∧ c < s1.heap.objs.size + 5 := fun c hcm => by
    have e' : c = s1.heap.objs.size + 4 ∨ c = s1.heap.objs.size + 2 ∨ c = s1.heap.objs.size + 3 ∨ c = s1.heap.objs.size ∨ c = s1.heap.objs.size + 1 := by simpa using hcm
    have g5 : ∀ n d : Nat, d = n + 4 ∨ d = n + 2 ∨ d = n + 3 ∨ d = n ∨ d = n + 1 → n ≤ d ∧ d < n + 5 := fun n d h => by omega
    exact g5 _ _ e'
  refine RZ.call_zipT (show s1.heap.IsTuple a its.toArray from p1) (show s1.heap.IsTuple b its2.toArray from p2) fun h' hz hTI hTO h1 h2 hsz hk => ?_
  refine Calls.spliced_nil ?_
  have I2 : Inv X pins σ H1 { s1 with heap := h' } := I1.kept (t' := s1.toks) hk
  have D := PySem.W.ktu_apart s1.heap.objs.size a b (Heap.lt_size ho1) (Heap.lt_size ho2)
  have st : ZSt (s1.heap.objs.size + 4) (s1.heap.objs.size + 2) (s1.heap.objs.size + 3) s1.heap.objs.size (s1.heap.objs.size + 1) a b 0 h' := ⟨⟨_, _, hz, .inl rfl⟩, hTI, ⟨_, _, hTO⟩, h1, h2⟩
  generalize hzz : s1.heap.objs.size + 4 = z at *
  have hSz : h'.objs.size ∉ [z, s1.heap.objs.size + 2, s1.heap.objs.size + 3, s1.heap.objs.size, s1.heap.objs.size + 1] := fun hm => by
    have := (fresh5 _ hm).2
    have g5 : ∀ n d : Nat, d = n + 5 → d < n + 5 → False := fun n d h h2 => by omega
    exact g5 _ _ hsz this
  have zlt : z < h'.objs.size := Heap.lt_size hz
  have hSa : h'.objs.size ≠ z := Nat.ne_of_gt zlt
  refine callType_codes (Q₁ := fun obj s₁ => obj = .ref h'.objs.size ∧ s₁ = { s1 with heap := h'.push { cls := .type "list", data := .seq #[] } }) F.called_list (F.typeCall_list_1 _) F.entry_list_init
    (code_list_new _ ⟨rfl, rfl⟩) fun obj s₁ h₁ => ?_
  obtain ⟨rfl, rfl⟩ := h₁
  have hS : (h'.push { cls := .type "list", data := .seq #[] }).get? h'.objs.size = some { cls := .type "list", data := .seq #[] } := Heap.get?_push_size _ rfl
  refine ⟨⟨_, hS, rfl⟩, F.args_list_init_2 _ _, ?_⟩
  show wpAny _ X.A.in1.in1 (do let old ← Builtin.List.listItems (.ref h'.objs.size); Builtin.List.listUpdate (.ref h'.objs.size) (fun _ => #[]); letGo old.toList.reverse; Builtin.List.listExtendWith (.ref h'.objs.size) (.ref z) .none) _ _ _
  refine wpAny_bind ?_
  unfold Builtin.List.listItems
  refine wpAny_bind (wpAny_seqItems hS rfl (wpAny_pure ?_))
  show wpAny _ X.A.in1.in1 (updateSeq h'.objs.size (fun _ => #[]) >>= fun _ => letGo (#[] : Array Value).toList.reverse >>= fun _ => Builtin.List.listExtendWith (.ref h'.objs.size) (.ref z) .none) _ _ _
  refine wpAny_bind (wpAny_updateSeq hS rfl ?_)
  have hS2 := Heap.get?_update_self (Obj.mapSeq (fun _ => (#[] : Array Value))) hS rfl
  refine wpAny_bind (wpAny_letGo ?_)
  unfold Builtin.List.listExtendWith
  have up : ∀ (h : Heap) (f : Obj → Obj), (∀ b o, h'.get? b = some o → h.get? b = some o) → ∀ b o, h'.get? b = some o → (h.update h'.objs.size f).get? b = some o := fun h f q b o e =>
    (Heap.get?_update_other _ _ (Ne.symm (Nat.ne_of_lt (Heap.lt_size e)))).trans (q b o e)
  have k1 : ∀ b o, h'.get? b = some o → (h'.push { cls := .type "list", data := .seq #[] }).get? b = some o := fun b o e => Heap.get?_push_of_some _ e
  have k2 := up _ (Obj.mapSeq (fun _ => (#[] : Array Value))) k1
  refine wpAny_bind (wpAny_typeOf (T := "zip") ⟨_, k2 _ _ hz, rfl⟩ ?_)
  have h1' : Builtin.List.listSameRef (.ref h'.objs.size) (.ref z) = false := by simp [Builtin.List.listSameRef, hSa]
  have h2' : (Value.type "zip" == Value.type "list") = false := by decide
  have h3' : (Value.type "zip" == Value.type "tuple") = false := by decide
  simp only [h1', h2', h3', Bool.or_false, Bool.false_eq_true, if_false]
  refine wpAny_bind (pyIter_self (s := { s1 with heap := _ }) (k2 _ _ hz) ?_)
  refine wpAny_bind (wpAny_holding ?_)
  unfold Builtin.List.listLengthHint
  refine wpAny_bind (wpAny_specialOf (T := "zip") ⟨_, k2 _ _ hz, rfl⟩ zip_no_len ?_)
  show wpAny _ X.A.in1.in1 (specialOf (Value.ref z) (Str.ofString "__length_hint__") >>= _) _ _ _
  refine wpAny_bind (wpAny_specialOf (T := "zip") ⟨_, k2 _ _ hz, rfl⟩ zip_no_hint ?_)
  refine wpAny_pure ?_
  show wpAny _ X.A.in1.in1 (rule "list.extend.makes-room" >>= fun _ => Builtin.List.listTouch (.ref h'.objs.size) >>= fun _ =>
    again (.builtin "list.extend.loop" ⟨[.ref h'.objs.size, .ref z, .none], []⟩)) _ _ _
  refine wpAny_bind (wpAny_rule ?_)
  refine wpAny_bind ?_
  show wpAny _ X.A.in1.in1 (updateSeq h'.objs.size (·.push .none) >>= fun _ => updateSeq h'.objs.size (·.pop)) _ _ _
  refine wpAny_bind (wpAny_updateSeq hS2 rfl ?_)
  have hS3 := Heap.get?_update_self (Obj.mapSeq (·.push Value.none)) hS2 rfl
  refine wpAny_updateSeq (hz := by seq_fits) hS3 rfl ?_
  have hS4 := Heap.get?_update_self (Obj.mapSeq (·.pop)) hS3 rfl
  have k4 := up _ (Obj.mapSeq (·.pop)) (up _ (Obj.mapSeq (·.push Value.none)) k2)
  refine wpAny_pure ⟨plainId_quiet F.plain_extend_loop _, ?_⟩
  have nS : H1 h'.objs.size = none := I2.hok.fresh (Nat.le_refl _)
  have I4 := I2.laid (a := h'.objs.size) (o := .lst []) (t' := s1.toks) k4 (Nat.le_refl _) ⟨Nat.zero_le _, [], _, .nil, hS4⟩
  have sT : SameT H1 (upd H1 h'.objs.size (.lst [])) := same_T (same_new nS)
  refine drainZ (A := X.A.in1) (R := wants (fun r s₂ => r = Value.none ∧ EP X pins σ Q (Value.ref h'.objs.size) s₂) X.xe) (H0 := H1) (I.ok.hd hc) D hSz hn (fun s' H' ts a1 a2 a3 a4 a5 => ⟨rfl, V.ref h'.objs.size, H', a1, rfl, q _ ts H' nS a2 a3 a4 a5⟩) ys.length 0 _ _ [] (by omega) I4 (fun c hcm => ?_) ?_ (sqt_T sT hqx) (sqt_T sT hqy) upd_same rfl (fun i t ht => by cases ht) ?_
  · have g := fresh5 c hcm
    refine I1.fpOk g.1 ?_
    rw [upd_ne (fun e => hSz (by rw [← e]; exact hcm))]
    exact I1.hok.fresh g.1
  · exact (turn_zipN (P := X.prog) (w := X.w) (K := X.K) (nm := "x") (tpos := ⟨0, 0, 0, 0⟩) D).keep 0 h' _ st fun c hcm o q => k4 c o q
  · rw [wo_upd]
    exact fun b o e => by rw [wo_ne (ne_of_none e nS)]; exact e
end ZN
/-! ### a generator asleep beside others, and its next item -/
namespace KH
open PySem PySem.Spec PyProof.Rows L2 CC GenW GH KG
/-- the next item of a generator, or its end as an exception -/
theorem nextOf_gen {P : Program} {w : World} {A : Around} {E : Value → Shared → Prop} {s : Shared} {a : Addr} {g n : Nat} {h : Wd} {gs : GenState} {RE2 : REnd Wd} {Y : YOut Wd} {Q : Value → Shared → Prop} (quietA : A.handled = none) (lim : s.heap.NoLimit) (low : A.depth < recursionLimit)
    (isG : s.heap.IsGen a g) (st : s.gens[g]? = some gs) (go : Goes (model P w) A.in1 RE2 Y n h gs (.send .none) (s.setGen g .running))
    (atEnd : ∀ x s1, RE2 n h (s.setGen g .running) x s1 → x = .ok (.ret .none) ∧ ∀ h2 e, (∀ b o, s1.heap.get? b = some o → h2.get? b = some o) → (∃ o, h2.get? e = some o ∧ o.cls = .type "StopIteration") → (∀ b o, s1.heap.get? b = some o → b ≠ e) → E (.ref e) { s1.setGen g .finished with heap := h2 })
    (atItem : ∀ v s1 gs2, 0 < n → gs2.bare = true → Y (n - 1) h (s.setGen g .running) v s1 (kapH (model P w) A.in1 RE2 Y n gs2) → Q v (s1.setGen g gs2)) :
    wpAny (model P w) A (Builtin.SmallTypes.nextOf (.ref a)) Q E s := by
  unfold Builtin.SmallTypes.nextOf
  refine wpAny_bind (wpAny_callSpecial?_slot (name := Str.ofString "__next__") isG.typeIs slot_gen_next (wpAny_call_entry slot_gen_next isG.typeIs entry_gen_next ?_ (args_gen_next _)))
  show wpAny _ A.in1 (Builtin.Generator.genWake (.ref a) (.send .none)) _ _ s
  unfold Builtin.Generator.genWake
  refine wpAny_bind (wpAny_holding (wpAny_genNumber isG (wpAny_bind (wpAny_genState st ?_))))
  cases gs with
  | running => exact go.elim
  | finished => exact go.elim
  | _ =>
    refine wpAny_bind (wpAny_roomToWake lim low ?_)
    show wpAny _ A.in1 (.resume g (.send .none) ([] : List Value) _) _ _ s
    refine wake_any st go (fun x s1 hx => ?_) (fun v s1 gs2 h0 hb _ hv => ?_)
    · obtain ⟨rfl, q⟩ := atEnd x s1 hx
      show wpAny _ A.in1 ((newExc (.type "StopIteration") []) >>= _) _ _ _
      refine wpAny_bind ?_
      simp only [newExc, newTuple]
      refine wpAny_bind (wpAny_newObj_type ?_ (by size_fits))
      refine wpAny_bind (m := firstArgMember _ _) (wpAny_of_eq (a := Value.none) (by first | rfl | (simp only [firstArgMember]; rfl)) ?_)
      refine (wpAny_newObj_type ?_ (by size_fits))
      simp only [raiseNew]
      refine wpAny_bind (wpAny_bind (wpAny_handled ?_))
      first | rw [show A.in1.handled = none from quietA] | rw [quietA]
      refine (wpAny_throw ?_)
      refine q _ _ (fun b o eb => Heap.get?_push_of_some _ (Heap.get?_push_of_some _ eb)) ⟨_, Heap.get?_push_size _ rfl, rfl⟩ fun b o eb => ?_
      refine Nat.ne_of_lt ?_
      show b < ((s1.setGen g .finished).heap.push _).objs.size
      rw [Heap.size_push]
      exact Nat.lt_succ_of_lt (Heap.lt_size eb)
    · exact wpAny_pure ⟨v, rfl, wpAny_pure (atItem v s1 gs2 h0 hb hv)⟩
/-- asleep: i items are out -/
structure Slp (P : Program) (w : World) (A : Around) (base : Heap) (outer : List Env) (n0 N : Nat) (a : Addr) (g : Nat) (Yp : YpT) (Q : Nat → Hp → Prop) (m i : Nat) (O : List Addr) (gs : GenState) (H : Hp) (s : Shared) : Prop where
  num : m + i = N
  own : Own n0 a O H s
  gen : s.heap.IsGen a g
  at_ : s.gens[g]? = some gs
  go : ∀ H2 s2 fo, WokeK P w base outer O H s H2 s2 fo → Goes (model P w) A (RK P w outer n0 N a g Q) (YK P w base outer n0 N a g Yp) m (H2, fo) gs (.send .none) s2
section
variable {P : Program} {w : World} {A : Around} {base : Heap} {outer : List Env} {n0 N : Nat} {a : Addr} {g : Nat} {Yp : YpT} {Q : Nat → Hp → Prop} {m i : Nat} {O : List Addr} {gs : GenState} {H H' : Hp} {s s' : Shared}
theorem Slp.keep (z : Slp P w A base outer n0 N a g Yp Q m i O gs H s) (same : Same H H') (os : s'.os = s.os) (own : ∀ b ∈ O, ∀ o, s.heap.get? b = some o → s'.heap.get? b = some o ∧ H' b = none) (st : s'.gens[g]? = some gs) : Slp P w A base outer n0 N a g Yp Q m i O gs H' s' := by
  obtain ⟨og, nm, qn, ho, hc, hd, hs⟩ := id z.gen
  refine ⟨z.num, ⟨z.own.1, fun b hb => ?_⟩, ⟨og, nm, qn, (own a z.own.1 og ho).1, hc, hd, hs⟩, st, fun H2 s2 fo y => z.go H2 s2 fo ⟨y.bs, y.funs, y.frf, y.hok, y.bare, y.os.trans os, same.trans y.same, fun b hb o e => ?_, y.fo⟩⟩
  · obtain ⟨h1, _, o, e, c⟩ := z.own.2 b hb
    obtain ⟨e2, n2⟩ := own b hb o e
    exact ⟨h1, n2, o, e2, c⟩
  · exact y.own b hb o (own b hb o e).1
/-- its next item, the others (fo) staying as they are -/
theorem draw {A : Around} {fo : List (Addr × Obj)} {E : Value → Shared → Prop} {Qn : Value → Shared → Prop} (quietA : A.handled = none) (lim : s.heap.NoLimit) (low : A.depth < recursionLimit) (z : Slp P w A.in1 base outer n0 N a g Yp Q m i O gs H s)
    (wk : WokeK P w base outer O H s H (s.setGen g .running) fo)
    (atItem : ∀ x v H5 s5 O5 gs5, RelV x v → SegK P w outer n0 (H, fo) (s.setGen g .running) H5 s5 → AllBare (s5.setGen g gs5).gens → Slp P w A.in1 base outer n0 N a g Yp Q (m - 1) (i + 1) O5 gs5 H5 (s5.setGen g gs5) → (∀ p ∈ fo, p.1 ∉ O5) → Yp i x H5 → Qn v (s5.setGen g gs5))
    (atEnd : ∀ H5 s5 h2 e, SegK P w outer n0 (H, fo) (s.setGen g .running) H5 s5 → Q i H5 → (∀ b o, s5.heap.get? b = some o → h2.get? b = some o) → (∃ o, h2.get? e = some o ∧ o.cls = .type "StopIteration") → (∀ b o, s5.heap.get? b = some o → b ≠ e) → E (.ref e) { s5.setGen g .finished with heap := h2 }) :
    wpAny (model P w) A (Builtin.SmallTypes.nextOf (.ref a)) Qn E s := by
  refine nextOf_gen quietA lim low z.gen z.at_ (z.go H _ fo wk) (fun x s1 hx => ?_) (fun v s1 gs2 h0 hb hy => ?_)
  · obtain ⟨rfl, i5, H5, hn, f5, _, q5⟩ := hx
    have e : i5 = i := by have := z.num; omega
    subst e
    exact ⟨rfl, fun h2 e k t n => atEnd H5 s1 h2 e f5 q5 k t n⟩
  · obtain ⟨i5, x, H5, O5, hn, rv, f5, g5, own5, dis, yp, wk5⟩ := hy
    have e : i5 = i := by have := z.num; omega
    subst e
    have hg : g < s1.gens.size := by
      have h1 : s1.gens = (s.setGen g .running).gens := f5.gens
      have h2 : (s.setGen g .running).gens.size = s.gens.size := setGen_size _ _ _
      have h3 := (Array.getElem?_eq_some_iff.mp z.at_).1
      rw [h1, h2]
      exact h3
    obtain ⟨m, rfl⟩ : ∃ q, m = q + 1 := ⟨m - 1, by omega⟩
    refine atItem x v H5 s1 O5 gs2 rv f5 (allBare_setGen f5.bare hb) ⟨by have := z.num; omega, own5, g5, setGen_at hg, fun H2 s2 fo2 y => ?_⟩ dis yp
    exact wk5 H2 s2 fo2 ⟨y.bs, y.funs, y.frf, y.hok, y.bare, y.os, y.same, y.own, y.fo⟩
end
end KH
/-! ### the next pair of zip, whatever its two iterators are -/
namespace KH
open PySem PySem.Spec PyProof.Rows L2 CC KG
structure ZAt (h : Heap) (z TI TO i1 i2 : Addr) : Prop where
  z : ∃ f0 f1, ZN.IsZN h z TI TO f0 f1 ∧ (f0 = .none ∨ ∃ c : Int, f0 = rawInt c)
  ti : IsPair h TI (.ref i1) (.ref i2)
  to : ∃ a b, IsPair h TO a b
structure ZNe (z TI TO : Addr) : Prop where
  zi : z ≠ TI
  zo : z ≠ TO
  io : TI ≠ TO
/-- zip's own three objects stay -/
abbrev Stay (z TI TO : Addr) (h h' : Heap) : Prop := ∀ c, (c = z ∨ c = TI ∨ c = TO) → ∀ o, h.get? c = some o → h'.get? c = some o
section
variable {prog : Program} {w : World} {A : Around} {E : Value → Shared → Prop} {s : Shared} {z TI TO i1 i2 : Addr}
theorem zip_next {Qv : Value → Shared → Prop} (ne : ZNe z TI TO) (za : ZAt s.heap z TI TO i1 i2)
    (d : ∀ h0, Heap.SameBut z s.heap h0 → (∃ f0 f1, ZN.IsZN h0 z TI TO f0 f1) → wpAny (model prog w) A (Builtin.SmallTypes.nextOf (.ref i1))
      (fun x s1 => Stay z TI TO h0 s1.heap ∧ ∀ h1, h1.objs.size = s1.heap.objs.size → (∀ c o, c ≠ TO → s1.heap.get? c = some o → h1.get? c = some o) → (∃ p q, IsPair h1 TO p q) →
        wpAny (model prog w) A (Builtin.SmallTypes.nextOf (.ref i2)) (fun y s2 => Stay z TI TO h1 s2.heap ∧ ∀ h2, (∀ c o, c ≠ z → c ≠ TO → s2.heap.get? c = some o → h2.get? c = some o) → IsPair h2 s2.heap.objs.size x y → h2.objs.size = s2.heap.objs.size + 1 → ZAt h2 z TI TO i1 i2 → Qv (.ref s2.heap.objs.size) { s2 with heap := h2 }) Fl { s1 with heap := h1 })
      (fun e s1 => Stay z TI TO h0 s1.heap ∧ (∀ h1, (∀ c o, c ≠ z → s1.heap.get? c = some o → h1.get? c = some o) → E e { s1 with heap := h1 })) { s with heap := h0 }) :
    wpAny (model prog w) A (Builtin.«zip.__next__» ⟨[.ref z], []⟩) (fun fin s' => ∃ v, fin = .done (.ret v) ∧ Qv v s') E s := by
  obtain ⟨⟨f0, f1, hz, hf⟩, hTI, a, b, hTO⟩ := za
  show wpAny _ _ (field (.ref z) 2 >>= _) _ _ _
  refine wpAny_bind (wpAny_field hz rfl (x := .bool false) rfl ?_)
  show wpAny _ _ (field (.ref z) 3 >>= _) _ _ _
  refine wpAny_bind (wpAny_field hz rfl (x := .ref TI) rfl ?_)
  refine wpAny_bind (wpAny_seqItems hTI rfl ?_)
  show wpAny _ _ (Builtin.SmallTypes.ownedTupleIsFree (.ref z) >>= _) _ _ _
  refine wpAny_bind (ZN.isFree hz hf ?_ fun h0 hz0 hs0 => ?_)
  · -- the kept tuple again
    simp only [if_true]
    refine wpAny_bind (wpAny_rule ?_)
    refine wpAny_bind (wpAny_field hz rfl (x := .ref TO) rfl ?_)
    refine wpAny_bind (wpAny_setField_rec hz (by simp) fun g1 hz1 e1 => ?_)
    replace hz1 : ZN.IsZN g1 z TI TO .ellipsis f1 := hz1
    have p1 : IsPair g1 TO a b := e1.extBut _ _ ne.zo.symm hTO
    have t1 : IsPair g1 TI (.ref i1) (.ref i2) := e1.extBut _ _ ne.zi.symm hTI
    refine wpAny_bind ?_
    simp only [List.zipIdx_cons, List.zipIdx_nil, List.forIn_cons, List.forIn_nil]
    refine wpAny_bind (wpAny_bind (wpAny_onRaise ?_))
    show wpAny _ _ (Builtin.SmallTypes.nextOf (.ref i1) >>= _) _ _ _
    refine wpAny_bind (wpAny_mono (d g1 e1 ⟨_, _, hz1⟩) (fun x s1 z1 => ?_) fun e s1 z1 => ?_)
    · refine wpAny_pure ?_
      obtain ⟨st1, z1⟩ := z1
      have hz2 := st1 z (.inl rfl) _ hz1
      have p2 : IsPair s1.heap TO a b := st1 TO (.inr (.inr rfl)) _ p1
      have t2 : IsPair s1.heap TI (.ref i1) (.ref i2) := st1 TI (.inr (.inl rfl)) _ t1
      refine wpAny_bind (wpAny_seqItems p2 rfl (wpAny_bind (wpAny_updateSeq_pair p2 fun g3 p3 e3 => ?_)))
      replace p3 : IsPair g3 TO x b := p3
      refine wpAny_bind (wpAny_letGo (wpAny_pure ?_))
      have hz3 : ZN.IsZN g3 z TI TO .ellipsis f1 := e3.extBut _ _ ne.zo hz2
      have t3 : IsPair g3 TI (.ref i1) (.ref i2) := e3.extBut _ _ ne.io t2
      refine wpAny_bind (wpAny_bind (wpAny_onRaise ?_))
      show wpAny _ _ (Builtin.SmallTypes.nextOf (.ref i2) >>= _) _ _ _
      refine wpAny_bind (wpAny_mono (z1 g3 e3.1 (fun c o n e => e3.extBut _ _ n e) ⟨_, _, p3⟩) (fun y s2 z2 => ?_) fun _ _ q => q.elim)
      refine wpAny_pure ?_
      obtain ⟨st2, z2⟩ := z2
      have hz4 := st2 z (.inl rfl) _ hz3
      have p4 : IsPair s2.heap TO x b := st2 TO (.inr (.inr rfl)) _ p3
      have t4 : IsPair s2.heap TI (.ref i1) (.ref i2) := st2 TI (.inr (.inl rfl)) _ t3
      refine wpAny_bind (wpAny_seqItems p4 rfl (wpAny_bind (wpAny_updateSeq_pair p4 fun g5 p5 e5 => ?_)))
      replace p5 : IsPair g5 TO x y := p5
      refine wpAny_bind (wpAny_letGo (wpAny_pure (wpAny_pure ?_)))
      refine wpAny_bind (wpAny_seqItems p5 rfl (wpAny_bind (wpAny_newTuple ?_)))
      have hz5 : ZN.IsZN g5 z TI TO .ellipsis f1 := e5.extBut _ _ ne.zo hz4
      have t5 : IsPair g5 TI (.ref i1) (.ref i2) := e5.extBut _ _ ne.io t4
      have zl : z < g5.objs.size := Heap.lt_size hz5
      show wpAny _ _ (Builtin.SmallTypes.ownedTupleHandOut (.ref z) (.ref g5.objs.size) >>= _) _ _ _
      refine wpAny_bind ?_
      unfold Builtin.SmallTypes.ownedTupleHandOut
      have hz6 : ZN.IsZN (g5.push { cls := .type "tuple", data := .seq #[x, y] }) z TI TO .ellipsis f1 := Heap.get?_push_of_some _ hz5
      refine wpAny_bind (wpAny_setField_rec hz6 (by simp) fun g7 hz7 e7 => ?_)
      replace hz7 : ZN.IsZN g7 z TI TO (rawInt g5.objs.size) f1 := hz7
      refine wpAny_setField_rec hz7 (by simp) fun g8 hz8 e8 => ?_
      replace hz8 : ZN.IsZN g8 z TI TO (rawInt g5.objs.size) false := hz8
      have up : ∀ c o, c ≠ z → g5.get? c = some o → g8.get? c = some o := fun c o n e => e8.extBut _ _ n (e7.extBut _ _ n (Heap.get?_push_of_some _ e))
      refine wpAny_pure ⟨_, rfl, ?_⟩
      have q := z2 g8 (fun c o c1 c2 e => up c o c1 (e5.extBut _ _ c2 e)) (by rw [← e5.1]; exact e8.extBut _ _ (Nat.ne_of_gt zl) (e7.extBut _ _ (Nat.ne_of_gt zl) (Heap.get?_push_size _ rfl))) (by rw [e8.1, e7.1, Heap.size_push, e5.1]) ⟨⟨_, _, hz8, .inr ⟨_, rfl⟩⟩, up _ _ ne.zi.symm t5, x, y, up _ _ ne.zo.symm p5⟩
      show Qv (.ref g5.objs.size) _
      rw [e5.1]
      exact q
    · obtain ⟨st1, z1⟩ := z1
      have hz2 := st1 z (.inl rfl) _ hz1
      exact wpAny_setField_rec hz2 (by simp) fun g3 _ e3 => z1 g3 fun c o n e => e3.extBut _ _ n e
  · -- a tuple of its own
    have p0 : IsPair h0 TO a b := hs0.extBut _ _ ne.zo.symm hTO
    have t0 : IsPair h0 TI (.ref i1) (.ref i2) := hs0.extBut _ _ ne.zi.symm hTI
    simp only [Bool.false_eq_true, if_false]
    refine wpAny_bind ?_
    rw [← Array.forIn_toList]
    simp only [List.forIn_cons, List.forIn_nil]
    refine wpAny_bind (wpAny_bind (wpAny_holding ?_))
    show wpAny _ _ (Builtin.SmallTypes.nextOf (.ref i1) >>= _) _ _ _
    refine wpAny_bind (wpAny_mono (d h0 hs0 ⟨_, _, hz0⟩) (fun x s1 z1 => ?_) fun e s1 z1 => z1.2 s1.heap fun _ _ _ e => e)
    refine wpAny_pure (wpAny_pure ?_)
    obtain ⟨st1, z1⟩ := z1
    have hz2 := st1 z (.inl rfl) _ hz0
    have p2 : IsPair s1.heap TO a b := st1 TO (.inr (.inr rfl)) _ p0
    have t2 : IsPair s1.heap TI (.ref i1) (.ref i2) := st1 TI (.inr (.inl rfl)) _ t0
    refine wpAny_bind (wpAny_bind (wpAny_holding ?_))
    show wpAny _ _ (Builtin.SmallTypes.nextOf (.ref i2) >>= _) _ _ _
    refine wpAny_bind (wpAny_mono (z1 s1.heap rfl (fun _ _ _ e => e) ⟨_, _, p2⟩) (fun y s2 z2 => ?_) fun _ _ q => q.elim)
    refine wpAny_pure (wpAny_pure (wpAny_pure ?_))
    obtain ⟨st2, z2⟩ := z2
    have hz4 := st2 z (.inl rfl) _ hz2
    have p4 : IsPair s2.heap TO a b := st2 TO (.inr (.inr rfl)) _ p2
    have t4 : IsPair s2.heap TI (.ref i1) (.ref i2) := st2 TI (.inr (.inl rfl)) _ t2
    refine wpAny_bind (wpAny_newTuple ?_ (by show 2 ≤ sizeLine; decide))
    refine wpAny_pure ⟨_, rfl, ?_⟩
    have up : ∀ c o, s2.heap.get? c = some o → (s2.heap.push { cls := .type "tuple", data := .seq #[x, y] }).get? c = some o := fun c o e => Heap.get?_push_of_some _ e
    exact z2 _ (fun c o _ _ e => up c o e) (Heap.get?_push_size _ rfl) (Heap.size_push ..) ⟨⟨f0, true, up _ _ hz4, hf⟩, up _ _ t4, a, b, up _ _ p4⟩
end
end KH
/-! ### two generators walked side by side: the loop of list(zip(..)) -/
namespace KH
open PySem PySem.Spec PyProof.Rows L2 CC GenW GH KG
/-- what stays true of our own since sc -/
structure DI (X : Cx) (Hc : Hp) (sc : Shared) (H : Hp) (s : Shared) : Prop where
  os : s.os = sc.os
  bare : AllBare s.gens
  un : Un (frs X.stack) [] Hc H sc.heap s.heap
  hok : HOk X.prog X.w H s.heap
  same : Same Hc H
section
variable {X : Cx} {pins : List (Addr × Obj)} {σ : L2.St} {Hc H H' H5 : Hp} {sc s s5 : Shared}
theorem DI.inv (I0 : Inv X pins σ Hc sc) (d : DI X Hc sc H s) : Inv X pins σ H s := I0.call' (ch := []) d.os d.un d.hok d.bare fun b hb => by simp at hb
theorem stk_lt (I0 : Inv X pins σ Hc sc) : ∀ b ∈ frs X.stack, b < sc.heap.objs.size := fun b hb => by
  obtain ⟨_, o, ho, _⟩ := I0.stack.mem hb
  exact Heap.lt_size ho
/-- objects at ch, untracked and younger than sc, have changed; others may have come -/
theorem DI.turn {ch : List Addr} {h' : Heap} {G : Array GenState} (d : DI X Hc sc H s) (hch : ∀ c ∈ ch, H c = none ∧ sc.heap.objs.size ≤ c) (k : ∀ b o, b ∉ ch → s.heap.get? b = some o → h'.get? b = some o) (hG : AllBare G) : DI X Hc sc H { s with heap := h', gens := G } := by
  have low : ∀ b o, sc.heap.get? b = some o → b ∉ ch := fun b o e hb => absurd (Nat.lt_of_lt_of_le (Heap.lt_size e) (hch b hb).2) (Nat.lt_irrefl _)
  have trk : ∀ b u, H b = some u → b ∉ ch := fun b u e hb => by rw [(hch b hb).1] at e; cases e
  refine ⟨d.os, hG, ⟨fun b o e n hb hx => k b o (low b o e) (d.un.keep b o e n hb hx), fun b o e n hb hx => ?_, d.un.free, fun b o e hx => ?_, d.un.tups, d.un.frzs, d.un.tbls⟩, fun b u e => ?_, d.same⟩
  · obtain ⟨sl, q⟩ := d.un.slot b o e n hb hx
    exact ⟨sl, k b _ (low b o e) q⟩
  · obtain ⟨o', q⟩ := d.un.there b o e hx
    exact ⟨o', k b _ (low b o e) q⟩
  · refine (d.hok b u e).stay (fun c v hc q => k c v ?_ q) (fun _ q => q) fun _ _ q => q
    rcases hc with z | z
    · rw [z]; exact trk b u e
    · exact trk c _ z
/-- an untracked object, younger than sc, is tracked from now on -/
theorem DI.track {T : Addr} {u : HO} (d : DI X Hc sc H s) (hT : H T = none) (lt : sc.heap.objs.size ≤ T) (new : ObjOk X.prog X.w (upd H T u) s.heap T u) : DI X Hc sc (upd H T u) s := by
  refine ⟨d.os, d.bare, ⟨d.un.keep, d.un.slot, fun b o e n hx => ?_, d.un.there, fun b xs q => ?_, fun b o y q => ?_, fun b ps q => ?_⟩, fun b v q => ?_, d.same.trans (same_new hT)⟩
  · rw [upd_ne (Nat.ne_of_lt (Nat.lt_of_lt_of_le (Heap.lt_size e) lt))]
    exact d.un.free b o e n hx
  · have q2 := d.un.tups b xs q
    rw [upd_ne (ne_of_none q2 hT)]
    exact q2
  · have q2 := d.un.frzs b o y q
    rw [upd_ne (ne_of_none q2 hT)]
    exact q2
  · obtain ⟨more, q2⟩ := d.un.tbls b ps q
    exact ⟨more, by rw [upd_ne (ne_of_none q2 hT)]; exact q2⟩
  · by_cases e : b = T
    · subst e
      rw [upd_same] at q
      cases q
      exact new
    · rw [upd_ne e] at q
      exact (d.hok b v q).stay (fun _ _ _ z => z) (fun c z => by rw [upd_ne (ne_of_none z hT)]; exact z) fun c xs z => by rw [upd_ne (ne_of_none z hT)]; exact z
/-- behind a segment of a generator made since sc -/
theorem DI.seg {n0 g : Nat} {fo : List (Addr × Obj)} {gs : GenState} (d : DI X Hc sc H s) (f : SegK X.prog X.w X.stack n0 (H, fo) (s.setGen g .running) H5 s5) (hn : sc.heap.objs.size ≤ n0) (hb : AllBare (s5.setGen g gs).gens) : DI X Hc sc H5 (s5.setGen g gs) := by
  have cg : ∀ b o, s.heap.get? b = some o → b < n0 → (cutHeap n0 (s.setGen g .running).heap).get? b = some o := fun b o e hb => by
    rw [cut_get, if_pos hb]
    exact e
  have lt : ∀ b o, sc.heap.get? b = some o → b < n0 := fun b o e => Nat.lt_of_lt_of_le (Heap.lt_size e) hn
  have none_ : ∀ {b o}, sc.heap.get? b = some o → H b = none → cutH n0 H b = none := fun {b o} e n => by rw [cutH_lt (lt b o e)]; exact n
  refine ⟨f.os.trans d.os, hb, ⟨fun b o e n hb hx => ?_, fun b o e n hb hx => ?_, fun b o e n hx => ?_, fun b o e hx => ?_, fun b xs q => f.same _ _ (d.un.tups b xs q), fun b o y q => f.same _ _ (d.un.frzs b o y q), fun b ps q => ?_⟩, f.hok, d.same.trans f.same⟩
  · exact f.un.keep b o (cg b o (d.un.keep b o e n hb hx) (lt b o e)) (none_ e (d.un.free b o e n hx)) hb hx
  · obtain ⟨sl, q⟩ := d.un.slot b o e n hb hx
    obtain ⟨sl', q2⟩ := f.un.slot b _ (cg b _ q (lt b o e)) (none_ e (d.un.free b o e n hx)) hb hx
    exact ⟨sl', q2⟩
  · obtain ⟨o', q⟩ := d.un.there b o e hx
    exact f.un.free b o' (cg b o' q (lt b o e)) (none_ e (d.un.free b o e n hx)) hx
  · obtain ⟨o', q⟩ := d.un.there b o e hx
    exact f.un.there b o' (cg b o' q (lt b o e)) hx
  · obtain ⟨more, q2⟩ := d.un.tbls b ps q
    exact ⟨more, f.same _ _ q2⟩
/-- a generator may be woken; what is at L stays -/
theorem DI.wok {O L : List Addr} {g : Nat} (I0 : Inv X pins σ Hc sc) (d : DI X Hc sc H s) (hO : ∀ b ∈ O, H b = none) (hL : ∀ c ∈ L, c ∉ O ∧ H c = none ∧ sc.heap.objs.size ≤ c ∧ ∀ o, s.heap.get? c = some o → ∀ v, o.data ≠ .cell v) :
    WokeK X.prog X.w X.base X.stack O H s H (s.setGen g .running) (pinsAt L s.heap) := by
  have I := d.inv I0
  refine ⟨I.bs, I.stack, I.stkFree, I.hok, allBare_setGen d.bare rfl, rfl, Same.refl _, fun b hb o e => ⟨e, hO b hb⟩, fun p hp => ?_⟩
  obtain ⟨h1, h2⟩ := of_pinsAt hp
  obtain ⟨q1, q2, q3, q4⟩ := hL p.1 h1
  exact ⟨h2, q2, q1, fun hm => absurd (Nat.lt_of_lt_of_le (stk_lt I0 p.1 hm) q3) (Nat.lt_irrefl _), q4 p.2 h2⟩
end
/-- what was handed out once, and stands since -/
def Got (Yp : YpT) (j : Nat) (x : V) (H : Hp) : Prop := ∃ Hx, Same Hx H ∧ Yp j x Hx
theorem Got.up {Yp : YpT} {j : Nat} {x : V} {H H' : Hp} (h : Got Yp j x H) (s : Same H H') : Got Yp j x H' := let ⟨Hx, a, b⟩ := h; ⟨Hx, a.trans s, b⟩
/-- the pairs so far -/
def Prs (Yp1 Yp2 : YpT) (ts : List Addr) (H : Hp) : Prop := ∀ (j : Nat) t, ts[j]? = some t → ∃ x y, H t = some (.tup [x, y]) ∧ Got Yp1 j x H ∧ Got Yp2 j y H
theorem Prs.up {Yp1 Yp2 : YpT} {ts : List Addr} {H H' : Hp} (h : Prs Yp1 Yp2 ts H) (s : Same H H') : Prs Yp1 Yp2 ts H' := fun j t e => by
  obtain ⟨x, y, a, b, c⟩ := h j t e
  exact ⟨x, y, s _ _ a, b.up s, c.up s⟩
section
variable {prog : Program} {w : World} {A : Around} {E : Value → Shared → Prop} {s : Shared} {z TI TO i1 i2 : Addr}
/-- pyNext of a zip by its __next__; at its end StopIteration is caught -/
theorem pyNext_zip {Q : Option Value → Shared → Prop} {TIx TOx : Addr} {f0 : Value} {f1 : Bool} (hz : ZN.IsZN s.heap z TIx TOx f0 f1)
    (h : wpAny (model prog w) A.in1 (Builtin.«zip.__next__» ⟨[.ref z], []⟩) (fun fin s' => ∃ v, fin = .done (.ret v) ∧ Q (some v) s') (fun e s' => (∃ a o, e = .ref a ∧ s'.heap.get? a = some o ∧ o.cls = .type "StopIteration") ∧ Q none s') s) :
    wpAny (model prog w) A (pyNext (.ref z)) Q E s := by
  have hT : s.TypeIs (.ref z) "zip" := ⟨_, hz, rfl⟩
  unfold pyNext
  refine wpAny_bind (wpAny_attempt (wpAny_callSpecial?_slot (name := Str.ofString "__next__") hT F.slot_zip_next (wpAny_call_entry F.slot_zip_next hT F.entry_zip_next (wpAny_mono h (fun fin s' q => ?_) fun e s' q => ?_) (F.args_zip_next_1 _))))
  · obtain ⟨v, rfl, q⟩ := q
    exact ⟨v, rfl, wpAny_pure q⟩
  · obtain ⟨⟨a, o, rfl, ho, hc⟩, q⟩ := q
    exact wpAny_bind (wpAny_isInstance (T := "StopIteration") (b := true) ⟨o, ho, hc⟩ isSubtype_stop (wpAny_pure q))
end
end KH
namespace KH
open PySem PySem.Spec PyProof.Rows L2 CC GenW GH KG
section
variable {X : Cx} {pins : List (Addr × Obj)} {σ : L2.St} {Hc : Hp} {sc : Shared} {A : Around} {n1 n2 N a1 a2 g1 g2 : Nat} {Yp1 Yp2 : YpT} {Q1 Q2 : Nat → Hp → Prop} {z TI TO S : Addr}
abbrev Sl1 (X : Cx) (A : Around) (n1 N a1 g1 : Nat) (Yp1 : YpT) (Q1 : Nat → Hp → Prop) := Slp X.prog X.w A X.base X.stack n1 N a1 g1 Yp1 Q1
/-- what stands between two turns -/
structure Mid (X : Cx) (Hc : Hp) (sc : Shared) (A : Around) (n1 n2 N a1 a2 g1 g2 : Nat) (Yp1 Yp2 : YpT) (Q1 Q2 : Nat → Hp → Prop) (z TI TO S : Addr) (m i : Nat) (H : Hp) (s : Shared) : Prop where
  di : DI X Hc sc H s
  sl1 : ∃ O1 gs1, Sl1 X A n1 N a1 g1 Yp1 Q1 m i O1 gs1 H s ∧ (∀ c ∈ [z, TI, TO, S], c ∉ O1) ∧
    ∃ O2 gs2, Sl1 X A n2 N a2 g2 Yp2 Q2 m i O2 gs2 H s ∧ (∀ c ∈ [z, TI, TO, S], c ∉ O2) ∧ ∀ b ∈ O1, b ∉ O2
  zat : ZAt s.heap z TI TO a1 a2
  own : ∀ c ∈ [z, TI, TO, S], H c = none ∧ sc.heap.objs.size ≤ c
  lst : ∃ acc cc ts, s.heap.get? S = some (lstObj acc cc) ∧ Vals (ts.map V.ref) acc.toList ∧ ts.length = i ∧ Prs Yp1 Yp2 ts H
theorem zobj {h : Heap} (za : ZAt h z TI TO a1 a2) {acc : Array Value} {cc : Nat} (hS : h.get? S = some (lstObj acc cc)) : ∀ c ∈ [z, TI, TO, S], ∃ o, h.get? c = some o ∧ ∀ v, o.data ≠ .cell v := fun c hc => by
  obtain ⟨⟨f0, f1, hz, _⟩, hTI, a, b, hTO⟩ := za
  have e : c = z ∨ c = TI ∨ c = TO ∨ c = S := by simpa using hc
  rcases e with rfl | rfl | rfl | rfl
  · exact ⟨_, hz, fun v q => nomatch q⟩
  · exact ⟨_, hTI, fun v q => nomatch q⟩
  · exact ⟨_, hTO, fun v q => nomatch q⟩
  · exact ⟨_, hS, fun v q => nomatch q⟩
theorem setGen_ne {s : Shared} {g h : Nat} {x : GenState} (ne : g ≠ h) : (s.setGen g x).gens[h]? = s.gens[h]? := Array.getElem?_setIfInBounds_ne ne
theorem drain2 {R : Result → Shared → Prop} (I0 : Inv X pins σ Hc sc) (quiet : A.handled = none) (low : A.in1.in1.depth < recursionLimit) (hn1 : sc.heap.objs.size ≤ n1) (hn2 : sc.heap.objs.size ≤ n2) (hg : g1 ≠ g2) (ne : ZNe z TI TO) (nS : S ≠ z ∧ S ≠ TI ∧ S ≠ TO) (hN : N < sizeLine)
    (hno : ∀ i x H6 H7, Yp1 i x H6 → Same H6 H7 → Q2 i H7 → False)
    (hend : ∀ H' s' acc cc ts, DI X Hc sc H' s' → s'.heap.get? S = some (lstObj acc cc) → H' S = none → Vals (ts.map V.ref) acc.toList → ts.length ≤ N → Prs Yp1 Yp2 ts H' → Q1 ts.length H' → R (.ok (.ret .none)) s') :
    ∀ (m i : Nat) (H : Hp) (s : Shared), Mid X Hc sc A.in1.in1.in1 n1 n2 N a1 a2 g1 g2 Yp1 Yp2 Q1 Q2 z TI TO S m i H s →
      codeAny (model X.prog X.w) A (.builtin "list.extend.loop" ⟨[.ref S, .ref z, .none], []⟩) R s := by
  intro m
  induction m using Nat.strongRecOn with
  | ind m ih =>
  intro i H s mid
  obtain ⟨di, ⟨O1, gs1, sl1, zo1, O2, gs2, sl2, zo2, dis⟩, za, own, acc, cc, ts, hS, rv, tl, prs⟩ := mid
  refine codeAny_builtin F.entry_extend_loop ?_
  rw [Around.under_plainId F.plain_extend_loop _]
  show wpAny _ A.in1 (pyNext (.ref z) >>= _) _ _ s
  obtain ⟨f0, f1, hz, hf⟩ := id za.z
  refine wpAny_bind (pyNext_zip hz (zip_next ne za fun h0 sb0 hz0 => ?_))
  -- the zip has noted something in itself
  have zin : ∀ c ∈ [z], H c = none ∧ sc.heap.objs.size ≤ c := fun c hc => own c (by rw [List.mem_singleton.mp hc]; simp)
  have k0 : ∀ b o, b ∉ [z] → s.heap.get? b = some o → h0.get? b = some o := fun b o hb e => (sb0.2 b fun q => hb (by rw [q]; simp)).trans e
  have d0 : DI X Hc sc H { s with heap := h0 } := di.turn zin k0 di.bare
  have ob : ∀ c ∈ [z, TI, TO, S], ∃ o, s.heap.get? c = some o ∧ ∀ v, o.data ≠ .cell v := zobj za hS
  have ob0 : ∀ c ∈ [z, TI, TO, S], ∃ o, h0.get? c = some o ∧ ∀ v, o.data ≠ .cell v := fun c hc => by
    by_cases e : c = z
    · subst e
      obtain ⟨x, y, q⟩ := hz0
      exact ⟨_, q, fun v q => nomatch q⟩
    · obtain ⟨o, q, d⟩ := ob c hc
      exact ⟨o, k0 c o (by simpa using e) q, d⟩
  have zO1 : ∀ b ∈ O1, b ∉ [z] := fun b hb q => zo1 b (by rw [List.mem_singleton.mp q]; simp) hb
  have zO2 : ∀ b ∈ O2, b ∉ [z] := fun b hb q => zo2 b (by rw [List.mem_singleton.mp q]; simp) hb
  have sl1' : Sl1 X A.in1.in1.in1 n1 N a1 g1 Yp1 Q1 m i O1 gs1 H { s with heap := h0 } := sl1.keep (Same.refl _) rfl (fun b hb o e => ⟨k0 b o (zO1 b hb) e, (sl1.own.2 b hb).2.1⟩) sl1.at_
  have sl2' : Sl1 X A.in1.in1.in1 n2 N a2 g2 Yp2 Q2 m i O2 gs2 H { s with heap := h0 } := sl2.keep (Same.refl _) rfl (fun b hb o e => ⟨k0 b o (zO2 b hb) e, (sl2.own.2 b hb).2.1⟩) sl2.at_
  have hS0 : h0.get? S = some (lstObj acc cc) := k0 S _ (by simpa using nS.1) hS
  -- the first generator
  have L1 : ∀ c ∈ O2 ++ [z, TI, TO, S], c ∉ O1 ∧ H c = none ∧ sc.heap.objs.size ≤ c ∧ ∀ o, h0.get? c = some o → ∀ v, o.data ≠ .cell v := fun c hc => by
    rcases List.mem_append.mp hc with y | y
    · obtain ⟨p1, p2, o, p3, p4⟩ := sl2'.own.2 c y
      exact ⟨fun q => dis c q y, p2, Nat.le_trans hn2 p1, fun o' e => by rw [show h0.get? c = some o from p3] at e; cases e; exact p4⟩
    · obtain ⟨o, p3, p4⟩ := ob0 c y
      exact ⟨zo1 c y, (own c y).1, (own c y).2, fun o' e => by rw [p3] at e; cases e; exact p4⟩
  refine draw (A := A.in1.in1) (fo := pinsAt (O2 ++ [z, TI, TO, S]) h0) quiet (d0.inv I0).nolimit low sl1' (d0.wok I0 (fun b hb => (sl1'.own.2 b hb).2.1) L1) (fun x v H5 s5 O5 gs5 rx f5 b5 sl5 dis5 yp => ?_) (fun H5 s5 h2 e f5 q5 k5 st5 fr5 => ?_)
  · -- it has handed out v
    have d5 := d0.seg f5 hn1 b5
    have kO : ∀ c ∈ O2 ++ [z, TI, TO, S], ∀ o, h0.get? c = some o → s5.heap.get? c = some o ∧ H5 c = none := fun c hc o e => f5.fo (c, o) (mem_pinsAt hc e)
    have dO : ∀ c ∈ O2 ++ [z, TI, TO, S], c ∉ O5 := fun c hc => by
      rcases List.mem_append.mp hc with y | y
      · obtain ⟨_, _, o, p3, _⟩ := sl2'.own.2 c y
        exact dis5 (c, o) (mem_pinsAt hc p3)
      · obtain ⟨o, p3, _⟩ := ob0 c y
        exact dis5 (c, o) (mem_pinsAt hc p3)
    have g5 : (s5.setGen g1 gs5).gens[g2]? = some gs2 := by
      rw [setGen_ne hg, show s5.gens = (({ s with heap := h0 } : Shared).setGen g1 .running).gens from f5.gens, setGen_ne hg]
      exact sl2'.at_
    have sl25 : Sl1 X A.in1.in1.in1 n2 N a2 g2 Yp2 Q2 m i O2 gs2 H5 (s5.setGen g1 gs5) := sl2'.keep f5.same f5.os (fun b hb o e => kO b (List.mem_append_left _ hb) o e) g5
    have ob5 : ∀ c ∈ [z, TI, TO, S], H5 c = none ∧ ∀ o, h0.get? c = some o → s5.heap.get? c = some o := fun c hc => by
      obtain ⟨o, p3, _⟩ := ob0 c hc
      exact ⟨(kO c (List.mem_append_right _ hc) o p3).2, fun o' e => (kO c (List.mem_append_right _ hc) o' e).1⟩
    refine ⟨fun c hc o e => (ob5 c (by rcases hc with rfl | rfl | rfl <;> simp)).2 o e, fun h1 sz1 k1 to1 => ?_⟩
    have k1' : ∀ b o, b ∉ [TO] → (s5.setGen g1 gs5).heap.get? b = some o → h1.get? b = some o := fun b o hb e => k1 b o (by simpa using hb) e
    have d1 : DI X Hc sc H5 { s5.setGen g1 gs5 with heap := h1 } := d5.turn (ch := [TO]) (fun c hc => by rw [List.mem_singleton.mp hc]; exact ⟨(ob5 TO (by simp)).1, (own TO (by simp)).2⟩) k1' d5.bare
    have ob1 : ∀ c ∈ [z, TI, TO, S], ∃ o, h1.get? c = some o ∧ ∀ v, o.data ≠ .cell v := fun c hc => by
      by_cases e : c = TO
      · subst e
        obtain ⟨p, q, t⟩ := to1
        exact ⟨_, t, fun v q => nomatch q⟩
      · obtain ⟨o, q, d⟩ := ob0 c hc
        exact ⟨o, k1 c o e ((ob5 c hc).2 o q), d⟩
    have tO5 : ∀ b ∈ O5, b ∉ [TO] := fun b hb q => dO b (by rw [List.mem_singleton.mp q]; simp) hb
    have tO2 : ∀ b ∈ O2, b ∉ [TO] := fun b hb q => zo2 b (by rw [List.mem_singleton.mp q]; simp) hb
    have sl51 : Sl1 X A.in1.in1.in1 n1 N a1 g1 Yp1 Q1 (m - 1) (i + 1) O5 gs5 H5 { s5.setGen g1 gs5 with heap := h1 } := sl5.keep (Same.refl _) rfl (fun b hb o e => ⟨k1' b o (tO5 b hb) e, (sl5.own.2 b hb).2.1⟩) sl5.at_
    have sl21 : Sl1 X A.in1.in1.in1 n2 N a2 g2 Yp2 Q2 m i O2 gs2 H5 { s5.setGen g1 gs5 with heap := h1 } := sl25.keep (Same.refl _) rfl (fun b hb o e => ⟨k1' b o (tO2 b hb) e, (sl25.own.2 b hb).2.1⟩) sl25.at_
    have hS1 : h1.get? S = some (lstObj acc cc) := k1 S _ nS.2.2 ((ob5 S (by simp)).2 _ hS0)
    -- the second generator
    have L2' : ∀ c ∈ O5 ++ [z, TI, TO, S], c ∉ O2 ∧ H5 c = none ∧ sc.heap.objs.size ≤ c ∧ ∀ o, h1.get? c = some o → ∀ v, o.data ≠ .cell v := fun c hc => by
      rcases List.mem_append.mp hc with y | y
      · obtain ⟨p1, p2, o, p3, p4⟩ := sl51.own.2 c y
        exact ⟨fun q => dO c (List.mem_append_left _ q) y, p2, Nat.le_trans hn1 p1, fun o' e => by rw [show h1.get? c = some o from p3] at e; cases e; exact p4⟩
      · obtain ⟨o, p3, p4⟩ := ob1 c y
        exact ⟨zo2 c y, (ob5 c y).1, (own c y).2, fun o' e => by rw [p3] at e; cases e; exact p4⟩
    refine draw (A := A.in1.in1) (fo := pinsAt (O5 ++ [z, TI, TO, S]) h1) quiet (d1.inv I0).nolimit low sl21 (d1.wok I0 (fun b hb => (sl21.own.2 b hb).2.1) L2') (fun y v2 H8 s8 O8 gs8 ry f8 b8 sl8 dis8 yp2 => ?_) (fun H8 s8 h3 e f8 q8 _ _ _ => ?_)
    · have d8 := d1.seg f8 hn2 b8
      have kO8 : ∀ c ∈ O5 ++ [z, TI, TO, S], ∀ o, h1.get? c = some o → s8.heap.get? c = some o ∧ H8 c = none := fun c hc o e => f8.fo (c, o) (mem_pinsAt hc e)
      have dO8 : ∀ c ∈ O5 ++ [z, TI, TO, S], c ∉ O8 := fun c hc => by
        rcases List.mem_append.mp hc with y | y
        · obtain ⟨_, _, o, p3, _⟩ := sl51.own.2 c y
          exact dis8 (c, o) (mem_pinsAt hc p3)
        · obtain ⟨o, p3, _⟩ := ob1 c y
          exact dis8 (c, o) (mem_pinsAt hc p3)
      have g8 : (s8.setGen g2 gs8).gens[g1]? = some gs5 := by
        rw [setGen_ne (Ne.symm hg), show s8.gens = (({ s5.setGen g1 gs5 with heap := h1 } : Shared).setGen g2 .running).gens from f8.gens, setGen_ne (Ne.symm hg)]
        exact sl51.at_
      have sl58 : Sl1 X A.in1.in1.in1 n1 N a1 g1 Yp1 Q1 (m - 1) (i + 1) O5 gs5 H8 (s8.setGen g2 gs8) := sl51.keep f8.same f8.os (fun b hb o e => kO8 b (List.mem_append_left _ hb) o e) g8
      have ob8 : ∀ c ∈ [z, TI, TO, S], H8 c = none ∧ ∀ o, h1.get? c = some o → s8.heap.get? c = some o := fun c hc => by
        obtain ⟨o, p3, _⟩ := ob1 c hc
        exact ⟨(kO8 c (List.mem_append_right _ hc) o p3).2, fun o' e => (kO8 c (List.mem_append_right _ hc) o' e).1⟩
      refine ⟨fun c hc o e => (ob8 c (by rcases hc with rfl | rfl | rfl <;> simp)).2 o e, fun h2 k2 pT sz2 za2 => ?_⟩
      have pT : IsPair h2 s8.heap.objs.size v v2 := pT
      show wpAny _ A.in1 (updateSeq S (·.push (.ref s8.heap.objs.size)) >>= _) _ _ _
      generalize hT : s8.heap.objs.size = T at pT ⊢
      have zT : ∀ c ∈ [z, TI, TO, S], c < T := fun c hc => by
        obtain ⟨o, p3, _⟩ := ob1 c hc
        rw [← hT]
        exact Heap.lt_size ((ob8 c hc).2 o p3)
      have nT : H8 T = none := f8.hok.fresh (by rw [hT]; exact Nat.le_refl _)
      have cT : sc.heap.objs.size ≤ T := Nat.le_trans (own z (by simp)).2 (Nat.le_of_lt (zT z (by simp)))
      have k2' : ∀ b o, b ∉ [z, TO] → (s8.setGen g2 gs8).heap.get? b = some o → h2.get? b = some o := fun b o hb e => by
        have hb : ¬ (b = z ∨ b = TO) := by simpa using hb
        exact k2 b o (fun q => hb (.inl q)) (fun q => hb (.inr q)) e
      have d2 : DI X Hc sc H8 { s8.setGen g2 gs8 with heap := h2 } := d8.turn (ch := [z, TO]) (fun c hc => by
        have hc : c = z ∨ c = TO := by simpa using hc
        rcases hc with rfl | rfl
        · exact ⟨(ob8 _ (by simp)).1, (own _ (by simp)).2⟩
        · exact ⟨(ob8 _ (by simp)).1, (own _ (by simp)).2⟩) k2' d8.bare
      have d3 : DI X Hc sc (upd H8 T (.tup [x, y])) { s8.setGen g2 gs8 with heap := h2 } := d2.track nT cT ⟨by show 2 ≤ sizeLine; decide, [v, v2], .cons rx (.cons ry .nil), ⟨_, pT, rfl, _, rfl⟩⟩
      have sT : Same H8 (upd H8 T (.tup [x, y])) := same_new nT
      have oT : ∀ (O : List Addr) (b : Addr), (∀ b ∈ O, b ≠ T) → b ∈ O → (upd H8 T (.tup [x, y])) b = H8 b := fun O b h hb => upd_ne (h b hb)
      have o5T : ∀ b ∈ O5, b ≠ T := fun b hb => by
        obtain ⟨_, _, o, p3, _⟩ := sl58.own.2 b hb
        rw [← hT]
        exact Nat.ne_of_lt (Heap.lt_size p3)
      have o8T : ∀ b ∈ O8, b ≠ T := fun b hb => by
        obtain ⟨_, _, o, p3, _⟩ := sl8.own.2 b hb
        rw [← hT]
        exact Nat.ne_of_lt (Heap.lt_size p3)
      have o5z : ∀ b ∈ O5, b ∉ [z, TO] := fun b hb q => by
        have q : b = z ∨ b = TO := by simpa using q
        exact dO b (List.mem_append_right _ (by rcases q with rfl | rfl <;> simp)) hb
      have o8z : ∀ b ∈ O8, b ∉ [z, TO] := fun b hb q => by
        have q : b = z ∨ b = TO := by simpa using q
        exact dO8 b (List.mem_append_right _ (by rcases q with rfl | rfl <;> simp)) hb
      have sl53 : Sl1 X A.in1.in1.in1 n1 N a1 g1 Yp1 Q1 (m - 1) (i + 1) O5 gs5 (upd H8 T (.tup [x, y])) { s8.setGen g2 gs8 with heap := h2 } := sl58.keep sT rfl (fun b hb o e => ⟨k2' b o (o5z b hb) e, by rw [oT O5 b o5T hb]; exact (sl58.own.2 b hb).2.1⟩) sl58.at_
      have sl83 : Sl1 X A.in1.in1.in1 n2 N a2 g2 Yp2 Q2 (m - 1) (i + 1) O8 gs8 (upd H8 T (.tup [x, y])) { s8.setGen g2 gs8 with heap := h2 } := sl8.keep sT rfl (fun b hb o e => ⟨k2' b o (o8z b hb) e, by rw [oT O8 b o8T hb]; exact (sl8.own.2 b hb).2.1⟩) sl8.at_
      have own3 : ∀ c ∈ [z, TI, TO, S], (upd H8 T (.tup [x, y])) c = none ∧ sc.heap.objs.size ≤ c := fun c hc => ⟨by rw [upd_ne (Nat.ne_of_lt (zT c hc))]; exact (ob8 c hc).1, (own c hc).2⟩
      have hS2 : h2.get? S = some (lstObj acc cc) := k2 S _ nS.1 nS.2.2 ((ob8 S (by simp)).2 _ hS1)
      have prs3 : Prs Yp1 Yp2 (ts ++ [T]) (upd H8 T (.tup [x, y])) := fun j t ht => by
        by_cases hj : j < ts.length
        · rw [List.getElem?_append_left hj] at ht
          exact (prs.up (f5.same.trans (f8.same.trans sT))) j t ht
        · rw [List.getElem?_append_right (by omega)] at ht
          have ej : j - ts.length = 0 := by
            cases e : j - ts.length with
            | zero => rfl
            | succ q => rw [e] at ht; cases ht
          rw [ej] at ht
          cases ht
          have : j = i := by omega
          subst this
          exact ⟨x, y, upd_same, ⟨H5, f8.same.trans sT, yp⟩, ⟨H8, sT, yp2⟩⟩
      generalize upd H8 T (.tup [x, y]) = H9 at d3 sl53 sl83 own3 prs3
      have al : acc.toList.length = i := by rw [← rv.length, List.length_map]; exact tl
      have al2 : acc.size < sizeLine := by
        have := sl1.num
        rw [← Array.length_toList, al]
        omega
      refine wpAny_bind ?_
      refine wpAny_updateSeq hS2 rfl (wpAny_pure ⟨plainId_quiet F.plain_extend_loop _, ?_⟩) (Nat.le_of_lt al2) (by show (acc.push _).size ≤ sizeLine + 1; rw [Array.size_push]; omega)
      have hm : m - 1 < m := by
        have h1 := sl51.num
        have h2 := sl1.num
        omega
      have kS : ∀ b o, b ∉ [S] → h2.get? b = some o → (h2.update S (Obj.mapSeq (·.push (.ref T)))).get? b = some o := fun b o hb e => (Heap.get?_update_other _ _ (fun q => hb (by simp [q]))).trans e
      have hS3 := Heap.get?_update_self (Obj.mapSeq (·.push (Value.ref T))) hS2 rfl
      have oS : ∀ (O : List Addr), (∀ c ∈ [z, TI, TO, S], c ∉ O) → ∀ b ∈ O, b ∉ [S] := fun O h b hb q => h b (by rw [List.mem_singleton.mp q]; simp) hb
      have z5 : ∀ c ∈ [z, TI, TO, S], c ∉ O5 := fun c hc => dO c (List.mem_append_right _ hc)
      have z8 : ∀ c ∈ [z, TI, TO, S], c ∉ O8 := fun c hc => dO8 c (List.mem_append_right _ hc)
      refine ih (m - 1) hm (i + 1) H9 _ ⟨d3.turn (ch := [S]) (fun c hc => by rw [List.mem_singleton.mp hc]; exact own3 S (by simp)) kS d3.bare, ⟨O5, gs5, sl53.keep (Same.refl _) rfl (fun b hb o e => ⟨kS b o (oS O5 z5 b hb) e, (sl53.own.2 b hb).2.1⟩) sl53.at_, z5, O8, gs8, sl83.keep (Same.refl _) rfl (fun b hb o e => ⟨kS b o (oS O8 z8 b hb) e, (sl83.own.2 b hb).2.1⟩) sl83.at_, z8, fun b hb => dO8 b (List.mem_append_left _ hb)⟩, ?_, own3, ?_⟩
      · obtain ⟨⟨p, q, u1, u2⟩, u3, u4, u5, u6⟩ := za2
        exact ⟨⟨p, q, kS z _ (by simpa using Ne.symm nS.1) u1, u2⟩, kS TI _ (by simpa using Ne.symm nS.2.1) u3, u4, u5, kS TO _ (by simpa using Ne.symm nS.2.2) u6⟩
      · exact ⟨acc.push (.ref T), _, ts ++ [T], hS3, by rw [List.map_append, Array.toList_push]; exact rv.append (.cons rfl .nil), by rw [List.length_append, tl]; rfl, prs3⟩
    · -- the second one has no item for the first one's
      exact hno i x H5 H8 yp f8.same q8
  · -- the first one is through
    have b5 : AllBare (s5.setGen g1 .finished).gens := allBare_setGen f5.bare rfl
    have d5 := d0.seg f5 hn1 b5
    have kO : ∀ c ∈ [z, TI, TO, S], ∀ o, h0.get? c = some o → s5.heap.get? c = some o ∧ H5 c = none := fun c hc o e => f5.fo (c, o) (mem_pinsAt (List.mem_append_right _ hc) e)
    refine ⟨fun c hc o e => k5 c o (kO c (by rcases hc with rfl | rfl | rfl <;> simp) o e).1, fun h1 k1 => ?_⟩
    obtain ⟨oe, he, ce⟩ := st5
    have ez : e ≠ z := by
      obtain ⟨o, p3, _⟩ := ob0 z (by simp)
      exact (fr5 z o (kO z (by simp) o p3).1).symm
    have up : ∀ b o, b ∉ [z] → (s5.setGen g1 .finished).heap.get? b = some o → h1.get? b = some o := fun b o hb q => k1 b o (by simpa using hb) (k5 b o q)
    have d6 : DI X Hc sc H5 { s5.setGen g1 .finished with heap := h1 } := d5.turn (ch := [z]) (fun c hc => by
      rw [List.mem_singleton.mp hc]
      obtain ⟨o, p3, _⟩ := ob0 z (by simp)
      exact ⟨(kO z (by simp) o p3).2, (own z (by simp)).2⟩) up d5.bare
    refine ⟨⟨e, oe, rfl, k1 e oe ez he, ce⟩, ?_⟩
    exact wpAny_pure (hend H5 _ acc cc ts d6 (up S _ (by simpa using nS.1) (kO S (by simp) _ hS0).1) (kO S (by simp) _ hS0).2 rv (by have := sl1.num; omega) (prs.up f5.same) (by rw [tl]; exact q5))
end
end KH
/-! ### list(zip(f(x), f(x))), f a generator def -/
namespace KH
open PySem PySem.Spec PyProof.Rows L2 CC GenW GH KG
abbrev zg1 (h : Heap) (a b : Addr) : Heap := h.push { cls := .type "tuple", data := .seq #[.ref a, .ref b] }
abbrev zg2 (h : Heap) (a b : Addr) : Heap := (zg1 h a b).push { cls := .type "tuple", data := .seq #[.none, .none] }
abbrev zg3 (h : Heap) (a b : Addr) : Heap := (zg2 h a b).push { cls := .type "zip", data := .fields #[.none, .bool false, .bool false, .ref h.objs.size, .ref (zg1 h a b).objs.size] }
theorem meets_zipG (a b : Addr) (g1 g2 : Nat) : Meets (Builtin.«zip.__new__» ⟨[.type "zip", .ref a, .ref b], []⟩) (fun _ R s => s.heap.IsGen a g1 ∧ s.heap.IsGen b g2 ∧ R (.ok (.ret (.ref (zg2 s.heap a b).objs.size))) { s with heap := zg3 s.heap a b }) :=
  .of_wp fun prog w A R s h => by
    obtain ⟨hp, g, d, tk, os⟩ := s
    obtain ⟨hl1, hl2, h⟩ := h
    have hsub := sub_zip
    have hL1 : Heap.IsGen (Shared.heap ⟨hp, g, d, tk, os⟩) a g1 := hl1
    have hL2 : Heap.IsGen (Shared.heap ⟨hp, g, d, tk, os⟩) b g2 := hl2
    wp_walk using wpAny_pyIter_gen hL1, wpAny_pyIter_gen hL2
    exact ⟨_, rfl, h⟩
theorem call_zipG {prog : Program} {w : World} {A : Around} {E : Value → Shared → Prop} {s : Shared} {a b : Addr} {g1 g2 : Nat} {Q : Value → Shared → Prop} (h1 : s.heap.IsGen a g1) (h2 : s.heap.IsGen b g2)
    (h : ∀ h', ZAt h' (s.heap.objs.size + 2) s.heap.objs.size (s.heap.objs.size + 1) a b → (∃ x y, ZN.IsZN h' (s.heap.objs.size + 2) s.heap.objs.size (s.heap.objs.size + 1) x y) → h'.objs.size = s.heap.objs.size + 3 → (∀ c o, s.heap.get? c = some o → h'.get? c = some o) → Q (.ref (s.heap.objs.size + 2)) { s with heap := h' }) :
    wpAny (model prog w) A (call (.type "zip") [.ref a, .ref b]) Q E s := by
  refine callType_new F.called_zip (by decide) (F.typeCall_zip_2 _ _) (F.newCall_zip_2 _ _) (fun obj => F.args_object_init_3 obj _ _) F.entry_zip_new (meets_zipG a b g1 g2) ⟨h1, h2, ?_⟩
  have z1 : (zg1 s.heap a b).objs.size = s.heap.objs.size + 1 := Heap.size_push ..
  have z2 : (zg2 s.heap a b).objs.size = s.heap.objs.size + 2 := by rw [Heap.size_push, z1]
  have z3 : (zg3 s.heap a b).objs.size = s.heap.objs.size + 3 := by rw [Heap.size_push, z2]
  have q3 : (zg3 s.heap a b).get? (zg2 s.heap a b).objs.size = some { cls := .type "zip", data := .fields #[.none, .bool false, .bool false, .ref s.heap.objs.size, .ref (zg1 s.heap a b).objs.size] } := Heap.get?_push_size _ rfl
  have q2 : (zg3 s.heap a b).get? (zg1 s.heap a b).objs.size = some { cls := .type "tuple", data := .seq #[.none, .none] } := Heap.get?_push_of_some _ (Heap.get?_push_size _ rfl)
  have q1 : (zg3 s.heap a b).get? s.heap.objs.size = some { cls := .type "tuple", data := .seq #[.ref a, .ref b] } := Heap.get?_push_of_some _ (Heap.get?_push_of_some _ (Heap.get?_push_size _ rfl))
  show _ ∧ _
  rw [z2, z1] at q3
  rw [z1] at q2
  rw [z2]
  exact ⟨⟨_, q3, rfl⟩, h _ ⟨⟨_, _, q3, .inl rfl⟩, q1, _, _, q2⟩ ⟨_, _, q3⟩ z3 fun c o x => Heap.get?_push_of_some _ (Heap.get?_push_of_some _ (Heap.get?_push_of_some _ x))⟩
/-- the name's value: the state stays as it is -/
theorem name_at {X : Cx} {pins : List (Addr × Obj)} {s : Shared} {σ : L2.St} {H : Hp} {i : Nat} {x : Str} {v : V} {pos : Pos} {Q : Value → Shared → Prop} {E : Value → Shared → Prop} (I : Inv X pins σ H s) (hN : X.N[i]? = some x) (e : σ[i]? = some (some v)) (hv : Vis X.env.scope x) (hd : (x == ("__debug__" : Str)) = false) (hcd : (x == ("__classdict__" : Str)) = false)
    (q : ∀ u, RelV v u → Q u s) : wpAny (MX X) X.A (eval (.Name x pos) X.env) Q E s := by
  obtain ⟨m, hn, hl⟩ := I.loc
  obtain ⟨u, r, l⟩ := hl i x v hN e hv
  rcases l with ⟨hk, hm⟩ | ⟨hk | hk, c, hc, hcell⟩
  · exact wpAny_Name (wpAny_loadName_local I.ok.kind hk hn hm (q u r)) hd
  · exact wpAny_Name (wpAny_loadName_cell I.ok.kind hk hc hcell (q u r)) hd
  · exact wpAny_Name (wpAny_loadName_free I.ok.kind hk hc hcell (q u r) hcd) hd
def tLZY (i N : Nat) (sp : SpY) : TE := fun σ H R => ∃ v, σ[i]? = some (some v) ∧ ∃ Yp1 Q1 Yp2 Q2, sp [v] H Yp1 Q1 ∧ sp [v] H Yp2 Q2 ∧ N < 1000000 ∧ (∀ i x H6 H7, Yp1 i x H6 → Same H6 H7 → Q2 i H7 → False) ∧
  ∀ (S : Addr) (ts : List Addr) (H' : Hp), Same H H' → H' S = none → Prs Yp1 Yp2 ts H' → Q1 ts.length H' → R (.ref S) (upd H' S (.lst (ts.map V.ref)))
theorem apart3 (n S : Nat) (h : S = n + 3) : (n + 2 ≠ n ∧ n + 2 ≠ n + 1 ∧ n ≠ n + 1) ∧ S ≠ n + 2 ∧ S ≠ n ∧ S ≠ n + 1 := by omega
section
variable {X : Cx} {k N i : Nat} {f : Addr} {fd : FuncData} {sp : SpY} {x y : Str} {ps : List Str} {px py px2 py2 pc pc2 pz pl pos pos2 : Pos}
/-- f(x): a generator is made -/
theorem made {pins : List (Addr × Obj)} {σ : L2.St} {H : Hp} {s : Shared} {v : V} {Yp : YpT} {Q : Nat → Hp → Prop} {Qv : Value → Shared → Prop} (FK : GFnK X.prog X.w X.K X.mg X.base k f fd ps N sp) (hr : Room k X.A) (gl : Gl X x) (hm : X.mg x = some (.ref f)) (hk : PySem.W.keepIn X.K (.ref f) = true) (hb : Binds X.K fd ps [])
    (hy : X.N[i]? = some y) (hv : Vis X.env.scope y) (hd : (y == ("__debug__" : Str)) = false) (hcd : (y == ("__classdict__" : Str)) = false) (hdb : (x == ("__debug__" : Str)) = false) (he : starEach [.Name y py] X.env = (false, eval (.Name y py) X.env) :: starEach [] X.env)
    (I : Inv X pins σ H s) (e : σ[i]? = some (some v)) (h : sp [v] H Yp Q) (q : ∀ a c s2, FreshK X.prog X.w X.base k X.stack H s N Yp Q a c s2 → Qv (.ref a) s2) : wpAny (MX X) X.A (eval (.Call (.Name x px) [.Name y py] [] pc) X.env) Qv X.xe s := by
  refine wpAny_Call_Name_kw (ld_glob I gl hm ?_ hdb)
  refine PySem.W.callWith_K (h₀ := X.base) I.ok.mod.kin hk ?_ he rfl
  rw [he]
  show wpAny _ _ (spliced ((false, eval (.Name y py) X.env) :: backTo pc (starEach [] X.env))) _ _ s
  refine Calls.spliced_cons (name_at I hy e hv hd hcd fun u ru => Calls.spliced_nil ⟨I.kIn, ?_⟩)
  have r2 : Vals [v] [u] := .cons ru .nil
  have hl : ([u] ++ ([] : List Value)).length = ps.length := by rw [List.append_nil, ← r2.length]; exact FK.len _ _ _ _ h
  have bd := hb s [u] I.kIn hl
  rw [List.append_nil] at bd
  refine wpAny_call (codeAny_mono (FK.run X.A X.stack s H ⟨[u], []⟩ [u] [v] Yp Q hr I.env0 bd r2 h) fun r s2 hq => ?_)
  cases r with
  | error e => exact hq.elim
  | ok fl =>
    cases fl with
    | ret u2 => obtain ⟨a, c, rfl, fr⟩ := hq; exact q a c s2 fr
    | _ => exact hq.elim
theorem pe_listZY (FK : GFnK X.prog X.w X.K X.mg X.base k f fd ps N sp) (hr : Room (k + 6) X.A) (hc : X.calm = true) (gl : Gl X x) (hm : X.mg x = some (.ref f)) (hk : PySem.W.keepIn X.K (.ref f) = true) (hb : Binds X.K fd ps []) (hgl : Gl X "list") (hml : X.mg "list" = none) (hgz : Gl X "zip") (hmz : X.mg "zip" = none)
    (hy : X.N[i]? = some y) (hv : Vis X.env.scope y) (hd : (y == ("__debug__" : Str)) = false := by decide) (hcd : (y == ("__classdict__" : Str)) = false := by decide) (hdb : (x == ("__debug__" : Str)) = false := by decide)
    (he1 : starEach [.Name y py] X.env = (false, eval (.Name y py) X.env) :: starEach [] X.env := by rfl) (he2 : starEach [.Name y py2] X.env = (false, eval (.Name y py2) X.env) :: starEach [] X.env := by rfl)
    (hs : starEach [Expr.Call (.Name x px) [.Name y py] [] pc, .Call (.Name x px2) [.Name y py2] [] pc2] X.env = (false, eval (.Call (.Name x px) [.Name y py] [] pc) X.env) :: starEach [.Call (.Name x px2) [.Name y py2] [] pc2] X.env := by rfl)
    (hs2 : starEach [Expr.Call (.Name x px2) [.Name y py2] [] pc2] X.env = (false, eval (.Call (.Name x px2) [.Name y py2] [] pc2) X.env) :: starEach [] X.env := by rfl)
    (hl : starEach [Expr.Call (.Name "zip" pz) [.Call (.Name x px) [.Name y py] [] pc, .Call (.Name x px2) [.Name y py2] [] pc2] [] pos] X.env = (false, eval (.Call (.Name "zip" pz) [.Call (.Name x px) [.Name y py] [] pc, .Call (.Name x px2) [.Name y py2] [] pc2] [] pos) X.env) :: starEach [] X.env := by rfl) :
    PE X (.Call (.Name "list" pl) [.Call (.Name "zip" pz) [.Call (.Name x px) [.Name y py] [] pc, .Call (.Name x px2) [.Name y py2] [] pc2] [] pos] [] pos2) (tLZY i N sp) := by
  refine ⟨fun pins s σ H R I h => ?_⟩
  obtain ⟨v, e, Yp1, Q1, Yp2, Q2, sp1, sp2, hN, hno, q⟩ := h
  have hrk : Room k X.A := hr.mono (by omega)
  refine wpAny_Call_Name_kw (ld_blt I hgl hml boot_list ?_)
  refine PyProof.Rows.callWith_type1 ?_ hl rfl
  rw [hl]
  show wpAny _ _ (spliced ((false, eval (.Call (.Name "zip" pz) [.Call (.Name x px) [.Name y py] [] pc, .Call (.Name x px2) [.Name y py2] [] pc2] [] pos) X.env) :: backTo pos2 (starEach [] X.env))) _ _ s
  refine Calls.spliced_cons ?_
  refine Call_ (ld_blt I hgz hmz PyProof.Rows.boot_zip (PyProof.Rows.callWith_type1 ?_ hs (by rw [hs2]; rfl)))
  rw [hs]
  show wpAny _ _ (spliced ((false, eval (.Call (.Name x px) [.Name y py] [] pc) X.env) :: backTo pos (starEach [.Call (.Name x px2) [.Name y py2] [] pc2] X.env))) _ _ s
  refine Calls.spliced_cons (made FK hrk gl hm hk hb hy hv hd hcd hdb he1 I e sp1 fun a1 c1 s1 fr1 => ?_)
  -- the second one
  have I1 : Inv X pins σ H s1 := I.call' (ch := []) fr1.os (Un.kept fr1.keep) (I.hok.kept fr1.keep) (by rw [fr1.gens]; exact AllBare.push I.bare rfl) fun b z => by simp at z
  rw [hs2]
  show wpAny _ _ (spliced ((false, eval (.Call (.Name x px2) [.Name y py2] [] pc2) X.env) :: backTo pos (starEach [] X.env))) _ _ s1
  refine Calls.spliced_cons (made FK hrk gl hm hk hb hy hv hd hcd hdb he2 I1 e sp2 fun a2 c2 s2 fr2 => Calls.spliced_nil ?_)
  have kp2 : ∀ b o, s.heap.get? b = some o → s2.heap.get? b = some o := fun b o e => fr2.keep b o (fr1.keep b o e)
  have bare2 : AllBare s2.gens := by rw [fr2.gens]; exact AllBare.push I1.bare rfl
  have d2 : DI X H s H s2 := ⟨fr2.os.trans fr1.os, bare2, Un.kept kp2, I.hok.kept kp2, Same.refl _⟩
  have gs1 : s1.gens.size = s.gens.size + 1 := by rw [fr1.gens, Array.size_push]
  have hg : s.gens.size ≠ s1.gens.size := by omega
  have gA : s2.gens[s.gens.size]? = some (.fresh c1) := by
    rw [fr2.gens, Array.getElem?_push_lt (by omega), ← Array.getElem?_eq_getElem, fr1.gens]
    exact Array.getElem?_push_size ..
  have gB : s2.gens[s1.gens.size]? = some (.fresh c2) := by
    rw [fr2.gens]
    exact Array.getElem?_push_size ..
  have in4 : ∀ A : Around, A.in1.in1.in1.in1 = A.in1.in1.in1.in1 := fun _ => rfl
  have slA : Sl1 X X.A.in1.in1.in1.in1 s.heap.objs.size N a1 s.gens.size Yp1 Q1 N 0 [s.heap.objs.size, a1] (.fresh c1) H s2 := by
    have z : Sl1 X X.A.in1.in1.in1.in1 s.heap.objs.size N a1 s.gens.size Yp1 Q1 N 0 [s.heap.objs.size, a1] (.fresh c1) H s1 := ⟨rfl, fr1.own, fr1.gen, by rw [fr1.gens]; exact Array.getElem?_push_size .., fun H2 s3 fo y => ⟨rfl, fr1.run _ H2 s3 fo ((((hr.mono (show k + 1 + 1 + 1 + 1 ≤ k + 6 by omega)).in1).in1.in1).in1) I.ok.frames y⟩⟩
    exact z.keep (Same.refl _) fr2.os (fun b hb o e => ⟨fr2.keep b o e, (fr1.own.2 b hb).2.1⟩) gA
  have slB : Sl1 X X.A.in1.in1.in1.in1 s1.heap.objs.size N a2 s1.gens.size Yp2 Q2 N 0 [s1.heap.objs.size, a2] (.fresh c2) H s2 :=
    ⟨rfl, fr2.own, fr2.gen, gB, fun H2 s3 fo y => ⟨rfl, fr2.run _ H2 s3 fo ((((hr.mono (show k + 1 + 1 + 1 + 1 ≤ k + 6 by omega)).in1).in1.in1).in1) I.ok.frames y⟩⟩
  have sz1 : s.heap.objs.size ≤ s1.heap.objs.size := Nat.le_of_lt (Nat.lt_trans fr1.lo fr1.hi)
  have sz2 : s1.heap.objs.size < s2.heap.objs.size := Nat.lt_trans fr2.lo fr2.hi
  obtain ⟨n, en⟩ : ∃ n, n = s2.heap.objs.size := ⟨_, rfl⟩
  refine call_zipG slA.gen slB.gen fun h3 za3 zz3 sz3 k3 => ?_
  refine Calls.spliced_nil ?_
  rw [← en] at za3 zz3 sz3 ⊢
  obtain ⟨zx, zy, hz3⟩ := zz3
  obtain ⟨S, eS⟩ : ∃ S, S = h3.objs.size := ⟨_, rfl⟩
  have eSn : S = n + 3 := by rw [eS]; exact sz3
  have ltS : ∀ {c o}, h3.get? c = some o → c < S := fun {c o} q => by rw [eS]; exact Heap.lt_size q
  refine callType_codes (Q₁ := fun obj s₁ => obj = .ref h3.objs.size ∧ s₁ = { s2 with heap := h3.push { cls := .type "list", data := .seq #[] } }) F.called_list (F.typeCall_list_1 _) F.entry_list_init
    (code_list_new _ ⟨rfl, rfl⟩) fun obj s₁ h₁ => ?_
  obtain ⟨rfl, rfl⟩ := h₁
  have hS : (h3.push { cls := .type "list", data := .seq #[] }).get? S = some { cls := .type "list", data := .seq #[] } := by rw [eS]; exact Heap.get?_push_size _ rfl
  rw [← eS]
  refine ⟨⟨_, hS, rfl⟩, F.args_list_init_2 _ _, ?_⟩
  show wpAny _ X.A.in1.in1 (do let old ← Builtin.List.listItems (.ref S); Builtin.List.listUpdate (.ref S) (fun _ => #[]); letGo old.toList.reverse; Builtin.List.listExtendWith (.ref S) (.ref (n + 2)) .none) _ _ _
  refine wpAny_bind ?_
  unfold Builtin.List.listItems
  refine wpAny_bind (wpAny_seqItems hS rfl (wpAny_pure ?_))
  show wpAny _ X.A.in1.in1 (updateSeq S (fun _ => #[]) >>= fun _ => letGo (#[] : Array Value).toList.reverse >>= fun _ => Builtin.List.listExtendWith (.ref S) (.ref (n + 2)) .none) _ _ _
  refine wpAny_bind (wpAny_updateSeq hS rfl ?_)
  have hS2 := Heap.get?_update_self (Obj.mapSeq (fun _ => (#[] : Array Value))) hS rfl
  refine wpAny_bind (wpAny_letGo ?_)
  unfold Builtin.List.listExtendWith
  have up : ∀ (h : Heap) (f : Obj → Obj), (∀ b o, h3.get? b = some o → h.get? b = some o) → ∀ b o, h3.get? b = some o → (h.update S f).get? b = some o := fun h f q b o e =>
    (Heap.get?_update_other _ _ (Ne.symm (Nat.ne_of_lt (ltS e)))).trans (q b o e)
  have k1 : ∀ b o, h3.get? b = some o → (h3.push { cls := .type "list", data := .seq #[] }).get? b = some o := fun b o e => Heap.get?_push_of_some _ e
  have k2 := up _ (Obj.mapSeq (fun _ => (#[] : Array Value))) k1
  refine wpAny_bind (wpAny_typeOf (T := "zip") ⟨_, k2 _ _ hz3, rfl⟩ ?_)
  have h1' : Builtin.List.listSameRef (.ref S) (.ref (n + 2)) = false := by
    have : S ≠ n + 2 := by omega
    simp [Builtin.List.listSameRef, this]
  have h2' : (Value.type "zip" == Value.type "list") = false := by decide
  have h3' : (Value.type "zip" == Value.type "tuple") = false := by decide
  simp only [h1', h2', h3', Bool.or_false, Bool.false_eq_true, if_false]
  refine wpAny_bind (ZN.pyIter_self (s := { s2 with heap := _ }) (k2 _ _ hz3) ?_)
  refine wpAny_bind (wpAny_holding ?_)
  unfold Builtin.List.listLengthHint
  refine wpAny_bind (wpAny_specialOf (T := "zip") ⟨_, k2 _ _ hz3, rfl⟩ ZN.zip_no_len ?_)
  show wpAny _ X.A.in1.in1 (specialOf (Value.ref (n + 2)) (Str.ofString "__length_hint__") >>= _) _ _ _
  refine wpAny_bind (wpAny_specialOf (T := "zip") ⟨_, k2 _ _ hz3, rfl⟩ ZN.zip_no_hint ?_)
  refine wpAny_pure ?_
  show wpAny _ X.A.in1.in1 (rule "list.extend.makes-room" >>= fun _ => Builtin.List.listTouch (.ref S) >>= fun _ =>
    again (.builtin "list.extend.loop" ⟨[.ref S, .ref (n + 2), .none], []⟩)) _ _ _
  refine wpAny_bind (wpAny_rule ?_)
  refine wpAny_bind ?_
  show wpAny _ X.A.in1.in1 (updateSeq S (·.push .none) >>= fun _ => updateSeq S (·.pop)) _ _ _
  refine wpAny_bind (wpAny_updateSeq hS2 rfl ?_)
  have hS3 := Heap.get?_update_self (Obj.mapSeq (·.push Value.none)) hS2 rfl
  refine wpAny_updateSeq (hz := by seq_fits) hS3 rfl ?_
  have hS4 := Heap.get?_update_self (Obj.mapSeq (·.pop)) hS3 rfl
  have k4 := up _ (Obj.mapSeq (·.pop)) (up _ (Obj.mapSeq (·.push Value.none)) k2)
  refine wpAny_pure ⟨plainId_quiet F.plain_extend_loop _, ?_⟩
  have kk : ∀ b o, s2.heap.get? b = some o → _ := fun b o q => k4 b o (k3 b o q)
  have low2 : ∀ b o, s2.heap.get? b = some o → b < n := fun b o q => by rw [en]; exact Heap.lt_size q
  have nH : ∀ c, n ≤ c → H c = none := fun c hc => d2.hok.fresh (by rw [← en]; exact hc)
  have d4 := d2.turn (ch := []) (fun c hc => by simp at hc) (fun b o _ q => kk b o q) bare2
  have oA : ∀ b ∈ [s.heap.objs.size, a1], b < n := fun b hb => by
    obtain ⟨_, _, o, p3, _⟩ := slA.own.2 b hb
    exact low2 b o p3
  have oB : ∀ b ∈ [s1.heap.objs.size, a2], b < n := fun b hb => by
    obtain ⟨_, _, o, p3, _⟩ := slB.own.2 b hb
    exact low2 b o p3
  have hz4 : ∀ c ∈ [n + 2, n, n + 1, S], n ≤ c := fun c hc => by
    have hc : c = n + 2 ∨ c = n ∨ c = n + 1 ∨ c = S := by simpa using hc
    omega
  have nsz : s.heap.objs.size ≤ n := by omega
  refine drain2 (A := X.A.in1) (z := n + 2) (TI := n) (TO := n + 1) (S := S) (R := wants (fun r s₂ => r = Value.none ∧ EP X pins σ R (Value.ref S) s₂) X.xe) I (I.ok.hd hc) (by have := hr.dp; show X.A.depth < recursionLimit; omega) (Nat.le_refl _) sz1 hg ⟨(apart3 n S eSn).1.1, (apart3 n S eSn).1.2.1, (apart3 n S eSn).1.2.2⟩ (apart3 n S eSn).2 (Nat.lt_of_lt_of_le hN (by decide)) hno
    (fun H' s' acc cc ts dd lS nS rv tl pr q1 => ⟨rfl, V.ref S, upd H' S (.lst (ts.map V.ref)), ?_, rfl, q S ts H' ?_ nS pr q1⟩) N 0 H _
    ⟨d4, ⟨[s.heap.objs.size, a1], .fresh c1, slA.keep (Same.refl _) rfl (fun b hb o q => ⟨kk b o q, (slA.own.2 b hb).2.1⟩) gA, fun c hc hm => absurd (oA c hm) (Nat.not_lt.mpr (hz4 c hc)), [s1.heap.objs.size, a2], .fresh c2, slB.keep (Same.refl _) rfl (fun b hb o q => ⟨kk b o q, (slB.own.2 b hb).2.1⟩) gB, fun c hc hm => absurd (oB c hm) (Nat.not_lt.mpr (hz4 c hc)), ?_⟩, ?_, fun c hc => ⟨nH c (hz4 c hc), Nat.le_trans nsz (hz4 c hc)⟩, ⟨#[], _, [], hS4, .nil, rfl, fun j t ht => by cases ht⟩⟩
  · exact I.drained (ex := []) (Nat.le_trans nsz (hz4 S (by simp))) (by rw [List.length_map]; exact Nat.le_of_lt (Nat.lt_of_le_of_lt tl (Nat.lt_of_lt_of_le hN (by decide)))) lS rv ExOk.nil dd.os dd.bare dd.un dd.hok nS
  · exact dd.same
  · intro b hb hb2
    have h1 : b < s1.heap.objs.size := by
      obtain ⟨_, _, o, p3, _⟩ := fr1.own.2 b hb
      exact Heap.lt_size p3
    have h2 : s1.heap.objs.size ≤ b := (slB.own.2 b hb2).1
    exact absurd h1 (Nat.not_lt.mpr h2)
  · obtain ⟨⟨p, r, u1, u2⟩, u3, u4, u5, u6⟩ := za3
    exact ⟨⟨p, r, k4 _ _ u1, u2⟩, k4 _ _ u3, u4, u5, k4 _ _ u6⟩
end
end KH
namespace CC
open PySem L2 TL
theorem Ran.T {H H' : Hp} {s : Addr} (r : Ran H H' s) (h : Src H s) : SameT H H' := by
  obtain ⟨o, h1, a, b, c, rfl, _⟩ := h
  constructor
  · intro x xs e
    exact r.at_ e (ne_of e h1 (by intro z; cases z))
  · intro x o xs e
    exact r.at_ e (ne_of e h1 (by intro z; cases z))
theorem cut_from (xs : List V) (n : Nat) : cutV xs (some (n : Int)) none = xs.drop n := by
  unfold cutV
  rw [HT.sIx_nat, HT.sIx_none]
  by_cases h : n ≤ xs.length
  · rw [Nat.min_eq_left h]
    exact List.take_of_length_le (by rw [List.length_drop]; exact Nat.le_refl _)
  · rw [Nat.min_eq_right (by omega), List.drop_eq_nil_of_le (Nat.le_refl _), List.drop_eq_nil_of_le (by omega)]
    simp
theorem cut_to (xs : List V) (n : Nat) : cutV xs none (some (n : Int)) = xs.take n := by
  unfold cutV
  rw [HT.sIx_nat, HT.sIx_none, List.drop_zero, Nat.sub_zero]
  by_cases h : n ≤ xs.length
  · rw [Nat.min_eq_left h]
  · rw [Nat.min_eq_right (by omega), List.take_of_length_le (Nat.le_refl _), List.take_of_length_le (by omega)]
theorem rot_nodup {α : Type} {l : List α} (h : l.Nodup) (n : Nat) : (l.drop n ++ l.take n).Nodup := by
  have p : (l.drop n ++ l.take n).Perm l := by
    have := (List.perm_append_comm : (l.drop n ++ l.take n).Perm (l.take n ++ l.drop n))
    rw [List.take_append_drop] at this
    exact this
  exact p.nodup_iff.mpr h
theorem rot_mem {α : Type} {l : List α} {n : Nat} {x : α} (h : x ∈ l.drop n ++ l.take n) : x ∈ l := by
  rcases List.mem_append.mp h with z | z
  · exact List.mem_of_mem_drop z
  · exact List.mem_of_mem_take z
theorem MadeF.woT {α : Type} {f : α → PyData} {K : PySem.W.Frag} {H0 H : Hp} {D : Addr} {n : Nat} {rs : List α} (p : MadeF f K H0 D n H rs) : SameT H (wo H D) := by
  obtain ⟨us, _, h, _⟩ := p
  exact wo_T h
end CC
namespace CC
open PySem L2 TL
def Given (K : PySem.W.Frag) (H : Hp) (g : Addr) (w : Nat) (rs : List R) : Prop := ∃ us, SqL K H g us ∧ DpAll K H us (rs.map R.d) ∧ (∀ r ∈ rs, r.ok w) ∧ rs.Nodup ∧ 1 ≤ w ∧ w ≤ 6
def spList (K : PySem.W.Frag) (C : Addr) : Sp := fun vs H Q _ => ∃ (w : Nat) (g : Addr) (rs : List R), vs = [.int (w : Int), .ref g] ∧ Given K H g w rs ∧ ∀ (x : Addr) (H' : Hp), Same H H' → H x = none → RulesAt K C H' x w rs → Q (.ref x) H'
def lineP (r : R) : Str := num r.a ++ " " ++ kd r.k ++ " " ++ num r.b ++ "\n"
theorem lineP_eq (r : R) : lineP r = lineS r ++ "\n" := by
  refine ext_tl ?_
  unfold lineP lineS
  simp only [tl_app]
  rw [show tl Str.empty = [] by rfl, List.nil_append]
theorem lens2_all : ((allR 6).all fun r => decide ((num r.a).length ≤ 20) && decide ((num r.a ++ " ").length ≤ 20) && decide ((num r.a ++ " " ++ kd r.k).length ≤ 20) && decide ((num r.a ++ " " ++ kd r.k ++ " ").length ≤ 20) && decide ((num r.a ++ " " ++ kd r.k ++ " " ++ num r.b).length ≤ 20) && decide ((num r.b).length ≤ 20) && decide ((kd r.k).length ≤ 20)) = true := by decide +kernel
end CC
namespace CC
open PySem L2
/-- the list that is handed back is new, no lock on it -/
def NewGiven (K : PySem.W.Frag) (H : Hp) (s : Addr) (w : Nat) (Q : VK) : Prop := ∀ (p : Addr) (us : List V) (rs : List R) (H' : Hp), Ran H H' s → p ≠ s → H' p = some (.lst us) → DpAll K H' us (rs.map R.d) → (∀ r ∈ rs, r.ok w) → rs.Nodup → Q (.ref p) H'
theorem fn_imp {P : Program} {w : World} {K : PySem.W.Frag} {mg : Str → Option Value} {base : Heap} {CX : CXT} {k : Nat} {f : Addr} {fd : FuncData} {ps : List Str} {sp sp' : Sp} (F : FnOk P w K mg base CX k f fd ps sp) (h : ∀ vs H Q E, sp' vs H Q E → sp vs H Q E) : FnOk P w K mg base CX k f fd ps sp' :=
  ⟨fun vs H Q E z => F.len vs H Q E (h _ _ _ _ z), fun A outer s H args us vs Q E hr e0 b r z => F.run A outer s H args us vs Q E hr e0 b r (h _ _ _ _ z)⟩
end CC
namespace CC
open PySem L2 TL
abbrev sList : Stmt := tp 38
abbrev sRules : Stmt := tp 37
section
variable {P : Program} {w : World} {K : PySem.W.Frag} {mg : Str → Option Value} {base : Heap}
abbrev nLi : List Str := ["_law_width", "_law_rules_here", "_law_kind", "_law_a", "_law_b"]
theorem scList : FnScope nLi ["_law_width", "_law_rules_here"] (defScope sList) := ⟨rfl, rfl, rfl, by decide +kernel, rfl, by decide +kernel, by decide +kernel⟩
theorem ok_list {k : Nat} {kA C f : Addr} {fd : FuncData} (F : Fun K "_law_list" "_law_list" sList f fd) (T : Glb K mg kA) (TC : Txt1 K mg C) (rd : ReadR P w K mg base C 6) : FnOk P w K mg base CX0 (k + 7) f fd ["_law_width", "_law_rules_here"] (spList K C) := by
  have GR := rd.ok (k + 6) (by omega)
  refine F.ok scList (fun vs H Q E h => ?_) (fun cdv A outer s H vs Q E hr h => ?_)
  · obtain ⟨w, g, rs, rfl, _⟩ := h
    rfl
  · obtain ⟨w, g, rs, rfl, ⟨us, hg, dp, ho, nd, w1, w6⟩, q⟩ := h
    have n := scList.nd
    refine ⟨_, pss_one (ps_ret (ClX.pe_cmeth (pe_glob (v := .ref C) rfl TC.mgC rfl) rd.rD rd.cD GR hr pass0 (pa_cons (pv 0) (pa_cons (pe_join pe_str
        (pe_lc (own := [("_law_kind", 2), ("_law_a", 3), ("_law_b", 4)]) (g := g3 K 2 3 4) (tt := tYes) rfl n (pi_list (pv 1)) (blkOk_by (N := nLi) (sc := defScope sList) (by decide +kernel))
          (fun _ _ _ _ _ => pg_tup rfl (pgs_cons (pg_name (i := 2) n rfl (.inl rfl)) (pgs_cons (pg_name (i := 3) n rfl (.inl rfl)) (pgs_cons (pg_name (i := 4) n rfl (.inl rfl)) pgs_nil)))) (fun _ _ _ _ _ => pts_nil)
          (fun _ _ _ _ _ => pe_op op_add_str (pe_op op_add_str (pe_op op_add_str (pe_op op_add_str (pe_op op_add_str (pe_callTy call_str_int (by rfl) T.str (by decide +kernel) (pa_cons (pv 3) pa_nil)) pe_str) (pv 2)) pe_str) (pe_callTy call_str_int (by rfl) T.str (by decide +kernel) (pa_cons (pv 4) pa_nil))) pe_str))) pa_nil)))), ?_⟩
    have ul : us.length = rs.length := by rw [dps_len dp, List.length_map]
    have ho6 : ∀ r ∈ rs, r.ok 6 := fun r h => (ho r h).up w6
    have rl := few_rules w6 ho nd
    refine ⟨rfl, _, rfl, ⟨_, rfl⟩, _, rfl, g, rfl, ⟨_, hg⟩, fun D nD => ?_⟩
    refine lc_list (xs := us) (fun i H1 => Same H (wo H1 D) ∧ H1 D = some (.lst (((rs.take i).map fun r => lineS r ++ "\n").map V.str))) ⟨?_, upd_same⟩ (fun i H1 _ z => same_l (z.1.trans (wo_le D)) hg) ?_ ?_
    · rw [wo_upd]
      exact fun b o e => by rw [wo_ne (ne_of_none e nD)]; exact e
    · rintro i v H1 hv ⟨e1, e2⟩
      obtain ⟨r, hr2, dr⟩ := dps_rat dp hv
      have il : i < rs.length := (List.getElem?_eq_some_iff.mp hr2).1
      obtain ⟨t, rfl, ht⟩ := dp_r (dp_same (e1.trans (wo_le D)) _ _ dr)
      have ok := ho6 r (List.mem_of_getElem? hr2)
      have hl := List.all_eq_true.mp lens2_all r (mem_allR.mpr ok)
      simp only [Bool.and_eq_true, decide_eq_true_eq] at hl
      obtain ⟨⟨⟨⟨⟨⟨l1, l2⟩, l3⟩, l4⟩, l5⟩, l6⟩, l7⟩ := hl
      have big : ∀ {a b : Nat}, a ≤ 20 → b ≤ 20 → a + b ≤ sizeLine := fun h1 h2 => Nat.le_trans (Nat.add_le_add h1 h2) (by decide)
      have s1 : (" " : Str).length ≤ 20 := by decide +kernel
      have s2 : ("\n" : Str).length ≤ 20 := by decide +kernel
      refine ⟨t, _, rfl, ht, rfl, _, _, rfl, _, _, rfl, _, _, rfl, rfl, rfl, yes_if ?_⟩
      refine ⟨_, rfl, _, rfl, small6 ok.1, _, _, rfl, rfl, big l1 s1, _, rfl, _, _, rfl, rfl, big l2 l7, _, _, rfl, rfl, big l3 s1, _, rfl, _, rfl, small6 ok.2.1, _, _, rfl, rfl, big l4 l6, _, _, rfl, rfl, big l5 s2, ?_⟩
      refine ⟨_, e2, small1000 (by rw [List.length_map, List.length_map, List.length_take]; omega), ?_, ?_⟩
      · rw [wo_upd]
        exact e1
      · rw [upd_same, SG.take_one hr2, List.map_append, List.map_append]
        show some (HO.lst (_ ++ [V.str (lineP r)])) = some (HO.lst (_ ++ [V.str (lineS r ++ "\n")]))
        rw [lineP_eq]
    rintro H1 ⟨e1, e2⟩
    rw [ul, List.take_length] at e2
    have s1 : Same H H1 := e1.trans (wo_le D)
    refine ⟨_, D, rs.map (fun r => lineS r ++ "\n"), rfl, rfl, .inl (SqL.of e2), ?_, ?_⟩
    · have z : ∀ l : List Nat, (∀ x ∈ l, x ≤ 21) → l.sum ≤ 21 * l.length := by
        intro l
        induction l with
        | nil => intro _; simp
        | cons x l ih =>
          intro h
          have h1 := h x List.mem_cons_self
          have h2 := ih fun y hy => h y (List.mem_cons_of_mem _ hy)
          rw [List.sum_cons, List.length_cons]
          omega
      have z1 := z (((rs.map fun r => lineS r ++ "\n")).map (·.length)) fun x hx => by
        obtain ⟨y, hy, rfl⟩ := List.mem_map.mp hx
        obtain ⟨r, hr2, rfl⟩ := List.mem_map.mp hy
        have := (line_of6 (ho6 r hr2)).1
        rw [len_tl] at this
        rw [len_tl, tl_app, List.length_append]
        have e : (tl ("\n" : Str)).length = 1 := by decide +kernel
        omega
      have e0 : (Str.ofString "").length = 0 := by decide +kernel
      rw [List.length_map, List.length_map] at z1
      rw [e0, Nat.mul_zero]
      omega
    · refine ⟨w, rs, rfl, w1, w6, ho, nd, fun x H' s2 nx ra => q x H' (s1.trans s2) (s1.free nx) ra⟩
end
end CC
namespace CC
open PySem L2 TL
def spRulesN (K : PySem.W.Frag) : Sp := fun vs H Q _ => ∃ (s : Addr) (w : Nat), vs = [.ref s, .int (w : Int)] ∧ Src H s ∧ 1 ≤ w ∧ w ≤ 6 ∧ NewGiven K H s w Q
def spRules (K : PySem.W.Frag) : Sp := fun vs H Q _ => ∃ (s : Addr) (w : Nat), vs = [.ref s, .int (w : Int)] ∧ Src H s ∧ 1 ≤ w ∧ w ≤ 6 ∧ ∀ (p : Addr) (rs : List R) (H' : Hp), Ran H H' s → Given K H' p w rs → Q (.ref p) H'
/-- while rules are drawn: the source, the order of the columns, the list so far -/
structure RS (K : PySem.W.Frag) (H0 H : Hp) (s so od : Addr) (w n : Nat) (ns : List Nat) : Prop where
  ran : Ran H0 H s
  fso : H0 so = none
  nso : so ≠ s
  hod : H od = some (.lst (nms ns))
  nod : od ≠ s
  dif : od ≠ so
  lst : ∃ (us : List V) (rs : List R), H so = some (.lst us) ∧ DpAll K H us (rs.map R.d) ∧ (∀ r ∈ rs, r.ok w) ∧ us.length ≤ n
section
variable {K : PySem.W.Frag} {H0 H H' : Hp} {s so od : Addr} {w n : Nat} {ns : List Nat}
theorem RS.go (p : RS K H0 H s so od w n ns) (rn : Ran H H' s) : RS K H0 H' s so od w n ns := by
  obtain ⟨us, rs, h1, h2, h3, h4⟩ := p.lst
  exact ⟨p.ran.trans rn, p.fso, p.nso, rn.at_ p.hod p.nod, p.nod, p.dif, us, rs, rn.at_ h1 p.nso, rds_T (rn.T p.ran.src) h2, h3, h4⟩
theorem RS.up (p : RS K H0 H s so od w n ns) {m : Nat} (h : n ≤ m) : RS K H0 H s so od w m ns := by
  obtain ⟨us, rs, h1, h2, h3, h4⟩ := p.lst
  exact ⟨p.ran, p.fso, p.nso, p.hod, p.nod, p.dif, us, rs, h1, h2, h3, Nat.le_trans h4 h⟩
theorem Ran.mut {b : Addr} {o : HO} (r : Ran H0 H s) (h : H0 b = none) (n : b ≠ s) : Ran H0 (upd H b o) s := by
  obtain ⟨o', h1, h2⟩ := r.src
  refine ⟨fun x u e => ?_, o', by rw [upd_ne n.symm]; exact h1, h2⟩
  have nb : x ≠ b := ne_of_none (wo_le s _ _ e) h
  rw [wo_upd_ne _ n, upd_ne nb]
  exact r.same x u e
theorem RS.push (p : RS K H0 H s so od w n ns) (h9 : n < 900) {v : V} {r : R} (dv : Dp K H v r.d) (ok : r.ok w) : ∃ us, H so = some (.lst us) ∧ us.length < sizeLine ∧ RS K H0 (upd H so (.lst (us ++ [v]))) s so od w (n + 1) ns := by
  obtain ⟨us, rs, h1, h2, h3, h4⟩ := p.lst
  refine ⟨us, h1, small1000 (by omega), p.ran.mut p.fso p.nso, p.fso, p.nso, by rw [upd_ne p.dif]; exact p.hod, p.nod, p.dif, us ++ [v], rs ++ [r], upd_same, ?_, fun x hx => ?_, by rw [List.length_append]; exact Nat.succ_le_succ h4⟩
  · rw [List.map_append]
    exact dps_app (rds_T (upd_T h1) h2) (dps_one (rd_T (upd_T h1) dv))
  · rcases List.mem_append.mp hx with z | z
    · exact h3 x z
    · rw [List.mem_singleton.mp z]
      exact ok
end
theorem step_ok {w a b : Nat} {r : R} (h : r = ⟨true, a, b⟩ ∨ r = ⟨false, b, a⟩) (ha : a < w) (hb : b < w) (ne : a ≠ b) : r.ok w := by
  rcases h with rfl | rfl
  · exact ⟨ha, hb, ne⟩
  · exact ⟨hb, ha, ne.symm⟩
theorem RS.fresh {K : PySem.W.Frag} {H0 H : Hp} {s so od D : Addr} {w n : Nat} {ns : List Nat} (p : RS K H0 H s so od w n ns) (h : H D = none) : RS K H0 (upd H D (.lst [])) s D od w 0 ns :=
  ⟨p.ran.grow (same_new h), p.ran.free h, p.ran.ne h, same_new h _ _ p.hod, p.nod, ne_of_none p.hod h, [], [], upd_same, .nil, (fun r hr => nomatch hr), Nat.le_refl _⟩
theorem RS.grow {K : PySem.W.Frag} {H0 H H' : Hp} {s so od : Addr} {w n : Nat} {ns : List Nat} (p : RS K H0 H s so od w n ns) (e : Same H H') : RS K H0 H' s so od w n ns := by
  obtain ⟨us, rs, h1, h2, h3, h4⟩ := p.lst
  exact ⟨p.ran.grow e, p.fso, p.nso, e _ _ p.hod, p.nod, p.dif, us, rs, e _ _ h1, dps_same e _ _ h2, h3, h4⟩
/-- behind a step: its rule is put behind the others -/
theorem RS.put {K : PySem.W.Frag} {H0 H H' : Hp} {s so od t : Addr} {w n a b : Nat} {ns : List Nat} {r : R} (p : RS K H0 H s so od w n ns) (h9 : n < 900) (rn : Ran H H' s) (hr : r = ⟨true, a, b⟩ ∨ r = ⟨false, b, a⟩) (dp : Dp K (wo H' s) (.ref t) r.d) (ha : a < w) (hb : b < w) (ne : a ≠ b) :
    ∃ us, H' so = some (.lst us) ∧ us.length < sizeLine ∧ RS K H0 (upd H' so (.lst (us ++ [.ref t]))) s so od w (n + 1) ns := (p.go rn).push h9 (dp_same (wo_le s) _ _ dp) (step_ok hr ha hb ne)
theorem nms_get {ns : List Nat} {i : Nat} (h : i < ns.length) : atI (nms ns) (i : Int) = some (.int ((ns[i] : Nat) : Int)) := by
  refine atI_nat ?_
  rw [nms, List.getElem?_map, List.getElem?_eq_getElem h]
  rfl
theorem nd_get {ns : List Nat} (nd : ns.Nodup) {i j : Nat} (hi : i < ns.length) (hj : j < ns.length) (h : i ≠ j) : ns[i] ≠ ns[j] := fun e => h ((List.getElem_inj nd).mp e)
section
variable {P : Program} {w : World} {K : PySem.W.Frag} {mg : Str → Option Value} {base : Heap}
abbrev nRu : List Str := ["_law_source_here", "_law_width", "_law_way", "_law_kinds", "_law_some", "_law_order", "_law_size", "_law_at", "_law_turn", "_law_a", "_law_b", "_law_by", "_law_one"]
theorem scRules : FnScope nRu ["_law_source_here", "_law_width"] (defScope sRules) := ⟨rfl, rfl, rfl, by decide +kernel, rfl, by decide +kernel, by decide +kernel⟩
theorem ok_rulesN {k : Nat} {kA f : Addr} {fd : FuncData} (F : Fun K "_law_rules" "_law_rules" sRules f fd) (T : Glb K mg kA) (cD : Cal P w K mg base "_law_draw" ["_law_source_here", "_law_many"] spDraw2 1) (cC : Cal P w K mg base "_law_choose" ["_law_source_here", "_law_values"] (spChoose K) 2) (cM : Cal P w K mg base "_law_mixed" ["_law_source_here", "_law_many"] (spMixed K) 3) (cS : Cal P w K mg base "_law_step" ["_law_source_here", "_law_a", "_law_b", "_law_kinds"] (spStep K) 3) : FnOk P w K mg base CX0 (k + 4) f fd ["_law_source_here", "_law_width"] (spRulesN K) := by
  have GD := cD.ok (k + 3) (by omega)
  have GC := cC.ok (k + 3) (by omega)
  have GM := cM.ok (k + 3) (by omega)
  have GS := cS.ok (k + 3) (by omega)
  refine F.ok scRules (fun vs H Q E h => ?_) (fun cdv A outer s H vs Q E hr h => ?_)
  · obtain ⟨s, w, rfl, _⟩ := h
    rfl
  · obtain ⟨sr, w, rfl, hs, w1, w6, q⟩ := h
    have n := scRules.nd
    have hu65 := Nat.lt_of_le_of_lt (Nat.le_trans (Nat.add_le_add_left (by decide : 65 ≤ 200) _) (Nat.add_le_add_right (Nat.le_add_right _ (16 * (k + 3))) 200)) hr.un
    refine ⟨_, pss_cons (ps_asg (pe_tup (pa_cons (pe_call GD hr rfl cD.g cD.kp cD.b .nil pass0 (pa_cons (pv 0) (pa_cons pe_int pa_nil)))
          (pa_cons (pe_call GC hr rfl cC.g cC.kp cC.b .nil pass0 (pa_cons (pv 0) (pa_cons (pe_lst (pa_cons pe_str (pa_cons pe_str (pa_cons pe_str (pa_cons pe_str (pa_cons pe_str pa_nil)))))) pa_nil))) (pa_cons (pe_lst pa_nil) pa_nil))))
        (pg_tup rfl (pgs_cons (pg_name (i := 2) n rfl (.inl rfl)) (pgs_cons (pg_name (i := 3) n rfl (.inr rfl)) (pgs_cons (pg_name (i := 4) n rfl (.inr rfl)) pgs_nil)))))
      (pss_cons (ps_set (i := 5) n rfl (.inr rfl) (pe_call GM hr rfl cM.g cM.kp cM.b .nil pass0 (pa_cons (pv 0) (pa_cons (pv 1) pa_nil))))
      (pss_cons (ps_set (i := 6) n rfl (.inl rfl) (pe_op op_add pe_int (pe_call GD hr rfl cD.g cD.kp cD.b .nil pass0 (pa_cons (pv 0) (pa_cons (pv 1) pa_nil)))))
      (C8.pss_cut (ps_if (pt_cmpR op_in_seq (pv 2) (pe_tup (pa_cons pe_int (pa_cons pe_int (pa_cons pe_int (pa_cons pe_int (pa_cons pe_int pa_nil)))))) (by rfl))
        (pss_one (ps_set (i := 4) n rfl (.inr rfl) (pe_lc (own := [("_law_at", 7)]) (g := gName 7) (tt := tYes) (te := tCall (spStep K) [] E0 (tCons (tVar 0) (tCons (tOp (rIxL K) (tVar 5) (tVar 7)) (tCons (tOp (rIxL K) (tVar 5) (tOp (rI0 fun i j => .int (i + j)) (tVar 7) (tC (.int 1)))) (tCons (tVar 3) tNil))))) rfl n (pi_range1 (by rfl) T.rng (pa_cons (pe_op op_sub (pv 6) pe_int) pa_nil)) (blkOk_by (N := nRu) (sc := defScope sRules) (by decide +kernel))
          (fun _ _ _ _ _ => pg_name (i := 7) n rfl (.inl rfl)) (fun _ _ _ _ _ => pts_nil)
          (fun _ _ _ _ _ => pe_call GS hr rfl cS.g cS.kp cS.b .nil pass0 (pa_cons (pv 0) (pa_cons (pe_ix ix_list (pv 5) (pv 7) (fun _ _ => rfl)) (pa_cons (pe_ix ix_list (pv 5) (pe_op op_add (pv 7) pe_int) (fun _ _ => rfl)) (pa_cons (pv 3) pa_nil)))))))) pss_nil)
      (C8.pss_cut (ps_if (PW.pt (pw_and (pt_cmpR op_in_seq (pv 2) (pe_tup (pa_cons pe_int (pa_cons pe_int (pa_cons pe_int pa_nil)))) (by rfl)) (pw_and1 (pt_cmpR op_gt (pv 6) pe_int (nomark _)))))
        (pss_one (ps_expr (pe_bm PySem.F.plainAttrs_list PySem.F.slot_list_append PySem.F.type_list_append mt_append (pv 4) (pa_cons (pe_call GS hr rfl cS.g cS.kp cS.b .nil pass0 (pa_cons (pv 0) (pa_cons (pe_ix ix_list (pv 5) (pe_op op_sub (pv 6) pe_int) (fun _ _ => rfl)) (pa_cons (pe_ix ix_list (pv 5) pe_int (fun _ _ => rfl)) (pa_cons (pv 3) pa_nil))))) pa_nil)))) pss_nil)
      (C8.pss_cut (ps_if (PW.pt (pw_and (pt_cmpR op_eq (pv 2) pe_int (nomark _)) (pw_and1 (pt_cmpR op_lt (pe_op op_add (pv 6) pe_int) (pv 1) (nomark _)))))
        (pss_cons (ps_expr (pe_bm PySem.F.plainAttrs_list PySem.F.slot_list_append PySem.F.type_list_append mt_append (pv 4) (pa_cons (pe_call GS hr rfl cS.g cS.kp cS.b .nil pass0 (pa_cons (pv 0) (pa_cons (pe_ix ix_list (pv 5) (pv 6) (fun _ _ => rfl)) (pa_cons (pe_ix ix_list (pv 5) (pe_op op_add (pv 6) pe_int) (fun _ _ => rfl)) (pa_cons pe_str pa_nil))))) pa_nil)))
        (pss_cons (ps_expr (pe_bm PySem.F.plainAttrs_list PySem.F.slot_list_append PySem.F.type_list_append mt_append (pv 4) (pa_cons (pe_call GS hr rfl cS.g cS.kp cS.b .nil pass0 (pa_cons (pv 0) (pa_cons (pe_ix ix_list (pv 5) (pe_op op_add (pv 6) pe_int) (fun _ _ => rfl)) (pa_cons (pe_ix ix_list (pv 5) (pv 6) (fun _ _ => rfl)) (pa_cons pe_str pa_nil))))) pa_nil)))
        (pss_one (ps_expr (pe_bm PySem.F.plainAttrs_list PySem.F.slot_list_append PySem.F.type_list_append mt_append (pv 4) (pa_cons (pe_call GS hr rfl cS.g cS.kp cS.b .nil pass0 (pa_cons (pv 0) (pa_cons (pe_ix ix_list (pv 5) pe_int (fun _ _ => rfl)) (pa_cons (pe_ix ix_list (pv 5) (pv 6) (fun _ _ => rfl)) (pa_cons pe_str pa_nil))))) pa_nil)))))) pss_nil)
      (pss_cons (ps_for PassesOwn.never rfl (pi_range1 (by rfl) T.rng (pa_cons (pe_ix ix_list (pe_lst (pa_cons pe_int (pa_cons pe_int (pa_cons pe_int (pa_cons pe_int (pa_cons pe_int (pa_cons pe_int (pa_cons pe_int (pa_cons pe_int pa_nil))))))))) (pv 2) (fun _ _ => rfl)) pa_nil)) (pg_name (i := 8) n rfl (.inl rfl))
        (pss_cons (ps_par (i := 9) (j := 10) rfl n rfl rfl (by decide) rfl rfl (pa_cons (pe_call GD hr rfl cD.g cD.kp cD.b .nil pass0 (pa_cons (pv 0) (pa_cons (pv 1) pa_nil))) (pa_cons (pe_call GD hr rfl cD.g cD.kp cD.b .nil pass0 (pa_cons (pv 0) (pa_cons (pv 1) pa_nil))) pa_nil)) (by rfl))
        (pss_one (ps_if (pt_cmpR op_ne (pv 9) (pv 10) (nomark _))
          (pss_one (ps_expr (pe_bm PySem.F.plainAttrs_list PySem.F.slot_list_append PySem.F.type_list_append mt_append (pv 4) (pa_cons (pe_call GS hr rfl cS.g cS.kp cS.b .nil pass0 (pa_cons (pv 0) (pa_cons (pv 9) (pa_cons (pv 10) (pa_cons (pe_ifExp (pt_cmpR op_lt (pv 2) pe_int (nomark _)) pe_str (pv 3)) pa_nil))))) pa_nil)))) pss_nil))))
      (pss_cons (ps_set (i := 11) n rfl (.inl rfl) (pe_call GD hr rfl cD.g cD.kp cD.b .nil pass0 (pa_cons (pv 0) (pa_cons (pe_op op_add (pe_callB call_len_seq (by rfl) T.len PySem.boot_len (pa_cons (pv 4) pa_nil)) pe_int) pa_nil))))
      (pss_cons (ps_set (i := 4) n rfl (.inr rfl) (pe_op op_cat (pe_slice sl_list (pv 4) (po_some (pv 11)) po_none) (pe_slice sl_list (pv 4) po_none (po_some (pv 11)))))
      (pss_one (ps_ret (pe_lc (own := [("_law_at", 7), ("_law_one", 12)]) (g := g2 K 7 12) (tt := tTest (tOp (rNotInD K) (tVar 12) (tSl (rSlL K) (tVar 4) tNoPart (tPart (tVar 7))))) rfl n (pi_enum (by rfl) T.enu (pa_cons (pv 4) pa_nil)) (blkOk_by (N := nRu) (sc := defScope sRules) (by decide +kernel))
          (fun _ _ _ _ _ => pg_tup rfl (pgs_cons (pg_name (i := 7) n rfl (.inl rfl)) (pgs_cons (pg_name (i := 12) n rfl (.inl rfl)) pgs_nil)))
          (fun _ _ _ _ _ => pts_one (pt_cmpR (op_notInD hu65) (pv 12) (pe_slice sl_list (pv 4) po_none (po_some (pv 7))) (by rfl))) (fun _ _ _ _ _ => pv 12)))))))))))), ?_⟩
    -- way, kinds, some
    refine ⟨_, rfl, sr, 8, rfl, hs, by decide, by decide, fun way H1 hway rn1 => ?_⟩
    refine ⟨_, rfl, (by show 5 ≤ sizeLine; decide), fun l nl => ?_⟩
    have ls : l ≠ sr := rn1.ne nl
    have rn2 : Ran H (upd H1 l (.lst [.str "s", .str "w", .str "sw", .str "sw", .str "sw"])) sr := rn1.grow (same_new nl)
    have h2l : SqL K (wo (upd H1 l (.lst [.str "s", .str "w", .str "sw", .str "sw", .str "sw"])) sr) l [.str "s", .str "w", .str "sw", .str "sw", .str "sw"] := .inl (.inl (by rw [wo_ne ls]; exact upd_same))
    generalize upd H1 l (.lst [.str "s", .str "w", .str "sw", .str "sw", .str "sw"]) = H2 at rn2 h2l
    refine ⟨sr, _, rfl, rn2.src, .inl ⟨l, _, rfl, h2l, by decide, by decide, fun i0 x H3 hx rn3 => ?_⟩⟩
    obtain ⟨kz, rfl, kz0, kz1⟩ : ∃ z : Str, x = .str z ∧ 0 < z.length ∧ z.length < 1000 := by
      match i0, hx with
      | 0, hx => simp at hx; exact ⟨_, hx.symm, by decide +kernel, by decide +kernel⟩
      | 1, hx => simp at hx; exact ⟨_, hx.symm, by decide +kernel, by decide +kernel⟩
      | 2, hx => simp at hx; exact ⟨_, hx.symm, by decide +kernel, by decide +kernel⟩
      | 3, hx => simp at hx; exact ⟨_, hx.symm, by decide +kernel, by decide +kernel⟩
      | 4, hx => simp at hx; exact ⟨_, hx.symm, by decide +kernel, by decide +kernel⟩
      | n + 5, hx => simp at hx
    have rnH3 : Ran H H3 sr := rn2.trans rn3
    refine ⟨Nat.zero_le _, fun so nso => ?_⟩
    refine ⟨(by show 3 ≤ sizeLine; decide), fun t nt => ?_⟩
    have tso : so ≠ t := fun e => by rw [← e, upd_same] at nt; cases nt
    have m5 : Same H3 (upd (upd H3 so (.lst [])) t (.tup [.int (way : Int), .str kz, .ref so])) := (same_new nso).trans (same_new nt)
    have h5s : (upd (upd H3 so (.lst [])) t (.tup [.int (way : Int), .str kz, .ref so])) so = some (.lst []) := by rw [upd_ne tso]; exact upd_same
    have h5t : (upd (upd H3 so (.lst [])) t (.tup [.int (way : Int), .str kz, .ref so])) t = some (.tup [.int (way : Int), .str kz, .ref so]) := upd_same
    generalize upd (upd H3 so (.lst [])) t (.tup [.int (way : Int), .str kz, .ref so]) = H5 at m5 h5s h5t
    refine ⟨t, _, rfl, .inl (.inl h5t), rfl, _, _, rfl, _, _, rfl, _, _, rfl, rfl, ?_⟩
    have rnH5 : Ran H H5 sr := rnH3.grow m5
    -- order
    refine ⟨_, rfl, _, rfl, sr, w, rfl, rnH5.src, (by omega), fun od ns H6 rn6 fod nod hod nl1 nl2 nl3 => ?_⟩
    -- size
    refine ⟨_, rfl, _, rfl, sr, w, rfl, rn6.src, by omega, by omega, fun d H7 hd rn7 => ⟨_, _, rfl, rfl, ?_⟩⟩
    have sos : so ≠ sr := rnH3.ne nso
    have p7 : RS K H H7 sr so od w 0 ns := ⟨rnH5.trans (rn6.trans rn7), rnH3.free nso, sos, rn7.at_ hod nod, nod, (ne_of_none h5s fod).symm, [], [], rn7.at_ (rn6.at_ h5s sos) sos, .nil, (fun r hr => nomatch hr), Nat.le_refl _⟩
    clear m5 h5s h5t rn6 hod
    have fin1 : ∀ (i : Nat), i < w → atI (nms ns) (i : Int) = some (.int ((ns.getD i 0 : Nat) : Int)) ∧ ns.getD i 0 < w := fun i hi => by
      have hl : i < ns.length := by omega
      have e : ns.getD i 0 = ns[i] := by simp [List.getD, List.getElem?_eq_getElem hl]
      rw [e]
      exact ⟨nms_get hl, nl3 _ (List.getElem_mem hl)⟩
    have dif1 : ∀ (i j : Nat), i < w → j < w → i ≠ j → ns.getD i 0 ≠ ns.getD j 0 := fun i j hi hj h => by
      have h1 : i < ns.length := by omega
      have h2 : j < ns.length := by omega
      have e1 : ns.getD i 0 = ns[i] := by simp [List.getD, List.getElem?_eq_getElem h1]
      have e2 : ns.getD j 0 = ns[j] := by simp [List.getD, List.getElem?_eq_getElem h2]
      rw [e1, e2]
      exact nd_get nl2 h1 h2 h
    let Mid : Nat → L2.St → Hp → Prop := fun m σ H' => ∃ (so : Addr) (y7 y8 y9 y10 y11 y12 : Option V), σ = [some (.ref sr), some (.int (w : Int)), some (.int (way : Int)), some (.str kz), some (.ref so), some (.ref od), some (.int (1 + (d : Int))), y7, y8, y9, y10, y11, y12] ∧ RS K H H' sr so od w m ns
    -- if way in (1, 2, 3, 4, 5)
    refine ⟨Mid 6, ?_, ?_⟩
    · refine ⟨_, rfl, (by show 5 ≤ sizeLine; decide), fun t2 nt2 => ⟨t2, _, rfl, .inr (.inl (.inl upd_same)), rfl, rfl, _, rfl, ?_⟩⟩
      have p8 := p7.grow (same_new (o := .tup [.int 1, .int 2, .int 3, .int 4, .int 5]) nt2)
      generalize upd H7 t2 (.tup [.int 1, .int 2, .int 3, .int 4, .int 5]) = H8 at p8
      refine ite2 (fun _ => ?_) (fun _ => ⟨so, _, _, _, _, _, _, rfl, p8.up (by omega)⟩)
      refine ⟨_, rfl, _, _, rfl, rfl, _, rfl, by omega, by omega, fun D nD => ?_⟩
      refine lc_range (lo := 0) (n := (1 + (d : Int) - 1).toNat) (fun i H' => RS K H H' sr D od w i ns) (p8.fresh nD) ?_ ?_
      · intro i H9 hi p9
        have hi1 : i + 1 < w := by omega
        obtain ⟨a1, a2⟩ := fin1 i (by omega)
        obtain ⟨b1, b2⟩ := fin1 (i + 1) hi1
        refine ⟨rfl, yes_if ?_⟩
        refine ⟨_, rfl, _, rfl, _, rfl, od, _, _, _, rfl, rfl, SqL.of p9.hod, by rw [Int.zero_add]; exact a1, _, rfl, _, rfl, _, _, rfl, rfl, od, _, _, _, rfl, rfl, SqL.of p9.hod, by rw [Int.zero_add]; exact b1, _, rfl, ?_⟩
        exact ⟨sr, _, _, kz, rfl, p9.ran.src, kz0, kz1, fun t r H' hr rn nt nts dp => p9.put (by omega) rn hr dp a2 b2 (dif1 _ _ (by omega) hi1 (by omega))⟩
      · intro H9 p9
        exact ⟨D, _, _, _, _, _, _, rfl, p9.up (by omega)⟩
    rintro σ1 H8 ⟨so, y7, y8, y9, y10, y11, y12, rfl, p8⟩
    -- if way in (2, 3, 5) and size > 1
    refine ⟨Mid 7, ?_, ?_⟩
    · refine ⟨_, rfl, (by show 3 ≤ sizeLine; decide), fun t2 nt2 => ⟨t2, _, rfl, .inr (.inl (.inl upd_same)), rfl, rfl, _, rfl, ?_⟩⟩
      have p9 := p8.grow (same_new (o := .tup [.int 2, .int 3, .int 5]) nt2)
      generalize upd H8 t2 (.tup [.int 2, .int 3, .int 5]) = H9 at p9
      refine ite2 (fun _ => ?_) (fun _ => iteF ⟨so, _, _, _, _, _, _, rfl, p9.up (by omega)⟩)
      refine ⟨_, rfl, _, _, rfl, rfl, _, rfl, ite2 (fun e => ?_) (fun _ => ⟨so, _, _, _, _, _, _, rfl, p9.up (by omega)⟩)⟩
      have hd1 : 0 < d := by
        have := of_decide_eq_true e
        omega
      obtain ⟨us9, rs9, h9, _⟩ := p9.lst
      obtain ⟨a1, a2⟩ := fin1 d hd
      obtain ⟨b1, b2⟩ := fin1 0 (by omega)
      refine ⟨_, rfl, .inl ⟨rfl, _, SqL.of h9⟩, ?_⟩
      refine ⟨_, rfl, _, rfl, _, rfl, _, _, rfl, rfl, od, _, _, _, rfl, rfl, SqL.of p9.hod, (by rw [show (1 + (d : Int) - 1) = (d : Int) by omega]; exact a1), _, rfl, od, _, _, _, rfl, rfl, SqL.of p9.hod, b1, _, rfl, ?_⟩
      refine ⟨sr, _, _, kz, rfl, p9.ran.src, kz0, kz1, fun t r H' hr rn nt nts dp => ?_⟩
      obtain ⟨us, u1, u2, u3⟩ := p9.put (by omega) rn hr dp a2 b2 (dif1 _ _ hd (by omega) (by omega))
      exact ⟨so, us, _, rfl, rfl, u1, u2, so, _, _, _, _, _, _, rfl, u3⟩
    rintro σ2 H9 ⟨so, y7, y8, y9, y10, y11, y12, rfl, p9⟩
    -- if way == 5 and size + 1 < width
    refine ⟨Mid 10, ?_, ?_⟩
    · refine ⟨_, rfl, rfl, _, rfl, ite2 (fun _ => ?_) (fun _ => iteF ⟨so, _, _, _, _, _, _, rfl, p9.up (by omega)⟩)⟩
      refine ⟨_, rfl, _, _, rfl, rfl, _, rfl, _, _, rfl, rfl, _, rfl, ite2 (fun e => ?_) (fun _ => ⟨so, _, _, _, _, _, _, rfl, p9.up (by omega)⟩)⟩
      have hd2 : d + 2 < w := by
        have := of_decide_eq_true e
        omega
      have e1 : (1 + (d : Int)) = ((d + 1 : Nat) : Int) := by omega
      have e2 : (1 + (d : Int) + 1) = ((d + 2 : Nat) : Int) := by omega
      obtain ⟨a1, a2⟩ := fin1 (d + 1) (by omega)
      obtain ⟨b1, b2⟩ := fin1 (d + 2) hd2
      obtain ⟨c1, c2⟩ := fin1 0 (by omega)
      obtain ⟨us9, rs9, h9, _⟩ := p9.lst
      refine ⟨_, rfl, .inl ⟨rfl, _, SqL.of h9⟩, ?_⟩
      refine ⟨_, rfl, _, rfl, _, rfl, od, _, _, _, rfl, rfl, SqL.of p9.hod, (by rw [e1]; exact a1), _, rfl, _, rfl, _, _, rfl, rfl, od, _, _, _, rfl, rfl, SqL.of p9.hod, (by rw [e2]; exact b1), ?_⟩
      refine ⟨sr, _, _, _, rfl, p9.ran.src, by decide +kernel, by decide +kernel, fun t r H' hr rn nt nts dp => ?_⟩
      obtain ⟨us, u1, u2, p10⟩ := p9.put (by omega) rn hr dp a2 b2 (dif1 _ _ (by omega) hd2 (by omega))
      refine ⟨so, us, _, rfl, rfl, u1, u2, ?_⟩
      obtain ⟨us10, rs10, h10, _⟩ := p10.lst
      refine ⟨_, rfl, .inl ⟨rfl, _, SqL.of h10⟩, ?_⟩
      refine ⟨_, rfl, _, rfl, _, rfl, _, _, rfl, rfl, od, _, _, _, rfl, rfl, SqL.of p10.hod, (by rw [e2]; exact b1), _, rfl, _, rfl, od, _, _, _, rfl, rfl, SqL.of p10.hod, (by rw [e1]; exact a1), ?_⟩
      refine ⟨sr, _, _, _, rfl, p10.ran.src, by decide +kernel, by decide +kernel, fun t r H' hr rn nt nts dp => ?_⟩
      obtain ⟨us, u1, u2, p11⟩ := p10.put (by omega) rn hr dp b2 a2 (dif1 _ _ hd2 (by omega) (by omega))
      refine ⟨so, us, _, rfl, rfl, u1, u2, ?_⟩
      obtain ⟨us11, rs11, h11, _⟩ := p11.lst
      refine ⟨_, rfl, .inl ⟨rfl, _, SqL.of h11⟩, ?_⟩
      refine ⟨_, rfl, _, rfl, od, _, _, _, rfl, rfl, SqL.of p11.hod, c1, _, rfl, _, rfl, od, _, _, _, rfl, rfl, SqL.of p11.hod, (by rw [e1]; exact a1), ?_⟩
      refine ⟨sr, _, _, _, rfl, p11.ran.src, by decide +kernel, by decide +kernel, fun t r H' hr rn nt nts dp => ?_⟩
      obtain ⟨us, u1, u2, p12⟩ := p11.put (by omega) rn hr dp c2 a2 (dif1 _ _ (by omega) (by omega) (by omega))
      exact ⟨so, us, _, rfl, rfl, u1, u2, so, _, _, _, _, _, _, rfl, p12⟩
    rintro σ3 H10 ⟨so, y7, y8, y9, y10, y11, y12, rfl, p10⟩
    -- the loop
    obtain ⟨m, hm, em⟩ : ∃ m : Nat, m ≤ 12 ∧ atI [V.int 3, .int 1, .int 0, .int 2, .int 2, .int 1, .int 12, .int 6] (way : Int) = some (.int (m : Int)) := by
      match way, hway with
      | 0, _ => exact ⟨3, by decide, rfl⟩
      | 1, _ => exact ⟨1, by decide, rfl⟩
      | 2, _ => exact ⟨0, by decide, rfl⟩
      | 3, _ => exact ⟨2, by decide, rfl⟩
      | 4, _ => exact ⟨2, by decide, rfl⟩
      | 5, _ => exact ⟨1, by decide, rfl⟩
      | 6, _ => exact ⟨12, by decide, rfl⟩
      | 7, _ => exact ⟨6, by decide, rfl⟩
    refine ⟨(by show 8 ≤ sizeLine; decide), fun l2 nl2' => ⟨_, rfl, l2, _, _, _, rfl, rfl, SqL.of upd_same, em, _, rfl, by omega, by omega, ?_⟩⟩
    have p11 := p10.grow (same_new (o := .lst [.int 3, .int 1, .int 0, .int 2, .int 2, .int 1, .int 12, .int 6]) nl2')
    generalize upd H10 l2 (.lst [.int 3, .int 1, .int 0, .int 2, .int 2, .int 1, .int 12, .int 6]) = H11 at p11
    refine for_range (lo := 0) (n := ((m : Nat) : Int).toNat) (fun i σ H' => Mid (10 + i) σ H' ∧ σ[4]? = some (some (.ref so))) ⟨⟨so, _, _, _, _, _, _, rfl, p11⟩, rfl⟩ ?_ ?_
    · rintro i σ H12 hi ⟨⟨so', y7, y8, y9, y10, y11, y12, rfl, p12⟩, eso⟩
      obtain rfl : so' = so := by simpa using eso
      refine ⟨_, rfl, _, rfl, sr, w, rfl, p12.ran.src, by omega, by omega, fun a H13 ha rn13 => ?_⟩
      have p13 := p12.go rn13
      refine ⟨_, rfl, _, rfl, sr, w, rfl, p13.ran.src, by omega, by omega, fun b H14 hb rn14 => ⟨_, _, rfl, ?_⟩⟩
      have p14 := p13.go rn14
      refine ⟨_, rfl, _, rfl, rfl, _, rfl, ?_⟩
      rw [show (!decide (V.int (a : Int) = V.int (b : Int))) = decide (a ≠ b) from int_ne _ _]
      by_cases ne : a = b
      · rw [show decide (a ≠ b) = false by rw [ne]; simp]
        exact iteF ⟨⟨so', _, _, _, _, _, _, rfl, p14.up (by omega)⟩, rfl⟩
      · rw [show decide (a ≠ b) = true from decide_eq_true ne]
        obtain ⟨us14, rs14, h14, _⟩ := p14.lst
        have tail : ∀ z : Str, 0 < z.length → z.length < 1000 → spStep K [.ref sr, .int (a : Int), .int (b : Int), .str z] H14 (fun v H' => ∃ l xs y, V.ref so' = .ref l ∧ [v] = [y] ∧ H' l = some (.lst xs) ∧ xs.length < sizeLine ∧
            ((Mid (10 + (i + 1)) [some (.ref sr), some (.int (w : Int)), some (.int (way : Int)), some (.str kz), some (.ref so'), some (.ref od), some (.int (1 + (d : Int))), y7, some (.int (0 + (i : Int))), some (.int (a : Int)), some (.int (b : Int)), y11, y12] (upd H' l (.lst (xs ++ [y])))) ∧ True)) (fun _ _ _ => False) := fun z z0 z1 => by
          refine ⟨sr, a, b, z, rfl, p14.ran.src, z0, z1, fun t r H' hr rn nt nts dp => ?_⟩
          obtain ⟨us, u1, u2, p15⟩ := p14.put (by omega) rn hr dp ha hb ne
          exact ⟨so', us, _, rfl, rfl, u1, u2, ⟨so', _, _, _, _, _, _, rfl, p15⟩, trivial⟩
        refine iteT ⟨_, rfl, .inl ⟨rfl, _, SqL.of h14⟩, _, rfl, _, rfl, _, rfl, _, rfl, _, _, rfl, rfl, _, rfl, ite2 (fun _ => ?_) (fun _ => ⟨_, rfl, ?_⟩)⟩
        · refine ⟨sr, a, b, _, rfl, p14.ran.src, by decide +kernel, by decide +kernel, fun t r H' hr rn nt nts dp => ?_⟩
          obtain ⟨us, u1, u2, p15⟩ := p14.put (by omega) rn hr dp ha hb ne
          exact ⟨so', us, _, rfl, rfl, u1, u2, ⟨so', _, _, _, _, _, _, rfl, p15⟩, rfl⟩
        · refine ⟨sr, a, b, _, rfl, p14.ran.src, kz0, kz1, fun t r H' hr rn nt nts dp => ?_⟩
          obtain ⟨us, u1, u2, p15⟩ := p14.put (by omega) rn hr dp ha hb ne
          exact ⟨so', us, _, rfl, rfl, u1, u2, ⟨so', _, _, _, _, _, _, rfl, p15⟩, rfl⟩
    rintro σ4 H12 ⟨⟨so', y7, y8, y9, y10, y11, y12, rfl, p12⟩, eso⟩
    obtain rfl : so' = so := by simpa using eso
    obtain ⟨us, rs, g1, g2, g3, g4⟩ := p12.lst
    have ul : us.length = rs.length := by rw [dps_len g2, List.length_map]
    have u22 : us.length ≤ 22 := by omega
    -- by
    refine ⟨_, rfl, _, rfl, so', us, rfl, .inl (SqL.of g1), _, _, rfl, rfl, sr, us.length + 1, rfl, p12.ran.src, by omega, by omega, fun by_ H13 hby rn13 => ?_⟩
    have p13 := p12.go rn13
    have g1' : H13 so' = some (.lst us) := rn13.at_ g1 p12.nso
    have g2' : DpAll K H13 us (rs.map R.d) := rds_T (rn13.T p12.ran.src) g2
    -- some = some[by:] + some[:by]
    refine ⟨_, rfl, _, rfl, _, rfl, so', us, rfl, SqL.of g1', fun p3 n3 => ?_⟩
    rw [show cutV us (some (by_ : Int)) none = us.drop by_ from cut_from _ _]
    refine ⟨_, rfl, _, rfl, _, rfl, so', us, rfl, SqL.of (same_new n3 _ _ g1'), fun p4 n4 => ?_⟩
    rw [show cutV us none (some (by_ : Int)) = us.take by_ from cut_to _ _]
    have p34 : p3 ≠ p4 := fun e => by rw [← e, upd_same] at n4; cases n4
    refine ⟨p3, p4, us.drop by_, us.take by_, rfl, rfl, by rw [upd_ne p34]; exact upd_same, upd_same, Nat.le_of_lt (small1000 (by rw [List.length_drop, List.length_take]; omega)), fun p5 n5 => ?_⟩
    have m5 : Same H13 (upd (upd (upd H13 p3 (.lst (us.drop by_))) p4 (.lst (us.take by_))) p5 (.lst (us.drop by_ ++ us.take by_))) := (same_new n3).trans ((same_new n4).trans (same_new n5))
    have h5 : (upd (upd (upd H13 p3 (.lst (us.drop by_))) p4 (.lst (us.take by_))) p5 (.lst (us.drop by_ ++ us.take by_))) p5 = some (.lst (us.drop by_ ++ us.take by_)) := upd_same
    generalize upd (upd (upd H13 p3 (.lst (us.drop by_))) p4 (.lst (us.take by_))) p5 (.lst (us.drop by_ ++ us.take by_)) = H14 at m5 h5
    have d14 : DpAll K H14 (us.drop by_ ++ us.take by_) ((rs.drop by_ ++ rs.take by_).map R.d) := by
      rw [List.map_append, List.map_drop, List.map_take]
      have z := dps_same m5 _ _ g2'
      exact dps_app (dps_drop by_ z) (dps_take by_ z)
    have rnF : Ran H H14 sr := p13.ran.grow m5
    have okF : ∀ r ∈ rs.drop by_ ++ rs.take by_, r.ok w := fun r hr => g3 r (rot_mem hr)
    have lenF : (us.drop by_ ++ us.take by_).length ≤ 50 := by rw [List.length_append, List.length_drop, List.length_take]; omega
    generalize us.drop by_ ++ us.take by_ = vs at h5 d14 lenF
    generalize rs.drop by_ ++ rs.take by_ = ts at d14 okF
    have vl : vs.length = ts.length := by rw [dps_len d14, List.length_map]
    -- without those that stand there before
    refine ⟨_, rfl, p5, vs, rfl, SqL.of h5, fun D nD => ?_⟩
    refine lc_enum (xs := vs) (fun i H' => ∃ out : List R, MadeF R.d K H14 D i H' out ∧ out.Nodup ∧ (∀ r ∈ out, r ∈ ts.take i) ∧ ∀ r ∈ ts.take i, r ∈ out) ⟨[], MadeF.start, List.nodup_nil, (fun r hr => nomatch hr), (fun r hr => by simp at hr)⟩ (fun i H' _ ⟨_, z, _⟩ => SqL.of (z.old nD _ _ h5)) ?_ ?_
    · rintro i v t H15 hv ⟨out, mo, o1, o2, o3⟩ nt
      obtain ⟨r, hr2, dr⟩ := dps_rat d14 hv
      have il : i < ts.length := (List.getElem?_eq_some_iff.mp hr2).1
      have o15 : Same H14 (upd H15 t (.tup [.int (i : Nat), v])) := (mo.old nD).trans (same_new nt)
      refine ⟨t, _, rfl, .inl (.inl upd_same), rfl, _, _, rfl, _, _, rfl, rfl, rfl, ?_⟩
      refine ⟨_, rfl, _, rfl, _, rfl, _, rfl, p5, vs, rfl, SqL.of (o15 _ _ h5), fun p6 n6 => ?_⟩
      rw [show cutV vs none (some ((i : Nat) : Int)) = vs.take i from cut_to _ _]
      have o16 := o15.trans (same_new (o := .lst (vs.take i)) n6)
      have dl : DpAll K (upd (upd H15 t (.tup [.int (i : Nat), v])) p6 (.lst (vs.take i))) (vs.take i) ((ts.take i).map R.d) := by
        rw [List.map_take]
        exact dps_take i (dps_same o16 _ _ d14)
      have s16 : Same H15 (upd (upd H15 t (.tup [.int (i : Nat), v])) p6 (.lst (vs.take i))) := (same_new nt).trans (same_new n6)
      have hp6 : SqL K (upd (upd H15 t (.tup [.int (i : Nat), v])) p6 (.lst (vs.take i))) p6 (vs.take i) := SqL.of upd_same
      generalize upd (upd H15 t (.tup [.int (i : Nat), v])) p6 (.lst (vs.take i)) = H16 at o16 dl s16 hp6
      refine ⟨r.d, (ts.take i).map R.d, dp_same o16 _ _ dr, .lst hp6 dl, rd_shaped _, rds_shaped _, _, rfl, ?_⟩
      rw [rds_any, SG.take_one hr2]
      obtain ⟨uo, _, hDo, _⟩ := id mo
      by_cases e : r ∈ ts.take i
      · rw [decide_eq_true e]
        refine iteF ⟨out, mo.keep s16 (by omega) rfl, o1, fun x hx => List.mem_append_left _ (o2 x hx), fun x hx => ?_⟩
        rcases List.mem_append.mp hx with z | z
        · exact o3 x z
        · rw [List.mem_singleton.mp z]
          exact o3 r e
      · rw [decide_eq_false e]
        refine iteT ⟨_, rfl, ?_⟩
        have dv : Dp K (wo H16 D) v r.d := rd_T ((same_T o16).trans (wo_T (s16 _ _ hDo))) dr
        obtain ⟨acc, a1, a2, a3⟩ := mo.push (r := r) (m := i + 1) (by omega) (Nat.lt_succ_self _) s16 dv
        refine ⟨acc, a1, a2, out ++ [r], a3, List.nodup_append.mpr ⟨o1, by simp, fun x hx y hy exy => ?_⟩, fun x hx => ?_, fun x hx => ?_⟩
        · rw [List.mem_singleton.mp hy] at exy
          subst exy
          exact e (o2 x hx)
        · rcases List.mem_append.mp hx with z | z
          · exact List.mem_append_left _ (o2 x z)
          · exact List.mem_append_right _ z
        · rcases List.mem_append.mp hx with z | z
          · exact List.mem_append_left _ (o3 x z)
          · exact List.mem_append_right _ z
    · rintro H15 ⟨out, mo, o1, o2, o3⟩
      rw [vl, List.take_length] at o2
      have oo := mo.old nD
      obtain ⟨uo, _, hDo, dDo, _⟩ := mo
      exact q D uo out H15 (rnF.grow oo) (rnF.ne nD) hDo (dps_same (wo_le D) _ _ dDo) (fun r hr => okF r (o2 r hr)) o1
theorem ok_rules {k : Nat} {kA f : Addr} {fd : FuncData} (F : Fun K "_law_rules" "_law_rules" sRules f fd) (T : Glb K mg kA) (cD : Cal P w K mg base "_law_draw" ["_law_source_here", "_law_many"] spDraw2 1) (cC : Cal P w K mg base "_law_choose" ["_law_source_here", "_law_values"] (spChoose K) 2) (cM : Cal P w K mg base "_law_mixed" ["_law_source_here", "_law_many"] (spMixed K) 3) (cS : Cal P w K mg base "_law_step" ["_law_source_here", "_law_a", "_law_b", "_law_kinds"] (spStep K) 3) : FnOk P w K mg base CX0 (k + 4) f fd ["_law_source_here", "_law_width"] (spRules K) :=
  fn_imp (ok_rulesN F T cD cC cM cS) fun vs H Q E ⟨s, w, e, hs, w1, w6, q⟩ => ⟨s, w, e, hs, w1, w6, fun p us rs H' rn _ hp dp ok nd => q p rs H' rn ⟨us, SqL.of hp, dp, ok, nd, w1, w6⟩⟩
end
end CC
namespace CC
open PySem L2 TL
abbrev sNearly : Stmt := tp 44
def spNearlyN (K : PySem.W.Frag) : Sp := fun vs H Q _ => ∃ s : Addr, vs = [.ref s] ∧ Src H s ∧ NewGiven K H s 6 Q
def spNearly (K : PySem.W.Frag) : Sp := fun vs H Q _ => ∃ s : Addr, vs = [.ref s] ∧ Src H s ∧ ∀ (p : Addr) (rs : List R) (H' : Hp), Ran H H' s → Given K H' p 6 rs → Q (.ref p) H'
section
variable {P : Program} {w : World} {K : PySem.W.Frag} {mg : Str → Option Value} {base : Heap}
abbrev nNe : List Str := ["_law_source_here", "_law_every", "_law_by"]
theorem scNearly : FnScope nNe ["_law_source_here"] (defScope sNearly) := ⟨rfl, rfl, rfl, by decide +kernel, rfl, by decide +kernel, by decide +kernel⟩
theorem ok_nearlyN {k : Nat} {f : Addr} {fd : FuncData} (F : Fun K "_law_nearly" "_law_nearly" sNearly f fd) (cA : Cal P w K mg base "_law_all" ["_law_width"] (spAll K) 1) (cD : Cal P w K mg base "_law_draw" ["_law_source_here", "_law_many"] spDraw2 1) : FnOk P w K mg base CX0 (k + 2) f fd ["_law_source_here"] (spNearlyN K) := by
  have GA := cA.ok (k + 1) (by omega)
  have GD := cD.ok (k + 1) (by omega)
  refine F.ok scNearly (fun vs H Q E h => ?_) (fun cdv A outer s H vs Q E hr h => ?_)
  · obtain ⟨s, rfl, _⟩ := h
    rfl
  · obtain ⟨sr, rfl, hs, q⟩ := h
    have n := scNearly.nd
    refine ⟨_, pss_cons (ps_par (i := 1) (j := 2) rfl n rfl rfl (by decide) rfl rfl (pa_cons (pe_call GA hr rfl cA.g cA.kp cA.b .nil pass0 (pa_cons pe_int pa_nil)) (pa_cons (pe_call GD hr rfl cD.g cD.kp cD.b .nil pass0 (pa_cons (pv 0) (pa_cons pe_int pa_nil))) pa_nil)) (by rfl))
      (pss_one (ps_ret (pe_slice sl_list (pe_op op_cat (pe_slice sl_list (pv 1) (po_some (pv 2)) po_none) (pe_slice sl_list (pv 1) po_none (po_some (pv 2)))) (po_some (pe_call GD hr rfl cD.g cD.kp cD.b .nil pass0 (pa_cons (pv 0) (pa_cons pe_int pa_nil)))) po_none))), ?_⟩
    refine ⟨6, rfl, by decide, fun pa ua H1 s1 npa hpa da => ?_⟩
    have hs1 : Src H1 sr := by
      obtain ⟨o, h1, h2⟩ := hs
      exact ⟨o, s1 _ _ h1, h2⟩
    have pas : pa ≠ sr := by
      obtain ⟨o, h1, h2⟩ := hs
      exact (ne_of_none h1 npa).symm
    have ual : ua.length = 60 := by
      rw [dps_len da, List.length_map]
      decide +kernel
    refine ⟨_, rfl, sr, 60, rfl, hs1, by decide, by decide, fun by_ H2 hby rn => ?_⟩
    have hpa2 : H2 pa = some (.lst ua) := rn.at_ hpa pas
    have da2 : DpAll K H2 ua ((allR 6).map R.d) := rds_T ((same_T (wo_le pa)).trans (rn.T hs1)) da
    refine ⟨_, _, rfl, ?_⟩
    refine ⟨_, rfl, _, rfl, _, rfl, pa, ua, rfl, SqL.of hpa2, fun p3 n3 => ?_⟩
    rw [show cutV ua (some (by_ : Int)) none = ua.drop by_ from cut_from _ _]
    refine ⟨_, rfl, _, rfl, _, rfl, pa, ua, rfl, SqL.of (same_new n3 _ _ hpa2), fun p4 n4 => ?_⟩
    rw [show cutV ua none (some (by_ : Int)) = ua.take by_ from cut_to _ _]
    have p34 : p3 ≠ p4 := fun e => by rw [← e, upd_same] at n4; cases n4
    refine ⟨p3, p4, ua.drop by_, ua.take by_, rfl, rfl, by rw [upd_ne p34]; exact upd_same, upd_same, Nat.le_of_lt (small1000 (by rw [List.length_drop, List.length_take]; omega)), fun p5 n5 => ?_⟩
    have m5 : Same H2 (upd (upd (upd H2 p3 (.lst (ua.drop by_))) p4 (.lst (ua.take by_))) p5 (.lst (ua.drop by_ ++ ua.take by_))) := (same_new n3).trans ((same_new n4).trans (same_new n5))
    have h5 : (upd (upd (upd H2 p3 (.lst (ua.drop by_))) p4 (.lst (ua.take by_))) p5 (.lst (ua.drop by_ ++ ua.take by_))) p5 = some (.lst (ua.drop by_ ++ ua.take by_)) := upd_same
    have n5' : H2 p5 = none := ((same_new n3).trans (same_new n4)).free n5
    generalize upd (upd (upd H2 p3 (.lst (ua.drop by_))) p4 (.lst (ua.take by_))) p5 (.lst (ua.drop by_ ++ ua.take by_)) = H5 at m5 h5
    have rn5 : Ran H1 H5 sr := rn.grow m5
    refine ⟨_, rfl, sr, 3, rfl, rn5.src, by decide, by decide, fun d H6 hd rn6 => ?_⟩
    have p5s : p5 ≠ sr := rn.ne n5'
    have h6 : H6 p5 = some (.lst (ua.drop by_ ++ ua.take by_)) := rn6.at_ h5 p5s
    refine ⟨_, rfl, p5, _, rfl, SqL.of h6, fun p7 n7 => ?_⟩
    rw [show cutV (ua.drop by_ ++ ua.take by_) (some (d : Int)) none = (ua.drop by_ ++ ua.take by_).drop d from cut_from _ _]
    have rnH : Ran H H6 sr := (Ran.mk (wo_same s1) hs1).trans (rn5.trans rn6)
    refine q p7 _ (((allR 6).drop by_ ++ (allR 6).take by_).drop d) _ (rnH.grow (same_new n7)) (rnH.ne n7) upd_same ?_ (fun r hr2 => mem_allR.mp (rot_mem (List.mem_of_mem_drop hr2))) ((rot_nodup (allR_nodup (by decide)) by_).sublist (List.drop_sublist _ _))
    have d6 : DpAll K H6 (ua.drop by_ ++ ua.take by_) (((allR 6).drop by_ ++ (allR 6).take by_).map R.d) := by
      rw [List.map_append, List.map_drop, List.map_take]
      have z := rds_T ((same_T m5).trans (rn6.T rn5.src)) da2
      exact dps_app (dps_drop by_ z) (dps_take by_ z)
    have z := dps_drop d d6
    rw [← List.map_drop] at z
    exact dps_same (same_new n7) _ _ z
theorem ok_nearly {k : Nat} {f : Addr} {fd : FuncData} (F : Fun K "_law_nearly" "_law_nearly" sNearly f fd) (cA : Cal P w K mg base "_law_all" ["_law_width"] (spAll K) 1) (cD : Cal P w K mg base "_law_draw" ["_law_source_here", "_law_many"] spDraw2 1) : FnOk P w K mg base CX0 (k + 2) f fd ["_law_source_here"] (spNearly K) :=
  fn_imp (ok_nearlyN F cA cD) fun vs H Q E ⟨s, e, hs, q⟩ => ⟨s, e, hs, fun p us rs H' rn _ hp dp ok nd => q p rs H' rn ⟨us, SqL.of hp, dp, ok, nd, by decide, by decide⟩⟩
end
end CC
/-! a layer above the hand layer: defs that are called where nothing is being shown (no repr of a container is under way) -/
namespace GD
open PySem PySem.Spec PyProof.Rows L2
abbrev Calm (A : Around) : Prop := A.guards = some []
/-- a def's promise, where nothing is being shown -/
structure FnG (P : Program) (w : World) (K : PySem.W.Frag) (mg : Str → Option Value) (base : Heap) (CX : CXT) (k : Nat) (f : Addr) (fd : FuncData) (ps : List Str) (sp : Sp) : Prop where
  few : ∀ vs H Q E, sp vs H Q E → vs.length = ps.length
  goes : ∀ (A : Around) (out : List Env) (s : Shared) (H : Hp) (args : Args) (us : List Value) (vs : List V) (Q : VK) (E : XK), Calm A → Room k A → Env0 P w K mg base A out s H → BindsTo s fd args (ps.zip us) → Vals vs us → sp vs H Q E → codeAny (model P w) A (.call (.ref f) args) (CR CX out P w H s Q E) s
section
variable {P : Program} {w : World} {K : PySem.W.Frag} {mg : Str → Option Value} {base : Heap} {CX : CXT} {k : Nat} {f : Addr} {fd : FuncData} {ps : List Str} {sp : Sp}
theorem FnG.of (F : FnOk P w K mg base CX k f fd ps sp) : FnG P w K mg base CX k f fd ps sp := ⟨F.len, fun A out s H args us vs Q E _ hr e0 hb r h => F.run A out s H args us vs Q E hr e0 hb r h⟩
/-- the rule for a def by its body -/
theorem fun_okG {x q : Str} {st : Stmt} {N : List Str} (F : Fun K x q st f fd) (S : FnScope N ps (defScope st)) (few : ∀ vs H Q E, sp vs H Q E → vs.length = ps.length)
    (body : ∀ (cd : Value) (A : Around) (out : List Env) (s : Shared) (H : Hp) (vs : List V) (Q : VK) (E : XK), Calm (A.deeper (envOfC q (defScope st) s.heap.objs.size f cd)) → Room k (A.deeper (envOfC q (defScope st) s.heap.objs.size f cd)) → sp vs H Q E →
      ∃ t, PSs (cxOf CX0 P w K mg base N q (defScope st) f cd A out s H E).nox (defBody st) t ∧ t { nx := fun _ H' => Q .non H', rt := Q } (start N vs) H) : FnG P w K mg base CX0 (k + 1) f fd ps sp := by
  obtain ⟨oc, od, kV, doc, pm, an, cd, ct, osl, rfl, look, hcd⟩ := F.ex
  constructor
  · exact few
  intro A out s H args us vs Q E calm room e0 bound rel wish
  have keep : ∀ b o, base.get? b = some o → s.heap.get? b = some o := fun b o e => (e0.bs b o e).1
  have inK := e0.mod.kin.keeps keep
  have noL := e0.mod.nolimit.keeps keep
  have size := few _ _ _ _ wish
  refine codeAny_call_function room.depth (inK _ _ look) rfl S.co S.gen rfl (PySem.W.codeRec_of inK hcd) (bound _ _ _ _ ?_)
  refine wpAny_newFunctionEnv_cells S.kind (fun y hy => ?_) fun env he s1 x => ?_
  · rcases S.par y.1 (List.of_mem_zip hy).1 with z | z
    · exact .inl z
    · exact .inr ⟨z, PySem.W.cellsFrom_some _ _ _ (.inl z)⟩
  subst he
  refine ⟨noL.keeps x.toInCall.keep, codeAny_func ?_⟩
  obtain ⟨t, d, r⟩ := body cd A out s H vs Q E calm (room.deeper _) wish
  have J := inv_start (CX := CX0) (E := E) S room.hd e0 size rel x
  refine wpAny_mono (d.nox.run [] s1 (start N vs) H _ J r) (fun fl s2 z => ?_) fun _ _ z => z
  cases fl with
  | brk => exact z.elim fun _ z => z.elim fun _ z => z.2.elim
  | cont => exact z.elim fun _ z => z.elim fun _ z => z.2.elim
  | next =>
    obtain ⟨τ, H2, J2, q⟩ := z
    exact ⟨.non, H2, J2.os, J2.bare, J2.base, J2.hok, rfl, q⟩
  | ret u =>
    obtain ⟨v, τ, H2, J2, rv, q⟩ := z
    exact ⟨v, H2, J2.os, J2.bare, J2.base, J2.hok, rv, q⟩
end
section
variable {X : Cx} {CX : CXT} {k : Nat} {f : Addr} {fd : FuncData} {ps : List Str} {sp : Sp} {E : XK} {x : Str} {p pos : Pos} {e : Expr} {es : List Expr} {t : TA}
theorem pe_callG (F : FnG X.prog X.w X.K X.mg X.base CX k f fd ps sp) (calm : Calm X.A) (room : Room k X.A) (gl : Gl X x) (at_ : X.mg x = some (.ref f)) (kp : PySem.W.keepIn X.K (.ref f) = true) (b : Binds X.K fd ps []) (hx : Passes CX X E) (ha : PA X (e :: es) t)
    (hd : (x == ("__debug__" : Str)) = false := by decide) (h1 : starEach (e :: es) X.env = (false, eval e X.env) :: starEach es X.env := by rfl) (h2 : (backTo pos (starEach es X.env)).any (·.1) = false := by rfl) : PE X (.Call (.Name x p) (e :: es) [] pos) (tCall sp [] E t) := by
  constructor
  intro pins s σ H Q I h
  refine wpAny_Call_Name_kw (ld_glob I gl at_ (PySem.W.callWith_K (h₀ := X.base) I.ok.mod.kin kp (thn (ha.run pos pins s σ H _ I h) fun us s1 z => ?_) h1 h2) hd)
  obtain ⟨vs, H1, I1, r, q⟩ := z
  refine ⟨I1.kIn, ?_⟩
  rw [List.append_nil] at q
  have hl : us.length = ps.length := by
    rw [← r.length]
    exact F.few _ _ _ _ q
  have hb := b s1 us I1.kIn (by rw [List.append_nil]; exact hl)
  rw [List.append_nil] at hb
  refine wpAny_call (codeAny_mono (F.goes X.A X.stack s1 H1 ⟨us, []⟩ us vs Q E calm room I1.env0 hb r q) fun fin s2 z => ?_)
  match fin, z with
  | .error err, z => exact hx pins σ H1 s1 err s2 I1 z
  | .ok (.ret u), z => exact I1.after z
  | .ok .next, z => exact z.elim
  | .ok .brk, z => exact z.elim
  | .ok .cont, z => exact z.elim
/-- repr(x), x data -/
theorem call_reprD (calm : Calm X.A) (hu : X.A.units + 66 < cLine) : CallR X (.builtin "repr") (fun xs H Q => ∃ v d, xs = [v] ∧ Dp X.K H v d ∧ d.showable = true ∧ d.hasDict = false ∧ d.depth ≤ 64 ∧ d.shown.length ≤ sizeLine ∧ Q (.str d.shown) H) := by
  intro pins s σ H xs us Q I r h
  obtain ⟨v, d, rfl, hd, h1, h2, h3, h4, q⟩ := h
  obtain ⟨u, rfl, rv⟩ := vals1 r
  obtain ⟨as, rd⟩ := Dp.reads I d v u hd rv
  cases hd with
  | non =>
    cases rv
    exact PySem.P.repr_of_none ⟨.str _, H, I.tok _, ⟨_, rfl⟩, q⟩
  | bl b =>
    cases rv
    exact PySem.P.repr_of_bool ⟨.str _, H, I.tok _, ⟨_, rfl⟩, q⟩
  | int i =>
    obtain ⟨t, rfl⟩ := rv
    exact PySem.P.repr_of_int (by simpa [PyData.showable] using h1) ⟨.str _, H, I.tok _, ⟨_, rfl⟩, q⟩
  | str x =>
    obtain ⟨t, rfl⟩ := rv
    exact PySem.P.repr_of_str ⟨.str _, H, I.tok _, ⟨_, rfl⟩, q⟩ h4
  | lst hs ha =>
    cases rv
    exact repr_of_reads' rd h1 (PyData.noDict_hsm h2) calm (by omega) (fun _ _ e => e) (fun h' u tk hk => ⟨.str _, H, I.kept hk, ⟨_, rfl⟩, q⟩) h4
  | tup hs ha =>
    cases rv
    exact repr_of_reads' rd h1 (PyData.noDict_hsm h2) calm (by omega) (fun _ _ e => e) (fun h' u tk hk => ⟨.str _, H, I.kept hk, ⟨_, rfl⟩, q⟩) h4
end
/-- the law's call, at the heap behind the top -/
theorem law_callG {P : Program} {w : World} {K : PySem.W.Frag} {mg mb : Str → Option Value} {CX : CXT} {k : Nat} {fa a : Addr} {fd : FuncData} {x : Str} {sp : Sp} {s : Shared} {vs : List Value} {ns : List Int}
    (inK : K.In s.heap) (nsM : s.heap.Ns mainGlobals mg) (nsB : s.heap.Ns builtinsNs mb) (boot : ∀ x : Str, x ≠ "__name__" → mb x = bootBuiltins x) (noL : s.heap.NoLimit) (gens : s.gens = #[])
    (ha : s.heap.get? a = some { cls := .type "list", data := .seq vs.toArray }) (hin : IntsAre vs ns) (few : ns.length ≤ sizeLine) (room : Room k callerA)
    (F : ∀ base : Heap, K.In base → base.Ns mainGlobals mg → FnG P w K mg base CX k fa fd [x] sp) (bind : ∀ (s : Shared) (u : Value), BindsTo s fd ⟨[u], []⟩ [(x, u)])
    (wish : ∀ H : Hp, Only H → SqL K H a (ns.map V.int) → sp [.ref a] H (fun v _ => v = .bl true) fun _ _ _ => False) (noX : ∀ H e s', CX [] H s (fun _ _ _ => False) e s' → False) :
    codeAny (model P w) callerA (.call (.ref fa) ⟨[.ref a], []⟩) (fun r s' => r = .ok (.ret (.bool true)) ∧ OldK s.heap s'.heap ∧ s'.os = s.os ∧ AllBare s'.gens) s := by
  have go : ∀ H : Hp, Only H → SqL K H a (ns.map V.int) → HOk P w H s.heap → (∀ b, b ≠ a → H b = none) → (K.lookup a = none ∨ H a = none) →
      codeAny (model P w) callerA (.call (.ref fa) ⟨[.ref a], []⟩) (fun r s' => r = .ok (.ret (.bool true)) ∧ OldK s.heap s'.heap ∧ s'.os = s.os ∧ AllBare s'.gens) s := by
    intro H only sq hok off way
    have up : ∀ {b : Addr} {o : Obj}, s.heap.get? b = some o → H b = none → (hidT s.heap H).get? b = some o := fun e n => hidT_get e n
    have notA : ∀ {b : Addr} {o : Obj} {es : Array DictEntry} {n : Nat}, s.heap.get? b = some o → o.data = .dict es n → H b = none := fun {b o es n} e d => by
      by_cases z : b = a
      · rw [z, ha] at e
        cases e
        cases (show Data.seq vs.toArray _ = Data.dict es n from d)
      · exact off b z
    have lift : ∀ {b : Addr} {m : Str → Option Value}, s.heap.Ns b m → (hidT s.heap H).Ns b m := fun ⟨o, es, n, e, d, r⟩ => ⟨o, es, n, up e (notA e d), d, r⟩
    have inB : K.In (hidT s.heap H) := fun b o e => up (inK b o e) (by
      by_cases z : b = a
      · rcases way with z2 | z2
        · rw [z, z2] at e
          cases e
        · rw [z]
          exact z2
      · exact off b z)
    obtain ⟨mc, l1, l2⟩ := noL
    have e0 : Env0 P w K mg (hidT s.heap H) callerA [] s H := ⟨rfl, ⟨inB, lift nsM, ⟨mb, lift nsB, boot⟩, ⟨mc, lift l1, l2⟩⟩, fun _ _ e => of_hidT e, Nat.le_of_eq (hidT_size _ _), trivial, fun b z => (nomatch (show b ∈ ([] : List Addr) from z)), hok, .of_eq gens⟩
    refine codeAny_mono ((F _ inB (lift nsM)).goes callerA [] s H ⟨[.ref a], []⟩ [.ref a] [.ref a] _ _ rfl room e0 (bind s (.ref a)) (.cons rfl .nil) (wish H only sq)) fun fin s2 z => ?_
    match fin, z with
    | .error err, z => exact (noX H err s2 z).elim
    | .ok .next, z => exact z.elim
    | .ok .brk, z => exact z.elim
    | .ok .cont, z => exact z.elim
    | .ok (.ret u), ⟨v, H2, os, bare, un, hok2, rel, ev⟩ =>
      cases (show v = V.bl true from ev)
      cases (show u = Value.bool true from rel)
      refine ⟨rfl, OldK.of_keep fun b o e => ?_, os, bare⟩
      rcases only b with z | ⟨ob, xs, z⟩
      · exact un.keep b o e z (fun y => nomatch (show b ∈ ([] : List Addr) from y)) (fun y => nomatch y)
      · obtain ⟨e1, _⟩ := hok b _ z
        obtain ⟨e2, _⟩ := hok2 b _ (un.frzs b ob _ z)
        rw [e1] at e
        cases e
        exact e2
  have rel := vals_ints hin
  have lenV := hin.length
  cases look : K.lookup a with
  | some o =>
    have e := inK a o look
    rw [ha] at e
    cases e
    refine go (fun _ => none) (fun _ => .inl rfl) (.inr ⟨_, vs.toArray, _, look, rfl, rfl, rfl, ?_, ?_⟩) (fun b u z => nomatch (show (none : Option HO) = some u from z)) (fun _ _ => rfl) (.inr rfl)
    · rw [List.size_toArray, lenV]
      exact few
    · simpa using rel
  | none =>
    have one : (fun b => if b = a then some (HO.frz { cls := .type "list", data := .seq vs.toArray } (.lst (ns.map V.int))) else none) a = some (HO.frz { cls := .type "list", data := .seq vs.toArray } (.lst (ns.map V.int))) := if_pos rfl
    refine go (fun b => if b = a then some (.frz { cls := .type "list", data := .seq vs.toArray } (.lst (ns.map V.int))) else none) (fun b => ?_) (.inl (.inr ⟨_, one⟩)) (fun b u z => ?_) (fun b hb => if_neg hb) (.inl look)
    · by_cases hb : b = a
      · rw [hb]
        exact .inr ⟨_, _, one⟩
      · exact .inl (if_neg hb)
    · by_cases hb : b = a
      · subst hb
        have z2 := one.symm.trans z
        cases z2
        exact ⟨ha, by rw [List.length_map]; exact few, vs, _, rel, ha⟩
      · have z2 := (if_neg hb).symm.trans z
        cases z2
/-- the goal that k_head leaves, from the law's promise -/
theorem walk_ofG {l : PySem.W.OpenLaw} {n k : Nat} {q : Program} {loose : List Str} {XP : (Str → Option Value) → Heap → Prop} {YP : World → Heap → Prop} {d : DefRec} {K : Params → PySem.W.Frag} {CX : World → CXT} {sp : World → Sp} {x : Str}
    (most : l.most = some n) (few : n ≤ sizeLine) (plain : d.params.defaults = []) (room : Room k callerA) (hY : ∀ (w : World) (h : Heap), YP w h → (K w.params).In h)
    (F : ∀ (w : World) (mg : Str → Option Value) (fa : Addr) (h : Heap), (K w.params).In h → h.Ns mainGlobals mg → mg d.name = some (.ref fa) → ∃ fd : FuncData, (∀ (s : Shared) (u : Value), BindsTo s fd ⟨[u], []⟩ [(x, u)]) ∧ ∀ base : Heap, (K w.params).In base → base.Ns mainGlobals mg → FnG l.prog w (K w.params) mg base (CX w) k fa fd [x] (sp w))
    (wish : ∀ (w : World) (H : Hp) (a : Addr) (ns : List Int), ns.length ≤ n → Only H → SqL (K w.params) H a (ns.map V.int) → sp w [.ref a] H (fun v _ => v = .bl true) fun _ _ _ => False)
    (noX : ∀ (w : World) (H : Hp) (s : Shared) (e : Value) (s' : Shared), CX w [] H s (fun _ _ _ => False) e s' → False) : PySem.W.WalkO q loose XP YP l.row.toRowW d [] (fun f vs => PySem.call f vs) := by
  refine Att.attach_call most plain ?_
  intro w s₀ s mg mb fa o pm cd doc a vs ns G Y _ _ _ hmg hobj hin len gens
  have inK := hY w _ Y
  obtain ⟨fd, bind, ok⟩ := F w mg fa _ inK G.T.g hmg
  exact law_callG inK G.T.g G.T.b G.T.builtins G.T.nolimit gens hobj hin (Nat.le_trans len few) room ok bind (fun H h1 h2 => wish w H a ns len h1 h2) fun H e s' => noX w H s e s'
end GD
/-! data that may be shown and compared: weight at most m, depth at most n -/
namespace GD
open PySem L2
structure SD (m n : Nat) (d : PyData) : Prop where
  lay : d.canLay0 = true
  shw : d.showable = true
  lvs : d.leavesShort 13 = true
  dep : d.depth ≤ n
  wt : d.weight ≤ m
theorem SD.up {m n m' n' : Nat} {d : PyData} (h : SD m n d) (h1 : m ≤ m') (h2 : n ≤ n') : SD m' n' d := ⟨h.lay, h.shw, h.lvs, Nat.le_trans h.dep h2, Nat.le_trans h.wt h1⟩
theorem SD.non : SD 0 0 .none := ⟨by simp [PyData.canLay0], by simp [PyData.showable], by simp [PyData.leavesShort], by simp [PyData.depth], by simp [PyData.weight]⟩
theorem SD.bl (b : Bool) : SD 0 0 (.bool b) := ⟨by simp [PyData.canLay0], by simp [PyData.showable], by simp [PyData.leavesShort], by simp [PyData.depth], by simp [PyData.weight]⟩
theorem SD.nat {n : Nat} (hn : n < 1000000) : SD 20 0 (.int (n : Int)) := by
  have hl : n.log2 < 20 := by
    by_cases z : n = 0
    · subst z; decide
    · exact (Nat.log2_lt z).mpr (by omega)
  have hl2 : (n : Int).natAbs.log2 < 1920 := by
    rw [Int.natAbs_natCast]
    omega
  refine ⟨by simp [PyData.canLay0], ?_, ?_, by simp [PyData.depth], ?_⟩
  · unfold PyData.showable
    exact decide_eq_true hl2
  · unfold PyData.leavesShort
    refine decide_eq_true ?_
    show (Str.ofString (toString (n : Int))).length ≤ 13
    have e := int_text_length_le10 (a := (n : Int)) (k := 6) (by decide) (by rw [Int.natAbs_natCast]; exact hn)
    rw [ofString_length]
    omega
  · unfold PyData.weight
    rw [Int.natAbs_natCast]
    split <;> omega
theorem SD.int {i : Int} (h0 : 0 ≤ i) (h1 : i < 1000000) : SD 20 0 (.int i) := by
  obtain ⟨n, rfl⟩ : ∃ n : Nat, i = (n : Int) := ⟨i.toNat, by omega⟩
  exact SD.nat (by omega)
theorem SD.str {x : Str} {m : Nat} (h : PyData.strOk x = true) (hl : x.length ≤ m) (hc : ∀ c ∈ x.cps.toList, c < 16 ^ 8) : SD m 0 (.str x) := by
  refine ⟨by simp [PyData.canLay0, h], by simp [PyData.showable], ?_, by simp [PyData.depth], ?_⟩
  · simpa only [PyData.leavesShort, List.all_eq_true, decide_eq_true_eq] using hc
  · simp only [PyData.weight]
    exact hl
theorem SD.all {m n : Nat} : ∀ {ds : List PyData}, (∀ d ∈ ds, SD m n d) → PyData.canLayAll0 ds = true ∧ PyData.showableAll ds = true ∧ PyData.leavesShortAll 13 ds = true ∧ PyData.depthAll ds ≤ n ∧ PyData.weightAll ds ≤ ds.length * (m + 1)
  | [], _ => by simp [PyData.canLayAll0, PyData.showableAll, PyData.leavesShortAll, PyData.depthAll, PyData.weightAll]
  | d :: ds, h => by
    have h1 := h d List.mem_cons_self
    obtain ⟨a1, a2, a3, a4, a5⟩ := SD.all (ds := ds) fun e he => h e (List.mem_cons_of_mem _ he)
    have := h1.dep
    have := h1.wt
    refine ⟨?_, ?_, ?_, ?_, ?_⟩
    · simp [PyData.canLayAll0, h1.lay, a1]
    · simp [PyData.showableAll, h1.shw, a2]
    · simp [PyData.leavesShortAll, h1.lvs, a3]
    · simp only [PyData.depthAll]; omega
    · simp only [PyData.weightAll, List.length_cons, Nat.add_mul]; omega
theorem SD.list {m n k : Nat} {ds : List PyData} (h : ∀ d ∈ ds, SD m n d) (hk : ds.length ≤ k) : SD (k * (m + 1)) (n + 1) (.list ds) := by
  obtain ⟨a1, a2, a3, a4, a5⟩ := SD.all h
  have : ds.length * (m + 1) ≤ k * (m + 1) := Nat.mul_le_mul_right _ hk
  refine ⟨by simp [PyData.canLay0, a1], by simp [PyData.showable, a2], by simp [PyData.leavesShort, a3], ?_, ?_⟩
  · simp only [PyData.depth]; omega
  · simp only [PyData.weight]; omega
theorem SD.tuple {m n k : Nat} {ds : List PyData} (h : ∀ d ∈ ds, SD m n d) (hk : ds.length ≤ k) : SD (k * (m + 1)) (n + 1) (.tuple ds) := by
  obtain ⟨a1, a2, a3, a4, a5⟩ := SD.all h
  have : ds.length * (m + 1) ≤ k * (m + 1) := Nat.mul_le_mul_right _ hk
  refine ⟨by simp [PyData.canLay0, a1], by simp [PyData.showable, a2], by simp [PyData.leavesShort, a3], ?_, ?_⟩
  · simp only [PyData.depth]; omega
  · simp only [PyData.weight]; omega
theorem SD.shaped {m n : Nat} {d : PyData} (h : SD m n d) (hn : n ≤ 64) : SeqAt.shaped d = true := by
  show (d.canLay0 && decide (d.depth ≤ 64)) = true
  rw [h.lay, Bool.true_and]
  exact decide_eq_true (Nat.le_trans h.dep hn)
theorem SD.fits {m n : Nat} {d : PyData} (h : SD m n d) (hm : m ≤ 2 ^ 20) : d.shown.length ≤ sizeLine := PyData.shown_fits (B := 13) (by decide) (by decide) h.lvs (Nat.le_trans h.wt hm)
theorem SD.nodict {m n : Nat} {d : PyData} (h : SD m n d) : d.hasDict = false := PyData.hasDict_of_canLay d h.lay
end GD
namespace GD
open PySem L2 CC
/-- a def that keeps a promise where nothing is being shown -/
structure CalG (P : Program) (w : World) (K : PySem.W.Frag) (mg : Str → Option Value) (base : Heap) (x : Str) (ps : List Str) (sp : Sp) (l : Nat) where
  f : Addr
  fd : FuncData
  ok : ∀ k, l ≤ k → FnG P w K mg base CX0 k f fd ps sp
  kp : PySem.W.keepIn K (.ref f) = true
  b : Binds K fd ps []
  g : mg x = some (.ref f)
def calG {P : Program} {w : World} {K : PySem.W.Frag} {mg : Str → Option Value} {base : Heap} {x : Str} {st : Stmt} {ps : List Str} {sp : Sp} {l : Nat} (d : Df K mg x st ps) (h : ∀ k, FnG P w K mg base CX0 (k + l) d.f d.fd ps sp) : CalG P w K mg base x ps sp l :=
  ⟨d.f, d.fd, fun k hk => (Nat.sub_add_cancel hk) ▸ h (k - l), d.F.kp, d.b, d.g⟩
/-- two values that are the same data -/
def spEqD (K : PySem.W.Frag) : Sp := fun vs H Q _ => ∃ (v u : V) (d : PyData), vs = [v, u] ∧ Dp K H v d ∧ Dp K H u d ∧ SD 1000000 64 d ∧ Q (.bl true) H
theorem hu66 {k : Nat} {A : Around} (hr : Room k A) : A.units + 66 < cLine := by
  have := hr.un
  omega
end GD
namespace CC
open PySem L2
theorem sd_r {w : Nat} {r : R} (hw : w ≤ 6) (h : r.ok w) : GD.SD 63 1 r.d := by
  refine GD.SD.tuple (m := 20) (n := 0) (k := 3) (fun d hd => ?_) (by show 3 ≤ 3; decide)
  have h1 := h.1
  have h2 := h.2.1
  rcases List.mem_cons.mp hd with rfl | hd
  · cases r.k
    · exact GD.SD.str (by decide +kernel) (by decide +kernel) (by decide +kernel)
    · exact GD.SD.str (by decide +kernel) (by decide +kernel) (by decide +kernel)
  · rcases List.mem_cons.mp hd with rfl | hd
    · exact GD.SD.nat (by omega)
    · rcases List.mem_cons.mp hd with rfl | hd
      · exact GD.SD.nat (by omega)
      · cases hd
theorem sd_rs {w : Nat} {rs : List R} (hw : w ≤ 6) (ho : ∀ r ∈ rs, r.ok w) (hl : rs.length ≤ 60) : GD.SD 3840 2 (.list (rs.map R.d)) :=
  GD.SD.list (m := 63) (n := 1) (k := 60) (fun d hd => by
    obtain ⟨r, hr, rfl⟩ := List.mem_map.mp hd
    exact sd_r hw (ho r hr)) (by rw [List.length_map]; exact hl)
theorem eqvAll_rs : ∀ m l : List R, PyData.eqvAll (m.map R.d) (l.map R.d) = decide (m = l)
  | [], [] => by simp [PyData.eqvAll]
  | [], _ :: _ => by simp [PyData.eqvAll]
  | _ :: _, [] => by simp [PyData.eqvAll]
  | x :: m, y :: l => by
    simp only [List.map_cons, PyData.eqvAll, eqvAll_rs m l, rd_eqv]
    by_cases h : x = y
    · subst h
      simp
    · simp [h]
theorem rs_eqv (m l : List R) : PyData.eqv (.list (m.map R.d)) (.list (l.map R.d)) = decide (m = l) := by
  simp only [PyData.eqv]
  exact eqvAll_rs m l
theorem RulesAt.ran {K : PySem.W.Frag} {C : Addr} {H H' : Hp} {x s : Addr} {w : Nat} {rs : List R} (h : RulesAt K C H x w rs) (hs : Src H s) (r : Ran H H' s) (T : SameT H H') : RulesAt K C H' x w rs := by
  obtain ⟨o, hs1, a, b, c, rfl, _⟩ := hs
  obtain ⟨dx, g, us, h1, h2, h3⟩ := h
  exact ⟨dx, g, us, r.at_ h1 (ne_of h1 hs1 (by intro z; cases z)), r.at_ h2 (ne_of h2 hs1 (by intro z; cases z)), rds_T T h3⟩
end CC
namespace CC
open PySem L2
theorem folL_ok {F : R → Bool} {w : Nat} : ∀ r ∈ folL F w, r.ok w := fun r hr => mem_allR.mp (List.mem_filter.mp hr).1
theorem folL_nodup {F : R → Bool} {w : Nat} (hw : w ≤ 6) : (folL F w).Nodup := (allR_nodup hw).filter _
end CC
namespace GD
open PySem L2 CC
section
variable {P : Program} {w : World} {K : PySem.W.Frag} {mg : Str → Option Value} {base : Heap} {kA : Addr}
theorem ok_iseqD {f : Addr} {fd : FuncData} {k : Nat} (F : Fun K "_law_is_equal" "_law_is_equal" sIsEq f fd) (T : Glb K mg kA) : FnG P w K mg base CX0 (k + 1) f fd ["_law_actual", "_law_expected"] (spEqD K) := by
  refine fun_okG F scIsEq (fun vs H Q E h => ?_) (fun cdv A outer s H vs Q E calm hr h => ?_)
  · obtain ⟨v, u, d, rfl, _⟩ := h
    rfl
  · obtain ⟨v, u, d, rfl, dv, du, sd, q⟩ := h
    have hu := hu66 hr
    refine ⟨_, pss_one (ps_ret (pe_cmpR op_eq (pe_callB (call_reprD calm hu) (by rfl) T.rep (by decide +kernel) (pa_cons (pv 0) pa_nil)) (pe_callB (call_reprD calm hu) (by rfl) T.rep (by decide +kernel) (pa_cons (pv 1) pa_nil)) (nomark _))), ?_⟩
    have fit := sd.fits (by decide)
    refine ⟨_, rfl, v, d, rfl, dv, sd.shw, sd.nodict, sd.dep, fit, _, rfl, u, d, rfl, du, sd.shw, sd.nodict, sd.dep, fit, rfl, ?_⟩
    show Q (.bl (decide (V.str d.shown = V.str d.shown))) H
    rw [decide_eq_true rfl]
    exact q
end
end GD
namespace CC
open PySem L2 TL GH
abbrev sIsRight : Stmt := tp 45
abbrev sLaw : Stmt := tp 46
def spIsRight (K : PySem.W.Frag) : Sp := fun vs H Q _ => ∃ (w : Nat) (g : Addr) (rs : List R), vs = [.int (w : Int), .ref g] ∧ Given K H g w rs ∧ ∀ H', Same H H' → Q (.bl true) H'
def spLaw (K : PySem.W.Frag) : Sp := fun vs H Q _ => ∃ (a : Addr) (ns : List Int), vs = [.ref a] ∧ SqL K H a (ns.map V.int) ∧ ns.length ≤ 63 ∧ ∀ H', Q (.bl true) H'
theorem new_view {H : Hp} {p : Addr} {o : HO} (h : H p = none) : Same H (wo (upd H p o) p) := fun b u e => by
  rw [wo_ne (ne_of_none e h), upd_ne (ne_of_none e h)]
  exact e
theorem dps_of {K : PySem.W.Frag} {H : Hp} : ∀ {vs : List V} {ds : List PyData}, vs.length = ds.length → (∀ (j : Nat) (v : V) (d : PyData), vs[j]? = some v → ds[j]? = some d → Dp K H v d) → DpAll K H vs ds
  | [], [], _, _ => .nil
  | [], _ :: _, h, _ => by simp at h
  | _ :: _, [], h, _ => by simp at h
  | v :: vs, d :: ds, h, k => .cons (k 0 v d rfl rfl) (dps_of (by simpa using h) fun j v d e1 e2 => k (j + 1) v d (by simpa using e1) (by simpa using e2))
/-- a rule twice -/
def two2 (r : R) : PyData := .tuple [r.d, r.d]
theorem sd_two {w : Nat} {L : List R} (hw : w ≤ 6) (ho : ∀ r ∈ L, r.ok w) (hl : L.length ≤ 60) : GD.SD 1000000 64 (.list (L.map two2)) :=
  (GD.SD.list (m := 128) (n := 2) (k := 60) (fun d hd => by
    obtain ⟨r, hr, rfl⟩ := List.mem_map.mp hd
    refine GD.SD.tuple (m := 63) (n := 1) (k := 2) (fun d hd => ?_) (by show 2 ≤ 2; decide)
    have e : d = r.d := by simpa using hd
    rw [e]
    exact sd_r hw (ho r hr)) (by rw [List.length_map]; exact hl)).up (by decide) (by decide)
section
variable {P : Program} {w : World} {K : PySem.W.Frag} {mg : Str → Option Value} {base : Heap} {kA : Addr}
abbrev nIR : List Str := ["_law_width", "_law_given", "_law_rules_here", "_law_due_here", "_law_one"]
theorem scIsRight : FnScope nIR ["_law_width", "_law_given"] (defScope sIsRight) := ⟨rfl, rfl, rfl, by decide +kernel, rfl, by decide +kernel, by decide +kernel⟩
theorem ok_isright {k : Nat} {C f : Addr} {fd : FuncData} (F : Fun K "_law_is_right" "_law_is_right" sIsRight f fd) (T : Glb K mg kA) (cL : Cal P w K mg base "_law_list" ["_law_width", "_law_rules_here"] (spList K C) 7) (cD : Cal P w K mg base "_law_due" ["_law_width", "_law_rules_here"] (spDueL K) 3)
    (cF : CalY P w K mg base "following" ["rules"] (spFolG K C) 4) (cY : KCalY P w K mg base "following" ["rules"] 1000 (spFolY K C) 4) (cE : GD.CalG P w K mg base "_law_is_equal" ["_law_actual", "_law_expected"] (GD.spEqD K) 1) : GD.FnG P w K mg base CX0 (k + 11) f fd ["_law_width", "_law_given"] (spIsRight K) := by
  have GL := cL.ok (k + 10) (by omega)
  have GD1 := cD.ok (k + 10) (by omega)
  have GF := cF.ok (k + 7) (by omega)
  have GY := cY.ok (k + 4) (by omega)
  have GE := cE.ok (k + 10) (by omega)
  refine GD.fun_okG F scIsRight (fun vs H Q E h => ?_) (fun cdv A outer s H vs Q E calm hr h => ?_)
  · obtain ⟨w, g, rs, rfl, _⟩ := h
    rfl
  · obtain ⟨w, g, rs, rfl, gv, q⟩ := h
    obtain ⟨us, hg, dp, ho, nd, w1, w6⟩ := id gv
    have n := scIsRight.nd
    have hr7 := hr.mono (show k + 7 ≤ k + 10 by omega)
    refine ⟨_, pss_cons (ps_par (i := 2) (j := 3) rfl n rfl rfl (by decide) rfl rfl (pa_cons (pe_call GL hr rfl cL.g cL.kp cL.b .nil pass0 (pa_cons (pv 0) (pa_cons (pv 1) pa_nil))) (pa_cons (pe_call GD1 hr rfl cD.g cD.kp cD.b .nil pass0 (pa_cons (pv 0) (pa_cons (pv 1) pa_nil))) pa_nil)) (by rfl))
      (pss_cons (ps_if (pt_not (pt_val (GD.pe_callG GE calm hr rfl cE.g cE.kp cE.b pass0 (pa_cons (pe_lst (pa_cons (pe_listG (pgen_call GF hr7 rfl cF.g cF.kp cF.b .nil (pa_cons (pv 2) pa_nil)) pass0X nostop0 hr (by rfl) T.lst (by decide +kernel)) (pa_cons (pe_listG (pgen_call GF hr7 rfl cF.g cF.kp cF.b .nil (pa_cons (pv 2) pa_nil)) pass0X nostop0 hr (by rfl) T.lst (by decide +kernel)) pa_nil)))
          (pa_cons (pe_lst (pa_cons (pv 3) (pa_cons (pv 3) pa_nil))) pa_nil))))) (pss_one (ps_ret pe_bl)) pss_nil)
      (pss_one (ps_ret (GD.pe_callG GE calm hr rfl cE.g cE.kp cE.b pass0 (pa_cons (KH.pe_listZY (i := 2) (y := "_law_rules_here") GY hr rfl rfl cY.g cY.kp cY.b (by rfl) T.lst (by rfl) T.zip rfl (.inl rfl))
          (pa_cons (pe_lc (own := [("_law_one", 4)]) (g := gName 4) (tt := tYes) (te := tTup (tCons (tVar 4) (tCons (tVar 4) tNil))) rfl n (pi_list (pv 3)) (blkOk_by (N := nIR) (sc := defScope sIsRight) (by decide +kernel)) (fun _ _ _ _ _ => pg_name (i := 4) n rfl (.inl rfl)) (fun _ _ _ _ _ => pts_nil) (fun _ _ _ _ _ => pe_tup (pa_cons (pv 4) (pa_cons (pv 4) pa_nil)))) pa_nil)))))), ?_⟩
    have rl := few_rules w6 ho nd
    refine ⟨_, rfl, _, rfl, w, g, rs, rfl, gv, fun x H1 s1 nx ra => ?_⟩
    refine ⟨_, rfl, _, rfl, w, g, us, rs, rfl, same_l s1 hg, dps_same s1 _ _ dp, ho, w6, rl, fun pd ud F1 H2 s2 npd hpd dd hF => ?_⟩
    refine ⟨_, _, rfl, ?_⟩
    have ra2 := ra.same s2
    have fo : ∀ r ∈ folL F1 w, r.ok w := folL_ok
    have fn := folL_nodup (F := F1) w6
    have fl := few_rules w6 fo fn
    have sdL := sd_rs w6 fo fl
    -- both lists
    refine ⟨_, rfl, x, w, rs, rfl, ra2, ho, w6, rl, fun uf G1 H3 s3 df hG1 pf npf => ?_⟩
    rw [fol_congr hG1 hF] at df
    have s4 : Same H3 (upd H3 pf (.lst uf)) := same_new npf
    have hpf : (upd H3 pf (.lst uf)) pf = some (.lst uf) := upd_same
    generalize upd H3 pf (.lst uf) = H4 at s4 hpf
    refine ⟨_, rfl, x, w, rs, rfl, ra2.same (s3.trans s4), ho, w6, rl, fun ug G2 H5 s5 dg hG2 pg npg => ?_⟩
    rw [fol_congr hG2 hF] at dg
    have s6 : Same H5 (upd H5 pg (.lst ug)) := same_new npg
    have hpg : (upd H5 pg (.lst ug)) pg = some (.lst ug) := upd_same
    generalize upd H5 pg (.lst ug) = H6 at s6 hpg
    refine ⟨(by show 2 ≤ sizeLine; decide), fun l1 nl1 => ?_⟩
    have s7 : Same H6 (upd H6 l1 (.lst [.ref pf, .ref pg])) := same_new nl1
    have hl1 : (upd H6 l1 (.lst [.ref pf, .ref pg])) l1 = some (.lst [.ref pf, .ref pg]) := upd_same
    generalize upd H6 l1 (.lst [.ref pf, .ref pg]) = H7 at s7 hl1
    refine ⟨_, rfl, _, rfl, (by show 2 ≤ sizeLine; decide), fun l2 nl2 => ?_⟩
    have s8 : Same H7 (upd H7 l2 (.lst [.ref pd, .ref pd])) := same_new nl2
    have hl2 : (upd H7 l2 (.lst [.ref pd, .ref pd])) l2 = some (.lst [.ref pd, .ref pd]) := upd_same
    generalize upd H7 l2 (.lst [.ref pd, .ref pd]) = H8 at s8 hl2
    have s28 : Same H2 H8 := s3.trans (s4.trans (s5.trans (s6.trans (s7.trans s8))))
    have s48 : Same H4 H8 := s5.trans (s6.trans (s7.trans s8))
    have s68 : Same H6 H8 := s7.trans s8
    have dF : Dp K H8 (.ref pf) (.list ((folL F1 w).map R.d)) := .lst (SqL.of (s48 _ _ hpf)) (dps_same (s4.trans s48) _ _ df)
    have dG : Dp K H8 (.ref pg) (.list ((folL F1 w).map R.d)) := .lst (SqL.of (s68 _ _ hpg)) (dps_same (s6.trans s68) _ _ dg)
    have dD : Dp K H8 (.ref pd) (.list ((folL F1 w).map R.d)) := .lst (SqL.of (s28 _ _ hpd)) (dps_same s28 _ _ dd)
    have sd2 : GD.SD 1000000 64 (.list [.list ((folL F1 w).map R.d), .list ((folL F1 w).map R.d)]) := (GD.SD.list (m := 3840) (n := 2) (k := 2) (fun d hd => by
      rcases List.mem_cons.mp hd with rfl | hd
      · exact sdL
      · rcases List.mem_cons.mp hd with rfl | hd
        · exact sdL
        · cases hd) (by show 2 ≤ 2; decide)).up (by decide) (by decide)
    refine ⟨.ref l1, .ref l2, _, rfl, .lst (SqL.of (s8 _ _ hl1)) (.cons dF (.cons dG .nil)), .lst (SqL.of hl2) (.cons dD (.cons dD .nil)), sd2, _, rfl, iteF ?_⟩
    -- walked side by side
    have ra8 := ra2.same s28
    have due8 : DpAll K H8 ud ((folL F1 w).map R.d) := dps_same s28 _ _ dd
    have hpd8 : H8 pd = some (.lst ud) := s28 _ _ hpd
    clear hpf hpg hl1 hl2 dF dG dD
    have F1F : ∀ G : R → Bool, (∀ r, G r = true ↔ Fol rs r) → folL G w = folL F1 w := fun G h => fol_congr (fun r _ => h r) hF
    have spY : spFolY K C [.ref x] H8 (fun i v H => ∃ r, (folL F1 w)[i]? = some r ∧ Dp K H v r.d) (fun i _ => i = (folL F1 w).length) := ⟨x, w, rs, rfl, ra8, ho, w6, rl, fun G hG => by
      rw [F1F G hG]
      exact ⟨fun i v H2 r _ e d => ⟨r, e, d⟩, fun _ _ => rfl⟩⟩
    refine ⟨.ref x, rfl, _, _, _, _, spY, spY, by decide, ?_, fun S ts H9 s9 nS pr en => ?_⟩
    · rintro i v H6 H7 ⟨r, e, _⟩ _ en
      have := (List.getElem?_eq_some_iff.mp e).1
      omega
    have s10 : Same H9 (upd H9 S (.lst (ts.map V.ref))) := same_new nS
    have hS : (upd H9 S (.lst (ts.map V.ref))) S = some (.lst (ts.map V.ref)) := upd_same
    generalize upd H9 S (.lst (ts.map V.ref)) = H10 at s10 hS
    have dS : DpAll K H10 (ts.map V.ref) ((folL F1 w).map two2) := by
      refine dps_of (by rw [List.length_map, List.length_map]; exact en) fun j v d hv hd => ?_
      rw [List.getElem?_map] at hv hd
      cases ht : ts[j]? with
      | none => rw [ht] at hv; cases hv
      | some t =>
        cases hr2 : (folL F1 w)[j]? with
        | none => rw [hr2] at hd; cases hd
        | some r =>
          rw [ht] at hv
          rw [hr2] at hd
          cases hv
          cases hd
          obtain ⟨a, b, h1, ⟨Ha, sa, ra, ea, da⟩, ⟨Hb, sb, rb, eb, db⟩⟩ := pr j t ht
          rw [hr2] at ea eb
          cases ea
          cases eb
          exact .tup (.inl (.inl (s10 _ _ h1))) (.cons (dp_same (sa.trans s10) _ _ da) (.cons (dp_same (sb.trans s10) _ _ db) .nil))
    have s810 := s9.trans s10
    have ul : ud.length = (folL F1 w).length := by rw [dps_len due8, List.length_map]
    refine ⟨_, rfl, pd, rfl, ⟨_, SqL.of (s810 _ _ hpd8)⟩, fun D nD => ?_⟩
    refine lc_list (xs := ud) (fun i H' => MadeF two2 K H10 D i H' ((folL F1 w).take i)) MadeF.start (fun i H' _ z => SqL.of (z.old nD _ _ (s810 _ _ hpd8))) ?_ ?_
    · intro i v H' hv p
      obtain ⟨r, hr2, dr⟩ := dps_rat due8 hv
      have il : i < (folL F1 w).length := (List.getElem?_eq_some_iff.mp hr2).1
      have o' := p.old nD
      refine ⟨rfl, yes_if ?_⟩
      refine ⟨_, rfl, _, rfl, (by show 2 ≤ sizeLine; decide), fun t nt => ?_⟩
      rw [SG.take_one hr2]
      have dv : Dp K (wo (upd H' t (.tup [v, v])) D) v r.d := by
        obtain ⟨u9, _, hD9, _⟩ := id p
        have nDt : D ≠ t := ne_of_none hD9 nt
        refine dp_same (fun b o e => ?_) _ _ (dp_same s810 _ _ dr)
        have bD : b ≠ D := ne_of_none e nD
        have e2 := o' _ _ e
        rw [wo_ne bD, upd_ne (ne_of_none e2 nt)]
        exact e2
      exact p.push (r := r) (by omega) (Nat.lt_succ_self _) (same_new nt) (.tup (p.tup nt) (.cons dv (.cons dv .nil)))
    · intro H' p
      rw [ul, List.take_length] at p
      have o' := p.old nD
      obtain ⟨u9, _, hD9, d9, _⟩ := p
      have sdT := sd_two w6 fo fl
      exact ⟨.ref S, .ref D, _, rfl, .lst (SqL.of (o' _ _ hS)) (dps_same o' _ _ dS), .lst (SqL.of hD9) (dps_same (wo_le D) _ _ d9), sdT, q H' (s1.trans (s2.trans (s28.trans (s810.trans o'))))⟩
abbrev nLw : List Str := ["_law_script", "_law_index", "_law_source_here", "_law_lap", "_law_width"]
theorem scLaw : FnScope nLw ["_law_script"] (defScope sLaw) := ⟨rfl, rfl, rfl, by decide +kernel, rfl, by decide +kernel, by decide +kernel⟩
theorem ok_law {k : Nat} {f : Addr} {fd : FuncData} (F : Fun K "law" "law" sLaw f fd) (T : Glb K mg kA) (cI : GD.CalG P w K mg base "_law_is_right" ["_law_width", "_law_given"] (spIsRight K) 11) (cN : Cal P w K mg base "_law_nearly" ["_law_source_here"] (spNearly K) 2)
    (cU : Cal P w K mg base "_law_rules" ["_law_source_here", "_law_width"] (spRules K) 4) (cD : Cal P w K mg base "_law_draw" ["_law_source_here", "_law_many"] spDraw2 1) (cC : Cal P w K mg base "_law_cell" ["_law_script", "_law_index"] (spCell K) 1) (cS : Cal P w K mg base "_law_source" ["_law_cell_here"] spSource 1) : GD.FnG P w K mg base CX0 (k + 12) f fd ["_law_script"] (spLaw K) := by
  have GI := cI.ok (k + 11) (by omega)
  have GN := cN.ok (k + 11) (by omega)
  have GU := cU.ok (k + 11) (by omega)
  have GDr := cD.ok (k + 11) (by omega)
  have GC := cC.ok (k + 11) (by omega)
  have GS := cS.ok (k + 11) (by omega)
  refine GD.fun_okG F scLaw (fun vs H Q E h => ?_) (fun cdv A outer s H vs Q E calm hr h => ?_)
  · obtain ⟨a, ns, rfl, _⟩ := h
    rfl
  · obtain ⟨a, ns, rfl, ha, hl, q⟩ := h
    have n := scLaw.nd
    refine ⟨_, pss_cons (ps_for PassesOwn.never rfl (pi_range1 (by rfl) T.rng (pa_cons (pe_callB (call_max2 rfl) (by rfl) T.max (by decide +kernel) (pa_cons pe_int (pa_cons (pe_callB (call_min2 rfl) (by rfl) T.min (by decide +kernel) (pa_cons (pe_callB call_len_seq (by rfl) T.len PySem.boot_len (pa_cons (pv 0) pa_nil)) (pa_cons pe_int pa_nil))) pa_nil))) pa_nil)) (pg_name (i := 1) n rfl (.inl rfl))
        (pss_cons (ps_set (i := 2) n rfl (.inl rfl) (pe_call GS hr rfl cS.g cS.kp cS.b .nil pass0 (pa_cons (pe_call GC hr rfl cC.g cC.kp cC.b .nil pass0 (pa_cons (pv 0) (pa_cons (pv 1) pa_nil))) pa_nil)))
        (pss_cons (ps_if (pt_not (pt_val (GD.pe_callG GI calm hr rfl cI.g cI.kp cI.b pass0 (pa_cons pe_int (pa_cons (pe_call GN hr rfl cN.g cN.kp cN.b .nil pass0 (pa_cons (pv 2) pa_nil)) pa_nil))))) (pss_one (ps_ret pe_bl)) pss_nil)
        (pss_one (ps_for PassesOwn.never rfl (pi_range1 (by rfl) T.rng (pa_cons pe_int pa_nil)) (pg_name (i := 3) n rfl (.inl rfl))
          (pss_cons (ps_set (i := 4) n rfl (.inl rfl) (pe_op op_add pe_int (pe_call GDr hr rfl cD.g cD.kp cD.b .nil pass0 (pa_cons (pv 2) (pa_cons pe_int pa_nil)))))
          (pss_one (ps_if (pt_not (pt_val (GD.pe_callG GI calm hr rfl cI.g cI.kp cI.b pass0 (pa_cons (pv 4) (pa_cons (pe_call GU hr rfl cU.g cU.kp cU.b .nil pass0 (pa_cons (pv 2) (pa_cons (pv 4) pa_nil))) pa_nil))))) (pss_one (ps_ret pe_bl)) pss_nil))))))))
      (pss_one (ps_ret pe_bl)), ?_⟩
    refine ⟨_, rfl, a, _, rfl, .inl ha, _, _, rfl, _, _, rfl, _, rfl, ?_, ?_, ?_⟩
    · split <;> split <;> omega
    · rw [List.length_map]
      split <;> split <;> omega
    generalize (if (if (2 : Int) < (((ns.map V.int).length : Nat) : Int) then (2 : Int) else (((ns.map V.int).length : Nat) : Int)) > 1 then (if (2 : Int) < (((ns.map V.int).length : Nat) : Int) then (2 : Int) else (((ns.map V.int).length : Nat) : Int)) else (1 : Int)) = top
    refine for_range (lo := 0) (n := top.toNat) (fun i σ H1 => ∃ y1 y2 y3 y4, σ = [some (.ref a), y1, y2, y3, y4] ∧ SqL K H1 a (ns.map V.int)) ⟨none, none, none, none, rfl, ha⟩ ?_ ?_
    · rintro i σ H1 hi ⟨y1, y2, y3, y4, rfl, ha1⟩
      refine ⟨_, rfl, _, rfl, a, ns, i, by rw [Int.zero_add]; rfl, ha1, fun z => ?_⟩
      refine ⟨z, rfl, fun p o np ho => ?_⟩
      have v2 : SqL K (wo (upd H1 p o) p) a (ns.map V.int) := same_l (new_view np) ha1
      have s2 : Src (upd H1 p o) p := ⟨o, upd_same, ho⟩
      generalize upd H1 p o = H2 at v2 s2
      refine ⟨_, rfl, p, rfl, s2, fun g rs H3 rn3 gv => ?_⟩
      refine ⟨6, g, rs, rfl, gv, fun H4 s4 => ⟨_, rfl, iteF ?_⟩⟩
      have rn4 := rn3.grow s4
      have v4 := same_l rn4.same v2
      refine ⟨_, rfl, by decide, by decide, ?_⟩
      refine for_range (lo := 0) (n := ((6 : Int)).toNat) (fun j σ H5 => ∃ y1 y3 y4, σ = [some (.ref a), y1, some (.ref p), y3, y4] ∧ SqL K (wo H5 p) a (ns.map V.int) ∧ Src H5 p) ⟨_, _, _, rfl, v4, rn4.src⟩ ?_ ?_
      · rintro j σ H5 hj ⟨y1, y3, y4, rfl, v5, s5⟩
        refine ⟨_, rfl, p, 6, rfl, s5, by decide, by decide, fun d H6 hd rn6 => ⟨_, _, rfl, rfl, ?_⟩⟩
        have ew : (1 + (d : Int)) = ((d + 1 : Nat) : Int) := by omega
        refine ⟨_, rfl, _, rfl, _, rfl, p, d + 1, by show [V.ref p, V.int (1 + (d : Int))] = _; rw [ew], rn6.src, by omega, by omega, fun g rs H7 rn7 gv => ?_⟩
        refine ⟨d + 1, g, rs, by show [V.int (1 + (d : Int)), V.ref g] = _; rw [ew], gv, fun H8 s8 => ⟨_, rfl, iteF ?_⟩⟩
        have rn8 := (rn6.trans rn7).grow s8
        exact ⟨_, _, _, rfl, same_l rn8.same v5, rn8.src⟩
      · rintro σ H5 ⟨y1, y3, y4, rfl, v5, s5⟩
        exact ⟨_, _, _, _, rfl, same_l (wo_le p) v5⟩
    · rintro σ H1 ⟨y1, y2, y3, y4, rfl, ha1⟩
      exact q H1
end
end CC
namespace CC
open PySem L2 TL
theorem df_mk {K : PySem.W.Frag} {h : Heap} {mg : Str → Option Value} {x : Str} {st : Stmt} {ps : List Str} {f : Addr} {fd : FuncData} (X : K.In h) (G : h.Ns mainGlobals mg) (a : PySem.W.nsIn K mainGlobals x = some (some (.ref f))) (F : Fun K x x st f fd) (b : Binds K fd ps []) : Nonempty (Df K mg x st ps) := ⟨⟨f, fd, F, b, PySem.W.mg_of X G a⟩⟩
theorem kit_self {K : PySem.W.Frag} {C : Addr} : PySem.W.kitOne K (.ref C) (.ref C) = some true := by
  unfold PySem.W.kitOne
  exact if_pos (by simp)
theorem raw0 {P : Program} {w : World} {K : PySem.W.Frag} {mg : Str → Option Value} {base : Heap} {CX : CXT} {k : Nat} {f : Addr} {fd : FuncData} {ps : List Str} {sp : Sp} (F : FnOk P w K mg base CX k f fd ps sp) (b : Binds K fd ps []) : FnR P w K mg base CX k f sp :=
  (F.raw b .nil).imp fun vs H Q E h => by
    show sp (vs ++ []) H Q E
    rw [List.append_nil]
    exact h
theorem mk_is_an_integer {K : PySem.W.Frag} {h : Heap} {mg : Str → Option Value} {f : Addr} {od an : Option Addr} {sl : Array (Option Value)} {oc kV dc pm cd ct : Value} (X : K.In h) (G : h.Ns mainGlobals mg) (a : PySem.W.nsIn K mainGlobals "is_an_integer" = some (some (.ref f)))
    (l : K.lookup f = some ⟨oc, od, .func (PySem.W.fnOf "is_an_integer" "is_an_integer" (defArgs sIsInt) (defBody sIsInt) (defScope sIsInt) .none kV dc pm an cd ct), sl⟩) (c : PySem.W.codeIn K cd "is_an_integer" = true) (k : PySem.W.keepIn K (.ref f) = true) : Nonempty (Df K mg "is_an_integer" sIsInt ["thing"]) :=
  have F := fun_mk (st := sIsInt) l c k
  df_mk X G a F (F.binds (ps := ["thing"]) fun _ _ _ _ _ _ us hl => match us, hl with | [_], _ => rfl)
theorem mk_is_width {K : PySem.W.Frag} {h : Heap} {mg : Str → Option Value} {f : Addr} {od an : Option Addr} {sl : Array (Option Value)} {oc kV dc pm cd ct : Value} (X : K.In h) (G : h.Ns mainGlobals mg) (a : PySem.W.nsIn K mainGlobals "is_width" = some (some (.ref f)))
    (l : K.lookup f = some ⟨oc, od, .func (PySem.W.fnOf "is_width" "is_width" (defArgs sIsWidth) (defBody sIsWidth) (defScope sIsWidth) .none kV dc pm an cd ct), sl⟩) (c : PySem.W.codeIn K cd "is_width" = true) (k : PySem.W.keepIn K (.ref f) = true) : Nonempty (Df K mg "is_width" sIsWidth ["thing"]) :=
  have F := fun_mk (st := sIsWidth) l c k
  df_mk X G a F (F.binds (ps := ["thing"]) fun _ _ _ _ _ _ us hl => match us, hl with | [_], _ => rfl)
theorem mk_is_column {K : PySem.W.Frag} {h : Heap} {mg : Str → Option Value} {f : Addr} {od an : Option Addr} {sl : Array (Option Value)} {oc kV dc pm cd ct : Value} (X : K.In h) (G : h.Ns mainGlobals mg) (a : PySem.W.nsIn K mainGlobals "is_column" = some (some (.ref f)))
    (l : K.lookup f = some ⟨oc, od, .func (PySem.W.fnOf "is_column" "is_column" (defArgs sIsCol) (defBody sIsCol) (defScope sIsCol) .none kV dc pm an cd ct), sl⟩) (c : PySem.W.codeIn K cd "is_column" = true) (k : PySem.W.keepIn K (.ref f) = true) : Nonempty (Df K mg "is_column" sIsCol ["width", "thing"]) :=
  have F := fun_mk (st := sIsCol) l c k
  df_mk X G a F (F.binds (ps := ["width", "thing"]) fun _ _ _ _ _ _ us hl => match us, hl with | [_, _], _ => rfl)
theorem mk_is_rule {K : PySem.W.Frag} {h : Heap} {mg : Str → Option Value} {f : Addr} {od an : Option Addr} {sl : Array (Option Value)} {oc kV dc pm cd ct : Value} (X : K.In h) (G : h.Ns mainGlobals mg) (a : PySem.W.nsIn K mainGlobals "is_rule" = some (some (.ref f)))
    (l : K.lookup f = some ⟨oc, od, .func (PySem.W.fnOf "is_rule" "is_rule" (defArgs sIsRule) (defBody sIsRule) (defScope sIsRule) .none kV dc pm an cd ct), sl⟩) (c : PySem.W.codeIn K cd "is_rule" = true) (k : PySem.W.keepIn K (.ref f) = true) : Nonempty (Df K mg "is_rule" sIsRule ["width", "thing"]) :=
  have F := fun_mk (st := sIsRule) l c k
  df_mk X G a F (F.binds (ps := ["width", "thing"]) fun _ _ _ _ _ _ us hl => match us, hl with | [_, _], _ => rfl)
theorem mk_every_rule {K : PySem.W.Frag} {h : Heap} {mg : Str → Option Value} {f : Addr} {od an : Option Addr} {sl : Array (Option Value)} {oc kV dc pm cd ct : Value} (X : K.In h) (G : h.Ns mainGlobals mg) (a : PySem.W.nsIn K mainGlobals "every_rule" = some (some (.ref f)))
    (l : K.lookup f = some ⟨oc, od, .func (PySem.W.fnOf "every_rule" "every_rule" (defArgs sEvery) (defBody sEvery) (defScope sEvery) .none kV dc pm an cd ct), sl⟩) (c : PySem.W.codeIn K cd "every_rule" = true) (k : PySem.W.keepIn K (.ref f) = true) : Nonempty (Df K mg "every_rule" sEvery ["width"]) :=
  have F := fun_mk (st := sEvery) l c k
  df_mk X G a F (F.binds (ps := ["width"]) fun _ _ _ _ _ _ us hl => match us, hl with | [_], _ => rfl)
theorem mk_line_of {K : PySem.W.Frag} {h : Heap} {mg : Str → Option Value} {f : Addr} {od an : Option Addr} {sl : Array (Option Value)} {oc kV dc pm cd ct : Value} (X : K.In h) (G : h.Ns mainGlobals mg) (a : PySem.W.nsIn K mainGlobals "line_of" = some (some (.ref f)))
    (l : K.lookup f = some ⟨oc, od, .func (PySem.W.fnOf "line_of" "line_of" (defArgs sLine) (defBody sLine) (defScope sLine) .none kV dc pm an cd ct), sl⟩) (c : PySem.W.codeIn K cd "line_of" = true) (k : PySem.W.keepIn K (.ref f) = true) : Nonempty (Df K mg "line_of" sLine ["rule"]) :=
  have F := fun_mk (st := sLine) l c k
  df_mk X G a F (F.binds (ps := ["rule"]) fun _ _ _ _ _ _ us hl => match us, hl with | [_], _ => rfl)
theorem mk_rules_of {K : PySem.W.Frag} {h : Heap} {mg : Str → Option Value} {f : Addr} {od an : Option Addr} {sl : Array (Option Value)} {oc kV dc pm cd ct : Value} (X : K.In h) (G : h.Ns mainGlobals mg) (a : PySem.W.nsIn K mainGlobals "rules_of" = some (some (.ref f)))
    (l : K.lookup f = some ⟨oc, od, .func (PySem.W.fnOf "rules_of" "rules_of" (defArgs sRulesOf) (defBody sRulesOf) (defScope sRulesOf) .none kV dc pm an cd ct), sl⟩) (c : PySem.W.codeIn K cd "rules_of" = true) (k : PySem.W.keepIn K (.ref f) = true) : Nonempty (Df K mg "rules_of" sRulesOf ["width", "text"]) :=
  have F := fun_mk (st := sRulesOf) l c k
  df_mk X G a F (F.binds (ps := ["width", "text"]) fun _ _ _ _ _ _ us hl => match us, hl with | [_, _], _ => rfl)
theorem mk_l_list {K : PySem.W.Frag} {h : Heap} {mg : Str → Option Value} {f : Addr} {od an : Option Addr} {sl : Array (Option Value)} {oc kV dc pm cd ct : Value} (X : K.In h) (G : h.Ns mainGlobals mg) (a : PySem.W.nsIn K mainGlobals "_law_list" = some (some (.ref f)))
    (l : K.lookup f = some ⟨oc, od, .func (PySem.W.fnOf "_law_list" "_law_list" (defArgs sList) (defBody sList) (defScope sList) .none kV dc pm an cd ct), sl⟩) (c : PySem.W.codeIn K cd "_law_list" = true) (k : PySem.W.keepIn K (.ref f) = true) : Nonempty (Df K mg "_law_list" sList ["_law_width", "_law_rules_here"]) :=
  have F := fun_mk (st := sList) l c k
  df_mk X G a F (F.binds (ps := ["_law_width", "_law_rules_here"]) fun _ _ _ _ _ _ us hl => match us, hl with | [_, _], _ => rfl)
theorem mk_l_reach {K : PySem.W.Frag} {h : Heap} {mg : Str → Option Value} {f : Addr} {od an : Option Addr} {sl : Array (Option Value)} {oc kV dc pm cd ct : Value} (X : K.In h) (G : h.Ns mainGlobals mg) (a : PySem.W.nsIn K mainGlobals "_law_reach" = some (some (.ref f)))
    (l : K.lookup f = some ⟨oc, od, .func (PySem.W.fnOf "_law_reach" "_law_reach" (defArgs sReach) (defBody sReach) (defScope sReach) .none kV dc pm an cd ct), sl⟩) (c : PySem.W.codeIn K cd "_law_reach" = true) (k : PySem.W.keepIn K (.ref f) = true) : Nonempty (Df K mg "_law_reach" sReach ["_law_width", "_law_pairs"]) :=
  have F := fun_mk (st := sReach) l c k
  df_mk X G a F (F.binds (ps := ["_law_width", "_law_pairs"]) fun _ _ _ _ _ _ us hl => match us, hl with | [_, _], _ => rfl)
theorem mk_l_downs {K : PySem.W.Frag} {h : Heap} {mg : Str → Option Value} {f : Addr} {od an : Option Addr} {sl : Array (Option Value)} {oc kV dc pm cd ct : Value} (X : K.In h) (G : h.Ns mainGlobals mg) (a : PySem.W.nsIn K mainGlobals "_law_downs" = some (some (.ref f)))
    (l : K.lookup f = some ⟨oc, od, .func (PySem.W.fnOf "_law_downs" "_law_downs" (defArgs sDowns) (defBody sDowns) (defScope sDowns) .none kV dc pm an cd ct), sl⟩) (c : PySem.W.codeIn K cd "_law_downs" = true) (k : PySem.W.keepIn K (.ref f) = true) : Nonempty (Df K mg "_law_downs" sDowns ["_law_rules_here"]) :=
  have F := fun_mk (st := sDowns) l c k
  df_mk X G a F (F.binds (ps := ["_law_rules_here"]) fun _ _ _ _ _ _ us hl => match us, hl with | [_], _ => rfl)
theorem mk_l_arrows {K : PySem.W.Frag} {h : Heap} {mg : Str → Option Value} {f : Addr} {od an : Option Addr} {sl : Array (Option Value)} {oc kV dc pm cd ct : Value} (X : K.In h) (G : h.Ns mainGlobals mg) (a : PySem.W.nsIn K mainGlobals "_law_arrows" = some (some (.ref f)))
    (l : K.lookup f = some ⟨oc, od, .func (PySem.W.fnOf "_law_arrows" "_law_arrows" (defArgs sArrows) (defBody sArrows) (defScope sArrows) .none kV dc pm an cd ct), sl⟩) (c : PySem.W.codeIn K cd "_law_arrows" = true) (k : PySem.W.keepIn K (.ref f) = true) : Nonempty (Df K mg "_law_arrows" sArrows ["_law_width", "_law_rules_here", "_law_kind"]) :=
  have F := fun_mk (st := sArrows) l c k
  df_mk X G a F (F.binds (ps := ["_law_width", "_law_rules_here", "_law_kind"]) fun _ _ _ _ _ _ us hl => match us, hl with | [_, _, _], _ => rfl)
theorem mk_l_all {K : PySem.W.Frag} {h : Heap} {mg : Str → Option Value} {f : Addr} {od an : Option Addr} {sl : Array (Option Value)} {oc kV dc pm cd ct : Value} (X : K.In h) (G : h.Ns mainGlobals mg) (a : PySem.W.nsIn K mainGlobals "_law_all" = some (some (.ref f)))
    (l : K.lookup f = some ⟨oc, od, .func (PySem.W.fnOf "_law_all" "_law_all" (defArgs sAll) (defBody sAll) (defScope sAll) .none kV dc pm an cd ct), sl⟩) (c : PySem.W.codeIn K cd "_law_all" = true) (k : PySem.W.keepIn K (.ref f) = true) : Nonempty (Df K mg "_law_all" sAll ["_law_width"]) :=
  have F := fun_mk (st := sAll) l c k
  df_mk X G a F (F.binds (ps := ["_law_width"]) fun _ _ _ _ _ _ us hl => match us, hl with | [_], _ => rfl)
theorem mk_l_due {K : PySem.W.Frag} {h : Heap} {mg : Str → Option Value} {f : Addr} {od an : Option Addr} {sl : Array (Option Value)} {oc kV dc pm cd ct : Value} (X : K.In h) (G : h.Ns mainGlobals mg) (a : PySem.W.nsIn K mainGlobals "_law_due" = some (some (.ref f)))
    (l : K.lookup f = some ⟨oc, od, .func (PySem.W.fnOf "_law_due" "_law_due" (defArgs sDue) (defBody sDue) (defScope sDue) .none kV dc pm an cd ct), sl⟩) (c : PySem.W.codeIn K cd "_law_due" = true) (k : PySem.W.keepIn K (.ref f) = true) : Nonempty (Df K mg "_law_due" sDue ["_law_width", "_law_rules_here"]) :=
  have F := fun_mk (st := sDue) l c k
  df_mk X G a F (F.binds (ps := ["_law_width", "_law_rules_here"]) fun _ _ _ _ _ _ us hl => match us, hl with | [_, _], _ => rfl)
theorem mk_check_rules {K : PySem.W.Frag} {h : Heap} {mg : Str → Option Value} {f : Addr} {od an : Option Addr} {sl : Array (Option Value)} {oc kV dc pm cd ct : Value} (X : K.In h) (G : h.Ns mainGlobals mg) (a : PySem.W.nsIn K mainGlobals "check_rules" = some (some (.ref f)))
    (l : K.lookup f = some ⟨oc, od, .func (PySem.W.fnOf "check_rules" "check_rules" (defArgs sChk) (defBody sChk) (defScope sChk) .none kV dc pm an cd ct), sl⟩) (c : PySem.W.codeIn K cd "check_rules" = true) (k : PySem.W.keepIn K (.ref f) = true) : Nonempty (Df K mg "check_rules" sChk ["rules"]) :=
  have F := fun_mk (st := sChk) l c k
  df_mk X G a F (F.binds (ps := ["rules"]) fun _ _ _ _ _ _ us hl => match us, hl with | [_], _ => rfl)
theorem mk_steps_down {K : PySem.W.Frag} {h : Heap} {mg : Str → Option Value} {f : Addr} {od an : Option Addr} {sl : Array (Option Value)} {oc kV dc pm cd ct : Value} (X : K.In h) (G : h.Ns mainGlobals mg) (a : PySem.W.nsIn K mainGlobals "steps_down" = some (some (.ref f)))
    (l : K.lookup f = some ⟨oc, od, .func (PySem.W.fnOf "steps_down" "steps_down" (defArgs sDown) (defBody sDown) (defScope sDown) .none kV dc pm an cd ct), sl⟩) (c : PySem.W.codeIn K cd "steps_down" = true) (k : PySem.W.keepIn K (.ref f) = true) : Nonempty (Df K mg "steps_down" sDown ["rules"]) :=
  have F := fun_mk (st := sDown) l c k
  df_mk X G a F (F.binds (ps := ["rules"]) fun _ _ _ _ _ _ us hl => match us, hl with | [_], _ => rfl)
theorem mk_first_ways {K : PySem.W.Frag} {h : Heap} {mg : Str → Option Value} {f : Addr} {od an : Option Addr} {sl : Array (Option Value)} {oc kV dc pm cd ct : Value} (X : K.In h) (G : h.Ns mainGlobals mg) (a : PySem.W.nsIn K mainGlobals "first_ways" = some (some (.ref f)))
    (l : K.lookup f = some ⟨oc, od, .func (PySem.W.fnOf "first_ways" "first_ways" (defArgs sFw) (defBody sFw) (defScope sFw) .none kV dc pm an cd ct), sl⟩) (c : PySem.W.codeIn K cd "first_ways" = true) (k : PySem.W.keepIn K (.ref f) = true) : Nonempty (Df K mg "first_ways" sFw ["pairs", "start"]) :=
  have F := fun_mk (st := sFw) l c k
  df_mk X G a F (F.binds (ps := ["pairs", "start"]) fun _ _ _ _ _ _ us hl => match us, hl with | [_, _], _ => rfl)
theorem mk_reached {K : PySem.W.Frag} {h : Heap} {mg : Str → Option Value} {f : Addr} {od an : Option Addr} {sl : Array (Option Value)} {oc kV dc pm cd ct : Value} (X : K.In h) (G : h.Ns mainGlobals mg) (a : PySem.W.nsIn K mainGlobals "reached" = some (some (.ref f)))
    (l : K.lookup f = some ⟨oc, od, .func (PySem.W.fnOf "reached" "reached" (defArgs sReached) (defBody sReached) (defScope sReached) .none kV dc pm an cd ct), sl⟩) (c : PySem.W.codeIn K cd "reached" = true) (k : PySem.W.keepIn K (.ref f) = true) : Nonempty (Df K mg "reached" sReached ["pairs", "start"]) :=
  have F := fun_mk (st := sReached) l c k
  df_mk X G a F (F.binds (ps := ["pairs", "start"]) fun _ _ _ _ _ _ us hl => match us, hl with | [_, _], _ => rfl)
theorem mk_links {K : PySem.W.Frag} {h : Heap} {mg : Str → Option Value} {f : Addr} {od an : Option Addr} {sl : Array (Option Value)} {oc kV dc pm cd ct : Value} (X : K.In h) (G : h.Ns mainGlobals mg) (a : PySem.W.nsIn K mainGlobals "links" = some (some (.ref f)))
    (l : K.lookup f = some ⟨oc, od, .func (PySem.W.fnOf "links" "links" (defArgs sLinks) (defBody sLinks) (defScope sLinks) .none kV dc pm an cd ct), sl⟩) (c : PySem.W.codeIn K cd "links" = true) (k : PySem.W.keepIn K (.ref f) = true) : Nonempty (Df K mg "links" sLinks ["width", "rules", "kind"]) :=
  have F := fun_mk (st := sLinks) l c k
  df_mk X G a F (F.binds (ps := ["width", "rules", "kind"]) fun _ _ _ _ _ _ us hl => match us, hl with | [_, _, _], _ => rfl)
theorem mk_following {K : PySem.W.Frag} {h : Heap} {mg : Str → Option Value} {f : Addr} {od an : Option Addr} {sl : Array (Option Value)} {oc kV dc pm cd ct : Value} (X : K.In h) (G : h.Ns mainGlobals mg) (a : PySem.W.nsIn K mainGlobals "following" = some (some (.ref f)))
    (l : K.lookup f = some ⟨oc, od, .func (PySem.W.fnOf "following" "following" (defArgs sFol) (defBody sFol) (defScope sFol) .none kV dc pm an cd ct), sl⟩) (c : PySem.W.codeIn K cd "following" = true) (k : PySem.W.keepIn K (.ref f) = true) : Nonempty (Df K mg "following" sFol ["rules"]) :=
  have F := fun_mk (st := sFol) l c k
  df_mk X G a F (F.binds (ps := ["rules"]) fun _ _ _ _ _ _ us hl => match us, hl with | [_], _ => rfl)
theorem mk_l_is_equal {K : PySem.W.Frag} {h : Heap} {mg : Str → Option Value} {f : Addr} {od an : Option Addr} {sl : Array (Option Value)} {oc kV dc pm cd ct : Value} (X : K.In h) (G : h.Ns mainGlobals mg) (a : PySem.W.nsIn K mainGlobals "_law_is_equal" = some (some (.ref f)))
    (l : K.lookup f = some ⟨oc, od, .func (PySem.W.fnOf "_law_is_equal" "_law_is_equal" (defArgs sIsEq) (defBody sIsEq) (defScope sIsEq) .none kV dc pm an cd ct), sl⟩) (c : PySem.W.codeIn K cd "_law_is_equal" = true) (k : PySem.W.keepIn K (.ref f) = true) : Nonempty (Df K mg "_law_is_equal" sIsEq ["_law_actual", "_law_expected"]) :=
  have F := fun_mk (st := sIsEq) l c k
  df_mk X G a F (F.binds (ps := ["_law_actual", "_law_expected"]) fun _ _ _ _ _ _ us hl => match us, hl with | [_, _], _ => rfl)
theorem mk_l_is_right {K : PySem.W.Frag} {h : Heap} {mg : Str → Option Value} {f : Addr} {od an : Option Addr} {sl : Array (Option Value)} {oc kV dc pm cd ct : Value} (X : K.In h) (G : h.Ns mainGlobals mg) (a : PySem.W.nsIn K mainGlobals "_law_is_right" = some (some (.ref f)))
    (l : K.lookup f = some ⟨oc, od, .func (PySem.W.fnOf "_law_is_right" "_law_is_right" (defArgs sIsRight) (defBody sIsRight) (defScope sIsRight) .none kV dc pm an cd ct), sl⟩) (c : PySem.W.codeIn K cd "_law_is_right" = true) (k : PySem.W.keepIn K (.ref f) = true) : Nonempty (Df K mg "_law_is_right" sIsRight ["_law_width", "_law_given"]) :=
  have F := fun_mk (st := sIsRight) l c k
  df_mk X G a F (F.binds (ps := ["_law_width", "_law_given"]) fun _ _ _ _ _ _ us hl => match us, hl with | [_, _], _ => rfl)
theorem mk_l_draw {K : PySem.W.Frag} {h : Heap} {mg : Str → Option Value} {f : Addr} {od an : Option Addr} {sl : Array (Option Value)} {oc kV dc pm cd ct : Value} (X : K.In h) (G : h.Ns mainGlobals mg) (a : PySem.W.nsIn K mainGlobals "_law_draw" = some (some (.ref f)))
    (l : K.lookup f = some ⟨oc, od, .func (PySem.W.fnOf "_law_draw" "_law_draw" (defArgs sDraw) (defBody sDraw) (defScope sDraw) .none kV dc pm an cd ct), sl⟩) (c : PySem.W.codeIn K cd "_law_draw" = true) (k : PySem.W.keepIn K (.ref f) = true) : Nonempty (Df K mg "_law_draw" sDraw ["_law_source_here", "_law_many"]) :=
  have F := fun_mk (st := sDraw) l c k
  df_mk X G a F (F.binds (ps := ["_law_source_here", "_law_many"]) fun _ _ _ _ _ _ us hl => match us, hl with | [_, _], _ => rfl)
theorem mk_l_nearly {K : PySem.W.Frag} {h : Heap} {mg : Str → Option Value} {f : Addr} {od an : Option Addr} {sl : Array (Option Value)} {oc kV dc pm cd ct : Value} (X : K.In h) (G : h.Ns mainGlobals mg) (a : PySem.W.nsIn K mainGlobals "_law_nearly" = some (some (.ref f)))
    (l : K.lookup f = some ⟨oc, od, .func (PySem.W.fnOf "_law_nearly" "_law_nearly" (defArgs sNearly) (defBody sNearly) (defScope sNearly) .none kV dc pm an cd ct), sl⟩) (c : PySem.W.codeIn K cd "_law_nearly" = true) (k : PySem.W.keepIn K (.ref f) = true) : Nonempty (Df K mg "_law_nearly" sNearly ["_law_source_here"]) :=
  have F := fun_mk (st := sNearly) l c k
  df_mk X G a F (F.binds (ps := ["_law_source_here"]) fun _ _ _ _ _ _ us hl => match us, hl with | [_], _ => rfl)
theorem mk_l_choose {K : PySem.W.Frag} {h : Heap} {mg : Str → Option Value} {f : Addr} {od an : Option Addr} {sl : Array (Option Value)} {oc kV dc pm cd ct : Value} (X : K.In h) (G : h.Ns mainGlobals mg) (a : PySem.W.nsIn K mainGlobals "_law_choose" = some (some (.ref f)))
    (l : K.lookup f = some ⟨oc, od, .func (PySem.W.fnOf "_law_choose" "_law_choose" (defArgs sChoose) (defBody sChoose) (defScope sChoose) .none kV dc pm an cd ct), sl⟩) (c : PySem.W.codeIn K cd "_law_choose" = true) (k : PySem.W.keepIn K (.ref f) = true) : Nonempty (Df K mg "_law_choose" sChoose ["_law_source_here", "_law_values"]) :=
  have F := fun_mk (st := sChoose) l c k
  df_mk X G a F (F.binds (ps := ["_law_source_here", "_law_values"]) fun _ _ _ _ _ _ us hl => match us, hl with | [_, _], _ => rfl)
theorem mk_l_mixed {K : PySem.W.Frag} {h : Heap} {mg : Str → Option Value} {f : Addr} {od an : Option Addr} {sl : Array (Option Value)} {oc kV dc pm cd ct : Value} (X : K.In h) (G : h.Ns mainGlobals mg) (a : PySem.W.nsIn K mainGlobals "_law_mixed" = some (some (.ref f)))
    (l : K.lookup f = some ⟨oc, od, .func (PySem.W.fnOf "_law_mixed" "_law_mixed" (defArgs sMixed) (defBody sMixed) (defScope sMixed) .none kV dc pm an cd ct), sl⟩) (c : PySem.W.codeIn K cd "_law_mixed" = true) (k : PySem.W.keepIn K (.ref f) = true) : Nonempty (Df K mg "_law_mixed" sMixed ["_law_source_here", "_law_many"]) :=
  have F := fun_mk (st := sMixed) l c k
  df_mk X G a F (F.binds (ps := ["_law_source_here", "_law_many"]) fun _ _ _ _ _ _ us hl => match us, hl with | [_, _], _ => rfl)
theorem mk_l_step {K : PySem.W.Frag} {h : Heap} {mg : Str → Option Value} {f : Addr} {od an : Option Addr} {sl : Array (Option Value)} {oc kV dc pm cd ct : Value} (X : K.In h) (G : h.Ns mainGlobals mg) (a : PySem.W.nsIn K mainGlobals "_law_step" = some (some (.ref f)))
    (l : K.lookup f = some ⟨oc, od, .func (PySem.W.fnOf "_law_step" "_law_step" (defArgs sStep) (defBody sStep) (defScope sStep) .none kV dc pm an cd ct), sl⟩) (c : PySem.W.codeIn K cd "_law_step" = true) (k : PySem.W.keepIn K (.ref f) = true) : Nonempty (Df K mg "_law_step" sStep ["_law_source_here", "_law_a", "_law_b", "_law_kinds"]) :=
  have F := fun_mk (st := sStep) l c k
  df_mk X G a F (F.binds (ps := ["_law_source_here", "_law_a", "_law_b", "_law_kinds"]) fun _ _ _ _ _ _ us hl => match us, hl with | [_, _, _, _], _ => rfl)
theorem mk_l_rules {K : PySem.W.Frag} {h : Heap} {mg : Str → Option Value} {f : Addr} {od an : Option Addr} {sl : Array (Option Value)} {oc kV dc pm cd ct : Value} (X : K.In h) (G : h.Ns mainGlobals mg) (a : PySem.W.nsIn K mainGlobals "_law_rules" = some (some (.ref f)))
    (l : K.lookup f = some ⟨oc, od, .func (PySem.W.fnOf "_law_rules" "_law_rules" (defArgs sRules) (defBody sRules) (defScope sRules) .none kV dc pm an cd ct), sl⟩) (c : PySem.W.codeIn K cd "_law_rules" = true) (k : PySem.W.keepIn K (.ref f) = true) : Nonempty (Df K mg "_law_rules" sRules ["_law_source_here", "_law_width"]) :=
  have F := fun_mk (st := sRules) l c k
  df_mk X G a F (F.binds (ps := ["_law_source_here", "_law_width"]) fun _ _ _ _ _ _ us hl => match us, hl with | [_, _], _ => rfl)
theorem mk_l_cell {K : PySem.W.Frag} {h : Heap} {mg : Str → Option Value} {f : Addr} {od an : Option Addr} {sl : Array (Option Value)} {oc kV dc pm cd ct : Value} (X : K.In h) (G : h.Ns mainGlobals mg) (a : PySem.W.nsIn K mainGlobals "_law_cell" = some (some (.ref f)))
    (l : K.lookup f = some ⟨oc, od, .func (PySem.W.fnOf "_law_cell" "_law_cell" (defArgs sCell) (defBody sCell) (defScope sCell) .none kV dc pm an cd ct), sl⟩) (c : PySem.W.codeIn K cd "_law_cell" = true) (k : PySem.W.keepIn K (.ref f) = true) : Nonempty (Df K mg "_law_cell" sCell ["_law_script", "_law_index"]) :=
  have F := fun_mk (st := sCell) l c k
  df_mk X G a F (F.binds (ps := ["_law_script", "_law_index"]) fun _ _ _ _ _ _ us hl => match us, hl with | [_, _], _ => rfl)
theorem mk_l_source {K : PySem.W.Frag} {h : Heap} {mg : Str → Option Value} {f : Addr} {od an : Option Addr} {sl : Array (Option Value)} {oc kV dc pm cd ct : Value} (X : K.In h) (G : h.Ns mainGlobals mg) (a : PySem.W.nsIn K mainGlobals "_law_source" = some (some (.ref f)))
    (l : K.lookup f = some ⟨oc, od, .func (PySem.W.fnOf "_law_source" "_law_source" (defArgs sSource) (defBody sSource) (defScope sSource) .none kV dc pm an cd ct), sl⟩) (c : PySem.W.codeIn K cd "_law_source" = true) (k : PySem.W.keepIn K (.ref f) = true) : Nonempty (Df K mg "_law_source" sSource ["_law_cell_here"]) :=
  have F := fun_mk (st := sSource) l c k
  df_mk X G a F (F.binds (ps := ["_law_cell_here"]) fun _ _ _ _ _ _ us hl => match us, hl with | [_], _ => rfl)
theorem mk_glb {K : PySem.W.Frag} {h : Heap} {mg : Str → Option Value} {kA : Addr} {t t1 t2 : Tok} {od : Option Addr} {n : Nat} {sl : Array (Option Value)} (X : K.In h) (G : h.Ns mainGlobals mg) (len : PySem.W.nsIn K mainGlobals "len" = some none) (max : PySem.W.nsIn K mainGlobals "max" = some none) (min : PySem.W.nsIn K mainGlobals "min" = some none) (isi : PySem.W.nsIn K mainGlobals "isinstance" = some none) (int : PySem.W.nsIn K mainGlobals "int" = some none) (bool : PySem.W.nsIn K mainGlobals "bool" = some none) (str : PySem.W.nsIn K mainGlobals "str" = some none) (tup : PySem.W.nsIn K mainGlobals "tuple" = some none) (rng : PySem.W.nsIn K mainGlobals "range" = some none) (lst : PySem.W.nsIn K mainGlobals "list" = some none) (all : PySem.W.nsIn K mainGlobals "all" = some none) (set : PySem.W.nsIn K mainGlobals "set" = some none) (enu : PySem.W.nsIn K mainGlobals "enumerate" = some none) (rep : PySem.W.nsIn K mainGlobals "repr" = some none) (srt : PySem.W.nsIn K mainGlobals "sorted" = some none) (zip : PySem.W.nsIn K mainGlobals "zip" = some none) (any : PySem.W.nsIn K mainGlobals "any" = some none) (sum : PySem.W.nsIn K mainGlobals "sum" = some none) (rev : PySem.W.nsIn K mainGlobals "reversed" = some none) (dic : PySem.W.nsIn K mainGlobals "dict" = some none) (typ : PySem.W.nsIn K mainGlobals "type" = some none)
    (wid : PySem.W.nsIn K mainGlobals "WIDEST" = some (some (.int 6 t))) (knd : PySem.W.nsIn K mainGlobals "KINDS" = some (some (.ref kA))) (kl : K.lookup kA = some ⟨.type "tuple", od, .seq #[.str "settles" t1, .str "within" t2] n, sl⟩) : Nonempty { z : Unit // ∃ kA, Glb K mg kA } :=
  ⟨⟨(), kA, ⟨PySem.W.mg_none_of X G len, PySem.W.mg_none_of X G max, PySem.W.mg_none_of X G min, PySem.W.mg_none_of X G isi, PySem.W.mg_none_of X G int, PySem.W.mg_none_of X G bool, PySem.W.mg_none_of X G str, PySem.W.mg_none_of X G tup, PySem.W.mg_none_of X G rng, PySem.W.mg_none_of X G lst, PySem.W.mg_none_of X G all, PySem.W.mg_none_of X G set, PySem.W.mg_none_of X G enu, PySem.W.mg_none_of X G rep, PySem.W.mg_none_of X G srt, PySem.W.mg_none_of X G zip, PySem.W.mg_none_of X G any, PySem.W.mg_none_of X G sum, PySem.W.mg_none_of X G rev, PySem.W.mg_none_of X G dic, PySem.W.mg_none_of X G typ, ⟨t, PySem.W.mg_of X G wid⟩, PySem.W.mg_of X G knd, ⟨_, _, _, kl, rfl, rfl, by show 2 ≤ sizeLine; decide, .cons ⟨t1, rfl⟩ (.cons ⟨t2, rfl⟩ .nil)⟩⟩⟩⟩
structure Kls (K : PySem.W.Frag) (mg : Str → Option Value) where
  C : Addr
  TC : Txt1 K mg C
  fN : Addr
  dN : FuncData
  FN : Fun K "__init__" "Rules.__init__" sInit fN dN
  M : Mk K C fN
  fD : Addr
  dD : FuncData
  FD : Fun K "read" "Rules.read" sRead fD dD
  bD : Binds K dD ["cls", "width", "text"] []
  mc : Value
  pD : Addr
  rD : ClX.CRead K C mc
  cD : ClX.CMet K C mc "read" pD fD
  ic : C8.InsC K C
  fW : Addr
  dW : FuncData
  FW : Fun K "width" "Rules.width" sPW fW dW
  bW : Binds K dW ["self"] []
  pW : Addr
  qW : PropOf K C "width" pW fW
  fR : Addr
  dR : FuncData
  FR : Fun K "rules" "Rules.rules" sPR fR dR
  bR : Binds K dR ["self"] []
  pR : Addr
  qR : PropOf K C "rules" pR fR
theorem mk_cls {K : PySem.W.Frag} {h : Heap} {mg : Str → Option Value} {C fN fD fW fR : Addr} {odN anN : Option Addr} {slN : Array (Option Value)} {ocN kVN dcN pmN cdN ctN : Value} {pD : Addr} {rest : List Value} {odD anD : Option Addr} {slD : Array (Option Value)} {ocD kVD dcD pmD cdD ctD : Value} {pW : Addr} {restW : List Value} {odW anW : Option Addr} {slW : Array (Option Value)} {ocW kVW dcW pmW cdW ctW : Value} {pR : Addr} {restR : List Value} {odR anR : Option Addr} {slR : Array (Option Value)} {ocR kVR dcR pmR cdR ctR : Value} (X : K.In h) (G : h.Ns mainGlobals mg)
    (aC : PySem.W.nsIn K mainGlobals "Rules" = some (some (.ref C))) (pg : PySem.W.plainGet K C Str.empty = true) (hd : PySem.W.hasDictIn K C = true) (po : PySem.W.plainOver K C = true) (sa : PySem.W.findIn K (.ref C) "__setattr__" = some (some (.builtin "object.__setattr__"))) (kc : PySem.W.keepIn K (.ref C) = true) (nS : PySem.W.findIn K (.ref C) "span" = some none) (nG : PySem.W.findIn K (.ref C) "given" = some none) (mk : PySem.W.makesIn K C = true) (aN : PySem.W.findIn K (.ref C) "__init__" = some (some (.ref fN))) (iN : PySem.W.isFn K (.ref fN) = true) (lN : K.lookup fN = some ⟨ocN, odN, .func (PySem.W.fnOf "__init__" "Rules.__init__" (defArgs sInit) (defBody sInit) (defScope sInit) .none kVN dcN pmN anN cdN ctN), slN⟩) (cN : PySem.W.codeIn K cdN "Rules.__init__" = true) (kN : PySem.W.keepIn K (.ref fN) = true) (rd : PySem.W.readsIn K C (.type "type") = true) (ga : PySem.W.specialIn K (.ref C) "__getattribute__" = some (some (.builtin "type.__getattribute__"))) (aD : PySem.W.findCls K (.ref C) (.type "type") "read" = some (.get (.builtin "classmethod.__get__") (.ref pD) .none (.ref C))) (rD : PySem.W.recIn K pD "classmethod" = some (.ref fD :: rest)) (iD : PySem.W.fnIn K fD = true) (lD : K.lookup fD = some ⟨ocD, odD, .func (PySem.W.fnOf "read" "Rules.read" (defArgs sRead) (defBody sRead) (defScope sRead) .none kVD dcD pmD anD cdD ctD), slD⟩) (cD : PySem.W.codeIn K cdD "Rules.read" = true) (kD : PySem.W.keepIn K (.ref fD) = true) (i1 : PySem.W.findIn K (.ref C) "__class__" = some (some (.builtin "object.__class__"))) (i2 : PySem.W.specialIn K (.builtin "object.__class__") "__get__" = some (some (.builtin "getset_descriptor.__get__"))) (i3 : PySem.W.takesIn K (.builtin "object.__class__") = some true) (i4 : PySem.W.mroIn K C (.type "object") = some true) (q1W : PySem.W.findIn K (.ref C) "width" = some (some (.ref pW))) (q2W : PySem.W.specialIn K (.ref pW) "__get__" = some (some (.builtin "property.__get__"))) (q3W : PySem.W.takesIn K (.ref pW) = some true) (q4W : PySem.W.recIn K pW "property" = some (.ref fW :: restW)) (lW : K.lookup fW = some ⟨ocW, odW, .func (PySem.W.fnOf "width" "Rules.width" (defArgs sPW) (defBody sPW) (defScope sPW) .none kVW dcW pmW anW cdW ctW), slW⟩) (cW : PySem.W.codeIn K cdW "Rules.width" = true) (kW : PySem.W.keepIn K (.ref fW) = true) (q1R : PySem.W.findIn K (.ref C) "rules" = some (some (.ref pR))) (q2R : PySem.W.specialIn K (.ref pR) "__get__" = some (some (.builtin "property.__get__"))) (q3R : PySem.W.takesIn K (.ref pR) = some true) (q4R : PySem.W.recIn K pR "property" = some (.ref fR :: restR)) (lR : K.lookup fR = some ⟨ocR, odR, .func (PySem.W.fnOf "rules" "Rules.rules" (defArgs sPR) (defBody sPR) (defScope sPR) .none kVR dcR pmR anR cdR ctR), slR⟩) (cR : PySem.W.codeIn K cdR "Rules.rules" = true) (kR : PySem.W.keepIn K (.ref fR) = true) : Nonempty (Kls K mg) :=
  have FN := fun_mk (st := sInit) lN cN kN
  have FD := fun_mk (st := sRead) lD cD kD
  have FW := fun_mk (st := sPW) lW cW kW
  have FR := fun_mk (st := sPR) lR cR kR
  ⟨⟨C, ⟨⟨pg, hd, po, sa⟩, nS, nG, PySem.W.mg_of X G aC⟩, fN, _, FN, ⟨mk, aN, iN, kc⟩, fD, _, FD, FD.binds (ps := ["cls", "width", "text"]) (fun _ _ _ _ _ _ us hl => match us, hl with | [_, _, _], _ => rfl), .type "type", pD, ⟨rd, ga⟩, ⟨aD, ⟨rest, rD⟩, iD⟩, ⟨⟨pg, hd, po, sa⟩, i1, i2, i3, i4, kit_self⟩, fW, _, FW, FW.binds (ps := ["self"]) (fun _ _ _ _ _ _ us hl => match us, hl with | [_], _ => rfl), pW, ⟨q1W, q2W, q3W, ⟨restW, q4W⟩⟩, fR, _, FR, FR.binds (ps := ["self"]) (fun _ _ _ _ _ _ us hl => match us, hl with | [_], _ => rfl), pR, ⟨q1R, q2R, q3R, ⟨restR, q4R⟩⟩⟩⟩
theorem all_mk {l : PySem.W.OpenLaw} {w : World} {K : PySem.W.Frag} {h : Heap} {mg : Str → Option Value} {fa f : Addr} {od an : Option Addr} {sl : Array (Option Value)} {oc kV dc pm cd ct : Value} (X : K.In h) (G : h.Ns mainGlobals mg) (hfa : mg "law" = some (.ref fa))
    (a : PySem.W.nsIn K mainGlobals "law" = some (some (.ref f))) (l1 : K.lookup f = some ⟨oc, od, .func (PySem.W.fnOf "law" "law" (defArgs sLaw) (defBody sLaw) (defScope sLaw) .none kV dc pm an cd ct), sl⟩) (c : PySem.W.codeIn K cd "law" = true) (k : PySem.W.keepIn K (.ref f) = true)
    (gb : Nonempty { z : Unit // ∃ kA, Glb K mg kA }) (kl : Nonempty (Kls K mg))   (m_is_an_integer : Nonempty (Df K mg "is_an_integer" sIsInt ["thing"])) (m_is_width : Nonempty (Df K mg "is_width" sIsWidth ["thing"])) (m_is_column : Nonempty (Df K mg "is_column" sIsCol ["width", "thing"])) (m_is_rule : Nonempty (Df K mg "is_rule" sIsRule ["width", "thing"])) (m_every_rule : Nonempty (Df K mg "every_rule" sEvery ["width"])) (m_line_of : Nonempty (Df K mg "line_of" sLine ["rule"])) (m_rules_of : Nonempty (Df K mg "rules_of" sRulesOf ["width", "text"])) (m_l_list : Nonempty (Df K mg "_law_list" sList ["_law_width", "_law_rules_here"])) (m_l_reach : Nonempty (Df K mg "_law_reach" sReach ["_law_width", "_law_pairs"])) (m_l_downs : Nonempty (Df K mg "_law_downs" sDowns ["_law_rules_here"])) (m_l_arrows : Nonempty (Df K mg "_law_arrows" sArrows ["_law_width", "_law_rules_here", "_law_kind"])) (m_l_all : Nonempty (Df K mg "_law_all" sAll ["_law_width"])) (m_l_due : Nonempty (Df K mg "_law_due" sDue ["_law_width", "_law_rules_here"])) (m_check_rules : Nonempty (Df K mg "check_rules" sChk ["rules"])) (m_steps_down : Nonempty (Df K mg "steps_down" sDown ["rules"])) (m_first_ways : Nonempty (Df K mg "first_ways" sFw ["pairs", "start"])) (m_reached : Nonempty (Df K mg "reached" sReached ["pairs", "start"])) (m_links : Nonempty (Df K mg "links" sLinks ["width", "rules", "kind"])) (m_following : Nonempty (Df K mg "following" sFol ["rules"])) (m_l_is_equal : Nonempty (Df K mg "_law_is_equal" sIsEq ["_law_actual", "_law_expected"])) (m_l_is_right : Nonempty (Df K mg "_law_is_right" sIsRight ["_law_width", "_law_given"])) (m_l_draw : Nonempty (Df K mg "_law_draw" sDraw ["_law_source_here", "_law_many"])) (m_l_nearly : Nonempty (Df K mg "_law_nearly" sNearly ["_law_source_here"])) (m_l_choose : Nonempty (Df K mg "_law_choose" sChoose ["_law_source_here", "_law_values"])) (m_l_mixed : Nonempty (Df K mg "_law_mixed" sMixed ["_law_source_here", "_law_many"])) (m_l_step : Nonempty (Df K mg "_law_step" sStep ["_law_source_here", "_law_a", "_law_b", "_law_kinds"])) (m_l_rules : Nonempty (Df K mg "_law_rules" sRules ["_law_source_here", "_law_width"])) (m_l_cell : Nonempty (Df K mg "_law_cell" sCell ["_law_script", "_law_index"])) (m_l_source : Nonempty (Df K mg "_law_source" sSource ["_law_cell_here"])) :
    ∃ fd : FuncData, (∀ (s : Shared) (v : Value), BindsTo s fd ⟨[v], []⟩ [("_law_script", v)]) ∧ ∀ base : Heap, K.In base → base.Ns mainGlobals mg → GD.FnG l.prog w K mg base CX0 12 fa fd ["_law_script"] (spLaw K) := by
  have e := hfa.symm.trans (PySem.W.mg_of X G a)
  cases e
  obtain ⟨⟨_, kA, T⟩⟩ := gb
  obtain ⟨Y⟩ := kl
  obtain ⟨x_is_an_integer⟩ := m_is_an_integer
  obtain ⟨x_is_width⟩ := m_is_width
  obtain ⟨x_is_column⟩ := m_is_column
  obtain ⟨x_is_rule⟩ := m_is_rule
  obtain ⟨x_every_rule⟩ := m_every_rule
  obtain ⟨x_line_of⟩ := m_line_of
  obtain ⟨x_rules_of⟩ := m_rules_of
  obtain ⟨x_l_list⟩ := m_l_list
  obtain ⟨x_l_reach⟩ := m_l_reach
  obtain ⟨x_l_downs⟩ := m_l_downs
  obtain ⟨x_l_arrows⟩ := m_l_arrows
  obtain ⟨x_l_all⟩ := m_l_all
  obtain ⟨x_l_due⟩ := m_l_due
  obtain ⟨x_check_rules⟩ := m_check_rules
  obtain ⟨x_steps_down⟩ := m_steps_down
  obtain ⟨x_first_ways⟩ := m_first_ways
  obtain ⟨x_reached⟩ := m_reached
  obtain ⟨x_links⟩ := m_links
  obtain ⟨x_following⟩ := m_following
  obtain ⟨x_l_is_equal⟩ := m_l_is_equal
  obtain ⟨x_l_is_right⟩ := m_l_is_right
  obtain ⟨x_l_draw⟩ := m_l_draw
  obtain ⟨x_l_nearly⟩ := m_l_nearly
  obtain ⟨x_l_choose⟩ := m_l_choose
  obtain ⟨x_l_mixed⟩ := m_l_mixed
  obtain ⟨x_l_step⟩ := m_l_step
  obtain ⟨x_l_rules⟩ := m_l_rules
  obtain ⟨x_l_cell⟩ := m_l_cell
  obtain ⟨x_l_source⟩ := m_l_source
  refine ⟨PySem.W.fnOf "law" "law" (defArgs sLaw) (defBody sLaw) (defScope sLaw) .none kV dc pm an cd ct, fun s v => .of_eq rfl, fun base _ _ => ?_⟩
  have c_is_an_integer : Cal l.prog w K mg base "is_an_integer" ["thing"] spIsInt 1 := Df.cal x_is_an_integer fun k => ok_isint (k := k) x_is_an_integer.F T
  have c_is_width : Cal l.prog w K mg base "is_width" ["thing"] spIsWidth 2 := Df.cal x_is_width fun k => ok_iswidth (k := k) x_is_width.F T c_is_an_integer
  have c_is_column : Cal l.prog w K mg base "is_column" ["width", "thing"] spIsCol 2 := Df.cal x_is_column fun k => ok_iscol (k := k) x_is_column.F T c_is_an_integer
  have c_is_rule : Cal l.prog w K mg base "is_rule" ["width", "thing"] (spIsRule K) 3 := Df.cal x_is_rule fun k => ok_isrule (k := k) x_is_rule.F T c_is_column
  have mkR : MakeR l.prog w K mg base Y.C 4 := ⟨Y.fN, Y.M, from_le fun k => ok_init (k := k) Y.FN T Y.TC c_is_width c_is_rule⟩
  have c_every_rule : Cal l.prog w K mg base "every_rule" ["width"] (spEvery K) 1 := Df.cal x_every_rule fun k => ok_every (k := k) x_every_rule.F T
  have c_line_of : Cal l.prog w K mg base "line_of" ["rule"] (spLine K) 1 := Df.cal x_line_of fun k => ok_line (k := k) x_line_of.F
  have c_rules_of : Cal l.prog w K mg base "rules_of" ["width", "text"] (spRulesOf K) 2 := Df.cal x_rules_of fun k => ok_rulesof (k := k) x_rules_of.F T c_every_rule c_line_of
  have rd : ReadR l.prog w K mg base Y.C 6 := ⟨Y.mc, Y.pD, Y.fD, Y.rD, Y.cD, from_le fun k => raw0 (ok_read (k := k) Y.FD T mkR c_is_width c_rules_of) Y.bD⟩
  have c__law_list : Cal l.prog w K mg base "_law_list" ["_law_width", "_law_rules_here"] (spList K Y.C) 7 := Df.cal x_l_list fun k => ok_list (k := k) x_l_list.F T Y.TC rd
  have c__law_reach : Cal l.prog w K mg base "_law_reach" ["_law_width", "_law_pairs"] (spReach K) 1 := Df.cal x_l_reach fun k => ok_reach (k := k) x_l_reach.F T
  have c__law_downs : Cal l.prog w K mg base "_law_downs" ["_law_rules_here"] (spDowns K) 1 := Df.cal x_l_downs fun k => ok_downs (k := k) x_l_downs.F
  have c__law_arrows : Cal l.prog w K mg base "_law_arrows" ["_law_width", "_law_rules_here", "_law_kind"] (spArrows K) 2 := Df.cal x_l_arrows fun k => ok_arrows (k := k) x_l_arrows.F T c__law_reach c__law_downs
  have c__law_all : Cal l.prog w K mg base "_law_all" ["_law_width"] (spAll K) 1 := Df.cal x_l_all fun k => ok_all (k := k) x_l_all.F T
  have c__law_due : Cal l.prog w K mg base "_law_due" ["_law_width", "_law_rules_here"] (spDueL K) 3 := Df.cal x_l_due fun k => ok_dueL (k := k) x_l_due.F T c__law_arrows c__law_reach c__law_all
  have ic : C8.InsC K Y.C := Y.ic
  have c_check_rules : Cal l.prog w K mg base "check_rules" ["rules"] (spChk K Y.C) 1 := Df.cal x_check_rules fun k => ok_chk (k := k) x_check_rules.F T Y.TC ic
  have c_steps_down : Cal l.prog w K mg base "steps_down" ["rules"] (spDown K) 1 := Df.cal x_steps_down fun k => ok_down (k := k) x_steps_down.F
  have c_first_ways : Cal l.prog w K mg base "first_ways" ["pairs", "start"] (spFw K) 1 := Df.cal x_first_ways fun k => ok_fw (k := k) x_first_ways.F T
  have c_reached : Cal l.prog w K mg base "reached" ["pairs", "start"] (spReached K) 2 := Df.cal x_reached fun k => ok_reached (k := k) x_reached.F T c_first_ways
  have c_links : Cal l.prog w K mg base "links" ["width", "rules", "kind"] (spLinks K) 3 := Df.cal x_links fun k => ok_links (k := k) x_links.F T c_steps_down c_reached
  have pW : Prp l.prog w K mg base Y.C "width" "span" := ⟨Y.pW, Y.fW, Y.dW, Y.qW, from_le fun k => ok_pw (k := k) Y.FW Y.TC, Y.bW⟩
  have pR : Prp l.prog w K mg base Y.C "rules" "given" := ⟨Y.pR, Y.fR, Y.dR, Y.qR, from_le fun k => ok_pr (k := k) Y.FR Y.TC, Y.bR⟩
  have c_following : CalY l.prog w K mg base "following" ["rules"] (spFolG K Y.C) 4 := calY x_following fun k => ok_fol (k := k) x_following.F T Y.TC pW pR c_check_rules c_links c_reached
  have kpW : KG.KPrp l.prog w K mg base Y.C "width" "span" := ⟨Y.pW, Y.fW, Y.dW, Y.qW, from_le fun k => kk_pw (k := k) Y.FW Y.TC, Y.bW⟩
  have kpR : KG.KPrp l.prog w K mg base Y.C "rules" "given" := ⟨Y.pR, Y.fR, Y.dR, Y.qR, from_le fun k => kk_pr (k := k) Y.FR Y.TC, Y.bR⟩
  have kc_check_rules : KG.KCal l.prog w K mg base "check_rules" ["rules"] (spChk K Y.C) 1 := ⟨x_check_rules.f, x_check_rules.fd, from_le fun k => kk_chk (k := k) x_check_rules.F T Y.TC ic, x_check_rules.F.kp, x_check_rules.b, x_check_rules.g⟩
  have kc_steps_down : KG.KCal l.prog w K mg base "steps_down" ["rules"] (spDown K) 1 := ⟨x_steps_down.f, x_steps_down.fd, from_le fun k => kk_down (k := k) x_steps_down.F, x_steps_down.F.kp, x_steps_down.b, x_steps_down.g⟩
  have kc_first_ways : KG.KCal l.prog w K mg base "first_ways" ["pairs", "start"] (spFw K) 1 := ⟨x_first_ways.f, x_first_ways.fd, from_le fun k => kk_fw (k := k) x_first_ways.F T, x_first_ways.F.kp, x_first_ways.b, x_first_ways.g⟩
  have kc_reached : KG.KCal l.prog w K mg base "reached" ["pairs", "start"] (spReached K) 2 := ⟨x_reached.f, x_reached.fd, from_le fun k => kk_reached (k := k) x_reached.F T kc_first_ways, x_reached.F.kp, x_reached.b, x_reached.g⟩
  have kc_links : KG.KCal l.prog w K mg base "links" ["width", "rules", "kind"] (spLinks K) 3 := ⟨x_links.f, x_links.fd, from_le fun k => kk_links (k := k) x_links.F T kc_steps_down kc_reached, x_links.F.kp, x_links.b, x_links.g⟩
  have folK : KCalY l.prog w K mg base "following" ["rules"] 1000 (spFolY K Y.C) 4 := ⟨x_following.f, x_following.fd, from_le fun k => kk_fol (k := k) x_following.F T Y.TC kpW kpR kc_check_rules kc_links kc_reached, x_following.F.kp, x_following.b, x_following.g⟩
  have c__law_is_equal : GD.CalG l.prog w K mg base "_law_is_equal" ["_law_actual", "_law_expected"] (GD.spEqD K) 1 := GD.calG x_l_is_equal fun k => GD.ok_iseqD (k := k) x_l_is_equal.F T
  have c__law_is_right : GD.CalG l.prog w K mg base "_law_is_right" ["_law_width", "_law_given"] (spIsRight K) 11 := GD.calG x_l_is_right fun k => ok_isright (k := k) x_l_is_right.F T c__law_list c__law_due c_following folK c__law_is_equal
  have c__law_draw : Cal l.prog w K mg base "_law_draw" ["_law_source_here", "_law_many"] spDraw2 1 := Df.cal x_l_draw fun k => ok_draw2 (k := k) x_l_draw.F
  have c__law_nearly : Cal l.prog w K mg base "_law_nearly" ["_law_source_here"] (spNearly K) 2 := Df.cal x_l_nearly fun k => ok_nearly (k := k) x_l_nearly.F c__law_all c__law_draw
  have c__law_choose : Cal l.prog w K mg base "_law_choose" ["_law_source_here", "_law_values"] (spChoose K) 2 := Df.cal x_l_choose fun k => ok_choose (k := k) x_l_choose.F T c__law_draw
  have c__law_mixed : Cal l.prog w K mg base "_law_mixed" ["_law_source_here", "_law_many"] (spMixed K) 3 := Df.cal x_l_mixed fun k => ok_mixed (k := k) x_l_mixed.F T c__law_choose
  have c__law_step : Cal l.prog w K mg base "_law_step" ["_law_source_here", "_law_a", "_law_b", "_law_kinds"] (spStep K) 3 := Df.cal x_l_step fun k => ok_step (k := k) x_l_step.F T c__law_choose
  have c__law_rules : Cal l.prog w K mg base "_law_rules" ["_law_source_here", "_law_width"] (spRules K) 4 := Df.cal x_l_rules fun k => ok_rules (k := k) x_l_rules.F T c__law_draw c__law_choose c__law_mixed c__law_step
  have c__law_cell : Cal l.prog w K mg base "_law_cell" ["_law_script", "_law_index"] (spCell K) 1 := Df.cal x_l_cell fun k => ok_cell (k := k) x_l_cell.F T.len
  have c__law_source : Cal l.prog w K mg base "_law_source" ["_law_cell_here"] spSource 1 := Df.cal x_l_source fun k => ok_source (k := k) x_l_source.F T.max
  exact ok_law (k := 0) (fun_mk (st := sLaw) l1 c k) T c__law_is_right c__law_nearly c__law_rules c__law_draw c__law_cell c__law_source
end CC
open PySem PySem.W PyProof.Rows
set_option maxHeartbeats 0 in
theorem PySem.Challenge.cw_countcycles_k63_all_that_follow_holds : PySem.Challenge.rw_countcycles_k63_all_that_follow.Holds := by
  w_on; o_law; k_head; (case hw => w_witness2)
  k_fill
  refine GD.walk_ofG (l := PySem.Challenge.rw_countcycles_k63_all_that_follow) (n := 63) (k := 12) (x := "_law_script") (CX := fun _ => L2.CX0) (sp := fun w => CC.spLaw _) rfl (by decide) rfl ⟨rfl, by decide, by decide⟩ (fun w h Y => PySem.W.kIn_of Y) ?F (fun _ _ a ns hl _ hS => ⟨a, ns, rfl, hS, hl, fun _ => rfl⟩) (fun _ _ _ _ _ h => h)
  case F =>
    intro w mg fa h KX G hmg
    refine' CC.all_mk KX G hmg ?a ?l ?c ?k ?gb ?kl ?m_is_an_integer ?m_is_width ?m_is_column ?m_is_rule ?m_every_rule ?m_line_of ?m_rules_of ?m_l_list ?m_l_reach ?m_l_downs ?m_l_arrows ?m_l_all ?m_l_due ?m_check_rules ?m_steps_down ?m_first_ways ?m_reached ?m_links ?m_following ?m_l_is_equal ?m_l_is_right ?m_l_draw ?m_l_nearly ?m_l_choose ?m_l_mixed ?m_l_step ?m_l_rules ?m_l_cell ?m_l_source
    (case a => k_is); (case l => k_is); (case c => k_is); (case k => k_is)
    case gb =>
      refine' CC.mk_glb KX G ?z_len ?z_max ?z_min ?z_isi ?z_int ?z_bool ?z_str ?z_tup ?z_rng ?z_lst ?z_all ?z_set ?z_enu ?z_rep ?z_srt ?z_zip ?z_any ?z_sum ?z_rev ?z_dic ?z_typ ?z1 ?z2 ?z3
      (case z_len => k_is); (case z_max => k_is); (case z_min => k_is); (case z_isi => k_is); (case z_int => k_is); (case z_bool => k_is); (case z_str => k_is); (case z_tup => k_is); (case z_rng => k_is); (case z_lst => k_is); (case z_all => k_is); (case z_set => k_is); (case z_enu => k_is); (case z_rep => k_is); (case z_srt => k_is); (case z_zip => k_is); (case z_any => k_is); (case z_sum => k_is); (case z_rev => k_is); (case z_dic => k_is); (case z_typ => k_is); (case z1 => k_is); (case z2 => k_is); (case z3 => k_is)
    case kl =>
      refine' CC.mk_cls KX G ?y_aC ?y_pg ?y_hd ?y_po ?y_sa ?y_kc ?y_nS ?y_nG ?y_mk ?y_aN ?y_iN ?y_lN ?y_cN ?y_kN ?y_rd ?y_ga ?y_aD ?y_rD ?y_iD ?y_lD ?y_cD ?y_kD ?y_i1 ?y_i2 ?y_i3 ?y_i4 ?y_q1W ?y_q2W ?y_q3W ?y_q4W ?y_lW ?y_cW ?y_kW ?y_q1R ?y_q2R ?y_q3R ?y_q4R ?y_lR ?y_cR ?y_kR
      (case y_aC => k_is)
      (case y_pg => k_is)
      (case y_hd => k_is)
      (case y_po => k_is)
      (case y_sa => k_is)
      (case y_kc => k_is)
      (case y_nS => k_is)
      (case y_nG => k_is)
      (case y_mk => k_is)
      (case y_aN => k_is)
      (case y_iN => k_is)
      (case y_lN => k_is)
      (case y_cN => k_is)
      (case y_kN => k_is)
      (case y_rd => k_is)
      (case y_ga => k_is)
      (case y_aD => k_is)
      (case y_rD => k_is)
      (case y_iD => k_is)
      (case y_lD => k_is)
      (case y_cD => k_is)
      (case y_kD => k_is)
      (case y_i1 => k_is)
      (case y_i2 => k_is)
      (case y_i3 => k_is)
      (case y_i4 => k_is)
      (case y_q1W => k_is)
      (case y_q2W => k_is)
      (case y_q3W => k_is)
      (case y_q4W => k_is)
      (case y_lW => k_is)
      (case y_cW => k_is)
      (case y_kW => k_is)
      (case y_q1R => k_is)
      (case y_q2R => k_is)
      (case y_q3R => k_is)
      (case y_q4R => k_is)
      (case y_lR => k_is)
      (case y_cR => k_is)
      (case y_kR => k_is)
    (case m_is_an_integer => (refine' CC.mk_is_an_integer KX G ?a ?l ?c ?k; (case a => k_is); (case l => k_is); (case c => k_is); (case k => k_is)))
    (case m_is_width => (refine' CC.mk_is_width KX G ?a ?l ?c ?k; (case a => k_is); (case l => k_is); (case c => k_is); (case k => k_is)))
    (case m_is_column => (refine' CC.mk_is_column KX G ?a ?l ?c ?k; (case a => k_is); (case l => k_is); (case c => k_is); (case k => k_is)))
    (case m_is_rule => (refine' CC.mk_is_rule KX G ?a ?l ?c ?k; (case a => k_is); (case l => k_is); (case c => k_is); (case k => k_is)))
    (case m_every_rule => (refine' CC.mk_every_rule KX G ?a ?l ?c ?k; (case a => k_is); (case l => k_is); (case c => k_is); (case k => k_is)))
    (case m_line_of => (refine' CC.mk_line_of KX G ?a ?l ?c ?k; (case a => k_is); (case l => k_is); (case c => k_is); (case k => k_is)))
    (case m_rules_of => (refine' CC.mk_rules_of KX G ?a ?l ?c ?k; (case a => k_is); (case l => k_is); (case c => k_is); (case k => k_is)))
    (case m_l_list => (refine' CC.mk_l_list KX G ?a ?l ?c ?k; (case a => k_is); (case l => k_is); (case c => k_is); (case k => k_is)))
    (case m_l_reach => (refine' CC.mk_l_reach KX G ?a ?l ?c ?k; (case a => k_is); (case l => k_is); (case c => k_is); (case k => k_is)))
    (case m_l_downs => (refine' CC.mk_l_downs KX G ?a ?l ?c ?k; (case a => k_is); (case l => k_is); (case c => k_is); (case k => k_is)))
    (case m_l_arrows => (refine' CC.mk_l_arrows KX G ?a ?l ?c ?k; (case a => k_is); (case l => k_is); (case c => k_is); (case k => k_is)))
    (case m_l_all => (refine' CC.mk_l_all KX G ?a ?l ?c ?k; (case a => k_is); (case l => k_is); (case c => k_is); (case k => k_is)))
    (case m_l_due => (refine' CC.mk_l_due KX G ?a ?l ?c ?k; (case a => k_is); (case l => k_is); (case c => k_is); (case k => k_is)))
    (case m_check_rules => (refine' CC.mk_check_rules KX G ?a ?l ?c ?k; (case a => k_is); (case l => k_is); (case c => k_is); (case k => k_is)))
    (case m_steps_down => (refine' CC.mk_steps_down KX G ?a ?l ?c ?k; (case a => k_is); (case l => k_is); (case c => k_is); (case k => k_is)))
    (case m_first_ways => (refine' CC.mk_first_ways KX G ?a ?l ?c ?k; (case a => k_is); (case l => k_is); (case c => k_is); (case k => k_is)))
    (case m_reached => (refine' CC.mk_reached KX G ?a ?l ?c ?k; (case a => k_is); (case l => k_is); (case c => k_is); (case k => k_is)))
    (case m_links => (refine' CC.mk_links KX G ?a ?l ?c ?k; (case a => k_is); (case l => k_is); (case c => k_is); (case k => k_is)))
    (case m_following => (refine' CC.mk_following KX G ?a ?l ?c ?k; (case a => k_is); (case l => k_is); (case c => k_is); (case k => k_is)))
    (case m_l_is_equal => (refine' CC.mk_l_is_equal KX G ?a ?l ?c ?k; (case a => k_is); (case l => k_is); (case c => k_is); (case k => k_is)))
    (case m_l_is_right => (refine' CC.mk_l_is_right KX G ?a ?l ?c ?k; (case a => k_is); (case l => k_is); (case c => k_is); (case k => k_is)))
    (case m_l_draw => (refine' CC.mk_l_draw KX G ?a ?l ?c ?k; (case a => k_is); (case l => k_is); (case c => k_is); (case k => k_is)))
    (case m_l_nearly => (refine' CC.mk_l_nearly KX G ?a ?l ?c ?k; (case a => k_is); (case l => k_is); (case c => k_is); (case k => k_is)))
    (case m_l_choose => (refine' CC.mk_l_choose KX G ?a ?l ?c ?k; (case a => k_is); (case l => k_is); (case c => k_is); (case k => k_is)))
    (case m_l_mixed => (refine' CC.mk_l_mixed KX G ?a ?l ?c ?k; (case a => k_is); (case l => k_is); (case c => k_is); (case k => k_is)))
    (case m_l_step => (refine' CC.mk_l_step KX G ?a ?l ?c ?k; (case a => k_is); (case l => k_is); (case c => k_is); (case k => k_is)))
    (case m_l_rules => (refine' CC.mk_l_rules KX G ?a ?l ?c ?k; (case a => k_is); (case l => k_is); (case c => k_is); (case k => k_is)))
    (case m_l_cell => (refine' CC.mk_l_cell KX G ?a ?l ?c ?k; (case a => k_is); (case l => k_is); (case c => k_is); (case k => k_is)))
    (case m_l_source => (refine' CC.mk_l_source KX G ?a ?l ?c ?k; (case a => k_is); (case l => k_is); (case c => k_is); (case k => k_is)))
