import PyProof.Rows.All
import Wide.All
import OpenK.AllK
import Wide.FinOn
import HandS.ForMost
import HandS.Deep
import HandS.IsInst
import HandS.FStr
import HandS.Conv
import HandS.Strs
import HandS.SetFor
import HandS.TupSets
import HandS.DictComp
import HandS.Star
import HandS.ClsMeth
import HandS.StrMore
import HandS.Property
import HandS.SlotsOwn
import HandS.SetBool
import HandS.Zip
import HandS.Set
import PyProof.FactsAll.set_2
import HandS.WordsExc
import HandS.ExcOwn
import HandS.Codes
import PyProof.ReprRoads
import HandS.More
import HandS.Lambda
import HandS.EndBits
import KE.KNestM
import PyProof.FactsAll.object_2
import KE.KSuper
import HandS.Defaults
import HandS.MakeKw
import HandS.SortInts
import HandS.TupLe
import HandS.TryMany
import HandS.Style
import HandS.TupAny
import HandS.List
import PyProof.ReprLen
import HandS.TupMul
import KE.SortKeyed
import HandS.SortRule
import KE.SortData
import HandS.TryOnly
import HandS.Head0
import HandS.Head1
import HandS.Head2
import HandS.HeadHook1
import HandS.HeadHook2
import OpenK.KCls
import PySem.Challenge.RW_countcycles_k29_whole_broken_beside_tabl
set_option Elab.async false
set_option linter.all false
set_option maxRecDepth 100000
set_option maxHeartbeats 4000000
namespace CC
open PySem L2
def tp (i : Nat) : Stmt := PySem.Challenge.pw_countcycles_k29_whole_broken_beside_tabl.main.body.getD i (.Pass ⟨0, 0, 0, 0⟩)
abbrev sCell : Stmt := tp 53
end CC
namespace CC
open PySem L2
abbrev sIsInt : Stmt := tp 6
abbrev sIsWidth : Stmt := tp 7
abbrev sIsCol : Stmt := tp 8
abbrev sIsRule : Stmt := tp 10
end CC
namespace CC
open PySem L2
abbrev sEvery : Stmt := tp 11
end CC
namespace CC
open PySem L2 TL
abbrev sLine : Stmt := tp 36
end CC
namespace CC
open PySem L2 TL
abbrev sRulesOf : Stmt := tp 37
end CC
namespace CC
open PySem L2 TL
abbrev sInit : Stmt := inClass (tp 38) 0
abbrev sRead : Stmt := inClass (tp 38) 10
end CC
namespace CC
open PySem L2 TL
abbrev sIsRow : Stmt := tp 9
end CC
namespace CC
open PySem L2 TL
def retVal : Stmt → Expr
  | .Return (some v) _ => v
  | _ => .Constant .none 0 ⟨0, 0, 0, 0⟩
end CC
namespace CC
open PySem L2 TL
abbrev sTInit : Stmt := inClass (tp 45) 0
end CC
namespace CC
open PySem L2 TL
abbrev sLChk : Stmt := inClass (tp 48) 8
abbrev sLChg : Stmt := inClass (tp 48) 9
end CC
namespace CC
open PySem L2
abbrev sPW : Stmt := inClass (tp 38) 1
abbrev sPR : Stmt := inClass (tp 38) 2
end CC
namespace CC
open PySem L2 TL
abbrev sLAdd : Stmt := inClass (tp 48) 11
end CC
namespace CC
open PySem L2 TL
abbrev sHo : Stmt := tp 12
end CC
namespace CC
open PySem L2 TL
abbrev sTR : Stmt := inClass (tp 45) 2
end CC
namespace CC
open PySem L2 TL
abbrev sBrk : Stmt := tp 47
end CC
namespace CC
open PySem L2 TL
abbrev sSChk : Stmt := inClass (tp 49) 8
end CC
namespace CC
open PySem L2 TL
abbrev sHChk : Stmt := inClass (tp 50) 9
end CC
namespace CC
open PySem L2 TL
abbrev sLInit : Stmt := inClass (tp 48) 0
end CC
namespace CC
open PySem L2 TL
abbrev sSInitM : Stmt := inClass (tp 49) 0
abbrev sHInit : Stmt := inClass (tp 50) 0
abbrev sGInit : Stmt := inClass (tp 51) 0
end CC
namespace CC
open PySem L2 TL
abbrev sMdl : Stmt := tp 60
end CC
namespace CC
open PySem L2 TL
abbrev ssAdd : Stmt := inClass (tp 49) 10
abbrev shAdd : Stmt := inClass (tp 50) 11
abbrev sgAdd : Stmt := inClass (tp 51) 10
abbrev slCll : Stmt := inClass (tp 48) 12
abbrev ssCll : Stmt := inClass (tp 49) 11
abbrev shCll : Stmt := inClass (tp 50) 12
abbrev sgCll : Stmt := inClass (tp 51) 11
end CC
namespace CC
open PySem L2 TL
abbrev slRlM : Stmt := inClass (tp 48) 1
abbrev ssRlM : Stmt := inClass (tp 49) 1
abbrev shRlM : Stmt := inClass (tp 50) 1
abbrev sgRlM : Stmt := inClass (tp 51) 1
end CC
namespace CC
open PySem L2 TL
abbrev slTbM : Stmt := inClass (tp 48) 2
abbrev ssTbM : Stmt := inClass (tp 49) 2
abbrev shTbM : Stmt := inClass (tp 50) 3
abbrev sgTbM : Stmt := inClass (tp 51) 3
end CC
namespace CC
open PySem L2 TL
abbrev slBrM : Stmt := inClass (tp 48) 4
abbrev ssBrM : Stmt := inClass (tp 49) 4
abbrev shBrM : Stmt := inClass (tp 50) 5
abbrev sgBrM : Stmt := inClass (tp 51) 5
end CC
namespace CC
open PySem L2 TL LamX PyProof.Rows
abbrev sSaid : Stmt := tp 61
end CC
namespace CC
open PySem L2 TL
abbrev sTCall : Stmt := inClass (tp 45) 7
end CC
namespace CC
open PySem L2 TL
abbrev sObey : Stmt := inClass (tp 45) 8
end CC
namespace CC
open PySem L2 TL
abbrev sTCnt : Stmt := inClass (tp 45) 3
section
variable {P : Program} {w : World} {K : PySem.W.Frag} {mg : Str → Option Value} {base : Heap} {kA : Addr}
def callArg0 : Expr → Expr
  | .Call _ (a :: _) _ _ => a
  | e => e
end
end CC
namespace CC
open PySem L2 TL
abbrev sRCon : Stmt := inClass (tp 38) 6
end CC
namespace CC
open PySem L2 TL
abbrev sTrt : Stmt := tp 62
end CC
namespace CC
open PySem L2
abbrev sSource : Stmt := tp 54
abbrev sDraw : Stmt := tp 55
abbrev sChoose : Stmt := tp 56
end CC
namespace CC
open PySem L2 TL
abbrev sGv : Stmt := tp 58
end CC
namespace CC
open PySem L2 TL
abbrev sWd : Stmt := tp 57
end CC
namespace CC
open PySem L2 TL
abbrev sRwl : Stmt := tp 59
end CC
namespace SoD
open PySem PySem.Spec PyProof.Rows L2 PySem.W
section
variable {P : Program} {w : World} {A : Around} {E : Value → Shared → Prop} {s : Shared}
/-- the items of a tuple are put into a new list -/
theorem coll_tup {l : Addr} {vs : List Value} {Q : List Value → Shared → Prop} (hl : IsTup s.heap l vs.toArray) (hz : vs.length ≤ sizeLine) (h : Q vs { s with heap := (s.heap.push (seqObj "list" #[] 0)).update s.heap.objs.size (Obj.mapSeq (· ++ vs.toArray)) }) : wpAny (model P w) A (collect (.ref l)) Q E s := by
  obtain ⟨o, ho, hc, n, hd⟩ := hl
  have ho1 : (s.heap.push (seqObj "list" #[] 0)).get? l = some o := Heap.get?_push_of_some _ ho
  have hn : (s.heap.push (seqObj "list" #[] 0)).get? s.heap.objs.size = some (seqObj "list" #[] 0) := Heap.get?_push_size _ rfl
  unfold collect
  refine wpAny_bind (wpAny_runValue (codeAny_builtin entry_proto_collect' ?_))
  show wpAny (model P w) _ (newList [] >>= fun z => again (.builtin "list.__iadd__" ⟨[z, .ref l], []⟩)) _ _ s
  refine wpAny_bind (wpAny_newList ?_ (Nat.zero_le _))
  refine wpAny_pure ⟨Code.quiet_builtin _ (by decide +kernel), codeAny_builtin entry_list_iadd' ?_⟩
  show wpAny (model P w) _ (Builtin.List.listExtendWith (.ref s.heap.objs.size) (.ref l) (.ref s.heap.objs.size)) _ _ _
  unfold Builtin.List.listExtendWith
  refine wpAny_bind (wpAny_typeOf (T := "tuple") ⟨o, ho1, hc⟩ ?_)
  have h3 : (Value.type "tuple" == Value.type "tuple") = true := by decide
  simp only [h3, Bool.or_true, if_true]
  refine wpAny_bind ?_
  unfold Builtin.List.listItems
  refine wpAny_bind (wpAny_seqItems ho1 hd (wpAny_pure ?_))
  refine wpAny_bind ?_
  refine wpAny_bind (wpAny_seqItems hn rfl (wpAny_pure ?_))
  rw [if_neg (by simp)]
  refine wpAny_bind ?_
  show wpAny _ _ (updateSeq s.heap.objs.size (· ++ vs.toArray)) _ _ _
  refine wpAny_updateSeq hn rfl ?_ (Nat.zero_le _) (by show ((#[] : Array Value) ++ vs.toArray).size ≤ sizeLine + 1; simp only [Array.size_append, List.size_toArray, List.length_nil]; omega)
  refine wpAny_pure ?_
  show wpAny (model P w) A (load s.heap.objs.size >>= fun o => match o.data with | .seq xs _ => pure xs.toList | _ => unsupported "internal:collect") Q E _
  refine wpAny_bind (wpAny_load (get?_update_seq hn _) ?_)
  show wpAny _ _ (pure ((#[] : Array Value) ++ vs.toArray).toList) Q E _
  rw [show ((#[] : Array Value) ++ vs.toArray).toList = vs by simp]
  exact wpAny_pure h
end
end SoD
namespace CC
open PySem L2 TL
abbrev sTEq : Stmt := inClass (tp 45) 6
end CC
namespace CC
open PySem L2 TL LamX PyProof.Rows
abbrev sLaw : Stmt := tp 63
end CC
namespace HK
open PySem PySem.Spec PyProof.Rows L2 PySem.W
def fstR : Option (Option Value) → Addr
  | some (some (.ref a)) => a
  | _ => 0
def hdR : Option (List Value) → Addr
  | some (.ref a :: _) => a
  | _ => 0
def ga (K : Frag) (x : Str) : Addr := fstR (nsIn K mainGlobals x)
def ma (K : Frag) (C : Addr) (m : Str) : Addr := fstR (findIn K (.ref C) m)
def ra (K : Frag) (p : Addr) (T : String) : Addr := hdR (recIn K p T)
def ca (K : Frag) (C : Addr) (m : Str) : Addr := match findCls K (.ref C) (.type "type") m with
  | some (.get _ (.ref p) _ _) => p
  | _ => 0
def coA (K : Frag) (f : Addr) : Addr := match K.lookup f with
  | some ⟨_, _, .func fd, _⟩ => (match fd.code with
    | .ref c => c
    | _ => 0)
  | _ => 0
def ceA (K : Frag) (f : Addr) : Addr := match K.lookup f with
  | some ⟨_, _, .func fd, _⟩ => (match fd.closure with
    | [(_, c)] => c
    | _ => 0)
  | _ => 0
def tabC (K : Frag) (x : Str) : Addr := match tabIn K x with
  | some p => p.1
  | none => 0
def tabP (K : Frag) (x : Str) : Addr := match tabIn K x with
  | some p => p.2
  | none => 0
def eqO (a b : Option (Option Value)) : Bool := decide (a = b)
def eqV (a b : Option Value) : Bool := decide (a = b)
def eqB (a b : Option Bool) : Bool := decide (a = b)
def recB (K : Frag) (p : Addr) (T : String) : Bool := match recIn K p T with
  | some (.ref _ :: _) => true
  | _ => false
def clsB (K : Frag) (C : Addr) (m : Str) : Bool := match findCls K (.ref C) (.type "type") m with
  | some (.get g (.ref _) .none (.ref c)) => decide (g = .builtin "classmethod.__get__") && decide (c = C)
  | _ => false
def clvB (K : Frag) (C : Addr) (m : Str) (f : Addr) : Bool := match findCls K (.ref C) (.type "type") m with
  | some (.val v) => decide (v = .ref f)
  | _ => false
def intB (K : Frag) (x : Str) (i : Int) : Bool := match nsIn K mainGlobals x with
  | some (some (.int j _)) => decide (j = i)
  | _ => false
def kndB (K : Frag) (a : Addr) : Bool := match K.lookup a with
  | some ⟨.type c, _, .seq its _, _⟩ => decide (c = "tuple") && (match its.toList with
    | [.str x _, .str y _] => decide (x = "settles") && decide (y = "within")
    | _ => false)
  | _ => false
def filB (K : Frag) (P : Program) (c : Addr) : Bool := match K.lookup c with
  | some ⟨_, _, .fields vs, _⟩ => (match (vs[2]? : Option Value) with
    | some (.str f _) => ((P.main.file : Str) == f)
    | _ => false)
  | _ => false
def celB (K : Frag) (c D : Addr) : Bool := match K.lookup c with
  | some ⟨_, _, .cell (some (.ref d)), _⟩ => decide (d = D)
  | _ => false
def tabB (K : Frag) (x : Str) : Bool := (tabIn K x).isSome
abbrev FnW : Type := Option (Str × Str × Arguments × FuncBody × Scope × Addr × List Str × Addr)
def fnW (K : Frag) (a : Addr) : FnW := match K.lookup a with
  | some ⟨_, _, .func fd, _⟩ => some (fd.name, fd.qualname, fd.params, fd.body, fd.scope, fd.globals, fd.closure.map (·.1), fd.builtins)
  | _ => none
/-- one def: where it stands; sup: whether it has the cell __class__ -/
structure DefX where
  at_ : Frag → Addr
  sup : Bool
  name : Str
  qual : Str
  st : Stmt
  dfl : List V := []
def DefX.val (d : DefX) : FnW := some (d.name, d.qual, defArgs d.st, .stmts (defBody d.st), defScope d.st, mainGlobals, if d.sup then [("__class__" : Str)] else [], builtinsNs)
def isRef : Value → Bool
  | .ref _ => true
  | _ => false
def DefX.ok (K : Frag) (d : DefX) : Bool := keepIn K (.ref (d.at_ K)) && (match K.lookup (d.at_ K) with
  | some ⟨_, _, .func fd, _⟩ => codeIn K fd.code d.qual && (isRef fd.code && He.dflB K fd.defaults d.dfl)
  | _ => false)
/-- what the module's names reach in n steps, but for the tables of the code objects of xs -/
def frX (xs : List Str) (n : Nat) (g : Addr → Option Obj) : Frag :=
  He.frG g (cStatics :: (He.asD g n).filter fun a => !(xs.any fun x => decide (tabP (He.frG g (He.asD g n)) x = a)))
abbrev AlX : Type := Bool × List FnW
def obsX (bs : Frag → List Bool) (fn : List DefX) (K : Frag) : AlX := (((bs K).all id) && fn.all fun d => d.ok K, fn.map fun d => fnW K (d.at_ K))
def valX (fn : List DefX) : AlX := (true, fn.map DefX.val)
def obsXG (xs : List Str) (n : Nat) (bs : Frag → List Bool) (fn : List DefX) (g : Addr → Option Obj) : AlX := obsX bs fn (frX xs n g)
def hookX (xs : List Str) (n : Nat) (bs : Frag → List Bool) (fn : List DefX) : Hook where
  α := AlX
  obs := fun s => obsXG xs n bs fn s.heap.get?
  val := fun _ => valX fn
  says := fun _ h => ∃ K : Frag, K.In h ∧ obsX bs fn K = valX fn
  of := fun _ _ e => ⟨_, He.frG_in, e⟩
  keeps := fun _ _ _ ⟨K, hK, c⟩ k => ⟨K, Frag.In.keeps hK k, c⟩
/-- the same with the addresses written out (found by a run beforehand): no growing, a third of the memory -/
def obsAG (as : List Addr) (bs : Frag → List Bool) (fn : List DefX) (g : Addr → Option Obj) : AlX := obsX bs fn (He.frG g as)
def hookA (as : List Addr) (bs : Frag → List Bool) (fn : List DefX) : Hook where
  α := AlX
  obs := fun s => obsAG as bs fn s.heap.get?
  val := fun _ => valX fn
  says := fun _ h => ∃ K : Frag, K.In h ∧ obsX bs fn K = valX fn
  of := fun _ _ e => ⟨_, He.frG_in, e⟩
  keeps := fun _ _ _ ⟨K, hK, c⟩ k => ⟨K, Frag.In.keeps hK k, c⟩
def bsAG (as : List Addr) (bs : Frag → List Bool) (g : Addr → Option Obj) : Bool := (bs (He.frG g as)).all id
def fnAG (as : List Addr) (fn : List DefX) (g : Addr → Option Obj) : AlX := (fn.all fun d => d.ok (He.frG g as), fn.map fun d => fnW (He.frG g as) (d.at_ (He.frG g as)))
theorem obs_of {as : List Addr} {bs : Frag → List Bool} {fn : List DefX} {g : Addr → Option Obj} (h1 : bsAG as bs g = true) (h2 : fnAG as fn g = valX fn) : obsAG as bs fn g = valX fn := by
  have a := congrArg (fun z : AlX => z.1) h2
  have b := congrArg (fun z : AlX => z.2) h2
  exact Prod.ext (show (((bs (He.frG g as)).all id) && fn.all fun d => d.ok (He.frG g as)) = true from Bool.and_eq_true_iff.mpr ⟨h1, a⟩) b
/-- one fact of the end by two -/
theorem map_two {α S A B C : Type} {o : α → Option S} {f : S → A} {g : S → B} {k : S → C} {a : A} {b : B} {c : C} (h1 : ∀ x, (o x).map f = some a) (h2 : ∀ x, (o x).map g = some b) (hk : ∀ s, f s = a → g s = b → k s = c) : ∀ x, (o x).map k = some c := fun x => by
  have h1 := h1 x
  have h2 := h2 x
  cases e : o x with
  | none =>
    rw [e] at h1
    cases h1
  | some s =>
    rw [e] at h1 h2
    exact congrArg some (hk s (Option.some.inj h1) (Option.some.inj h2))
theorem bs_cut {as : List Addr} {bs : Frag → List Bool} {g : Addr → Option Obj} (n : Nat) (h1 : bsAG as (fun K => (bs K).take n) g = true) (h2 : bsAG as (fun K => (bs K).drop n) g = true) : bsAG as bs g = true := by
  have h1 : ((bs (He.frG g as)).take n).all id = true := h1
  have h2 : ((bs (He.frG g as)).drop n).all id = true := h2
  show (bs (He.frG g as)).all id = true
  rw [← List.take_append_drop n (bs (He.frG g as)), List.all_append, h1, h2]
  rfl
theorem fn_cut {as : List Addr} {fn : List DefX} {g : Addr → Option Obj} (n : Nat) (h1 : fnAG as (fn.take n) g = valX (fn.take n)) (h2 : fnAG as (fn.drop n) g = valX (fn.drop n)) : fnAG as fn g = valX fn := by
  have a1 : ((fn.take n).all fun d => d.ok (He.frG g as)) = true := congrArg (fun z : AlX => z.1) h1
  have a2 : ((fn.drop n).all fun d => d.ok (He.frG g as)) = true := congrArg (fun z : AlX => z.1) h2
  have b1 : ((fn.take n).map fun d => fnW (He.frG g as) (d.at_ (He.frG g as))) = (fn.take n).map DefX.val := congrArg (fun z : AlX => z.2) h1
  have b2 : ((fn.drop n).map fun d => fnW (He.frG g as) (d.at_ (He.frG g as))) = (fn.drop n).map DefX.val := congrArg (fun z : AlX => z.2) h2
  refine Prod.ext ?_ ?_
  · show (fn.all fun d => d.ok (He.frG g as)) = true
    rw [← List.take_append_drop n fn, List.all_append, a1, a2]
    rfl
  · show (fn.map fun d => fnW (He.frG g as) (d.at_ (He.frG g as))) = fn.map DefX.val
    have e : ∀ {β : Type} (q : DefX → β), fn.map q = (fn.take n).map q ++ (fn.drop n).map q := fun q => by rw [← List.map_append, List.take_append_drop]
    rw [e, e, b1, b2]
theorem split3 {α S A B C : Type} {o : α → Option S} {f : S → A} {g : S → B} {h : S → C} {a : A} {b : B} {c : C} (x : α) (h1 : ∀ x, (o x).map f = some a) (h2 : ∀ x, (o x).map g = some b) (h3 : ∀ x, (o x).map h = some c) : ∃ s, o x = some s ∧ f s = a ∧ g s = b ∧ h s = c := by
  have h1 := h1 x
  have h2 := h2 x
  have h3 := h3 x
  cases e : o x with
  | none =>
    rw [e] at h1
    cases h1
  | some s =>
    rw [e] at h1 h2 h3
    exact ⟨s, rfl, Option.some.inj h1, Option.some.inj h2, Option.some.inj h3⟩
end HK
namespace CC
open PySem L2 TL
abbrev PP : Program := (PySem.W.OpenLaw.row PySem.Challenge.rw_countcycles_k29_whole_broken_beside_tabl).prog
def adr0 : List Addr := [nat_lit 0, nat_lit 2, nat_lit 3, nat_lit 4, nat_lit 6, nat_lit 15, nat_lit 16, nat_lit 17, nat_lit 18, nat_lit 19, nat_lit 20, nat_lit 21, nat_lit 22, nat_lit 23, nat_lit 24, nat_lit 25, nat_lit 26, nat_lit 27, nat_lit 28, nat_lit 29, nat_lit 30, nat_lit 31, nat_lit 32, nat_lit 33, nat_lit 34, nat_lit 35, nat_lit 36, nat_lit 37, nat_lit 38, nat_lit 39, nat_lit 40, nat_lit 41, nat_lit 42, nat_lit 43, nat_lit 44, nat_lit 45, nat_lit 46, nat_lit 47, nat_lit 48, nat_lit 49, nat_lit 50, nat_lit 51, nat_lit 52, nat_lit 53, nat_lit 54, nat_lit 55, nat_lit 56, nat_lit 57, nat_lit 58, nat_lit 59, nat_lit 60, nat_lit 61, nat_lit 62, nat_lit 63, nat_lit 64, nat_lit 65, nat_lit 73, nat_lit 74, nat_lit 75, nat_lit 76]
def adr1 : List Addr := [nat_lit 86, nat_lit 87, nat_lit 88, nat_lit 98, nat_lit 99, nat_lit 100, nat_lit 110, nat_lit 111, nat_lit 112, nat_lit 122, nat_lit 123, nat_lit 124, nat_lit 134, nat_lit 135, nat_lit 136, nat_lit 146, nat_lit 147, nat_lit 148, nat_lit 158, nat_lit 159, nat_lit 160, nat_lit 170, nat_lit 171, nat_lit 172, nat_lit 182, nat_lit 183, nat_lit 184, nat_lit 194, nat_lit 195, nat_lit 196, nat_lit 206, nat_lit 207, nat_lit 208, nat_lit 218, nat_lit 219, nat_lit 220, nat_lit 230, nat_lit 231, nat_lit 232, nat_lit 242, nat_lit 243, nat_lit 244, nat_lit 247, nat_lit 248, nat_lit 249, nat_lit 250, nat_lit 251, nat_lit 252, nat_lit 253, nat_lit 254, nat_lit 255, nat_lit 256, nat_lit 257, nat_lit 258, nat_lit 259, nat_lit 260, nat_lit 261, nat_lit 262, nat_lit 263, nat_lit 264]
def adr2 : List Addr := [nat_lit 265, nat_lit 266, nat_lit 267, nat_lit 268, nat_lit 269, nat_lit 270, nat_lit 271, nat_lit 272, nat_lit 273, nat_lit 274, nat_lit 275, nat_lit 276, nat_lit 277, nat_lit 278, nat_lit 279, nat_lit 280, nat_lit 281, nat_lit 282, nat_lit 283, nat_lit 284, nat_lit 285, nat_lit 286, nat_lit 287, nat_lit 295, nat_lit 296, nat_lit 297, nat_lit 298, nat_lit 299, nat_lit 300, nat_lit 301, nat_lit 302, nat_lit 303, nat_lit 304, nat_lit 305, nat_lit 306, nat_lit 307, nat_lit 308, nat_lit 309, nat_lit 310, nat_lit 311, nat_lit 312, nat_lit 313, nat_lit 314, nat_lit 315, nat_lit 316, nat_lit 317, nat_lit 318, nat_lit 319, nat_lit 320, nat_lit 321, nat_lit 322, nat_lit 323, nat_lit 324, nat_lit 325, nat_lit 326, nat_lit 327, nat_lit 328, nat_lit 329, nat_lit 330, nat_lit 331]
def adr3 : List Addr := [nat_lit 332, nat_lit 333, nat_lit 334, nat_lit 335, nat_lit 336, nat_lit 337, nat_lit 338, nat_lit 339, nat_lit 340, nat_lit 341, nat_lit 342, nat_lit 343, nat_lit 344, nat_lit 345, nat_lit 346, nat_lit 347, nat_lit 348, nat_lit 349, nat_lit 350, nat_lit 351, nat_lit 352, nat_lit 353, nat_lit 354, nat_lit 355, nat_lit 356, nat_lit 357, nat_lit 358, nat_lit 359, nat_lit 360, nat_lit 361, nat_lit 362, nat_lit 363, nat_lit 364, nat_lit 365, nat_lit 366, nat_lit 367, nat_lit 368, nat_lit 369, nat_lit 370, nat_lit 371, nat_lit 372, nat_lit 373, nat_lit 374, nat_lit 375, nat_lit 378, nat_lit 379, nat_lit 380, nat_lit 381, nat_lit 382, nat_lit 383, nat_lit 384, nat_lit 385, nat_lit 386, nat_lit 387, nat_lit 388, nat_lit 389, nat_lit 390, nat_lit 391, nat_lit 392, nat_lit 393]
def adr4 : List Addr := [nat_lit 394, nat_lit 395, nat_lit 396, nat_lit 397, nat_lit 398, nat_lit 399, nat_lit 407, nat_lit 408, nat_lit 409, nat_lit 410, nat_lit 411, nat_lit 412, nat_lit 413, nat_lit 414, nat_lit 415, nat_lit 416, nat_lit 417, nat_lit 418, nat_lit 419, nat_lit 420, nat_lit 421, nat_lit 422, nat_lit 423, nat_lit 424, nat_lit 425, nat_lit 426, nat_lit 427, nat_lit 428, nat_lit 429, nat_lit 430, nat_lit 431, nat_lit 432, nat_lit 433, nat_lit 434, nat_lit 435, nat_lit 436, nat_lit 437, nat_lit 438, nat_lit 439, nat_lit 440, nat_lit 441, nat_lit 442, nat_lit 443, nat_lit 444, nat_lit 445, nat_lit 446, nat_lit 447, nat_lit 448, nat_lit 449, nat_lit 450, nat_lit 451, nat_lit 452, nat_lit 453, nat_lit 454, nat_lit 455, nat_lit 456, nat_lit 457, nat_lit 458, nat_lit 459, nat_lit 460]
def adr5 : List Addr := [nat_lit 461, nat_lit 462, nat_lit 463, nat_lit 464, nat_lit 465, nat_lit 466, nat_lit 467, nat_lit 468, nat_lit 469, nat_lit 470, nat_lit 471, nat_lit 472, nat_lit 473, nat_lit 474, nat_lit 475, nat_lit 476, nat_lit 477, nat_lit 478, nat_lit 479, nat_lit 480, nat_lit 481, nat_lit 482, nat_lit 483, nat_lit 484, nat_lit 485, nat_lit 486, nat_lit 487, nat_lit 488, nat_lit 489, nat_lit 490, nat_lit 491, nat_lit 492, nat_lit 493, nat_lit 494, nat_lit 495, nat_lit 496, nat_lit 497, nat_lit 498, nat_lit 501, nat_lit 502, nat_lit 503, nat_lit 504, nat_lit 505, nat_lit 513, nat_lit 514, nat_lit 515, nat_lit 516, nat_lit 517, nat_lit 518, nat_lit 519, nat_lit 520, nat_lit 521, nat_lit 522, nat_lit 523, nat_lit 524, nat_lit 525, nat_lit 526, nat_lit 527, nat_lit 528, nat_lit 529]
def adr6 : List Addr := [nat_lit 530, nat_lit 531, nat_lit 532, nat_lit 533, nat_lit 534, nat_lit 537, nat_lit 538, nat_lit 539, nat_lit 540, nat_lit 541, nat_lit 542, nat_lit 543, nat_lit 544, nat_lit 545, nat_lit 546, nat_lit 547, nat_lit 548, nat_lit 549, nat_lit 550, nat_lit 551, nat_lit 552, nat_lit 553, nat_lit 554, nat_lit 555, nat_lit 556, nat_lit 557, nat_lit 558, nat_lit 559, nat_lit 560, nat_lit 561, nat_lit 562, nat_lit 563, nat_lit 564, nat_lit 565, nat_lit 566, nat_lit 567, nat_lit 568, nat_lit 569, nat_lit 570, nat_lit 571, nat_lit 572, nat_lit 573, nat_lit 574, nat_lit 575, nat_lit 576, nat_lit 577, nat_lit 578, nat_lit 579, nat_lit 580, nat_lit 581, nat_lit 582, nat_lit 583, nat_lit 584, nat_lit 585, nat_lit 586, nat_lit 587, nat_lit 588, nat_lit 589, nat_lit 590, nat_lit 591]
def adr7 : List Addr := [nat_lit 592, nat_lit 593, nat_lit 594, nat_lit 595, nat_lit 596, nat_lit 597, nat_lit 598, nat_lit 599, nat_lit 600, nat_lit 601, nat_lit 602, nat_lit 603, nat_lit 604, nat_lit 605, nat_lit 606, nat_lit 607, nat_lit 608, nat_lit 609, nat_lit 610, nat_lit 611, nat_lit 612, nat_lit 613, nat_lit 614, nat_lit 615, nat_lit 616, nat_lit 617, nat_lit 618, nat_lit 619, nat_lit 620, nat_lit 621, nat_lit 622, nat_lit 623, nat_lit 624, nat_lit 625, nat_lit 626, nat_lit 627, nat_lit 628, nat_lit 629, nat_lit 630, nat_lit 631, nat_lit 632, nat_lit 633, nat_lit 634, nat_lit 635, nat_lit 641, nat_lit 646, nat_lit 647, nat_lit 648, nat_lit 649, nat_lit 650, nat_lit 651, nat_lit 652, nat_lit 653, nat_lit 654, nat_lit 655, nat_lit 656, nat_lit 657, nat_lit 658, nat_lit 659, nat_lit 660]
def adr8 : List Addr := [nat_lit 661, nat_lit 662, nat_lit 663, nat_lit 664, nat_lit 665, nat_lit 666, nat_lit 667, nat_lit 670, nat_lit 671, nat_lit 672, nat_lit 673, nat_lit 674, nat_lit 675, nat_lit 676, nat_lit 677, nat_lit 678, nat_lit 679, nat_lit 680, nat_lit 681, nat_lit 682, nat_lit 683, nat_lit 684, nat_lit 685, nat_lit 686, nat_lit 687, nat_lit 688, nat_lit 689, nat_lit 690, nat_lit 691, nat_lit 692, nat_lit 693, nat_lit 694, nat_lit 695, nat_lit 696, nat_lit 697, nat_lit 698, nat_lit 699, nat_lit 700, nat_lit 701, nat_lit 702, nat_lit 703, nat_lit 704, nat_lit 705, nat_lit 706, nat_lit 707, nat_lit 709, nat_lit 710, nat_lit 711, nat_lit 712, nat_lit 713, nat_lit 715, nat_lit 716, nat_lit 717, nat_lit 718, nat_lit 719, nat_lit 720, nat_lit 721, nat_lit 723, nat_lit 724, nat_lit 725]
def adr9 : List Addr := [nat_lit 726, nat_lit 727, nat_lit 728, nat_lit 729, nat_lit 730, nat_lit 731, nat_lit 732, nat_lit 733, nat_lit 734, nat_lit 735, nat_lit 736, nat_lit 737, nat_lit 738, nat_lit 739, nat_lit 740, nat_lit 741, nat_lit 742, nat_lit 743, nat_lit 744, nat_lit 745, nat_lit 746, nat_lit 747, nat_lit 748, nat_lit 749, nat_lit 750, nat_lit 751, nat_lit 752, nat_lit 753, nat_lit 754, nat_lit 755, nat_lit 756, nat_lit 757, nat_lit 758, nat_lit 759, nat_lit 760, nat_lit 766, nat_lit 771, nat_lit 772, nat_lit 773, nat_lit 774, nat_lit 775, nat_lit 776, nat_lit 777, nat_lit 778, nat_lit 779, nat_lit 780, nat_lit 781, nat_lit 782, nat_lit 783, nat_lit 784, nat_lit 785, nat_lit 786, nat_lit 787, nat_lit 788, nat_lit 789, nat_lit 790, nat_lit 791, nat_lit 792, nat_lit 793, nat_lit 794]
def adr10 : List Addr := [nat_lit 795, nat_lit 796, nat_lit 797, nat_lit 798, nat_lit 799, nat_lit 800, nat_lit 801, nat_lit 804, nat_lit 805, nat_lit 806, nat_lit 807, nat_lit 808, nat_lit 809, nat_lit 810, nat_lit 811, nat_lit 812, nat_lit 813, nat_lit 814, nat_lit 815, nat_lit 816, nat_lit 817, nat_lit 818, nat_lit 819, nat_lit 820, nat_lit 821, nat_lit 822, nat_lit 823, nat_lit 824, nat_lit 825, nat_lit 826, nat_lit 827, nat_lit 828, nat_lit 829, nat_lit 830, nat_lit 831, nat_lit 832, nat_lit 833, nat_lit 834, nat_lit 835, nat_lit 836, nat_lit 837, nat_lit 838, nat_lit 839, nat_lit 840, nat_lit 841, nat_lit 843, nat_lit 844, nat_lit 845, nat_lit 846, nat_lit 847, nat_lit 848, nat_lit 849, nat_lit 851, nat_lit 852, nat_lit 853, nat_lit 854, nat_lit 855, nat_lit 856, nat_lit 857, nat_lit 859]
def adr11 : List Addr := [nat_lit 860, nat_lit 861, nat_lit 862, nat_lit 863, nat_lit 864, nat_lit 865, nat_lit 866, nat_lit 867, nat_lit 868, nat_lit 869, nat_lit 870, nat_lit 871, nat_lit 872, nat_lit 873, nat_lit 874, nat_lit 875, nat_lit 876, nat_lit 877, nat_lit 878, nat_lit 879, nat_lit 880, nat_lit 881, nat_lit 882, nat_lit 883, nat_lit 884, nat_lit 885, nat_lit 886, nat_lit 887, nat_lit 888, nat_lit 889, nat_lit 890, nat_lit 891, nat_lit 892, nat_lit 893, nat_lit 894, nat_lit 895, nat_lit 896, nat_lit 902, nat_lit 907, nat_lit 908, nat_lit 909, nat_lit 910, nat_lit 911, nat_lit 912, nat_lit 913, nat_lit 914, nat_lit 915, nat_lit 916, nat_lit 917, nat_lit 918, nat_lit 919, nat_lit 920, nat_lit 921, nat_lit 922, nat_lit 923, nat_lit 924, nat_lit 925, nat_lit 926, nat_lit 927, nat_lit 928]
def adr12 : List Addr := [nat_lit 929, nat_lit 930, nat_lit 931, nat_lit 932, nat_lit 933, nat_lit 934, nat_lit 935, nat_lit 936, nat_lit 937, nat_lit 940, nat_lit 941, nat_lit 942, nat_lit 943, nat_lit 944, nat_lit 945, nat_lit 946, nat_lit 947, nat_lit 948, nat_lit 949, nat_lit 950, nat_lit 951, nat_lit 952, nat_lit 953, nat_lit 954, nat_lit 955, nat_lit 956, nat_lit 957, nat_lit 958, nat_lit 959, nat_lit 960, nat_lit 961, nat_lit 962, nat_lit 963, nat_lit 964, nat_lit 965, nat_lit 966, nat_lit 967, nat_lit 968, nat_lit 969, nat_lit 970, nat_lit 971, nat_lit 972, nat_lit 973, nat_lit 974, nat_lit 975, nat_lit 976, nat_lit 977, nat_lit 979, nat_lit 980, nat_lit 981, nat_lit 982, nat_lit 983, nat_lit 984, nat_lit 985, nat_lit 987, nat_lit 988, nat_lit 989, nat_lit 990, nat_lit 991, nat_lit 992]
def adr13 : List Addr := [nat_lit 993, nat_lit 994, nat_lit 995, nat_lit 996, nat_lit 997, nat_lit 998, nat_lit 999, nat_lit 1000, nat_lit 1001, nat_lit 1002, nat_lit 1003, nat_lit 1004, nat_lit 1005, nat_lit 1006, nat_lit 1007, nat_lit 1008, nat_lit 1009, nat_lit 1010, nat_lit 1011, nat_lit 1012, nat_lit 1013, nat_lit 1014, nat_lit 1015, nat_lit 1016, nat_lit 1017, nat_lit 1018, nat_lit 1019, nat_lit 1020, nat_lit 1021, nat_lit 1022, nat_lit 1023, nat_lit 1024, nat_lit 1027, nat_lit 1028, nat_lit 1029, nat_lit 1030, nat_lit 1031, nat_lit 1032, nat_lit 1033, nat_lit 1034, nat_lit 1035, nat_lit 1036, nat_lit 1037, nat_lit 1038, nat_lit 1039, nat_lit 1040, nat_lit 1041, nat_lit 1042, nat_lit 1043, nat_lit 1044, nat_lit 1045, nat_lit 1046, nat_lit 1047, nat_lit 1048, nat_lit 1049, nat_lit 1050, nat_lit 1051, nat_lit 1052, nat_lit 1053, nat_lit 1054]
def adr14 : List Addr := [nat_lit 1055, nat_lit 1056, nat_lit 1057, nat_lit 1058, nat_lit 1059, nat_lit 1060, nat_lit 1061, nat_lit 1062, nat_lit 1063, nat_lit 1064, nat_lit 1065, nat_lit 1066, nat_lit 1067, nat_lit 1068, nat_lit 1069, nat_lit 1070, nat_lit 1071, nat_lit 1072, nat_lit 1073, nat_lit 1074, nat_lit 1075, nat_lit 1076, nat_lit 1077, nat_lit 1078, nat_lit 1079, nat_lit 1080, nat_lit 1081, nat_lit 1082, nat_lit 1083, nat_lit 1084, nat_lit 1085, nat_lit 1086, nat_lit 1087, nat_lit 1088, nat_lit 1089, nat_lit 1090, nat_lit 1091, nat_lit 1093, nat_lit 1094, nat_lit 1095, nat_lit 1096, nat_lit 1097]
def adrs : List Addr := adr0 ++ adr1 ++ adr2 ++ adr3 ++ adr4 ++ adr5 ++ adr6 ++ adr7 ++ adr8 ++ adr9 ++ adr10 ++ adr11 ++ adr12 ++ adr13 ++ adr14
def bs (K : PySem.W.Frag) : List Bool := [
  HK.eqO (PySem.W.nsIn K mainGlobals "len") (some none),
  HK.eqO (PySem.W.nsIn K mainGlobals "max") (some none),
  HK.eqO (PySem.W.nsIn K mainGlobals "min") (some none),
  HK.eqO (PySem.W.nsIn K mainGlobals "isinstance") (some none),
  HK.eqO (PySem.W.nsIn K mainGlobals "int") (some none),
  HK.eqO (PySem.W.nsIn K mainGlobals "bool") (some none),
  HK.eqO (PySem.W.nsIn K mainGlobals "str") (some none),
  HK.eqO (PySem.W.nsIn K mainGlobals "tuple") (some none),
  HK.eqO (PySem.W.nsIn K mainGlobals "range") (some none),
  HK.eqO (PySem.W.nsIn K mainGlobals "list") (some none),
  HK.eqO (PySem.W.nsIn K mainGlobals "all") (some none),
  HK.eqO (PySem.W.nsIn K mainGlobals "set") (some none),
  HK.eqO (PySem.W.nsIn K mainGlobals "enumerate") (some none),
  HK.eqO (PySem.W.nsIn K mainGlobals "repr") (some none),
  HK.eqO (PySem.W.nsIn K mainGlobals "sorted") (some none),
  HK.eqO (PySem.W.nsIn K mainGlobals "zip") (some none),
  HK.eqO (PySem.W.nsIn K mainGlobals "any") (some none),
  HK.eqO (PySem.W.nsIn K mainGlobals "sum") (some none),
  HK.eqO (PySem.W.nsIn K mainGlobals "reversed") (some none),
  HK.eqO (PySem.W.nsIn K mainGlobals "dict") (some none),
  HK.eqO (PySem.W.nsIn K mainGlobals "type") (some none),
  HK.intB K "WIDEST" 6,
  HK.eqO (PySem.W.nsIn K mainGlobals "KINDS") (some (some (.ref (HK.ga K "KINDS")))),
  HK.kndB K (HK.ga K "KINDS"),
  HK.eqO (PySem.W.nsIn K mainGlobals "Rules") (some (some (.ref (HK.ga K "Rules")))),
  PySem.W.plainGet K (HK.ga K "Rules") Str.empty,
  PySem.W.hasDictIn K (HK.ga K "Rules"),
  PySem.W.plainOver K (HK.ga K "Rules"),
  HK.eqO (PySem.W.findIn K (.ref (HK.ga K "Rules")) "__setattr__") (some (some (.builtin "object.__setattr__"))),
  PySem.W.keepIn K (.ref (HK.ga K "Rules")),
  HK.eqO (PySem.W.findIn K (.ref (HK.ga K "Rules")) "span") (some none),
  HK.eqO (PySem.W.findIn K (.ref (HK.ga K "Rules")) "given") (some none),
  PySem.W.makesIn K (HK.ga K "Rules"),
  HK.eqO (PySem.W.findIn K (.ref (HK.ga K "Rules")) "__init__") (some (some (.ref (HK.ma K (HK.ga K "Rules") "__init__")))),
  PySem.W.isFn K (.ref (HK.ma K (HK.ga K "Rules") "__init__")),
  PySem.W.readsIn K (HK.ga K "Rules") (.type "type"),
  HK.eqO (PySem.W.specialIn K (.ref (HK.ga K "Rules")) "__getattribute__") (some (some (.builtin "type.__getattribute__"))),
  HK.clsB K (HK.ga K "Rules") "read",
  HK.recB K (HK.ca K (HK.ga K "Rules") "read") "classmethod",
  PySem.W.fnIn K (HK.ra K (HK.ca K (HK.ga K "Rules") "read") "classmethod"),
  HK.eqO (PySem.W.findIn K (.ref (HK.ga K "Rules")) "__class__") (some (some (.builtin "object.__class__"))),
  HK.eqO (PySem.W.specialIn K (.builtin "object.__class__") "__get__") (some (some (.builtin "getset_descriptor.__get__"))),
  HK.eqB (PySem.W.takesIn K (.builtin "object.__class__")) (some true),
  HK.eqB (PySem.W.mroIn K (HK.ga K "Rules") (.type "object")) (some true),
  HK.eqO (PySem.W.findIn K (.ref (HK.ga K "Rules")) "width") (some (some (.ref (HK.ma K (HK.ga K "Rules") "width")))),
  HK.eqO (PySem.W.specialIn K (.ref (HK.ma K (HK.ga K "Rules") "width")) "__get__") (some (some (.builtin "property.__get__"))),
  HK.eqB (PySem.W.takesIn K (.ref (HK.ma K (HK.ga K "Rules") "width"))) (some true),
  HK.recB K (HK.ma K (HK.ga K "Rules") "width") "property",
  HK.eqO (PySem.W.findIn K (.ref (HK.ga K "Rules")) "rules") (some (some (.ref (HK.ma K (HK.ga K "Rules") "rules")))),
  HK.eqO (PySem.W.specialIn K (.ref (HK.ma K (HK.ga K "Rules") "rules")) "__get__") (some (some (.builtin "property.__get__"))),
  HK.eqB (PySem.W.takesIn K (.ref (HK.ma K (HK.ga K "Rules") "rules"))) (some true),
  HK.recB K (HK.ma K (HK.ga K "Rules") "rules") "property",
  HK.eqO (PySem.W.findIn K (.ref (HK.ga K "Rules")) "__contains__") (some (some (.ref (HK.ma K (HK.ga K "Rules") "__contains__")))),
  PySem.W.isFn K (.ref (HK.ma K (HK.ga K "Rules") "__contains__")),
  HK.eqO (PySem.W.nsIn K mainGlobals "Table") (some (some (.ref (HK.ga K "Table")))),
  PySem.W.plainGet K (HK.ga K "Table") Str.empty,
  PySem.W.hasDictIn K (HK.ga K "Table"),
  PySem.W.plainOver K (HK.ga K "Table"),
  HK.eqO (PySem.W.findIn K (.ref (HK.ga K "Table")) "__setattr__") (some (some (.builtin "object.__setattr__"))),
  PySem.W.keepIn K (.ref (HK.ga K "Table")),
  HK.eqO (PySem.W.findIn K (.ref (HK.ga K "Table")) "span") (some none),
  HK.eqO (PySem.W.findIn K (.ref (HK.ga K "Table")) "lines") (some none),
  PySem.W.makesIn K (HK.ga K "Table"),
  HK.eqO (PySem.W.findIn K (.ref (HK.ga K "Table")) "__init__") (some (some (.ref (HK.ma K (HK.ga K "Table") "__init__")))),
  PySem.W.isFn K (.ref (HK.ma K (HK.ga K "Table") "__init__")),
  HK.eqO (PySem.W.findIn K (.ref (HK.ga K "Table")) "__call__") (some (some (.ref (HK.ma K (HK.ga K "Table") "__call__")))),
  PySem.W.isFn K (.ref (HK.ma K (HK.ga K "Table") "__call__")),
  PySem.W.fnIn K (HK.ma K (HK.ga K "Table") "__call__"),
  HK.eqO (PySem.W.findIn K (.ref (HK.ga K "Table")) "__class__") (some (some (.builtin "object.__class__"))),
  HK.eqB (PySem.W.mroIn K (HK.ga K "Table") (.type "object")) (some true),
  HK.eqO (PySem.W.findIn K (.ref (HK.ga K "Table")) "rows") (some (some (.ref (HK.ma K (HK.ga K "Table") "rows")))),
  HK.eqO (PySem.W.specialIn K (.ref (HK.ma K (HK.ga K "Table") "rows")) "__get__") (some (some (.builtin "property.__get__"))),
  HK.eqB (PySem.W.takesIn K (.ref (HK.ma K (HK.ga K "Table") "rows"))) (some true),
  HK.recB K (HK.ma K (HK.ga K "Table") "rows") "property",
  HK.eqO (PySem.W.findIn K (.ref (HK.ga K "Table")) "counts") (some (some (.ref (HK.ma K (HK.ga K "Table") "counts")))),
  HK.eqO (PySem.W.specialIn K (.ref (HK.ma K (HK.ga K "Table") "counts")) "__get__") (some (some (.builtin "property.__get__"))),
  HK.eqB (PySem.W.takesIn K (.ref (HK.ma K (HK.ga K "Table") "counts"))) (some true),
  HK.recB K (HK.ma K (HK.ga K "Table") "counts") "property",
  HK.eqO (PySem.W.findIn K (.ref (HK.ga K "Table")) "__eq__") (some (some (.ref (HK.ma K (HK.ga K "Table") "__eq__")))),
  PySem.W.isFn K (.ref (HK.ma K (HK.ga K "Table") "__eq__")),
  HK.eqO (PySem.W.findIn K (.ref (HK.ga K "Table")) "__ne__") (some (some (.builtin "object.__ne__"))),
  HK.eqO (PySem.W.findIn K (.ref (HK.ga K "Table")) "obeyed") (some (some (.ref (HK.ma K (HK.ga K "Table") "obeyed")))),
  PySem.W.isFn K (.ref (HK.ma K (HK.ga K "Table") "obeyed")),
  HK.intB K "LARGEST_VALUE" 9999,
  HK.intB K "MOST_ROWS" 400,
  HK.eqO (PySem.W.nsIn K mainGlobals "Log") (some (some (.ref (HK.ga K "Log")))),
  PySem.W.plainGet K (HK.ga K "Log") Str.empty,
  PySem.W.hasDictIn K (HK.ga K "Log"),
  PySem.W.plainOver K (HK.ga K "Log"),
  HK.eqO (PySem.W.findIn K (.ref (HK.ga K "Log")) "__setattr__") (some (some (.builtin "object.__setattr__"))),
  HK.eqO (PySem.W.findIn K (.ref (HK.ga K "Log")) "book") (some none),
  HK.eqO (PySem.W.findIn K (.ref (HK.ga K "Log")) "held") (some none),
  HK.eqO (PySem.W.findIn K (.ref (HK.ga K "Log")) "past") (some none),
  HK.eqO (PySem.W.findIn K (.ref (HK.ga K "Log")) "limit") (some none),
  PySem.W.makesIn K (HK.ga K "Log"),
  HK.eqO (PySem.W.findIn K (.ref (HK.ga K "Log")) "__init__") (some (some (.ref (HK.ma K (HK.ga K "Log") "__init__")))),
  PySem.W.isFn K (.ref (HK.ma K (HK.ga K "Log") "__init__")),
  PySem.W.keepIn K (.ref (HK.ga K "Log")),
  HK.eqO (PySem.W.findIn K (.ref (HK.ga K "Log")) "rules") (some (some (.ref (HK.ma K (HK.ga K "Log") "rules")))),
  HK.eqO (PySem.W.specialIn K (.ref (HK.ma K (HK.ga K "Log") "rules")) "__get__") (some (some (.builtin "property.__get__"))),
  HK.eqB (PySem.W.takesIn K (.ref (HK.ma K (HK.ga K "Log") "rules"))) (some true),
  HK.recB K (HK.ma K (HK.ga K "Log") "rules") "property",
  HK.eqO (PySem.W.findIn K (.ref (HK.ga K "Log")) "table") (some (some (.ref (HK.ma K (HK.ga K "Log") "table")))),
  HK.eqO (PySem.W.specialIn K (.ref (HK.ma K (HK.ga K "Log") "table")) "__get__") (some (some (.builtin "property.__get__"))),
  HK.eqB (PySem.W.takesIn K (.ref (HK.ma K (HK.ga K "Log") "table"))) (some true),
  HK.recB K (HK.ma K (HK.ga K "Log") "table") "property",
  HK.eqO (PySem.W.findIn K (.ref (HK.ga K "Log")) "broken") (some (some (.ref (HK.ma K (HK.ga K "Log") "broken")))),
  HK.eqO (PySem.W.specialIn K (.ref (HK.ma K (HK.ga K "Log") "broken")) "__get__") (some (some (.builtin "property.__get__"))),
  HK.eqB (PySem.W.takesIn K (.ref (HK.ma K (HK.ga K "Log") "broken"))) (some true),
  HK.recB K (HK.ma K (HK.ga K "Log") "broken") "property",
  HK.eqO (PySem.W.findIn K (.ref (HK.ga K "Log")) "__call__") (some (some (.ref (HK.ma K (HK.ga K "Log") "__call__")))),
  PySem.W.isFn K (.ref (HK.ma K (HK.ga K "Log") "__call__")),
  PySem.W.fnIn K (HK.ma K (HK.ga K "Log") "__call__"),
  HK.eqO (PySem.W.findIn K (.ref (HK.ga K "Log")) "add") (some (some (.ref (HK.ma K (HK.ga K "Log") "add")))),
  PySem.W.isFn K (.ref (HK.ma K (HK.ga K "Log") "add")),
  PySem.W.keepIn K (.ref (HK.ma K (HK.ga K "Log") "add")),
  HK.eqO (PySem.W.findIn K (.ref (HK.ga K "Log")) "change") (some (some (.ref (HK.ma K (HK.ga K "Log") "change")))),
  PySem.W.isFn K (.ref (HK.ma K (HK.ga K "Log") "change")),
  PySem.W.keepIn K (.ref (HK.ma K (HK.ga K "Log") "change")),
  HK.eqO (PySem.W.findIn K (.ref (HK.ga K "Log")) "check") (some (some (.ref (HK.ma K (HK.ga K "Log") "check")))),
  PySem.W.isFn K (.ref (HK.ma K (HK.ga K "Log") "check")),
  PySem.W.keepIn K (.ref (HK.ma K (HK.ga K "Log") "check")),
  HK.eqO (PySem.W.nsIn K mainGlobals "Strict") (some (some (.ref (HK.ga K "Strict")))),
  PySem.W.plainGet K (HK.ga K "Strict") Str.empty,
  PySem.W.hasDictIn K (HK.ga K "Strict"),
  PySem.W.plainOver K (HK.ga K "Strict"),
  HK.eqO (PySem.W.findIn K (.ref (HK.ga K "Strict")) "__setattr__") (some (some (.builtin "object.__setattr__"))),
  HK.eqO (PySem.W.findIn K (.ref (HK.ga K "Strict")) "book") (some none),
  HK.eqO (PySem.W.findIn K (.ref (HK.ga K "Strict")) "held") (some none),
  HK.eqO (PySem.W.findIn K (.ref (HK.ga K "Strict")) "past") (some none),
  HK.eqO (PySem.W.findIn K (.ref (HK.ga K "Strict")) "limit") (some none),
  PySem.W.makesIn K (HK.ga K "Strict"),
  HK.eqO (PySem.W.findIn K (.ref (HK.ga K "Strict")) "__init__") (some (some (.ref (HK.ma K (HK.ga K "Strict") "__init__")))),
  PySem.W.isFn K (.ref (HK.ma K (HK.ga K "Strict") "__init__")),
  PySem.W.keepIn K (.ref (HK.ga K "Strict")),
  HK.eqO (PySem.W.findIn K (.ref (HK.ga K "Strict")) "rules") (some (some (.ref (HK.ma K (HK.ga K "Strict") "rules")))),
  HK.eqO (PySem.W.specialIn K (.ref (HK.ma K (HK.ga K "Strict") "rules")) "__get__") (some (some (.builtin "property.__get__"))),
  HK.eqB (PySem.W.takesIn K (.ref (HK.ma K (HK.ga K "Strict") "rules"))) (some true),
  HK.recB K (HK.ma K (HK.ga K "Strict") "rules") "property",
  HK.eqO (PySem.W.findIn K (.ref (HK.ga K "Strict")) "table") (some (some (.ref (HK.ma K (HK.ga K "Strict") "table")))),
  HK.eqO (PySem.W.specialIn K (.ref (HK.ma K (HK.ga K "Strict") "table")) "__get__") (some (some (.builtin "property.__get__"))),
  HK.eqB (PySem.W.takesIn K (.ref (HK.ma K (HK.ga K "Strict") "table"))) (some true),
  HK.recB K (HK.ma K (HK.ga K "Strict") "table") "property",
  HK.eqO (PySem.W.findIn K (.ref (HK.ga K "Strict")) "broken") (some (some (.ref (HK.ma K (HK.ga K "Strict") "broken")))),
  HK.eqO (PySem.W.specialIn K (.ref (HK.ma K (HK.ga K "Strict") "broken")) "__get__") (some (some (.builtin "property.__get__"))),
  HK.eqB (PySem.W.takesIn K (.ref (HK.ma K (HK.ga K "Strict") "broken"))) (some true),
  HK.recB K (HK.ma K (HK.ga K "Strict") "broken") "property",
  HK.eqO (PySem.W.findIn K (.ref (HK.ga K "Strict")) "__call__") (some (some (.ref (HK.ma K (HK.ga K "Strict") "__call__")))),
  PySem.W.isFn K (.ref (HK.ma K (HK.ga K "Strict") "__call__")),
  PySem.W.fnIn K (HK.ma K (HK.ga K "Strict") "__call__"),
  HK.eqO (PySem.W.findIn K (.ref (HK.ga K "Strict")) "add") (some (some (.ref (HK.ma K (HK.ga K "Strict") "add")))),
  PySem.W.isFn K (.ref (HK.ma K (HK.ga K "Strict") "add")),
  PySem.W.keepIn K (.ref (HK.ma K (HK.ga K "Strict") "add")),
  HK.eqO (PySem.W.findIn K (.ref (HK.ga K "Strict")) "change") (some (some (.ref (HK.ma K (HK.ga K "Log") "change")))),
  HK.eqO (PySem.W.findIn K (.ref (HK.ga K "Strict")) "check") (some (some (.ref (HK.ma K (HK.ga K "Strict") "check")))),
  PySem.W.isFn K (.ref (HK.ma K (HK.ga K "Strict") "check")),
  PySem.W.keepIn K (.ref (HK.ma K (HK.ga K "Strict") "check")),
  HK.eqO (PySem.W.nsIn K mainGlobals "Short") (some (some (.ref (HK.ga K "Short")))),
  PySem.W.plainGet K (HK.ga K "Short") Str.empty,
  PySem.W.hasDictIn K (HK.ga K "Short"),
  PySem.W.plainOver K (HK.ga K "Short"),
  HK.eqO (PySem.W.findIn K (.ref (HK.ga K "Short")) "__setattr__") (some (some (.builtin "object.__setattr__"))),
  HK.eqO (PySem.W.findIn K (.ref (HK.ga K "Short")) "book") (some none),
  HK.eqO (PySem.W.findIn K (.ref (HK.ga K "Short")) "held") (some none),
  HK.eqO (PySem.W.findIn K (.ref (HK.ga K "Short")) "past") (some none),
  HK.eqO (PySem.W.findIn K (.ref (HK.ga K "Short")) "limit") (some none),
  PySem.W.makesIn K (HK.ga K "Short"),
  HK.eqO (PySem.W.findIn K (.ref (HK.ga K "Short")) "__init__") (some (some (.ref (HK.ma K (HK.ga K "Short") "__init__")))),
  PySem.W.isFn K (.ref (HK.ma K (HK.ga K "Short") "__init__")),
  PySem.W.keepIn K (.ref (HK.ga K "Short")),
  HK.eqO (PySem.W.findIn K (.ref (HK.ga K "Short")) "rules") (some (some (.ref (HK.ma K (HK.ga K "Short") "rules")))),
  HK.eqO (PySem.W.specialIn K (.ref (HK.ma K (HK.ga K "Short") "rules")) "__get__") (some (some (.builtin "property.__get__"))),
  HK.eqB (PySem.W.takesIn K (.ref (HK.ma K (HK.ga K "Short") "rules"))) (some true),
  HK.recB K (HK.ma K (HK.ga K "Short") "rules") "property",
  HK.eqO (PySem.W.findIn K (.ref (HK.ga K "Short")) "table") (some (some (.ref (HK.ma K (HK.ga K "Short") "table")))),
  HK.eqO (PySem.W.specialIn K (.ref (HK.ma K (HK.ga K "Short") "table")) "__get__") (some (some (.builtin "property.__get__"))),
  HK.eqB (PySem.W.takesIn K (.ref (HK.ma K (HK.ga K "Short") "table"))) (some true),
  HK.recB K (HK.ma K (HK.ga K "Short") "table") "property",
  HK.eqO (PySem.W.findIn K (.ref (HK.ga K "Short")) "broken") (some (some (.ref (HK.ma K (HK.ga K "Short") "broken")))),
  HK.eqO (PySem.W.specialIn K (.ref (HK.ma K (HK.ga K "Short") "broken")) "__get__") (some (some (.builtin "property.__get__"))),
  HK.eqB (PySem.W.takesIn K (.ref (HK.ma K (HK.ga K "Short") "broken"))) (some true),
  HK.recB K (HK.ma K (HK.ga K "Short") "broken") "property",
  HK.eqO (PySem.W.findIn K (.ref (HK.ga K "Short")) "__call__") (some (some (.ref (HK.ma K (HK.ga K "Short") "__call__")))),
  PySem.W.isFn K (.ref (HK.ma K (HK.ga K "Short") "__call__")),
  PySem.W.fnIn K (HK.ma K (HK.ga K "Short") "__call__"),
  HK.eqO (PySem.W.findIn K (.ref (HK.ga K "Short")) "add") (some (some (.ref (HK.ma K (HK.ga K "Short") "add")))),
  PySem.W.isFn K (.ref (HK.ma K (HK.ga K "Short") "add")),
  PySem.W.keepIn K (.ref (HK.ma K (HK.ga K "Short") "add")),
  HK.eqO (PySem.W.findIn K (.ref (HK.ga K "Short")) "change") (some (some (.ref (HK.ma K (HK.ga K "Log") "change")))),
  HK.eqO (PySem.W.findIn K (.ref (HK.ga K "Short")) "check") (some (some (.ref (HK.ma K (HK.ga K "Short") "check")))),
  PySem.W.isFn K (.ref (HK.ma K (HK.ga K "Short") "check")),
  PySem.W.keepIn K (.ref (HK.ma K (HK.ga K "Short") "check")),
  HK.eqO (PySem.W.nsIn K mainGlobals "StrictShort") (some (some (.ref (HK.ga K "StrictShort")))),
  PySem.W.plainGet K (HK.ga K "StrictShort") Str.empty,
  PySem.W.hasDictIn K (HK.ga K "StrictShort"),
  PySem.W.plainOver K (HK.ga K "StrictShort"),
  HK.eqO (PySem.W.findIn K (.ref (HK.ga K "StrictShort")) "__setattr__") (some (some (.builtin "object.__setattr__"))),
  HK.eqO (PySem.W.findIn K (.ref (HK.ga K "StrictShort")) "book") (some none),
  HK.eqO (PySem.W.findIn K (.ref (HK.ga K "StrictShort")) "held") (some none),
  HK.eqO (PySem.W.findIn K (.ref (HK.ga K "StrictShort")) "past") (some none),
  HK.eqO (PySem.W.findIn K (.ref (HK.ga K "StrictShort")) "limit") (some none),
  PySem.W.makesIn K (HK.ga K "StrictShort"),
  HK.eqO (PySem.W.findIn K (.ref (HK.ga K "StrictShort")) "__init__") (some (some (.ref (HK.ma K (HK.ga K "StrictShort") "__init__")))),
  PySem.W.isFn K (.ref (HK.ma K (HK.ga K "StrictShort") "__init__")),
  PySem.W.keepIn K (.ref (HK.ga K "StrictShort")),
  HK.eqO (PySem.W.findIn K (.ref (HK.ga K "StrictShort")) "rules") (some (some (.ref (HK.ma K (HK.ga K "StrictShort") "rules")))),
  HK.eqO (PySem.W.specialIn K (.ref (HK.ma K (HK.ga K "StrictShort") "rules")) "__get__") (some (some (.builtin "property.__get__"))),
  HK.eqB (PySem.W.takesIn K (.ref (HK.ma K (HK.ga K "StrictShort") "rules"))) (some true),
  HK.recB K (HK.ma K (HK.ga K "StrictShort") "rules") "property",
  HK.eqO (PySem.W.findIn K (.ref (HK.ga K "StrictShort")) "table") (some (some (.ref (HK.ma K (HK.ga K "StrictShort") "table")))),
  HK.eqO (PySem.W.specialIn K (.ref (HK.ma K (HK.ga K "StrictShort") "table")) "__get__") (some (some (.builtin "property.__get__"))),
  HK.eqB (PySem.W.takesIn K (.ref (HK.ma K (HK.ga K "StrictShort") "table"))) (some true),
  HK.recB K (HK.ma K (HK.ga K "StrictShort") "table") "property",
  HK.eqO (PySem.W.findIn K (.ref (HK.ga K "StrictShort")) "broken") (some (some (.ref (HK.ma K (HK.ga K "StrictShort") "broken")))),
  HK.eqO (PySem.W.specialIn K (.ref (HK.ma K (HK.ga K "StrictShort") "broken")) "__get__") (some (some (.builtin "property.__get__"))),
  HK.eqB (PySem.W.takesIn K (.ref (HK.ma K (HK.ga K "StrictShort") "broken"))) (some true),
  HK.recB K (HK.ma K (HK.ga K "StrictShort") "broken") "property",
  HK.eqO (PySem.W.findIn K (.ref (HK.ga K "StrictShort")) "__call__") (some (some (.ref (HK.ma K (HK.ga K "StrictShort") "__call__")))),
  PySem.W.isFn K (.ref (HK.ma K (HK.ga K "StrictShort") "__call__")),
  PySem.W.fnIn K (HK.ma K (HK.ga K "StrictShort") "__call__"),
  HK.eqO (PySem.W.findIn K (.ref (HK.ga K "StrictShort")) "add") (some (some (.ref (HK.ma K (HK.ga K "StrictShort") "add")))),
  PySem.W.isFn K (.ref (HK.ma K (HK.ga K "StrictShort") "add")),
  PySem.W.keepIn K (.ref (HK.ma K (HK.ga K "StrictShort") "add")),
  HK.eqO (PySem.W.findIn K (.ref (HK.ga K "StrictShort")) "change") (some (some (.ref (HK.ma K (HK.ga K "Log") "change")))),
  HK.eqO (PySem.W.findIn K (.ref (HK.ga K "StrictShort")) "check") (some (some (.ref (HK.ma K (HK.ga K "Strict") "check")))),
  HK.eqO (PySem.W.nsIn K mainGlobals "super") (some none),
  PySem.W.isClsIn K (HK.ga K "Rules"),
  HK.eqV (PySem.W.typeIn K (.ref (HK.ga K "Rules"))) (some (.type "type")),
  PySem.W.readsIn K (HK.ga K "Log") (.type "type"),
  HK.eqO (PySem.W.specialIn K (.ref (HK.ga K "Log")) "__getattribute__") (some (some (.builtin "type.__getattribute__"))),
  HK.clvB K (HK.ga K "Log") "__init__" (HK.ma K (HK.ga K "Log") "__init__"),
  HK.eqV (PySem.W.typeIn K (.ref (HK.ma K (HK.ga K "Log") "__init__"))) (some (.type "function")),
  PySem.W.keepIn K (.ref (HK.ma K (HK.ga K "Log") "__init__")),
  PySem.W.readsIn K (HK.ga K "Short") (.type "type"),
  HK.eqO (PySem.W.specialIn K (.ref (HK.ga K "Short")) "__getattribute__") (some (some (.builtin "type.__getattribute__"))),
  HK.clvB K (HK.ga K "Short") "__init__" (HK.ma K (HK.ga K "Short") "__init__"),
  HK.eqV (PySem.W.typeIn K (.ref (HK.ma K (HK.ga K "Short") "__init__"))) (some (.type "function")),
  PySem.W.keepIn K (.ref (HK.ma K (HK.ga K "Short") "__init__")),
  HK.filB K PP (HK.coA K (HK.ma K (HK.ga K "Strict") "check")),
  HK.celB K (HK.ceA K (HK.ma K (HK.ga K "Strict") "check")) (HK.ga K "Strict"),
  PySem.W.isClsIn K (HK.ga K "Strict"),
  HK.eqO (PySem.W.nsIn K PySem.cStatics "thirdparty.any") (some none),
  HK.filB K PP (HK.coA K (HK.ma K (HK.ga K "Short") "check")),
  HK.celB K (HK.ceA K (HK.ma K (HK.ga K "Short") "check")) (HK.ga K "Short"),
  PySem.W.isClsIn K (HK.ga K "Short"),
  HK.filB K PP (HK.coA K (HK.ma K (HK.ga K "Strict") "add")),
  HK.celB K (HK.ceA K (HK.ma K (HK.ga K "Strict") "add")) (HK.ga K "Strict"),
  HK.filB K PP (HK.coA K (HK.ma K (HK.ga K "Short") "add")),
  HK.celB K (HK.ceA K (HK.ma K (HK.ga K "Short") "add")) (HK.ga K "Short"),
  HK.filB K PP (HK.coA K (HK.ma K (HK.ga K "StrictShort") "add")),
  HK.celB K (HK.ceA K (HK.ma K (HK.ga K "StrictShort") "add")) (HK.ga K "StrictShort"),
  PySem.W.isClsIn K (HK.ga K "StrictShort"),
  HK.eqB (PySem.W.mroIn K (HK.ga K "Strict") (.ref (HK.ga K "Strict"))) (some true),
  HK.eqO (PySem.W.ks_superIn K (HK.ga K "Strict") (HK.ga K "Strict") "check") (some (some (.ref (HK.ma K (HK.ga K "Log") "check")))),
  HK.eqV (PySem.W.typeIn K (.ref (HK.ma K (HK.ga K "Log") "check"))) (some (.type "function")),
  PySem.W.fnIn K (HK.ma K (HK.ga K "Log") "check"),
  HK.eqB (PySem.W.mroIn K (HK.ga K "Short") (.ref (HK.ga K "Short"))) (some true),
  HK.eqO (PySem.W.ks_superIn K (HK.ga K "Short") (HK.ga K "Short") "check") (some (some (.ref (HK.ma K (HK.ga K "Log") "check")))),
  HK.eqB (PySem.W.mroIn K (HK.ga K "StrictShort") (.ref (HK.ga K "Strict"))) (some true),
  HK.eqO (PySem.W.ks_superIn K (HK.ga K "StrictShort") (HK.ga K "Strict") "check") (some (some (.ref (HK.ma K (HK.ga K "Short") "check")))),
  HK.eqV (PySem.W.typeIn K (.ref (HK.ma K (HK.ga K "Short") "check"))) (some (.type "function")),
  PySem.W.fnIn K (HK.ma K (HK.ga K "Short") "check"),
  HK.eqB (PySem.W.mroIn K (HK.ga K "StrictShort") (.ref (HK.ga K "Short"))) (some true),
  HK.eqO (PySem.W.ks_superIn K (HK.ga K "StrictShort") (HK.ga K "Short") "check") (some (some (.ref (HK.ma K (HK.ga K "Log") "check")))),
  HK.eqO (PySem.W.ks_superIn K (HK.ga K "Strict") (HK.ga K "Strict") "add") (some (some (.ref (HK.ma K (HK.ga K "Log") "add")))),
  HK.eqV (PySem.W.typeIn K (.ref (HK.ma K (HK.ga K "Log") "add"))) (some (.type "function")),
  PySem.W.fnIn K (HK.ma K (HK.ga K "Log") "add"),
  HK.eqO (PySem.W.ks_superIn K (HK.ga K "Short") (HK.ga K "Short") "add") (some (some (.ref (HK.ma K (HK.ga K "Log") "add")))),
  HK.eqO (PySem.W.ks_superIn K (HK.ga K "StrictShort") (HK.ga K "Strict") "add") (some (some (.ref (HK.ma K (HK.ga K "Short") "add")))),
  HK.eqV (PySem.W.typeIn K (.ref (HK.ma K (HK.ga K "Short") "add"))) (some (.type "function")),
  PySem.W.fnIn K (HK.ma K (HK.ga K "Short") "add"),
  HK.eqO (PySem.W.ks_superIn K (HK.ga K "StrictShort") (HK.ga K "Short") "add") (some (some (.ref (HK.ma K (HK.ga K "Log") "add")))),
  HK.eqB (PySem.W.mroIn K (HK.ga K "StrictShort") (.ref (HK.ga K "StrictShort"))) (some true),
  HK.eqO (PySem.W.ks_superIn K (HK.ga K "StrictShort") (HK.ga K "StrictShort") "add") (some (some (.ref (HK.ma K (HK.ga K "Strict") "add")))),
  HK.eqV (PySem.W.typeIn K (.ref (HK.ma K (HK.ga K "Strict") "add"))) (some (.type "function")),
  PySem.W.fnIn K (HK.ma K (HK.ga K "Strict") "add"),
  HK.eqO (PySem.W.nsIn K mainGlobals "ColumnError") (some (some (.ref (HK.ga K "ColumnError")))),
  HK.eqO (PySem.W.nsIn K mainGlobals "NoRow") (some (some (.ref (HK.ga K "NoRow")))),
  PySem.W.excIn K (HK.ga K "NoRow") [.type "ValueError", .type "Exception", .type "BaseException", .type "object"] "ValueError.__new__",
  PySem.W.keepIn K (.ref (HK.ga K "NoRow")),
  HK.eqB (PySem.W.subIn K (.ref (HK.ga K "NoRow")) (.type "BaseException")) (some true),
  HK.eqV (PySem.W.typeIn K (.ref (HK.ga K "NoRow"))) (some (.type "type")),
  PySem.W.isClsIn K (HK.ga K "NoRow"),
  HK.eqB (PySem.W.subIn K (.ref (HK.ga K "NoRow")) (.ref (HK.ga K "NoRow"))) (some true),
  HK.eqO (PySem.W.nsIn K mainGlobals "NoNumber") (some (some (.ref (HK.ga K "NoNumber")))),
  PySem.W.excIn K (HK.ga K "NoNumber") [.type "ValueError", .type "Exception", .type "BaseException", .type "object"] "ValueError.__new__",
  PySem.W.keepIn K (.ref (HK.ga K "NoNumber")),
  HK.eqB (PySem.W.subIn K (.ref (HK.ga K "NoNumber")) (.type "BaseException")) (some true),
  HK.eqV (PySem.W.typeIn K (.ref (HK.ga K "NoNumber"))) (some (.type "type")),
  PySem.W.isClsIn K (HK.ga K "NoNumber"),
  HK.eqB (PySem.W.subIn K (.ref (HK.ga K "NoNumber")) (.ref (HK.ga K "NoNumber"))) (some true),
  HK.eqO (PySem.W.nsIn K mainGlobals "NotTable") (some (some (.ref (HK.ga K "NotTable")))),
  PySem.W.excIn K (HK.ga K "NotTable") [.type "ValueError", .type "Exception", .type "BaseException", .type "object"] "ValueError.__new__",
  PySem.W.keepIn K (.ref (HK.ga K "NotTable")),
  HK.eqB (PySem.W.subIn K (.ref (HK.ga K "NotTable")) (.type "BaseException")) (some true),
  HK.eqV (PySem.W.typeIn K (.ref (HK.ga K "NotTable"))) (some (.type "type")),
  PySem.W.isClsIn K (HK.ga K "NotTable"),
  HK.eqB (PySem.W.subIn K (.ref (HK.ga K "NotTable")) (.ref (HK.ga K "NotTable"))) (some true),
  HK.eqO (PySem.W.nsIn K mainGlobals "NotRules") (some (some (.ref (HK.ga K "NotRules")))),
  PySem.W.excIn K (HK.ga K "NotRules") [.type "ValueError", .type "Exception", .type "BaseException", .type "object"] "ValueError.__new__",
  PySem.W.keepIn K (.ref (HK.ga K "NotRules")),
  HK.eqB (PySem.W.subIn K (.ref (HK.ga K "NotRules")) (.type "BaseException")) (some true),
  HK.eqV (PySem.W.typeIn K (.ref (HK.ga K "NotRules"))) (some (.type "type")),
  PySem.W.isClsIn K (HK.ga K "NotRules"),
  HK.eqB (PySem.W.subIn K (.ref (HK.ga K "NotRules")) (.ref (HK.ga K "NotRules"))) (some true),
  HK.eqO (PySem.W.nsIn K mainGlobals "UnlikeWidths") (some (some (.ref (HK.ga K "UnlikeWidths")))),
  PySem.W.excIn K (HK.ga K "UnlikeWidths") [.type "ValueError", .type "Exception", .type "BaseException", .type "object"] "ValueError.__new__",
  PySem.W.keepIn K (.ref (HK.ga K "UnlikeWidths")),
  HK.eqB (PySem.W.subIn K (.ref (HK.ga K "UnlikeWidths")) (.type "BaseException")) (some true),
  HK.eqV (PySem.W.typeIn K (.ref (HK.ga K "UnlikeWidths"))) (some (.type "type")),
  PySem.W.isClsIn K (HK.ga K "UnlikeWidths"),
  HK.eqB (PySem.W.subIn K (.ref (HK.ga K "UnlikeWidths")) (.ref (HK.ga K "UnlikeWidths"))) (some true),
  HK.eqO (PySem.W.nsIn K mainGlobals "TooMuch") (some (some (.ref (HK.ga K "TooMuch")))),
  PySem.W.excIn K (HK.ga K "TooMuch") [.type "ValueError", .type "Exception", .type "BaseException", .type "object"] "ValueError.__new__",
  PySem.W.keepIn K (.ref (HK.ga K "TooMuch")),
  HK.eqB (PySem.W.subIn K (.ref (HK.ga K "TooMuch")) (.type "BaseException")) (some true),
  HK.eqV (PySem.W.typeIn K (.ref (HK.ga K "TooMuch"))) (some (.type "type")),
  PySem.W.isClsIn K (HK.ga K "TooMuch"),
  HK.eqB (PySem.W.subIn K (.ref (HK.ga K "TooMuch")) (.ref (HK.ga K "TooMuch"))) (some true),
  HK.eqO (PySem.W.nsIn K mainGlobals "NotThere") (some (some (.ref (HK.ga K "NotThere")))),
  PySem.W.excIn K (HK.ga K "NotThere") [.type "ValueError", .type "Exception", .type "BaseException", .type "object"] "ValueError.__new__",
  PySem.W.keepIn K (.ref (HK.ga K "NotThere")),
  HK.eqB (PySem.W.subIn K (.ref (HK.ga K "NotThere")) (.type "BaseException")) (some true),
  HK.eqV (PySem.W.typeIn K (.ref (HK.ga K "NotThere"))) (some (.type "type")),
  PySem.W.isClsIn K (HK.ga K "NotThere"),
  HK.eqB (PySem.W.subIn K (.ref (HK.ga K "NotThere")) (.ref (HK.ga K "NotThere"))) (some true),
  HK.eqO (PySem.W.nsIn K mainGlobals "Broken") (some (some (.ref (HK.ga K "Broken")))),
  PySem.W.excIn K (HK.ga K "Broken") [.type "ValueError", .type "Exception", .type "BaseException", .type "object"] "ValueError.__new__",
  PySem.W.keepIn K (.ref (HK.ga K "Broken")),
  HK.eqB (PySem.W.subIn K (.ref (HK.ga K "Broken")) (.type "BaseException")) (some true),
  HK.eqV (PySem.W.typeIn K (.ref (HK.ga K "Broken"))) (some (.type "type")),
  PySem.W.isClsIn K (HK.ga K "Broken"),
  HK.eqB (PySem.W.subIn K (.ref (HK.ga K "Broken")) (.ref (HK.ga K "Broken"))) (some true),
  HK.eqO (PySem.W.nsIn K mainGlobals "NothingDone") (some (some (.ref (HK.ga K "NothingDone")))),
  PySem.W.excIn K (HK.ga K "NothingDone") [.type "ValueError", .type "Exception", .type "BaseException", .type "object"] "ValueError.__new__",
  PySem.W.keepIn K (.ref (HK.ga K "NothingDone")),
  HK.eqB (PySem.W.subIn K (.ref (HK.ga K "NothingDone")) (.type "BaseException")) (some true),
  HK.eqV (PySem.W.typeIn K (.ref (HK.ga K "NothingDone"))) (some (.type "type")),
  PySem.W.isClsIn K (HK.ga K "NothingDone"),
  HK.eqB (PySem.W.subIn K (.ref (HK.ga K "NothingDone")) (.ref (HK.ga K "NothingDone"))) (some true),
  HK.eqB (PySem.W.subIn K (.ref (HK.ga K "NoNumber")) (.ref (HK.ga K "NoRow"))) (some false),
  HK.eqB (PySem.W.subIn K (.ref (HK.ga K "NotTable")) (.ref (HK.ga K "NoRow"))) (some false),
  HK.eqB (PySem.W.subIn K (.ref (HK.ga K "NotTable")) (.ref (HK.ga K "NoNumber"))) (some false),
  HK.eqB (PySem.W.subIn K (.ref (HK.ga K "NotRules")) (.ref (HK.ga K "NoRow"))) (some false),
  HK.eqB (PySem.W.subIn K (.ref (HK.ga K "NotRules")) (.ref (HK.ga K "NoNumber"))) (some false),
  HK.eqB (PySem.W.subIn K (.ref (HK.ga K "NotRules")) (.ref (HK.ga K "NotTable"))) (some false),
  HK.eqB (PySem.W.subIn K (.ref (HK.ga K "UnlikeWidths")) (.ref (HK.ga K "NoRow"))) (some false),
  HK.eqB (PySem.W.subIn K (.ref (HK.ga K "UnlikeWidths")) (.ref (HK.ga K "NoNumber"))) (some false),
  HK.eqB (PySem.W.subIn K (.ref (HK.ga K "UnlikeWidths")) (.ref (HK.ga K "NotTable"))) (some false),
  HK.eqB (PySem.W.subIn K (.ref (HK.ga K "UnlikeWidths")) (.ref (HK.ga K "NotRules"))) (some false),
  HK.eqB (PySem.W.subIn K (.ref (HK.ga K "TooMuch")) (.ref (HK.ga K "NoRow"))) (some false),
  HK.eqB (PySem.W.subIn K (.ref (HK.ga K "TooMuch")) (.ref (HK.ga K "NoNumber"))) (some false),
  HK.eqB (PySem.W.subIn K (.ref (HK.ga K "TooMuch")) (.ref (HK.ga K "NotTable"))) (some false),
  HK.eqB (PySem.W.subIn K (.ref (HK.ga K "TooMuch")) (.ref (HK.ga K "NotRules"))) (some false),
  HK.eqB (PySem.W.subIn K (.ref (HK.ga K "TooMuch")) (.ref (HK.ga K "UnlikeWidths"))) (some false),
  HK.eqB (PySem.W.subIn K (.ref (HK.ga K "NotThere")) (.ref (HK.ga K "NoRow"))) (some false),
  HK.eqB (PySem.W.subIn K (.ref (HK.ga K "NotThere")) (.ref (HK.ga K "NoNumber"))) (some false),
  HK.eqB (PySem.W.subIn K (.ref (HK.ga K "NotThere")) (.ref (HK.ga K "NotTable"))) (some false),
  HK.eqB (PySem.W.subIn K (.ref (HK.ga K "NotThere")) (.ref (HK.ga K "NotRules"))) (some false),
  HK.eqB (PySem.W.subIn K (.ref (HK.ga K "NotThere")) (.ref (HK.ga K "UnlikeWidths"))) (some false),
  HK.eqB (PySem.W.subIn K (.ref (HK.ga K "NotThere")) (.ref (HK.ga K "TooMuch"))) (some false),
  HK.eqB (PySem.W.subIn K (.ref (HK.ga K "Broken")) (.ref (HK.ga K "NoRow"))) (some false),
  HK.eqB (PySem.W.subIn K (.ref (HK.ga K "Broken")) (.ref (HK.ga K "NoNumber"))) (some false),
  HK.eqB (PySem.W.subIn K (.ref (HK.ga K "Broken")) (.ref (HK.ga K "NotTable"))) (some false),
  HK.eqB (PySem.W.subIn K (.ref (HK.ga K "Broken")) (.ref (HK.ga K "NotRules"))) (some false),
  HK.eqB (PySem.W.subIn K (.ref (HK.ga K "Broken")) (.ref (HK.ga K "UnlikeWidths"))) (some false),
  HK.eqB (PySem.W.subIn K (.ref (HK.ga K "Broken")) (.ref (HK.ga K "TooMuch"))) (some false),
  HK.eqB (PySem.W.subIn K (.ref (HK.ga K "Broken")) (.ref (HK.ga K "NotThere"))) (some false),
  HK.eqB (PySem.W.subIn K (.ref (HK.ga K "NothingDone")) (.ref (HK.ga K "NoRow"))) (some false),
  HK.eqB (PySem.W.subIn K (.ref (HK.ga K "NothingDone")) (.ref (HK.ga K "NoNumber"))) (some false),
  HK.eqB (PySem.W.subIn K (.ref (HK.ga K "NothingDone")) (.ref (HK.ga K "NotTable"))) (some false),
  HK.eqB (PySem.W.subIn K (.ref (HK.ga K "NothingDone")) (.ref (HK.ga K "NotRules"))) (some false),
  HK.eqB (PySem.W.subIn K (.ref (HK.ga K "NothingDone")) (.ref (HK.ga K "UnlikeWidths"))) (some false),
  HK.eqB (PySem.W.subIn K (.ref (HK.ga K "NothingDone")) (.ref (HK.ga K "TooMuch"))) (some false),
  HK.eqB (PySem.W.subIn K (.ref (HK.ga K "NothingDone")) (.ref (HK.ga K "NotThere"))) (some false),
  HK.eqB (PySem.W.subIn K (.ref (HK.ga K "NothingDone")) (.ref (HK.ga K "Broken"))) (some false),
  HK.eqO (PySem.W.nsIn K mainGlobals "is_an_integer") (some (some (.ref (HK.ga K "is_an_integer")))),
  HK.eqO (PySem.W.nsIn K mainGlobals "is_width") (some (some (.ref (HK.ga K "is_width")))),
  HK.eqO (PySem.W.nsIn K mainGlobals "is_column") (some (some (.ref (HK.ga K "is_column")))),
  HK.eqO (PySem.W.nsIn K mainGlobals "is_rule") (some (some (.ref (HK.ga K "is_rule")))),
  HK.eqO (PySem.W.nsIn K mainGlobals "every_rule") (some (some (.ref (HK.ga K "every_rule")))),
  HK.eqO (PySem.W.nsIn K mainGlobals "line_of") (some (some (.ref (HK.ga K "line_of")))),
  HK.eqO (PySem.W.nsIn K mainGlobals "rules_of") (some (some (.ref (HK.ga K "rules_of")))),
  HK.eqO (PySem.W.nsIn K mainGlobals "is_row") (some (some (.ref (HK.ga K "is_row")))),
  HK.eqO (PySem.W.nsIn K mainGlobals "holds") (some (some (.ref (HK.ga K "holds")))),
  HK.eqO (PySem.W.nsIn K mainGlobals "rules_broken") (some (some (.ref (HK.ga K "rules_broken")))),
  HK.eqO (PySem.W.nsIn K mainGlobals "_law_said") (some (some (.ref (HK.ga K "_law_said")))),
  HK.eqO (PySem.W.nsIn K mainGlobals "_law_source") (some (some (.ref (HK.ga K "_law_source")))),
  HK.eqO (PySem.W.nsIn K mainGlobals "_law_cell") (some (some (.ref (HK.ga K "_law_cell")))),
  HK.eqO (PySem.W.nsIn K mainGlobals "_law_draw") (some (some (.ref (HK.ga K "_law_draw")))),
  HK.eqO (PySem.W.nsIn K mainGlobals "_law_choose") (some (some (.ref (HK.ga K "_law_choose")))),
  HK.eqO (PySem.W.nsIn K mainGlobals "_law_given") (some (some (.ref (HK.ga K "_law_given")))),
  HK.eqO (PySem.W.nsIn K mainGlobals "_law_words") (some (some (.ref (HK.ga K "_law_words")))),
  HK.eqO (PySem.W.nsIn K mainGlobals "_law_row") (some (some (.ref (HK.ga K "_law_row")))),
  HK.eqO (PySem.W.nsIn K mainGlobals "_law_made") (some (some (.ref (HK.ga K "_law_made")))),
  HK.eqO (PySem.W.nsIn K mainGlobals "_law_is_told_right") (some (some (.ref (HK.ga K "_law_is_told_right")))),
  HK.eqO (PySem.W.nsIn K mainGlobals "law") (some (some (.ref (HK.ga K "law")))),
  HK.tabB K "law",
  (K.lookup (HK.tabP K "law")).isNone,
  decide (HK.coA K (HK.ga K "law") = HK.tabC K "law")]
def fn : List HK.DefX := [
  ⟨fun K => (HK.ma K (HK.ga K "Rules") "__init__"), false, "__init__", "Rules.__init__", sInit, []⟩,
  ⟨fun K => (HK.ra K (HK.ca K (HK.ga K "Rules") "read") "classmethod"), false, "read", "Rules.read", sRead, []⟩,
  ⟨fun K => (HK.ra K (HK.ma K (HK.ga K "Rules") "width") "property"), false, "width", "Rules.width", sPW, []⟩,
  ⟨fun K => (HK.ra K (HK.ma K (HK.ga K "Rules") "rules") "property"), false, "rules", "Rules.rules", sPR, []⟩,
  ⟨fun K => (HK.ma K (HK.ga K "Rules") "__contains__"), false, "__contains__", "Rules.__contains__", sRCon, []⟩,
  ⟨fun K => (HK.ma K (HK.ga K "Table") "__init__"), false, "__init__", "Table.__init__", sTInit, []⟩,
  ⟨fun K => (HK.ma K (HK.ga K "Table") "__call__"), false, "__call__", "Table.__call__", sTCall, []⟩,
  ⟨fun K => (HK.ra K (HK.ma K (HK.ga K "Table") "rows") "property"), false, "rows", "Table.rows", sTR, []⟩,
  ⟨fun K => (HK.ra K (HK.ma K (HK.ga K "Table") "counts") "property"), false, "counts", "Table.counts", sTCnt, []⟩,
  ⟨fun K => (HK.ma K (HK.ga K "Table") "__eq__"), false, "__eq__", "Table.__eq__", sTEq, []⟩,
  ⟨fun K => (HK.ma K (HK.ga K "Table") "obeyed"), false, "obeyed", "Table.obeyed", sObey, []⟩,
  ⟨fun K => (HK.ra K (HK.ma K (HK.ga K "Log") "rules") "property"), false, "rules", "Log.rules", slRlM, []⟩,
  ⟨fun K => (HK.ra K (HK.ma K (HK.ga K "Log") "table") "property"), false, "table", "Log.table", slTbM, []⟩,
  ⟨fun K => (HK.ra K (HK.ma K (HK.ga K "Log") "broken") "property"), false, "broken", "Log.broken", slBrM, []⟩,
  ⟨fun K => (HK.ma K (HK.ga K "Log") "__call__"), false, "__call__", "Log.__call__", slCll, []⟩,
  ⟨fun K => (HK.ra K (HK.ma K (HK.ga K "Strict") "rules") "property"), false, "rules", "Strict.rules", ssRlM, []⟩,
  ⟨fun K => (HK.ra K (HK.ma K (HK.ga K "Strict") "table") "property"), false, "table", "Strict.table", ssTbM, []⟩,
  ⟨fun K => (HK.ra K (HK.ma K (HK.ga K "Strict") "broken") "property"), false, "broken", "Strict.broken", ssBrM, []⟩,
  ⟨fun K => (HK.ma K (HK.ga K "Strict") "__call__"), false, "__call__", "Strict.__call__", ssCll, []⟩,
  ⟨fun K => (HK.ra K (HK.ma K (HK.ga K "Short") "rules") "property"), false, "rules", "Short.rules", shRlM, []⟩,
  ⟨fun K => (HK.ra K (HK.ma K (HK.ga K "Short") "table") "property"), false, "table", "Short.table", shTbM, []⟩,
  ⟨fun K => (HK.ra K (HK.ma K (HK.ga K "Short") "broken") "property"), false, "broken", "Short.broken", shBrM, []⟩,
  ⟨fun K => (HK.ma K (HK.ga K "Short") "__call__"), false, "__call__", "Short.__call__", shCll, []⟩,
  ⟨fun K => (HK.ra K (HK.ma K (HK.ga K "StrictShort") "rules") "property"), false, "rules", "StrictShort.rules", sgRlM, []⟩,
  ⟨fun K => (HK.ra K (HK.ma K (HK.ga K "StrictShort") "table") "property"), false, "table", "StrictShort.table", sgTbM, []⟩,
  ⟨fun K => (HK.ra K (HK.ma K (HK.ga K "StrictShort") "broken") "property"), false, "broken", "StrictShort.broken", sgBrM, []⟩,
  ⟨fun K => (HK.ma K (HK.ga K "StrictShort") "__call__"), false, "__call__", "StrictShort.__call__", sgCll, []⟩,
  ⟨fun K => (HK.ma K (HK.ga K "Log") "__init__"), false, "__init__", "Log.__init__", sLInit, []⟩,
  ⟨fun K => (HK.ma K (HK.ga K "Strict") "__init__"), false, "__init__", "Strict.__init__", sSInitM, []⟩,
  ⟨fun K => (HK.ma K (HK.ga K "Short") "__init__"), false, "__init__", "Short.__init__", sHInit, [.int 10]⟩,
  ⟨fun K => (HK.ma K (HK.ga K "StrictShort") "__init__"), false, "__init__", "StrictShort.__init__", sGInit, [.int 10]⟩,
  ⟨fun K => (HK.ma K (HK.ga K "Log") "check"), false, "check", "Log.check", sLChk, []⟩,
  ⟨fun K => (HK.ma K (HK.ga K "Log") "change"), false, "change", "Log.change", sLChg, []⟩,
  ⟨fun K => (HK.ma K (HK.ga K "Log") "add"), false, "add", "Log.add", sLAdd, []⟩,
  ⟨fun K => (HK.ma K (HK.ga K "Strict") "check"), true, "check", "Strict.check", sSChk, []⟩,
  ⟨fun K => (HK.ma K (HK.ga K "Short") "check"), true, "check", "Short.check", sHChk, []⟩,
  ⟨fun K => (HK.ma K (HK.ga K "Strict") "add"), true, "add", "Strict.add", ssAdd, []⟩,
  ⟨fun K => (HK.ma K (HK.ga K "Short") "add"), true, "add", "Short.add", shAdd, []⟩,
  ⟨fun K => (HK.ma K (HK.ga K "StrictShort") "add"), true, "add", "StrictShort.add", sgAdd, []⟩,
  ⟨fun K => (HK.ga K "is_an_integer"), false, "is_an_integer", "is_an_integer", sIsInt, []⟩,
  ⟨fun K => (HK.ga K "is_width"), false, "is_width", "is_width", sIsWidth, []⟩,
  ⟨fun K => (HK.ga K "is_column"), false, "is_column", "is_column", sIsCol, []⟩,
  ⟨fun K => (HK.ga K "is_rule"), false, "is_rule", "is_rule", sIsRule, []⟩,
  ⟨fun K => (HK.ga K "every_rule"), false, "every_rule", "every_rule", sEvery, []⟩,
  ⟨fun K => (HK.ga K "line_of"), false, "line_of", "line_of", sLine, []⟩,
  ⟨fun K => (HK.ga K "rules_of"), false, "rules_of", "rules_of", sRulesOf, []⟩,
  ⟨fun K => (HK.ga K "is_row"), false, "is_row", "is_row", sIsRow, []⟩,
  ⟨fun K => (HK.ga K "holds"), false, "holds", "holds", sHo, []⟩,
  ⟨fun K => (HK.ga K "rules_broken"), false, "rules_broken", "rules_broken", sBrk, []⟩,
  ⟨fun K => (HK.ga K "_law_said"), false, "_law_said", "_law_said", sSaid, []⟩,
  ⟨fun K => (HK.ga K "_law_source"), false, "_law_source", "_law_source", sSource, []⟩,
  ⟨fun K => (HK.ga K "_law_cell"), false, "_law_cell", "_law_cell", sCell, []⟩,
  ⟨fun K => (HK.ga K "_law_draw"), false, "_law_draw", "_law_draw", sDraw, []⟩,
  ⟨fun K => (HK.ga K "_law_choose"), false, "_law_choose", "_law_choose", sChoose, []⟩,
  ⟨fun K => (HK.ga K "_law_given"), false, "_law_given", "_law_given", sGv, []⟩,
  ⟨fun K => (HK.ga K "_law_words"), false, "_law_words", "_law_words", sWd, []⟩,
  ⟨fun K => (HK.ga K "_law_row"), false, "_law_row", "_law_row", sRwl, []⟩,
  ⟨fun K => (HK.ga K "_law_made"), false, "_law_made", "_law_made", sMdl, []⟩,
  ⟨fun K => (HK.ga K "_law_is_told_right"), false, "_law_is_told_right", "_law_is_told_right", sTrt, []⟩,
  ⟨fun K => (HK.ga K "law"), false, "law", "law", sLaw, []⟩]
abbrev RR : PySem.W.OpenRow := PySem.W.OpenLaw.row PySem.Challenge.rw_countcycles_k29_whole_broken_beside_tabl
abbrev qv : Program := PySem.W.view RR.prog [63]
def hdNms0 : List PySem.Str := [("_wall" : PySem.Str), ("__name__" : PySem.Str), ("WIDEST" : PySem.Str), ("MOST_ROWS" : PySem.Str), ("LARGEST_VALUE" : PySem.Str), ("KINDS" : PySem.Str), ("is_an_integer" : PySem.Str), ("is_width" : PySem.Str), ("is_column" : PySem.Str), ("is_row" : PySem.Str), ("is_rule" : PySem.Str), ("every_rule" : PySem.Str)]
def hdNms1 : List PySem.Str := [("holds" : PySem.Str), ("ColumnError" : PySem.Str), ("NoWidth" : PySem.Str), ("NoRows" : PySem.Str), ("NoRow" : PySem.Str), ("NoRules" : PySem.Str), ("NoRule" : PySem.Str), ("NoNumber" : PySem.Str), ("NoText" : PySem.Str), ("NotTable" : PySem.Str), ("NotRules" : PySem.Str), ("UnlikeWidths" : PySem.Str)]
def hdNms2 : List PySem.Str := [("TooMuch" : PySem.Str), ("NotThere" : PySem.Str), ("Broken" : PySem.Str), ("NothingDone" : PySem.Str), ("steps_down" : PySem.Str), ("first_ways" : PySem.Str), ("reached" : PySem.Str), ("links" : PySem.Str), ("follows" : PySem.Str), ("line_of" : PySem.Str), ("rules_of" : PySem.Str), ("Rules" : PySem.Str)]
def hdNms3 : List PySem.Str := [("FACTOR" : PySem.Str), ("is_numeral" : PySem.Str), ("rows_of" : PySem.Str), ("all_below" : PySem.Str), ("product_row" : PySem.Str), ("Table" : PySem.Str), ("rules_broken" : PySem.Str), ("Log" : PySem.Str), ("Strict" : PySem.Str), ("Short" : PySem.Str), ("StrictShort" : PySem.Str), ("_law_cell" : PySem.Str)]
def hdNms4 : List PySem.Str := [("_law_source" : PySem.Str), ("_law_draw" : PySem.Str), ("_law_choose" : PySem.Str), ("_law_words" : PySem.Str), ("_law_given" : PySem.Str), ("_law_row" : PySem.Str), ("_law_made" : PySem.Str), ("_law_said" : PySem.Str), ("_law_is_told_right" : PySem.Str)]
def hdNms : List PySem.Str := hdNms0 ++ hdNms1 ++ hdNms2 ++ hdNms3 ++ hdNms4
abbrev hk : PySem.W.Hook := HK.hookA adrs bs fn
def ob (s : PySem.W.SharedT) : HK.AlX := HK.obsAG adrs bs fn (HandSHeadRun.getT s)
section
open PySem.W HandSHeadRun
noncomputable abbrev endT (w : World) (os : OsState) := endF (stepQ (denQ tabQ) RR.prog w) 20000 RR.prog w os
set_option maxHeartbeats 0 in
theorem run1a (w : World) : ∀ os : OsState, (endT w os).map (fun s => staticsOk (importedModules RR.prog.main.body) (boot_heap w.params) s.abs.heap && namesBound RR.prog s.abs.heap) = some true := by
  intro os
  kernel_rfl
set_option maxHeartbeats 0 in
theorem run1b (w : World) : ∀ os : OsState, (endT w os).map (fun s => gensDone s.abs && laidKept (boot_heap w.params) s.abs.heap) = some true := by
  intro os
  kernel_rfl
set_option maxHeartbeats 0 in
theorem run1c (w : World) : ∀ os : OsState, (endT w os).map (fun s => seenQ qv hdNms (importedModules RR.prog.main.body) (fun s => xlAt qv [] s && recOk RR.toRowW.records s) s.abs) = some (openGood qv hdNms) := by
  intro os
  kernel_rfl
theorem run1 (w : World) : ∀ os : OsState, (endT w os).map (fun s => (looksF RR.prog (boot_heap w.params) s.abs, seenQ qv hdNms (importedModules RR.prog.main.body) (fun s => xlAt qv [] s && recOk RR.toRowW.records s) s.abs)) = some (true, openGood qv hdNms) :=
  HK.map_two (HK.map_two (k := fun s => looksF RR.prog (boot_heap w.params) s.abs) (c := true) (run1a w) (run1b w) fun s h1 h2 => by
    show (((staticsOk (importedModules RR.prog.main.body) (boot_heap w.params) s.abs.heap && namesBound RR.prog s.abs.heap) && gensDone s.abs) && laidKept (boot_heap w.params) s.abs.heap) = true
    rw [h1, Bool.true_and]
    exact h2) (run1c w) fun s h1 h2 => Prod.ext h1 h2
set_option maxHeartbeats 0 in
theorem run2a (w : World) : ∀ os : OsState, (endT w os).map (fun s => HK.bsAG adrs (fun K => (bs K).take 200) (getT s)) = some true := by
  intro os
  kernel_rfl
set_option maxHeartbeats 0 in
theorem run3a (w : World) : ∀ os : OsState, (endT w os).map (fun s => HK.fnAG adrs (fn.take 30) (getT s)) = some (HK.valX (fn.take 30)) := by
  intro os
  kernel_rfl
set_option maxHeartbeats 0 in
theorem run2b (w : World) : ∀ os : OsState, (endT w os).map (fun s => HK.bsAG adrs (fun K => (bs K).drop 200) (getT s)) = some true := by
  intro os
  kernel_rfl
set_option maxHeartbeats 0 in
theorem run3b (w : World) : ∀ os : OsState, (endT w os).map (fun s => HK.fnAG adrs (fn.drop 30) (getT s)) = some (HK.valX (fn.drop 30)) := by
  intro os
  kernel_rfl
theorem run2 (w : World) : ∀ os : OsState, (endT w os).map (fun s => HK.bsAG adrs bs (getT s)) = some true := HK.map_two (run2a w) (run2b w) fun _ h1 h2 => HK.bs_cut 200 h1 h2
theorem run3 (w : World) : ∀ os : OsState, (endT w os).map (fun s => HK.fnAG adrs fn (getT s)) = some (HK.valX fn) := HK.map_two (run3a w) (run3b w) fun _ h1 h2 => HK.fn_cut 30 h1 h2
theorem run (w : World) : HandSHeadRun.RunEq RR qv hk ob 20000 hdNms w := by
  unfold HandSHeadRun.RunEq
  intro os
  obtain ⟨s, e, h1, h2, h3⟩ := HK.split3 os (run1 w) (run2 w) (run3 w)
  have e : endF (stepQ (denQ tabQ) RR.prog w) 20000 RR.prog w os = some s := e
  rw [e]
  have e1 := congrArg (fun z => z.1) h1
  have e2 := congrArg (fun z => z.2) h1
  exact congrArg some (Prod.ext e1 (Prod.ext e2 (HK.obs_of h2 h3)))
end
end CC
set_option Elab.async false
set_option linter.all false
set_option maxRecDepth 100000
set_option maxHeartbeats 4000000
namespace CC
open PySem L2
/-- a source of draws: three numbers -/
def IsSrc (o : HO) : Prop := ∃ a b c : Int, o = .lst [.int a, .int b, .int c] ∧ 0 ≤ b ∧ b < 2147483648
def spCell (K : PySem.W.Frag) : Sp := fun vs H Q _ => ∃ (a : Addr) (ns : List Int) (k : Nat), vs = [.ref a, .int (k : Int)] ∧ SqL K H a (ns.map V.int) ∧ ∀ z : Int, Q (.int z) H
def spSource : Sp := fun vs H Q _ => ∃ z : Int, vs = [.int z] ∧ ∀ p o, H p = none → IsSrc o → Q (.ref p) (upd H p o)
def spDraw : Sp := fun vs H Q _ => ∃ (s : Addr) (m : Int) (o : HO), vs = [.ref s, .int m] ∧ H s = some o ∧ IsSrc o ∧ 0 < m ∧ m < 1000000 ∧ ∀ (r : Int) (o' : HO), 0 ≤ r → r < m → IsSrc o' → Q (.int r) (upd H s o')
section
variable {P : Program} {w : World} {K : PySem.W.Frag} {mg : Str → Option Value} {base : Heap}
theorem scCell : FnScope ["_law_script", "_law_index"] ["_law_script", "_law_index"] (defScope sCell) := ⟨rfl, rfl, rfl, by decide +kernel, rfl, by decide +kernel, by decide +kernel⟩
theorem ok_cell {f : Addr} {fd : FuncData} {k : Nat} (F : Fun K "_law_cell" "_law_cell" sCell f fd) (ml : mg "len" = none) : FnOk P w K mg base CX0 (k + 1) f fd ["_law_script", "_law_index"] (spCell K) := by
  refine F.ok scCell (fun vs H Q E h => ?_) (fun cdv A outer s H vs Q E hr h => ?_)
  · obtain ⟨a, ns, k, rfl, _⟩ := h
    rfl
  · obtain ⟨a, ns, k, rfl, hS, q⟩ := h
    refine ⟨_, pss_cons (ps_if (pt_cmpR op_lt (pv 1) (pe_callB call_len_seq (by rfl) ml PySem.boot_len (pa_cons (pv 0) pa_nil)) (nomark _)) (pss_one (ps_ret (pe_ix ix_list (pv 0) (pv 1) (fun _ _ => rfl)))) pss_nil) (pss_one (ps_ret pe_int)), ?_⟩
    refine ⟨_, rfl, _, rfl, a, _, rfl, .inl hS, _, _, rfl, rfl, _, rfl, ite2 (fun e => ?_) (fun e => ?_)⟩
    · have e1 : (k : Int) < ((ns.map V.int).length : Int) := of_decide_eq_true e
      have e2 : k < ns.length := by
        rw [List.length_map] at e1
        omega
      have e3 : (ns.map V.int)[k]? = some (.int ns[k]) := by
        rw [List.getElem?_map, List.getElem?_eq_getElem e2]
        rfl
      exact ⟨_, rfl, _, rfl, a, _, _, _, rfl, rfl, hS, atI_nat e3, q _⟩
    · exact q 0
end
end CC
namespace CC
open PySem L2
/-! ### data in the heap -/
section
variable {K : PySem.W.Frag} {H H' : Hp}
theorem same_rd {a : Addr} {u : HO} (e : Same H H') (h : Rd H a u) : Rd H' a u := by
  rcases h with h | ⟨o, h⟩
  · exact .inl (e a _ h)
  · exact .inr ⟨o, e a _ h⟩
theorem same_l {a : Addr} {xs : List V} (e : Same H H') (h : SqL K H a xs) : SqL K H' a xs := by
  rcases h with h | h
  · exact .inl (same_rd e h)
  · exact .inr h
theorem same_t {a : Addr} {xs : List V} (e : Same H H') (h : SqT K H a xs) : SqT K H' a xs := by
  rcases h with h | h
  · exact .inl (same_rd e h)
  · exact .inr h
mutual
theorem dp_same (e : Same H H') : ∀ (d : PyData) (v : V), Dp K H v d → Dp K H' v d
  | .none, _, h => by cases h; exact .non
  | .bool b, _, h => by cases h; exact .bl b
  | .int i, _, h => by cases h; exact .int i
  | .str x, _, h => by cases h; exact .str x
  | .list ds, _, h => by
    cases h with
    | lst hs ha => exact .lst (same_l e hs) (dps_same e ds _ ha)
  | .tuple ds, _, h => by
    cases h with
    | tup hs ha => exact .tup (same_t e hs) (dps_same e ds _ ha)
  | .dict _, _, h => by cases h
theorem dps_same (e : Same H H') : ∀ (ds : List PyData) (vs : List V), DpAll K H vs ds → DpAll K H' vs ds
  | [], _, h => by cases h; exact .nil
  | d :: ds, _, h => by
    cases h with
    | cons h1 h2 => exact .cons (dp_same e d _ h1) (dps_same e ds _ h2)
end
theorem dps_len : ∀ {ds : List PyData} {vs : List V}, DpAll K H vs ds → vs.length = ds.length
  | [], _, h => by cases h; rfl
  | d :: ds, _, h => by
    cases h with
    | cons h1 h2 => exact congrArg (· + 1) (dps_len h2)
theorem dps_at : ∀ {ds : List PyData} {vs : List V} {i : Nat} {v : V}, DpAll K H vs ds → vs[i]? = some v → ∃ d, ds[i]? = some d ∧ Dp K H v d
  | [], _, i, v, h, e => by
    cases h
    simp at e
  | d :: ds, _, 0, v, h, e => by
    cases h with
    | cons h1 h2 => exact ⟨d, rfl, by simp at e; subst e; exact h1⟩
  | d :: ds, _, i + 1, v, h, e => by
    cases h with
    | cons h1 h2 => exact dps_at (i := i) h2 (by simpa using e)
theorem dps_app : ∀ {ds es : List PyData} {vs us : List V}, DpAll K H vs ds → DpAll K H us es → DpAll K H (vs ++ us) (ds ++ es)
  | [], _, _, _, h, g => by
    cases h
    exact g
  | d :: ds, _, _, _, h, g => by
    cases h with
    | cons h1 h2 => exact .cons h1 (dps_app h2 g)
theorem dps_one {v : V} {d : PyData} (h : Dp K H v d) : DpAll K H [v] [d] := .cons h .nil
theorem dp_t {v : V} {ds : List PyData} (h : Dp K H v (.tuple ds)) : ∃ p vs, v = .ref p ∧ SqT K H p vs ∧ DpAll K H vs ds := by
  cases h with
  | tup hs ha => exact ⟨_, _, rfl, hs, ha⟩
theorem dp_int {v : V} {i : Int} (h : Dp K H v (.int i)) : v = .int i := by
  cases h
  rfl
theorem dp_str {v : V} {i : Str} (h : Dp K H v (.str i)) : v = .str i := by
  cases h
  rfl
theorem same_new {p : Addr} {o : HO} (h : H p = none) : Same H (upd H p o) := fun b x e => by
  rw [upd_ne (ne_of_none e h)]
  exact e
theorem same_mut {p : Addr} {o : HO} (e : Same H H') (h : H p = none) : Same H (upd H' p o) := fun b x q => by
  rw [upd_ne (ne_of_none q h)]
  exact e b x q
/-- the heap without one object -/
def wo (H : Hp) (s : Addr) : Hp := fun b => if b = s then none else H b
theorem wo_at (s : Addr) : wo H s s = none := by
  unfold wo
  rw [if_pos rfl]
theorem wo_ne {s b : Addr} (h : b ≠ s) : wo H s b = H b := by
  unfold wo
  rw [if_neg h]
theorem wo_le (s : Addr) : Same (wo H s) H := fun b o e => by
  by_cases h : b = s
  · subst h
    rw [wo_at] at e
    cases e
  · rw [wo_ne h] at e
    exact e
theorem wo_upd (s : Addr) (o : HO) : wo (upd H s o) s = wo H s := by
  funext b
  by_cases h : b = s
  · subst h
    rw [wo_at, wo_at]
  · rw [wo_ne h, wo_ne h, upd_ne h]
theorem wo_upd_ne {s p : Addr} (o : HO) (h : p ≠ s) : wo (upd H p o) s = upd (wo H s) p o := by
  funext b
  by_cases hb : b = s
  · subst hb
    rw [wo_at, upd_ne (Ne.symm h), wo_at]
  · rw [wo_ne hb]
    by_cases hp : b = p
    · subst hp
      rw [upd_same, upd_same]
    · rw [upd_ne hp, upd_ne hp, wo_ne hb]
theorem wo_same {s : Addr} (e : Same H H') : Same (wo H s) (wo H' s) := fun b o q => by
  by_cases h : b = s
  · subst h
    rw [wo_at] at q
    cases q
  · rw [wo_ne h] at q ⊢
    exact e b o q
end
/-! ### rules and pairs as data -/
structure R where
  k : Bool
  a : Nat
  b : Nat
  deriving DecidableEq
def kd (k : Bool) : Str := if k then "settles" else "within"
def R.d (r : R) : PyData := .tuple [.str (kd r.k), .int (r.a : Int), .int (r.b : Int)]
def prd (p : Nat × Nat) : PyData := .tuple [.int (p.1 : Int), .int (p.2 : Int)]
theorem kd_inj {j k : Bool} (h : kd j = kd k) : j = k := by
  revert h
  cases j <;> cases k <;> decide +kernel
theorem kd_ok (k : Bool) : PyData.strOk (kd k) = true := by
  cases k <;> decide +kernel
theorem rd_shaped (r : R) : SeqAt.shaped r.d = true := by
  show (r.d.canLay0 && decide (r.d.depth ≤ 64)) = true
  simp [R.d, PyData.canLay0, PyData.canLayAll0, PyData.depth, PyData.depthAll, kd_ok]
theorem rds_shaped (rs : List R) : SeqAt.shaped (.list (rs.map R.d)) = true := by
  have h : PyData.canLayAll0 (rs.map R.d) = true ∧ PyData.depthAll (rs.map R.d) ≤ 2 := by
    induction rs with
    | nil => simp [PyData.canLayAll0, PyData.depthAll]
    | cons r rs ih =>
      simp only [List.map_cons, PyData.canLayAll0, PyData.depthAll, R.d, PyData.canLay0, PyData.depth, Bool.and_eq_true]
      refine ⟨⟨by simp [kd_ok], ih.1⟩, ?_⟩
      have := ih.2
      omega
  show ((PyData.list (rs.map R.d)).canLay0 && decide ((PyData.list (rs.map R.d)).depth ≤ 64)) = true
  simp only [PyData.canLay0, PyData.depth, h.1, Bool.true_and]
  exact decide_eq_true (by have := h.2; omega)
theorem rd_eqv (r s : R) : PyData.eqv r.d s.d = decide (r = s) := by
  obtain ⟨k, a, b⟩ := r
  obtain ⟨k', a', b'⟩ := s
  simp only [R.d, PyData.eqv, PyData.eqvAll, Bool.and_true]
  by_cases h : (⟨k, a, b⟩ : R) = ⟨k', a', b'⟩
  · rw [decide_eq_true h]
    cases h
    simp
  · rw [decide_eq_false h]
    by_cases hk : k = k'
    · subst hk
      have : ¬ (a = a' ∧ b = b') := fun z => h (by rw [z.1, z.2])
      simp
      intro z
      omega
    · have : ¬ kd k = kd k' := fun z => hk (kd_inj z)
      simp [this]
theorem rds_any (rs : List R) (r : R) : ((rs.map R.d).any fun z => PyData.eqv z r.d) = decide (r ∈ rs) := by
  induction rs with
  | nil => simp
  | cons x rs ih =>
    rw [List.map_cons, List.any_cons, ih, rd_eqv]
    by_cases h : x = r
    · simp [h]
    · have : ¬ r = x := fun z => h z.symm
      simp [h, this]
section
variable {K : PySem.W.Frag} {H H' : Hp}
theorem dp_r {v : V} {r : R} (h : Dp K H v r.d) : ∃ p, v = .ref p ∧ SqT K H p [.str (kd r.k), .int (r.a : Int), .int (r.b : Int)] := by
  obtain ⟨p, vs, rfl, hs, ha⟩ := dp_t h
  cases ha with
  | cons h1 h2 =>
    cases h2 with
    | cons h2 h3 =>
      cases h3 with
      | cons h3 h4 =>
        cases h4
        cases dp_str h1
        cases dp_int h2
        cases dp_int h3
        exact ⟨p, rfl, hs⟩
theorem r_dp {p : Addr} {r : R} (h : SqT K H p [.str (kd r.k), .int (r.a : Int), .int (r.b : Int)]) : Dp K H (.ref p) r.d := .tup h (.cons (.str _) (.cons (.int _) (.cons (.int _) .nil)))
theorem dp_p {v : V} {r : Nat × Nat} (h : Dp K H v (prd r)) : ∃ p, v = .ref p ∧ SqT K H p [.int (r.1 : Int), .int (r.2 : Int)] := by
  obtain ⟨p, vs, rfl, hs, ha⟩ := dp_t h
  cases ha with
  | cons h1 h2 =>
    cases h2 with
    | cons h2 h3 =>
      cases h3
      cases dp_int h1
      cases dp_int h2
      exact ⟨p, rfl, hs⟩
theorem dps_rat {rs : List R} {vs : List V} {i : Nat} {v : V} (h : DpAll K H vs (rs.map R.d)) (e : vs[i]? = some v) : ∃ r, rs[i]? = some r ∧ Dp K H v r.d := by
  obtain ⟨d, h1, h2⟩ := dps_at h e
  rw [List.getElem?_map] at h1
  cases q : rs[i]? with
  | none =>
    rw [q] at h1
    cases h1
  | some r =>
    rw [q] at h1
    cases h1
    exact ⟨r, rfl, h2⟩
theorem dps_pat {rs : List (Nat × Nat)} {vs : List V} {i : Nat} {v : V} (h : DpAll K H vs (rs.map prd)) (e : vs[i]? = some v) : ∃ r, rs[i]? = some r ∧ Dp K H v (prd r) := by
  obtain ⟨d, h1, h2⟩ := dps_at h e
  rw [List.getElem?_map] at h1
  cases q : rs[i]? with
  | none =>
    rw [q] at h1
    cases h1
  | some r =>
    rw [q] at h1
    cases h1
    exact ⟨r, rfl, h2⟩
end
end CC
namespace CC
open PySem L2
/-- what the top has left: the built-ins' names are free, the two constants -/
structure Glb (K : PySem.W.Frag) (mg : Str → Option Value) (kA : Addr) : Prop where
  len : mg "len" = none
  max : mg "max" = none
  min : mg "min" = none
  isi : mg "isinstance" = none
  int : mg "int" = none
  bool : mg "bool" = none
  str : mg "str" = none
  tup : mg "tuple" = none
  rng : mg "range" = none
  lst : mg "list" = none
  all : mg "all" = none
  set : mg "set" = none
  enu : mg "enumerate" = none
  rep : mg "repr" = none
  srt : mg "sorted" = none
  zip : mg "zip" = none
  any : mg "any" = none
  sum : mg "sum" = none
  rev : mg "reversed" = none
  dic : mg "dict" = none
  typ : mg "type" = none
  wid : ∃ t, mg "WIDEST" = some (.int 6 t)
  knd : mg "KINDS" = some (.ref kA)
  kseq : ∃ (o : Obj) (its : Array Value) (n : Nat), K.lookup kA = some o ∧ o.cls = .type "tuple" ∧ o.data = .seq its n ∧ its.size ≤ sizeLine ∧ Vals [.str "settles", .str "within"] its.toList
/-- a def of the top, as it stands -/
structure Df (K : PySem.W.Frag) (mg : Str → Option Value) (x : Str) (st : Stmt) (ps : List Str) where
  f : Addr
  fd : FuncData
  F : Fun K x x st f fd
  b : Binds K fd ps []
  g : mg x = some (.ref f)
/-- a def that keeps a promise -/
structure Cal (P : Program) (w : World) (K : PySem.W.Frag) (mg : Str → Option Value) (base : Heap) (x : Str) (ps : List Str) (sp : Sp) (l : Nat) where
  f : Addr
  fd : FuncData
  ok : ∀ k, l ≤ k → FnOk P w K mg base CX0 k f fd ps sp
  kp : PySem.W.keepIn K (.ref f) = true
  b : Binds K fd ps []
  g : mg x = some (.ref f)
def Df.cal {P : Program} {w : World} {K : PySem.W.Frag} {mg : Str → Option Value} {base : Heap} {x : Str} {st : Stmt} {ps : List Str} {sp : Sp} {l : Nat} (d : Df K mg x st ps) (h : ∀ k, FnOk P w K mg base CX0 (k + l) d.f d.fd ps sp) : Cal P w K mg base x ps sp l :=
  ⟨d.f, d.fd, fun k hk => (Nat.sub_add_cancel hk) ▸ h (k - l), d.F.kp, d.b, d.g⟩
def spIsInt : Sp := fun vs H Q _ => ∃ z : Int, vs = [.int z] ∧ Q (.bl true) H
def spIsWidth : Sp := fun vs H Q _ => ∃ z : Nat, vs = [.int (z : Int)] ∧ 1 ≤ z ∧ z ≤ 6 ∧ Q (.bl true) H
def spIsCol : Sp := fun vs H Q _ => ∃ w z : Nat, vs = [.int (w : Int), .int (z : Int)] ∧ z < w ∧ Q (.bl true) H
/-- a rule for the width -/
def R.ok (w : Nat) (r : R) : Prop := r.a < w ∧ r.b < w ∧ r.a ≠ r.b
def spIsRule (K : PySem.W.Frag) : Sp := fun vs H Q _ => ∃ (w : Nat) (v : V) (r : R), vs = [.int (w : Int), v] ∧ Dp K H v r.d ∧ r.ok w ∧ Q (.bl true) H
section
variable {P : Program} {w : World} {K : PySem.W.Frag} {mg : Str → Option Value} {base : Heap} {kA : Addr}
theorem ty_tup {H : Hp} {p : Addr} {xs : List V} (h : SqT K H p xs) : TyX K H (.ref p) (.type "tuple") := by
  rcases h with (h | ⟨o, h⟩) | ⟨o, its, n, h, c, _⟩
  · exact .base (.tup h)
  · exact .fTuple h
  · exact .kTuple h c
theorem scIsInt : FnScope ["thing"] ["thing"] (defScope sIsInt) := ⟨rfl, rfl, rfl, by decide +kernel, rfl, by decide +kernel, by decide +kernel⟩
theorem ok_isint {f : Addr} {fd : FuncData} {k : Nat} (F : Fun K "is_an_integer" "is_an_integer" sIsInt f fd) (T : Glb K mg kA) : FnOk P w K mg base CX0 (k + 1) f fd ["thing"] spIsInt := by
  refine F.ok scIsInt (fun vs H Q E h => ?_) (fun cdv A outer s H vs Q E hr h => ?_)
  · obtain ⟨z, rfl, _⟩ := h
    rfl
  · obtain ⟨z, rfl, q⟩ := h
    refine ⟨_, pss_one (ps_ret (pe_and (pe_callB call_isi (by rfl) T.isi (by decide +kernel) (pa_cons (pv 0) (pa_cons (pe_bltn (v := .ty "int") (by rfl) T.int (by decide +kernel) rfl) pa_nil)))
      (pe_one (pe_not (pe_callB call_isi (by rfl) T.isi (by decide +kernel) (pa_cons (pv 0) (pa_cons (pe_bltn (v := .ty "bool") (by rfl) T.bool (by decide +kernel) rfl) pa_nil))))))), ?_⟩
    refine ⟨_, rfl, _, _, _, _, true, rfl, .ty _, .base (.int z), kit_ty (by decide +kernel), _, rfl, iteT ?_⟩
    exact ⟨_, rfl, _, _, _, _, false, rfl, .ty _, .base (.int z), kit_ty (by decide +kernel), _, rfl, q⟩
theorem scIsWidth : FnScope ["thing"] ["thing"] (defScope sIsWidth) := ⟨rfl, rfl, rfl, by decide +kernel, rfl, by decide +kernel, by decide +kernel⟩
theorem ok_iswidth {f : Addr} {fd : FuncData} {k : Nat} (F : Fun K "is_width" "is_width" sIsWidth f fd) (T : Glb K mg kA) (cI : Cal P w K mg base "is_an_integer" ["thing"] spIsInt 1) : FnOk P w K mg base CX0 (k + 2) f fd ["thing"] spIsWidth := by
  have GI := cI.ok (k + 1) (by omega)
  refine F.ok scIsWidth (fun vs H Q E h => ?_) (fun cdv A outer s H vs Q E hr h => ?_)
  · obtain ⟨z, rfl, _⟩ := h
    rfl
  · obtain ⟨z, rfl, h1, h2, q⟩ := h
    obtain ⟨tw, hw⟩ := T.wid
    refine ⟨_, pss_one (ps_ret (pe_and (pe_call GI hr rfl cI.g cI.kp cI.b .nil pass0 (pa_cons (pv 0) pa_nil))
      (pe_one (pe_chain op_le op_le pe_int (pv 0) (pe_glob (v := .int 6) rfl hw ⟨_, rfl⟩))))), ?_⟩
    refine ⟨_, rfl, _, rfl, _, rfl, iteT ?_⟩
    have e1 : decide ((1 : Int) ≤ (z : Int)) = true := decide_eq_true (by omega)
    have e2 : decide ((z : Int) ≤ (6 : Int)) = true := decide_eq_true (by omega)
    refine ⟨_, rfl, _, _, rfl, rfl, _, rfl, ?_⟩
    rw [e1]
    refine iteT ⟨_, _, rfl, rfl, ?_⟩
    show Q (.bl (decide ((z : Int) ≤ (6 : Int)))) H
    rw [e2]
    exact q
theorem scIsCol : FnScope ["width", "thing"] ["width", "thing"] (defScope sIsCol) := ⟨rfl, rfl, rfl, by decide +kernel, rfl, by decide +kernel, by decide +kernel⟩
theorem ok_iscol {f : Addr} {fd : FuncData} {k : Nat} (F : Fun K "is_column" "is_column" sIsCol f fd) (T : Glb K mg kA) (cI : Cal P w K mg base "is_an_integer" ["thing"] spIsInt 1) : FnOk P w K mg base CX0 (k + 2) f fd ["width", "thing"] spIsCol := by
  have GI := cI.ok (k + 1) (by omega)
  refine F.ok scIsCol (fun vs H Q E h => ?_) (fun cdv A outer s H vs Q E hr h => ?_)
  · obtain ⟨w, z, rfl, _⟩ := h
    rfl
  · obtain ⟨w, z, rfl, h1, q⟩ := h
    refine ⟨_, pss_one (ps_ret (pe_and (pe_call GI hr rfl cI.g cI.kp cI.b .nil pass0 (pa_cons (pv 1) pa_nil))
      (pe_one (pe_chain op_le op_lt pe_int (pv 1) (pv 0))))), ?_⟩
    refine ⟨_, rfl, _, rfl, _, rfl, iteT ?_⟩
    have e1 : decide ((0 : Int) ≤ (z : Int)) = true := decide_eq_true (by omega)
    have e2 : decide ((z : Int) < (w : Int)) = true := decide_eq_true (by omega)
    refine ⟨_, rfl, _, _, rfl, rfl, _, rfl, ?_⟩
    rw [e1]
    refine iteT ⟨_, rfl, _, _, rfl, rfl, ?_⟩
    show Q (.bl (decide ((z : Int) < (w : Int)))) H
    rw [e2]
    exact q
theorem scIsRule : FnScope ["width", "thing", "kind", "first", "second"] ["width", "thing"] (defScope sIsRule) := ⟨rfl, rfl, rfl, by decide +kernel, rfl, by decide +kernel, by decide +kernel⟩
theorem ok_isrule {f : Addr} {fd : FuncData} {k : Nat} (F : Fun K "is_rule" "is_rule" sIsRule f fd) (T : Glb K mg kA) 
 (cC : Cal P w K mg base "is_column" ["width", "thing"] spIsCol 2) : FnOk P w K mg base CX0 (k + 3) f fd ["width", "thing"] (spIsRule K) := by
  have GC := cC.ok (k + 2) (by omega)
  refine F.ok scIsRule (fun vs H Q E h => ?_) (fun cdv A outer s H vs Q E hr h => ?_)
  · obtain ⟨w, v, r, rfl, _⟩ := h
    rfl
  · obtain ⟨w, v, r, rfl, hd, ⟨h1, h2, h3⟩, q⟩ := h
    obtain ⟨p, rfl, hp⟩ := dp_r hd
    have hk : SqT K H kA [.str "settles", .str "within"] := .inr T.kseq
    have nd := scIsRule.nd
    refine ⟨_, pss_cons (ps_if (PW.pt (pw_or (pt_not (pt_val (pe_callB call_isi (by rfl) T.isi (by decide +kernel) (pa_cons (pv 1) (pa_cons (pe_bltn (v := .ty "tuple") (by rfl) T.tup (by decide +kernel) rfl) pa_nil)))))
          (pw_or1 (pt_cmpR op_ne (pe_callB call_len_seq (by rfl) T.len PySem.boot_len (pa_cons (pv 1) pa_nil)) pe_int (nomark _))))) (pss_one (ps_ret pe_bl)) pss_nil)
      (pss_cons (ps_asg (pv 1) (pg_tup rfl (pgs_cons (pg_name (i := 2) nd rfl (.inl rfl)) (pgs_cons (pg_name (i := 3) nd rfl (.inl rfl)) (pgs_cons (pg_name (i := 4) nd rfl (.inl rfl)) pgs_nil)))))
      (pss_cons (ps_if (PW.pt (pw_or (pt_not (pt_val (pe_callB call_isi (by rfl) T.isi (by decide +kernel) (pa_cons (pv 2) (pa_cons (pe_bltn (v := .ty "str") (by rfl) T.str (by decide +kernel) rfl) pa_nil)))))
          (pw_or1 (pt_cmpR op_notIn_seq (pv 2) (pe_glob (v := .ref kA) rfl T.knd rfl) (by rfl))))) (pss_one (ps_ret pe_bl)) pss_nil)
      (pss_one (ps_ret (pe_and (pe_call GC hr rfl cC.g cC.kp cC.b .nil pass0 (pa_cons (pv 0) (pa_cons (pv 3) pa_nil)))
        (pe_and (pe_call GC hr rfl cC.g cC.kp cC.b .nil pass0 (pa_cons (pv 0) (pa_cons (pv 4) pa_nil))) (pe_one (pe_cmpR op_ne (pv 3) (pv 4) (nomark _))))))))), ?_⟩
    refine ⟨_, rfl, _, _, _, _, true, rfl, .ty _, ty_tup hp, kit_ty (by decide +kernel), _, rfl, iteF ?_⟩
    refine ⟨_, rfl, p, _, rfl, .inr hp, rfl, _, rfl, iteF ?_⟩
    refine ⟨_, rfl, p, _, rfl, hp, rfl, _, _, rfl, _, _, rfl, _, _, rfl, rfl, ?_⟩
    refine ⟨_, rfl, _, _, _, _, true, rfl, .ty _, .base (.str _), kit_ty (by decide +kernel), _, rfl, iteF ?_⟩
    have ek : inV (.str (kd r.k)) [.str "settles", .str "within"] = true := by
      cases r.k <;> decide +kernel
    refine ⟨_, rfl, kA, _, rfl, .inr hk, rfl, rfl, _, rfl, ?_⟩
    rw [ek]
    refine iteF ?_
    refine ⟨_, rfl, _, rfl, w, r.a, rfl, h1, _, rfl, iteT ?_⟩
    refine ⟨_, rfl, _, rfl, w, r.b, rfl, h2, _, rfl, iteT ?_⟩
    refine ⟨_, rfl, _, rfl, rfl, ?_⟩
    have e3 : (!decide (V.int (r.a : Int) = V.int (r.b : Int))) = true := by
      rw [decide_eq_false (fun z => h3 (by injection z with z; omega))]
      rfl
    show Q (.bl (!decide (V.int (r.a : Int) = V.int (r.b : Int)))) H
    rw [e3]
    exact q
end
end CC
/-! A list comprehension of three clauses. -/
namespace C3
open PySem PySem.Spec PyProof.Rows L2
abbrev no : Value → Shared → Prop := fun _ _ => False
def turnOf (c : Expr) (k : Nat) (tg : Expr) (ps : Pos) (fs : List Expr) (env : Env) (acc : Value) (body : Sem Unit) (it : Value) : Sem Fin := do
  standAt ps
  match ← pyNext it with
  | none => pure (.done .next)
  | some v =>
    letOwnedTupleGo tg it v
    assign tg env v
    let mut ok := true
    for cd in fs do
      if ok then ok ← isTrue cd env (eval cd env)
    if ok then body
    again (.compLoop c k it acc env)
def nextOf (c : Expr) (k : Nat) (ix : Expr) (env : Env) (acc : Value) : Sem Unit := do
  let x ← eval ix env
  standAt ix.pos
  let x ← foldedSetIterable ix env x
  let _ ← runOwn (.compStart c k (← holding [x] (pyIter x)) acc env) env
def pushOf (ex : Expr) (env : Env) (acc : Value) : Sem Unit := do
  let _ ← call (.builtin "list.append") [acc, ← eval ex env]
section
variable {ex t0 i0 t1 i1 t2 i2 : Expr} {f0 f1 f2 : List Expr} {sc : Scope} {pos : Pos} {it acc : Value} {env : Env}
abbrev lc3 (ex t0 i0 t1 i1 t2 i2 : Expr) (f0 f1 f2 : List Expr) (sc : Scope) (pos : Pos) : Expr := .ListComp ex [⟨t0, i0, f0, 0⟩, ⟨t1, i1, f1, 0⟩, ⟨t2, i2, f2, 0⟩] sc pos
theorem turn0 : compTurn (lc3 ex t0 i0 t1 i1 t2 i2 f0 f1 f2 sc pos) 0 it acc env = turnOf (lc3 ex t0 i0 t1 i1 t2 i2 f0 f1 f2 sc pos) 0 t0 i0.pos f0 env acc (nextOf (lc3 ex t0 i0 t1 i1 t2 i2 f0 f1 f2 sc pos) 1 i1 env acc) it := by
  unfold turnOf
  refine congrArg (standAt i0.pos >>= ·) (funext fun _ => congrArg (pyNext it >>= ·) (funext fun r => ?_))
  cases r with
  | none => rfl
  | some v =>
    refine congrArg (letOwnedTupleGo t0 it v >>= ·) (funext fun _ => congrArg (assign t0 env v >>= ·) (funext fun _ => ?_))
    refine congrArg (fun k => forIn f0 true (fun c r => if r = true then do let ok ← isTrue c env (eval c env); pure (ForInStep.yield ok) else pure (ForInStep.yield r)) >>= k) (funext fun ok => ?_)
    cases ok with
    | false => rfl
    | true =>
      unfold nextOf
      simp only [bind_assoc, pure_bind, if_true]
      rfl
theorem turn1 : compTurn (lc3 ex t0 i0 t1 i1 t2 i2 f0 f1 f2 sc pos) 1 it acc env = turnOf (lc3 ex t0 i0 t1 i1 t2 i2 f0 f1 f2 sc pos) 1 t1 i1.pos f1 env acc (nextOf (lc3 ex t0 i0 t1 i1 t2 i2 f0 f1 f2 sc pos) 2 i2 env acc) it := by
  unfold turnOf
  refine congrArg (standAt i1.pos >>= ·) (funext fun _ => congrArg (pyNext it >>= ·) (funext fun r => ?_))
  cases r with
  | none => rfl
  | some v =>
    refine congrArg (letOwnedTupleGo t1 it v >>= ·) (funext fun _ => congrArg (assign t1 env v >>= ·) (funext fun _ => ?_))
    refine congrArg (fun k => forIn f1 true (fun c r => if r = true then do let ok ← isTrue c env (eval c env); pure (ForInStep.yield ok) else pure (ForInStep.yield r)) >>= k) (funext fun ok => ?_)
    cases ok with
    | false => rfl
    | true =>
      unfold nextOf
      simp only [bind_assoc, pure_bind, if_true]
      rfl
theorem turn2 : compTurn (lc3 ex t0 i0 t1 i1 t2 i2 f0 f1 f2 sc pos) 2 it acc env = turnOf (lc3 ex t0 i0 t1 i1 t2 i2 f0 f1 f2 sc pos) 2 t2 i2.pos f2 env acc (pushOf ex env acc) it := by rfl
end
section
variable {P : Program} {w : World} {A : Around} {R : Result → Shared → Prop} {s : Shared} {ex : Expr} {gs : List Comprehension} {sc : Scope} {pos : Pos} {k : Nat} {tg : Expr} {ps : Pos} {fs : List Expr} {it acc : Value} {env : Env} {body : Sem Unit}
theorem loopAny (e : compTurn (.ListComp ex gs sc pos) k it acc env = turnOf (.ListComp ex gs sc pos) k tg ps fs env acc body it) (J : Nat → Shared → Prop)
    (turn : ∀ n s, J n s → wpAny (model P w) A (pyNext it) (fun r s1 => match r with
      | none => R (.ok .next) s1
      | some v => wpAny (model P w) A (letOwnedTupleGo tg it v) (fun _ s2 => wpAny (model P w) A (assign tg env v) (fun _ s3 =>
          wpAny (model P w) A (forIn fs true fun c r => if r = true then do let ok ← isTrue c env (eval c env); pure (ForInStep.yield ok) else pure (ForInStep.yield r)) (fun ok s4 =>
            if ok = true then wpAny (model P w) A body (fun _ s5 => ∃ m, m < n ∧ J m s5) no s4 else ∃ m, m < n ∧ J m s4) no s3) no s2) no s1) no s)
    (n : Nat) (h : J n s) : codeAny (model P w) A (.compLoop (.ListComp ex gs sc pos) k it acc env) R s := by
  refine codeAny_loop rfl J (fun n s j => ?_) n h
  show wpAny _ A ((compTurn (.ListComp ex gs sc pos) k it acc env).onRaise (fun x => do noteFrame x env; theTreesLotGoes x)) _ _ s
  refine wpAny_noted ?_
  rw [e]
  unfold turnOf
  refine wpAny_bind (wpAny_standAt (wpAny_bind (thnF (turn n s j) fun r s1 h1 => ?_)))
  cases r with
  | none => exact wpAny_pure h1
  | some v =>
    refine wpAny_bind (thnF h1 fun _ s2 h2 => ?_)
    refine wpAny_bind (thnF h2 fun _ s3 h3 => wpAny_bind (thnF h3 fun ok s4 h4 => ?_))
    cases ok with
    | false => exact wpAny_pure ⟨rfl, h4⟩
    | true =>
      first
        | exact wpAny_bind (thnF h4 fun _ s5 h5 => wpAny_pure ⟨rfl, h5⟩)
        | exact wpAny_bind (wpAny_bind (thnF h4 fun _ s5 h5 => wpAny_pure (wpAny_pure ⟨rfl, h5⟩)))
end
/-! ### a clause within the block -/
abbrev TB := L2.St → Hp → (Hp → Prop) → Prop
def tPush (te : TE) (D : Addr) : TB := fun σ H N => te σ H fun y H1 => ∃ l, H1 D = some (.lst l) ∧ l.length < sizeLine ∧ N (upd H1 D (.lst (l ++ [y])))
def tTurn (J : It) (g : TG) (tt : TT) (vs : List Nat) (b : TB) (σ : L2.St) (W : Nat → Nat → Hp → Prop) (N : Hp → Prop) : Prop := ∀ i m H, W i m H →
  (J.stop i H ∧ N H) ∨ (J.go i H ∧ ∃ M : Hp → Prop, (∀ H', M H' → ∃ m', m' < m ∧ W (i + 1) m' H') ∧ ∀ x H', J.yld i H x H' → g x (wipe σ vs) H' fun τ H1 => wipe τ vs = wipe σ vs ∧ tt τ H1 fun y H2 => if y = true then b τ H2 M else M H2)
def tCl (wi : TI) (g : TG) (tt : TT) (vs : List Nat) (b : TB) : TB := fun σ H N => wi σ H fun J H1 => ∃ W : Nat → Nat → Hp → Prop, (∃ m, W 0 m H1) ∧ tTurn J g tt vs b σ W N
section
variable {X : Cx} {s0 : Shared} {H0 : Hp} {sc : Scope} {ce : Env} {fp : List Addr}
abbrev Bk (X : Cx) (s0 : Shared) (H0 : Hp) (sc : Scope) (ce : Env) (fp : List Addr) : Cx := X.blk s0 H0 sc ce fp
/-- what the body of a clause does, and which slots it forgets -/
def Does (X : Cx) (s0 : Shared) (H0 : Hp) (sc : Scope) (ce : Env) (fp : List Addr) (body : Sem Unit) (t : TB) (us : List Nat) : Prop :=
  ∀ (pins : List (Addr × Obj)) (s : Shared) (σ : L2.St) (H : Hp) (N : Hp → Prop), Inv (Bk X s0 H0 sc ce fp) pins σ H s → t σ H N →
    wpAny (model X.prog X.w) X.A body (fun _ s' => ∃ H', Inv (Bk X s0 H0 sc ce fp) pins (wipe σ us) H' s' ∧ N H') no s
theorem does_push {ex : Expr} {te : TE} {D : Addr} (pe : PE (Bk X s0 H0 sc ce fp) ex te) : Does X s0 H0 sc ce fp (pushOf ex ce (.ref D)) (tPush te D) [] := by
  intro pins s σ H N I h
  unfold pushOf
  refine wpAny_bind (thnF (pe.run pins s σ H _ I h) fun z s1 ⟨y, H1, I1, r, l, hl, hz, n⟩ => ?_)
  exact wpAny_bind (thnF (app_ok (E := no) (X := Bk X s0 H0 sc ce fp) (Q := fun _ s' => ∃ H', Inv (Bk X s0 H0 sc ce fp) pins (wipe σ []) H' s' ∧ N H') I1 hl hz r fun s2 I2 => ⟨_, I2, n⟩) fun _ s2 q => wpAny_pure q)
theorem level {ex : Expr} {gs : List Comprehension} {sb : Scope} {pos : Pos} {k : Nat} {tg : Expr} {ps : Pos} {fs : List Expr} {acc : Value} {body : Sem Unit} {g : TG} {tt : TT} {b : TB} {vs us : List Nat} (hc : X.calm = true) (te : ∀ it, compTurn (.ListComp ex gs sb pos) k it acc ce = turnOf (.ListComp ex gs sb pos) k tg ps fs ce acc body it)
    (pg : PG (Bk X s0 H0 sc ce fp) tg g) (pt : PTs (Bk X s0 H0 sc ce fp) fs tt) (bd : Does X s0 H0 sc ce fp body b us) (sub : ∀ i ∈ us, i ∈ vs)
    {pins : List (Addr × Obj)} {s : Shared} {σ : L2.St} {H : Hp} {N : Hp → Prop} {it : Addr} {fq : List Addr} {tn : Nat → Heap → Prop} {J : It} {W : Nat → Nat → Hp → Prop} {m : Nat} {R : Result → Shared → Prop}
    (I : Inv (Bk X s0 H0 sc ce fp) pins σ H s) (T : Turn X.prog X.w X.K tg J fq it tn) (st : tn 0 s.heap) (fo : ∀ b ∈ fq, FpOk (Bk X s0 H0 sc ce fp) pins H b) (w0 : W 0 m H) (tu : tTurn J g tt vs b σ W N)
    (fin : ∀ s' H', Inv (Bk X s0 H0 sc ce fp) pins (wipe σ vs) H' s' → N H' → R (.ok .next) s') :
    codeAny (model X.prog X.w) X.A (.compLoop (.ListComp ex gs sb pos) k (.ref it) acc ce) R s := by
  have fok : ∀ {H' : Hp}, (∀ b ∈ fq, H' b = none) → ∀ b ∈ fq, FpOk (Bk X s0 H0 sc ce fp) pins H' b := fun hn b hb => ⟨hn b hb, (fo b hb).2⟩
  refine loopAny (te _) (fun n s' => ∃ i H', Inv (Bk X s0 H0 sc ce fp) pins (wipe σ vs) H' s' ∧ tn i s'.heap ∧ (∀ b ∈ fq, H' b = none) ∧ W i n H') ?_ m ⟨0, H, I.weak (wipe_length _ _) (fun j v e => (wipe_some e).1), st, fun b hb => (fo b hb).1, w0⟩
  rintro n s1 ⟨i, H1, I1, st1, n1, w1⟩
  rcases tu i n H1 w1 with ⟨stop, nn⟩ | ⟨go, M, hM, step⟩
  · refine thnF (T.done (Bk X s0 H0 sc ce fp) rfl rfl rfl hc i _ s1 _ H1 no I1 (fok n1) st1 stop) fun r s2 ⟨hr, I2⟩ => ?_
    subst hr
    exact fin s2 H1 I2 nn
  · refine thnF (T.item (Bk X s0 H0 sc ce fp) rfl rfl rfl hc i _ s1 _ H1 no I1 (fok n1) st1 go) fun r s2 ⟨u, hr, h2⟩ => ?_
    subst hr
    refine thnF h2 fun _ s3 ⟨x, H3, I3, r3, y3, st3, n3⟩ => ?_
    have I3' := I3.pinned (fok n3) (T.obj _ _ st3)
    refine thnF (pg.run _ s3 _ H3 x u _ I3' r3 (step x H3 y3)) fun _ s4 ⟨τ, H4, I4, hw, q4⟩ => ?_
    refine thnF (pt.run _ s4 τ H4 _ I4 q4) fun ok s5 ⟨H5, I5, q5⟩ => ?_
    have ended : ∀ {s' : Shared} {H' : Hp}, Inv (Bk X s0 H0 sc ce fp) (pins ++ pinsAt fq s3.heap) (wipe τ us) H' s' → M H' → ∃ m, m < n ∧ ∃ i H', Inv (Bk X s0 H0 sc ce fp) pins (wipe σ vs) H' s' ∧ tn i s'.heap ∧ (∀ b ∈ fq, H' b = none) ∧ W i m H' := fun {s' H'} I' mm => by
      obtain ⟨m', hm, w'⟩ := hM H' mm
      have kp : ∀ b ∈ fq, ∀ o, s3.heap.get? b = some o → s'.heap.get? b = some o ∧ H' b = none := fun b hb o e =>
        have z := I'.pin (b, o) (List.mem_append_right _ (List.mem_append_right _ (mem_pinsAt hb e)))
        ⟨z.1, z.2.1⟩
      refine ⟨m', hm, i + 1, H', I'.unpinned.weak (by rw [wipe_length, wipe_length, ← wipe_length τ vs, hw, wipe_length]) (fun j v e => ?_), T.keep _ _ _ st3 fun b hb o e => (kp b hb o e).1, fun b hb => ?_, w'⟩
      · rw [← hw] at e
        obtain ⟨e1, e2⟩ := wipe_some e
        rw [wipe_out fun z => e2 (sub j z)]
        exact e1
      · obtain ⟨o, e, _⟩ := T.obj _ _ st3 b hb
        exact (kp b hb o e).2
    cases ok with
    | false =>
      simp only [Bool.false_eq_true, if_false] at q5 ⊢
      exact ended (I5.weak (wipe_length _ _) fun j v e => (wipe_some e).1) q5
    | true =>
      simp only [if_true] at q5 ⊢
      exact thnF (bd _ s5 τ H5 _ I5 q5) fun _ s6 ⟨H6, I6, q6⟩ => ended I6 q6
theorem does_next {ex : Expr} {gs : List Comprehension} {sb : Scope} {pos : Pos} {k : Nat} {tg ix : Expr} {ps : Pos} {fs : List Expr} {D : Addr} {body : Sem Unit} {wi : TI} {g : TG} {tt : TT} {b : TB} {vs us : List Nat} (hc : X.calm = true) (hce : (Bk X s0 H0 sc ce fp).env = ce)
    (te : ∀ it, compTurn (.ListComp ex gs sb pos) k it (.ref D) ce = turnOf (.ListComp ex gs sb pos) k tg ps fs ce (.ref D) body it)
    (cs : ∀ {it : Value} {R : Result → Shared → Prop} {s : Shared}, codeAny (model X.prog X.w) X.A (.compLoop (.ListComp ex gs sb pos) k it (.ref D) ce) R s → wpAny (model X.prog X.w) X.A (pyIter it) (fun it' s' => codeAny (model X.prog X.w) X.A (.compLoop (.ListComp ex gs sb pos) k it' (.ref D) ce) R s') no s → codeAny (model X.prog X.w) X.A (.compStart (.ListComp ex gs sb pos) k it (.ref D) ce) R s)
    (fo : ∀ x, foldedSetIterable ix ce x = pure x) (pi : PI (Bk X s0 H0 sc ce fp) tg ix wi) (pg : PG (Bk X s0 H0 sc ce fp) tg g) (pt : PTs (Bk X s0 H0 sc ce fp) fs tt) (bd : Does X s0 H0 sc ce fp body b us) (sub : ∀ i ∈ us, i ∈ vs) :
    Does X s0 H0 sc ce fp (nextOf (.ListComp ex gs sb pos) k ix ce (.ref D)) (tCl wi g tt vs b) vs := by
  intro pins s σ H N I h
  unfold nextOf
  refine wpAny_bind (thnF (pi.run pins s σ H _ I h) fun xv s1 hx => ?_)
  refine wpAny_bind (wpAny_standAt (wpAny_bind (wpAny_of_eq (fo xv) (wpAny_bind (wpAny_holding (thnF hx fun itv s2 h2 => ?_))))))
  obtain ⟨it, fq, tn, J, H2, rfl, I2, T, st2, f2, W, ⟨m, w0⟩, tu⟩ := h2
  refine wpAny_bind (wpAny_runOwn ?_)
  rw [Around.mark_none]
  have lp : codeAny (model X.prog X.w) X.A (.compLoop (.ListComp ex gs sb pos) k (.ref it) (.ref D) ce) (fun r s' => match r with
      | .ok _ => ∃ H', Inv (Bk X s0 H0 sc ce fp) pins (wipe σ vs) H' s' ∧ N H'
      | .error _ => False) s2 := level hc te pg pt bd sub I2 T st2 f2 w0 tu fun s' H' I' n => ⟨H', I', n⟩
  refine codeAny_mono (cs lp (T.self X.A 0 _ _ _ st2 lp)) fun r s' hr => ?_
  cases r with
  | ok f => exact wpAny_pure hr
  | error e => exact hr.elim
end
section
variable {P : Program} {w : World} {A : Around} {R : Result → Shared → Prop} {s : Shared} {ex t0 i0 t1 i1 t2 i2 : Expr} {f0 f1 f2 : List Expr} {sc : Scope} {pos : Pos} {it acc : Value} {env : Env}
theorem start1 (h0 : codeAny (model P w) A (.compLoop (lc3 ex t0 i0 t1 i1 t2 i2 f0 f1 f2 sc pos) 1 it acc env) R s)
    (h : wpAny (model P w) A (pyIter it) (fun it' s' => codeAny (model P w) A (.compLoop (lc3 ex t0 i0 t1 i1 t2 i2 f0 f1 f2 sc pos) 1 it' acc env) R s') no s) :
    codeAny (model P w) A (.compStart (lc3 ex t0 i0 t1 i1 t2 i2 f0 f1 f2 sc pos) 1 it acc env) R s := by
  refine codeAny_of_tree ?_
  show wpAny _ _ ((compStart (lc3 ex t0 i0 t1 i1 t2 i2 f0 f1 f2 sc pos) 1 it acc env).onRaise (fun x => do noteFrame x env; standAt theWindowsPlace)) _ _ s
  refine wpAny_notedAt ?_
  unfold compStart
  show wpAny _ _ (ask >>= _) _ _ s
  refine wpAny_bind (wpAny_askSetting (wpAny_ite ?_))
  split
  · first
      | exact wpAny_bind (wpAny_pure (wpAny_pure ⟨rfl, h0⟩))
      | exact wpAny_pure ⟨rfl, h0⟩
  · refine wpAny_bind (wpAny_rule ?_)
    show wpAny _ _ (standAt i1.pos >>= _) _ _ s
    exact wpAny_bind (wpAny_standAt (wpAny_bind (thnF h fun it' s' h' => wpAny_pure ⟨rfl, h'⟩)))
theorem start2 (h0 : codeAny (model P w) A (.compLoop (lc3 ex t0 i0 t1 i1 t2 i2 f0 f1 f2 sc pos) 2 it acc env) R s)
    (h : wpAny (model P w) A (pyIter it) (fun it' s' => codeAny (model P w) A (.compLoop (lc3 ex t0 i0 t1 i1 t2 i2 f0 f1 f2 sc pos) 2 it' acc env) R s') no s) :
    codeAny (model P w) A (.compStart (lc3 ex t0 i0 t1 i1 t2 i2 f0 f1 f2 sc pos) 2 it acc env) R s := by
  refine codeAny_of_tree ?_
  show wpAny _ _ ((compStart (lc3 ex t0 i0 t1 i1 t2 i2 f0 f1 f2 sc pos) 2 it acc env).onRaise (fun x => do noteFrame x env; standAt theWindowsPlace)) _ _ s
  refine wpAny_notedAt ?_
  unfold compStart
  show wpAny _ _ (ask >>= _) _ _ s
  refine wpAny_bind (wpAny_askSetting (wpAny_ite ?_))
  split
  · first
      | exact wpAny_bind (wpAny_pure (wpAny_pure ⟨rfl, h0⟩))
      | exact wpAny_pure ⟨rfl, h0⟩
  · refine wpAny_bind (wpAny_rule ?_)
    show wpAny _ _ (standAt i2.pos >>= _) _ _ s
    exact wpAny_bind (wpAny_standAt (wpAny_bind (thnF h fun it' s' h' => wpAny_pure ⟨rfl, h'⟩)))
end
section
variable {X : Cx}
def tLc3 (wi : TI) (g : TG) (tt : TT) (b : Addr → TB) (ws : List Nat) : TE := fun σ H Q => wi σ H fun J H1 => ∀ D, H1 D = none → ∃ W : Nat → Nat → Hp → Prop, (∃ m, W 0 m (upd H1 D (.lst []))) ∧ tTurn J g tt ws (b D) (wipe σ ws) W fun H' => Q (.ref D) H'
theorem pe_lc3 {ex t0 i0 t1 i1 t2 i2 : Expr} {f0 f1 f2 : List Expr} {scope : Scope} {pos : Pos} {own : List (Str × Nat)} {v1 v2 : List Nat} {w0 w1 w2 : TI} {g0 g1 g2 : TG} {e0 e1 e2 : TT} {te : TE} (hc : X.calm = true) (hN : X.N.Nodup) (hi : PI X t0 i0 w0)
    (ok : BlkOk X.N X.env.scope scope own) (sub1 : ∀ i ∈ v1, i ∈ own.map (·.2)) (sub2 : ∀ i ∈ v2, i ∈ v1)
    (hg : ∀ (s : Shared) (H : Hp) (C : Addr) (cl : List (Str × Addr)) (fp : List Addr), PG (X.blk s H scope (compEnvC scope cl C X.env) fp) t0 g0) (ht : ∀ (s : Shared) (H : Hp) (C : Addr) (cl : List (Str × Addr)) (fp : List Addr), PTs (X.blk s H scope (compEnvC scope cl C X.env) fp) f0 e0) (hi1 : ∀ (s : Shared) (H : Hp) (C : Addr) (cl : List (Str × Addr)) (fp : List Addr), PI (X.blk s H scope (compEnvC scope cl C X.env) fp) t1 i1 w1) (hg1 : ∀ (s : Shared) (H : Hp) (C : Addr) (cl : List (Str × Addr)) (fp : List Addr), PG (X.blk s H scope (compEnvC scope cl C X.env) fp) t1 g1) (ht1 : ∀ (s : Shared) (H : Hp) (C : Addr) (cl : List (Str × Addr)) (fp : List Addr), PTs (X.blk s H scope (compEnvC scope cl C X.env) fp) f1 e1)
    (hi2 : ∀ (s : Shared) (H : Hp) (C : Addr) (cl : List (Str × Addr)) (fp : List Addr), PI (X.blk s H scope (compEnvC scope cl C X.env) fp) t2 i2 w2) (hg2 : ∀ (s : Shared) (H : Hp) (C : Addr) (cl : List (Str × Addr)) (fp : List Addr), PG (X.blk s H scope (compEnvC scope cl C X.env) fp) t2 g2) (ht2 : ∀ (s : Shared) (H : Hp) (C : Addr) (cl : List (Str × Addr)) (fp : List Addr), PTs (X.blk s H scope (compEnvC scope cl C X.env) fp) f2 e2) (he : ∀ (s : Shared) (H : Hp) (C : Addr) (cl : List (Str × Addr)) (fp : List Addr), PE (X.blk s H scope (compEnvC scope cl C X.env) fp) ex te)
    (fs0 : ∀ x, foldedSetIterable i0 X.env x = pure x := by intro _; rfl) (fs1 : ∀ env x, foldedSetIterable i1 env x = pure x := by intro _ _; rfl) (fs2 : ∀ env x, foldedSetIterable i2 env x = pure x := by intro _ _; rfl) :
    PE X (lc3 ex t0 i0 t1 i1 t2 i2 f0 f1 f2 scope pos) (tLc3 w0 g0 e0 (fun D => tCl w1 g1 e1 v1 (tCl w2 g2 e2 v2 (tPush te D))) (own.map (·.2))) := by
  refine ⟨fun pins s σ H Q I h => ?_⟩
  rw [eval_ListComp]
  have fre : ∀ y ∈ scope.names, y.2 = .free → ∃ c, X.env.cells.lookup y.1 = some c := fun y hy e => by
    rcases ok.free y hy e with z | z
    · exact I.ok.has _ (.inl z)
    · exact I.ok.has _ (.inr z)
  refine wpAny_comprehension_free (use := none) rfl fs0 (closure_ok fre) ok.kind (fun y hy e => by rw [ok.uniq y hy, e]) (thn (hi.run pins s σ H _ I h) fun xv s1 hx => thn hx fun itv s2 h2 => ?_)
  obtain ⟨it, fp, tn, J, H2, rfl, I2, T, st2, f2', q⟩ := h2
  refine wpAny_newObj_type (newEnv_comp ?_) (by show 0 ≤ sizeLine; decide)
  obtain ⟨D, hD⟩ : ∃ D, D = s2.heap.objs.size := ⟨_, rfl⟩
  rw [← hD]
  obtain ⟨W, ⟨m0, wz⟩, turn⟩ := q D (I2.hok.fresh (by rw [hD]; exact Nat.le_refl _))
  obtain ⟨nl, hnl⟩ : ∃ nl : Obj, nl = { cls := .type "list", data := .seq ([] : List Value).toArray } := ⟨_, rfl⟩
  rw [← hnl]
  obtain ⟨s3, hs3⟩ : ∃ s3 : Shared, s3 = { s2 with heap := s2.heap.push nl } := ⟨_, rfl⟩
  have I3 : Inv X pins σ (upd H2 D (.lst [])) s3 := by
    rw [hs3]
    refine I2.laid (t' := s2.toks) (fun b o e => Heap.get?_push_of_some _ e) (by rw [hD]; exact Nat.le_refl _) ⟨Nat.zero_le _, [], 0, .nil, ?_⟩
    rw [hD, hnl]
    exact Heap.get?_push_size _ rfl
  have lt2 : ∀ b ∈ fp, b < s2.heap.objs.size := fun b hb => by
    obtain ⟨o, e, _⟩ := T.obj _ _ st2 b hb
    exact Heap.lt_size e
  have f3 : ∀ b ∈ fp, FpOk X pins (upd H2 D (.lst [])) b ∧ b < s3.heap.objs.size := fun b hb => by
    have z := lt2 b hb
    refine ⟨⟨?_, (f2' b hb).2⟩, by rw [hs3]; show b < (s2.heap.push nl).objs.size; rw [Heap.size_push]; exact Nat.lt_succ_of_lt z⟩
    rw [upd_ne (by rw [hD]; exact Nat.ne_of_lt z)]
    exact (f2' b hb).1
  have st3 : tn 0 s3.heap := T.keep _ _ _ st2 fun b _ o e => by
    rw [hs3]
    exact Heap.get?_push_of_some _ e
  have I4 := block_start I3 ok hN f3
  obtain ⟨cl, hcl⟩ : ∃ cl, cl = cellsFrom (s3.heap.objs.size + 1) scope.names (cloFrom X.env.cells scope.names []) := ⟨_, rfl⟩
  obtain ⟨H3, hH3⟩ : ∃ H3, H3 = upd H2 D (.lst []) := ⟨_, rfl⟩
  obtain ⟨ce, hce⟩ : ∃ ce, ce = compEnvC scope cl s3.heap.objs.size X.env := ⟨_, rfl⟩
  obtain ⟨s4, hs4⟩ : ∃ s4 : Shared, s4 = { s3 with heap := pushCells (s3.heap.push { cls := .type "dict", data := .dict #[] }) scope.names } := ⟨_, rfl⟩
  have cL : ce.locals = s3.heap.objs.size := by
    rw [hce]
    rfl
  have st4 : tn 0 s4.heap := T.keep _ _ _ st3 fun b _ o e => by
    rw [hs4]
    exact pushCells_keeps _ _ _ _ (Heap.get?_push_of_some _ e)
  have p0 := hg s3 H3 s3.heap.objs.size cl fp
  have p1 := ht s3 H3 s3.heap.objs.size cl fp
  have p2 := hi1 s3 H3 s3.heap.objs.size cl fp
  have p3 := hg1 s3 H3 s3.heap.objs.size cl fp
  have p4 := ht1 s3 H3 s3.heap.objs.size cl fp
  have p5 := hi2 s3 H3 s3.heap.objs.size cl fp
  have p6 := hg2 s3 H3 s3.heap.objs.size cl fp
  have p7 := ht2 s3 H3 s3.heap.objs.size cl fp
  have p8 := he s3 H3 s3.heap.objs.size cl fp
  rw [← hcl, ← hH3, ← hce, ← hs4] at I4
  rw [← hce] at p0 p1 p2 p3 p4 p5 p6 p7 p8
  rw [← hH3] at I3 f3 wz
  have stat : ∀ b ∈ fp, FpOk (Bk X s3 H3 scope ce fp) [] H3 b := fun b hb =>
    ⟨(f3 b hb).1.1, (I4.ok.exf b hb).1, I4.ok.exfs b hb, .inl hb, fun x c e => (I4.ok.exf b hb).2 x c e, fun p hp => absurd (show p ∈ ([] : List (Addr × Obj)) ++ [] from hp) (by simp)⟩
  have d2 := does_push (D := D) p8
  have d1 := does_next (D := D) (body := pushOf ex ce (.ref D)) hc rfl (fun it => turn2 (ex := ex) (t0 := t0) (i0 := i0) (t1 := t1) (i1 := i1) (t2 := t2) (i2 := i2) (f2 := f2) (f0 := f0) (f1 := f1) (sc := scope) (pos := pos)) start2 (fs2 ce) p5 p6 p7 d2 (vs := v2) (fun i hi => nomatch hi)
  have d0 := does_next (D := D) hc rfl (fun it => turn1 (ex := ex) (t0 := t0) (i0 := i0) (t1 := t1) (i1 := i1) (f1 := f1) (t2 := t2) (i2 := i2) (f0 := f0) (f2 := f2) (sc := scope) (pos := pos)) start1 (fs1 ce) p2 p3 p4 d1 (vs := v1) sub2
  have loop : codeAny (model X.prog X.w) X.A (.compLoop (lc3 ex t0 i0 t1 i1 t2 i2 f0 f1 f2 scope pos) 0 (.ref it) (.ref D) ce) (compPost (model X.prog X.w) X.A X.xe none (EP X pins σ Q) (.ref D) s3.heap.objs.size) s4 := by
    refine level hc (fun it => turn0) p0 p1 d0 sub1 I4 T st4 stat wz turn fun s6 H6 I6 nn => ?_
    have I7 : Inv X pins σ H6 s6 := I3.call' (ch := fp) I6.os I6.base I6.hok I6.bare fun b hb => ⟨(f3 b hb).1.2.2.2.1, (f3 b hb).1.2.1, (f3 b hb).1.2.2.2.2.1, (f3 b hb).1.2.2.2.2.2⟩
    have nC : H6 s3.heap.objs.size = none := by
      rw [← cL]
      exact I6.free
    obtain ⟨m, hn, _⟩ := I6.loc
    have hn : s6.heap.Ns ce.locals m := hn
    rw [cL] at hn
    refine ⟨m, hn, fun h'' sb => ?_⟩
    obtain ⟨y0, y1, y2, y3, y4, y5⟩ := I3.fpOk (Nat.le_refl _) nC
    exact ⟨.ref D, H6, I7.turned (t' := s6.toks) (fun b o hb e => (sb.2 b hb).trans e) y0 y1 y3 y4 y5, rfl, nn⟩
  have done := codeAny_compStart_list loop (T.self X.A 0 _ _ _ st4 loop)
  rw [hce, hcl, hs4, hs3] at done
  exact done
end
end C3
namespace CC
open PySem L2
/-! ### a list that is being made at D, its items seen through a view of the heap that D is not part of -/
section
variable {K : PySem.W.Frag} {D : Addr} {H0 H H' : Hp} {Vw : Hp → Hp} {G : Hp → Prop} {P : Nat → List PyData → Prop} {i : Nat} {us : List V} {ds : List PyData}
structure Made (K : PySem.W.Frag) (Vw : Hp → Hp) (G : Hp → Prop) (P : Nat → List PyData → Prop) (H0 : Hp) (D : Addr) (i : Nat) (H : Hp) (us : List V) (ds : List PyData) : Prop where
  same : Same (Vw H0) (Vw H)
  more : G H
  lst : H D = some (.lst us)
  dat : DpAll K (Vw H) us ds
  inv : P i ds
  len : us.length ≤ i
def MadeI (K : PySem.W.Frag) (Vw : Hp → Hp) (G : Hp → Prop) (P : Nat → List PyData → Prop) (H0 : Hp) (D : Addr) (i : Nat) (H : Hp) : Prop := ∃ us ds, Made K Vw G P H0 D i H us ds
theorem Made.start (v1 : ∀ H o, Vw (upd H D o) = Vw H) (v3 : ∀ H o, G H → G (upd H D o)) (g0 : G H0) (p0 : P 0 []) : MadeI K Vw G P H0 D 0 (upd H0 D (.lst [])) :=
  ⟨[], [], by rw [v1]; exact Same.refl _, v3 _ _ g0, upd_same, .nil, p0, Nat.le_refl _⟩
theorem Made.push (p : Made K Vw G P H0 D i H us ds) (h9 : i < 100000) (v1 : ∀ H o, Vw (upd H D o) = Vw H) (v3 : ∀ H o, G H → G (upd H D o)) {y : V} {d : PyData} {j : Nat} (hj : i < j) (q1 : Dp K (Vw H') y d) (q2 : P j (ds ++ [d])) (q3 : Same (Vw H) (Vw H')) (q4 : H' D = H D) (q5 : G H') :
    ∃ acc, H' D = some (.lst acc) ∧ acc.length < sizeLine ∧ MadeI K Vw G P H0 D j (upd H' D (.lst (acc ++ [y]))) := by
  refine ⟨us, q4.trans p.lst, Nat.lt_of_le_of_lt p.len (Nat.lt_of_lt_of_le h9 (by decide)), us ++ [y], ds ++ [d], ?_, v3 _ _ q5, upd_same, ?_, q2, by rw [List.length_append]; exact Nat.le_trans (Nat.succ_le_succ p.len) hj⟩
  · rw [v1]
    exact p.same.trans q3
  · rw [v1]
    exact dps_app (dps_same q3 _ _ p.dat) (dps_one q1)
theorem Made.skip (p : Made K Vw G P H0 D i H us ds) {j : Nat} (hj : i ≤ j) (q2 : P j ds) (q3 : Same (Vw H) (Vw H')) (q4 : H' D = H D) (q5 : G H') : MadeI K Vw G P H0 D j H' :=
  ⟨us, ds, p.same.trans q3, q5, q4.trans p.lst, dps_same q3 _ _ p.dat, q2, Nat.le_trans p.len hj⟩
end
/-! the plain view: the heap without D -/
abbrev Tr : Hp → Prop := fun _ => True
abbrev MadeP (K : PySem.W.Frag) (P : Nat → List PyData → Prop) (H0 : Hp) (D : Addr) (i : Nat) (H : Hp) : Prop := MadeI K (fun H => wo H D) Tr P H0 D i H
section
variable {K : PySem.W.Frag} {D : Addr} {H0 H H' : Hp} {P : Nat → List PyData → Prop} {i : Nat} {us : List V} {ds : List PyData}
theorem madeP_push (p : Made K (fun H => wo H D) Tr P H0 D i H us ds) (h9 : i < 100000) {y : V} {d : PyData} {j : Nat} (hj : i < j) (q3 : Same H H') (q1 : Dp K (wo H' D) y d) (q2 : P j (ds ++ [d])) :
    ∃ acc, H' D = some (.lst acc) ∧ acc.length < sizeLine ∧ MadeP K P H0 D j (upd H' D (.lst (acc ++ [y]))) :=
  p.push h9 (fun H o => wo_upd D o) (fun _ _ z => z) hj q1 q2 (wo_same q3) ((q3 _ _ p.lst).trans p.lst.symm) trivial
/-- what stood before the list, still stands -/
theorem Made.old (p : Made K (fun H => wo H D) Tr P H0 D i H us ds) (n : H0 D = none) : Same H0 H := fun b o e => wo_le D _ _ (p.same b o (by rw [wo_ne (ne_of_none e n)]; exact e))
/-- a new tuple in the view -/
theorem tup_new {t : Addr} {xs : List V} {u : HO} (hD : H D = some u) (n : H t = none) : SqT K (wo (upd H t (.tup xs)) D) t xs := by
  have ne : t ≠ D := (ne_of_none hD n).symm
  rw [wo_upd_ne _ ne]
  exact .inl (.inl upd_same)
/-- the made list, whole -/
theorem Made.dp (p : Made K (fun H => wo H D) Tr P H0 D i H us ds) : Dp K H (.ref D) (.list ds) := .lst (.inl (.inl p.lst)) (dps_same (wo_le D) _ _ p.dat)
end
theorem yes_if {σ : L2.St} {H : Hp} {A B : Hp → Prop} (h : A H) : tYes σ H fun y H3 => if y = true then A H3 else B H3 := by
  show if true = true then A H else B H
  exact iteT h
/-! ### the columns 0 .. z - 1 as values -/
def cols (z : Nat) : List V := (List.range z).map fun (i : Nat) => V.int (i : Int)
theorem cols_len (z : Nat) : (cols z).length = z := by rw [cols, List.length_map, List.length_range]
theorem cols_at {z i : Nat} {x : V} (h : (cols z)[i]? = some x) : i < z ∧ x = .int (i : Int) := by
  rw [cols, List.getElem?_map] at h
  by_cases hi : i < z
  · rw [List.getElem?_range hi] at h
    exact ⟨hi, (Option.some.inj h).symm⟩
  · rw [List.getElem?_eq_none (by rw [List.length_range]; omega)] at h
    cases h
theorem cols_rg (z : Nat) : rgV 0 (z : Int) = cols z := by
  unfold rgV cols
  rw [show ((z : Int) - 0).toNat = z by omega]
  refine List.map_congr_left fun i _ => ?_
  rw [Int.zero_add]
/-! ### all rules for a width -/
def row (w a : Nat) (k : Bool) : List R := ((List.range w).filter fun b => decide (a ≠ b)).map fun b => ⟨k, a, b⟩
def allR (w : Nat) : List R := [true, false].flatMap fun k => (List.range w).flatMap fun a => row w a k
end CC
namespace CC
open PySem L2
def spEvery (K : PySem.W.Frag) : Sp := fun vs H Q _ => ∃ w : Nat, vs = [.int (w : Int)] ∧ w ≤ 6 ∧ ∀ (p : Addr) (us : List V) (H' : Hp), Same H H' → H p = none → H' p = some (.lst us) → DpAll K (wo H' p) us ((allR w).map R.d) → Q (.ref p) H'
theorem row_step (w a : Nat) (k : Bool) (j : Nat) (hj : j < w) : ((List.range (j + 1)).filter fun b => decide (a ≠ b)) = ((List.range j).filter fun b => decide (a ≠ b)) ++ (if a = j then [] else [j]) := by
  rw [List.range_succ, List.filter_append]
  by_cases h : a = j
  · simp [h]
  · simp [h]
/-- a list of rules that is being made at D -/
def MadeR (K : PySem.W.Frag) (H0 : Hp) (D : Addr) (n : Nat) (H : Hp) (rs : List R) : Prop := ∃ us, Made K (fun H => wo H D) Tr (fun _ _ => True) H0 D n H us (rs.map R.d)
theorem MadeR.up {K : PySem.W.Frag} {H0 H : Hp} {D : Addr} {n m : Nat} {rs rs' : List R} (p : MadeR K H0 D n H rs) (h : n ≤ m) (e : rs = rs') : MadeR K H0 D m H rs' := by
  obtain ⟨us, p⟩ := p
  subst e
  exact ⟨us, p.same, trivial, p.lst, p.dat, trivial, Nat.le_trans p.len h⟩
theorem MadeR.start {K : PySem.W.Frag} {H0 : Hp} {D : Addr} : MadeR K H0 D 0 (upd H0 D (.lst [])) [] := by
  refine ⟨[], ?_, trivial, upd_same, .nil, trivial, Nat.le_refl _⟩
  show Same (wo H0 D) (wo (upd H0 D (.lst [])) D)
  rw [wo_upd]
  exact Same.refl _
theorem MadeR.push {K : PySem.W.Frag} {H0 H H' : Hp} {D : Addr} {n m : Nat} {rs : List R} {r : R} {y : V} (p : MadeR K H0 D n H rs) (h9 : n < 100000) (hm : n < m) (q3 : Same H H') (q1 : Dp K (wo H' D) y r.d) :
    ∃ acc, H' D = some (.lst acc) ∧ acc.length < sizeLine ∧ MadeR K H0 D m (upd H' D (.lst (acc ++ [y]))) (rs ++ [r]) := by
  obtain ⟨us, p⟩ := p
  obtain ⟨acc, a1, a2, us', ds', p'⟩ := madeP_push (j := m) p h9 hm q3 q1 trivial
  refine ⟨acc, a1, a2, us ++ [y], ?_, trivial, ?_, ?_, trivial, ?_⟩
  · show Same (wo H0 D) (wo (upd H' D (.lst (acc ++ [y]))) D)
    rw [wo_upd]
    exact p.same.trans (wo_same q3)
  · have e : some (HO.lst acc) = some (HO.lst us) := a1.symm.trans (q3 _ _ p.lst)
    cases e
    exact upd_same
  · show DpAll K (wo (upd H' D (.lst (acc ++ [y]))) D) _ _
    rw [wo_upd, List.map_append]
    exact dps_app (dps_same (wo_same q3) _ _ p.dat) (dps_one q1)
  · rw [List.length_append]
    exact Nat.le_trans (Nat.succ_le_succ p.len) hm
theorem MadeR.old {K : PySem.W.Frag} {H0 H : Hp} {D : Addr} {n : Nat} {rs : List R} (p : MadeR K H0 D n H rs) (h : H0 D = none) : Same H0 H := by
  obtain ⟨us, p⟩ := p
  exact p.old h
section
variable {P : Program} {w : World} {K : PySem.W.Frag} {mg : Str → Option Value} {base : Heap} {kA : Addr}
/-- a walk over a list, a clause of a comprehension -/
theorem turn_list {a : Addr} {xs : List V} {g : TG} {tt : TT} {vs : List Nat} {b : C3.TB} {σ : L2.St} {N : Hp → Prop} {H1 : Hp} (Pv : Nat → Hp → Prop) (h0 : Pv 0 H1) (hl : ∀ i H, i ≤ xs.length → Pv i H → SqL K H a xs)
    (hs : ∀ i x H, xs[i]? = some x → Pv i H → g x (wipe σ vs) H fun τ H2 => wipe τ vs = wipe σ vs ∧ tt τ H2 fun y H3 => if y = true then b τ H3 (Pv (i + 1)) else Pv (i + 1) H3) (hd : ∀ H, Pv xs.length H → N H) :
    ∃ W : Nat → Nat → Hp → Prop, (∃ m, W 0 m H1) ∧ C3.tTurn (Itl K a) g tt vs b σ W N := by
  refine ⟨fun i m H => m = xs.length - i ∧ i ≤ xs.length ∧ Pv i H, ⟨xs.length, by simp, Nat.zero_le _, h0⟩, ?_⟩
  rintro i m H ⟨rfl, hi, p⟩
  have q := hl i H hi p
  by_cases lt : i < xs.length
  · refine .inr ⟨⟨xs, xs[i], q, by simp [lt]⟩, Pv (i + 1), fun H' p' => ⟨xs.length - (i + 1), by omega, rfl, lt, p'⟩, fun x H' y => ?_⟩
    obtain ⟨e, y⟩ := y
    subst e
    exact hs i x _ (y xs q) p
  · have e : i = xs.length := by omega
    subst e
    exact .inl ⟨⟨xs, q, Nat.le_refl _⟩, hd H p⟩
theorem turn_tup {a : Addr} {xs : List V} {g : TG} {tt : TT} {vs : List Nat} {b : C3.TB} {σ : L2.St} {N : Hp → Prop} {H1 : Hp} (Pv : Nat → Hp → Prop) (h0 : Pv 0 H1) (hl : ∀ i H, i ≤ xs.length → Pv i H → SqT K H a xs)
    (hs : ∀ i x H, xs[i]? = some x → Pv i H → g x (wipe σ vs) H fun τ H2 => wipe τ vs = wipe σ vs ∧ tt τ H2 fun y H3 => if y = true then b τ H3 (Pv (i + 1)) else Pv (i + 1) H3) (hd : ∀ H, Pv xs.length H → N H) :
    ∃ W : Nat → Nat → Hp → Prop, (∃ m, W 0 m H1) ∧ C3.tTurn (Itt K a) g tt vs b σ W N := by
  refine ⟨fun i m H => m = xs.length - i ∧ i ≤ xs.length ∧ Pv i H, ⟨xs.length, by simp, Nat.zero_le _, h0⟩, ?_⟩
  rintro i m H ⟨rfl, hi, p⟩
  have q := hl i H hi p
  by_cases lt : i < xs.length
  · refine .inr ⟨⟨xs, xs[i], q, by simp [lt]⟩, Pv (i + 1), fun H' p' => ⟨xs.length - (i + 1), by omega, rfl, lt, p'⟩, fun x H' y => ?_⟩
    obtain ⟨e, y⟩ := y
    subst e
    exact hs i x _ (y xs q) p
  · have e : i = xs.length := by omega
    subst e
    exact .inl ⟨⟨xs, q, Nat.le_refl _⟩, hd H p⟩
theorem scEvery : FnScope ["width", "columns", "kind", "a", "b"] ["width"] (defScope sEvery) := ⟨rfl, rfl, rfl, by decide +kernel, rfl, by decide +kernel, by decide +kernel⟩
theorem ok_every {f : Addr} {fd : FuncData} {k : Nat} (F : Fun K "every_rule" "every_rule" sEvery f fd) (T : Glb K mg kA) : FnOk P w K mg base CX0 (k + 1) f fd ["width"] (spEvery K) := by
  refine F.ok scEvery (fun vs H Q E h => ?_) (fun cdv A outer s H vs Q E hr h => ?_)
  · obtain ⟨z, rfl, _⟩ := h
    rfl
  · obtain ⟨z, rfl, hz, q⟩ := h
    have nd := scEvery.nd
    refine ⟨_, pss_cons (ps_set (i := 1) nd rfl (.inr rfl) (pe_listRg rfl (by rfl) T.lst (prg_1 (by rfl) T.rng (pv 0))))
      (pss_one (ps_ret (C3.pe_lc3 (own := [("kind", 2), ("a", 3), ("b", 4)]) (v1 := [3, 4]) (v2 := [4]) (w1 := iList K (tVar 1)) (w2 := iList K (tVar 1)) rfl nd (pi_tup (pe_glob (v := .ref kA) rfl T.knd rfl)) (blkOk_by (N := ["width", "columns", "kind", "a", "b"]) (sc := defScope sEvery) (by decide +kernel)) (by decide) (by decide)
        (fun _ _ _ _ _ => pg_name (i := 2) nd rfl (.inl rfl)) (fun _ _ _ _ _ => pts_nil)
        (fun _ _ _ _ _ => pi_list (pv 1)) (fun _ _ _ _ _ => pg_name (i := 3) nd rfl (.inl rfl)) (fun _ _ _ _ _ => pts_nil)
        (fun _ _ _ _ _ => pi_list (pv 1)) (fun _ _ _ _ _ => pg_name (i := 4) nd rfl (.inl rfl)) (fun _ _ _ _ _ => pts_one (pt_cmpR op_ne (pv 3) (pv 4) (nomark _)))
        (fun _ _ _ _ _ => pe_tup (pa_cons (pv 2) (pa_cons (pv 3) (pa_cons (pv 4) pa_nil))))))), ?_⟩
    have hk : ∀ H, SqT K H kA [.str "settles", .str "within"] := fun H => .inr T.kseq
    refine ⟨_, rfl, _, rfl, RgOk.of_le (by omega) (by omega) (by omega) (by omega), fun c nc => ?_⟩
    rw [cols_rg]
    have cC : ∀ {H' : Hp}, Same (upd H c (.lst (cols z))) H' → SqL K H' c (cols z) := fun e => .inl (.inl (e _ _ upd_same))
    generalize hH1 : upd H c (.lst (cols z)) = H1 at cC
    have s1 : Same H H1 := by
      rw [← hH1]
      exact same_new nc
    refine ⟨kA, rfl, ⟨_, hk _⟩, fun D nD => ?_⟩
    refine turn_tup (xs := [.str "settles", .str "within"]) (fun i H => MadeR K H1 D (36 * i) H (([true, false].take i).flatMap fun k => (List.range z).flatMap fun a => row z a k)) MadeR.start (fun _ _ _ _ => hk _) ?_ ?_
    · intro i x H2 hx p
      obtain ⟨kk, rfl, hi, tk⟩ : ∃ kk : Bool, x = .str (kd kk) ∧ i < 2 ∧ [true, false].take (i + 1) = [true, false].take i ++ [kk] := by
        match i, hx with
        | 0, hx =>
          simp at hx
          exact ⟨true, hx.symm, by decide, rfl⟩
        | 1, hx =>
          simp at hx
          exact ⟨false, hx.symm, by decide, rfl⟩
        | n + 2, hx => simp at hx
      rw [tk, List.flatMap_append]
      generalize ([true, false].take i).flatMap (fun k => (List.range z).flatMap fun a => row z a k) = pre at p
      refine ⟨rfl, ?_⟩
      refine yes_if ?_
      refine ⟨_, rfl, c, rfl, ⟨_, cC (p.old nD)⟩, ?_⟩
      refine turn_list (xs := cols z) (fun j H => MadeR K H1 D (36 * i + 6 * j) H (pre ++ (List.range j).flatMap fun a => row z a kk)) (p.up (by omega) (by simp)) (fun _ _ _ p => cC (p.old nD)) ?_ ?_
      · intro j y H3 hy p3
        obtain ⟨hj, rfl⟩ := cols_at hy
        refine ⟨rfl, ?_⟩
        refine yes_if ?_
        refine ⟨_, rfl, c, rfl, ⟨_, cC (p3.old nD)⟩, ?_⟩
        refine turn_list (xs := cols z) (fun l H => MadeR K H1 D (36 * i + 6 * j + l) H ((pre ++ (List.range j).flatMap fun a => row z a kk) ++ (((List.range l).filter fun b => decide (j ≠ b)).map fun b => ⟨kk, j, b⟩))) (p3.up (by omega) (by simp)) (fun _ _ _ p => cC (p.old nD)) ?_ ?_
        · intro l v H4 hv p4
          obtain ⟨hl, rfl⟩ := cols_at hv
          refine ⟨rfl, _, rfl, _, rfl, rfl, _, rfl, ?_⟩
          rw [row_step z j kk l hl, List.map_append, ← List.append_assoc]
          by_cases e : j = l
          · have e1 : (!decide (V.int (j : Int) = V.int (l : Int))) = false := by rw [e]; simp
            rw [e1]
            refine iteF (p4.up (by omega) ?_)
            rw [if_pos e]
            simp
          · have e1 : (!decide (V.int (j : Int) = V.int (l : Int))) = true := by
              rw [decide_eq_false (fun q => e (by injection q with q; omega))]
              rfl
            rw [e1, if_neg e]
            refine iteT ⟨_, rfl, _, rfl, _, rfl, (by show 3 ≤ sizeLine; decide), fun t nt => ?_⟩
            obtain ⟨us, p5⟩ := id p4
            exact p4.push (by omega) (by omega) (same_new nt) (r_dp (r := ⟨kk, j, l⟩) (tup_new p5.lst nt))
        · intro H4 p4
          rw [cols_len] at p4
          refine p4.up (by omega) ?_
          rw [List.range_succ, List.flatMap_append]
          simp [row]
      · intro H3 p3
        rw [cols_len] at p3
        refine p3.up (by omega) (by simp)
    · intro H2 p
      obtain ⟨us, p5⟩ := id p
      exact q D us H2 (s1.trans (p.old nD)) (by
        cases z0 : H D with
        | none => rfl
        | some o =>
          rw [s1 _ _ z0] at nD
          cases nD) p5.lst p5.dat
end
end CC
namespace CC
open PySem L2 TL
def num (n : Nat) : Str := Str.ofString (toString (n : Int))
theorem tl_app (a b : Str) : tl (a ++ b) = tl a ++ tl b := tl_append a b
end CC
namespace CC
open PySem L2 TL
/-! ### lines -/
def lineS (r : R) : Str := Str.empty ++ num r.a ++ " " ++ kd r.k ++ " " ++ num r.b
def textS (rs : List R) : Str := Txt.join "" (rs.map fun r => lineS r ++ "\n")
theorem lines_nodup : ((allR 6).map lineS).Nodup := by decide +kernel
theorem mem_row {w a : Nat} {k : Bool} {r : R} : r ∈ row w a k ↔ r.k = k ∧ r.a = a ∧ r.b < w ∧ a ≠ r.b := by
  obtain ⟨k', a', b'⟩ := r
  simp only [row, List.mem_map, List.mem_filter, List.mem_range, decide_eq_true_eq, R.mk.injEq]
  constructor
  · rintro ⟨b, ⟨h1, h2⟩, rfl, rfl, rfl⟩
    exact ⟨rfl, rfl, h1, h2⟩
  · rintro ⟨rfl, rfl, h1, h2⟩
    exact ⟨b', ⟨h1, h2⟩, rfl, rfl, rfl⟩
theorem mem_allR {w : Nat} {r : R} : r ∈ allR w ↔ r.ok w := by
  simp only [allR, List.mem_flatMap, List.mem_range, mem_row, R.ok, List.mem_cons, List.not_mem_nil, or_false]
  constructor
  · rintro ⟨k, _, a, h1, rfl, rfl, h2, h3⟩
    exact ⟨h1, h2, h3⟩
  · rintro ⟨h1, h2, h3⟩
    refine ⟨r.k, ?_, r.a, h1, rfl, rfl, h2, h3⟩
    cases r.k
    · exact .inr rfl
    · exact .inl rfl
theorem R.ok.up {w : Nat} {r : R} (h : r.ok w) (hw : w ≤ 6) : r.ok 6 := ⟨Nat.lt_of_lt_of_le h.1 hw, Nat.lt_of_lt_of_le h.2.1 hw, h.2.2⟩
theorem inj_of {α β : Type} {f : α → β} : ∀ {l : List α}, (l.map f).Nodup → ∀ {x y : α}, x ∈ l → y ∈ l → f x = f y → x = y
  | [], _, _, _, h, _, _ => nomatch h
  | z :: l, nd, x, y, hx, hy, e => by
    rw [List.map_cons, List.nodup_cons] at nd
    rcases List.mem_cons.mp hx with e1 | h1
    · rcases List.mem_cons.mp hy with e2 | h2
      · rw [e1, e2]
      · exact absurd (List.mem_map.mpr ⟨y, h2, by rw [← e, e1]⟩) nd.1
    · rcases List.mem_cons.mp hy with e2 | h2
      · exact absurd (List.mem_map.mpr ⟨x, h1, by rw [e, e2]⟩) nd.1
      · exact inj_of nd.2 h1 h2 e
theorem line_inj {r s : R} (hr : r.ok 6) (hs : s.ok 6) (e : lineS r = lineS s) : r = s := inj_of lines_nodup (mem_allR.mpr hr) (mem_allR.mpr hs) e
theorem lines_all : ((allR 6).all fun r => (lineS r).length ≤ 20 && !(tl (lineS r)).contains 10) = true := by decide +kernel
theorem line_of6 {r : R} (hr : r.ok 6) : (lineS r).length ≤ 20 ∧ 10 ∉ tl (lineS r) := by
  have h := List.all_eq_true.mp lines_all r (mem_allR.mpr hr)
  simp only [Bool.and_eq_true, decide_eq_true_eq, Bool.not_eq_true'] at h
  refine ⟨h.1, fun z => ?_⟩
  have := List.contains_iff_mem.mpr z
  rw [h.2] at this
  cases this
theorem allR_nodup {w : Nat} (hw : w ≤ 6) : (allR w).Nodup := by
  have h : ∀ w : Fin 7, (allR w.1).Nodup := by decide +kernel
  exact h ⟨w, by omega⟩
/-- a text of lines, and its lines -/
theorem tl_text : ∀ rs : List R, tl (textS rs) = (rs.map fun r => tl (lineS r) ++ [10]).flatten
  | [] => by decide +kernel
  | r :: rs => by
    unfold textS
    rw [join_eq, tl_join]
    have e : ∀ l : List (List Nat), joinL (tl ("" : Str)) l = l.flatten := by
      intro l
      rw [show tl ("" : Str) = [] by decide +kernel]
      induction l with
      | nil => rfl
      | cons x l ih =>
        cases l with
        | nil => simp [joinL]
        | cons y l =>
          show x ++ ([] ++ joinL [] (y :: l)) = _
          rw [ih, List.nil_append]
          simp
    rw [e, List.map_map]
    congr 1
    refine List.map_congr_left fun r _ => ?_
    show tl (lineS r ++ "\n") = _
    rw [tl_app, show tl ("\n" : Str) = [10] by decide +kernel]
theorem split_text {rs : List R} (h : ∀ r ∈ rs, r.ok 6) : Txt.split (textS rs) "\n" = rs.map lineS ++ [Str.empty] := by
  have e : textS rs = Txt.join "\n" (rs.map lineS ++ [Str.empty]) := by
    refine ext_tl ?_
    show tl (textS rs) = tl (Txt.join "\n" (rs.map lineS ++ [Str.empty]))
    rw [tl_text, join_eq, tl_join, show tl ("\n" : Str) = [10] by decide +kernel]
    induction rs with
    | nil => decide +kernel
    | cons r rs ih =>
      rw [List.map_cons, List.flatten_cons, ih fun s hs => h s (List.mem_cons_of_mem _ hs)]
      cases rs with
      | nil =>
        show tl (lineS r) ++ [10] ++ joinL [10] [tl Str.empty] = joinL [10] [tl (lineS r), tl Str.empty]
        show tl (lineS r) ++ [10] ++ tl Str.empty = tl (lineS r) ++ ([10] ++ tl Str.empty)
        rw [List.append_assoc]
      | cons s rs =>
        show tl (lineS r) ++ [10] ++ _ = tl (lineS r) ++ ([10] ++ _)
        rw [List.append_assoc]
        rfl
  rw [e]
  refine split_join (s := 10) (S := []) (by decide +kernel) (by decide +kernel) (by simp) fun p hp => ?_
  rcases List.mem_append.mp hp with z | z
  · obtain ⟨r, hr, rfl⟩ := List.mem_map.mp z
    exact (line_of6 (h r hr)).2
  · rw [List.mem_singleton.mp z]
    decide +kernel
theorem text_len {rs : List R} (h : ∀ r ∈ rs, r.ok 6) : (textS rs).length ≤ 21 * rs.length := by
  rw [len_tl, tl_text]
  induction rs with
  | nil => simp
  | cons r rs ih =>
    have h1 := (line_of6 (h r List.mem_cons_self)).1
    rw [len_tl] at h1
    have h2 : (tl (lineS r)).length ≤ 20 := h1
    have h3 := ih fun s hs => h s (List.mem_cons_of_mem _ hs)
    simp only [List.map_cons, List.flatten_cons, List.length_append, List.length_cons, List.length_nil]
    omega
def spLine (K : PySem.W.Frag) : Sp := fun vs H Q _ => ∃ (v : V) (r : R), vs = [v] ∧ Dp K H v r.d ∧ r.ok 6 ∧ Q (.str (lineS r)) H
section
variable {P : Program} {w : World} {K : PySem.W.Frag} {mg : Str → Option Value} {base : Heap} {kA : Addr}
theorem scLine : FnScope ["rule", "kind", "first", "second"] ["rule"] (defScope sLine) := ⟨rfl, rfl, rfl, by decide +kernel, rfl, by decide +kernel, by decide +kernel⟩
theorem small6 {n : Nat} (h : n < 6) : (n : Int).natAbs.log2 < 1920 := by
  have : ∀ n : Fin 6, ((n.1 : Nat) : Int).natAbs.log2 < 1920 := by decide +kernel
  exact this ⟨n, h⟩
theorem lens_all : ((allR 6).all fun r => decide ((Str.empty ++ num r.a).length ≤ 20) && decide ((Str.empty ++ num r.a ++ " ").length ≤ 20) && decide ((Str.empty ++ num r.a ++ " " ++ kd r.k).length ≤ 20) && decide ((Str.empty ++ num r.a ++ " " ++ kd r.k ++ " ").length ≤ 20)) = true := by decide +kernel
theorem ok_line {f : Addr} {fd : FuncData} {k : Nat} (F : Fun K "line_of" "line_of" sLine f fd) : FnOk P w K mg base CX0 (k + 1) f fd ["rule"] (spLine K) := by
  refine F.ok scLine (fun vs H Q E h => ?_) (fun cdv A outer s H vs Q E hr h => ?_)
  · obtain ⟨v, r, rfl, _⟩ := h
    rfl
  · obtain ⟨v, r, rfl, hd, ho, q⟩ := h
    obtain ⟨p, rfl, hp⟩ := dp_r hd
    have nd := scLine.nd
    refine ⟨_, pss_cons (ps_asg (pv 0) (pg_tup rfl (pgs_cons (pg_name (i := 1) nd rfl (.inl rfl)) (pgs_cons (pg_name (i := 2) nd rfl (.inl rfl)) (pgs_cons (pg_name (i := 3) nd rfl (.inl rfl)) pgs_nil)))))
      (pss_one (ps_ret (pe_joined (.cons (pe_fmt (pv 2)) (.cons pe_str (.cons (pe_fmt (pv 1)) (.cons pe_str (.cons (pe_fmt (pv 3)) .nil)))))))), ?_⟩
    have hl := List.all_eq_true.mp lens_all r (mem_allR.mpr ho)
    simp only [Bool.and_eq_true, decide_eq_true_eq] at hl
    obtain ⟨⟨⟨l1, l2⟩, l3⟩, l4⟩ := hl
    have l5 := (line_of6 ho).1
    have big : ∀ {n : Nat}, n ≤ 20 → n ≤ sizeLine := fun h => Nat.le_trans h (by decide)
    have lk : (kd r.k).length ≤ sizeLine := by cases r.k <;> decide +kernel
    refine ⟨_, rfl, p, _, rfl, hp, rfl, _, _, rfl, _, _, rfl, _, _, rfl, rfl, ?_⟩
    exact ⟨_, rfl, .inr ⟨_, rfl, small6 ho.1, _, rfl, big l1, _, rfl, big l2, _, rfl, .inl ⟨_, rfl, lk, _, rfl, big l3, _, rfl, big l4, _, rfl, .inr ⟨_, rfl, small6 ho.2.1, _, rfl, big l5, q⟩⟩⟩⟩
end
end CC
/-! A set made of a list or tuple of things of one kind, and how many members it has. -/
namespace SG
open PySem PySem.Spec PyProof.Rows L2
section kinds
variable {P : Program} {w : World} {κ : Type} [DecidableEq κ] {kn : KeyKind P w κ} {A : Around} {E : Value → Shared → Prop} {s : Shared}
/-- things of the kind come from no class statement, and hash by their value -/
structure Tame (kn : KeyKind P w κ) : Prop where
  cls : ∀ (n : Nat) (k : κ) (v : Value), kn.is k v = true → ofAClassStatement n v = pure false
  byv : ∀ (n : Nat) (k : κ) (v : Value), kn.is k v = true → ∃ b, hashByValue n v = pure b
theorem tame_mix : Tame (mixKind P w) := by
  constructor
  · intro n k v h
    rcases keyIs_shape h with ⟨i, t, _, rfl⟩ | ⟨x, t, _, rfl⟩ <;> cases n <;> rfl
  · intro n k v h
    rcases keyIs_shape h with ⟨i, t, _, rfl⟩ | ⟨x, t, _, rfl⟩ <;> exact ⟨_, hashByValue_scannable n rfl⟩
theorem each_is {ks : List κ} {us : List Value} (h : ItemsAre kn ks us) : ∀ u ∈ us, ∃ k, kn.is k u = true := by
  induction h with
  | nil => exact fun u hu => nomatch hu
  | @cons k v _ _ q _ ih =>
    intro u hu
    cases hu with
    | head => exact ⟨k, q⟩
    | tail _ hu => exact ih u hu
theorem tup_cls (Tm : Tame kn) {ks : List κ} {b : Addr} {Q : Bool → Shared → Prop} (hb : IsTupleKey kn s.heap ks b) (q : Q false s) : wpAny (model P w) A (ofAClassStatement 8 (.ref b)) Q E s := by
  have ty := hb.typeIs
  obtain ⟨ob, its, m, g1, _, g2, g3⟩ := hb
  unfold ofAClassStatement
  refine wpAny_bind (wpAny_typeOf ty ?_)
  dsimp only
  have e0 : (("tuple" : String) == "tuple") = true := by decide
  simp only [e0, if_true, Bool.not_true, Bool.false_eq_true, if_false]
  try refine wpAny_bind (wpAny_pure ?_)
  try simp only [Bool.not_true, Bool.false_eq_true, if_false]
  show wpAny _ _ (seqItems? (.ref b) >>= _) _ _ s
  refine wpAny_bind (wpAny_seqItems g1 g2 ?_)
  dsimp only
  refine wpAny_bind ?_
  show wpAny _ _ (forIn its _ _) _ _ s
  rw [← Array.forIn_toList]
  refine wpAny_forIn_list _ (fun left r s' => r.1 = none ∧ s' = s ∧ ∀ u ∈ left, ∃ k, kn.is k u = true) _ ?_ ?_ _ _ ⟨rfl, rfl, each_is g3⟩
  · rintro u left r s' ⟨hr, rfl, al⟩
    obtain ⟨k, hk⟩ := al u List.mem_cons_self
    rw [Tm.cls _ k u hk]
    refine wpAny_bind (wpAny_pure ?_)
    simp only [Bool.false_eq_true, if_false]
    exact wpAny_pure ⟨rfl, rfl, fun x hx => al x (List.mem_cons_of_mem _ hx)⟩
  · rintro ⟨r1, r2⟩ s' ⟨hr, rfl, _⟩
    simp only at hr
    subst hr
    exact wpAny_pure q
theorem tup_byv (Tm : Tame kn) {ks : List κ} {b : Addr} {Q : Bool → Shared → Prop} (hb : IsTupleKey kn s.heap ks b) (q : ∀ y, Q y s) : wpAny (model P w) A (hashByValue 8 (.ref b)) Q E s := by
  have ty := hb.typeIs
  obtain ⟨ob, its, m, g1, _, g2, g3⟩ := hb
  unfold hashByValue
  refine wpAny_bind (wpAny_specialOf ty F.slot_tuple_hash.lookup ?_)
  show wpAny _ _ (seqItems? (.ref b) >>= _) _ _ s
  refine wpAny_bind (wpAny_seqItems g1 g2 ?_)
  refine wpAny_bind ?_
  show wpAny _ _ (forIn its _ _) _ _ s
  rw [← Array.forIn_toList]
  refine wpAny_forIn_list _ (fun left r s' => s' = s ∧ ∀ u ∈ left, ∃ k, kn.is k u = true) _ ?_ ?_ _ _ ⟨rfl, each_is g3⟩
  · rintro u left r s' ⟨rfl, al⟩
    obtain ⟨k, hk⟩ := al u List.mem_cons_self
    obtain ⟨y, hy⟩ := Tm.byv 7 k u hk
    rw [hy]
    refine wpAny_bind (wpAny_pure ?_)
    cases y with
    | true =>
      simp only [Bool.not_true, Bool.false_eq_true, if_false]
      exact wpAny_pure ⟨rfl, fun x hx => al x (List.mem_cons_of_mem _ hx)⟩
    | false =>
      simp only [Bool.not_false, if_true]
      exact wpAny_pure (wpAny_pure (q _))
  · rintro ⟨r1, r2⟩ s' ⟨rfl, _⟩
    cases r1 with
    | none => exact wpAny_pure (q _)
    | some y => exact wpAny_pure (q _)
theorem tup_unseen (Tm : Tame kn) {ks : List κ} {b : Addr} {Q : Bool → Shared → Prop} (hb : IsTupleKey kn s.heap ks b) {us : List Value} (hus : ∀ u ∈ us, ∃ js c, u = Value.ref c ∧ IsTupleKey kn s.heap js c) (q : Q false s) :
    wpAny (model P w) A (searchCouldBeSeen (.ref b) us) Q E s := by
  unfold searchCouldBeSeen
  refine wpAny_bind ?_
  refine wpAny_forIn_list _ (fun left r s' => r.1 = none ∧ s' = s ∧ ∀ u ∈ left, ∃ js c, u = Value.ref c ∧ IsTupleKey kn s.heap js c) _ ?_ ?_ _ _ ⟨rfl, rfl, hus⟩
  · rintro u left r s' ⟨hr, rfl, al⟩
    obtain ⟨js, c, rfl, hc⟩ := al u List.mem_cons_self
    have al2 : ∀ x ∈ left, ∃ js c, x = Value.ref c ∧ IsTupleKey kn s'.heap js c := fun x hx => al x (List.mem_cons_of_mem _ hx)
    dsimp only
    by_cases hv : (b == c || (carriedByValue (.ref b) && carriedByValue (.ref c))) = true
    · exact wp_if_pos hv (wpAny_pure ⟨rfl, rfl, al2⟩)
    · refine wp_if_neg hv (wpAny_bind (wpAny_eqIsQuiet_tuple hb ?_))
      simp only [Bool.not_true, Bool.false_eq_true, if_false]
      refine wpAny_bind (wpAny_eqIsQuiet_tuple hc ?_)
      simp only [Bool.not_true, Bool.false_eq_true, if_false]
      refine wpAny_bind (tup_cls Tm hb ?_)
      simp only [Bool.false_eq_true, if_false]
      refine wpAny_bind (tup_cls Tm hc ?_)
      simp only [Bool.false_eq_true, if_false]
      exact wpAny_pure ⟨rfl, rfl, al2⟩
  · rintro ⟨r1, r2⟩ s' ⟨hr, rfl, _⟩
    simp only at hr
    subst hr
    exact wpAny_pure q
/-! ### a set of tuples of the kind -/
abbrev hs (kn : KeyKind P w κ) (k : List κ) : Int := tupleKeyHash kn k
abbrev Mem (κ : Type) := Addr × List κ
def ents (kn : KeyKind P w κ) (M : List (Mem κ)) : List (Int × Value) := M.map fun m => (hs kn m.2, Value.ref m.1)
structure TSet (kn : KeyKind P w κ) (h : Heap) (a : Addr) (M : List (Mem κ)) (es : Array (Int × Value)) (ep : Nat) (t : SetTable) : Prop where
  obj : ∃ o, h.get? a = some o ∧ o.ExactSet ∧ o.data = .set es ep t
  ent : es.toList = ents kn M
  tok : TabOk t (M.map fun m => hs kn m.2)
  uni : (M.map (·.2)).Nodup
  mem : ∀ m ∈ M, IsTupleKey kn h m.2 m.1
  led : w.params.followText "set-order" = true ∨ t.led = true
  rom : M.length * 5 < t.mask * 3
  few : M.length < 64
variable {a : Addr} {M : List (Mem κ)} {es : Array (Int × Value)} {ep : Nat} {t : SetTable}
theorem ents_len (e : es.toList = ents kn M) : es.size = M.length := by
  have q := congrArg List.length e
  rw [ents, List.length_map, Array.length_toList] at q
  exact q
theorem ents_at (e : es.toList = ents kn M) {i : Nat} {m : Mem κ} (h : M[i]? = some m) : es[i]? = some (hs kn m.2, Value.ref m.1) := by
  rw [← Array.getElem?_toList, e, ents, List.getElem?_map, h]
  rfl
theorem fits_of (T : TabOk t (M.map fun m => hs kn m.2)) (n : es.size = M.length) (r : M.length ≤ t.mask) : t.fits es.size = true := by
  have z := T.sz
  rw [List.length_map] at z
  unfold SetTable.fits SetTable.fill
  rw [T.dm, Bool.and_eq_true, beq_iff_eq, decide_eq_true_eq]
  show t.place.size = es.size ∧ t.place.size + 0 ≤ t.mask
  omega
theorem TSet.fit (S : TSet kn s.heap a M es ep t) : t.fits es.size = true := fits_of S.tok (ents_len S.ent) (by have := S.rom; omega)
theorem nodummy (m : Nat) : ∀ (n : Nat) (p : SetTable.Probe), p.dummy = none → (nth m p n).dummy = none
  | 0, _, h => h
  | n + 1, p, h => nodummy m n (adv m p) (by unfold adv; split <;> exact h)
abbrev st0 (m : Nat) (h : Int) : SetTable.Probe := runAt m (SetTable.bits h % (m + 1)) (SetTable.bits h)
/-- the search along the way, from its c-th step -/
theorem look (Tm : Tame kn) (S : TSet kn s.heap a M es ep t) {x : Addr} {k : List κ} (hx : IsTupleKey kn s.heap k x) (hu : A.units < cLine) {N : Nat} (hN : N < 10 * SetTable.turns t.mask)
    (fr : way t.mask (hs kn k) N ∉ t.place.toList) (oc : ∀ c, c < N → way t.mask (hs kn k) c ∈ t.place.toList) {Q : SetFound → Shared → Prop}
    (yes : k ∈ M.map (·.2) → Q (.there none) s) (no : k ∉ M.map (·.2) → Q (.free (way t.mask (hs kn k) N) false) s) :
    ∀ (f c : Nat) (sd : Option SetTable.Probe), sd.getD (t.probeStart (hs kn k)) = nth t.mask (st0 t.mask (hs kn k)) c → c ≤ N → N - c < f →
      (∀ (i : Nat) m, M[i]? = some m → m.2 = k → ∃ d, c ≤ d ∧ d < N ∧ t.place.toList[i]? = some (way t.mask (hs kn k) d)) →
      wpAny (model P w) A (setSearchFrom a (.ref x) (hs kn k) true f sd) Q E s
  | 0, _, _, _, _, z, _ => absurd z (Nat.not_lt_zero _)
  | f + 1, c, sd, hsd, hc, hf, ahead => by
    obtain ⟨ob, g1, g2, g3⟩ := S.obj
    rw [setSearchFrom_succ]
    refine wpAny_bind (wpAny_setState_of g1 g3 S.fit ?_)
    dsimp only
    have gw : ¬ t.gaveWay = true := by
      unfold SetTable.gaveWay
      rw [mask_odd S.tok.mok]
      decide
    refine wp_if_neg gw ?_
    try refine wpAny_bind (wpAny_pure ?_)
    have shift : ∀ q, nth t.mask (nth t.mask (st0 t.mask (hs kn k)) c) q = nth t.mask (st0 t.mask (hs kn k)) (c + q) := fun q => (nth_add t.mask c _ q).symm
    have at_ : ∀ q, (nth t.mask (nth t.mask (st0 t.mask (hs kn k)) c) q).j = way t.mask (hs kn k) (c + q) := fun q => congrArg SetTable.Probe.j (shift q)
    have last : c + (N - c) = N := by omega
    have told := go_spec t S.tok.ris S.tok.dm (fun i => (es[i]?.map (·.1)).getD 0) (hs kn k) (10 * SetTable.turns t.mask) (N - c) _ (nodummy t.mask c (st0 t.mask (hs kn k)) rfl) (by omega)
      (fun q hq => by rw [at_]; exact oc _ (by omega)) (by rw [at_, last]; exact fr)
    have hsh : ∀ (i : Nat) m, M[i]? = some m → (fun i => (es[i]?.map (·.1)).getD 0) i = hs kn m.2 := fun i m hm => by
      show (es[i]?.map (·.1)).getD 0 = _
      rw [ents_at S.ent hm]
      rfl
    rcases told with ⟨q, i, hq, hi, _, before, ans⟩ | ⟨before, ans⟩
    · have ans' : t.probe (fun i => (es[i]?.map (·.1)).getD 0) (hs kn k) (sd.getD (t.probeStart (hs kn k))) = some (.candidate (way t.mask (hs kn k) (c + q)) i (nth t.mask (st0 t.mask (hs kn k)) (c + (q + 1)))) := by
        rw [hsd, ← at_, ← shift]
        exact ans
      rw [ans']
      dsimp only
      rw [at_] at hi
      have il : i < M.length := by
        have z1 := (List.getElem?_eq_some_iff.mp hi).1
        have z2 := S.tok.sz
        rw [List.length_map] at z2
        rw [Array.length_toList] at z1
        omega
      obtain ⟨m, hm⟩ : ∃ m, M[i]? = some m := ⟨_, List.getElem?_eq_getElem il⟩
      have mm : m ∈ M := List.mem_of_getElem? hm
      have go : wpAny (model P w) A (searchRest a (.ref x) (hs kn k) true f es t (way t.mask (hs kn k) (c + q)) i (nth t.mask (st0 t.mask (hs kn k)) (c + (q + 1)))) Q E s := by
        unfold searchRest
        rw [ents_at S.ent hm]
        dsimp only
        refine wpAny_bind (wpAny_holding (wpAny_eqBool_tuple hu (S.mem m mm) hx ?_))
        refine wpAny_bind (wpAny_setState_of g1 g3 S.fit ?_)
        dsimp only
        by_cases same : m.2 = k
        · exact wp_if_pos (by simp [same]) (wpAny_pure (yes (List.mem_map.mpr ⟨m, mm, same⟩)))
        · refine wp_if_neg (by simp [same]) ?_
          try refine wpAny_bind (wpAny_pure ?_)
          rw [sameMem]
          dsimp only
          have live : t.slot (way t.mask (hs kn k) (c + q)) = .live i := slot_live S.tok.ris hi
          simp only [if_true, live, ents_at S.ent hm]
          refine wpAny_bind (wpAny_isSame_ref_self (wpAny_bind (wpAny_pure ?_)))
          simp only [if_true]
          refine wp_if_neg (by simp [same]) ?_
          refine look Tm S hx hu hN fr oc yes no f (c + (q + 1)) _ rfl (by omega) (by omega) fun j n hj hn => ?_
          obtain ⟨d, d1, d2, d3⟩ := ahead j n hj hn
          refine ⟨d, ?_, d2, d3⟩
          rcases Nat.lt_trichotomy d (c + q) with z | z | z
          · have z0 : c + (d - c) = d := by omega
            refine absurd ((hsh j n hj).trans (congrArg (hs kn) hn)) (before (d - c) j (by omega) ?_)
            rw [at_, z0]
            exact d3
          · rw [z] at d3
            have z1 := slot_live S.tok.ris d3
            rw [live] at z1
            injection z1 with z1
            rw [← z1, hm] at hj
            exact absurd ((congrArg Prod.snd (Option.some.inj hj)).trans hn) same
          · omega
      by_cases hl : t.led = true
      · refine wp_if_neg (by simp [hl]) ?_
        try refine wpAny_bind (wpAny_pure ?_)
        exact go
      · refine wp_if_pos (by simp [hl]) ?_
        refine wpAny_bind (tup_unseen Tm hx (fun u hu2 => ?_) ?_)
        · obtain ⟨e, he, ee⟩ := List.mem_map.mp hu2
          have he1 : e ∈ es ∧ e.1 = hs kn k := by simpa using he
          have he2 : e ∈ es.toList := by simpa using he1.1
          rw [S.ent] at he2
          obtain ⟨n, hn, rfl⟩ := List.mem_map.mp he2
          exact ⟨n.2, n.1, ee.symm, S.mem n hn⟩
        · refine wp_if_neg (by decide) ?_
          try refine wpAny_bind (wpAny_pure ?_)
          exact go
    · have ans' : t.probe (fun i => (es[i]?.map (·.1)).getD 0) (hs kn k) (sd.getD (t.probeStart (hs kn k))) = some (.empty (way t.mask (hs kn k) N) none) := by
        have z : way t.mask (hs kn k) N = (nth t.mask (nth t.mask (st0 t.mask (hs kn k)) c) (N - c)).j := by rw [at_, last]
        rw [hsd, z]
        exact ans
      rw [ans']
      dsimp only
      refine wpAny_pure (no fun hm => ?_)
      obtain ⟨m, mm, ek⟩ := List.mem_map.mp hm
      obtain ⟨j, hj⟩ := List.mem_iff_getElem?.mp mm
      obtain ⟨d, d1, d2, d3⟩ := ahead j m hj ek
      have z0 : c + (d - c) = d := by omega
      refine absurd ((hsh j m hj).trans (congrArg (hs kn) ek)) (before (d - c) j (by omega) ?_)
      rw [at_, z0]
      exact d3
theorem look0 (Tm : Tame kn) (S : TSet kn s.heap a M es ep t) {x : Addr} {k : List κ} (hx : IsTupleKey kn s.heap k x) (hu : A.units < cLine) {Q : SetFound → Shared → Prop} (yes : k ∈ M.map (·.2) → Q (.there none) s)
    (no : ∀ N, k ∉ M.map (·.2) → way t.mask (hs kn k) N ∉ t.place.toList → (∀ c, c < N → way t.mask (hs kn k) c ∈ t.place.toList) → Q (.free (way t.mask (hs kn k) N) false) s) :
    wpAny (model P w) A (setSearch a (.ref x) (hs kn k) true) Q E s := by
  have rm := S.rom
  obtain ⟨N, n1, n2, n3⟩ := S.tok.first (by rw [List.length_map]; omega) (hs kn k)
  have big : N < 100000 := by
    have : 10 * SetTable.turns t.mask ≤ 1420 := by
      unfold SetTable.turns
      rcases S.tok.mok with e | e | e <;> omega
    omega
  unfold setSearch
  refine look Tm S hx hu n1 n2 n3 yes (fun z => no N z n2 n3) 100000 0 none rfl (Nat.zero_le _) (by omega) fun i m hm ek => ?_
  have z1 : (M.map fun m => hs kn m.2)[i]? = some (hs kn k) := by
    rw [List.getElem?_map, hm, ← ek]
    rfl
  have z2 : i < t.place.toList.length := by
    have y1 : i < M.length := (List.getElem?_eq_some_iff.mp hm).1
    have y2 := S.tok.sz
    rw [List.length_map] at y2
    rw [Array.length_toList]
    omega
  obtain ⟨d, d1, d2⟩ := S.tok.before n2 z1 (List.getElem?_eq_getElem z2)
  exact ⟨d, Nat.zero_le _, d1, by rw [List.getElem?_eq_getElem z2, d2]⟩
/-! ### laid anew, and added to -/
theorem key_else {h h' : Heap} {k : List κ} {b : Addr} {o : Obj} (hb : IsTupleKey kn h k b) (ho : h.get? a = some o) (hd : o.data = .set es ep t) (sb : Heap.SameBut a h h') : IsTupleKey kn h' k b := by
  obtain ⟨o2, its, n, g1, g2, g3, g4⟩ := hb
  have ne : b ≠ a := fun z => by
    rw [z, ho] at g1
    rw [← Option.some.inj g1, hd] at g3
    exact nomatch g3
  exact ⟨o2, its, n, (sb.2 b ne).trans g1, g2, g3, g4⟩
theorem pick_len {α : Type} (l : List α) : ∀ n, n ≤ l.length → (List.range n).filterMap (fun i => l[i]?) = l.take n
  | 0, _ => by simp
  | n + 1, h => by
    rw [List.range_succ, List.filterMap_append, pick_len l n (by omega), List.take_succ, List.getElem?_eq_getElem h]
    simp [List.filterMap, List.getElem?_eq_getElem h]
theorem pick (e : es.toList = ents kn M) : ∀ js : List Nat, (∀ j ∈ js, j < M.length) →
    js.filterMap (fun j => es[j]?) = ents kn (js.filterMap fun j => M[j]?) ∧ ((js.filterMap fun j => M[j]?).map fun m => hs kn m.2) = js.map fun j => (es.map (·.1)).getD j 0
  | [], _ => ⟨rfl, rfl⟩
  | j :: js, h => by
    have hj : j < M.length := h j List.mem_cons_self
    obtain ⟨i1, i2⟩ := pick e js fun i hi => h i (List.mem_cons_of_mem _ hi)
    have g := List.getElem?_eq_getElem hj
    have z : (es.map (·.1)).getD j 0 = hs kn M[j].2 := by
      have z1 : (es.map (·.1))[j]? = some (hs kn M[j].2) := by
        rw [Array.getElem?_map, ents_at e g]
        rfl
      simp [Array.getD_eq_getD_getElem?, z1]
    constructor
    · rw [List.filterMap_cons_some (ents_at e g), List.filterMap_cons_some g, i1]
      rfl
    · rw [List.filterMap_cons_some g, List.map_cons, List.map_cons, i2, z]
theorem grow {o : Obj} (g1 : s.heap.get? a = some o) (g2 : o.ExactSet) (g3 : o.data = .set es ep t) (en : es.toList = ents kn M) (T : TabOk t (M.map fun m => hs kn m.2)) (fl : M.length ≤ t.mask)
    (un : (M.map (·.2)).Nodup) (me : ∀ m ∈ M, IsTupleKey kn s.heap m.2 m.1) (ld : w.params.followText "set-order" = true ∨ t.led = true) (fw : M.length < 64) {want B : Nat}
    (w1 : SetTable.sizeAbove want - 1 = B) (w2 : MaskOk B) (w3 : SetTable.sizeAbove want ≤ 128) (w4 : M.length * 5 < B * 3) {Q : Unit → Shared → Prop}
    (q : ∀ h' M' es' ep' t', Heap.SameBut a s.heap h' → TSet kn h' a M' es' ep' t' → M'.Perm M → Q () { s with heap := h' }) : wpAny (model P w) A (setRelay a want) Q E s := by
  have n := ents_len en
  obtain ⟨t', order, e1, pm, T', e2, e3, _, _⟩ := relaid_ok t (hs := es.map (·.1)) (wanted := want) w1 w2 (by rw [Array.size_map, n]; omega)
  rw [Array.size_map, n] at pm
  obtain ⟨p1, p2⟩ := pick en order.toList fun j hj => List.mem_range.mp (pm.mem_iff.mp hj)
  have pm2 : (order.toList.filterMap fun j => M[j]?).Perm M := by
    have z := pm.filterMap fun j => M[j]?
    rw [pick_len M M.length (Nat.le_refl _), List.take_length] at z
    exact z
  generalize order.toList.filterMap (fun j => M[j]?) = M' at p1 p2 pm2
  rw [← p2] at T'
  have p3 : (order.filterMap (es[·]?)).toList = ents kn M' := by
    first
      | (rw [Array.toList_filterMap]; exact p1)
      | simpa using p1
  have n2 := ents_len p3
  have n3 := pm2.length_eq
  rw [setRelay_eq]
  refine wpAny_bind (wpAny_setState_of g1 g3 (fits_of T n fl) ?_)
  dsimp only
  refine wp_if_neg (by rw [sizeLine_eq]; omega) ?_
  try refine wpAny_bind (wpAny_pure ?_)
  rw [e1]
  dsimp only
  refine wpAny_bind (wp_if_neg (by rw [n2, n3, n]; simp) ?_)
  try refine wpAny_bind (wpAny_pure ?_)
  refine wpAny_pure ?_
  dsimp only
  refine wpAny_storeSet_of g1 g3 ?_ (by rw [n2, n3, sizeLine_eq]; omega)
  have sb : Heap.SameBut a s.heap (s.heap.update a (Obj.putSet (order.filterMap (es[·]?)) t')) := Heap.SameBut.update ..
  refine q _ M' _ (ep + 1) t' sb ⟨⟨_, store_at g1 g3, ⟨g2.1, g2.2.1, g2.2.2⟩, rfl⟩, p3, T', (pm2.map (·.2)).nodup_iff.mpr un, fun m hm => key_else (me m (pm2.mem_iff.mp hm)) g1 g3 sb, by rw [e3]; exact ld, by rw [n3, e2]; exact w4, by rw [n3]; exact fw⟩ pm2
theorem more (Tm : Tame kn) (S : TSet kn s.heap a M es ep t) {x : Addr} {k : List κ} (hx : IsTupleKey kn s.heap k x) (hu : A.units < cLine) (fw : M.length + 1 < 64) {Q : Bool → Shared → Prop}
    (q : ∀ b h' M' es' ep' t', Heap.SameBut a s.heap h' → TSet kn h' a M' es' ep' t' → (k ∈ M.map (·.2) → M' = M) → (k ∉ M.map (·.2) → M'.Perm ((x, k) :: M)) → Q b { s with heap := h' }) :
    wpAny (model P w) A (setAddHashed a (.ref x) (hs kn k)) Q E s := by
  obtain ⟨o, g1, g2, g3⟩ := S.obj
  have n := ents_len S.ent
  have rm := S.rom
  unfold setAddHashed
  refine wpAny_holding ?_
  rw [show (100000 : Nat) = 99999 + 1 from rfl, setAddHashedIn_succ]
  refine wpAny_bind (wpAny_setState_of g1 g3 S.fit ?_)
  dsimp only
  refine wp_if_neg (by simp [byScan, Value.scannable]) ?_
  try refine wpAny_bind (wpAny_pure ?_)
  refine wpAny_bind (look0 Tm S hx hu (fun hm => ?_) fun N hm f1 f2 => ?_)
  · exact wpAny_pure (q false s.heap M es ep t (Heap.SameBut.refl a s.heap) S (fun _ => rfl) fun z => absurd hm z)
  · dsimp only
    refine wpAny_bind (wpAny_setState_of g1 g3 S.fit ?_)
    dsimp only
    obtain ⟨q1, q2, q3, q4, q5, q6, q7, q8, q9⟩ := S.tok.put f1 f2
    generalize t.put (way t.mask (hs kn k) N) = pt at q1 q3 q4 q5 q6 q7 q8 q9 ⊢
    obtain ⟨t1, p⟩ := pt
    dsimp only at q1 q3 q4 q5 q6 q7 q8 q9 ⊢
    subst q1
    have hin : (SetTable.insertAt es (SetTable.below t.place (way t.mask (hs kn k) N)) (hs kn k, Value.ref x)).toList = ents kn (M.take (SetTable.below t.place (way t.mask (hs kn k) N)) ++ (x, k) :: M.drop (SetTable.below t.place (way t.mask (hs kn k) N))) := by
      rw [SetTable.toList_insertAt, S.ent, ents, ents, List.map_append, List.map_cons, List.map_take, List.map_drop]
    generalize SetTable.below t.place (way t.mask (hs kn k) N) = b at q2 q3 hin ⊢
    have pm := put_perm M b (x, k)
    have ln : (M.take b ++ (x, k) :: M.drop b).length = M.length + 1 := pm.length_eq
    have hh : (M.take b ++ (x, k) :: M.drop b).map (fun m => hs kn m.2) = (M.map fun m => hs kn m.2).take b ++ hs kn k :: (M.map fun m => hs kn m.2).drop b := by
      rw [List.map_append, List.map_cons, List.map_take, List.map_drop]
    rw [← hh] at q3
    have un1 : ((M.take b ++ (x, k) :: M.drop b).map (·.2)).Nodup := by
      refine (pm.map (·.2)).nodup_iff.mpr ?_
      rw [List.map_cons]
      exact List.nodup_cons.mpr ⟨hm, S.uni⟩
    have n1 := ents_len hin
    rw [ln] at n1
    generalize SetTable.insertAt es b (hs kn k, Value.ref x) = es1 at hin n1 ⊢
    generalize M.take b ++ (x, k) :: M.drop b = M1 at pm ln q3 un1 hin
    have tail : ∀ t2 : SetTable, TabOk t2 (M1.map fun m => hs kn m.2) → t2.mask = t.mask → t2.led = t1.led → t2.tooFull = t1.tooFull →
        wpAny (model P w) A (do
          storeSet a es1 t2
          if !false && t2.tooFull then setRelay a (SetTable.grown (es.size + 1))
          return true) Q E s := by
      intro t2 T2 mk ldd tf
      refine wpAny_bind (wpAny_storeSet_of g1 g3 ?_ (by rw [n1, sizeLine_eq]; omega))
      have sb : Heap.SameBut a s.heap (s.heap.update a (Obj.putSet es1 t2)) := Heap.SameBut.update ..
      have so := store_at (es' := es1) (t' := t2) g1 g3
      generalize s.heap.update a (Obj.putSet es1 t2) = h1 at sb so ⊢
      have me1 : ∀ m ∈ M1, IsTupleKey kn h1 m.2 m.1 := fun m hm1 => by
        rcases List.mem_cons.mp (pm.mem_iff.mp hm1) with z | z
        · rw [z]
          exact key_else hx g1 g3 sb
        · exact key_else (S.mem m z) g1 g3 sb
      have ld1 : w.params.followText "set-order" = true ∨ t2.led = true := by
        rw [ldd, q5]
        exact S.led
      by_cases hf : t1.tooFull = true
      · have hf2 : t2.tooFull = true := tf.trans hf
        first
          | (refine wpAny_bind ?_; refine wp_if_pos (by simp [hf2]) ?_)
          | (refine wp_if_pos (by simp [hf2]) ?_; refine wpAny_bind ?_)
        have full : (M.length + 1) * 5 ≥ t1.mask * 3 := by
          have z := hf
          unfold SetTable.tooFull at z
          rw [decide_eq_true_eq, q9, List.length_map] at z
          exact z
        rw [n]
        have two : (t.mask = 7 ∧ M.length = 4) ∨ (t.mask = 31 ∧ M.length = 18) := by
          rcases S.tok.mok with e | e | e
          · left
            rw [q4, e] at full
            rw [e] at rm
            exact ⟨e, by omega⟩
          · right
            rw [q4, e] at full
            rw [e] at rm
            exact ⟨e, by omega⟩
          · exfalso
            rw [q4, e] at full
            omega
        have go : ∀ B, SetTable.sizeAbove (SetTable.grown (M.length + 1)) - 1 = B → MaskOk B → SetTable.sizeAbove (SetTable.grown (M.length + 1)) ≤ 128 → (M.length + 1) * 5 < B * 3 →
            wpAny (model P w) A (setRelay a (SetTable.grown (M.length + 1))) (fun _ s' => wpAny (model P w) A (pure true) Q E s') E { s with heap := h1 } := fun B b1 b2 b3 b4 => by
          refine grow (s := { s with heap := h1 }) so ⟨g2.1, g2.2.1, g2.2.2⟩ rfl hin T2 (by rw [ln, mk]; rcases two with ⟨z, z2⟩ | ⟨z, z2⟩ <;> omega) un1 me1 ld1 (by rw [ln]; exact fw) b1 b2 b3 (by rw [ln]; exact b4) ?_
          intro h2 M2 es2 ep2 t3 sb2 S2 pm2
          exact wpAny_pure (q true h2 M2 es2 ep2 t3 (sb.trans sb2) S2 (fun z => absurd z hm) fun _ => pm2.trans pm)
        rcases two with ⟨_, z⟩ | ⟨_, z⟩
        · exact go 31 (by rw [z, size_20]) (.inr (.inl rfl)) (by rw [z, size_20]; decide) (by omega)
        · exact go 127 (by rw [z, size_76]) (.inr (.inr rfl)) (by rw [z, size_76]; decide) (by omega)
      · have hf2 : ¬ t2.tooFull = true := by
          rw [tf]
          exact hf
        first
          | refine wp_if_neg (by simp [hf2]) ?_
          | (refine wpAny_bind ?_; refine wp_if_neg (by simp [hf2]) ?_; refine wpAny_pure ?_)
        refine wpAny_pure (q true h1 M1 es1 (ep + 1) t2 sb ⟨⟨_, so, ⟨g2.1, g2.2.1, g2.2.2⟩, rfl⟩, hin, T2, un1, me1, ld1, ?_, by rw [ln]; exact fw⟩ (fun z => absurd z hm) fun _ => pm)
        have z := hf
        unfold SetTable.tooFull at z
        rw [decide_eq_true_eq, q9, List.length_map, q4] at z
        rw [ln, mk]
        omega
    have both : ∀ y : Bool, wpAny (model P w) A (do
        storeSet a es1 (if y then t1 else { t1 with plain := false })
        if !false && (if y then t1 else { t1 with plain := false } : SetTable).tooFull then setRelay a (SetTable.grown (es.size + 1))
        return true) Q E s := by
      intro y
      cases y with
      | true => exact tail t1 q3 q4 rfl rfl
      | false => exact tail { t1 with plain := false } ⟨q3.ris, q3.dm, q3.sz, q3.mok, q3.bd, q3.reach⟩ q4 rfl rfl
    by_cases pl : t1.plain = true
    · first
        | (refine wpAny_bind ?_; refine wp_if_pos pl ?_; refine tup_byv Tm hx fun y => ?_)
        | refine wp_if_pos pl (wpAny_bind (tup_byv Tm hx fun y => ?_))
      exact both y
    · first
        | (refine wpAny_bind ?_; refine wp_if_neg pl ?_; refine wpAny_pure ?_)
        | refine wp_if_neg pl (wpAny_bind (wpAny_pure ?_))
      exact both true
end kinds
end SG
namespace SG
open PySem PySem.Spec PyProof.Rows L2
/-- what a set at S, filled one by one, is known to be behind i things; base: what stood before it -/
structure Fills (P : Program) (w : World) (A : Around) (S : Addr) (base : Heap) (n : Nat) (Pv : Nat → Value → Prop) (J : Nat → Heap → Prop) : Prop where
  stay : ∀ (i : Nat) (h h' : Heap), J i h → (∀ b o, (b = S ∨ ∃ x, base.get? b = some x) → h.get? b = some o → h'.get? b = some o) → J i h'
  adds : ∀ (i : Nat) (v : Value) (s : Shared) (Q : Shared → Prop) (E : Value → Shared → Prop), i < n → Pv i v → J i s.heap →
    (∀ (h' : Heap) (tk : Nat), s.toks ≤ tk → Heap.SameBut S s.heap h' → J (i + 1) h' → Q { s with heap := h', toks := tk }) → wpAny (model P w) A (setAdd S v) (fun _ s' => Q s') E s
section
variable {P : Program} {w : World} {A : Around} {s : Shared}
theorem fill {I S : Addr} {fp wr : List Addr} {G : Array GenState → Array GenState → Prop} {n : Nat} {Pv : Nat → Value → Prop} {St : Nat → Shared → Prop} {R : Result → Shared → Prop} {base : Heap} {J : Nat → Heap → Prop}
    (W : WalksS P w A.in1 I fp wr G n Pv St) (Fi : Fills P w A.in1 S base n Pv J) (off : S ∉ fp) (old : ∀ b ∈ wr, base.get? b = none) : ∀ (d i : Nat) (s : Shared), n - i = d → i ≤ n → St i s → J i s.heap →
      (∀ s', Moved (S :: wr) G s s' → J n s'.heap → R (.ok (.ret .none)) s') → codeAny (model P w) A (.builtin "set.update.loop" ⟨[.ref S, .ref I], []⟩) R s := by
  have up : ∀ b ∈ wr, b ∈ S :: wr := fun b hb => List.mem_cons_of_mem _ hb
  have still : ∀ {i : Nat} {s s' : Shared}, Moved wr G s s' → J i s.heap → J i s'.heap := fun {i s s'} mv j => Fi.stay i _ _ j fun b o hb e => mv.heap b o (fun hw => by
    rcases hb with z | ⟨x, z⟩
    · exact off (W.sub _ (z ▸ hw))
    · rw [old b hw] at z
      cases z) e
  intro d
  induction d with
  | zero =>
    intro i s hd hi st j fin
    have e : i = n := by omega
    subst e
    refine codeAny_builtin F.entry_set_update_loop ?_
    rw [Around.under_plainId F.plain_set_update_loop _]
    show wpAny _ A.in1 (pyNext (.ref I) >>= _) _ _ s
    refine wpAny_bind (W.done s _ _ st fun s' mv => ?_)
    exact wpAny_pure (fin s' (mv.mono up) (still mv j))
  | succ d ih =>
    intro i s hd hi st j fin
    have lt : i < n := by omega
    refine codeAny_builtin F.entry_set_update_loop ?_
    rw [Around.under_plainId F.plain_set_update_loop _]
    show wpAny _ A.in1 (pyNext (.ref I) >>= _) _ _ s
    refine wpAny_bind (W.item i s _ _ lt st fun v s' pv st' mv => ?_)
    show wpAny _ A.in1 (holding [v] (setAdd S v) >>= _) _ _ s'
    refine wpAny_bind (wpAny_holding (Fi.adds i v s' _ _ lt pv (still mv j) fun h' tk ht sb j' => ?_))
    have out : ∀ b o, b ∉ S :: wr → s'.heap.get? b = some o → h'.get? b = some o := fun b o hb e => by
      rw [sb.2 b fun z => hb (by rw [z]; exact List.mem_cons_self)]
      exact e
    refine wpAny_pure ⟨plainId_quiet F.plain_set_update_loop _, ih (i + 1) _ (by omega) lt (W.frame _ s' _ _ st' ht fun b hb o e => ?_) j' fun s2 mv2 j2 => ?_⟩
    · rw [sb.2 b fun z => off (z ▸ hb)]
      exact e
    · exact fin s2 (Moved.trans W.gtrans ((mv.mono up).then_heap ht out) mv2) j2
end
abbrev bare (w : World) : Obj := { cls := .type "set", dict := none, data := .set #[] 0 (.fresh 0 0 (!w.params.followText "set-order")) }
section
variable {P : Program} {w : World} {A : Around} {E : Value → Shared → Prop} {s : Shared}
theorem make {l : Addr} {its : Array Value} {J : Nat → Heap → Prop} {Q : Value → Shared → Prop} (hh : A.handled = none) (hl : s.heap.IsList l its ∨ s.heap.IsTuple l its)
    (Fi : Fills P w A.in1.in1.in1 s.heap.objs.size s.heap its.size (fun i v => its[i]? = some v) J)
    (j0 : ∀ h : Heap, h.get? s.heap.objs.size = some (bare w) → (∀ b o, s.heap.get? b = some o → h.get? b = some o) → J 0 h)
    (q : ∀ (h' : Heap) (tk : Nat), J its.size h' → (∀ b o, s.heap.get? b = some o → h'.get? b = some o) → Q (.ref s.heap.objs.size) { s with heap := h', toks := tk }) :
    wpAny (model P w) A (call (.type "set") [.ref l]) Q E s := by
  obtain ⟨c, tl, hmro⟩ := F.called_set.mro
  have hmade := F.called_set.made
  have hsub := F.called_set.sub
  refine wpAny_call (codeAny_of_tree ?_)
  show wpAny _ _ (callAny (.type "set") _) _ _ _
  refine wpAny_pure ⟨Code.quiet_builtin _ (by decide +kernel), codeAny_builtin F.entry_type_call ?_⟩
  rw [Around.under_plain (weight_type_call_type "set" [.ref l] []) rfl]
  have h1 := F.called_set.notType
  have h2 := F.called_set.canCreate
  have h3 := F.typeCall_set_1 (.ref l)
  repeat (any_goals (first | assumption | wp_step))
  refine codeAny_mono (code_set_led1 (.ref l) (E := E) (Q₁ := fun ob s1 => ob = .ref s.heap.objs.size ∧ s1 = { s with heap := s.heap.push (bare w) }) ⟨rfl, rfl⟩) fun r s1 hr => ?_
  cases r with
  | error e => exact hr
  | ok fl =>
    cases fl with
    | ret ob =>
      obtain ⟨rfl, rfl⟩ := hr
      have g0 : (s.heap.push (bare w)).get? s.heap.objs.size = some (bare w) := Heap.get?_push_size _ rfl
      have ty : Shared.TypeIs { s with heap := s.heap.push (bare w) } (.ref s.heap.objs.size) "set" := ⟨_, g0, rfl⟩
      have h4 := F.called_set.init.lookup
      have h5 := F.called_set.init.bind (.ref s.heap.objs.size)
      repeat (any_goals (first | assumption | wp_step))
      refine codeAny_mono (codeAny_call_builtin (R := wants (fun r s2 => r = .none ∧ ∃ h' tk, s2 = { s with heap := h', toks := tk } ∧ J its.size h' ∧ ∀ b o, s.heap.get? b = some o → h'.get? b = some o) E) F.called_set.init.plain F.entry_set_init (check_set_init_1 ty ?_)) fun r2 s2 hr2 => ?_
      · have lt : ∀ {b o}, s.heap.get? b = some o → b < s.heap.objs.size := fun e => Heap.lt_size e
        have nw : ∀ b, s.heap.objs.size ≤ b → s.heap.get? b = none := fun b hb => by
          cases z : s.heap.get? b with
          | none => rfl
          | some o => exact absurd (Nat.lt_of_lt_of_le (lt z) hb) (Nat.lt_irrefl _)
        have hh3 : A.in1.in1.in1.handled = none := by simp [hh]
        have z1 : (s.heap.push (bare w)).objs.size = s.heap.objs.size + 1 := Heap.size_push ..
        have ends : ∀ (s' : Shared), Moved [s.heap.objs.size, (s.heap.push (bare w)).objs.size] (fun a b => b = a) { s with heap := (s.heap.push (bare w)) } s' → J its.size s'.heap →
            ∃ h' tk, s' = { s with heap := h', toks := tk } ∧ J its.size h' ∧ ∀ b o, s.heap.get? b = some o → h'.get? b = some o := fun s' mv j => by
          obtain ⟨h', g', d', tk, os'⟩ := s'
          have e1 : g' = s.gens := mv.gens
          have e2 : d' = s.drawn := mv.drawn
          have e3 : os' = s.os := mv.os
          subst e1 e2 e3
          refine ⟨h', tk, rfl, j, fun b o e => mv.heap b o (fun hb => ?_) (Heap.get?_push_of_some _ e)⟩
          have hb2 := lt e
          simp only [List.mem_cons, List.not_mem_nil, or_false] at hb
          rcases hb with z | z
          · rw [z] at hb2
            exact Nat.lt_irrefl _ hb2
          · rw [z, z1] at hb2
            exact absurd hb2 (Nat.not_lt.mpr (Nat.le_succ _))
        rcases hl with hl | hl
        · obtain ⟨⟨ocls, odict, odata, oslots⟩, hol, hcl, nl, hdl⟩ := hl
          simp only at hcl hdl
          subst hcl hdl
          have hol' := Heap.get?_push_of_some (bare w) hol
          have hl1 : (s.heap.push (bare w)).IsList l its := ⟨_, hol', rfl, nl, rfl⟩
          have h6 := F.sub_list_set
          have h7 := F.sub_list_frozenset
          have h8 : (Value.type "list" == Value.type "dict") = false := by decide
          unfold Builtin.«set.__init__» noKeywords Builtin.Frozenset.updateFrom
          generalize hPI : pyIter = PI
          wp_walk
          subst hPI
          refine wpAny_pyIter_list hl1 (wpAny_bind (wpAny_runValue ?_))
          have hls := lt hol
          refine fill ((Walks.list hh3 _ l (by rw [z1]; exact Nat.ne_of_lt (Nat.lt_succ_of_lt hls)) its).toS) Fi (by rw [z1]; simp only [List.mem_cons, List.not_mem_nil, or_false, not_or]; exact ⟨Nat.ne_of_lt (Nat.lt_succ_self _), (Nat.ne_of_lt hls).symm⟩) (fun b hb => nw b (by rw [List.mem_singleton.mp hb, z1]; exact Nat.le_succ _)) (its.size - 0) 0 _ (by omega) (Nat.zero_le _)
            ⟨⟨_, Heap.get?_push_size _ rfl, rfl, rfl⟩, hl1.push _⟩ (j0 _ (Heap.get?_push_of_some _ g0) fun b o e => Heap.get?_push_of_some _ (Heap.get?_push_of_some _ e)) fun s' mv j => ?_
          refine wpAny_pure ?_
          obtain ⟨h', tk, e1, e2, e3⟩ := ends s' ⟨fun b o hb e => mv.heap b o hb (Heap.get?_push_of_some _ e), mv.gens, mv.drawn, mv.os, mv.toks⟩ j
          exact wpAny_pure ⟨rfl, h', tk, e1, e2, e3⟩
        · obtain ⟨⟨ocls, odict, odata, oslots⟩, hol, hcl, nl, hdl⟩ := hl
          simp only at hcl hdl
          subst hcl hdl
          have hol' := Heap.get?_push_of_some (bare w) hol
          have hl1 : (s.heap.push (bare w)).IsTuple l its := ⟨_, hol', rfl, nl, rfl⟩
          have h6 := F.sub_tuple_set
          have h7 := F.sub_tuple_frozenset
          have h8 : (Value.type "tuple" == Value.type "dict") = false := by decide
          unfold Builtin.«set.__init__» noKeywords Builtin.Frozenset.updateFrom
          generalize hPI : pyIter = PI
          wp_walk
          subst hPI
          refine wpAny_pyIter_tuple hl1 (wpAny_bind (wpAny_runValue ?_))
          have hls := lt hol
          refine fill ((Walks.tuple hh3 _ l (by rw [z1]; exact Nat.ne_of_lt (Nat.lt_succ_of_lt hls)) its).toS) Fi (by rw [z1]; simp only [List.mem_cons, List.not_mem_nil, or_false, not_or]; exact ⟨Nat.ne_of_lt (Nat.lt_succ_self _), (Nat.ne_of_lt hls).symm⟩) (fun b hb => nw b (by rw [List.mem_singleton.mp hb, z1]; exact Nat.le_succ _)) (its.size - 0) 0 _ (by omega) (Nat.zero_le _)
            ⟨⟨_, Heap.get?_push_size _ rfl, rfl, rfl⟩, hl1.push _⟩ (j0 _ (Heap.get?_push_of_some _ g0) fun b o e => Heap.get?_push_of_some _ (Heap.get?_push_of_some _ e)) fun s' mv j => ?_
          refine wpAny_pure ?_
          obtain ⟨h', tk, e1, e2, e3⟩ := ends s' ⟨fun b o hb e => mv.heap b o hb (Heap.get?_push_of_some _ e), mv.gens, mv.drawn, mv.os, mv.toks⟩ j
          exact wpAny_pure ⟨rfl, h', tk, e1, e2, e3⟩
      · cases r2 with
        | error e => exact hr2
        | ok fl2 =>
          cases fl2 with
          | ret r =>
            obtain ⟨rfl, h', tk, rfl, j, kp⟩ := hr2
            repeat (any_goals (first | assumption | wp_step))
            exact q _ _ j kp
          | _ => exact hr2.elim
    | _ => exact hr.elim
end
end SG
namespace SG
open PySem PySem.Spec PyProof.Rows L2
/-! ### how many different ones -/
section
variable {α : Type} [DecidableEq α]
theorem sub_len : ∀ {l r : List α}, l.Nodup → (∀ x ∈ l, x ∈ r) → l.length ≤ r.length
  | [], _, _, _ => Nat.zero_le _
  | x :: l, r, nd, h => by
    have h1 := List.nodup_cons.mp nd
    have hx := h x List.mem_cons_self
    have h2 : ∀ y ∈ l, y ∈ r.erase x := fun y hy => (List.mem_erase_of_ne (a := y) (b := x) fun e => h1.1 (by rw [← e]; exact hy)).mpr (h y (List.mem_cons_of_mem _ hy))
    have h3 := sub_len h1.2 h2
    rw [List.length_erase_of_mem hx] at h3
    have h4 : 0 < r.length := List.length_pos_of_mem hx
    rw [List.length_cons]
    omega
theorem less : ∀ {r : List α}, ¬ r.Nodup → ∃ l : List α, l.length < r.length ∧ ∀ x ∈ r, x ∈ l
  | [], h => absurd List.nodup_nil h
  | x :: r, h => by
    by_cases hx : x ∈ r
    · refine ⟨r, by simp, fun y hy => ?_⟩
      rcases List.mem_cons.mp hy with e | e
      · rw [e]
        exact hx
      · exact e
    · obtain ⟨l, h1, h2⟩ := less fun nd => h (List.nodup_cons.mpr ⟨hx, nd⟩)
      refine ⟨x :: l, by simpa using h1, fun y hy => ?_⟩
      rcases List.mem_cons.mp hy with e | e
      · rw [e]
        exact List.mem_cons_self
      · exact List.mem_cons_of_mem _ (h2 y e)
theorem as_many {l r : List α} (nd : l.Nodup) (h1 : ∀ x ∈ l, x ∈ r) (h2 : ∀ x ∈ r, x ∈ l) : l.length ≤ r.length ∧ (l.length = r.length ↔ r.Nodup) := by
  refine ⟨sub_len nd h1, fun e => ?_, fun nr => Nat.le_antisymm (sub_len nd h1) (sub_len nr h2)⟩
  rcases Classical.em r.Nodup with z | z
  · exact z
  · obtain ⟨l', q1, q2⟩ := less z
    have := sub_len nd fun x hx => q2 x (h1 x hx)
    omega
theorem take_one {l : List α} {i : Nat} {x : α} (h : l[i]? = some x) : l.take (i + 1) = l.take i ++ [x] := by
  rw [List.take_succ, h]
  rfl
end
section
variable {P : Program} {w : World} {A : Around} {E : Value → Shared → Prop} {s : Shared}
/-! ### tuples of texts and ints -/
theorem fills_tup {ks : List (Mem Key)} {its : Array Value} (e : its.toList = ks.map fun m => Value.ref m.1) (hk : ∀ m ∈ ks, IsTupleKey (mixKind P w) s.heap m.2 m.1) (few : ks.length < 64) (hu : A.units < cLine) :
    Fills P w A s.heap.objs.size s.heap its.size (fun i v => its[i]? = some v) fun i h => (∀ b o, s.heap.get? b = some o → h.get? b = some o) ∧
      ∃ M es ep t, TSet (mixKind P w) h s.heap.objs.size M es ep t ∧ (∀ m ∈ M, m ∈ ks.take i) ∧ (∀ m ∈ ks.take i, m.2 ∈ M.map (·.2)) ∧ M.length ≤ i := by
  have nw : s.heap.get? s.heap.objs.size = none := by
    cases z : s.heap.get? s.heap.objs.size with
    | none => rfl
    | some o => exact absurd (Heap.lt_size z) (Nat.lt_irrefl _)
  have up : ∀ {h : Heap} {m : Mem Key}, (∀ b o, s.heap.get? b = some o → h.get? b = some o) → m ∈ ks → IsTupleKey (mixKind P w) h m.2 m.1 := fun {h m} k hm => by
    obtain ⟨o, items, n, g, r⟩ := hk m hm
    exact ⟨o, items, n, k _ _ g, r⟩
  constructor
  · rintro i h h' ⟨k0, M, es, ep, t, S, m1, m2, m3⟩ kp
    have k1 : ∀ b o, s.heap.get? b = some o → h'.get? b = some o := fun b o q => kp b o (.inr ⟨o, q⟩) (k0 b o q)
    obtain ⟨o, g1, g2⟩ := S.obj
    exact ⟨k1, M, es, ep, t, ⟨⟨o, kp _ _ (.inl rfl) g1, g2⟩, S.ent, S.tok, S.uni, fun m hm => up k1 (List.mem_of_mem_take (m1 m hm)), S.led, S.rom, S.few⟩, m1, m2, m3⟩
  · rintro i v s' Q E' lt pv ⟨k0, M, es, ep, t, S, m1, m2, m3⟩ q
    have z : its.toList[i]? = some v := by
      rw [Array.getElem?_toList]
      exact pv
    rw [e, List.getElem?_map] at z
    obtain ⟨m, hm, rfl⟩ : ∃ m, ks[i]? = some m ∧ v = .ref m.1 := by
      cases y : ks[i]? with
      | none =>
        rw [y] at z
        cases z
      | some m =>
        rw [y] at z
        exact ⟨m, rfl, (Option.some.inj z).symm⟩
    have mm := List.mem_of_getElem? hm
    have il : i < ks.length := (List.getElem?_eq_some_iff.mp hm).1
    have hx := up k0 mm
    unfold setAdd
    refine wpAny_holding (wpAny_bind (wpAny_pyHash_tuple hu hx ?_))
    refine more (s := { s' with toks := s'.toks + (m.2.length + 1) }) tame_mix S hx hu (by omega) fun b h' M' es' ep' t' sb S' c1 c2 => ?_
    refine q h' _ (Nat.le_add_right _ _) sb ⟨fun b o g => (sb.2 b fun y => by rw [y, nw] at g; cases g).trans (k0 b o g), M', es', ep', t', S', ?_⟩
    rw [take_one hm]
    by_cases hin : m.2 ∈ M.map (·.2)
    · rw [c1 hin]
      refine ⟨fun n hn => List.mem_append_left _ (m1 n hn), fun n hn => ?_, by omega⟩
      rcases List.mem_append.mp hn with y | y
      · exact m2 n y
      · rw [List.mem_singleton.mp y]
        exact hin
    · have pm := c2 hin
      refine ⟨fun n hn => ?_, fun n hn => ?_, by rw [pm.length_eq, List.length_cons]; omega⟩
      · rcases List.mem_cons.mp (pm.mem_iff.mp hn) with y | y
        · rw [y]
          exact List.mem_append_right _ (List.mem_singleton.mpr rfl)
        · exact List.mem_append_left _ (m1 n y)
      · rw [(pm.map (·.2)).mem_iff, List.map_cons]
        rcases List.mem_append.mp hn with y | y
        · exact List.mem_cons_of_mem _ (m2 n y)
        · rw [List.mem_singleton.mp y]
          exact List.mem_cons_self
theorem fresh_tup {h : Heap} {a : Addr} (g : h.get? a = some (bare w)) : TSet (mixKind P w) h a [] #[] 0 (.fresh 0 0 (!w.params.followText "set-order")) where
  obj := ⟨_, g, ⟨rfl, rfl, rfl⟩, rfl⟩
  ent := rfl
  tok := ⟨List.Pairwise.nil, rfl, rfl, .inl rfl, (fun x hx => nomatch hx), (fun i h j hi => by simp at hi)⟩
  uni := List.nodup_nil
  mem := fun m hm => nomatch hm
  led := by
    show _ ∨ (!w.params.followText "set-order") = true
    cases w.params.followText "set-order"
    · exact .inr rfl
    · exact .inl rfl
  rom := by
    show 0 * 5 < 7 * 3
    decide
  few := by
    show 0 < 64
    decide
/-! ### texts -/
theorem fills_str {xs : List Str} {its : Array Value} (e : ∀ (i : Nat) v, its[i]? = some v → ∃ x t, xs[i]? = some x ∧ v = Value.str x t) (few : xs.length < 64) :
    Fills P w A s.heap.objs.size s.heap its.size (fun i v => its[i]? = some v) fun i h => (∀ b o, s.heap.get? b = some o → h.get? b = some o) ∧
      ∃ (Sf : Str → Bool) (l : List Str), h.SetOf (PySem.strKind P w) s.heap.objs.size Sf l.length ∧ (∀ k, Sf k = true ↔ k ∈ xs.take i) ∧ l.Nodup ∧ (∀ k, k ∈ l ↔ k ∈ xs.take i) ∧ l.length ≤ i := by
  have nw : s.heap.get? s.heap.objs.size = none := by
    cases z : s.heap.get? s.heap.objs.size with
    | none => rfl
    | some o => exact absurd (Heap.lt_size z) (Nat.lt_irrefl _)
  constructor
  · rintro i h h' ⟨k0, Sf, l, ⟨o, es, ep, t, g, r⟩, m⟩ kp
    exact ⟨fun b o q => kp b o (.inr ⟨o, q⟩) (k0 b o q), Sf, l, ⟨o, es, ep, t, kp _ _ (.inl rfl) g, r⟩, m⟩
  · rintro i v s' Q E' lt pv ⟨k0, Sf, l, S, m1, m2, m3, m4⟩ q
    obtain ⟨x, t, hx, rfl⟩ := e i v pv
    have il : i < xs.length := (List.getElem?_eq_some_iff.mp hx).1
    unfold setAdd
    refine wpAny_holding (wpAny_bind ((PySem.strKind P w).pyHash (k := x) (strKind_is _ _ _ _) ?_))
    refine wpAny_setAddHashed_of (knd := PySem.strKind P w) (s := { s' with toks := s'.toks + 1 }) (strKind_is _ _ _ _) rfl S (by unfold scanBound; omega) fun h' sb S' => ?_
    refine q h' _ (Nat.le_add_right _ _) sb ⟨fun b o g => (sb.2 b fun y => by rw [y, nw] at g; cases g).trans (k0 b o g), ?_⟩
    rw [take_one hx]
    have mem : ∀ k, (Sf k || decide (k = x)) = true ↔ k ∈ xs.take i ++ [x] := fun k => by
      rw [Bool.or_eq_true, decide_eq_true_eq, m1, List.mem_append, List.mem_singleton]
    by_cases hin : Sf x = true
    · rw [hin, if_pos rfl] at S'
      refine ⟨_, l, S', mem, m2, fun k => ?_, by omega⟩
      rw [m3, List.mem_append, List.mem_singleton]
      exact ⟨.inl, fun y => y.elim id fun y => by rw [y]; exact (m1 x).mp hin⟩
    · rw [if_neg hin] at S'
      have hn : x ∉ l := fun y => hin ((m1 x).mpr ((m3 x).mp y))
      refine ⟨_, x :: l, S', mem, List.nodup_cons.mpr ⟨hn, m2⟩, fun k => ?_, by rw [List.length_cons]; omega⟩
      rw [List.mem_cons, m3, List.mem_append, List.mem_singleton]
      exact ⟨fun y => y.elim .inr .inl, fun y => y.elim .inr .inl⟩
end
/-! ### len(set(e)) -/
section
variable {X : Cx}
def tLenSetD (K : PySem.W.Frag) (ta : TE) : TE := fun σ H Q => ta σ H fun x H1 => ∃ l : Addr, x = .ref l ∧
  ((∃ xs : List Str, (SqL K H1 l (xs.map V.str) ∨ SqT K H1 l (xs.map V.str)) ∧ xs.length < 64 ∧ ∀ n : Nat, n ≤ xs.length → (n = xs.length ↔ xs.Nodup) → Q (.int n) H1) ∨
  ∃ ks : List (Mem Key), (SqL K H1 l (ks.map fun m => V.ref m.1) ∨ SqT K H1 l (ks.map fun m => V.ref m.1)) ∧ (∀ m ∈ ks, SqT K H1 m.1 (m.2.map kV)) ∧ ks.length < 64 ∧
    ∀ n : Nat, n ≤ ks.length → (n = ks.length ↔ (ks.map (·.2)).Nodup) → Q (.int n) H1)
theorem its_keys {P : Program} {w : World} : ∀ {k : List Key} {us : List Value}, Vals (k.map kV) us → ItemsAre (mixKind P w) k us
  | [], _, .nil => .nil
  | .inl i :: ks, _, .cons r t => by
    obtain ⟨tk, rfl⟩ := r
    exact .cons (mixKind_int P w i tk) (its_keys t)
  | .inr x :: ks, _, .cons r t => by
    obtain ⟨tk, rfl⟩ := r
    exact .cons (mixKind_str P w x tk) (its_keys t)
theorem its_refs : ∀ {ks : List (Mem Key)} {us : List Value}, Vals (ks.map fun m => V.ref m.1) us → us = ks.map fun m => Value.ref m.1
  | [], _, .nil => rfl
  | m :: ks, _, .cons r t => by
    cases r
    rw [its_refs t]
    rfl
theorem its_strs {xs : List Str} {us : List Value} (r : Vals (xs.map V.str) us) (i : Nat) (v : Value) (h : us[i]? = some v) : ∃ x t, xs[i]? = some x ∧ v = Value.str x t := by
  induction xs generalizing us i with
  | nil =>
    cases r
    simp at h
  | cons y ys ih =>
    cases r with
    | cons r t =>
      obtain ⟨tk, rfl⟩ := r
      cases i with
      | zero =>
        simp at h
        exact ⟨y, tk, rfl, h.symm⟩
      | succ i => exact ih t i (by simpa using h)
theorem pe_lenSetD {a : Expr} {ta : TE} {p p2 q pos : Pos} (hc : X.calm = true) (hu : X.A.units + 3 < cLine) (hg : Gl X "len") (hm : X.mg "len" = none) (hg2 : Gl X "set") (hm2 : X.mg "set" = none) (ha : PE X a ta)
    (na : starEach [a] X.env = (false, eval a X.env) :: starEach [] X.env := by rfl) : PE X (.Call (.Name "len" p) [.Call (.Name "set" p2) [a] [] q] [] pos) (tLenSetD X.K ta) := by
  refine ⟨fun pins s σ H Q I h => ?_⟩
  refine Call_ (ld_blt I hg hm boot_len ?_)
  refine PyProof.Rows.callWith_builtin1 (PyProof.Rows.args_cons ?_ rfl) rfl rfl
  refine Call_ (ld_blt I hg2 hm2 boot_set ?_)
  refine PyProof.Rows.callWith_type1 (PyProof.Rows.args_cons (thn (ha.run pins s σ H _ I h) fun v s1 ⟨x, H1, I1, r1, q1⟩ => PyProof.Rows.args_nil ?_) na) na rfl
  obtain ⟨l, rfl, q1⟩ := q1
  cases r1
  have seq : ∀ {vs : List V}, (SqL X.K H1 l vs ∨ SqT X.K H1 l vs) → ∃ its : Array Value, Vals vs its.toList ∧ (s1.heap.IsList l its ∨ s1.heap.IsTuple l its) := fun {vs} hq => by
    rcases hq with hq | hq
    · obtain ⟨its, r, pl, _⟩ := I1.list hq
      exact ⟨its.toArray, by simpa using r, .inl pl.isList⟩
    · obtain ⟨its, r, pl, _⟩ := I1.tuple hq
      exact ⟨its.toArray, by simpa using r, .inr pl⟩
  have fin : ∀ (h' : Heap) (tk : Nat) (o : Obj) (es : Array (Int × Value)) (ep : Nat) (t : SetTable), h'.get? s1.heap.objs.size = some o → o.ExactSet → o.data = .set es ep t → t.fits es.size = true → (es.size : Int) < 2 ^ 63 →
      (∀ b o, s1.heap.get? b = some o → h'.get? b = some o) → Q (.int es.size) H1 →
      wpAny (model X.prog X.w) X.A (spliced (backTo pos (starEach [] X.env))) (fun vs s2 => wpAny (model X.prog X.w) X.A (call (.builtin "len") (Value.ref s1.heap.objs.size :: vs)) (EP X pins σ Q) X.xe s2) X.xe { s1 with heap := h', toks := tk } := fun h' tk o es ep t g1 g2 g3 g4 g5 kp qq => by
    have I2 : Inv X pins σ H1 { s1 with heap := h', toks := tk } := I1.kept fun b o e => kp b o e
    exact PyProof.Rows.args_nil (call_len_set g1 g2 g3 g4 g5 ⟨.int es.size, H1, I2.tok _, ⟨_, rfl⟩, qq⟩)
  rcases q1 with ⟨xs, hq, few, q1⟩ | ⟨ks, hq, hk, few, q1⟩
  · obtain ⟨its, r, hl⟩ := seq hq
    refine make (I1.ok.hd hc) hl (fills_str (xs := xs) (fun i v hv => its_strs r i v (by rw [Array.getElem?_toList]; exact hv)) few)
      (fun h g kp => ⟨kp, fun _ => false, [], ?_, fun k => by simp, List.nodup_nil, fun k => by simp, Nat.le_refl _⟩) fun h' tk ⟨_, Sf, ls, S, _, m2, m3, m4⟩ kp => ?_
    · exact SetOf_congr ((setObjOf_fresh (knd := PySem.strKind X.prog X.w) (!X.w.params.followText "set-order")).setOf g (by unfold scanBound; omega)) (fun _ => rfl) rfl
    · have n : its.size = xs.length := by
        have z := r.length
        rw [List.length_map, Array.length_toList] at z
        exact z.symm
      rw [n, List.take_length] at m3
      obtain ⟨a1, a2⟩ := as_many m2 (fun x hx => (m3 x).mp hx) fun x hx => (m3 x).mpr hx
      obtain ⟨o, es, ep, t, g1, g2, g3, _, _, _, g4, g5⟩ := S
      refine fin h' tk o es ep t g1 g2 g3 g4 (by rw [g5]; omega) kp ?_
      rw [g5]
      exact q1 _ a1 a2
  · obtain ⟨its, r, hl⟩ := seq hq
    have hx : ∀ m ∈ ks, IsTupleKey (mixKind X.prog X.w) s1.heap m.2 m.1 := fun m hm => by
      obtain ⟨us, ru, ⟨o, g1, g2, n, g3⟩, _⟩ := I1.tuple (hk m hm)
      exact ⟨o, _, n, g1, g2, g3, by simpa using its_keys ru⟩
    refine make (I1.ok.hd hc) hl (fills_tup (its_refs r) hx few hu) (fun h g kp => ⟨kp, [], #[], 0, _, fresh_tup g, (fun m hm => nomatch hm), (fun m hm => by simp at hm), Nat.le_refl _⟩) fun h' tk ⟨_, M, es, ep, t, S, m1, m2, m3⟩ kp => ?_
    have n : its.size = ks.length := by
      have z := r.length
      rw [List.length_map, Array.length_toList] at z
      exact z.symm
    rw [n, List.take_length] at m1 m2
    have zz : (M.map (·.2)).length ≤ (ks.map (·.2)).length ∧ ((M.map (·.2)).length = (ks.map (·.2)).length ↔ (ks.map (·.2)).Nodup) := as_many S.uni (fun x hx2 => by
        obtain ⟨m, hm, rfl⟩ := List.mem_map.mp hx2
        exact List.mem_map.mpr ⟨m, m1 m hm, rfl⟩) fun x hx2 => by
        obtain ⟨m, hm, rfl⟩ := List.mem_map.mp hx2
        exact m2 m hm
    rw [List.length_map, List.length_map] at zz
    obtain ⟨o, g1, g2, g3⟩ := S.obj
    have sz := ents_len S.ent
    refine fin h' tk o es ep t g1 g2 g3 (fits_of S.tok sz (by have := S.rom; omega)) (by rw [sz]; have := S.few; omega) kp ?_
    rw [sz]
    exact q1 _ zz.1 zz.2
end
end SG
namespace CC
open PySem L2 TL
/-! ### lines by their rules: the dict -/
def prs (rs : List R) (us : List V) : List (Key × V) := List.zipWith (fun (r : R) (v : V) => ((Sum.inr (lineS r) : Key), v)) rs us
theorem prs_get {K : PySem.W.Frag} {H : Hp} : ∀ {rs : List R} {us : List V}, (∀ r ∈ rs, r.ok 6) → DpAll K H us (rs.map R.d) → ∀ {r : R}, r ∈ rs → ∃ v, valV (prs rs us) (Sum.inr (lineS r)) = some v ∧ Dp K H v r.d
  | [], _, _, _, _, h => nomatch h
  | s :: rs, _, ho, .cons (v := v) (vs := vs) h1 h2, r, hr => by
    by_cases e : s = r
    · subst e
      exact ⟨v, valV_pos rfl, h1⟩
    · have ne : ¬ (Sum.inr (lineS s) : Key) = Sum.inr (lineS r) := fun z => e (line_inj (ho s List.mem_cons_self) (ho r hr) (Sum.inr.inj z))
      have hr' : r ∈ rs := by
        rcases List.mem_cons.mp hr with z | z
        · exact absurd z.symm e
        · exact z
      obtain ⟨u, u1, u2⟩ := prs_get (fun x hx => ho x (List.mem_cons_of_mem _ hx)) h2 hr'
      exact ⟨u, (valV_neg (p := (Sum.inr (lineS s), v)) ne).trans u1, u2⟩
theorem val_none {kvs : List (Key × V)} {k : Key} (h : ∀ p ∈ kvs, p.1 ≠ k) : valV kvs k = none := by
  induction kvs with
  | nil => rfl
  | cons p r ih => rw [valV_neg (h p List.mem_cons_self)]; exact ih fun q hq => h q (List.mem_cons_of_mem _ hq)
theorem prs_len {rs : List R} {us : List V} (h : us.length = rs.length) : (prs rs us).length = rs.length := by
  rw [prs, List.length_zipWith, h, Nat.min_self]
theorem prs_step {rs : List R} {us : List V} {i : Nat} {r : R} {v : V} (hr : rs[i]? = some r) (hv : us[i]? = some v) : (prs rs us).take (i + 1) = (prs rs us).take i ++ [(Sum.inr (lineS r), v)] := by
  rw [List.take_succ]
  have : (prs rs us)[i]? = some (Sum.inr (lineS r), v) := by
    rw [prs, List.getElem?_zipWith, hr, hv]
  rw [this]
  rfl
theorem prs_new {rs : List R} {us : List V} {i : Nat} {r : R} (ho : ∀ r ∈ rs, r.ok 6) (nd : rs.Nodup) (hr : rs[i]? = some r) : valV ((prs rs us).take i) (Sum.inr (lineS r)) = none := by
  refine val_none fun p hp e => ?_
  obtain ⟨j, hj⟩ := List.mem_iff_getElem?.mp hp
  have hji : j < i := by
    have := (List.getElem?_eq_some_iff.mp hj).1
    rw [List.length_take] at this
    omega
  rw [List.getElem?_take_of_lt hji, prs, List.getElem?_zipWith] at hj
  cases hs : rs[j]? with
  | none => rw [hs] at hj; cases us[j]? <;> cases hj
  | some s =>
    cases hu : us[j]? with
    | none => rw [hs, hu] at hj; cases hj
    | some u =>
      rw [hs, hu] at hj
      cases hj
      have e2 := line_inj (ho s (List.mem_of_getElem? hs)) (ho r (List.mem_of_getElem? hr)) (Sum.inr.inj e)
      subst e2
      exact absurd (nd_ix nd hs hr) (by omega)
theorem cut_last (xs : List V) (x : V) : cutV (xs ++ [x]) none (some (-1)) = xs := by
  unfold cutV
  have e : HT.sIx (xs ++ [x]).length (xs ++ [x]).length (some (-1)) = xs.length := by
    have := HT.clip_eq (-1) (xs ++ [x]).length (xs ++ [x]).length
    rw [if_pos (by decide)] at this
    have hl : (xs ++ [x]).length = xs.length + 1 := by simp
    omega
  rw [HT.sIx_none, e]
  simp
/-- a dict comprehension over a list -/
theorem dc_list {K : PySem.W.Frag} {a : Addr} {xs : List V} {g : TG} {tt : TT} {tk tv : TE} {vs : List Nat} {σ : L2.St} {H1 : Hp} {D : Addr} {N : Hp → Prop} (Pv : Nat → Hp → Prop) (h0 : Pv 0 (upd H1 D (.dK []))) (hl : ∀ i H, i ≤ xs.length → Pv i H → SqL K H a xs)
    (hs : ∀ i x H, xs[i]? = some x → Pv i H → g x (wipe σ vs) H fun τ H2 => wipe τ vs = wipe σ vs ∧ tt τ H2 fun b H3 => if b = true then tk τ H3 fun y H4 => tv τ H4 fun z H5 => ∃ kvs k, y = kV k ∧ H5 D = some (.dK kvs) ∧ kvs.length < sizeLine ∧ Pv (i + 1) (upd H5 D (.dK (putK kvs k z))) else Pv (i + 1) H3)
    (hd : ∀ H, Pv xs.length H → N H) :
    ∃ W : Nat → Nat → Hp → Prop, (∃ m, W 0 m (upd H1 D (.dK []))) ∧ ∀ i m H, W i m H → ((Itl K a).stop i H ∧ N H) ∨ ((Itl K a).go i H ∧ ∃ Nx : Hp → Prop, (∀ H', Nx H' → ∃ m', m' < m ∧ W (i + 1) m' H') ∧ ∀ x H', (Itl K a).yld i H x H' →
      g x (wipe σ vs) H' fun τ H2 => wipe τ vs = wipe σ vs ∧ tt τ H2 fun b H3 => if b = true then tk τ H3 fun y H4 => tv τ H4 fun z H5 => ∃ kvs k, y = kV k ∧ H5 D = some (.dK kvs) ∧ kvs.length < sizeLine ∧ Nx (upd H5 D (.dK (putK kvs k z))) else Nx H3) := by
  refine ⟨fun i m H => m = xs.length - i ∧ i ≤ xs.length ∧ Pv i H, ⟨xs.length, by simp, Nat.zero_le _, h0⟩, ?_⟩
  rintro i m H ⟨rfl, hi, p⟩
  have q := hl i H hi p
  by_cases lt : i < xs.length
  · refine .inr ⟨⟨xs, xs[i], q, by simp [lt]⟩, Pv (i + 1), fun H' p' => ⟨xs.length - (i + 1), by omega, rfl, lt, p'⟩, fun x H' y => ?_⟩
    obtain ⟨e, y⟩ := y
    subst e
    exact hs i x _ (y xs q) p
  · have e : i = xs.length := by omega
    subst e
    exact .inl ⟨⟨xs, q, Nat.le_refl _⟩, hd H p⟩
def spRulesOf (K : PySem.W.Frag) : Sp := fun vs H Q _ => ∃ (w : Nat) (rs : List R), vs = [.int (w : Int), .str (textS rs)] ∧ w ≤ 6 ∧ (∀ r ∈ rs, r.ok w) ∧ rs.Nodup ∧
  ∀ (p : Addr) (us : List V) (H' : Hp), Same H H' → H p = none → H' p = some (.lst us) → DpAll K (wo H' p) us (rs.map R.d) → Q (.ref p) H'
theorem few_rules {w : Nat} {rs : List R} (hw : w ≤ 6) (ho : ∀ r ∈ rs, r.ok w) (nd : rs.Nodup) : rs.length ≤ 60 := by
  have h := SG.sub_len nd fun r hr => mem_allR.mpr ((ho r hr).up hw)
  have e : (allR 6).length = 60 := by decide +kernel
  omega
section
variable {P : Program} {w : World} {K : PySem.W.Frag} {mg : Str → Option Value} {base : Heap} {kA : Addr}
abbrev nRO : List Str := ["width", "text", "known", "parts", "lines", "rule", "line"]
theorem scRulesOf : FnScope nRO ["width", "text"] (defScope sRulesOf) := ⟨rfl, rfl, rfl, by decide +kernel, rfl, by decide +kernel, by decide +kernel⟩
theorem ok_rulesof {f : Addr} {fd : FuncData} {k : Nat} (F : Fun K "rules_of" "rules_of" sRulesOf f fd) (T : Glb K mg kA) (cE : Cal P w K mg base "every_rule" ["width"] (spEvery K) 1)
 (cL : Cal P w K mg base "line_of" ["rule"] (spLine K) 1) : FnOk P w K mg base CX0 (k + 2) f fd ["width", "text"] (spRulesOf K) := by
  have GE := cE.ok (k + 1) (by omega)
  have GL := cL.ok (k + 1) (by omega)
  refine F.ok scRulesOf (fun vs H Q E h => ?_) (fun cdv A outer s H vs Q E hr h => ?_)
  · obtain ⟨w, rs, rfl, _⟩ := h
    rfl
  · obtain ⟨w, rs, rfl, hw, ho, nd, q⟩ := h
    have hu := hu_of hr
    have hu3 := Nat.lt_of_le_of_lt (Nat.add_le_add_left (by decide : 3 ≤ 64) _) hr.units
    have n := scRulesOf.nd
    have ho6 : ∀ r ∈ rs, r.ok 6 := fun r h => (ho r h).up hw
    refine ⟨_, pss_cons (ps_set (i := 2) n rfl (.inr rfl) (pe_dc (own := [("rule", 5)]) (g := gName 5) (tt := tYes) rfl n (pi_list (pe_call GE hr rfl cE.g cE.kp cE.b .nil pass0 (pa_cons (pv 0) pa_nil))) (blkOk_by (N := nRO) (sc := defScope sRulesOf) (by decide +kernel))
          (fun _ _ _ _ _ => pg_name (i := 5) n rfl (.inl rfl)) (fun _ _ _ _ _ => pts_nil) (fun _ _ _ _ _ => pe_call GL hr rfl cL.g cL.kp cL.b .nil pass0 (pa_cons (pv 5) pa_nil)) (fun _ _ _ _ _ => pv 5)))
      (pss_cons (ps_set (i := 3) n rfl (.inl rfl) (pe_split (pv 1) pe_str))
      (pss_cons (ps_set (i := 4) n rfl (.inl rfl) (pe_slice sl_list (pv 3) po_none (po_some (pe_un un_neg pe_int))))
      (pss_cons (ps_if (PW.pt (pw_or (pt_cmpR op_ne (pe_ix ix_list (pv 3) (pe_un un_neg pe_int) (fun _ _ => rfl)) pe_str (nomark _))
          (pw_or1 (pt_cmpR op_ne (SG.pe_lenSetD rfl hu3 (by rfl) T.len (by rfl) T.set (pv 4)) (pe_callB call_len_seq (by rfl) T.len PySem.boot_len (pa_cons (pv 4) pa_nil)) (nomark _))))) (pss_one (ps_ret pe_non)) pss_nil)
      (pss_cons (ps_if (pt_not (pt_val (pe_callB (cr_all rfl) (by rfl) T.all (by decide +kernel) (pa_cons (pe_lc (own := [("line", 6)]) (g := gName 6) (tt := tYes) rfl n (pi_list (pv 4)) (blkOk_by (N := nRO) (sc := defScope sRulesOf) (by decide +kernel))
          (fun _ _ _ _ _ => pg_name (i := 6) n rfl (.inl rfl)) (fun _ _ _ _ _ => pts_nil) (fun _ _ _ _ _ => pe_cmp (pc_din hu (pv 6) (pv 2)) rfl)) pa_nil)))) (pss_one (ps_ret pe_non)) pss_nil)
      (pss_one (ps_ret (pe_lc (own := [("line", 6)]) (g := gName 6) (tt := tYes) rfl n (pi_list (pv 4)) (blkOk_by (N := nRO) (sc := defScope sRulesOf) (by decide +kernel))
          (fun _ _ _ _ _ => pg_name (i := 6) n rfl (.inl rfl)) (fun _ _ _ _ _ => pts_nil) (fun _ _ _ _ _ => pe_dget hu (pv 2) (pv 6) (fun _ _ => rfl))))))))), ?_⟩
    refine ⟨_, rfl, w, rfl, hw, fun p us H1 s1 np hp dp => ⟨p, rfl, ⟨_, SqL.of hp⟩, fun D nD => ?_⟩⟩
    have dp1 : DpAll K H1 us ((allR w).map R.d) := dps_same (wo_le p) _ _ dp
    have ulen : us.length = (allR w).length := by rw [dps_len dp1, List.length_map]
    have oka : ∀ r ∈ allR w, r.ok 6 := fun r h => (mem_allR.mp h).up hw
    have nda := allR_nodup hw
    have few : (allR w).length ≤ 60 := few_rules hw (fun r h => mem_allR.mp h) nda
    have pD : p ≠ D := ne_of_none hp nD
    refine dc_list (xs := us) (fun i H => Same H1 (wo H D) ∧ H D = some (.dK ((prs (allR w) us).take i))) ⟨?_, upd_same⟩ (fun i H _ z => SqL.of (wo_le D _ _ (z.1 _ _ hp))) ?_ ?_
    · rw [wo_upd]
      exact fun b o e => by rw [wo_ne (ne_of_none e nD)]; exact e
    · rintro i v H2 hv ⟨e1, e2⟩
      obtain ⟨r, hr2, dr⟩ := dps_rat dp1 hv
      refine ⟨rfl, yes_if ?_⟩
      refine ⟨_, rfl, v, r, rfl, dp_same (e1.trans (wo_le D)) _ _ dr, oka r (List.mem_of_getElem? hr2), _, rfl, _, Sum.inr (lineS r), rfl, e2, ?_, ?_, ?_⟩
      · rw [List.length_take]
        exact Nat.lt_of_le_of_lt (Nat.min_le_right _ _) (by rw [prs_len ulen]; exact small1000 (by omega))
      · rw [wo_upd]
        exact e1
      · rw [upd_same, putK_new _ (prs_new oka nda hr2), prs_step hr2 hv]
    rintro H2 ⟨e1, e2⟩
    rw [List.take_of_length_le (by rw [prs_len ulen, ulen]; exact Nat.le_refl _)] at e2
    have dp2 : DpAll K (wo H2 D) us ((allR w).map R.d) := dps_same e1 _ _ dp1
    -- parts
    have tlen := text_len ho6
    have rlen := few_rules hw ho nd
    refine ⟨_, rfl, ⟨_, rfl⟩, _, _, rfl, rfl, by decide +kernel, Nat.le_trans (show (textS rs).length + 2 ≤ 100000 by omega) (by decide), fun p3 n3 => ?_⟩
    rw [split_text ho6, List.map_append]
    have m3 : Same H2 (upd H2 p3 (.lst ((rs.map lineS).map V.str ++ [Str.empty].map V.str))) := same_new n3
    have h3 : (upd H2 p3 (.lst ((rs.map lineS).map V.str ++ [Str.empty].map V.str))) p3 = some (.lst ((rs.map lineS).map V.str ++ [V.str Str.empty])) := upd_same
    generalize upd H2 p3 (.lst ((rs.map lineS).map V.str ++ [Str.empty].map V.str)) = H3 at m3 h3
    -- lines
    refine ⟨_, rfl, _, rfl, _, rfl, p3, _, rfl, SqL.of h3, fun p4 n4 => ?_⟩
    have e4 : cutV ((rs.map lineS).map V.str ++ [V.str Str.empty]) none (some (-1)) = (rs.map lineS).map V.str := cut_last _ _
    rw [e4]
    have m4 : Same H3 (upd H3 p4 (.lst ((rs.map lineS).map V.str))) := same_new n4
    have h4 : (upd H3 p4 (.lst ((rs.map lineS).map V.str))) p4 = some (.lst ((rs.map lineS).map V.str)) := upd_same
    generalize upd H3 p4 (.lst ((rs.map lineS).map V.str)) = H4 at m4 h4
    have h34 := m4 _ _ h3
    have nodl : (rs.map lineS).Nodup := by
      refine List.Pairwise.map _ ?_ ((List.pairwise_iff_forall_sublist.mpr ?_ : rs.Pairwise fun a b => lineS a ≠ lineS b))
      · exact fun a b h => h
      · intro a b hab e
        have ha : a ∈ rs := hab.subset (by simp)
        have hb : b ∈ rs := hab.subset (by simp)
        have e2 := line_inj (ho6 a ha) (ho6 b hb) e
        subst e2
        exact absurd (nd.sublist hab) (by simp)
    have ll : ((rs.map lineS).map V.str).length = rs.length := by rw [List.length_map, List.length_map]
    refine ⟨_, rfl, 1, rfl, p3, _, -1, _, rfl, rfl, SqL.of h34, atI_last _ _, rfl, _, rfl, ?_⟩
    refine iteF ⟨_, rfl, p4, rfl, .inl ⟨rs.map lineS, .inl (SqL.of h4), by rw [List.length_map]; omega, fun n n1 n2 => ?_⟩⟩
    have en : n = (rs.map lineS).length := n2.mpr nodl
    subst en
    refine ⟨_, rfl, p4, _, rfl, .inl (SqL.of h4), rfl, _, rfl, ?_⟩
    have e5 : (!decide (V.int (((rs.map lineS).length : Nat) : Int) = V.int ((((rs.map lineS).map V.str).length : Nat) : Int))) = false := by
      rw [ll, List.length_map]
      simp
    rw [e5]
    refine iteF ?_
    -- all([line in known for line in lines])
    have h24 : H4 D = some (.dK (prs (allR w) us)) := m4 _ _ (m3 _ _ e2)
    have m24 : Same H2 H4 := m3.trans m4
    refine ⟨_, rfl, p4, rfl, ⟨_, SqL.of h4⟩, fun D5 n5 => ?_⟩
    have at_ : ∀ {i : Nat} {x : V}, ((rs.map lineS).map V.str)[i]? = some x → ∃ r, rs[i]? = some r ∧ x = .str (lineS r) := fun {i x} h => by
      rw [List.getElem?_map, List.getElem?_map] at h
      cases z : rs[i]? with
      | none =>
        rw [z] at h
        cases h
      | some r =>
        rw [z] at h
        exact ⟨r, rfl, (Option.some.inj h).symm⟩
    refine lc_list (xs := (rs.map lineS).map V.str) (fun i H => Same H4 (wo H D5) ∧ H D5 = some (.lst ((List.replicate i true).map V.bl)) ∧ i ≤ 60) ⟨?_, upd_same, by omega⟩ (fun i H _ z => SqL.of (wo_le D5 _ _ (z.1 _ _ h4))) ?_ ?_
    · rw [wo_upd]
      exact fun b o e => by rw [wo_ne (ne_of_none e n5)]; exact e
    · rintro i x H5 hx ⟨f1, f2, f3⟩
      obtain ⟨r, hr2, rfl⟩ := at_ hx
      have il : i < rs.length := (List.getElem?_eq_some_iff.mp hr2).1
      obtain ⟨v, v1, _⟩ := prs_get oka dp2 (mem_allR.mpr (ho r (List.mem_of_getElem? hr2)))
      have h5 : H5 D = some (.dK (prs (allR w) us)) := wo_le D5 _ _ (f1 _ _ h24)
      refine ⟨rfl, yes_if ⟨_, rfl, _, rfl, D, _, rfl, DGet.k (k := Sum.inr (lineS r)) h5, _, f2, small1000 (by simp; omega), ?_, ?_, by omega⟩⟩
      · rw [wo_upd]
        exact f1
      · rw [upd_same, v1, List.replicate_succ', List.map_append]
        rfl
    rintro H5 ⟨f1, f2, _⟩
    rw [ll] at f2
    refine ⟨D5, List.replicate rs.length true, rfl, SqL.of f2, _, rfl, ?_⟩
    have e6 : (List.replicate rs.length true).all id = true := by
      rw [List.all_eq_true]
      intro b hb
      rw [List.eq_of_mem_replicate hb]
      rfl
    rw [e6]
    refine iteF ?_
    -- [known[line] for line in lines]
    have m5 : Same H4 H5 := f1.trans (wo_le D5)
    have h45 := m5 _ _ h4
    have h25 := m5 _ _ h24
    refine ⟨_, rfl, p4, rfl, ⟨_, SqL.of h45⟩, fun D6 n6 => ?_⟩
    refine lc_list (xs := (rs.map lineS).map V.str) (fun i H => MadeR K H5 D6 i H (rs.take i)) MadeR.start (fun i H _ z => SqL.of (z.old n6 _ _ h45)) ?_ ?_
    · rintro i x H6 hx p6
      obtain ⟨r, hr2, rfl⟩ := at_ hx
      have il : i < rs.length := (List.getElem?_eq_some_iff.mp hr2).1
      obtain ⟨v, v1, v2⟩ := prs_get oka dp2 (mem_allR.mpr (ho r (List.mem_of_getElem? hr2)))
      have h6 : H6 D = some (.dK (prs (allR w) us)) := p6.old n6 _ _ h25
      have g6 := DGet.k (k := Sum.inr (lineS r)) h6
      rw [v1] at g6
      refine ⟨rfl, yes_if ⟨_, rfl, _, rfl, D, v, rfl, g6, ?_⟩⟩
      rw [SG.take_one hr2]
      refine p6.push (by omega) (Nat.lt_succ_self _) (Same.refl _) (dp_same ?_ _ _ v2)
      have nD6 : wo H2 D D6 = none := by
        cases z : wo H2 D D6 with
        | none => rfl
        | some o => rw [m5 _ _ (m24 _ _ (wo_le D _ _ z))] at n6; cases n6
      exact fun b o e => by
        rw [wo_ne (ne_of_none e nD6)]
        exact p6.old n6 _ _ (m5 _ _ (m24 _ _ (wo_le D _ _ e)))
    · intro H6 p6
      rw [ll, List.take_length] at p6
      obtain ⟨us6, p7⟩ := id p6
      have sH : Same H H6 := s1.trans (e1.trans ((wo_le D).trans (m24.trans (m5.trans (p6.old n6)))))
      refine q D6 us6 H6 sH ?_ p7.lst p7.dat
      cases z : H D6 with
      | none => rfl
      | some o => rw [m5 _ _ (m24 _ _ (wo_le D _ _ (e1 _ _ (s1 _ _ z))))] at n6; cases n6
end
end CC
namespace CC
open PySem L2 TL
section
variable {X : Cx} {CX : CXT} {k i : Nat} {f C : Addr} {sp : Sp} {E : XK} {x : Str} {e : Expr} {es : List Expr} {t : TA} {p pos : Pos}
/-- c(e, *y), c a local that holds the class at C -/
theorem pe_makeLS (M : Mk X.K C f) (F : FnR X.prog X.w X.K X.mg X.base CX k f sp) (hr : Room (k + 1) X.A) (hN : X.N[i]? = some x) (hv : Vis X.env.scope x) (hx : Passes CX X E) (ha : PA X (e :: es) t) (hdb : (x == ("__debug__" : Str)) = false := by decide)
    (hcd : (x == ("__classdict__" : Str)) = false := by decide) (he : starEach (e :: es) X.env = (false, eval e X.env) :: starEach es X.env := by rfl) (hst : (backTo pos (starEach es X.env)).any (·.1) = true := by rfl) :
    PE X (.Call (.Name x p) (e :: es) [] pos) (fun σ H Q => σ[i]? = some (some (.ref C)) ∧ StX.tMakeR C sp E t σ H Q) := by
  refine ⟨fun pins s σ H Q I ⟨h1, h2⟩ => ?_⟩
  refine wpAny_Call_Name_kw (thn ((pe_var (pos := p) hN hv hdb hcd).run pins s σ H (fun v H1 => v = .ref C ∧ H1 = H) I ⟨.ref C, h1, rfl, rfl⟩) fun u s1 ⟨v, H1, I1, r1, q1⟩ => ?_)
  obtain ⟨rfl, rfl⟩ := q1
  cases r1
  refine PySem.W.callWith_S2 (h₀ := X.base) I.ok.mod.kin M.kp (thn (ha.run pos pins s1 σ _ _ I1 h2) fun us s2 ⟨vs, H2, I2, r, q⟩ => ⟨I2.kIn, ?_⟩) he hst
  exact StX.run_makeR M F hr hx I2 r q
end
theorem from_le {p : Nat → Prop} {l : Nat} (h : ∀ k, p (k + l)) : ∀ k, l ≤ k → p k := fun k hk => by
  have := h (k - l)
  rwa [Nat.sub_add_cancel hk] at this
end CC
namespace CC
open PySem L2 TL
/-! ### the object -/
def fl0 (w : Nat) : List (Str × V) := putF "span" (.int (w : Int)) []
def flds (w : Nat) (g : Addr) : List (Str × V) := putF "given" (.ref g) (fl0 w)
theorem sg : ¬ (("span" : Str) = "given") := by decide +kernel
theorem flds_span (w : Nat) (g : Addr) : (flds w g).lookup ("span" : Str) = some (.int (w : Int)) := by
  unfold flds fl0
  rw [lookup_putF, if_neg sg, lookup_putF, if_pos rfl]
theorem flds_given (w : Nat) (g : Addr) : (flds w g).lookup ("given" : Str) = some (.ref g) := by
  unfold flds
  rw [lookup_putF, if_pos rfl]
theorem flds_no (w : Nat) (g : Addr) {m : Str} (h1 : ¬ m = "given") (h2 : ¬ m = "span") : (flds w g).lookup m = none := by
  unfold flds fl0
  rw [lookup_putF, if_neg h1, lookup_putF, if_neg h2]
  rfl
/-- a list of rules stands at x -/
def RulesAt (K : PySem.W.Frag) (C : Addr) (H : Hp) (x : Addr) (w : Nat) (rs : List R) : Prop := ∃ dx g us, H x = some (.ins C dx (flds w g)) ∧ H g = some (.tup us) ∧ DpAll K H us (rs.map R.d)
theorem RulesAt.same {K : PySem.W.Frag} {C : Addr} {H H' : Hp} {x : Addr} {w : Nat} {rs : List R} (h : RulesAt K C H x w rs) (e : Same H H') : RulesAt K C H' x w rs := by
  obtain ⟨dx, g, us, h1, h2, h3⟩ := h
  exact ⟨dx, g, us, e _ _ h1, e _ _ h2, dps_same e _ _ h3⟩
/-- what is asked of the class as the top has made it -/
structure Txt1 (K : PySem.W.Frag) (mg : Str → Option Value) (C : Addr) : Prop where
  cl : Cls K C
  nS : NoAttr K C "span"
  nG : NoAttr K C "given"
  mgC : mg "Rules" = some (.ref C)
/-! ### keys -/
def R.key (r : R) : List Key := [.inr (kd r.k), .inl (r.a : Int), .inl (r.b : Int)]
theorem key_inj {r s : R} (h : r.key = s.key) : r = s := by
  obtain ⟨k, a, b⟩ := r
  obtain ⟨k', a', b'⟩ := s
  simp only [R.key, List.cons.injEq, Sum.inr.injEq, Sum.inl.injEq, and_true] at h
  obtain ⟨h1, h2, h3⟩ := h
  have e1 := kd_inj h1
  have e2 : a = a' := by omega
  have e3 : b = b' := by omega
  rw [e1, e2, e3]
theorem keys_nodup {rs : List R} (h : rs.Nodup) : (rs.map R.key).Nodup := List.Pairwise.map _ (fun a b hab e => hab (key_inj e)) h
theorem dps_keys {K : PySem.W.Frag} {H : Hp} : ∀ {rs : List R} {us : List V}, DpAll K H us (rs.map R.d) → ∃ ks : List (SG.Mem Key), us = ks.map (fun m => V.ref m.1) ∧ ks.map (·.2) = rs.map R.key ∧ ∀ m ∈ ks, SqT K H m.1 (m.2.map kV)
  | [], _, h => by
    cases h
    exact ⟨[], rfl, rfl, fun m hm => nomatch hm⟩
  | r :: rs, _, h => by
    cases h with
    | cons h1 h2 =>
      obtain ⟨p, rfl, hp⟩ := dp_r h1
      obtain ⟨ks, e1, e2, e3⟩ := dps_keys h2
      refine ⟨(p, r.key) :: ks, by rw [e1]; rfl, by rw [List.map_cons, e2]; rfl, fun m hm => ?_⟩
      rcases List.mem_cons.mp hm with z | z
      · rw [z]
        exact hp
      · exact e3 m z
def spInit (K : PySem.W.Frag) (C : Addr) : Sp := fun vs H Q _ => ∃ (x dx : Addr) (w : Nat) (p : Addr) (us : List V) (rs : List R), vs = [.ref x, .int (w : Int), .ref p] ∧ H x = some (.ins C dx []) ∧ 1 ≤ w ∧ w ≤ 6 ∧ H p = some (.tup us) ∧ DpAll K (wo H x) us (rs.map R.d) ∧
  (∀ r ∈ rs, r.ok w) ∧ rs.Nodup ∧ ∀ H', (∀ b o, H b = some o → b ≠ x → H' b = some o) → H' x = some (.ins C dx (flds w p)) → Q .non H'
def spInitR (K : PySem.W.Frag) (C : Addr) : Sp := fun vs H Q E => ∃ ws rest, vs = ws ++ rest ∧ ws.length = 2 ∧ rest.length ≤ sizeLine ∧ ∀ p, H p = Option.none → spInit K C (ws ++ [V.ref p]) (upd H p (.tup rest)) Q E
def spRead (K : PySem.W.Frag) (C : Addr) : Sp := fun vs H Q _ => ∃ (w : Nat) (rs : List R), vs = [.ref C, .int (w : Int), .str (textS rs)] ∧ 1 ≤ w ∧ w ≤ 6 ∧ (∀ r ∈ rs, r.ok w) ∧ rs.Nodup ∧ ∀ (x : Addr) (H' : Hp), Same H H' → H x = none → RulesAt K C H' x w rs → Q (.ref x) H'
/-- C(width, *rules), C.read(width, text) -/
structure MakeR (P : Program) (w : World) (K : PySem.W.Frag) (mg : Str → Option Value) (base : Heap) (C : Addr) (l : Nat) where
  fN : Addr
  M : Mk K C fN
  ok : ∀ k, l ≤ k → FnR P w K mg base CX0 k fN (spInitR K C)
structure ReadR (P : Program) (w : World) (K : PySem.W.Frag) (mg : Str → Option Value) (base : Heap) (C : Addr) (l : Nat) where
  mc : Value
  pD : Addr
  fD : Addr
  rD : ClX.CRead K C mc
  cD : ClX.CMet K C mc "read" pD fD
  ok : ∀ k, l ≤ k → FnR P w K mg base CX0 k fD (spRead K C)
section
variable {P : Program} {w : World} {K : PySem.W.Frag} {mg : Str → Option Value} {base : Heap} {kA : Addr}
abbrev nIn : List Str := ["self", "width", "rules", "rule"]
theorem scInit : FnScope nIn ((["self", "width"] : List Str) ++ ([("rules" : Str)] : List Str)) (defScope sInit) := ⟨rfl, rfl, rfl, by decide +kernel, rfl, by decide +kernel, by decide +kernel⟩
theorem ok_init {f C : Addr} {fd : FuncData} {k : Nat} (F : Fun K "__init__" "Rules.__init__" sInit f fd) (T : Glb K mg kA) (TC : Txt1 K mg C)
 (cW : Cal P w K mg base "is_width" ["thing"] spIsWidth 2) (cR : Cal P w K mg base "is_rule" ["width", "thing"] (spIsRule K) 3) :
    FnR P w K mg base CX0 (k + 4) f (spInitR K C) := by
  have GW := cW.ok (k + 3) (by omega)
  have GR := cR.ok (k + 3) (by omega)
  obtain ⟨oc, od, kV, doc, pm, an, cdv, ct, osl, rfl, lk, hcd⟩ := F.ex
  refine StX.fn_star (ps := ["self", "width"]) (pv := "rules") lk hcd scInit StX.cxUp_none (fun us rest hl => ?_) (fun A outer s H vs Q E hr h => ?_)
  · match us, hl with
    | [a, b], _ =>
      cases rest with
      | nil => rfl
      | cons c r => rfl
  · obtain ⟨x, dx, w, p, us, rs, rfl, hx, w1, w6, hp, dp, ho, nd, q⟩ := h
    have hu3 := Nat.lt_of_le_of_lt (Nat.add_le_add_left (by decide : 3 ≤ 64) _) hr.units
    have n := scInit.nd
    refine ⟨_, PSs.nox (pss_cons (ps_if (pt_not (pt_val (pe_call GW hr rfl cW.g cW.kp cW.b .nil pass0 (pa_cons (pv 1) pa_nil)))) (pss_one ps_never) pss_nil)
      (pss_cons (ps_if (pt_not (pt_val (pe_callB (cr_all rfl) (by rfl) T.all (by decide +kernel) (pa_cons (pe_lc (own := [("rule", 3)]) (g := gName 3) (tt := tYes) rfl n (pi_tup (pv 2)) (blkOk_by (N := nIn) (sc := defScope sInit) (by decide +kernel))
          (fun _ _ _ _ _ => pg_name (i := 3) n rfl (.inl rfl)) (fun _ _ _ _ _ => pts_nil) (fun _ _ _ _ _ => pe_call GR hr rfl cR.g cR.kp cR.b .nil pass0 (pa_cons (pv 1) (pa_cons (pv 3) pa_nil)))) pa_nil)))) (pss_one ps_never) pss_nil)
      (pss_cons (ps_if (pt_cmpR op_ne (SG.pe_lenSetD rfl hu3 (by rfl) T.len (by rfl) T.set (pv 2)) (pe_callB call_len_seq (by rfl) T.len PySem.boot_len (pa_cons (pv 2) pa_nil)) (nomark _)) (pss_one ps_never) pss_nil)
      (pss_cons (ps_fld (pv 0) (pv 1) rfl) (pss_one (ps_fld (pv 0) (pv 2) rfl)))))), ?_⟩
    have rl := few_rules w6 ho nd
    have ul : us.length = rs.length := by rw [dps_len dp, List.length_map]
    refine ⟨_, rfl, w, rfl, w1, w6, _, rfl, iteF ?_⟩
    refine ⟨_, rfl, p, rfl, ⟨_, .inl (.inl hp)⟩, fun D nD => ?_⟩
    refine lc_tup (xs := us) (fun i H1 => Same H (wo H1 D) ∧ H1 D = some (.lst ((List.replicate i true).map V.bl)) ∧ i ≤ 60) ⟨?_, upd_same, by omega⟩ (fun i H1 _ z => .inl (.inl (wo_le D _ _ (z.1 _ _ hp)))) ?_ ?_
    · rw [wo_upd]
      exact fun b o e => by rw [wo_ne (ne_of_none e nD)]; exact e
    · rintro i v H1 hv ⟨e1, e2, e3⟩
      obtain ⟨r, hr2, dr⟩ := dps_rat dp hv
      have il : i < rs.length := (List.getElem?_eq_some_iff.mp hr2).1
      refine ⟨rfl, yes_if ⟨_, rfl, _, rfl, w, v, r, rfl, dp_same ((wo_le x).trans (e1.trans (wo_le D))) _ _ dr, ho r (List.mem_of_getElem? hr2), _, e2, small1000 (by simp; omega), ?_, ?_, by omega⟩⟩
      · rw [wo_upd]
        exact e1
      · rw [upd_same, List.replicate_succ', List.map_append]
        rfl
    rintro H1 ⟨e1, e2, _⟩
    rw [ul] at e2
    refine ⟨D, List.replicate rs.length true, rfl, SqL.of e2, _, rfl, ?_⟩
    have e6 : (List.replicate rs.length true).all id = true := by
      rw [List.all_eq_true]
      intro b hb
      rw [List.eq_of_mem_replicate hb]
      rfl
    rw [e6]
    refine iteF ?_
    have m1 : Same H H1 := e1.trans (wo_le D)
    obtain ⟨ks, k1, k2, k3⟩ := dps_keys (dps_same ((wo_le x).trans m1) _ _ dp)
    have hp1 := m1 _ _ hp
    have kl : ks.length = rs.length := by
      rw [← ul, k1, List.length_map]
    refine ⟨_, rfl, p, rfl, .inr ⟨ks, .inr (by rw [← k1]; exact .inl (.inl hp1)), k3, by omega, fun m z1 z2 => ?_⟩⟩
    have em : m = ks.length := z2.mpr (by rw [k2]; exact keys_nodup nd)
    subst em
    refine ⟨_, rfl, p, us, rfl, .inr (.inl (.inl hp1)), rfl, _, rfl, ?_⟩
    have e7 : (!decide (V.int (ks.length : Int) = V.int (us.length : Int))) = false := by
      rw [kl, ul]
      simp
    rw [e7]
    refine iteF ?_
    have hx1 := m1 _ _ hx
    have px : p ≠ x := ne_of hp hx (by intro z; cases z)
    refine ⟨_, rfl, _, rfl, x, C, dx, _, rfl, hx1, TC.cl, TC.nS, (by show 0 < 1000; decide), ?_⟩
    refine ⟨_, rfl, _, rfl, x, C, dx, _, rfl, upd_same, TC.cl, TC.nG, (by show 1 < 1000; decide), ?_⟩
    refine q _ (fun b o e hb => ?_) upd_same
    rw [upd_ne hb, upd_ne hb]
    exact m1 _ _ e
abbrev nRd : List Str := ["cls", "width", "text", "found"]
theorem scRead : FnScope nRd ["cls", "width", "text"] (defScope sRead) := ⟨rfl, rfl, rfl, by decide +kernel, rfl, by decide +kernel, by decide +kernel⟩
theorem ok_read {f C : Addr} {fd : FuncData} {k : Nat} (F : Fun K "read" "Rules.read" sRead f fd) (T : Glb K mg kA) (m : MakeR P w K mg base C 4)
 (cW : Cal P w K mg base "is_width" ["thing"] spIsWidth 2)
 (cO : Cal P w K mg base "rules_of" ["width", "text"] (spRulesOf K) 2) 
 : FnOk P w K mg base CX0 (k + 6) f fd ["cls", "width", "text"] (spRead K C) := by
  have GW := cW.ok (k + 5) (by omega)
  have GO := cO.ok (k + 5) (by omega)
  have GN := m.ok (k + 4) (by omega)
  refine F.ok scRead (fun vs H Q E h => ?_) (fun cdv A outer s H vs Q E hr h => ?_)
  · obtain ⟨w, rs, rfl, _⟩ := h
    rfl
  · obtain ⟨w, rs, rfl, w1, w6, ho, nd, q⟩ := h
    have n := scRead.nd
    refine ⟨_, pss_cons (ps_if (pt_not (pt_val (pe_call GW hr rfl cW.g cW.kp cW.b .nil pass0 (pa_cons (pv 1) pa_nil)))) (pss_one ps_never) pss_nil)
      (pss_cons (ps_if (pt_not (pt_val (pe_callB call_isi (by rfl) T.isi (by decide +kernel) (pa_cons (pv 2) (pa_cons (pe_bltn (v := .ty "str") (by rfl) T.str (by decide +kernel) rfl) pa_nil))))) (pss_one ps_never) pss_nil)
      (pss_cons (ps_set (i := 3) n rfl (.inl rfl) (pe_call GO hr rfl cO.g cO.kp cO.b .nil pass0 (pa_cons (pv 1) (pa_cons (pv 2) pa_nil))))
      (pss_cons (ps_if (pt_cmpR op_isN (pv 3) pe_non (nomark _)) (pss_one ps_never) pss_nil)
      (pss_one (ps_ret (pe_makeLS (i := 0) m.M GN hr rfl (.inl rfl) pass0 (pa_cons (pv 1) (StX.pa_star (pv 3) pa_nil)))))))), ?_⟩
    refine ⟨_, rfl, w, rfl, w1, w6, _, rfl, iteF ?_⟩
    refine ⟨_, rfl, _, _, _, _, true, rfl, .ty _, .base (.str _), kit_ty (by decide +kernel), _, rfl, iteF ?_⟩
    refine ⟨_, rfl, _, rfl, w, rs, rfl, w6, ho, nd, fun p us H1 s1 np hp dp => ?_⟩
    refine ⟨_, rfl, rfl, _, rfl, iteF ?_⟩
    have rl := few_rules w6 ho nd
    have ul : us.length = rs.length := by rw [dps_len dp, List.length_map]
    refine ⟨rfl, _, rfl, _, rfl, p, us, rfl, .inr (SqL.of hp), fun x dx nx ndx ne => ?_⟩
    rw [List.append_nil]
    refine ⟨[.ref x, .int (w : Int)], us, rfl, rfl, Nat.le_of_lt (small1000 (by omega)), fun g ng => ?_⟩
    have gx : x ≠ g := fun z => by rw [← z, upd_same] at ng; cases ng
    have gdx : dx ≠ g := fun z => by rw [← z, upd_ne ne, upd_same] at ng; cases ng
    have ng1 : H1 g = none := by
      rw [upd_ne gx.symm, upd_ne gdx.symm] at ng
      exact ng
    have keep : ∀ b o, H1 b = some o → (upd (upd (upd H1 dx (.own x)) x (.ins C dx [])) g (.tup us)) b = some o := fun b o e => by
      rw [upd_ne (ne_of_none e ng1), upd_ne (ne_of_none e nx), upd_ne (ne_of_none e ndx)]
      exact e
    refine ⟨x, dx, w, g, us, rs, rfl, by rw [upd_ne gx]; exact upd_same, w1, w6, upd_same, dps_same ?_ _ _ dp, ho, nd, fun H' k1 k2 => ⟨rfl, q x H' ?_ ?_ ⟨dx, g, us, k2, ?_, ?_⟩⟩⟩
    · exact fun b o e => by
        have e1 := wo_le p _ _ e
        rw [wo_ne (ne_of_none e1 nx)]
        exact keep b o e1
    · exact fun b o e => k1 b o (keep b o (s1 _ _ e)) (ne_of_none (s1 _ _ e) nx)
    · cases z : H x with
      | none => rfl
      | some o => rw [s1 _ _ z] at nx; cases nx
    · exact k1 g _ upd_same gx.symm
    · refine dps_same (fun b o e => ?_) _ _ dp
      have e1 := wo_le p _ _ e
      exact k1 b o (keep b o e1) (ne_of_none e1 nx)
end
end CC
/-! ### the texts of rows -/
namespace CC
open PySem L2 TL
/-- a row for a width -/
def RowOk (w : Nat) (row : List Nat) : Prop := row.length = w ∧ ∀ v ∈ row, v ≤ 9999
end CC
namespace CC
open PySem L2
/-! ### a list of things of one shape that is being made at D -/
section
variable {α : Type} {f : α → PyData} {K : PySem.W.Frag} {H0 H H' : Hp} {D : Addr} {n m : Nat} {rs rs' : List α}
def MadeF (f : α → PyData) (K : PySem.W.Frag) (H0 : Hp) (D : Addr) (n : Nat) (H : Hp) (rs : List α) : Prop := ∃ us, Same (wo H0 D) (wo H D) ∧ H D = some (.lst us) ∧ DpAll K (wo H D) us (rs.map f) ∧ us.length ≤ n
theorem MadeF.start : MadeF f K H0 D 0 (upd H0 D (.lst [])) [] := by
  refine ⟨[], ?_, upd_same, .nil, Nat.le_refl _⟩
  rw [wo_upd]
  exact Same.refl _
theorem MadeF.up (p : MadeF f K H0 D n H rs) (h : n ≤ m) (e : rs = rs') : MadeF f K H0 D m H rs' := by
  obtain ⟨us, p1, p2, p3, p4⟩ := p
  subst e
  exact ⟨us, p1, p2, p3, Nat.le_trans p4 h⟩
theorem MadeF.push {r : α} {y : V} (p : MadeF f K H0 D n H rs) (h9 : n < 100000) (hm : n < m) (q3 : Same H H') (q1 : Dp K (wo H' D) y (f r)) :
    ∃ acc, H' D = some (.lst acc) ∧ acc.length < sizeLine ∧ MadeF f K H0 D m (upd H' D (.lst (acc ++ [y]))) (rs ++ [r]) := by
  obtain ⟨us, p1, p2, p3, p4⟩ := p
  refine ⟨us, q3 _ _ p2, Nat.lt_of_le_of_lt p4 (Nat.lt_of_lt_of_le h9 (by decide)), us ++ [y], ?_, upd_same, ?_, ?_⟩
  · rw [wo_upd]
    exact p1.trans (wo_same q3)
  · rw [wo_upd, List.map_append]
    exact dps_app (dps_same (wo_same q3) _ _ p3) (dps_one q1)
  · rw [List.length_append]
    exact Nat.le_trans (Nat.succ_le_succ p4) hm
theorem MadeF.keep (p : MadeF f K H0 D n H rs) (q3 : Same H H') (h : n ≤ m) (e : rs = rs') : MadeF f K H0 D m H' rs' := by
  obtain ⟨us, p1, p2, p3, p4⟩ := p
  subst e
  exact ⟨us, p1.trans (wo_same q3), q3 _ _ p2, dps_same (wo_same q3) _ _ p3, Nat.le_trans p4 h⟩
theorem MadeF.old (p : MadeF f K H0 D n H rs) (h : H0 D = none) : Same H0 H := fun b o e => by
  obtain ⟨us, p1, _⟩ := p
  exact wo_le D _ _ (p1 b o (by rw [wo_ne (ne_of_none e h)]; exact e))
theorem MadeF.tup {t : Addr} {xs : List V} (p : MadeF f K H0 D n H rs) (nt : H t = none) : SqT K (wo (upd H t (.tup xs)) D) t xs := by
  obtain ⟨us, _, p2, _⟩ := p
  exact tup_new p2 nt
end
/-- what a def that hands back a new list of such things promises -/
def NewF {α : Type} (f : α → PyData) (K : PySem.W.Frag) (H : Hp) (rs : List α) (Q : VK) : Prop := ∀ (p : Addr) (us : List V) (H' : Hp), Same H H' → H p = none → H' p = some (.lst us) → DpAll K (wo H' p) us (rs.map f) → Q (.ref p) H'
theorem MadeF.out {α : Type} {f : α → PyData} {K : PySem.W.Frag} {H H0 H' : Hp} {D : Addr} {n : Nat} {rs : List α} {Q : VK} (p : MadeF f K H0 D n H' rs) (h : H0 D = none) (s : Same H H0) (q : NewF f K H rs Q) : Q (.ref D) H' := by
  have o := p.old h
  obtain ⟨us, p1, p2, p3, p4⟩ := p
  exact q D us H' (s.trans o) (s.free h) p2 p3
abbrev g3 (K : PySem.W.Frag) (i j k : Nat) : TG := gTup K 3 (gCons (gName i) (gCons (gName j) (gCons (gName k) gNil)))
abbrev g2 (K : PySem.W.Frag) (i j : Nat) : TG := gTup K 2 (gCons (gName i) (gCons (gName j) gNil))
end CC
namespace CC
open PySem L2
/-! ### where pairs lead -/
inductive Rch (ps : List (Nat × Nat)) (a : Nat) : Nat → Prop
  | refl : Rch ps a a
  | step {b c : Nat} : Rch ps a b → (b, c) ∈ ps → Rch ps a c
theorem Rch.trans {ps : List (Nat × Nat)} {a b c : Nat} (h1 : Rch ps a b) (h2 : Rch ps b c) : Rch ps a c := by
  induction h2 with
  | refl => exact h1
  | step _ h ih => exact ih.step h
theorem Rch.mono {ps qs : List (Nat × Nat)} (h : ∀ x ∈ ps, x ∈ qs) {a b : Nat} (r : Rch ps a b) : Rch qs a b := by
  induction r with
  | refl => exact .refl
  | step _ q ih => exact ih.step (h _ q)
theorem Rch.lt {ps : List (Nat × Nat)} {w a b : Nat} (h : ∀ x ∈ ps, x.1 < w ∧ x.2 < w) (ha : a < w) (r : Rch ps a b) : b < w := by
  cases r with
  | refl => exact ha
  | step _ q => exact (h _ q).2
/-- a set that is closed under the pairs holds all that is reached -/
theorem Rch.within {ps : List (Nat × Nat)} {a b : Nat} {S : Nat → Prop} (ha : S a) (hc : ∀ x y, S x → (x, y) ∈ ps → S y) (r : Rch ps a b) : S b := by
  induction r with
  | refl => exact ha
  | step _ q ih => exact hc _ _ ih q
def nms (ns : List Nat) : List V := ns.map fun (n : Nat) => V.int (n : Int)
theorem nms_len (ns : List Nat) : (nms ns).length = ns.length := List.length_map _
theorem nms_app (ns ms : List Nat) : nms (ns ++ ms) = nms ns ++ nms ms := List.map_append
theorem few6 {fs : List Nat} (nd : fs.Nodup) (h : ∀ x ∈ fs, x < 6) : fs.length ≤ 6 := by
  have := SG.sub_len (r := List.range 6) nd fun x hx => List.mem_range.mpr (h x hx)
  rw [List.length_range] at this
  exact this
end CC
namespace CC
open PySem L2 TL
structure GlbT (mg : Str → Option Value) : Prop where
  lv : ∃ t, mg "LARGEST_VALUE" = some (.int 9999 t)
  mr : ∃ t, mg "MOST_ROWS" = some (.int 400 t)
def spIsRow (K : PySem.W.Frag) : Sp := fun vs H Q _ => ∃ (w : Nat) (t : Addr) (row : List Nat), vs = [.int (w : Int), .ref t] ∧ SqT K H t (nms row) ∧ RowOk w row ∧ w ≤ 6 ∧ ∀ H', Same H H' → Q (.bl true) H'
theorem all_true (m : Nat) : (List.replicate m true).all id = true := by
  rw [List.all_eq_true]
  intro b hb
  rw [List.eq_of_mem_replicate hb]
  rfl
theorem nms_get? {ns : List Nat} {i : Nat} {x : V} (h : (nms ns)[i]? = some x) : ∃ m, ns[i]? = some m ∧ x = .int (m : Int) := by
  rw [nms, List.getElem?_map] at h
  cases z : ns[i]? with
  | none =>
    rw [z] at h
    cases h
  | some m =>
    rw [z] at h
    exact ⟨m, rfl, (Option.some.inj h).symm⟩
section
variable {P : Program} {w : World} {K : PySem.W.Frag} {mg : Str → Option Value} {base : Heap} {kA : Addr}
abbrev nIRow : List Str := ["width", "thing", "part"]
theorem scIsRow : FnScope nIRow ["width", "thing"] (defScope sIsRow) := ⟨rfl, rfl, rfl, by decide +kernel, rfl, by decide +kernel, by decide +kernel⟩
theorem ok_isrow {f : Addr} {fd : FuncData} {k : Nat} (F : Fun K "is_row" "is_row" sIsRow f fd) (T : Glb K mg kA) (TT : GlbT mg) (cI : Cal P w K mg base "is_an_integer" ["thing"] spIsInt 1) : FnOk P w K mg base CX0 (k + 2) f fd ["width", "thing"] (spIsRow K) := by
  have GI := cI.ok (k + 1) (by omega)
  refine F.ok scIsRow (fun vs H Q E h => ?_) (fun cdv A outer s H vs Q E hr h => ?_)
  · obtain ⟨w, t, row, rfl, _⟩ := h
    rfl
  · obtain ⟨w, t, row, rfl, ht, ⟨rl, rv⟩, w6, q⟩ := h
    obtain ⟨tl, hlv⟩ := TT.lv
    have n := scIsRow.nd
    refine ⟨_, (pss_cons (ps_if (PW.pt (pw_or (pt_not (pt_val (pe_callB call_isi (by rfl) T.isi (by decide +kernel) (pa_cons (pv 1) (pa_cons (pe_bltn (v := .ty "tuple") (by rfl) T.tup (by decide +kernel) rfl) pa_nil))))) (pw_or1 (pt_cmpR op_ne (pe_callB call_len_seq (by rfl) T.len PySem.boot_len (pa_cons (pv 1) pa_nil)) (pv 0) (nomark _))))) (pss_one (ps_ret pe_bl)) pss_nil)
      (pss_one (ps_ret (pe_callB (cr_all rfl) (by rfl) T.all (by decide +kernel) (pa_cons (pe_lc (own := [("part", 2)]) (g := gName 2) (tt := tYes) rfl n (pi_tup (pv 1)) (blkOk_by (N := nIRow) (sc := defScope sIsRow) (by decide +kernel))
        (fun _ _ _ _ _ => (pg_name (i := 2) n rfl (.inl rfl))) (fun _ _ _ _ _ => pts_nil) (fun _ _ _ _ _ => (pe_and (pe_call GI hr rfl cI.g cI.kp cI.b .nil pass0 (pa_cons (pv 2) pa_nil)) (pe_one (pe_chain op_le op_le pe_int (pv 2) (pe_glob (v := .int 9999) rfl hlv ⟨_, rfl⟩)))))) pa_nil))))), ?_⟩
    refine ⟨_, rfl, _, _, _, _, true, rfl, .ty _, ty_tup ht, kit_ty (by decide +kernel), _, rfl, iteF ?_⟩
    refine ⟨_, rfl, t, _, rfl, .inr ht, _, rfl, rfl, _, rfl, ?_⟩
    have e0 : (!decide (V.int (((nms row).length : Nat) : Int) = V.int (w : Int))) = false := by
      rw [nms_len, rl]
      simp
    rw [e0]
    refine iteF ?_
    refine ⟨_, rfl, t, rfl, ⟨_, ht⟩, fun D nD => ?_⟩
    refine lc_tup (xs := nms row) (fun i H1 => Same H (wo H1 D) ∧ H1 D = some (.lst ((List.replicate i true).map V.bl)) ∧ i ≤ 6) ⟨?_, upd_same, by omega⟩ (fun i H1 _ z => same_t (z.1.trans (wo_le D)) ht) ?_ ?_
    · rw [wo_upd]
      exact fun b o e => by rw [wo_ne (ne_of_none e nD)]; exact e
    · rintro i v H1 hv ⟨e1, e2, e3⟩
      obtain ⟨y, hy, rfl⟩ := nms_get? hv
      have il := (List.getElem?_eq_some_iff.mp hy).1
      have yv := rv y (List.mem_of_getElem? hy)
      have c1 : decide ((0 : Int) ≤ (y : Int)) = true := decide_eq_true (by omega)
      have c2 : decide ((y : Int) ≤ (9999 : Int)) = true := decide_eq_true (by omega)
      refine ⟨rfl, yes_if ⟨_, rfl, _, rfl, _, rfl, iteT ⟨_, rfl, _, _, rfl, rfl, _, rfl, ?_⟩⟩⟩
      rw [c1]
      refine iteT ⟨_, _, rfl, rfl, ?_⟩
      dsimp only
      rw [c2]
      refine ⟨_, e2, small1000 (by simp; omega), ?_, ?_, by omega⟩
      · rw [wo_upd]
        exact e1
      · rw [upd_same, List.replicate_succ', List.map_append]
        rfl
    rintro H1 ⟨e1, e2, _⟩
    refine ⟨D, _, rfl, SqL.of e2, ?_⟩
    rw [all_true]
    exact q H1 (e1.trans (wo_le D))
end
end CC
namespace CC
open PySem L2 TL
/-- the source at s is one again, all else that stood still stands -/
structure Ran (H H' : Hp) (s : Addr) : Prop where
  same : Same (wo H s) (wo H' s)
  src : ∃ o, H' s = some o ∧ IsSrc o
theorem Ran.one {H : Hp} {s : Addr} {o : HO} (h : IsSrc o) : Ran H (upd H s o) s := ⟨by rw [wo_upd]; exact Same.refl _, o, upd_same, h⟩
theorem Ran.trans {H H1 H2 : Hp} {s : Addr} (a : Ran H H1 s) (b : Ran H1 H2 s) : Ran H H2 s := ⟨a.same.trans b.same, b.src⟩
theorem Ran.grow {H H1 H2 : Hp} {s : Addr} (a : Ran H H1 s) (b : Same H1 H2) : Ran H H2 s := by
  obtain ⟨o, h1, h2⟩ := a.src
  exact ⟨a.same.trans (wo_same b), o, b _ _ h1, h2⟩
theorem Ran.at_ {H H1 : Hp} {s b : Addr} {o : HO} (a : Ran H H1 s) (h : H b = some o) (n : b ≠ s) : H1 b = some o := wo_le s _ _ (a.same b o (by rw [wo_ne n]; exact h))
theorem Ran.free {H H1 : Hp} {s b : Addr} (a : Ran H H1 s) (h : H1 b = none) : H b = none := by
  by_cases e : b = s
  · obtain ⟨o, h1, _⟩ := a.src
    rw [e, h1] at h
    cases h
  · cases z : H b with
    | none => rfl
    | some o =>
      rw [a.at_ z e] at h
      cases h
theorem Ran.ne {H H1 : Hp} {s b : Addr} (a : Ran H H1 s) (h : H1 b = none) : b ≠ s := fun e => by
  obtain ⟨o, h1, _⟩ := a.src
  rw [e, h1] at h
  cases h
def Src (H : Hp) (s : Addr) : Prop := ∃ o, H s = some o ∧ IsSrc o
def spDraw2 : Sp := fun vs H Q _ => ∃ (s : Addr) (m : Nat), vs = [.ref s, .int (m : Int)] ∧ Src H s ∧ 0 < m ∧ m < 1000000 ∧ ∀ (r : Nat) (H' : Hp), r < m → Ran H H' s → Q (.int (r : Int)) H'
def spChoose (K : PySem.W.Frag) : Sp := fun vs H Q _ => ∃ (s : Addr) (v : V), vs = [.ref s, v] ∧ Src H s ∧
  ((∃ (a : Addr) (xs : List V), v = .ref a ∧ SqL K (wo H s) a xs ∧ 0 < xs.length ∧ xs.length < 1000 ∧ ∀ (i : Nat) (x : V) (H' : Hp), xs[i]? = some x → Ran H H' s → Q x H') ∨
  ∃ z : Str, v = .str z ∧ 0 < z.length ∧ z.length < 1000 ∧ ∀ (c : Nat) (H' : Hp), Ran H H' s → Q (.str ⟨#[c]⟩) H')
section
variable {X : Cx}
end
theorem int_ne (a b : Nat) : (!decide (V.int (a : Int) = V.int (b : Int))) = decide (a ≠ b) := by
  by_cases e : a = b
  · subst e
    simp
  · rw [decide_eq_false (fun z => e (by injection z with z; omega)), decide_eq_true e]
    rfl
end CC
namespace CC
open PySem L2
/-! tuples never change -/
structure SameT (H H' : Hp) : Prop where
  tup : ∀ b xs, H b = some (.tup xs) → H' b = some (.tup xs)
  frz : ∀ b o xs, H b = some (.frz o (.tup xs)) → H' b = some (.frz o (.tup xs))
theorem sqt_T {K : PySem.W.Frag} {H H' : Hp} {a : Addr} {xs : List V} (e : SameT H H') (h : SqT K H a xs) : SqT K H' a xs := by
  rcases h with (h | ⟨o, h⟩) | h
  · exact .inl (.inl (e.tup _ _ h))
  · exact .inl (.inr ⟨o, e.frz _ _ _ h⟩)
  · exact .inr h
theorem rd_T {K : PySem.W.Frag} {H H' : Hp} {v : V} {r : R} (e : SameT H H') (h : Dp K H v r.d) : Dp K H' v r.d := by
  obtain ⟨p, rfl, hp⟩ := dp_r h
  exact r_dp (sqt_T e hp)
theorem rds_T {K : PySem.W.Frag} {H H' : Hp} (e : SameT H H') : ∀ {rs : List R} {us : List V}, DpAll K H us (rs.map R.d) → DpAll K H' us (rs.map R.d)
  | [], _, h => by
    cases h
    exact .nil
  | r :: rs, _, h => by
    cases h with
    | cons h1 h2 => exact .cons (rd_T e h1) (rds_T e h2)
theorem same_T {H H' : Hp} (e : Same H H') : SameT H H' := ⟨fun b xs h => e _ _ h, fun b o xs h => e _ _ h⟩
theorem SameT.trans {H H1 H2 : Hp} (a : SameT H H1) (b : SameT H1 H2) : SameT H H2 := ⟨fun c xs h => b.tup _ _ (a.tup _ _ h), fun c o xs h => b.frz _ _ _ (a.frz _ _ _ h)⟩
/-- a list that is left out, or changed, is no tuple -/
theorem wo_T {H : Hp} {l : Addr} {us : List V} (h : H l = some (.lst us)) : SameT H (wo H l) := by
  constructor
  · intro b xs e
    rw [wo_ne (ne_of e h (by intro z; cases z))]
    exact e
  · intro b o xs e
    rw [wo_ne (ne_of e h (by intro z; cases z))]
    exact e
theorem upd_T {H : Hp} {l : Addr} {us : List V} {o : HO} (h : H l = some (.lst us)) : SameT H (upd H l o) := by
  constructor
  · intro b xs e
    rw [upd_ne (ne_of e h (by intro z; cases z))]
    exact e
  · intro b o xs e
    rw [upd_ne (ne_of e h (by intro z; cases z))]
    exact e
end CC
namespace CC
open PySem L2 TL
def gd (m : List Nat) : PyData := .tuple (m.map fun (n : Nat) => PyData.int (n : Int))
theorem dps_nms {K : PySem.W.Frag} {H : Hp} : ∀ fs : List Nat, DpAll K H (nms fs) (fs.map fun (n : Nat) => PyData.int (n : Int))
  | [] => .nil
  | n :: fs => .cons (.int _) (dps_nms fs)
theorem nms_dps {K : PySem.W.Frag} {H : Hp} : ∀ {fs : List Nat} {us : List V}, DpAll K H us (fs.map fun (n : Nat) => PyData.int (n : Int)) → us = nms fs
  | [], _, h => by
    cases h
    rfl
  | n :: fs, _, h => by
    cases h with
    | cons h1 h2 =>
      rw [dp_int h1, nms_dps h2]
      rfl
theorem dp_gd {K : PySem.W.Frag} {H : Hp} {t : Addr} {m : List Nat} (h : SqT K H t (nms m)) : Dp K H (.ref t) (gd m) := .tup h (dps_nms m)
theorem gd_at {K : PySem.W.Frag} {H : Hp} {v : V} {m : List Nat} (h : Dp K H v (gd m)) : ∃ t, v = .ref t ∧ SqT K H t (nms m) := by
  obtain ⟨p, us, rfl, h1, h2⟩ := dp_t h
  rw [nms_dps h2] at h1
  exact ⟨p, rfl, h1⟩
theorem gd_T {K : PySem.W.Frag} {H H' : Hp} {v : V} {m : List Nat} (e : SameT H H') (h : Dp K H v (gd m)) : Dp K H' v (gd m) := by
  obtain ⟨t, rfl, ht⟩ := gd_at h
  exact dp_gd (sqt_T e ht)
theorem gds_T {K : PySem.W.Frag} {H H' : Hp} (e : SameT H H') : ∀ {ms : List (List Nat)} {us : List V}, DpAll K H us (ms.map gd) → DpAll K H' us (ms.map gd)
  | [], _, h => by
    cases h
    exact .nil
  | m :: ms, _, h => by
    cases h with
    | cons h1 h2 => exact .cons (gd_T e h1) (gds_T e h2)
theorem dps_gat {K : PySem.W.Frag} {H : Hp} {gs : List V} {ms : List (List Nat)} {i : Nat} {v : V} (h : DpAll K H gs (ms.map gd)) (e : gs[i]? = some v) : ∃ m, ms[i]? = some m ∧ Dp K H v (gd m) := by
  obtain ⟨d, h1, h2⟩ := dps_at h e
  rw [List.getElem?_map] at h1
  cases q : ms[i]? with
  | none => rw [q] at h1; cases h1
  | some m =>
    rw [q] at h1
    cases h1
    exact ⟨m, rfl, h2⟩
def rTupOf (K : PySem.W.Frag) : List V → Hp → VK → Prop := fun xs H Q => ∃ p ys, xs = [.ref p] ∧ ((SqL K H p ys ∧ ∀ l, H l = none → Q (.ref l) (upd H l (.tup ys))) ∨ (SqT K H p ys ∧ Q (.ref p) H))
end CC
namespace CC
open PySem L2 TL
theorem Ran.T {H H' : Hp} {s : Addr} (r : Ran H H' s) (h : Src H s) : SameT H H' := by
  obtain ⟨o, h1, a, b, c, rfl, _⟩ := h
  constructor
  · intro x xs e
    exact r.at_ e (ne_of e h1 (by intro z; cases z))
  · intro x o xs e
    exact r.at_ e (ne_of e h1 (by intro z; cases z))
theorem cut_from (xs : List V) (n : Nat) : cutV xs (some (n : Int)) none = xs.drop n := by
  unfold cutV
  rw [HT.sIx_nat, HT.sIx_none]
  by_cases h : n ≤ xs.length
  · rw [Nat.min_eq_left h]
    exact List.take_of_length_le (by rw [List.length_drop]; exact Nat.le_refl _)
  · rw [Nat.min_eq_right (by omega), List.drop_eq_nil_of_le (Nat.le_refl _), List.drop_eq_nil_of_le (by omega)]
    simp
theorem cut_to (xs : List V) (n : Nat) : cutV xs none (some (n : Int)) = xs.take n := by
  unfold cutV
  rw [HT.sIx_nat, HT.sIx_none, List.drop_zero, Nat.sub_zero]
  by_cases h : n ≤ xs.length
  · rw [Nat.min_eq_left h]
  · rw [Nat.min_eq_right (by omega), List.take_of_length_le (Nat.le_refl _), List.take_of_length_le (by omega)]
end CC
namespace CC
/-! ### words in their order: shorter ones first, then by their signs -/
def lx : List Nat → List Nat → Prop
  | [], [] => False
  | [], _ :: _ => True
  | _ :: _, [] => False
  | a :: p, b :: q => a < b ∨ (a = b ∧ lx p q)
theorem lx_trans : ∀ {p q r : List Nat}, lx p q → lx q r → lx p r
  | [], [], _, h, _ => False.elim h
  | [], _ :: _, [], _, h => False.elim h
  | [], _ :: _, _ :: _, _, _ => trivial
  | _ :: _, [], _, h, _ => False.elim h
  | _ :: _, _ :: _, [], _, h => False.elim h
  | a :: p, b :: q, c :: r, h1, h2 => by
    rcases h1 with h1 | ⟨rfl, h1⟩ <;> rcases h2 with h2 | ⟨rfl, h2⟩
    · exact .inl (by omega)
    · exact .inl h1
    · exact .inl h2
    · exact .inr ⟨rfl, lx_trans h1 h2⟩
theorem lx_tri : ∀ p q : List Nat, lx p q ∨ p = q ∨ lx q p
  | [], [] => .inr (.inl rfl)
  | [], _ :: _ => .inl trivial
  | _ :: _, [] => .inr (.inr trivial)
  | a :: p, b :: q => by
    rcases Nat.lt_trichotomy a b with h | h | h
    · exact .inl (.inl h)
    · subst h
      rcases lx_tri p q with z | z | z
      · exact .inl (.inr ⟨rfl, z⟩)
      · exact .inr (.inl (by rw [z]))
      · exact .inr (.inr (.inr ⟨rfl, z⟩))
    · exact .inr (.inr (.inl h))
theorem lx_app : ∀ {p q : List Nat} (r s : List Nat), p.length = q.length → lx p q → lx (p ++ r) (q ++ s)
  | [], [], _, _, _, h => False.elim h
  | [], _ :: _, _, _, e, _ => by simp at e
  | _ :: _, [], _, _, e, _ => by simp at e
  | a :: p, b :: q, r, s, e, h => by
    rcases h with h | ⟨h1, h⟩
    · exact .inl h
    · exact .inr ⟨h1, lx_app r s (by simpa using e) h⟩
theorem lx_last : ∀ (p : List Nat) {a b : Nat}, a < b → lx (p ++ [a]) (p ++ [b])
  | [], _, _, h => .inl h
  | _ :: p, _, _, h => .inr ⟨rfl, lx_last p h⟩
def SS (p q : List Nat) : Prop := p.length < q.length ∨ (p.length = q.length ∧ lx p q)
theorem SS.trans {p q r : List Nat} (h1 : SS p q) (h2 : SS q r) : SS p r := by
  rcases h1 with h1 | ⟨e1, h1⟩ <;> rcases h2 with h2 | ⟨e2, h2⟩
  · exact .inl (by omega)
  · exact .inl (by omega)
  · exact .inl (by omega)
  · exact .inr ⟨by omega, lx_trans h1 h2⟩
theorem SS.app {p q : List Nat} (x y : Nat) (h : SS p q) : SS (p ++ [x]) (q ++ [y]) := by
  rcases h with h | ⟨e, h⟩
  · exact .inl (by simp; omega)
  · exact .inr ⟨by simp [e], lx_app _ _ e h⟩
theorem SS.last (p : List Nat) {x y : Nat} (h : x < y) : SS (p ++ [x]) (p ++ [y]) := .inr ⟨by simp, lx_last p h⟩
theorem SS.snoc (p : List Nat) (x : Nat) : SS p (p ++ [x]) := .inl (by simp)
/-- a walk -/
inductive Wk (ps : List (Nat × Nat)) (a : Nat) : Nat → List Nat → Prop
  | one : Wk ps a a [a]
  | step {b c : Nat} {w : List Nat} : Wk ps a b w → (b, c) ∈ ps → Wk ps a c (w ++ [c])
theorem Wk.ne {ps : List (Nat × Nat)} {a b : Nat} {w : List Nat} (h : Wk ps a b w) : w ≠ [] := by
  cases h <;> simp
/-- what is found: each column that is reached, with the first of the shortest walks -/
structure FW (ps : List (Nat × Nat)) (st : Nat) (ws : List (Nat × List Nat)) : Prop where
  nd : (ws.map (·.1)).Nodup
  lt : ∀ e ∈ ws, e.1 < 6
  wk : ∀ e ∈ ws, Wk ps st e.1 e.2
  fst : ∀ c q, Wk ps st c q → ∃ v, (c, v) ∈ ws ∧ (v = q ∨ SS v q)
  len : ∀ e ∈ ws, e.2.length ≤ ws.length
/-- between two turns: n columns are through -/
structure BI (ps : List (Nat × Nat)) (st : Nat) (ws : List (Nat × List Nat)) (n : Nat) : Prop where
  nd : (ws.map (·.1)).Nodup
  lt : ∀ e ∈ ws, e.1 < 6
  wk : ∀ e ∈ ws, Wk ps st e.1 e.2
  ord : ∀ (i j : Nat) (e f : Nat × List Nat), i < j → ws[i]? = some e → ws[j]? = some f → SS e.2 f.2
  beg : (st, [st]) ∈ ws
  le : n ≤ ws.length
  len : ∀ (i : Nat) (e : Nat × List Nat), ws[i]? = some e → e.2.length ≤ i + 1
  don : ∀ (i : Nat) (e : Nat × List Nat), i < n → ws[i]? = some e → ∀ b, (e.1, b) ∈ ps → ∃ v, (b, v) ∈ ws ∧ (v = e.2 ++ [b] ∨ SS v (e.2 ++ [b]))
  low : ∀ e ∈ ws, ∀ (j : Nat) (f : Nat × List Nat), n ≤ j → ws[j]? = some f → ∀ x, SS e.2 (f.2 ++ [x])
theorem BI.start {ps : List (Nat × Nat)} {st : Nat} (h : st < 6) : BI ps st [(st, [st])] 0 where
  nd := by simp
  lt := fun e he => by rw [List.mem_singleton.mp he]; exact h
  wk := fun e he => by rw [List.mem_singleton.mp he]; exact .one
  ord := fun i j e f hij h1 h2 => by
    have := (List.getElem?_eq_some_iff.mp h2).1
    simp at this
    omega
  beg := List.mem_singleton.mpr rfl
  le := Nat.zero_le _
  len := fun i e h => by
    have : e ∈ [(st, [st])] := List.mem_of_getElem? h
    rw [List.mem_singleton.mp this]
    simp
  don := fun i e hi => absurd hi (Nat.not_lt_zero _)
  low := fun e he j f _ hf x => by
    have : f ∈ [(st, [st])] := List.mem_of_getElem? hf
    rw [List.mem_singleton.mp he, List.mem_singleton.mp this]
    exact SS.snoc _ _
theorem BI.out {ps : List (Nat × Nat)} {st : Nat} {ws : List (Nat × List Nat)} {n : Nat} (h : BI ps st ws n) (hn : ws.length ≤ n) : FW ps st ws where
  nd := h.nd
  lt := h.lt
  wk := h.wk
  fst := fun c q w => by
    induction w with
    | one => exact ⟨_, h.beg, .inl rfl⟩
    | @step b c w w1 hb ih =>
      obtain ⟨v, hv, e⟩ := ih
      obtain ⟨i, hi⟩ := List.mem_iff_getElem?.mp hv
      have il := (List.getElem?_eq_some_iff.mp hi).1
      obtain ⟨u, hu, e2⟩ := h.don i _ (by omega) hi c hb
      refine ⟨u, hu, ?_⟩
      rcases e with rfl | e
      · exact e2
      · rcases e2 with rfl | e2
        · exact .inr (e.app _ _)
        · exact .inr (e2.trans (e.app _ _))
  len := fun e he => by
    obtain ⟨i, hi⟩ := List.mem_iff_getElem?.mp he
    have := h.len i e hi
    have := (List.getElem?_eq_some_iff.mp hi).1
    omega
/-- within a turn, the column c with the way w: the new ones -/
def nws (w : List Nat) (nb : List Nat) : List (Nat × List Nat) := nb.map fun b => (b, w ++ [b])
structure TI (ps : List (Nat × Nat)) (ws : List (Nat × List Nat)) (c : Nat) (w : List Nat) (bs : List Nat) (i : Nat) (nb : List Nat) : Prop where
  inc : nb.Pairwise (· < ·)
  sub : ∀ b ∈ nb, b ∈ bs.take i
  new : ∀ b ∈ nb, b ∉ ws.map (·.1)
  all : ∀ b ∈ bs.take i, b ∈ ws.map (·.1) ∨ b ∈ nb
theorem TI.start {ps : List (Nat × Nat)} {ws : List (Nat × List Nat)} {c : Nat} {w bs : List Nat} : TI ps ws c w bs 0 [] where
  inc := .nil
  sub := fun _ h => nomatch h
  new := fun _ h => nomatch h
  all := fun _ h => by simp at h
theorem take1 {α : Type} {l : List α} {i : Nat} {x : α} (h : l[i]? = some x) : l.take (i + 1) = l.take i ++ [x] := by
  rw [List.take_succ, h]
  rfl
theorem nws_keys (w nb : List Nat) : (nws w nb).map (·.1) = nb := by
  unfold nws
  rw [List.map_map]
  exact List.map_id' nb
theorem TI.old {ps : List (Nat × Nat)} {ws : List (Nat × List Nat)} {c : Nat} {w bs nb : List Nat} {i b : Nat} (h : TI ps ws c w bs i nb) (hb : bs[i]? = some b) (hm : b ∈ (ws ++ nws w nb).map (·.1)) : TI ps ws c w bs (i + 1) nb where
  inc := h.inc
  sub := fun x hx => by
    rw [take1 hb]
    exact List.mem_append_left _ (h.sub x hx)
  new := h.new
  all := fun x hx => by
    rw [take1 hb] at hx
    rcases List.mem_append.mp hx with z | z
    · exact h.all x z
    · rw [List.mem_singleton.mp z]
      rw [List.map_append, nws_keys] at hm
      exact List.mem_append.mp hm
theorem TI.add {ps : List (Nat × Nat)} {ws : List (Nat × List Nat)} {c : Nat} {w bs nb : List Nat} {i b : Nat} (h : TI ps ws c w bs i nb) (hs : bs.Pairwise (· ≤ ·)) (hb : bs[i]? = some b) (hm : b ∉ (ws ++ nws w nb).map (·.1)) : TI ps ws c w bs (i + 1) (nb ++ [b]) where
  inc := by
    rw [List.pairwise_append]
    refine ⟨h.inc, by simp, fun x hx y hy => ?_⟩
    rw [List.mem_singleton.mp hy]
    have hx2 := h.sub x hx
    obtain ⟨j, hj⟩ := List.mem_iff_getElem?.mp hx2
    have jl := (List.getElem?_eq_some_iff.mp hj).1
    rw [List.length_take] at jl
    have ji : j < i := by omega
    rw [List.getElem?_take_of_lt ji] at hj
    have le : x ≤ b := by
      obtain ⟨l1, e1⟩ := List.getElem?_eq_some_iff.mp hj
      obtain ⟨l2, e2⟩ := List.getElem?_eq_some_iff.mp hb
      have := List.pairwise_iff_getElem.mp hs j i l1 l2 ji
      rw [e1, e2] at this
      exact this
    have ne : x ≠ b := fun e => hm (by rw [List.map_append, nws_keys, ← e]; exact List.mem_append_right _ hx)
    omega
  sub := fun x hx => by
    rw [take1 hb]
    rcases List.mem_append.mp hx with z | z
    · exact List.mem_append_left _ (h.sub x z)
    · exact List.mem_append_right _ z
  new := fun x hx => by
    rcases List.mem_append.mp hx with z | z
    · exact h.new x z
    · rw [List.mem_singleton.mp z]
      intro q
      exact hm (by rw [List.map_append]; exact List.mem_append_left _ q)
  all := fun x hx => by
    rw [take1 hb] at hx
    rcases List.mem_append.mp hx with z | z
    · rcases h.all x z with y | y
      · exact .inl y
      · exact .inr (List.mem_append_left _ y)
    · exact .inr (List.mem_append_right _ z)
theorem nws_mem {w nb : List Nat} {e : Nat × List Nat} : e ∈ nws w nb ↔ e.1 ∈ nb ∧ e.2 = w ++ [e.1] := by
  unfold nws
  rw [List.mem_map]
  constructor
  · rintro ⟨b, hb, rfl⟩
    exact ⟨hb, rfl⟩
  · rintro ⟨h1, h2⟩
    exact ⟨e.1, h1, by rw [← h2]⟩
/-- the turn's end -/
theorem BI.turn {ps : List (Nat × Nat)} {st : Nat} {ws : List (Nat × List Nat)} {n : Nat} (h : BI ps st ws n) {c : Nat} {w bs nb : List Nat} (hc : ws[n]? = some (c, w)) (hbs : ∀ b, b ∈ bs ↔ (c, b) ∈ ps) (hlt : ∀ x ∈ ps, x.1 < 6 ∧ x.2 < 6) (t : TI ps ws c w bs bs.length nb) : BI ps st (ws ++ nws w nb) (n + 1) := by
  have all : ∀ b ∈ bs, b ∈ ws.map (·.1) ∨ b ∈ nb := fun b hb => t.all b (by rw [List.take_length]; exact hb)
  have sub : ∀ b ∈ nb, (c, b) ∈ ps := fun b hb => (hbs b).mp (by have := t.sub b hb; rw [List.take_length] at this; exact this)
  have hw := h.wk _ (List.mem_of_getElem? hc)
  have nl := (List.getElem?_eq_some_iff.mp hc).1
  have at_ : ∀ {j : Nat} {f : Nat × List Nat}, (ws ++ nws w nb)[j]? = some f → (j < ws.length ∧ ws[j]? = some f) ∨ (ws.length ≤ j ∧ (nws w nb)[j - ws.length]? = some f) := fun {j f} hf => by
    by_cases lt : j < ws.length
    · rw [List.getElem?_append_left lt] at hf
      exact .inl ⟨lt, hf⟩
    · rw [List.getElem?_append_right (by omega)] at hf
      exact .inr ⟨by omega, hf⟩
  constructor
  · rw [List.map_append, nws_keys]
    refine List.nodup_append.mpr ⟨h.nd, t.inc.imp (fun h => by omega), fun x hx y hy e => ?_⟩
    subst e
    exact t.new x hy hx
  · intro e he
    rcases List.mem_append.mp he with z | z
    · exact h.lt e z
    · exact (hlt _ (sub _ (nws_mem.mp z).1)).2
  · intro e he
    rcases List.mem_append.mp he with z | z
    · exact h.wk e z
    · obtain ⟨z1, z2⟩ := nws_mem.mp z
      rw [z2]
      exact hw.step (sub _ z1)
  · intro i j e f hij hi hj
    rcases at_ hi with ⟨i1, i2⟩ | ⟨i1, i2⟩ <;> rcases at_ hj with ⟨j1, j2⟩ | ⟨j1, j2⟩
    · exact h.ord i j e f hij i2 j2
    · rw [(nws_mem.mp (List.mem_of_getElem? j2)).2]
      exact h.low e (List.mem_of_getElem? i2) n _ (Nat.le_refl _) hc _
    · omega
    · rw [(nws_mem.mp (List.mem_of_getElem? j2)).2, (nws_mem.mp (List.mem_of_getElem? i2)).2]
      refine SS.last _ ?_
      unfold nws at i2 j2
      rw [List.getElem?_map] at i2 j2
      cases hi3 : nb[i - ws.length]? with
      | none => rw [hi3] at i2; cases i2
      | some x =>
        cases hj3 : nb[j - ws.length]? with
        | none => rw [hj3] at j2; cases j2
        | some y =>
          rw [hi3] at i2
          rw [hj3] at j2
          cases i2
          cases j2
          obtain ⟨l1, e1⟩ := List.getElem?_eq_some_iff.mp hi3
          obtain ⟨l2, e2⟩ := List.getElem?_eq_some_iff.mp hj3
          have := List.pairwise_iff_getElem.mp t.inc _ _ l1 l2 (by omega)
          rw [e1, e2] at this
          exact this
  · exact List.mem_append_left _ h.beg
  · rw [List.length_append]
    omega
  · intro i e hi
    rcases at_ hi with ⟨i1, i2⟩ | ⟨i1, i2⟩
    · exact h.len i e i2
    · rw [(nws_mem.mp (List.mem_of_getElem? i2)).2, List.length_append]
      have := h.len n _ hc
      simp only [List.length_singleton] at this ⊢
      omega
  · intro i e hi he b hb
    rcases at_ he with ⟨i1, i2⟩ | ⟨i1, i2⟩
    · by_cases lt : i < n
      · obtain ⟨v, hv, q⟩ := h.don i e lt i2 b hb
        exact ⟨v, List.mem_append_left _ hv, q⟩
      · have : i = n := by omega
        subst this
        rw [hc] at i2
        cases i2
        rcases all b ((hbs b).mpr hb) with z | z
        · obtain ⟨⟨b', v⟩, hv, rfl⟩ := List.mem_map.mp z
          exact ⟨v, List.mem_append_left _ hv, .inr (h.low _ hv i _ (Nat.le_refl _) hc _)⟩
        · exact ⟨w ++ [b], List.mem_append_right _ (nws_mem.mpr ⟨z, rfl⟩), .inl rfl⟩
    · omega
  · intro e he j f hj hf x
    have old : ∀ e ∈ ws, ∀ b, SS e.2 (w ++ [b]) := fun e he b => h.low e he n _ (Nat.le_refl _) hc b
    rcases List.mem_append.mp he with z | z
    · rcases at_ hf with ⟨j1, j2⟩ | ⟨j1, j2⟩
      · exact h.low e z j f (by omega) j2 x
      · rw [(nws_mem.mp (List.mem_of_getElem? j2)).2]
        exact (old e z _).trans (SS.snoc _ _)
    · rw [(nws_mem.mp z).2]
      rcases at_ hf with ⟨j1, j2⟩ | ⟨j1, j2⟩
      · exact (h.ord n j _ _ (by omega) hc j2).app _ _
      · rw [(nws_mem.mp (List.mem_of_getElem? j2)).2]
        exact .inl (by simp)
end CC
namespace CC
open PySem L2 TL
def rLenSq (K : PySem.W.Frag) : List V → Hp → VK → Prop := fun xs H Q => ∃ p ys, xs = [V.ref p] ∧ (SqL K H p ys ∨ SqT K H p ys) ∧ Q (V.int ((ys.length : Nat) : Int)) H
theorem call_lenSq {X : Cx} : CallR X (.builtin "len") (rLenSq X.K) := call_len_seq
def lcScT : Expr → Scope
  | .ListComp _ _ sc _ => sc
  | _ => { kind := .function, names := [], isGenerator := false, isCoroutine := false }
section
variable {P : Program} {w : World} {K : PySem.W.Frag} {mg : Str → Option Value} {base : Heap} {kA : Addr}
end
end CC
namespace CC
open PySem L2 TL
def flT0 (w : Nat) : List (Str × V) := putF "span" (.int (w : Int)) []
def fldT (w : Nat) (g : Addr) : List (Str × V) := putF "lines" (.ref g) (flT0 w)
theorem slN : ¬ (("span" : Str) = "lines") := by decide +kernel
theorem fldT_span (w : Nat) (g : Addr) : (fldT w g).lookup ("span" : Str) = some (.int (w : Int)) := by
  unfold fldT flT0
  rw [lookup_putF, if_neg slN, lookup_putF, if_pos rfl]
theorem fldT_lines (w : Nat) (g : Addr) : (fldT w g).lookup ("lines" : Str) = some (.ref g) := by
  unfold fldT
  rw [lookup_putF, if_pos rfl]
/-- a table stands at x -/
def TableAt (K : PySem.W.Frag) (C : Addr) (H : Hp) (x : Addr) (w : Nat) (rows : List (List Nat)) : Prop := ∃ dx g us, H x = some (.ins C dx (fldT w g)) ∧ H g = some (.tup us) ∧ DpAll K H us (rows.map gd)
theorem TableAt.same {K : PySem.W.Frag} {C : Addr} {H H' : Hp} {x : Addr} {w : Nat} {rows : List (List Nat)} (h : TableAt K C H x w rows) (e : Same H H') : TableAt K C H' x w rows := by
  obtain ⟨dx, g, us, h1, h2, h3⟩ := h
  exact ⟨dx, g, us, e _ _ h1, e _ _ h2, dps_same e _ _ h3⟩
structure TxtT (K : PySem.W.Frag) (mg : Str → Option Value) (C : Addr) : Prop where
  cl : Cls K C
  nS : NoAttr K C "span"
  nL : NoAttr K C "lines"
  mgC : mg "Table" = some (.ref C)
def spTInit (K : PySem.W.Frag) (C : Addr) : Sp := fun vs H Q _ => ∃ (x dx : Addr) (w : Nat) (p : Addr) (us : List V) (rows : List (List Nat)), vs = [.ref x, .int (w : Int), .ref p] ∧ H x = some (.ins C dx []) ∧ 1 ≤ w ∧ w ≤ 6 ∧ H p = some (.tup us) ∧ DpAll K (wo H x) us (rows.map gd) ∧
  (∀ r ∈ rows, RowOk w r) ∧ rows.length ≤ 400 ∧ ∀ H', (∀ b o, H b = some o → b ≠ x → H' b = some o) → H' x = some (.ins C dx (fldT w p)) → Q .non H'
def spTInitR (K : PySem.W.Frag) (C : Addr) : Sp := fun vs H Q E => ∃ ws rest, vs = ws ++ rest ∧ ws.length = 2 ∧ rest.length ≤ sizeLine ∧ ∀ p, H p = Option.none → spTInit K C (ws ++ [V.ref p]) (upd H p (.tup rest)) Q E
structure MakeT (P : Program) (w : World) (K : PySem.W.Frag) (mg : Str → Option Value) (base : Heap) (C : Addr) (l : Nat) where
  fN : Addr
  M : Mk K C fN
  ok : ∀ k, l ≤ k → FnR P w K mg base CX0 k fN (spTInitR K C)
section
variable {P : Program} {w : World} {K : PySem.W.Frag} {mg : Str → Option Value} {base : Heap} {kA : Addr}
abbrev nTI : List Str := ["self", "width", "rows", "row"]
theorem scTInit : FnScope nTI ((["self", "width"] : List Str) ++ ([("rows" : Str)] : List Str)) (defScope sTInit) := ⟨rfl, rfl, rfl, by decide +kernel, rfl, by decide +kernel, by decide +kernel⟩
theorem ok_tinit {f C : Addr} {fd : FuncData} {k : Nat} (F : Fun K "__init__" "Table.__init__" sTInit f fd) (T : Glb K mg kA) (TT : GlbT mg) (TC : TxtT K mg C) (cW : Cal P w K mg base "is_width" ["thing"] spIsWidth 2) (cR : Cal P w K mg base "is_row" ["width", "thing"] (spIsRow K) 2) :
    FnR P w K mg base CX0 (k + 3) f (spTInitR K C) := by
  have GW := cW.ok (k + 2) (by omega)
  have GR := cR.ok (k + 2) (by omega)
  obtain ⟨oc, od, kV, doc, pm, an, cdv, ct, osl, rfl, lk, hcd⟩ := F.ex
  refine StX.fn_star (ps := ["self", "width"]) (pv := "rows") lk hcd scTInit StX.cxUp_none (fun us rest hl => ?_) (fun A outer s H vs Q E hr h => ?_)
  · match us, hl with
    | [a, b], _ =>
      cases rest with
      | nil => rfl
      | cons c r => rfl
  · obtain ⟨x, dx, w, p, us, rows, rfl, hx, w1, w6, hp, dp, ok, few, q⟩ := h
    obtain ⟨tm, hmr⟩ := TT.mr
    have n := scTInit.nd
    refine ⟨_, PSs.nox (pss_cons (ps_if (pt_not (pt_val (pe_call GW hr rfl cW.g cW.kp cW.b .nil pass0 (pa_cons (pv 1) pa_nil)))) (pss_one ps_never) pss_nil)
      (pss_cons (ps_if (pt_cmpR op_gt (pe_callB call_len_seq (by rfl) T.len PySem.boot_len (pa_cons (pv 2) pa_nil)) (pe_glob (v := .int 400) rfl hmr ⟨_, rfl⟩) (nomark _)) (pss_one ps_never) pss_nil)
      (pss_cons (ps_if (pt_not (pt_val (pe_callB (cr_all rfl) (by rfl) T.all (by decide +kernel) (pa_cons (pe_lc (own := [("row", 3)]) (g := gName 3) (tt := tYes) (te := tCall (spIsRow K) [] E0 (tCons (tVar 1) (tCons (tVar 3) tNil))) rfl n (pi_tup (pv 2)) (blkOk_by (N := nTI) (sc := defScope sTInit) (by decide +kernel))
        (fun _ _ _ _ _ => (pg_name (i := 3) n rfl (.inl rfl))) (fun _ _ _ _ _ => pts_nil) (fun _ _ _ _ _ => (pe_call GR hr rfl cR.g cR.kp cR.b .nil pass0 (pa_cons (pv 1) (pa_cons (pv 3) pa_nil))))) pa_nil)))) (pss_one ps_never) pss_nil)
      (pss_cons (ps_fld (pv 0) (pv 1) rfl) (pss_one (ps_fld (pv 0) (pv 2) rfl)))))), ?_⟩
    have ul : us.length = rows.length := by rw [dps_len dp, List.length_map]
    refine ⟨_, rfl, w, rfl, w1, w6, _, rfl, iteF ?_⟩
    refine ⟨_, rfl, p, us, rfl, .inr (.inl (.inl hp)), _, _, rfl, rfl, _, rfl, ?_⟩
    rw [show decide (((us.length : Nat) : Int) > (400 : Int)) = false from decide_eq_false (by omega)]
    refine iteF ?_
    refine ⟨_, rfl, p, rfl, ⟨_, .inl (.inl hp)⟩, fun D nD => ?_⟩
    refine lc_tup (xs := us) (fun i H1 => Same H (wo H1 D) ∧ H1 D = some (.lst ((List.replicate i true).map V.bl)) ∧ i ≤ 400) ⟨?_, upd_same, by omega⟩ (fun i H1 _ z => .inl (.inl (wo_le D _ _ (z.1 _ _ hp)))) ?_ ?_
    · rw [wo_upd]
      exact fun b o e => by rw [wo_ne (ne_of_none e nD)]; exact e
    · rintro i v H1 hv ⟨e1, e2, e3⟩
      obtain ⟨r, hr2, dr⟩ := dps_gat dp hv
      have il := (List.getElem?_eq_some_iff.mp hr2).1
      obtain ⟨t, rfl, ht⟩ := gd_at dr
      have sx : Same (wo H x) H1 := (wo_le x).trans (e1.trans (wo_le D))
      refine ⟨rfl, yes_if ⟨_, rfl, _, rfl, w, t, r, rfl, same_t sx ht, ok r (List.mem_of_getElem? hr2), w6, fun H2 s2 => ?_⟩⟩
      refine ⟨_, s2 _ _ e2, small1000 (by simp; omega), ?_, ?_, by omega⟩
      · rw [wo_upd]
        exact e1.trans (wo_same s2)
      · rw [upd_same, List.replicate_succ', List.map_append]
        rfl
    rintro H1 ⟨e1, e2, _⟩
    refine ⟨D, _, rfl, SqL.of e2, _, rfl, ?_⟩
    rw [all_true]
    refine iteF ?_
    have m1 : Same H H1 := e1.trans (wo_le D)
    have hx1 := m1 _ _ hx
    refine ⟨_, rfl, _, rfl, x, C, dx, _, rfl, hx1, TC.cl, TC.nS, (by show 0 < 1000; decide), ?_⟩
    refine ⟨_, rfl, _, rfl, x, C, dx, _, rfl, upd_same, TC.cl, TC.nL, (by show 1 < 1000; decide), ?_⟩
    refine q _ (fun b o e hb => ?_) upd_same
    rw [upd_ne hb, upd_ne hb]
    exact m1 _ _ e
end
end CC
namespace CC
open PySem L2 TL
/-- Table(width, *rows), the rows good ones -/
theorem mkT_go {K : PySem.W.Frag} {C : Addr} {H : Hp} {w : Nat} {us : List V} {rows : List (List Nat)} {x dx : Addr} {Q : VK} {E : XK} (w1 : 1 ≤ w) (w6 : w ≤ 6) (ok : ∀ r ∈ rows, RowOk w r) (few : rows.length ≤ 400) (dp : DpAll K H us (rows.map gd)) (nx : H x = none) (ndx : H dx = none) (ne : dx ≠ x)
    (q : ∀ H', Same H H' → TableAt K C H' x w rows → Q .non H') : spTInitR K C (V.ref x :: V.int (w : Int) :: (us ++ [])) (upd (upd H dx (.own x)) x (.ins C dx [])) Q E := by
  have ul : us.length = rows.length := by rw [dps_len dp, List.length_map]
  rw [List.append_nil]
  refine ⟨[.ref x, .int (w : Int)], us, rfl, rfl, Nat.le_of_lt (small1000 (by omega)), fun g ng => ?_⟩
  have gx : x ≠ g := fun z => by rw [← z, upd_same] at ng; cases ng
  have gdx : dx ≠ g := fun z => by rw [← z, upd_ne ne, upd_same] at ng; cases ng
  have ng1 : H g = none := by
    rw [upd_ne gx.symm, upd_ne gdx.symm] at ng
    exact ng
  have keep : ∀ b o, H b = some o → (upd (upd (upd H dx (.own x)) x (.ins C dx [])) g (.tup us)) b = some o := fun b o e => by
    rw [upd_ne (ne_of_none e ng1), upd_ne (ne_of_none e nx), upd_ne (ne_of_none e ndx)]
    exact e
  refine ⟨x, dx, w, g, us, rows, rfl, by rw [upd_ne gx]; exact upd_same, w1, w6, upd_same, dps_same ?_ _ _ dp, ok, few, fun H' k1 k2 => q H' ?_ ⟨dx, g, us, k2, ?_, ?_⟩⟩
  · exact fun b o e => by
      rw [wo_ne (ne_of_none e nx)]
      exact keep b o e
  · exact fun b o e => k1 b o (keep b o e) (ne_of_none e nx)
  · exact k1 g _ upd_same gx.symm
  · exact dps_same (fun b o e => k1 b o (keep b o e) (ne_of_none e nx)) _ _ dp
end CC
namespace CC
open PySem L2
/-- the heap without some objects -/
def wos (H : Hp) (l : List Addr) : Hp := fun b => if b ∈ l then none else H b
section
variable {H H' H2 : Hp} {l m : List Addr} {b s : Addr} {o : HO}
theorem wos_in (h : b ∉ l) : wos H l b = H b := if_neg h
theorem wos_at (h : wos H l b = some o) : b ∉ l ∧ H b = some o := by
  by_cases e : b ∈ l
  · unfold wos at h
    rw [if_pos e] at h
    cases h
  · exact ⟨e, (wos_in e).symm.trans h⟩
theorem wos_le (l : List Addr) : Same (wos H l) H := fun b o e => (wos_at e).2
theorem wos_mono (h : ∀ b ∈ l, b ∈ m) : Same (wos H m) (wos H l) := fun b o e => by
  obtain ⟨n, e⟩ := wos_at e
  rw [wos_in fun z => n (h b z)]
  exact e
/-- all that stands, but for l, stays -/
def Kp (l : List Addr) (H H' : Hp) : Prop := ∀ b o, H b = some o → b ∉ l → H' b = some o
theorem Kp.same (k : Kp l H H') : Same (wos H l) (wos H' l) := fun b o e => by
  obtain ⟨n, e⟩ := wos_at e
  rw [wos_in n]
  exact k b o e n
theorem Kp.to (k : Kp l H H') : Same (wos H l) H' := k.same.trans (wos_le l)
theorem Kp.trans (a : Kp l H H') (c : Kp l H' H2) : Kp l H H2 := fun b o e n => c b o (a b o e n) n
theorem Kp.up (k : Kp l H H') (h : ∀ b ∈ l, b ∈ m) : Kp m H H' := fun b o e n => k b o e fun z => n (h b z)
theorem Kp.of (e : Same H H') : Kp l H H' := fun b o q _ => e b o q
theorem Kp.upd (h : s ∈ l) : Kp l H (L2.upd H s o) := fun b u e n => by
  rw [upd_ne (a := s) (b := b) fun z => n (by rw [z]; exact h)]
  exact e
theorem Kp.new (h : H s = none) : Kp l H (L2.upd H s o) := .of (same_new h)
theorem Kp.ran (r : Ran H H' s) (h : s ∈ l) : Kp l H H' := fun b o e n => r.at_ e fun z => n (by rw [z]; exact h)
theorem Same.kp (e : Same H H') (k : Kp l H' H2) : Kp l H H2 := fun b o q n => k b o (e b o q) n
theorem wo_wos : wo H s = wos H [s] := by
  funext b
  by_cases e : b = s
  · subst e
    rw [wo_at]
    unfold wos
    rw [if_pos (List.mem_singleton.mpr rfl)]
  · rw [wo_ne e, wos_in (by simpa using e)]
end
end CC
namespace CC
open PySem L2 TL
/-- a property of an own class: a field's value -/
structure Prp (P : Program) (w : World) (K : PySem.W.Frag) (mg : Str → Option Value) (base : Heap) (C : Addr) (f fld : Str) where
  p : Addr
  g : Addr
  fd : FuncData
  hp : PropOf K C f p g
  ok : ∀ k, 1 ≤ k → FnOk P w K mg base CX0 k g fd ["self"] (getSp C fld)
  b : Binds K fd ["self"] []
/-- a property, by its promise -/
structure PrpG (P : Program) (w : World) (K : PySem.W.Frag) (mg : Str → Option Value) (base : Heap) (C : Addr) (f : Str) (sp : Sp) where
  p : Addr
  g : Addr
  fd : FuncData
  hp : PropOf K C f p g
  ok : ∀ k, 1 ≤ k → FnOk P w K mg base CX0 k g fd ["self"] sp
  b : Binds K fd ["self"] []
end CC
namespace CC
open PySem L2 TL
/-! ### a log: its rules, its table, the tables that were -/
def fldL (b h p : Addr) : List (Str × V) := [("book", .ref b), ("held", .ref h), ("past", .ref p)]
theorem putF_at (f : Str) (v u : V) (r : List (Str × V)) : putF f v ((f, u) :: r) = (f, v) :: r := if_pos rfl
theorem putF_on {f g : Str} (n : ¬ g = f) (v u : V) (r : List (Str × V)) : putF f v ((g, u) :: r) = (g, u) :: putF f v r := if_neg n
theorem putF_len (f : Str) (v : V) : ∀ fs : List (Str × V), (putF f v fs).length ≤ fs.length + 1
  | [] => Nat.le_refl _
  | (g, x) :: r => by
    show (if g = f then (g, v) :: r else (g, x) :: putF f v r).length ≤ _
    split
    · exact Nat.le_succ _
    · exact Nat.succ_le_succ (putF_len f v r)
theorem n_bh : ¬ (("book" : Str) = "held") := by decide +kernel
theorem n_bp : ¬ (("book" : Str) = "past") := by decide +kernel
theorem n_hp : ¬ (("held" : Str) = "past") := by decide +kernel
theorem fldL_put (b h p : Addr) : putF "past" (.ref p) (putF "held" (.ref h) (putF "book" (.ref b) [])) = fldL b h p := by
  show putF "past" (.ref p) (putF "held" (.ref h) [("book", .ref b)]) = _
  rw [putF_on n_bh]
  show putF "past" (.ref p) [("book", .ref b), ("held", .ref h)] = _
  rw [putF_on n_bp, putF_on n_hp]
  rfl
theorem fldL_at (b h p : Addr) (m : Str) : (fldL b h p).lookup m = if m = "past" then some (.ref p) else if m = "held" then some (.ref h) else if m = "book" then some (.ref b) else none := by
  rw [← fldL_put, lookup_putF, lookup_putF, lookup_putF]
  rfl
theorem fldL_b (b h p : Addr) : (fldL b h p).lookup ("book" : Str) = some (.ref b) := by
  rw [fldL_at, if_neg n_bp, if_neg n_bh, if_pos rfl]
theorem fldL_h (b h p : Addr) : (fldL b h p).lookup ("held" : Str) = some (.ref h) := by
  rw [fldL_at, if_neg n_hp, if_pos rfl]
theorem fldL_p (b h p : Addr) : (fldL b h p).lookup ("past" : Str) = some (.ref p) := by
  rw [fldL_at, if_pos rfl]
theorem fldL_no (b h p : Addr) {m : Str} (h1 : ¬ m = "past") (h2 : ¬ m = "held") (h3 : ¬ m = "book") : (fldL b h p).lookup m = none := by
  rw [fldL_at, if_neg h1, if_neg h2, if_neg h3]
/-- a log at x: r its rules, t its table, q the list of the tables that were -/
structure LogAt (K : PySem.W.Frag) (C CR CT : Addr) (H : Hp) (x r q : Addr) (w : Nat) (rs : List R) (rows : List (List Nat)) (n : Nat) : Prop where
  at_ : ∃ dx t, H x = some (.ins C dx (fldL r t q)) ∧ TableAt K CT (wos H [x, q]) t w rows
  book : RulesAt K CR (wos H [x, q]) r w rs
  past : ∃ hs, H q = some (.lst hs) ∧ hs.length = n
theorem LogAt.ne {K : PySem.W.Frag} {C CR CT : Addr} {H : Hp} {x r q : Addr} {w n : Nat} {rs : List R} {rows : List (List Nat)} (h : LogAt K C CR CT H x r q w rs rows n) : x ≠ q := by
  obtain ⟨dx, t, h1, _⟩ := h.at_
  obtain ⟨hs, h2, _⟩ := h.past
  exact ne_of h1 h2 (by intro z; cases z)
theorem LogAt.keep {K : PySem.W.Frag} {C CR CT : Addr} {H H' : Hp} {x r q : Addr} {w n : Nat} {rs : List R} {rows : List (List Nat)} (h : LogAt K C CR CT H x r q w rs rows n) (e : Same H H') : LogAt K C CR CT H' x r q w rs rows n := by
  obtain ⟨⟨dx, t, h1, h2⟩, h3, ⟨hs, h4, h5⟩⟩ := h
  have k : Same (wos H [x, q]) (wos H' [x, q]) := (Kp.of e).same
  exact ⟨⟨dx, t, e _ _ h1, h2.same k⟩, h3.same k, ⟨hs, e _ _ h4, h5⟩⟩
/-- a change elsewhere, s say -/
theorem LogAt.kp {K : PySem.W.Frag} {C CR CT : Addr} {H H' : Hp} {x r q : Addr} {w n : Nat} {rs : List R} {rows : List (List Nat)} {l : List Addr} (k : Kp l H H') (nx : x ∉ l) (nq : q ∉ l) (at_ : ∃ dx t, H x = some (.ins C dx (fldL r t q)) ∧ TableAt K CT (wos H (x :: q :: l)) t w rows) (book : RulesAt K CR (wos H (x :: q :: l)) r w rs) (past : ∃ hs, H q = some (.lst hs) ∧ hs.length = n) : LogAt K C CR CT H' x r q w rs rows n := by
  obtain ⟨dx, t, h1, h2⟩ := at_
  obtain ⟨hs, h4, h5⟩ := past
  have k2 : Same (wos H (x :: q :: l)) (wos H' [x, q]) := fun b o e => by
    obtain ⟨nb, e⟩ := wos_at e
    rw [wos_in fun z => nb (by simp only [List.mem_cons, List.not_mem_nil, or_false] at z ⊢; rcases z with z | z; exact .inl z; exact .inr (.inl z))]
    exact k b o e fun z => nb (List.mem_cons_of_mem _ (List.mem_cons_of_mem _ z))
  exact ⟨⟨dx, t, k _ _ h1 nx, h2.same k2⟩, book.same k2, ⟨hs, k _ _ h4 nq, h5⟩⟩
structure TxtL (K : PySem.W.Frag) (mg : Str → Option Value) (C : Addr) : Prop where
  cl : Cls K C
  nB : NoAttr K C "book"
  nH : NoAttr K C "held"
  nP : NoAttr K C "past"
  mgC : mg "Log" = some (.ref C)
/-- a class of logs: Log, or one below it -/
structure TxtC (K : PySem.W.Frag) (C : Addr) : Prop where
  cl : Cls K C
  nB : NoAttr K C "book"
  nH : NoAttr K C "held"
  nP : NoAttr K C "past"
theorem TxtL.c {K : PySem.W.Frag} {mg : Str → Option Value} {C : Addr} (h : TxtL K mg C) : TxtC K C := ⟨h.cl, h.nB, h.nH, h.nP⟩
/-- a method of an own class, by its promise -/
structure MthG (P : Program) (w : World) (K : PySem.W.Frag) (mg : Str → Option Value) (base : Heap) (C : Addr) (n : Str) (ps : List Str) (sp : Sp) (l : Nat) where
  f : Addr
  fd : FuncData
  m : Meth K C n f
  ok : ∀ k, l ≤ k → FnOk P w K mg base CX0 k f fd ps sp
  b : Binds K fd ps []
/-- a property of an own class, by its promise, from a level on -/
structure PrpL (P : Program) (w : World) (K : PySem.W.Frag) (mg : Str → Option Value) (base : Heap) (C : Addr) (f : Str) (sp : Sp) (l : Nat) where
  p : Addr
  g : Addr
  fd : FuncData
  hp : PropOf K C f p g
  ok : ∀ k, l ≤ k → FnOk P w K mg base CX0 k g fd ["self"] sp
  b : Binds K fd ["self"] []
end CC
namespace CC
open PySem L2 TL
def spLChk (K : PySem.W.Frag) : Sp := fun vs H Q _ => ∃ (x p : Addr) (us : List V), vs = [.ref x, .ref p] ∧ (SqL K H p us ∨ SqT K H p us) ∧ us.length ≤ 400 ∧ Q .non H
def spLChg (K : PySem.W.Frag) (C : Addr) : Sp := fun vs H Q _ => ∃ (x dx r t q t' : Addr) (hs : List V), vs = [.ref x, .ref t'] ∧ H x = some (.ins C dx (fldL r t q)) ∧ H q = some (.lst hs) ∧ hs.length < 1000 ∧ Q .non (upd (upd H q (.lst (hs ++ [.ref t]))) x (.ins C dx (fldL r t' q)))
section
variable {P : Program} {w : World} {K : PySem.W.Frag} {mg : Str → Option Value} {base : Heap} {kA : Addr}
theorem scLChk : FnScope ["self", "rows"] ["self", "rows"] (defScope sLChk) := ⟨rfl, rfl, rfl, by decide +kernel, rfl, by decide +kernel, by decide +kernel⟩
theorem scLChg : FnScope ["self", "table"] ["self", "table"] (defScope sLChg) := ⟨rfl, rfl, rfl, by decide +kernel, rfl, by decide +kernel, by decide +kernel⟩
end
end CC
namespace CC
open PySem L2
section
variable {P : Program} {w : World} {K : PySem.W.Frag} {mg : Str → Option Value} {base : Heap} {kA : Addr}
theorem scPW : FnScope ["self"] ["self"] (defScope sPW) := ⟨rfl, rfl, rfl, by decide +kernel, rfl, by decide +kernel, by decide +kernel⟩
theorem scPR : FnScope ["self"] ["self"] (defScope sPR) := ⟨rfl, rfl, rfl, by decide +kernel, rfl, by decide +kernel, by decide +kernel⟩
theorem ok_pw {f C : Addr} {fd : FuncData} {k : Nat} (F : Fun K "width" "Rules.width" sPW f fd) (TC : Txt1 K mg C) : FnOk P w K mg base CX0 (k + 1) f fd ["self"] (getSp C "span") := by
  refine F.ok scPW (fun vs H Q E h => ?_) (fun cdv A outer s H vs Q E hr h => ?_)
  · obtain ⟨a, dx, fs, v, rfl, _⟩ := h
    rfl
  · obtain ⟨a, dx, fs, v, rfl, ea, l, q⟩ := h
    exact ⟨_, pss_one (ps_ret (pe_fld (pv 0) rfl)), _, rfl, a, C, dx, fs, v, rfl, ea, TC.cl, TC.nS, l, q⟩
theorem ok_pr {f C : Addr} {fd : FuncData} {k : Nat} (F : Fun K "rules" "Rules.rules" sPR f fd) (TC : Txt1 K mg C) : FnOk P w K mg base CX0 (k + 1) f fd ["self"] (getSp C "given") := by
  refine F.ok scPR (fun vs H Q E h => ?_) (fun cdv A outer s H vs Q E hr h => ?_)
  · obtain ⟨a, dx, fs, v, rfl, _⟩ := h
    rfl
  · obtain ⟨a, dx, fs, v, rfl, ea, l, q⟩ := h
    exact ⟨_, pss_one (ps_ret (pe_fld (pv 0) rfl)), _, rfl, a, C, dx, fs, v, rfl, ea, TC.cl, TC.nG, l, q⟩
end
end CC
namespace CC
open PySem PySem.Spec PyProof.Rows L2
def rInDT (K : PySem.W.Frag) : R2 := fun x y H Q => ∃ d ds, Dp K H x d ∧ Dp K H y (.tuple ds) ∧ SeqAt.shaped d = true ∧ SeqAt.shaped (.list ds) = true ∧ Q (.bl (ds.any fun z => PyData.eqv z d)) H
def rNotInDT (K : PySem.W.Frag) : R2 := fun x y H Q => ∃ d ds, Dp K H x d ∧ Dp K H y (.tuple ds) ∧ SeqAt.shaped d = true ∧ SeqAt.shaped (.list ds) = true ∧ Q (.bl (!ds.any fun z => PyData.eqv z d)) H
section
variable {X : Cx}
theorem op_inDT (hu : X.A.units + 65 < cLine) : OpR X (compareOp .In) (rInDT X.K) := by
  intro pins s σ H x y v u Q I rx ry h
  obtain ⟨d, ds, hd, he, sd, se, q⟩ := h
  obtain ⟨as, r1⟩ := Dp.reads I d x v hd rx
  obtain ⟨bs, r2⟩ := Dp.reads I (.tuple ds) y u he ry
  exact SeqAt.in_tuple_reads r2 r1 (SeqAt.canLay_of_shaped se) (SeqAt.canLay_of_shaped sd) (room_in_shaped sd hu) ⟨.bl _, H, I, rfl, q⟩
theorem op_notInDT (hu : X.A.units + 65 < cLine) : OpR X (compareOp .NotIn) (rNotInDT X.K) := by
  intro pins s σ H x y v u Q I rx ry h
  obtain ⟨d, ds, hd, he, sd, se, q⟩ := h
  obtain ⟨as, r1⟩ := Dp.reads I d x v hd rx
  obtain ⟨bs, r2⟩ := Dp.reads I (.tuple ds) y u he ry
  exact SeqAt.notIn_tuple_reads r2 r1 (SeqAt.canLay_of_shaped se) (SeqAt.canLay_of_shaped sd) (room_in_shaped sd hu) ⟨.bl _, H, I, rfl, q⟩
end
end CC
namespace CC
open PySem PySem.Spec PyProof.Rows L2
/-! ### x in a tuple of data, C(e, *y), an own + -/
section
variable {X : Cx}
variable {CX : CXT} {k : Nat} {f C : Addr} {sp : Sp} {E : XK} {x : Str} {e : Expr} {es : List Expr} {t : TA} {p pos : Pos}
theorem pe_makeRS (M : Mk X.K C f) (F : FnR X.prog X.w X.K X.mg X.base CX k f sp) (hr : Room (k + 1) X.A) (hg : Gl X x) (hm : X.mg x = some (.ref C)) (hx : Passes CX X E) (ha : PA X (e :: es) t) (hdb : (x == ("__debug__" : Str)) = false := by decide)
    (he : starEach (e :: es) X.env = (false, eval e X.env) :: starEach es X.env := by rfl) (hst : (backTo pos (starEach es X.env)).any (·.1) = true := by rfl) : PE X (.Call (.Name x p) (e :: es) [] pos) (StX.tMakeR C sp E t) := by
  refine ⟨fun pins s σ H Q I h => ?_⟩
  refine wpAny_Call_Name_kw (ld_glob I hg hm ?_ hdb)
  refine PySem.W.callWith_S2 (h₀ := X.base) I.ok.mod.kin M.kp (thn (ha.run pos pins s σ H _ I h) fun us s1 ⟨vs, H1, I1, r, q⟩ => ⟨I1.kIn, ?_⟩) he hst
  exact StX.run_makeR M F hr hx I1 r q
end
end CC
namespace CC
open PySem L2 TL
/-- the log at x has changed: another table, the old one behind the others -/
def LogTo (K : PySem.W.Frag) (C CR CT : Addr) (H : Hp) (x r q : Addr) (w : Nat) (rs : List R) (rows : List (List Nat)) (n : Nat) (Q : VK) : Prop := ∀ H', Kp [x, q] H H' → LogAt K C CR CT H' x r q w rs rows n → Q .non H'
def spLAdd (K : PySem.W.Frag) (C CR CT : Addr) : Sp := fun vs H Q _ => ∃ (x r q tr : Addr) (w : Nat) (rs : List R) (rows : List (List Nat)) (row : List Nat) (n : Nat), vs = [.ref x, .ref tr] ∧ LogAt K C CR CT H x r q w rs rows n ∧ 1 ≤ w ∧ w ≤ 6 ∧ SqT K (wos H [x, q]) tr (nms row) ∧ RowOk w row ∧ (∀ x ∈ rows, RowOk w x) ∧ rows.length < 400 ∧ n < 1000 ∧
  LogTo K C CR CT H x r q w rs (rows ++ [row]) (n + 1) Q
/-- an own object and a list are no tuples -/
theorem wos2_T {H : Hp} {x q C dx : Addr} {fs : List (Str × V)} {hs : List V} (hx : H x = some (.ins C dx fs)) (hq : H q = some (.lst hs)) : SameT H (wos H [x, q]) := by
  have key : ∀ b o, H b = some o → o ≠ .ins C dx fs → o ≠ .lst hs → wos H [x, q] b = some o := fun b o e n1 n2 => by
    have bx : b ≠ x := fun z => by rw [z, hx] at e; exact n1 (Option.some.inj e).symm
    have bq : b ≠ q := fun z => by rw [z, hq] at e; exact n2 (Option.some.inj e).symm
    rw [wos_in (by simp [bx, bq])]
    exact e
  exact ⟨fun b xs e => key b _ e (by intro z; cases z) (by intro z; cases z), fun b o xs e => key b _ e (by intro z; cases z) (by intro z; cases z)⟩
/-- what change leaves -/
theorem changed {K : PySem.W.Frag} {C CR CT : Addr} {H H1 H2 : Hp} {x r q dx t t' : Addr} {w n : Nat} {rs : List R} {rows rows' : List (List Nat)} {hs : List V} {Q : VK} (L : LogAt K C CR CT H x r q w rs rows n) (s1 : Same H H1) (s2 : Same H1 H2) (hx : H x = some (.ins C dx (fldL r t q))) (hq : H q = some (.lst hs)) (hl : hs.length = n) (nt : H1 t' = none) (tt : TableAt K CT H2 t' w rows') (to : LogTo K C CR CT H x r q w rs rows' (n + 1) Q) : Q .non (upd (upd H2 q (.lst (hs ++ [.ref t]))) x (.ins C dx (fldL r t' q))) := by
  have xq := L.ne
  have s02 := s1.trans s2
  have key : Same (wos H2 [x, q]) (wos (upd (upd H2 q (.lst (hs ++ [.ref t]))) x (.ins C dx (fldL r t' q))) [x, q]) := fun b o e => by
    obtain ⟨n1, e⟩ := wos_at e
    have bx : b ≠ x := fun z => n1 (by simp [z])
    have bq : b ≠ q := fun z => n1 (by simp [z])
    rw [wos_in n1, upd_ne bx, upd_ne bq]
    exact e
  refine to _ (fun b o e n1 => ?_) ⟨⟨dx, t', upd_same, ?_⟩, L.book.same (((Kp.of s02).same).trans key), hs ++ [.ref t], ?_, by rw [List.length_append, hl]; rfl⟩
  · have bx : b ≠ x := fun z => n1 (by simp [z])
    have bq : b ≠ q := fun z => n1 (by simp [z])
    rw [upd_ne bx, upd_ne bq]
    exact s02 _ _ e
  · obtain ⟨dt, g, us, h1, h2, h3⟩ := tt
    have a1 : t' ≠ x := fun z => by rw [z, s1 _ _ hx] at nt; cases nt
    have a2 : t' ≠ q := fun z => by rw [z, s1 _ _ hq] at nt; cases nt
    have a3 : g ≠ x := ne_of h2 (s02 _ _ hx) (by intro z; cases z)
    have a4 : g ≠ q := ne_of h2 (s02 _ _ hq) (by intro z; cases z)
    refine TableAt.same ⟨dt, g, us, ?_, ?_, gds_T (wos2_T (s02 _ _ hx) (s02 _ _ hq)) h3⟩ key
    · rw [wos_in (by simp [a1, a2])]
      exact h1
    · rw [wos_in (by simp [a3, a4])]
      exact h2
  · rw [upd_ne xq.symm]
    exact upd_same
section
variable {P : Program} {w : World} {K : PySem.W.Frag} {mg : Str → Option Value} {base : Heap} {kA : Addr}
abbrev nLAdd : List Str := ["self", "row", "rows"]
theorem scLAdd : FnScope nLAdd ["self", "row"] (defScope sLAdd) := ⟨rfl, rfl, rfl, by decide +kernel, rfl, by decide +kernel, by decide +kernel⟩
theorem ok_ladd {f C CR CT : Addr} {fd : FuncData} {k : Nat} (F : Fun K "add" "Log.add" sLAdd f fd) (TL : TxtC K C) (TR : Txt1 K mg CR) (TT : TxtT K mg CT) (pW : Prp P w K mg base CR "width" "span") (pTR : Prp P w K mg base CT "rows" "lines") (mT : MakeT P w K mg base CT 3) (cR : Cal P w K mg base "is_row" ["width", "thing"] (spIsRow K) 2)
    (ck : MthG P w K mg base C "check" ["self", "rows"] (spLChk K) 1) (cg : MthG P w K mg base C "change" ["self", "table"] (spLChg K C) 1) : FnOk P w K mg base CX0 (k + 5) f fd ["self", "row"] (spLAdd K C CR CT) := by
  have GN := mT.ok (k + 3) (by omega)
  have GR := cR.ok (k + 4) (by omega)
  have GC := ck.ok (k + 4) (by omega)
  have GG := cg.ok (k + 4) (by omega)
  refine F.ok scLAdd (fun vs H Q E h => ?_) (fun cdv A outer s H vs Q E hr h => ?_)
  · obtain ⟨x, r, q, tr, m, rs, rows, row, n, rfl, _⟩ := h
    rfl
  · obtain ⟨x, r, pq, tr, m, rs, rows, row, n, rfl, L, w1, w6, htr, rok, ok, few, n1, to⟩ := h
    have nd := scLAdd.nd
    refine ⟨_, (pss_cons (ps_if (pt_not (pt_val (pe_call GR hr rfl cR.g cR.kp cR.b .nil pass0 (pa_cons (pe_prop (pe_fld (pv 0) rfl) TR.cl pW.hp (pW.ok (k + 3) (by omega)) hr pW.b .nil pass0 rfl) (pa_cons (pv 1) pa_nil))))) (pss_one ps_never) pss_nil)
      (pss_cons (ps_set (i := 2) nd rfl (.inl rfl) (pe_lst (StX.pa_star (pe_prop (pe_fld (pv 0) rfl) TT.cl pTR.hp (pTR.ok (k + 3) (by omega)) hr pTR.b .nil pass0 rfl) (pa_cons (pv 1) pa_nil))))
      (pss_cons (ps_expr (pe_meth (pv 0) TL.cl ck.m GC hr ck.b .nil pass0 (pa_cons (pv 2) pa_nil)))
      (pss_one (ps_expr (pe_meth (pv 0) TL.cl cg.m GG hr cg.b .nil pass0 (pa_cons (pe_makeRS mT.M GN hr rfl TT.mgC pass0 (pa_cons (pe_prop (pe_fld (pv 0) rfl) TR.cl pW.hp (pW.ok (k + 3) (by omega)) hr pW.b .nil pass0 rfl) (StX.pa_star (pv 2) pa_nil))) pa_nil))))))), ?_⟩
    obtain ⟨dx, t, hx, tt⟩ := L.at_
    obtain ⟨hs, hq, hl⟩ := L.past
    obtain ⟨dr, gr, ur, r1, r2, r3⟩ := L.book.same (wos_le _)
    obtain ⟨dt, g, us, t1, t2, t3⟩ := tt.same (wos_le _)
    have ul : us.length = rows.length := by rw [dps_len t3, List.length_map]
    have ht := same_t (wos_le _) htr
    refine ⟨_, rfl, x, C, dx, _, _, rfl, hx, TL.cl, TL.nB, fldL_b _ _ _, r, dr, _, rfl, r1, r, dr, _, _, rfl, r1, flds_span _ _, _, rfl, m, tr, row, rfl, ht, rok, w6, fun H1 s1 => ⟨_, rfl, iteF ?_⟩⟩
    refine ⟨_, rfl, x, C, dx, _, _, rfl, s1 _ _ hx, TL.cl, TL.nH, fldL_h _ _ _, t, dt, _, rfl, s1 _ _ t1, t, dt, _, _, rfl, s1 _ _ t1, fldT_lines _ _, g, us, rfl, .inl (.inl (.inl (s1 _ _ t2))), _, rfl, ?_, fun p np => ?_⟩
    · rw [List.length_append]
      exact Nat.le_of_lt (small1000 (by show us.length + 1 ≤ 1000; omega))
    have s2 : Same H1 (upd H1 p (.lst (us ++ [.ref tr]))) := same_new np
    have hp : (upd H1 p (.lst (us ++ [.ref tr]))) p = some (.lst (us ++ [.ref tr])) := upd_same
    generalize upd H1 p (.lst (us ++ [.ref tr])) = H2 at s2 hp
    have s02 := s1.trans s2
    refine ⟨_, rfl, x, dx, _, rfl, s02 _ _ hx, fldL_no _ _ _ (by decide +kernel) (by decide +kernel) (by decide +kernel), _, rfl, x, p, _, rfl, .inl (SqL.of hp), by rw [List.length_append]; show us.length + 1 ≤ 400; omega, ?_⟩
    refine ⟨_, rfl, x, dx, _, rfl, s02 _ _ hx, fldL_no _ _ _ (by decide +kernel) (by decide +kernel) (by decide +kernel), ?_⟩
    refine ⟨_, rfl, x, C, dx, _, _, rfl, s02 _ _ hx, TL.cl, TL.nB, fldL_b _ _ _, r, dr, _, rfl, s02 _ _ r1, r, dr, _, _, rfl, s02 _ _ r1, flds_span _ _, _, rfl, p, _, rfl, .inr (SqL.of hp), ?_⟩
    have dj : DpAll K H2 (us ++ [.ref tr]) ((rows ++ [row]).map gd) := by
      rw [List.map_append]
      exact dps_app (dps_same s02 _ _ t3) (dps_one (dp_gd (same_t s02 ht)))
    refine fun t' dz nz ndz ne => ?_
    refine mkT_go (K := K) (C := CT) w1 w6 (fun y hy => ?_) (by rw [List.length_append]; show rows.length + 1 ≤ 400; omega) dj nz ndz ne fun H3 s3 tt' => ⟨rfl, ?_⟩
    · rcases List.mem_append.mp hy with z | z
      · exact ok y z
      · rw [List.mem_singleton.mp z]
        exact rok
    have s03 := s02.trans s3
    exact ⟨x, dx, r, t, pq, t', hs, rfl, s03 _ _ hx, s03 _ _ hq, by omega, changed L s02 s3 hx hq hl nz tt' to⟩
end
end CC
/-! ### set comprehensions, by a kind of sets -/
namespace SC
open PySem PySem.Spec PyProof.Rows L2
abbrev bareS (w : World) : Obj := { cls := .type "set", dict := none, data := .set #[] 0 (.fresh 0 0 (!w.params.followText "set-order")) }
/-- what stands at the place of a set while it is filled, and what one more member makes of it -/
structure Fam (α : Type) where
  ob : Program → World → Addr → α → HO
  ini : α
  new : ∀ (P : Program) (w : World) (H : Hp) (h : Heap), ObjOk P w H (h.push (bareS w)) h.objs.size (ob P w h.objs.size ini)
  put : PySem.W.Frag → Around → Hp → α → V → α → Prop
  add : ∀ {X : Cx} {pins : List (Addr × Obj)} {σ : L2.St} {H : Hp} {s : Shared} {E : Value → Shared → Prop} {D : Addr} {a b : α} {y : V} {v : Value} {Q : Value → Shared → Prop}, Inv X pins σ H s → H D = some (ob X.prog X.w D a) → put X.K X.A H a y b → RelV y v →
    (∀ s', Inv X pins σ (upd H D (ob X.prog X.w D b)) s' → Q .none s') → wpAny (model X.prog X.w) X.A (call (.builtin "set.add") [.ref D, v]) Q E s
section
variable {X : Cx} {α : Type}
def tSF (F : Fam α) (P : Program) (w : World) (K : PySem.W.Frag) (A : Around) (wi : TI) (g : TG) (tt : TT) (te : TE) (vs : List Nat) : TE := fun σ H Q => wi σ H fun J H1 => ∀ D, H1 D = none → ∃ W : Nat → Nat → Hp → Prop, (∃ m, W 0 m (upd H1 D (F.ob P w D F.ini))) ∧
  ∀ i m H, W i m H → (J.stop i H ∧ Q (.ref D) H) ∨ (J.go i H ∧ ∃ Nx : Hp → Prop, (∀ H', Nx H' → ∃ m', m' < m ∧ W (i + 1) m' H') ∧ ∀ x H', J.yld i H x H' → g x (wipe σ vs) H' fun σ2 H2 => wipe σ2 vs = wipe σ vs ∧ tt σ2 H2 fun b H3 =>
    if b = true then te σ2 H3 fun y H4 => ∃ c c' : α, H4 D = some (F.ob P w D c) ∧ F.put K A H4 c y c' ∧ Nx (upd H4 D (F.ob P w D c')) else Nx H3)
theorem core (F : Fam α) {pins : List (Addr × Obj)} {s : Shared} {σ : L2.St} {H : Hp} {Q : VK} {elt tg iter : Expr} {ifs : List Expr} {scope : Scope} {own : List (PySem.Str × Nat)} {pos pos' : Pos} {wi : TI} {g : TG} {tt : TT} {te : TE} {Qf : Value → Shared → Prop} {use : Option (Value → Sem Unit)}
    (calm : X.calm = true) (nd : X.N.Nodup) (I0 : Inv X pins σ H s) (walk : PI X tg iter wi) (bo : BlkOk X.N X.env.scope scope own)
    (aim : ∀ s H C cl fp, PG (X.blk s H scope (compEnvC scope cl C X.env) fp) tg g) (tst : ∀ s H C cl fp, PTs (X.blk s H scope (compEnvC scope cl C X.env) fp) ifs tt)
    (val : ∀ s H C cl fp, PE (X.blk s H scope (compEnvC scope cl C X.env) fp) elt te) (plain : ∀ x, foldedSetIterable iter X.env x = pure x)
    (ask : tSF F X.prog X.w X.K X.A wi g tt te (own.map (·.2)) σ H Q)
    (out : ∀ D C s' m H', Inv X pins σ H' s' → Q (.ref D) H' → s'.heap.Ns C m → FpOk X pins H' C → compPost (model X.prog X.w) X.A X.xe use Qf (.ref D) C (.ok .next) s') :
    wpAny (model X.prog X.w) X.A (comprehension (.SetComp elt [⟨tg, iter, ifs, 0⟩] scope pos) scope X.env pos' (newSet (.type "set")) false (eval iter X.env) use) Qf X.xe s := by
  have clo : ∀ y ∈ scope.names, y.2 = .free → ∃ c, X.env.cells.lookup y.1 = some c := fun y my ey => by
    rcases bo.free y my ey with z | z
    · exact I0.ok.has _ (.inl z)
    · exact I0.ok.has _ (.inr z)
  refine wpAny_comprehension_free (use := use) rfl plain (closure_ok clo) bo.kind (fun y my ey => by rw [bo.uniq y my, ey]) (thn (walk.run pins s σ H _ I0 ask) fun v0 sa ha => thn ha fun v1 sb hb => ?_)
  obtain ⟨itA, fp, tn, J, Hb, rfl, Ib, Tn, stb, fpb, qb⟩ := hb
  refine PpSet.newSet_ok (newEnv_comp ?_)
  obtain ⟨D, eD⟩ : ∃ D, D = sb.heap.objs.size := ⟨_, rfl⟩
  have freeD : Hb D = none := Ib.hok.fresh (Nat.le_of_eq eD.symm)
  obtain ⟨W, ⟨m0, w0⟩, turn⟩ := qb D freeD
  obtain ⟨sc, esc⟩ : ∃ sc : Shared, sc = { sb with heap := sb.heap.push (bareS X.w) } := ⟨_, rfl⟩
  have Ic : Inv X pins σ (upd Hb D (F.ob X.prog X.w D F.ini)) sc := by
    rw [esc]
    refine Ib.laid (t' := sb.toks) (fun b o e => Heap.get?_push_of_some _ e) (Nat.le_of_eq eD.symm) ?_
    rw [eD]
    exact F.new _ _ _ _
  have hc : sc.heap = sb.heap.push (bareS X.w) := by rw [esc]
  have below : ∀ b ∈ fp, b < sb.heap.objs.size := fun b mb => by
    obtain ⟨o, e, _⟩ := Tn.obj _ _ stb b mb
    exact Heap.lt_size e
  have fpc : ∀ b ∈ fp, FpOk X pins (upd Hb D (F.ob X.prog X.w D F.ini)) b ∧ b < sc.heap.objs.size := fun b mb => by
    have lt := below b mb
    refine ⟨⟨?_, (fpb b mb).2⟩, by rw [hc, Heap.size_push]; exact Nat.lt_succ_of_lt lt⟩
    rw [upd_ne (by rw [eD]; exact Nat.ne_of_lt lt)]
    exact (fpb b mb).1
  have stc : tn 0 sc.heap := Tn.keep _ _ _ stb fun b _ o e => by rw [hc]; exact Heap.get?_push_of_some _ e
  have Id := block_start Ic bo nd fpc
  have hereG := aim sc (upd Hb D (F.ob X.prog X.w D F.ini)) sc.heap.objs.size (cellsFrom (sc.heap.objs.size + 1) scope.names (cloFrom X.env.cells scope.names [])) fp
  have hereT := tst sc (upd Hb D (F.ob X.prog X.w D F.ini)) sc.heap.objs.size (cellsFrom (sc.heap.objs.size + 1) scope.names (cloFrom X.env.cells scope.names [])) fp
  have hereE := val sc (upd Hb D (F.ob X.prog X.w D F.ini)) sc.heap.objs.size (cellsFrom (sc.heap.objs.size + 1) scope.names (cloFrom X.env.cells scope.names [])) fp
  rw [← eD, ← esc]
  have offH : ∀ b ∈ fp, (upd Hb D (F.ob X.prog X.w D F.ini)) b = none := fun b mb => (fpc b mb).1.1
  show codeAny _ _ (.compStart (.SetComp elt [⟨tg, iter, ifs, 0⟩] scope pos) 0 (.ref itA) (.ref D) (compEnvC scope (cellsFrom (sc.heap.objs.size + 1) scope.names (cloFrom X.env.cells scope.names [])) sc.heap.objs.size X.env)) _ { sc with heap := pushCells (sc.heap.push { cls := .type "dict", data := .dict #[] }) scope.names }
  generalize hce : compEnvC scope (cellsFrom (sc.heap.objs.size + 1) scope.names (cloFrom X.env.cells scope.names [])) sc.heap.objs.size X.env = ce at Id hereG hereT hereE ⊢
  have locs : ce.locals = sc.heap.objs.size := by subst hce; rfl
  generalize upd Hb D (F.ob X.prog X.w D F.ini) = Hc at Ic Id hereG hereT hereE w0 offH fpc
  generalize hsd : ({ sc with heap := pushCells (sc.heap.push { cls := .type "dict", data := .dict #[] }) scope.names } : Shared) = sd at Id ⊢
  have std : tn 0 sd.heap := Tn.keep _ _ _ stc fun b _ o e => by rw [← hsd]; exact pushCells_keeps _ _ _ _ (Heap.get?_push_of_some _ e)
  have own1 : ∀ {σ' : L2.St} {H' : Hp} {s' : Shared}, Inv (X.blk sc Hc scope ce fp) [] σ' H' s' → (∀ b ∈ fp, H' b = none) → ∀ b ∈ fp, FpOk (X.blk sc Hc scope ce fp) [] H' b := fun {_ H' _} Ie off b mb =>
    ⟨off b mb, (Ie.ok.exf b mb).1, Ie.ok.exfs b mb, .inl mb, fun x c e => (Ie.ok.exf b mb).2 x c e, fun p hp => absurd (show p ∈ ([] : List (Addr × Obj)) ++ [] from hp) (by simp)⟩
  have loop : codeAny (model X.prog X.w) X.A (.compLoop (.SetComp elt [⟨tg, iter, ifs, 0⟩] scope pos) 0 (.ref itA) (.ref D) ce) (compPost (model X.prog X.w) X.A X.xe use Qf (.ref D) sc.heap.objs.size) sd := by
    refine PpSet.compLoopS_any (fun k st => ∃ i He, Inv (X.blk sc Hc scope ce fp) [] (wipe σ (own.map (·.2))) He st ∧ tn i st.heap ∧ (∀ b ∈ fp, He b = none) ∧ W i k He) ?_ m0 ⟨0, Hc, Id, std, offH, w0⟩
    rintro k se ⟨i, He, Ie, ste, offe, we⟩
    rcases turn i k He we with ⟨atEnd, fin⟩ | ⟨onward, Nx, back, next⟩
    · refine thnF (Tn.done (X.blk sc Hc scope ce fp) rfl rfl rfl calm i [] se _ He (fun _ _ => False) Ie (own1 Ie offe) ste atEnd) fun r sf ⟨er, If⟩ => ?_
      subst er
      have Ig : Inv X pins σ He sf := Ic.call' (ch := fp) If.os If.base If.hok If.bare fun b mb => ⟨(fpc b mb).1.2.2.2.1, (fpc b mb).1.2.1, (fpc b mb).1.2.2.2.2.1, (fpc b mb).1.2.2.2.2.2⟩
      have noC : He sc.heap.objs.size = none := locs ▸ (show He ce.locals = none from If.free)
      obtain ⟨nm, nsf, _⟩ := If.loc
      have nsf : sf.heap.Ns sc.heap.objs.size nm := locs ▸ (show sf.heap.Ns ce.locals nm from nsf)
      exact out D sc.heap.objs.size sf nm He Ig fin nsf (Ic.fpOk (Nat.le_refl _) noC)
    · refine thnF (Tn.item (X.blk sc Hc scope ce fp) rfl rfl rfl calm i [] se _ He (fun _ _ => False) Ie (own1 Ie offe) ste onward) fun r sf ⟨u, er, hf⟩ => ?_
      subst er
      refine thnF hf fun _ sg ⟨x, Hg, Ig, rg, yg, stg, offg⟩ => ?_
      refine thnF (hereG.run _ sg _ Hg x u _ (Ig.pinned (own1 Ig offg) (Tn.obj _ _ stg)) rg (next x Hg yg)) fun _ sh ⟨σh, Hh, Ih, wh, qh⟩ => ?_
      refine thnF (hereT.run _ sh σh Hh _ Ih qh) fun b si ⟨Hi, Ii, qi⟩ => ?_
      have over : ∀ {st : Shared} {Ht : Hp}, Inv (X.blk sc Hc scope ce fp) ([] ++ pinsAt fp sg.heap) σh Ht st → Nx Ht → ∃ m, m < k ∧ ∃ i He, Inv (X.blk sc Hc scope ce fp) [] (wipe σ (own.map (·.2))) He st ∧ tn i st.heap ∧ (∀ b ∈ fp, He b = none) ∧ W i m He := fun {st Ht} It nx => by
        obtain ⟨m1, lt1, w1⟩ := back Ht nx
        have held : ∀ b ∈ fp, ∀ o, sg.heap.get? b = some o → st.heap.get? b = some o ∧ Ht b = none := fun b mb o e =>
          have z := It.pin (b, o) (List.mem_append_right _ (List.mem_append_right _ (mem_pinsAt mb e)))
          ⟨z.1, z.2.1⟩
        have ln : (wipe σ (own.map (·.2))).length = σh.length := by rw [← wh, wipe_length]
        refine ⟨m1, lt1, i + 1, Ht, (It.unpinned (pins := [])).weak ln (fun j v e => ?_), Tn.keep _ _ _ stg fun b mb o e => (held b mb o e).1, fun b mb => ?_, w1⟩
        · rw [← wh] at e
          exact (wipe_some e).1
        · obtain ⟨o, e, _⟩ := Tn.obj _ _ stg b mb
          exact (held b mb o e).2
      cases b with
      | false =>
        rw [if_neg (by decide)] at qi ⊢
        exact over Ii qi
      | true =>
        rw [if_pos rfl] at qi ⊢
        refine thnF (hereE.run _ si σh Hi _ Ii qi) fun z sj ⟨yv, Hj, Ij, rj, c, c', atD, pt, nx⟩ => ?_
        exact F.add (X := X.blk sc Hc scope ce fp) Ij atD pt rj fun sk Ik => over Ik nx
  exact PpSet.codeAny_compStart_set loop (Tn.self X.A 0 _ _ _ std loop)
/-- {elt for target in iter if ..} -/
theorem pe_setc (F : Fam α) {elt tg iter : Expr} {ifs : List Expr} {scope : Scope} {own : List (PySem.Str × Nat)} {pos : Pos} {wi : TI} {g : TG} {tt : TT} {te : TE} (calm : X.calm = true) (nd : X.N.Nodup) (walk : PI X tg iter wi) (bo : BlkOk X.N X.env.scope scope own)
    (aim : ∀ s H C cl fp, PG (X.blk s H scope (compEnvC scope cl C X.env) fp) tg g) (tst : ∀ s H C cl fp, PTs (X.blk s H scope (compEnvC scope cl C X.env) fp) ifs tt)
    (val : ∀ s H C cl fp, PE (X.blk s H scope (compEnvC scope cl C X.env) fp) elt te) (plain : ∀ x, foldedSetIterable iter X.env x = pure x := by intro _; rfl) :
    PE X (.SetComp elt [⟨tg, iter, ifs, 0⟩] scope pos) (tSF F X.prog X.w X.K X.A wi g tt te (own.map (·.2))) := by
  refine ⟨fun pins s σ H Q I0 ask => ?_⟩
  rw [PpSet.eval_SetComp]
  refine core F calm nd I0 walk bo aim tst val plain ask fun D C s1 m H1 I1 q hn fpC => ⟨m, hn, fun h2 sb => ?_⟩
  exact ⟨.ref D, H1, I1.turned (t' := s1.toks) (fun b o hb e => (sb.2 b hb).trans e) fpC.1 fpC.2.1 fpC.2.2.2.1 fpC.2.2.2.2.1 fpC.2.2.2.2.2, rfl, q⟩
end
/-- sets of ints -/
def famI : Fam ((Int → Bool) × Nat) where
  ob := fun _ w a c => SetO w a c.1 c.2
  ini := (fun _ => false, 0)
  new := fun P w H h => setO_new (setR_fresh w)
  put := fun _ _ _ c y c' => ∃ k : Int, y = .int k ∧ c.2 + 1 < scanBound ∧ c' = (fun j => c.1 j || decide (j = k), if c.1 k = true then c.2 else c.2 + 1)
  add := by
    intro X pins σ H s E D a b y v Q I hD pt rv q
    obtain ⟨k, rfl, room, rfl⟩ := pt
    obtain ⟨tk, rfl⟩ := rv
    refine setR_add (setO_get I hD) room fun h' sb new => q _ ?_
    have ⟨o, _, _, _, ho, _⟩ := new
    exact I.write (e := D) (t' := s.toks + 1) (by rw [hD]; trivial) (.inl rfl) (fun b u hb hu => (sb.2 b hb).trans hu) ⟨o, ho⟩ (setO_new new)
/-- {elt for target in iter if ..}, elt an int -/
def tSI (w : World) (wi : TI) (g : TG) (tt : TT) (te : TE) (vs : List Nat) : TE := fun σ H Q => wi σ H fun J H1 => ∀ D, H1 D = none → ∃ W : Nat → Nat → Hp → Prop, (∃ m, W 0 m (upd H1 D (SetO w D (fun _ => false) 0))) ∧
  ∀ i m H, W i m H → (J.stop i H ∧ Q (.ref D) H) ∨ (J.go i H ∧ ∃ Nx : Hp → Prop, (∀ H', Nx H' → ∃ m', m' < m ∧ W (i + 1) m' H') ∧ ∀ x H', J.yld i H x H' → g x (wipe σ vs) H' fun σ2 H2 => wipe σ2 vs = wipe σ vs ∧ tt σ2 H2 fun b H3 =>
    if b = true then te σ2 H3 fun y H4 => ∃ c c' : (Int → Bool) × Nat, H4 D = some (SetO w D c.1 c.2) ∧ (∃ k : Int, y = .int k ∧ c.2 + 1 < scanBound ∧ c' = (fun j => c.1 j || decide (j = k), if c.1 k = true then c.2 else c.2 + 1)) ∧ Nx (upd H4 D (SetO w D c'.1 c'.2)) else Nx H3)
theorem pe_setI {X : Cx} {elt tg iter : Expr} {ifs : List Expr} {scope : Scope} {own : List (PySem.Str × Nat)} {pos : Pos} {wi : TI} {g : TG} {tt : TT} {te : TE} (calm : X.calm = true) (nd : X.N.Nodup) (walk : PI X tg iter wi) (bo : BlkOk X.N X.env.scope scope own)
    (aim : ∀ s H C cl fp, PG (X.blk s H scope (compEnvC scope cl C X.env) fp) tg g) (tst : ∀ s H C cl fp, PTs (X.blk s H scope (compEnvC scope cl C X.env) fp) ifs tt)
    (val : ∀ s H C cl fp, PE (X.blk s H scope (compEnvC scope cl C X.env) fp) elt te) (plain : ∀ x, foldedSetIterable iter X.env x = pure x := by intro _; rfl) :
    PE X (.SetComp elt [⟨tg, iter, ifs, 0⟩] scope pos) (tSI X.w wi g tt te (own.map (·.2))) := ⟨fun pins s σ H Q I h => (pe_setc famI calm nd walk bo aim tst val plain).run pins s σ H Q I h⟩
end SC
namespace CC
open PySem L2 TL
/-- the different ones, in the order in which they come -/
def firsts : List Nat → List Nat
  | l => l.foldl (fun acc x => if x ∈ acc then acc else acc ++ [x]) []
def dn (l : List Nat) : Nat := (firsts l).length
def colN (rows : List (List Nat)) (c : Nat) : List Nat := rows.map fun r => r.getD c 0
theorem firsts_snoc (l : List Nat) (x : Nat) : firsts (l ++ [x]) = if x ∈ firsts l then firsts l else firsts l ++ [x] := by
  unfold firsts
  rw [List.foldl_append]
  rfl
theorem firsts_mem : ∀ (n : Nat) (l : List Nat), l.length = n → ∀ y, y ∈ firsts l ↔ y ∈ l
  | 0, l, h, y => by
    rw [List.length_eq_zero_iff.mp h]
    simp [firsts]
  | n + 1, l, h, y => by
    have ne : l ≠ [] := fun e => by rw [e] at h; cases h
    obtain ⟨u, x, rfl⟩ : ∃ u x, l = u ++ [x] := ⟨_, _, (List.dropLast_concat_getLast ne).symm⟩
    have hu : u.length = n := by
      rw [List.length_append, List.length_singleton] at h
      omega
    have ih := firsts_mem n u hu
    rw [firsts_snoc, List.mem_append, List.mem_singleton]
    by_cases e : x ∈ firsts u
    · rw [if_pos e, ih y]
      constructor
      · exact .inl
      · rintro (z | rfl)
        · exact z
        · exact (ih _).mp e
    · rw [if_neg e, List.mem_append, List.mem_singleton, ih y]
theorem mem_firsts {l : List Nat} {y : Nat} : y ∈ firsts l ↔ y ∈ l := firsts_mem _ l rfl y
theorem dn_snoc (l : List Nat) (x : Nat) : dn (l ++ [x]) = if x ∈ l then dn l else dn l + 1 := by
  unfold dn
  rw [firsts_snoc]
  by_cases e : x ∈ l
  · rw [if_pos e, if_pos (mem_firsts.mpr e)]
  · rw [if_neg e, if_neg (fun z => e (mem_firsts.mp z)), List.length_append, List.length_singleton]
theorem dn_le (l : List Nat) : ∀ n, dn (l.take n) ≤ n
  | 0 => by simp [dn, firsts]
  | n + 1 => by
    cases h : l[n]? with
    | none =>
      rw [List.take_of_length_le (by have := List.getElem?_eq_none_iff.mp h; omega), ← List.take_of_length_le (i := n) (l := l) (by have := List.getElem?_eq_none_iff.mp h; omega)]
      exact Nat.le_succ_of_le (dn_le l n)
    | some x =>
      rw [List.take_succ, h]
      show dn (l.take n ++ [x]) ≤ _
      rw [dn_snoc]
      have := dn_le l n
      split <;> omega
/-- the members of a set of such numbers -/
def memI (l : List Nat) : Int → Bool := fun k => decide (∃ n ∈ l, (n : Int) = k)
theorem memI_at (l : List Nat) (x : Nat) : memI l (x : Int) = decide (x ∈ l) := by
  unfold memI
  rw [Bool.eq_iff_iff, decide_eq_true_eq, decide_eq_true_eq]
  constructor
  · rintro ⟨n, hn, e⟩
    have : n = x := by omega
    exact this ▸ hn
  · exact fun h => ⟨x, h, rfl⟩
theorem memI_snoc (l : List Nat) (x : Nat) : (fun j => memI l j || decide (j = (x : Int))) = memI (l ++ [x]) := by
  funext j
  unfold memI
  rw [Bool.eq_iff_iff, Bool.or_eq_true, decide_eq_true_eq, decide_eq_true_eq, decide_eq_true_eq]
  constructor
  · rintro (⟨n, hn, e⟩ | e)
    · exact ⟨n, List.mem_append_left _ hn, e⟩
    · exact ⟨x, List.mem_append_right _ (List.mem_singleton.mpr rfl), e.symm⟩
  · rintro ⟨n, hn, e⟩
    rcases List.mem_append.mp hn with z | z
    · exact .inl ⟨n, z, e⟩
    · rw [List.mem_singleton.mp z] at e
      exact .inr e.symm
theorem colN_take {rows : List (List Nat)} {c i : Nat} {r : List Nat} (h : rows[i]? = some r) : colN (rows.take (i + 1)) c = colN (rows.take i) c ++ [r.getD c 0] := by
  unfold colN
  rw [take1 h, List.map_append]
  rfl
/-- over a tuple -/
theorem si_tup {w : World} {K : PySem.W.Frag} {a : Addr} {xs : List V} {g : TG} {tt : TT} {te : TE} {vs : List Nat} {σ : L2.St} {H1 : Hp} {D : Addr} {Qd : Hp → Prop} (Pv : Nat → Hp → Prop) (h0 : Pv 0 (upd H1 D (SetO w D (fun _ => false) 0))) (hl : ∀ i H, i ≤ xs.length → Pv i H → SqT K H a xs)
    (hs : ∀ i x H, xs[i]? = some x → Pv i H → g x (wipe σ vs) H fun σ2 H2 => wipe σ2 vs = wipe σ vs ∧ tt σ2 H2 fun b H3 => if b = true then te σ2 H3 fun y H4 => ∃ c c' : (Int → Bool) × Nat, H4 D = some (SetO w D c.1 c.2) ∧ (∃ k : Int, y = .int k ∧ c.2 + 1 < scanBound ∧ c' = (fun j => c.1 j || decide (j = k), if c.1 k = true then c.2 else c.2 + 1)) ∧ Pv (i + 1) (upd H4 D (SetO w D c'.1 c'.2)) else Pv (i + 1) H3) (hd : ∀ H, Pv xs.length H → Qd H) :
    ∃ W : Nat → Nat → Hp → Prop, (∃ m, W 0 m (upd H1 D (SetO w D (fun _ => false) 0))) ∧ ∀ i m H, W i m H → ((Itt K a).stop i H ∧ Qd H) ∨ ((Itt K a).go i H ∧ ∃ Nx : Hp → Prop, (∀ H', Nx H' → ∃ m', m' < m ∧ W (i + 1) m' H') ∧ ∀ x H', (Itt K a).yld i H x H' → g x (wipe σ vs) H' fun σ2 H2 => wipe σ2 vs = wipe σ vs ∧ tt σ2 H2 fun b H3 =>
      if b = true then te σ2 H3 fun y H4 => ∃ c c' : (Int → Bool) × Nat, H4 D = some (SetO w D c.1 c.2) ∧ (∃ k : Int, y = .int k ∧ c.2 + 1 < scanBound ∧ c' = (fun j => c.1 j || decide (j = k), if c.1 k = true then c.2 else c.2 + 1)) ∧ Nx (upd H4 D (SetO w D c'.1 c'.2)) else Nx H3) := by
  refine ⟨fun i m H => m = xs.length - i ∧ i ≤ xs.length ∧ Pv i H, ⟨xs.length, by simp, Nat.zero_le _, h0⟩, ?_⟩
  rintro i m H ⟨rfl, hi, p⟩
  have q := hl i H hi p
  by_cases lt : i < xs.length
  · refine .inr ⟨⟨xs, xs[i], q, by simp [lt]⟩, Pv (i + 1), fun H' p' => ⟨xs.length - (i + 1), by omega, rfl, lt, p'⟩, fun x H' y => ?_⟩
    obtain ⟨e, y⟩ := y
    subst e
    exact hs i x _ (y xs q) p
  · have e : i = xs.length := by omega
    subst e
    exact .inl ⟨⟨xs, q, Nat.le_refl _⟩, hd H p⟩
/-- len of a set of ints -/
def rLenI (w : World) : List V → Hp → VK → Prop := fun xs H Q => ∃ (a : Addr) (S : Int → Bool) (n : Nat), xs = [.ref a] ∧ H a = some (SetO w a S n) ∧ n ≤ 1000 ∧ Q (.int (n : Int)) H
theorem call_lenI {X : Cx} : CallR X (.builtin "len") (rLenI X.w) := by
  intro pins s σ H xs us Q I r h
  obtain ⟨a, S, n, rfl, ha, hn, q⟩ := h
  rw [Vals.ref1 r]
  obtain ⟨o, es, ep, t, ho, hex, hd, _, _, _, hb, hf, e, _⟩ := setO_get I ha
  exact PySem.call_len_set ho hex hd hf (by rw [e]; omega) ⟨.int (n : Int), H, I.tok _, ⟨_, by rw [e]⟩, q⟩
end CC
namespace CC
open PySem L2
/-! ### steps down -/
def down (r : R) : Nat × Nat := if r.k then (r.a, r.b) else (r.b, r.a)
theorem kd_eq (k : Bool) : decide (V.str (kd k) = V.str "settles") = k := by
  cases k <;> decide +kernel
section
variable {P : Program} {w : World} {K : PySem.W.Frag} {mg : Str → Option Value} {base : Heap} {kA : Addr}
end
end CC
namespace CC
/-- what law and document say of a rule and rows -/
def HoldsR (rows : List (List Nat)) (r : R) : Prop :=
  if r.k then ∀ x ∈ rows, ∀ y ∈ rows, y.getD r.a 0 = x.getD r.a 0 → y.getD r.b 0 = x.getD r.b 0
  else ∀ x ∈ rows, ∃ y ∈ rows, y.getD r.b 0 = x.getD r.a 0
theorem firsts_nodup : ∀ (n : Nat) (l : List Nat), l.length = n → (firsts l).Nodup
  | 0, l, h => by
    rw [List.length_eq_zero_iff.mp h]
    simp [firsts]
  | n + 1, l, h => by
    have ne : l ≠ [] := fun e => by rw [e] at h; cases h
    obtain ⟨u, x, rfl⟩ : ∃ u x, l = u ++ [x] := ⟨_, _, (List.dropLast_concat_getLast ne).symm⟩
    have hu : u.length = n := by
      rw [List.length_append, List.length_singleton] at h
      omega
    have ih := firsts_nodup n u hu
    rw [firsts_snoc]
    by_cases e : x ∈ firsts u
    · rw [if_pos e]
      exact ih
    · rw [if_neg e]
      refine List.nodup_append.mpr ⟨ih, by simp, fun y hy z hz ez => ?_⟩
      rw [List.mem_singleton.mp hz] at ez
      exact e (ez ▸ hy)
theorem nodup_firsts (l : List Nat) : (firsts l).Nodup := firsts_nodup _ l rfl
theorem sub_len : ∀ {u v : List Nat}, u.Nodup → (∀ x ∈ u, x ∈ v) → u.length ≤ v.length
  | [], _, _, _ => Nat.zero_le _
  | x :: u, v, h, s => by
    obtain ⟨h1, h2⟩ := List.nodup_cons.mp h
    have hx := s x List.mem_cons_self
    have := sub_len (u := u) (v := v.erase x) h2 fun y hy => (List.mem_erase_of_ne (a := y) (b := x) fun e => h1 (by rw [← e]; exact hy)).mpr (s y (List.mem_cons_of_mem _ hy))
    have l := List.length_erase_of_mem hx
    have : 0 < v.length := List.length_pos_of_mem hx
    rw [List.length_cons]
    omega
theorem dn_sub {u v : List Nat} (s : ∀ x ∈ u, x ∈ v) : dn u ≤ dn v := sub_len (nodup_firsts u) fun x hx => mem_firsts.mpr (s x (mem_firsts.mp hx))
theorem dn_img {u v : List Nat} (g : Nat → Nat) (s : ∀ x ∈ u, ∃ y ∈ v, g y = x) : dn u ≤ dn v := by
  have : (firsts u).length ≤ ((firsts v).map g).length := sub_len (nodup_firsts u) fun x hx => by
    obtain ⟨y, hy, e⟩ := s x (mem_firsts.mp hx)
    exact List.mem_map.mpr ⟨y, mem_firsts.mpr hy, e⟩
  rwa [List.length_map] at this
theorem holds_dn {rows : List (List Nat)} {r : R} (h : HoldsR rows r) : dn (colN rows (down r).2) ≤ dn (colN rows (down r).1) := by
  obtain ⟨k, a, b⟩ := r
  cases k
  · show dn (colN rows a) ≤ dn (colN rows b)
    refine dn_sub fun x hx => ?_
    obtain ⟨r, hr, rfl⟩ := List.mem_map.mp hx
    obtain ⟨y, hy, e⟩ := (h : ∀ x ∈ rows, ∃ y ∈ rows, y.getD b 0 = x.getD a 0) r hr
    exact List.mem_map.mpr ⟨y, hy, e⟩
  · show dn (colN rows b) ≤ dn (colN rows a)
    have h' : ∀ x ∈ rows, ∀ y ∈ rows, y.getD a 0 = x.getD a 0 → y.getD b 0 = x.getD b 0 := h
    refine dn_img (fun v => ((rows.find? fun r => r.getD a 0 == v).map fun r => r.getD b 0).getD 0) fun x hx => ?_
    obtain ⟨r, hr, rfl⟩ := List.mem_map.mp hx
    refine ⟨r.getD a 0, List.mem_map.mpr ⟨r, hr, rfl⟩, ?_⟩
    cases e : rows.find? (fun s => s.getD a 0 == r.getD a 0) with
    | none =>
      have := List.find?_eq_none.mp e r hr
      simp at this
    | some y =>
      have e1 := List.find?_some e
      have e2 := List.mem_of_find?_eq_some e
      exact h' r hr y e2 (eq_of_beq e1)
end CC
namespace CC
open PySem L2 TL
theorem iteT' {p q : Prop} {b : Bool} (h : b = true) (x : p) : if b = true then p else q := by
  rw [if_pos h]
  exact x
theorem iteF' {p q : Prop} {b : Bool} (h : b = false) (x : q) : if b = true then p else q := by
  rw [if_neg (by rw [h]; decide)]
  exact x
end CC
/-! the walk over a set that set - set takes -/
namespace SD
open PySem PySem.Spec PyProof.Rows L2
section
variable {P : Program} {w : World} {A : Around} {E : Value → Shared → Prop} {s : Shared} {a : Addr} {o : Obj} {es : Array (Int × Value)} {ep : Nat} {t : SetTable}
theorem walk_any {Q : Array (Int × Value) → Shared → Prop} (ho : s.heap.get? a = some o) (hd : o.data = .set es ep t) (hf : t.fits es.size = true) (hl : w.params.followText "set-order" = true ∨ t.led = true)
    (h : ∀ out d, out.toList.Perm es.toList → Q out { s with drawn := d }) : wpAny (model P w) A (setWalk a) Q E s := by
  have stay : ∀ out : Array (Int × Value), out.toList.Perm es.toList → Q out s := fun out q => h out s.drawn q
  unfold setWalk
  refine wpAny_bind (wpAny_setState_of ho hd hf ?_)
  dsimp only
  refine wpAny_bind (wpAny_byText ?_)
  by_cases bt : w.params.followText "set-order" = true
  · refine wp_if_pos bt ?_
    refine wpAny_bind (wpAny_askSetting ?_)
    exact wpAny_pure (stay _ (pick_perm _ _))
  · refine wp_if_neg bt ?_
    have led := hl.resolve_left bt
    split
    · refine wpAny_bind (drawOrder_at _ _ _ _ (by simp) fun ys d q => ?_)
      exact wpAny_pure (h _ d (by simpa using q))
    · refine wpAny_bind (m := (if (!t.led && decide (es.size > 1)) = true then unsupported "set:maker-not-led" else pure ())) (wp_if_neg (by rw [led]; simp) (wpAny_pure ?_))
      exact wpAny_pure (stay _ (List.Perm.refl _))
theorem forIn_pure {α : Type} {f : α → Option Bool × Unit → Sem (ForInStep (Option Bool × Unit))} : ∀ {l : List α}, (∀ e ∈ l, f e (none, ()) = pure (.yield (none, ()))) → (forIn l (none, ()) f : Sem (Option Bool × Unit)) = pure (none, ())
  | [], _ => rfl
  | e :: l, h => by
    rw [List.forIn_cons, h e List.mem_cons_self, pure_bind]
    exact forIn_pure fun x hx => h x (List.mem_cons_of_mem _ hx)
theorem forIn_still {M : Model} {F : Addr → Option Bool × Unit → Sem (ForInStep (Option Bool × Unit))} : ∀ {sets : List Addr} {Q : Option Bool × Unit → Shared → Prop}, (∀ a ∈ sets, ∀ Q' : ForInStep (Option Bool × Unit) → Shared → Prop, Q' (.yield (none, ())) s → wpAny M A (F a (none, ())) Q' E s) → Q (none, ()) s → wpAny M A (forIn sets (none, ()) F) Q E s
  | [], _, _, h => wpAny_pure h
  | a :: l, Q, hs, h => by
    rw [List.forIn_cons]
    exact wpAny_bind (hs a List.mem_cons_self _ (forIn_still (fun b hb => hs b (List.mem_cons_of_mem _ hb)) h))
theorem quiet_sets {Q : Bool → Shared → Prop} {sets : List Addr} (hs : ∀ a ∈ sets, ∃ S n, SetR w s.heap a S n) (h : Q true s) : wpAny (model P w) A (setsQuiet sets) Q E s := by
  unfold setsQuiet
  refine wpAny_bind (forIn_still (fun a ha Q' h' => ?_) (wpAny_pure h))
  obtain ⟨S, n, o, es, ep, t, ho, hex, hd, g, nd, m, hb, hf, hn, hr, hl⟩ := hs a ha
  refine wpAny_bind (wpAny_setEntries_of ho hd hf ?_)
  rw [← Array.forIn_toList, forIn_pure fun e he => ?_]
  · exact wpAny_bind (wpAny_pure (wpAny_pure h'))
  · obtain ⟨k, tk, e2, _⟩ := g e he
    obtain ⟨e1, v⟩ := e
    dsimp only at e2
    subst e2
    rfl
/-- what a walk gives: the members, each once -/
def Outs (S : Int → Bool) (out : Array (Int × Value)) : Prop := (∀ e ∈ out.toList, GoodE e) ∧ (out.toList.map keyOf).Nodup ∧ ∀ k, S k = true ↔ k ∈ out.toList.map keyOf
theorem Outs.perm {S : Int → Bool} {out es : Array (Int × Value)} (h : Outs S es) (p : out.toList.Perm es.toList) : Outs S out :=
  ⟨fun e he => h.1 e (p.mem_iff.mp he), (p.map keyOf).nodup_iff.mpr h.2.1, fun k => (h.2.2 k).trans (p.map keyOf).mem_iff.symm⟩
theorem walk_unseen {b r : Addr} {S Sb Sr : Int → Bool} {n nb nr : Nat} {Q : Array (Int × Value) → Shared → Prop} (Ra : SetR w s.heap a S n) (Rb : SetR w s.heap b Sb nb) (Rr : SetR w s.heap r Sr nr)
    (h : ∀ out h' d, Outs S out → Heap.SameBut r s.heap h' → SetR w h' r Sr nr → Q out { s with heap := h', drawn := d }) : wpAny (model P w) A (setWalkUnseen a [b, r] (some r)) Q E s := by
  obtain ⟨o, es, ep, t, ho, hex, hd, g, nd, m, hb, hf, hn, hr, hl⟩ := id Ra
  have oe : Outs S es := ⟨g, nd, m⟩
  unfold setWalkUnseen
  refine wpAny_bind (wpAny_setState_of ho hd hf ?_)
  dsimp only
  refine wpAny_bind (wpAny_byText ?_)
  split
  · exact walk_any ho hd hf hl fun out d p => h out s.heap d (oe.perm p) (Heap.SameBut.refl _ _) Rr
  · rename_i nb
    refine wpAny_bind (quiet_sets (fun c hc => ?_) ?_)
    · have e' : c = a ∨ c = b ∨ c = r := by simpa using hc
      rcases e' with rfl | rfl | rfl
      · exact ⟨_, _, Ra⟩
      · exact ⟨_, _, Rb⟩
      · exact ⟨_, _, Rr⟩
    refine wp_if_neg (by decide) ?_
    refine wpAny_bind (wpAny_rule ?_)
    obtain ⟨o2, es2, ep2, t2, ho2, hex2, hd2, g2, nd2, m2, hb2, hf2, hn2, hr2, hl2⟩ := id Rr
    refine wpAny_bind (wpAny_setState_of ho2 hd2 hf2 ?_)
    try dsimp only
    split
    · refine wpAny_bind (wpAny_storeSet_of ho2 hd2 ?_ (fits_of_scanBound hb2))
      refine wpAny_pure (h es _ s.drawn oe (Heap.SameBut.update _ _ _) ?_)
      refine ⟨_, es2, ep2 + 1, _, store_at ho2 hd2, hex2, rfl, g2, nd2, m2, hb2, hf2, hn2, hr2, ?_⟩
      by_cases bt : w.params.followText "set-order" = true
      · exact .inl bt
      · refine .inr ?_
        show (t2.led && t.led) = true
        rw [hl.resolve_left bt, hl2.resolve_left bt]
        rfl
    · exact wpAny_pure (h es s.heap s.drawn oe (Heap.SameBut.refl _ _) Rr)
end
end SD
namespace SD
open PySem PySem.Spec PyProof.Rows L2
section
variable {P : Program} {w : World} {A : Around} {E : Value → Shared → Prop} {s : Shared} {a : Addr}
theorem sub_set : isSubtype (.type "set") (.type "set") = pure true := by rw [isSubtype_type]; kernel_rfl
theorem type_set {S : Int → Bool} {n : Nat} (R : SetR w s.heap a S n) : s.TypeIs (.ref a) "set" := by
  obtain ⟨o, es, ep, t, ho, hex, _⟩ := R
  exact ⟨o, ho, hex.1⟩
theorem any_set {S : Int → Bool} {n : Nat} {Q : Bool → Shared → Prop} (R : SetR w s.heap a S n) (h : Q true s) : wpAny (model P w) A (Builtin.Frozenset.isAnySet (.ref a)) Q E s := by
  unfold Builtin.Frozenset.isAnySet
  refine wpAny_bind (wpAny_isInstance (T := "set") (b := true) (type_set R) sub_set ?_)
  exact wpAny_pure h
theorem size_set {S : Int → Bool} {n : Nat} {Q : Nat → Shared → Prop} (R : SetR w s.heap a S n) (h : Q n s) : wpAny (model P w) A (Builtin.Frozenset.sizeOf a) Q E s := by
  obtain ⟨o, es, ep, t, ho, hex, hd, g, nd, m, hb, hf, hn, hr, hl⟩ := R
  unfold Builtin.Frozenset.sizeOf
  refine wpAny_bind (wpAny_setEntries_of ho hd hf (wpAny_pure ?_))
  rw [hn]
  exact h
theorem base_set {S : Int → Bool} {n : Nat} {Q : Value → Shared → Prop} (R : SetR w s.heap a S n) (h : Q (.type "set") s) : wpAny (model P w) A (Builtin.Frozenset.baseOf a) Q E s := by
  unfold Builtin.Frozenset.baseOf
  exact wpAny_bind (wpAny_isInstance (T := "set") (b := true) (type_set R) sub_set (wpAny_pure h))
theorem SetR.cong {h : Heap} {S S' : Int → Bool} {n : Nat} (R : SetR w h a S n) (e : ∀ k, S k = S' k) : SetR w h a S' n := by
  have : S = S' := funext e
  rw [← this]
  exact R
theorem forIn_sub {M : Model} {r : Addr} {Sb : Int → Bool} {F : Int × Value → PUnit → Sem (ForInStep PUnit)} {B : Heap → Prop} (hB : ∀ h h', B h → Heap.SameBut r h h' → B h')
    (hF : ∀ (e : Int × Value) (s : Shared) (S0 : Int → Bool) (n0 : Nat) (Q' : ForInStep PUnit → Shared → Prop), GoodE e → B s.heap → SetR w s.heap r S0 n0 → n0 + 1 < scanBound →
      (∀ h' n1, Heap.SameBut r s.heap h' → n1 ≤ n0 + 1 → SetR w h' r (fun k => S0 k || (decide (k = keyOf e) && !Sb k)) n1 → Q' (.yield PUnit.unit) { s with heap := h' }) → wpAny M A (F e PUnit.unit) Q' E s) :
    ∀ (l : List (Int × Value)) (s : Shared) (S0 : Int → Bool) (n0 : Nat) (Q : PUnit → Shared → Prop), (∀ e ∈ l, GoodE e) → B s.heap → SetR w s.heap r S0 n0 → n0 + l.length < scanBound →
      (∀ h' n1, Heap.SameBut r s.heap h' → n1 ≤ n0 + l.length → SetR w h' r (fun k => S0 k || (decide (k ∈ l.map keyOf) && !Sb k)) n1 → Q PUnit.unit { s with heap := h' }) → wpAny M A (forIn l PUnit.unit F) Q E s
  | [], s, S0, n0, Q, _, _, R, _, h => by
    refine wpAny_pure (h s.heap n0 (Heap.SameBut.refl _ _) (Nat.le_refl _) (SetR.cong R fun k => ?_))
    simp
  | e :: l, s, S0, n0, Q, hg, hb, R, hn, h => by
    rw [List.length_cons] at hn
    rw [List.forIn_cons]
    refine wpAny_bind (hF e s S0 n0 _ (hg e List.mem_cons_self) hb R (by omega) fun h1 n1 sb1 le1 R1 => ?_)
    refine forIn_sub hB hF l _ _ n1 Q (fun x hx => hg x (List.mem_cons_of_mem _ hx)) (hB _ _ hb sb1) R1 (by omega) fun h2 n2 sb2 le2 R2 => ?_
    refine h h2 n2 (sb1.trans sb2) (by rw [List.length_cons]; omega) (SetR.cong R2 fun k => ?_)
    cases S0 k <;> cases Sb k <;> by_cases z1 : k = keyOf e <;> by_cases z2 : k ∈ l.map keyOf <;> simp [z1, z2]
theorem diff_any {b : Addr} {S Sb : Int → Bool} {n nb : Nat} {nm : String} {Q : Value → Shared → Prop} (Ra : SetR w s.heap a S n) (Rb : SetR w s.heap b Sb nb) (small : n / 4 ≤ nb)
    (h : ∀ h' d n1, (∀ c o, s.heap.get? c = some o → h'.get? c = some o) → n1 ≤ n → SetR w h' s.heap.objs.size (fun k => S k && !Sb k) n1 → Q (.ref s.heap.objs.size) { s with heap := h', drawn := d }) :
    wpAny (model P w) A (Builtin.Frozenset.difference nm a (.ref b)) Q E s := by
  unfold Builtin.Frozenset.difference
  refine wpAny_bind (any_set Rb ?_)
  simp only [Bool.not_true, Bool.false_eq_true, if_false, Bool.false_and, if_true]
  refine wpAny_bind (wpAny_of_eq (a := b) rfl ?_)
  refine wpAny_bind (size_set Rb ?_)
  refine wpAny_bind (size_set Ra ?_)
  refine wp_if_neg (by omega) ?_
  refine wpAny_bind (base_set Ra ?_)
  refine wpAny_bind (PpSet.newSet_ok ?_)
  refine wpAny_bind (wpAny_of_eq (a := s.heap.objs.size) rfl ?_)
  have kp : ∀ c o, s.heap.get? c = some o → (s.heap.push { cls := .type "set", dict := none, data := .set #[] 0 (.fresh 0 0 (!w.params.followText "set-order")) }).get? c = some o := fun c o e => Heap.get?_push_of_some _ e
  have ar : a ≠ s.heap.objs.size := Nat.ne_of_lt Ra.lt
  have br : b ≠ s.heap.objs.size := Nat.ne_of_lt Rb.lt
  have Ra1 := Ra.at (h' := s.heap.push { cls := .type "set", dict := none, data := .set #[] 0 (.fresh 0 0 (!w.params.followText "set-order")) }) fun o e => kp _ o e
  have Rb1 := Rb.at (h' := s.heap.push { cls := .type "set", dict := none, data := .set #[] 0 (.fresh 0 0 (!w.params.followText "set-order")) }) fun o e => kp _ o e
  have Rr := setR_fresh (h := s.heap) w
  generalize s.heap.push { cls := .type "set", dict := none, data := .set #[] 0 (.fresh 0 0 (!w.params.followText "set-order")) } = h0 at kp Ra1 Rb1 Rr
  obtain ⟨o, es, ep, t, ho, hex, hd, g, nd, m, hb, hf, hn, hr, hl⟩ := (show SetR w _ a S n from Ra1)
  refine wpAny_bind ?_
  unfold setEpoch
  refine wpAny_bind (wpAny_setState_of ho hd hf (wpAny_pure ?_))
  refine wpAny_bind (wpAny_holding ?_)
  refine wpAny_bind (walk_unseen Ra1 Rb1 Rr fun out h1 d oo sb1 Rr1 => ?_)
  have ol : out.toList.length = n := by
    have p : (out.toList.map keyOf).Perm (es.toList.map keyOf) := (List.perm_ext_iff_of_nodup oo.2.1 nd).mpr fun k => (oo.2.2 k).symm.trans (m k)
    have := p.length_eq
    rw [List.length_map, List.length_map, Array.length_toList, Array.length_toList] at this
    rw [Array.length_toList, this, hn]
  refine wpAny_bind ?_
  rw [← Array.forIn_toList]
  refine forIn_sub (r := s.heap.objs.size) (Sb := Sb) (B := fun hh => hh.get? a = some o ∧ SetR w hh b Sb nb) (fun x y hx sb => ⟨(sb.2 a ar).trans hx.1, hx.2.at fun o e => (sb.2 b br).trans e⟩) ?_ out.toList _ (fun _ => false) 0 _ oo.1 ⟨(sb1.2 a ar).trans ho, Rb1.at fun o e => (sb1.2 b br).trans e⟩ Rr1 (by rw [ol]; omega) fun h2 n1 sb2 le2 R2 => ?_
  · intro e s' S0 n0 Q' ge hB Rr0 room hQ
    obtain ⟨k, tk, e2, e1⟩ := ge
    obtain ⟨eh, ev⟩ := e
    dsimp only at e1 e2
    subst e1
    subst e2
    have ek : keyOf (hashInt k, Value.int k tk) = k := rfl
    rw [ek] at hQ
    have same : ∀ h', Heap.SameBut s.heap.objs.size s'.heap h' → h'.get? a = some o := fun h' sb => (sb.2 a ar).trans hB.1
    refine wpAny_bind (wpAny_holding ?_)
    refine wpAny_bind (wpAny_setFind_of (knd := intKind P w) (k := k) (intKind_is P w k tk) rfl (SetR.setOf hB.2) fun rr hrr => ?_)
    refine wpAny_bind (wpAny_pure ?_)
    have tail : ∀ {h' : Heap}, Heap.SameBut s.heap.objs.size s'.heap h' → Q' (.yield PUnit.unit) { s' with heap := h' } → wpAny (model P w) A (do Builtin.Frozenset.unchanged nm a ep; pure (ForInStep.yield PUnit.unit)) Q' E { s' with heap := h' } := fun {h'} sb q => by
      unfold Builtin.Frozenset.unchanged setEpoch
      refine wpAny_bind (wpAny_bind (wpAny_bind (wpAny_setState_of (same h' sb) hd hf (wpAny_pure ?_))))
      exact wp_if_neg (by simp) (wpAny_pure (wpAny_pure q))
    cases z : Sb k with
    | true =>
      rw [z] at hrr
      refine wp_if_neg (by rw [hrr]; decide) (wpAny_pure ?_)
      refine tail (Heap.SameBut.refl _ _) (hQ _ n0 (Heap.SameBut.refl _ _) (by omega) (SetR.cong Rr0 fun j => ?_))
      by_cases zj : j = k
      · subst zj
        rw [z]
        simp
      · rw [decide_eq_false zj]
        simp
    | false =>
      rw [z] at hrr
      refine wp_if_pos (by rw [hrr]; decide) ?_
      refine wpAny_bind (setR_add_hashed Rr0 room fun h' sb R' => wpAny_pure ?_)
      refine tail sb (hQ _ _ sb (by split <;> omega) (SetR.cong R' fun j => ?_))
      by_cases zj : j = k
      · subst zj
        rw [z]
        simp
      · rw [decide_eq_false zj]
        simp
  · refine wpAny_pure (wpAny_pure (h h2 d n1 (fun c oc ec => ?_) (by omega) (SetR.cong R2 fun k => ?_)))
    · have cr : c ≠ s.heap.objs.size := Nat.ne_of_lt (Heap.lt_size ec)
      exact (sb2.2 c cr).trans ((sb1.2 c cr).trans (kp c oc ec))
    · have := oo.2.2 k
      by_cases z : k ∈ out.toList.map keyOf
      · rw [this.mpr z, decide_eq_true z]
        simp
      · have sk : S k = false := by
          cases y : S k with
          | false => rfl
          | true => exact (z (this.mp y)).elim
        rw [sk, decide_eq_false z]
        simp
end
end SD
/-! ### set - set by a copy: the first from 8 to 15 elements, the other fewer than a fourth -/
namespace SD
open PySem PySem.Spec PyProof.Rows L2
theorem range_all {α : Type} : ∀ l : List α, (List.range l.length).filterMap (fun i => l[i]?) = l
  | [] => rfl
  | x :: l => by
    rw [List.length_cons, List.range_succ_eq_map, List.filterMap_cons]
    simp only [List.getElem?_cons_zero]
    rw [List.filterMap_map]
    congr 1
    have : ((fun i => (x :: l)[i]?) ∘ Nat.succ) = fun i => l[i]? := by
      funext i
      simp
    rw [this]
    exact range_all l
theorem order_perm {es : Array (Int × Value)} {order : Array Nat} (h : order.toList.Perm (List.range es.size)) : (order.filterMap (es[·]?)).toList.Perm es.toList := by
  rw [Array.toList_filterMap]
  have e : (fun i : Nat => es[i]?) = fun i : Nat => es.toList[i]? := by
    funext i
    rw [Array.getElem?_toList]
  rw [e]
  have := h.filterMap (fun i : Nat => es.toList[i]?)
  rw [show es.size = es.toList.length from rfl, range_all] at this
  exact this
theorem laid_ok {M f mv : Nat} {led plain : Bool} {hs : Array Int} (hM : MaskOk M) (hn : hs.size ≤ M) : ∃ t order, SetTable.laid M f mv led plain hs = some (t, order) ∧ order.toList.Perm (List.range hs.size) ∧ Ris t.place.toList ∧ t.place.size = hs.size ∧ t.mask = M ∧ t.led = led ∧ t.dummies = #[] := by
  obtain ⟨wanted, hw⟩ : ∃ wanted, SetTable.sizeAbove wanted - 1 = M := by
    rcases hM with rfl | rfl | rfl
    · exact ⟨0, by decide⟩
    · exact ⟨16, by decide⟩
    · exact ⟨64, by decide⟩
  obtain ⟨t', order, e, hp, T, em, el, epl, ed⟩ := relaid_ok ⟨0, #[], #[], f, led, mv, plain⟩ (hs := hs) (wanted := wanted) hw hM hn
  rw [relaid_eq, hw] at e
  obtain ⟨owner, e1, e2⟩ := Option.bind_eq_some_iff.mp e
  have e3 := Prod.mk.inj (Option.some.inj e2)
  have sz : t'.place.size = hs.size := by
    have h1 := T.sz
    rw [List.length_map] at h1
    rw [h1, hp.length_eq, List.length_range]
  have ri := T.ris
  rw [← e3.1] at sz ri
  refine ⟨{ mask := M, place := ((liveOf M owner).map (·.1)).toArray, dummies := #[], finger := f, led := led, moves := mv, plain := plain }, order, ?_, hp, ri, sz, rfl, rfl, rfl⟩
  show (SetTable.layClean M hs >>= fun owner => _) = _
  rw [e1, ← e3.2]
  rfl
/-- a set of ints whose table has 32 places, few of them of discarded ones -/
def SetD (w : World) (h : Heap) (a : Addr) (S : Int → Bool) (n d : Nat) : Prop :=
  ∃ o es ep t, h.get? a = some o ∧ o.ExactSet ∧ o.data = .set es ep t ∧ (∀ e ∈ es.toList, GoodE e) ∧ (es.toList.map keyOf).Nodup ∧ (∀ k, S k = true ↔ k ∈ es.toList.map keyOf) ∧
    es.size < scanBound ∧ t.fits es.size = true ∧ es.size = n ∧ Ris t.place.toList ∧ (w.params.followText "set-order" = true ∨ t.led = true) ∧ t.mask = 31 ∧ t.dummies.size ≤ d
theorem SetD.R {w : World} {h : Heap} {a : Addr} {S : Int → Bool} {n d : Nat} (D : SetD w h a S n d) : SetR w h a S n := by
  obtain ⟨o, es, ep, t, h1, h2, h3, h4, h5, h6, h7, h8, h9, h10, h11, _⟩ := D
  exact ⟨o, es, ep, t, h1, h2, h3, h4, h5, h6, h7, h8, h9, h10, h11⟩
theorem SetD.cong {w : World} {h : Heap} {a : Addr} {S S' : Int → Bool} {n d : Nat} (R : SetD w h a S n d) (e : ∀ k, S k = S' k) : SetD w h a S' n d := by
  have : S = S' := funext e
  rw [← this]
  exact R
theorem setMerge_eq (s o : Addr) (each : Sem Unit) : setMerge s o each = (do
    if s == o then return
    let (eo, epoch, to) ← setState o
    if eo.isEmpty then return
    setRoomFor s eo.size
    let (_, _, ts) ← setState s
    match ts.road to with
    | .slotForSlot => storeSet s eo { to with finger := ts.finger, led := ts.led && to.led, moves := ts.moves, plain := ts.plain && to.plain }
    | .clean =>
      let (es, t) ← (do
        let some (t, order) := SetTable.laid ts.mask ts.finger ts.moves (led := ts.led && to.led) (plain := ts.plain && to.plain) (eo.map (·.1)) | unsupported "internal:set-table-without-room"
        let es' := order.filterMap (eo[·]?)
        if es'.size != eo.size then unsupported "internal:set-table-lost-an-element"
        pure (es', t) : Sem (Array (Int × Value) × SetTable))
      storeSet s es t
    | .oneByOne =>
      for (h, x) in ← setWalkUnseen o [s] (some s) do
        let _ ← holding [x] (setAddHashed s x h)
        each
        if (← setState o).2.1 != epoch then unsupported "set.changed-during-merge") := by rfl
section
variable {P : Program} {w : World} {A : Around} {E : Value → Shared → Prop} {s : Shared} {a : Addr}
theorem road_free {ts to : SetTable} (h : ts.place = #[]) (d : ts.dummies = #[]) : ts.road to = .slotForSlot ∧ ts.mask = to.mask ∧ to.dummies = #[] ∨ ts.road to = .clean := by
  unfold SetTable.road SetTable.fill
  rw [h, d]
  by_cases e : (ts.mask == to.mask && to.dummies.isEmpty) = true
  · refine .inl ⟨by simp [e], ?_⟩
    rw [Bool.and_eq_true, beq_iff_eq] at e
    exact ⟨e.1, by simpa using e.2⟩
  · exact .inr (by simp [e])
/-- an empty set takes over another one's elements -/
theorem merge_into {r : Addr} {S : Int → Bool} {n : Nat} {o : Obj} {ep : Nat} {t : SetTable} {each : Sem Unit} {Q : Unit → Shared → Prop} (Ra : SetR w s.heap a S n) (ne : r ≠ a) (n8 : 8 ≤ n) (n15 : n ≤ 15)
    (ho : s.heap.get? r = some o) (hex : o.ExactSet) (hd : o.data = .set #[] ep t) (hm : t.mask = 7) (hp : t.place = #[]) (hdm : t.dummies = #[]) (hl : w.params.followText "set-order" = true ∨ t.led = true)
    (h : ∀ h', Heap.SameBut r s.heap h' → SetD w h' r S n 0 → Q () { s with heap := h' }) : wpAny (model P w) A (setMerge r a each) Q E s := by
  obtain ⟨oa, es, epa, ta, hoa, hexa, hda, g, nd, m, hb, hf, hn, hr, hla⟩ := id Ra
  have hft : t.fits (#[] : Array (Int × Value)).size = true := by
    unfold SetTable.fits SetTable.fill
    rw [hp, hdm, hm]
    rfl
  rw [setMerge_eq]
  refine wp_if_neg (by simpa using ne) ?_
  refine wpAny_bind (wpAny_setState_of hoa hda hf ?_)
  dsimp only
  refine wp_if_neg (by rw [Array.isEmpty_iff_size_eq_zero]; omega) ?_
  refine wpAny_bind ?_
  unfold setRoomFor
  refine wpAny_bind (wpAny_setState_of ho hd hft ?_)
  have rf : t.roomFor es.size = some (es.size * 2) := by
    unfold SetTable.roomFor SetTable.fill
    rw [hp, hdm, hm]
    rw [if_pos (by show (0 + 0 + es.size) * 5 ≥ 7 * 3; omega)]
    simp
  dsimp only
  rw [rf]
  dsimp only
  have sa : SetTable.sizeAbove (es.size * 2) = 32 := by
    have : ∀ n : Fin 16, 8 ≤ n.1 → SetTable.sizeAbove (n.1 * 2) = 32 := by decide
    exact this ⟨es.size, by omega⟩ (by show 8 ≤ es.size; omega)
  rw [setRelay_eq]
  refine wpAny_bind (wpAny_setState_of ho hd hft ?_)
  dsimp only
  refine wp_if_neg (by rw [sa, sizeLine_eq]; omega) ?_
  try refine wpAny_bind (wpAny_pure ?_)
  obtain ⟨t', order, e, hpm, T, em, el, epl, ed⟩ := relaid_ok t (hs := (#[] : Array (Int × Value)).map (·.1)) (wanted := es.size * 2) (M := 31) (by rw [sa]) (.inr (.inl rfl)) (by simp)
  rw [e]
  dsimp only
  have o0 : order = #[] := by
    have := hpm.length_eq
    simp at this
    exact this
  subst o0
  refine wpAny_bind ?_
  refine wp_if_neg (by simp) ?_
  try refine wpAny_bind (wpAny_pure ?_)
  refine wpAny_pure ?_
  dsimp only
  refine wpAny_storeSet_of ho hd ?_ (by simp)
  have tp : t'.place = #[] := by
    have := T.sz
    simp at this
    exact this
  have ho1 := store_at (es' := (#[] : Array Nat).filterMap (fun i : Nat => (#[] : Array (Int × Value))[i]?)) (t' := t') ho hd
  have sb1 : Heap.SameBut r s.heap (s.heap.update r (Obj.putSet ((#[] : Array Nat).filterMap (fun i : Nat => (#[] : Array (Int × Value))[i]?)) t')) := Heap.SameBut.update ..
  generalize s.heap.update r (Obj.putSet ((#[] : Array Nat).filterMap (fun i : Nat => (#[] : Array (Int × Value))[i]?)) t') = h1 at ho1 sb1
  have hf1 : t'.fits ((#[] : Array Nat).filterMap (fun i : Nat => (#[] : Array (Int × Value))[i]?)).size = true := by
    unfold SetTable.fits SetTable.fill
    rw [tp, ed, em]
    rfl
  refine wpAny_bind (wpAny_setState_of (s := { s with heap := h1 }) ho1 rfl hf1 ?_)
  dsimp only
  have led' : w.params.followText "set-order" = true ∨ (t'.led && ta.led) = true := by
    rcases hl with z | z
    · exact .inl z
    · rcases hla with y | y
      · exact .inl y
      · exact .inr (by rw [el, z, y]; rfl)
  have fin : ∀ (es2 : Array (Int × Value)) (t2 : SetTable), es2.toList.Perm es.toList → t2.fits es2.size = true → Ris t2.place.toList → (w.params.followText "set-order" = true ∨ t2.led = true) → t2.mask = 31 → t2.dummies = #[] → wpAny (model P w) A (storeSet r es2 t2) Q E { s with heap := h1 } := by
    intro es2 t2 p2 f2 r2 l2 m2 d2
    have sz2 : es2.size = es.size := by
      have := p2.length_eq
      rwa [Array.length_toList, Array.length_toList] at this
    refine wpAny_storeSet_of (s := { s with heap := h1 }) ho1 rfl ?_ (by rw [sz2]; exact fits_of_scanBound hb)
    refine h _ (sb1.trans (Heap.SameBut.update ..)) ?_
    refine ⟨_, es2, _, t2, store_at ho1 rfl, hex, rfl, fun e he => g e (p2.mem_iff.mp he), (p2.map keyOf).nodup_iff.mpr nd, fun k => (m k).trans (p2.map keyOf).mem_iff.symm, by rw [sz2]; exact hb, f2, by rw [sz2]; exact hn, r2, l2, m2, by rw [d2]; exact Nat.le_refl _⟩
  rcases road_free (to := ta) tp ed with ⟨rd, rm, rdm⟩ | rd
  · rw [rd]
    dsimp only
    exact fin es _ (List.Perm.refl _) hf hr led' (by show ta.mask = 31; rw [← rm, em]) rdm
  · rw [rd]
    dsimp only
    obtain ⟨t2, order, e2, hp2, ri2, sz2, m2, l2, d2⟩ := laid_ok (M := 31) (f := t'.finger) (mv := t'.moves) (led := t'.led && ta.led) (plain := t'.plain && ta.plain) (hs := es.map (·.1)) (.inr (.inl rfl)) (by rw [Array.size_map]; omega)
    rw [em, e2]
    rw [Array.size_map] at hp2 sz2
    have pm := order_perm hp2
    have szE : (order.filterMap (es[·]?)).size = es.size := by
      have := pm.length_eq
      rwa [Array.length_toList, Array.length_toList] at this
    try refine wpAny_bind (wpAny_pure ?_)
    dsimp only
    refine wpAny_bind ?_
    refine wp_if_neg (by rw [szE]; simp) ?_
    try refine wpAny_bind (wpAny_pure ?_)
    refine wpAny_pure ?_
    dsimp only
    refine fin _ t2 pm ?_ ri2 (by rw [l2]; exact led') m2 d2
    unfold SetTable.fits SetTable.fill
    rw [sz2, szE, m2, d2]
    simp
    omega
theorem erase_list {α : Type} (xs : Array α) (p : Nat) : (SetTable.eraseAt xs p).toList = xs.toList.eraseIdx p := by
  unfold SetTable.eraseAt
  rw [Array.toList_append, Array.toList_extract, Array.toList_extract, List.eraseIdx_eq_take_drop_succ]
  congr 1
  simp
  exact List.take_of_length_le (by rw [List.length_drop, Array.length_toList]; exact Nat.le_refl _)
theorem erase_size {α : Type} (xs : Array α) {p : Nat} (h : p < xs.size) : (SetTable.eraseAt xs p).size = xs.size - 1 := by
  rw [← Array.length_toList, erase_list, List.length_eraseIdx, if_pos (by rw [Array.length_toList]; exact h), Array.length_toList]
theorem insert_size {α : Type} (xs : Array α) (p : Nat) (x : α) : (SetTable.insertAt xs p x).size = xs.size + 1 := by
  unfold SetTable.insertAt
  rw [Array.size_append, Array.size_push, Array.size_extract, Array.size_extract]
  omega
theorem mem_out {L : List (Int × Value)} {i : Nat} {k : Int} (nd : (L.map keyOf).Nodup) (hi : i < L.length) (e : keyOf L[i] = k) {j : Int} : j ∈ (L.eraseIdx i).map keyOf ↔ j ∈ L.map keyOf ∧ j ≠ k := by
  have sp : L = L.take i ++ L[i] :: L.drop (i + 1) := by rw [List.getElem_cons_drop, List.take_append_drop]
  rw [List.eraseIdx_eq_take_drop_succ]
  have nd' := nd
  rw [sp, List.map_append, List.map_cons, e] at nd'
  have h1 := List.nodup_append.mp nd'
  have h2 := List.nodup_cons.mp h1.2.1
  constructor
  · intro h
    rw [List.map_append] at h
    refine ⟨?_, fun z => ?_⟩
    · rw [sp, List.map_append, List.map_cons]
      rcases List.mem_append.mp h with y | y
      · exact List.mem_append_left _ y
      · exact List.mem_append_right _ (List.mem_cons_of_mem _ y)
    · subst z
      rcases List.mem_append.mp h with y | y
      · exact h1.2.2 _ y _ List.mem_cons_self rfl
      · exact h2.1 y
  · rintro ⟨h, z⟩
    rw [sp, List.map_append, List.map_cons, e] at h
    rw [List.map_append]
    rcases List.mem_append.mp h with y | y
    · exact List.mem_append_left _ y
    · rcases List.mem_cons.mp y with y | y
      · exact (z y).elim
      · exact List.mem_append_right _ y
theorem disc_at {r : Addr} {S : Int → Bool} {n d : Nat} {k : Int} {tk : Tok} {Q : Bool → Shared → Prop} (D : SetD w s.heap r S n d)
    (hQ : ∀ b h' n', Heap.SameBut r s.heap h' → n' ≤ n → SetD w h' r (fun j => S j && !decide (j = k)) n' (d + 1) → Q b { s with heap := h' }) :
    wpAny (model P w) A (setDiscardHashed r (.int k tk) ((intKind P w).hash k)) Q E s := by
  obtain ⟨o, es, ep, t, ho, hex, hd, g, nd, hm, hb, hf, hn, hr, hl, mk, dm⟩ := id D
  have hkey : (intKind P w).is k (.int k tk) = true := intKind_is P w k tk
  have hsc : (Value.int k tk).scannable = true := rfl
  have hel : ElemsOf (intKind P w) es.toList := good_elems g
  unfold setDiscardHashed setFind setFindIn
  refine wpAny_bind (wpAny_bind (wpAny_setState_of ho hd hf ?_))
  dsimp only
  rw [byScan_of hsc hb hel]
  simp only [↓reduceIte]
  refine wpAny_bind (wpAny_rule ?_)
  refine wpAny_bind (wpAny_setScan_of hkey ho hd hf hel ?_)
  cases hfi : List.findIdx? (fun e => (intKind P w).is k e.2) es.toList with
  | none =>
    dsimp only
    have hnk : k ∉ es.toList.map keyOf := fun z => by
      obtain ⟨e, he, q⟩ := (good_mem (P := P) (w := w) g k).1 z
      have c := List.findIdx?_eq_none_iff.mp hfi e he
      rw [q] at c
      cases c
    have hSk : S k = false := by
      cases q : S k with
      | false => rfl
      | true => exact absurd ((hm k).1 q) hnk
    refine wpAny_pure (wpAny_pure (hQ false s.heap n (Heap.SameBut.refl _ _) (Nat.le_refl _) ?_))
    have D' : SetD w s.heap r S n (d + 1) := ⟨o, es, ep, t, ho, hex, hd, g, nd, hm, hb, hf, hn, hr, hl, mk, Nat.le_succ_of_le dm⟩
    refine D'.cong fun j => ?_
    by_cases e : j = k
    · subst e
      rw [hSk]
      rfl
    · rw [decide_eq_false e]
      simp
  | some i =>
    dsimp only
    obtain ⟨hj, pj, _⟩ := List.findIdx?_eq_some_iff_getElem.mp hfi
    refine wpAny_pure ?_
    rw [Nat.zero_add]
    refine wpAny_bind (wpAny_setState_of ho hd hf ?_)
    dsimp only
    have hi : i < es.size := by rwa [Array.length_toList] at hj
    have ek : keyOf es.toList[i] = k := by
      obtain ⟨k', tk', e2, _⟩ := g _ (List.getElem_mem hj)
      have z : k' = k := by
        have := (good_mem (P := P) (w := w) (l := [es.toList[i]]) (fun e he => by rw [List.mem_singleton.mp he]; exact g _ (List.getElem_mem hj)) k).2 ⟨es.toList[i], List.mem_singleton.mpr rfl, pj⟩
        rw [List.map_cons, List.map_nil, List.mem_singleton] at this
        unfold keyOf at this
        rw [e2] at this
        exact this.symm
      unfold keyOf
      rw [e2]
      exact z
    have fs : t.place.size = es.size ∧ t.fill ≤ t.mask := by
      unfold SetTable.fits at hf
      simpa using hf
    have pl : t.place[i]? = some (t.place[i]'(by omega)) := Array.getElem?_eq_getElem (by omega)
    refine wpAny_bind (wpAny_storeSet_of ho hd ?_ (by rw [erase_size es hi]; have := fits_of_scanBound hb; omega))
    refine wpAny_bind (wpAny_point ?_)
    refine wpAny_pure (hQ true _ (n - 1) (Heap.SameBut.update ..) (Nat.sub_le _ _) ?_)
    refine ⟨_, _, _, _, store_at ho hd, hex, rfl, ?_, ?_, ?_, ?_, ?_, ?_, ?_, ?_, ?_, ?_⟩
    · intro e he
      rw [erase_list] at he
      exact g e ((List.eraseIdx_sublist _ _).subset he)
    · rw [erase_list]
      exact nd.sublist ((List.eraseIdx_sublist _ _).map keyOf)
    · intro j
      rw [erase_list, mem_out nd hj ek, ← hm j]
      simp
    · rw [erase_size es hi]
      omega
    · unfold SetTable.fits SetTable.fill SetTable.drop
      rw [pl]
      dsimp only
      rw [erase_size es hi, erase_size t.place (by omega), insert_size]
      have f2 := fs.2
      unfold SetTable.fill at f2
      simp
      omega
    · rw [erase_size es hi, hn]
    · unfold SetTable.drop
      rw [pl]
      dsimp only
      rw [erase_list]
      exact List.Pairwise.sublist (List.eraseIdx_sublist _ _) hr
    · unfold SetTable.drop
      rw [pl]
      exact hl
    · unfold SetTable.drop
      rw [pl]
      exact mk
    · unfold SetTable.drop
      rw [pl]
      dsimp only
      rw [insert_size]
      omega
end
end SD
namespace SD
open PySem PySem.Spec PyProof.Rows L2
theorem entry_sub : entryFor table "set.__sub__" = some Builtin.«frozenset.__sub__» :=
  entryFor_alias (id' := "frozenset.__sub__") (by kernel_rfl) (by first | rfl | decide +kernel | (unfold String.splitOn; simp +decide [String.splitOnAux])) (by decide +kernel) (by kernel_rfl)
/-- how many are left out of a set: none exactly if all are in the other -/
theorem none_left {w : World} {h : Heap} {r : Addr} {S : Int → Bool} {n : Nat} (R : SetR w h r S n) : n = 0 ↔ ∀ k, S k = false := by
  obtain ⟨o, es, ep, t, ho, hex, hd, g, nd, m, hb, hf, hn, hr, hl⟩ := R
  constructor
  · intro e k
    cases z : S k with
    | false => rfl
    | true =>
      have q := (m k).mp z
      have : es.toList = [] := List.length_eq_zero_iff.mp (by rw [Array.length_toList]; omega)
      rw [this] at q
      cases q
  · intro e
    rw [← hn, ← Array.length_toList]
    cases z : es.toList with
    | nil => rfl
    | cons x l =>
      have := (m (keyOf x)).mpr (by rw [z]; simp)
      rw [e] at this
      cases this
theorem inv_drawn {X : Cx} {pins : List (Addr × Obj)} {σ : L2.St} {H : Hp} {s : Shared} (I : Inv X pins σ H s) (d : Drawn) : Inv X pins σ H { s with drawn := d } :=
  I.step (h' := s.heap) (H' := H) (g' := s.gens) (t' := s.toks) (d' := d) (ch := []) (fun _ z => nomatch z) (fun b o _ _ _ e _ => e) (fun b o _ _ _ e _ => ⟨o.slots, e⟩) (fun _ _ _ _ n => n) (fun b o _ e => ⟨o, e⟩) (fun _ _ e => e) (fun _ _ _ e => e) (fun b ps e => ⟨#[], by rw [e]; simp⟩) (fun m h => h) I.hok I.bare
end SD
namespace SD
open PySem PySem.Spec PyProof.Rows L2
section
variable {P : Program} {w : World} {A : Around} {E : Value → Shared → Prop} {s : Shared} {a : Addr}
theorem walk_unseen1 {b r : Addr} {Sb Sr : Int → Bool} {nb nr : Nat} {Q : Array (Int × Value) → Shared → Prop} (Rb : SetR w s.heap b Sb nb) (Rr : SetR w s.heap r Sr nr)
    (h : ∀ out d, Outs Sb out → Q out { s with drawn := d }) : wpAny (model P w) A (setWalkUnseen b [r] none) Q E s := by
  obtain ⟨o, es, ep, t, ho, hex, hd, g, nd, m, hb, hf, hn, hr, hl⟩ := id Rb
  have oe : Outs Sb es := ⟨g, nd, m⟩
  unfold setWalkUnseen
  refine wpAny_bind (wpAny_setState_of ho hd hf ?_)
  dsimp only
  refine wpAny_bind (wpAny_byText ?_)
  split
  · exact walk_any ho hd hf hl fun out d p => h out d (oe.perm p)
  · refine wpAny_bind (quiet_sets (fun c hc => ?_) ?_)
    · have e' : c = b ∨ c = r := by simpa using hc
      rcases e' with rfl | rfl
      · exact ⟨_, _, Rb⟩
      · exact ⟨_, _, Rr⟩
    refine wp_if_neg (by decide) ?_
    refine wpAny_bind (wpAny_rule ?_)
    exact wpAny_pure (h es s.drawn oe)
theorem SetD.at {h h' : Heap} {S : Int → Bool} {n d : Nat} (R : SetD w h a S n d) (k : ∀ o, h.get? a = some o → h'.get? a = some o) : SetD w h' a S n d := by
  obtain ⟨o, es, ep, t, ho, r⟩ := R
  exact ⟨o, es, ep, t, k o ho, r⟩
theorem forIn_disc {M : Model} {r : Addr} {F : Int × Value → PUnit → Sem (ForInStep PUnit)} {B : Heap → Prop} (hB : ∀ h h', B h → Heap.SameBut r h h' → B h')
    (hF : ∀ (e : Int × Value) (s : Shared) (S0 : Int → Bool) (n0 d0 : Nat) (Q' : ForInStep PUnit → Shared → Prop), GoodE e → B s.heap → SetD w s.heap r S0 n0 d0 →
      (∀ h' n1, Heap.SameBut r s.heap h' → n1 ≤ n0 → SetD w h' r (fun k => S0 k && !decide (k = keyOf e)) n1 (d0 + 1) → Q' (.yield PUnit.unit) { s with heap := h' }) → wpAny M A (F e PUnit.unit) Q' E s) :
    ∀ (l : List (Int × Value)) (s : Shared) (S0 : Int → Bool) (n0 d0 : Nat) (Q : PUnit → Shared → Prop), (∀ e ∈ l, GoodE e) → B s.heap → SetD w s.heap r S0 n0 d0 →
      (∀ h' n1, Heap.SameBut r s.heap h' → n1 ≤ n0 → SetD w h' r (fun k => S0 k && !decide (k ∈ l.map keyOf)) n1 (d0 + l.length) → Q PUnit.unit { s with heap := h' }) → wpAny M A (forIn l PUnit.unit F) Q E s
  | [], s, S0, n0, d0, Q, _, _, R, h => by
    refine wpAny_pure (h s.heap n0 (Heap.SameBut.refl _ _) (Nat.le_refl _) (SetD.cong R fun k => ?_))
    simp
  | e :: l, s, S0, n0, d0, Q, hg, hb, R, h => by
    rw [List.forIn_cons]
    refine wpAny_bind (hF e s S0 n0 d0 _ (hg e List.mem_cons_self) hb R fun h1 n1 sb1 le1 R1 => ?_)
    refine forIn_disc hB hF l _ _ n1 (d0 + 1) Q (fun x hx => hg x (List.mem_cons_of_mem _ hx)) (hB _ _ hb sb1) R1 fun h2 n2 sb2 le2 R2 => ?_
    refine h h2 n2 (sb1.trans sb2) (by omega) ?_
    rw [List.length_cons, show d0 + (l.length + 1) = d0 + 1 + l.length by omega]
    refine SetD.cong R2 fun k => ?_
    cases S0 k <;> by_cases z1 : k = keyOf e <;> by_cases z2 : k ∈ l.map keyOf <;> simp [z1, z2]
theorem diff_copy {b : Addr} {S Sb : Int → Bool} {n nb : Nat} {nm : String} {Q : Value → Shared → Prop} (Ra : SetR w s.heap a S n) (Rb : SetR w s.heap b Sb nb) (big : nb < n / 4) (n8 : 8 ≤ n) (n15 : n ≤ 15)
    (h : ∀ h' d n1, (∀ c o, s.heap.get? c = some o → h'.get? c = some o) → n1 ≤ n → SetR w h' s.heap.objs.size (fun k => S k && !Sb k) n1 → Q (.ref s.heap.objs.size) { s with heap := h', drawn := d }) :
    wpAny (model P w) A (Builtin.Frozenset.difference nm a (.ref b)) Q E s := by
  unfold Builtin.Frozenset.difference
  refine wpAny_bind (any_set Rb ?_)
  simp only [Bool.not_true, Bool.false_eq_true, if_false, Bool.false_and, if_true]
  refine wpAny_bind (wpAny_of_eq (a := b) rfl ?_)
  refine wpAny_bind (size_set Rb ?_)
  refine wpAny_bind (size_set Ra ?_)
  refine wp_if_pos (by omega) ?_
  refine wpAny_bind (wpAny_rule ?_)
  refine wpAny_bind ?_
  unfold Builtin.Frozenset.copyOf
  refine wpAny_bind (base_set Ra ?_)
  refine wpAny_bind (PpSet.newSet_ok ?_)
  refine wpAny_bind (wpAny_of_eq (a := s.heap.objs.size) rfl ?_)
  have kp : ∀ c o, s.heap.get? c = some o → (s.heap.push { cls := .type "set", dict := none, data := .set #[] 0 (.fresh 0 0 (!w.params.followText "set-order")) }).get? c = some o := fun c o e => Heap.get?_push_of_some _ e
  have hr0 : (s.heap.push { cls := .type "set", dict := none, data := .set #[] 0 (.fresh 0 0 (!w.params.followText "set-order")) }).get? s.heap.objs.size = some { cls := .type "set", dict := none, data := .set #[] 0 (.fresh 0 0 (!w.params.followText "set-order")) } := by
    obtain ⟨o, es, ep, t, ho, hex, hd, _⟩ := setR_fresh (h := s.heap) w
    first | exact Heap.get?_push_self _ _ | simp [Heap.get?, Heap.push]
  have ar : a ≠ s.heap.objs.size := Nat.ne_of_lt Ra.lt
  have br : b ≠ s.heap.objs.size := Nat.ne_of_lt Rb.lt
  have Ra1 := Ra.at (h' := s.heap.push { cls := .type "set", dict := none, data := .set #[] 0 (.fresh 0 0 (!w.params.followText "set-order")) }) fun o e => kp _ o e
  have Rb1 := Rb.at (h' := s.heap.push { cls := .type "set", dict := none, data := .set #[] 0 (.fresh 0 0 (!w.params.followText "set-order")) }) fun o e => kp _ o e
  generalize s.heap.push { cls := .type "set", dict := none, data := .set #[] 0 (.fresh 0 0 (!w.params.followText "set-order")) } = h0 at kp Ra1 Rb1 hr0
  refine wpAny_bind (merge_into (s := { s with heap := h0 }) Ra1 ar.symm n8 n15 hr0 ⟨rfl, rfl, rfl⟩ rfl rfl rfl rfl ?_ fun h1 sb1 D1 => ?_)
  · show _ ∨ (!w.params.followText "set-order") = true
    cases w.params.followText "set-order"
    · exact .inr rfl
    · exact .inl rfl
  refine wpAny_pure ?_
  refine wpAny_bind (wpAny_of_eq (a := s.heap.objs.size) rfl ?_)
  have Rb2 : SetR w h1 b Sb nb := Rb1.at fun o e => (sb1.2 b br).trans e
  refine wpAny_bind (wpAny_holding ?_)
  unfold Builtin.Frozenset.differenceUpdate
  refine wp_if_neg (by simpa using br) ?_
  refine wpAny_bind (any_set (s := { s with heap := h1 }) Rb2 ?_)
  simp only [if_true]
  refine wpAny_bind (wpAny_of_eq (a := b) rfl ?_)
  refine wpAny_bind (size_set (s := { s with heap := h1 }) Rb2 ?_)
  refine wpAny_bind (size_set (s := { s with heap := h1 }) D1.R ?_)
  refine wp_if_neg (by omega) ?_
  obtain ⟨ob, eb, epb, tb, hob, hexb, hdb, gb, ndb, mb, hbb, hfb, hnb, hrb, hlb⟩ := id Rb2
  refine wpAny_bind ?_
  unfold setEpoch
  refine wpAny_bind (wpAny_setState_of (s := { s with heap := h1 }) hob hdb hfb (wpAny_pure ?_))
  refine wpAny_bind (wpAny_holding ?_)
  refine wpAny_bind (walk_unseen1 (s := { s with heap := h1 }) Rb2 D1.R fun out d oo => ?_)
  have ol : out.toList.length = nb := by
    have p : (out.toList.map keyOf).Perm (eb.toList.map keyOf) := (List.perm_ext_iff_of_nodup oo.2.1 ndb).mpr fun k => (oo.2.2 k).symm.trans (mb k)
    have := p.length_eq
    rw [List.length_map, List.length_map, Array.length_toList, Array.length_toList] at this
    rw [Array.length_toList, this, hnb]
  refine wpAny_bind ?_
  rw [← Array.forIn_toList]
  refine forIn_disc (r := s.heap.objs.size) (B := fun hh => hh.get? b = some ob) (fun x y hx sb => (sb.2 b br).trans hx) ?_ out.toList _ S n 0 _ oo.1 hob D1 fun h2 n1 sb2 le2 D2 => ?_
  · intro e s' S0 n0 d0 Q' ge hB D0 hQ
    obtain ⟨k, tk, e2, e1⟩ := ge
    obtain ⟨eh, ev⟩ := e
    dsimp only at e1 e2
    subst e1
    subst e2
    have ek : keyOf (hashInt k, Value.int k tk) = k := rfl
    rw [ek] at hQ
    refine wpAny_bind (wpAny_holding ?_)
    refine disc_at D0 fun bb h' n' sb le D' => ?_
    unfold Builtin.Frozenset.unchanged setEpoch
    refine wpAny_bind (wpAny_bind (wpAny_bind (wpAny_setState_of (s := { s' with heap := h' }) ((sb.2 b br).trans hB) hdb hfb (wpAny_pure ?_))))
    exact wp_if_neg (by simp) (wpAny_pure (wpAny_pure (hQ h' n' sb le D')))
  · refine wpAny_pure ?_
    obtain ⟨o, es, ep, t, ho, hex, hd, g, nd, m, hb, hf, hn, hr, hl, mk, dm⟩ := id D2
    unfold setTidy
    refine wpAny_bind (wpAny_setState_of (s := { s with heap := h2, drawn := d }) ho hd hf ?_)
    dsimp only
    refine wp_if_neg ?_ (wpAny_pure (wpAny_pure ?_))
    · unfold SetTable.tooManyDummies
      rw [mk]
      simp
      omega
    refine h h2 d n1 (fun c oc ec => ?_) le2 (SetR.cong D2.R fun k => ?_)
    · have cr : c ≠ s.heap.objs.size := Nat.ne_of_lt (Heap.lt_size ec)
      exact (sb2.2 c cr).trans ((sb1.2 c cr).trans (kp c oc ec))
    · have := oo.2.2 k
      by_cases z : k ∈ out.toList.map keyOf
      · rw [this.mpr z, decide_eq_true z]
      · have sk : Sb k = false := by
          cases y : Sb k with
          | false => rfl
          | true => exact (z (this.mp y)).elim
        rw [sk, decide_eq_false z]
end
/-- set - set, of ints, the first not more than four times as large, or with at most 15 and the other not empty -/
def rSubJ (w : World) : R2 := fun x y H Q => ∃ (a b : Addr) (S Sb : Int → Bool) (n nb : Nat), x = .ref a ∧ y = .ref b ∧ H a = some (SetO w a S n) ∧ H b = some (SetO w b Sb nb) ∧ (n / 4 ≤ nb ∨ 1 ≤ nb ∧ n ≤ 15) ∧
  ∀ (p : Addr) (n1 : Nat), H p = none → n1 ≤ n → (n1 = 0 ↔ ∀ k, (S k && !Sb k) = false) → Q (.ref p) (upd H p (SetO w p (fun k => S k && !Sb k) n1))
theorem op_subJ {X : Cx} : OpR X (binaryOp .Sub) (rSubJ X.w) := by
  intro pins s σ H x y v u Q I rx ry h
  obtain ⟨a, b, S, Sb, n, nb, rfl, rfl, ha, hb, few, q⟩ := h
  cases rx
  cases ry
  have Ra := setO_get I ha
  have Rb := setO_get I hb
  refine wpAny_binaryOp_same (type_set Ra) (type_set Rb) F.fills_set_sub F.slot_set_sub ?_
  refine wpAny_call_entry F.slot_set_sub (type_set Ra) entry_sub ?_ (F.args_set_sub_2 _ _)
  refine wpAny_bind (m := Builtin.Frozenset.slot1 "__sub__" ⟨[.ref a, .ref b], []⟩) (wpAny_of_eq (a := (Value.ref a, Value.ref b)) rfl ?_)
  refine wpAny_bind (wpAny_bind (any_set Ra (any_set Rb ?_)))
  refine wp_if_neg (by decide) ?_
  refine wpAny_bind (wpAny_of_eq (a := a) rfl ?_)
  have fin : ∀ h' d n1, (∀ c o, s.heap.get? c = some o → h'.get? c = some o) → n1 ≤ n → SetR X.w h' s.heap.objs.size (fun k => S k && !Sb k) n1 → _ := fun h' d n1 kp le R' => by
    have J : Inv X pins σ (upd H s.heap.objs.size (SetO X.w s.heap.objs.size (fun k => S k && !Sb k) n1)) { s with heap := h' } := I.laid (t' := s.toks) kp (Nat.le_refl _) (setO_new R')
    exact (⟨.ref s.heap.objs.size, _, inv_drawn J d, rfl, q _ n1 (I.hok.fresh (Nat.le_refl _)) le (none_left R')⟩ : ∃ z H', Inv X pins σ H' { s with heap := h', drawn := d } ∧ RelV z (.ref s.heap.objs.size) ∧ Q z H')
  by_cases sm : n / 4 ≤ nb
  · refine wpAny_bind (diff_any Ra Rb sm fun h' d n1 kp le R' => ?_)
    exact wpAny_pure ⟨_, rfl, (by simp), fin h' d n1 kp le R'⟩
  · have f2 := few.resolve_left sm
    refine wpAny_bind (diff_copy Ra Rb (by omega) (by omega) f2.2 fun h' d n1 kp le R' => ?_)
    exact wpAny_pure ⟨_, rfl, (by simp), fin h' d n1 kp le R'⟩
end SD
namespace SC
open PySem PySem.Spec PyProof.Rows L2
theorem addT {P : Program} {w : World} {A : Around} {E : Value → Shared → Prop} {s : Shared} {a : Addr} {L : List (Addr × List Int)} {es : Array (Int × Value)} {ep : Nat} {t : SetTable} (R : SetTR P w s.heap a L es ep t) {x : Addr} {k : List Int} (hx : IsT P w s.heap k x) (hu : A.units + 64 < cLine) (hfew : L.length + 1 < 64) {Q : Value → Shared → Prop}
    (hQ : ∀ h' tk L' es' ep' t', Heap.SameBut a s.heap h' → SetTR P w h' a L' es' ep' t' → (k ∈ L.map (·.2) → L' = L) → (k ∉ L.map (·.2) → L'.Perm ((x, k) :: L)) → Q .none { s with heap := h', toks := tk }) :
    wpAny (model P w) A (call (.builtin "set.add") [.ref a, .ref x]) Q E s := by
  obtain ⟨o, ho, hex, hd⟩ := R.ob
  refine wpAny_call_entry F.slot_set_add ⟨o, ho, hex.1⟩ F.entry_set_add ?_ (F.args_set_add_2 _ _)
  unfold Builtin.«set.add» Builtin.Frozenset.oneOther
  simp only [List.isEmpty_nil, bind_assoc]
  unfold Builtin.Frozenset.addrOf setAdd
  refine wpAny_bind (wpAny_pure ?_)
  try dsimp only
  refine wpAny_bind (wpAny_pure ?_)
  try dsimp only
  refine wpAny_bind ?_
  refine wpAny_holding ?_
  refine wpAny_bind (wpAny_pyHash_tuple (by show A.units + 1 < _; omega) hx ?_)
  refine add_at (s := { s with toks := s.toks + (k.length + 1) }) R hx (by show A.units + 1 < _; omega) hfew fun b h' L' es' ep' t' sb R' c1 c2 => ?_
  show wpAny _ _ (ret Value.none) _ _ _
  exact wpAny_pure ⟨_, rfl, hQ h' _ L' es' ep' t' sb R' c1 c2⟩
/-- what stands at the place of a set while it is filled, and what one more member makes of it -/
structure FamP (α κ : Type) where
  ob : Program → World → Addr → α → HO
  ini : α
  new : ∀ (P : Program) (w : World) (H : Hp) (h : Heap), ObjOk P w H (h.push (bareS w)) h.objs.size (ob P w h.objs.size ini)
  pre : PySem.W.Frag → Around → Hp → α → V → κ → Prop
  post : α → V → κ → α → Prop
  add : ∀ {X : Cx} {pins : List (Addr × Obj)} {σ : L2.St} {H : Hp} {s : Shared} {E : Value → Shared → Prop} {D : Addr} {a : α} {y : V} {z : κ} {v : Value} {Q : Value → Shared → Prop}, Inv X pins σ H s → H D = some (ob X.prog X.w D a) → pre X.K X.A H a y z → RelV y v →
    (∀ b s', post a y z b → Inv X pins σ (upd H D (ob X.prog X.w D b)) s' → Q .none s') → wpAny (model X.prog X.w) X.A (call (.builtin "set.add") [.ref D, v]) Q E s
section
variable {X : Cx} {α κ : Type}
def tSP (F : FamP α κ) (P : Program) (w : World) (K : PySem.W.Frag) (A : Around) (wi : TI) (g : TG) (tt : TT) (te : TE) (vs : List Nat) : TE := fun σ H Q => wi σ H fun J H1 => ∀ D, H1 D = none → ∃ W : Nat → Nat → Hp → Prop, (∃ m, W 0 m (upd H1 D (F.ob P w D F.ini))) ∧
  ∀ i m H, W i m H → (J.stop i H ∧ Q (.ref D) H) ∨ (J.go i H ∧ ∃ Nx : Hp → Prop, (∀ H', Nx H' → ∃ m', m' < m ∧ W (i + 1) m' H') ∧ ∀ x H', J.yld i H x H' → g x (wipe σ vs) H' fun σ2 H2 => wipe σ2 vs = wipe σ vs ∧ tt σ2 H2 fun b H3 =>
    if b = true then te σ2 H3 fun y H4 => ∃ (c : α) (z : κ), H4 D = some (F.ob P w D c) ∧ F.pre K A H4 c y z ∧ ∀ c', F.post c y z c' → Nx (upd H4 D (F.ob P w D c')) else Nx H3)
theorem coreP (F : FamP α κ) {pins : List (Addr × Obj)} {s : Shared} {σ : L2.St} {H : Hp} {Q : VK} {elt tg iter : Expr} {ifs : List Expr} {scope : Scope} {own : List (PySem.Str × Nat)} {pos pos' : Pos} {wi : TI} {g : TG} {tt : TT} {te : TE} {Qf : Value → Shared → Prop} {use : Option (Value → Sem Unit)}
    (calm : X.calm = true) (nd : X.N.Nodup) (I0 : Inv X pins σ H s) (walk : PI X tg iter wi) (bo : BlkOk X.N X.env.scope scope own)
    (aim : ∀ s H C cl fp, PG (X.blk s H scope (compEnvC scope cl C X.env) fp) tg g) (tst : ∀ s H C cl fp, PTs (X.blk s H scope (compEnvC scope cl C X.env) fp) ifs tt)
    (val : ∀ s H C cl fp, PE (X.blk s H scope (compEnvC scope cl C X.env) fp) elt te) (plain : ∀ x, foldedSetIterable iter X.env x = pure x)
    (ask : tSP F X.prog X.w X.K X.A wi g tt te (own.map (·.2)) σ H Q)
    (out : ∀ D C s' m H', Inv X pins σ H' s' → Q (.ref D) H' → s'.heap.Ns C m → FpOk X pins H' C → compPost (model X.prog X.w) X.A X.xe use Qf (.ref D) C (.ok .next) s') :
    wpAny (model X.prog X.w) X.A (comprehension (.SetComp elt [⟨tg, iter, ifs, 0⟩] scope pos) scope X.env pos' (newSet (.type "set")) false (eval iter X.env) use) Qf X.xe s := by
  have clo : ∀ y ∈ scope.names, y.2 = .free → ∃ c, X.env.cells.lookup y.1 = some c := fun y my ey => by
    rcases bo.free y my ey with z | z
    · exact I0.ok.has _ (.inl z)
    · exact I0.ok.has _ (.inr z)
  refine wpAny_comprehension_free (use := use) rfl plain (closure_ok clo) bo.kind (fun y my ey => by rw [bo.uniq y my, ey]) (thn (walk.run pins s σ H _ I0 ask) fun v0 sa ha => thn ha fun v1 sb hb => ?_)
  obtain ⟨itA, fp, tn, J, Hb, rfl, Ib, Tn, stb, fpb, qb⟩ := hb
  refine PpSet.newSet_ok (newEnv_comp ?_)
  obtain ⟨D, eD⟩ : ∃ D, D = sb.heap.objs.size := ⟨_, rfl⟩
  have freeD : Hb D = none := Ib.hok.fresh (Nat.le_of_eq eD.symm)
  obtain ⟨W, ⟨m0, w0⟩, turn⟩ := qb D freeD
  obtain ⟨sc, esc⟩ : ∃ sc : Shared, sc = { sb with heap := sb.heap.push (bareS X.w) } := ⟨_, rfl⟩
  have Ic : Inv X pins σ (upd Hb D (F.ob X.prog X.w D F.ini)) sc := by
    rw [esc]
    refine Ib.laid (t' := sb.toks) (fun b o e => Heap.get?_push_of_some _ e) (Nat.le_of_eq eD.symm) ?_
    rw [eD]
    exact F.new _ _ _ _
  have hc : sc.heap = sb.heap.push (bareS X.w) := by rw [esc]
  have below : ∀ b ∈ fp, b < sb.heap.objs.size := fun b mb => by
    obtain ⟨o, e, _⟩ := Tn.obj _ _ stb b mb
    exact Heap.lt_size e
  have fpc : ∀ b ∈ fp, FpOk X pins (upd Hb D (F.ob X.prog X.w D F.ini)) b ∧ b < sc.heap.objs.size := fun b mb => by
    have lt := below b mb
    refine ⟨⟨?_, (fpb b mb).2⟩, by rw [hc, Heap.size_push]; exact Nat.lt_succ_of_lt lt⟩
    rw [upd_ne (by rw [eD]; exact Nat.ne_of_lt lt)]
    exact (fpb b mb).1
  have stc : tn 0 sc.heap := Tn.keep _ _ _ stb fun b _ o e => by rw [hc]; exact Heap.get?_push_of_some _ e
  have Id := block_start Ic bo nd fpc
  have hereG := aim sc (upd Hb D (F.ob X.prog X.w D F.ini)) sc.heap.objs.size (cellsFrom (sc.heap.objs.size + 1) scope.names (cloFrom X.env.cells scope.names [])) fp
  have hereT := tst sc (upd Hb D (F.ob X.prog X.w D F.ini)) sc.heap.objs.size (cellsFrom (sc.heap.objs.size + 1) scope.names (cloFrom X.env.cells scope.names [])) fp
  have hereE := val sc (upd Hb D (F.ob X.prog X.w D F.ini)) sc.heap.objs.size (cellsFrom (sc.heap.objs.size + 1) scope.names (cloFrom X.env.cells scope.names [])) fp
  rw [← eD, ← esc]
  have offH : ∀ b ∈ fp, (upd Hb D (F.ob X.prog X.w D F.ini)) b = none := fun b mb => (fpc b mb).1.1
  show codeAny _ _ (.compStart (.SetComp elt [⟨tg, iter, ifs, 0⟩] scope pos) 0 (.ref itA) (.ref D) (compEnvC scope (cellsFrom (sc.heap.objs.size + 1) scope.names (cloFrom X.env.cells scope.names [])) sc.heap.objs.size X.env)) _ { sc with heap := pushCells (sc.heap.push { cls := .type "dict", data := .dict #[] }) scope.names }
  generalize hce : compEnvC scope (cellsFrom (sc.heap.objs.size + 1) scope.names (cloFrom X.env.cells scope.names [])) sc.heap.objs.size X.env = ce at Id hereG hereT hereE ⊢
  have locs : ce.locals = sc.heap.objs.size := by subst hce; rfl
  generalize upd Hb D (F.ob X.prog X.w D F.ini) = Hc at Ic Id hereG hereT hereE w0 offH fpc
  generalize hsd : ({ sc with heap := pushCells (sc.heap.push { cls := .type "dict", data := .dict #[] }) scope.names } : Shared) = sd at Id ⊢
  have std : tn 0 sd.heap := Tn.keep _ _ _ stc fun b _ o e => by rw [← hsd]; exact pushCells_keeps _ _ _ _ (Heap.get?_push_of_some _ e)
  have own1 : ∀ {σ' : L2.St} {H' : Hp} {s' : Shared}, Inv (X.blk sc Hc scope ce fp) [] σ' H' s' → (∀ b ∈ fp, H' b = none) → ∀ b ∈ fp, FpOk (X.blk sc Hc scope ce fp) [] H' b := fun {_ H' _} Ie off b mb =>
    ⟨off b mb, (Ie.ok.exf b mb).1, Ie.ok.exfs b mb, .inl mb, fun x c e => (Ie.ok.exf b mb).2 x c e, fun p hp => absurd (show p ∈ ([] : List (Addr × Obj)) ++ [] from hp) (by simp)⟩
  have loop : codeAny (model X.prog X.w) X.A (.compLoop (.SetComp elt [⟨tg, iter, ifs, 0⟩] scope pos) 0 (.ref itA) (.ref D) ce) (compPost (model X.prog X.w) X.A X.xe use Qf (.ref D) sc.heap.objs.size) sd := by
    refine PpSet.compLoopS_any (fun k st => ∃ i He, Inv (X.blk sc Hc scope ce fp) [] (wipe σ (own.map (·.2))) He st ∧ tn i st.heap ∧ (∀ b ∈ fp, He b = none) ∧ W i k He) ?_ m0 ⟨0, Hc, Id, std, offH, w0⟩
    rintro k se ⟨i, He, Ie, ste, offe, we⟩
    rcases turn i k He we with ⟨atEnd, fin⟩ | ⟨onward, Nx, back, next⟩
    · refine thnF (Tn.done (X.blk sc Hc scope ce fp) rfl rfl rfl calm i [] se _ He (fun _ _ => False) Ie (own1 Ie offe) ste atEnd) fun r sf ⟨er, If⟩ => ?_
      subst er
      have Ig : Inv X pins σ He sf := Ic.call' (ch := fp) If.os If.base If.hok If.bare fun b mb => ⟨(fpc b mb).1.2.2.2.1, (fpc b mb).1.2.1, (fpc b mb).1.2.2.2.2.1, (fpc b mb).1.2.2.2.2.2⟩
      have noC : He sc.heap.objs.size = none := locs ▸ (show He ce.locals = none from If.free)
      obtain ⟨nm, nsf, _⟩ := If.loc
      have nsf : sf.heap.Ns sc.heap.objs.size nm := locs ▸ (show sf.heap.Ns ce.locals nm from nsf)
      exact out D sc.heap.objs.size sf nm He Ig fin nsf (Ic.fpOk (Nat.le_refl _) noC)
    · refine thnF (Tn.item (X.blk sc Hc scope ce fp) rfl rfl rfl calm i [] se _ He (fun _ _ => False) Ie (own1 Ie offe) ste onward) fun r sf ⟨u, er, hf⟩ => ?_
      subst er
      refine thnF hf fun _ sg ⟨x, Hg, Ig, rg, yg, stg, offg⟩ => ?_
      refine thnF (hereG.run _ sg _ Hg x u _ (Ig.pinned (own1 Ig offg) (Tn.obj _ _ stg)) rg (next x Hg yg)) fun _ sh ⟨σh, Hh, Ih, wh, qh⟩ => ?_
      refine thnF (hereT.run _ sh σh Hh _ Ih qh) fun b si ⟨Hi, Ii, qi⟩ => ?_
      have over : ∀ {st : Shared} {Ht : Hp}, Inv (X.blk sc Hc scope ce fp) ([] ++ pinsAt fp sg.heap) σh Ht st → Nx Ht → ∃ m, m < k ∧ ∃ i He, Inv (X.blk sc Hc scope ce fp) [] (wipe σ (own.map (·.2))) He st ∧ tn i st.heap ∧ (∀ b ∈ fp, He b = none) ∧ W i m He := fun {st Ht} It nx => by
        obtain ⟨m1, lt1, w1⟩ := back Ht nx
        have held : ∀ b ∈ fp, ∀ o, sg.heap.get? b = some o → st.heap.get? b = some o ∧ Ht b = none := fun b mb o e =>
          have z := It.pin (b, o) (List.mem_append_right _ (List.mem_append_right _ (mem_pinsAt mb e)))
          ⟨z.1, z.2.1⟩
        have ln : (wipe σ (own.map (·.2))).length = σh.length := by rw [← wh, wipe_length]
        refine ⟨m1, lt1, i + 1, Ht, (It.unpinned (pins := [])).weak ln (fun j v e => ?_), Tn.keep _ _ _ stg fun b mb o e => (held b mb o e).1, fun b mb => ?_, w1⟩
        · rw [← wh] at e
          exact (wipe_some e).1
        · obtain ⟨o, e, _⟩ := Tn.obj _ _ stg b mb
          exact (held b mb o e).2
      cases b with
      | false =>
        rw [if_neg (by decide)] at qi ⊢
        exact over Ii qi
      | true =>
        rw [if_pos rfl] at qi ⊢
        refine thnF (hereE.run _ si σh Hi _ Ii qi) fun z sj ⟨yv, Hj, Ij, rj, c, zz, atD, pt, nx⟩ => ?_
        exact F.add (X := X.blk sc Hc scope ce fp) Ij atD pt rj fun c' sk pc Ik => over Ik (nx c' pc)
  exact PpSet.codeAny_compStart_set loop (Tn.self X.A 0 _ _ _ std loop)
/-- {elt for target in iter if ..} -/
theorem pe_setP (F : FamP α κ) {elt tg iter : Expr} {ifs : List Expr} {scope : Scope} {own : List (PySem.Str × Nat)} {pos : Pos} {wi : TI} {g : TG} {tt : TT} {te : TE} (calm : X.calm = true) (nd : X.N.Nodup) (walk : PI X tg iter wi) (bo : BlkOk X.N X.env.scope scope own)
    (aim : ∀ s H C cl fp, PG (X.blk s H scope (compEnvC scope cl C X.env) fp) tg g) (tst : ∀ s H C cl fp, PTs (X.blk s H scope (compEnvC scope cl C X.env) fp) ifs tt)
    (val : ∀ s H C cl fp, PE (X.blk s H scope (compEnvC scope cl C X.env) fp) elt te) (plain : ∀ x, foldedSetIterable iter X.env x = pure x := by intro _; rfl) :
    PE X (.SetComp elt [⟨tg, iter, ifs, 0⟩] scope pos) (tSP F X.prog X.w X.K X.A wi g tt te (own.map (·.2))) := by
  refine ⟨fun pins s σ H Q I0 ask => ?_⟩
  rw [PpSet.eval_SetComp]
  refine coreP F calm nd I0 walk bo aim tst val plain ask fun D C s1 m H1 I1 q hn fpC => ⟨m, hn, fun h2 sb => ?_⟩
  exact ⟨.ref D, H1, I1.turned (t' := s1.toks) (fun b o hb e => (sb.2 b hb).trans e) fpC.1 fpC.2.1 fpC.2.2.2.1 fpC.2.2.2.2.1 fpC.2.2.2.2.2, rfl, q⟩
end
/-- sets of tuples of ints, the tuples by their places -/
def famT : FamP (List (Addr × List Int)) (List Int) where
  ob := fun P w a L => SetTO P w a L
  ini := []
  new := fun P w H h => setTO_new (setTR_fresh (Heap.get?_push_size _ rfl)).t0
  pre := fun K A H L y k => ∃ x : Addr, y = .ref x ∧ SqT K H x (k.map V.int) ∧ (∀ p ∈ L, SqT K H p.1 (p.2.map V.int)) ∧ A.units + 64 < cLine ∧ L.length + 1 < 64
  post := fun L y k L' => ∃ x : Addr, y = .ref x ∧ (k ∈ L.map (·.2) → L' = L) ∧ (k ∉ L.map (·.2) → L'.Perm ((x, k) :: L))
  add := by
    intro X pins σ H s E D a y k v Q I hD pt rv q
    obtain ⟨x, rfl, hx, ht, hu, few⟩ := pt
    cases rv
    have R0 : SetT0 X.prog X.w s.heap D a := (I.hok D _ hD).1
    obtain ⟨es, ep, t, R⟩ := R0.full fun p hp => I.isT (ht p hp)
    refine addT R (I.isT hx) hu few fun h' tk L' es' ep' t' sb R' c1 c2 => q L' _ ⟨x, rfl, c1, c2⟩ ?_
    obtain ⟨o', ho', _⟩ := R'.ob
    exact I.write (e := D) (t' := tk) (by rw [hD]; trivial) (.inl rfl) (fun b u hb hu => (sb.2 b hb).trans hu) ⟨o', ho'⟩ (setTO_new R'.t0)
/-- len of a set of tuples -/
def rLenT (P : Program) (w : World) : List V → Hp → VK → Prop := fun xs H Q => ∃ (a : Addr) (L : List (Addr × List Int)), xs = [.ref a] ∧ H a = some (SetTO P w a L) ∧ Q (.int (L.length : Int)) H
theorem call_lenT {X : Cx} : CallR X (.builtin "len") (rLenT X.prog X.w) := by
  intro pins s σ H xs us Q I r h
  obtain ⟨a, L, rfl, ha, q⟩ := h
  rw [Vals.ref1 r]
  have R0 : SetT0 X.prog X.w s.heap a L := (I.hok a _ ha).1
  obtain ⟨es, ep, t, ⟨o, ho, hex, hd⟩, rows, tab, nd, pl, led, room, few⟩ := R0.ex
  have sz : es.size = L.length := by
    rw [← Array.length_toList, rows]
    simp [rowsOf]
  have hf : t.fits es.size = true := by
    have h1 := tab.sz
    rw [List.length_map] at h1
    unfold SetTable.fits SetTable.fill
    rw [tab.dm, Bool.and_eq_true, beq_iff_eq, decide_eq_true_eq]
    show t.place.size = es.size ∧ t.place.size + 0 ≤ t.mask
    omega
  exact PySem.call_len_set ho hex hd hf (by rw [sz]; omega) ⟨.int (L.length : Int), H, I.tok _, ⟨_, by rw [sz]⟩, q⟩
end SC
namespace CC
open PySem L2 TL
/-- {row[c] for row in rows} -/
theorem si_col {w : World} {K : PySem.W.Frag} {g : Addr} {us : List V} {rows : List (List Nat)} {m c cs : Nat} {σ : L2.St} {H : Hp} {D : Addr} {Qd : Hp → Prop} (hg : SqT K H g us) (dp : DpAll K H us (rows.map gd)) (ok : ∀ r ∈ rows, RowOk m r) (few : rows.length ≤ 400) (cm : c < m) (nD : H D = none)
    (hw : ∀ x : V, wipe ((wipe σ [5]).set 5 (some x)) [5] = wipe σ [5]) (hx : ∀ x : V, ((wipe σ [5]).set 5 (some x))[5]? = some (some x)) (hc : ∀ x : V, ((wipe σ [5]).set 5 (some x))[cs]? = some (some (.int (c : Int))))
    (q : ∀ H2, Same H (wo H2 D) → H2 D = some (SetO w D (memI (colN rows c)) (dn (colN rows c))) → Qd H2) :
    ∃ W : Nat → Nat → Hp → Prop, (∃ m, W 0 m (upd H D (SetO w D (fun _ => false) 0))) ∧ ∀ i m H, W i m H → ((Itt K g).stop i H ∧ Qd H) ∨ ((Itt K g).go i H ∧ ∃ Nx : Hp → Prop, (∀ H', Nx H' → ∃ m', m' < m ∧ W (i + 1) m' H') ∧ ∀ x H', (Itt K g).yld i H x H' → gName 5 x (wipe σ [5]) H' fun σ2 H2 => wipe σ2 [5] = wipe σ [5] ∧ tYes σ2 H2 fun b H3 =>
      if b = true then tOp (rIxT K) (tVar 5) (tVar cs) σ2 H3 fun y H4 => ∃ c c' : (Int → Bool) × Nat, H4 D = some (SetO w D c.1 c.2) ∧ (∃ k : Int, y = .int k ∧ c.2 + 1 < scanBound ∧ c' = (fun j => c.1 j || decide (j = k), if c.1 k = true then c.2 else c.2 + 1)) ∧ Nx (upd H4 D (SetO w D c'.1 c'.2)) else Nx H3) := by
  have ul : us.length = rows.length := by rw [dps_len dp, List.length_map]
  have cut : ∀ j, dn (colN (rows.take j) c) ≤ j := fun j => by
    have e : colN (rows.take j) c = (colN rows c).take j := by
      unfold colN
      rw [List.map_take]
    rw [e]
    exact dn_le _ j
  refine si_tup (xs := us) (fun j H2 => Same H (wo H2 D) ∧ H2 D = some (SetO w D (memI (colN (rows.take j) c)) (dn (colN (rows.take j) c))) ∧ j ≤ 400) ⟨?_, ?_, by omega⟩ (fun j H2 _ z => same_t (z.1.trans (wo_le D)) hg) ?_ ?_
  · rw [wo_upd]
    exact fun b o e => by rw [wo_ne (ne_of_none e nD)]; exact e
  · rw [upd_same]
    have e : memI (colN (rows.take 0) c) = fun _ => false := by
      funext k
      simp [memI, colN]
    have e' : dn (colN (rows.take 0) c) = 0 := by simp [dn, firsts, colN]
    rw [e, e']
  · rintro j v H2 hv ⟨f1, f2, f3⟩
    obtain ⟨r, hr2, dr⟩ := dps_gat dp hv
    have jl := (List.getElem?_eq_some_iff.mp hr2).1
    have rok := ok r (List.mem_of_getElem? hr2)
    obtain ⟨t, rfl, ht⟩ := gd_at dr
    have s2 : Same H H2 := f1.trans (wo_le D)
    have gx : (nms r)[c]? = some (.int ((r.getD c 0 : Nat) : Int)) := by
      rw [nms, List.getElem?_map, List.getD_eq_getElem?_getD, List.getElem?_eq_getElem (by rw [rok.1]; exact cm)]
      rfl
    have room : dn (colN (rows.take j) c) + 1 < scanBound := by
      have := cut j
      unfold scanBound
      omega
    refine ⟨hw _, yes_if ⟨_, hx _, _, hc _, t, _, _, _, rfl, rfl, same_t s2 ht, atI_nat gx, (memI (colN (rows.take j) c), dn (colN (rows.take j) c)), _, f2, ⟨_, rfl, room, rfl⟩, ?_, ?_, by omega⟩⟩
    · rw [wo_upd]
      exact f1
    · rw [upd_same]
      show some (SetO w D (fun j' => memI (colN (rows.take j) c) j' || decide (j' = ((r.getD c 0 : Nat) : Int))) (if memI (colN (rows.take j) c) ((r.getD c 0 : Nat) : Int) = true then dn (colN (rows.take j) c) else dn (colN (rows.take j) c) + 1)) = _
      rw [memI_snoc, colN_take hr2, dn_snoc, memI_at]
      by_cases e : r.getD c 0 ∈ colN (rows.take j) c
      · rw [decide_eq_true e, if_pos rfl, if_pos e]
      · rw [decide_eq_false e, if_neg (by decide), if_neg e]
  · rintro H2 ⟨f1, f2, _⟩
    rw [ul, List.take_length] at f2
    exact q H2 f1 f2
end CC
namespace CC
open PySem L2 TL
/-- a set comprehension over a tuple, by a family of sets -/
theorem sp_tup {α κ : Type} (F : SC.FamP α κ) {P : Program} {w : World} {A : Around} {K : PySem.W.Frag} {a : Addr} {xs : List V} {g : TG} {tt : TT} {te : TE} {vs : List Nat} {σ : L2.St} {H1 : Hp} {D : Addr} {Qd : Hp → Prop} (Pv : Nat → Hp → Prop) (h0 : Pv 0 (upd H1 D (F.ob P w D F.ini))) (hl : ∀ i H, i ≤ xs.length → Pv i H → SqT K H a xs)
    (hs : ∀ i x H, xs[i]? = some x → Pv i H → g x (wipe σ vs) H fun σ2 H2 => wipe σ2 vs = wipe σ vs ∧ tt σ2 H2 fun b H3 => if b = true then te σ2 H3 fun y H4 => ∃ (c : α) (z : κ), H4 D = some (F.ob P w D c) ∧ F.pre K A H4 c y z ∧ ∀ c', F.post c y z c' → Pv (i + 1) (upd H4 D (F.ob P w D c')) else Pv (i + 1) H3) (hd : ∀ H, Pv xs.length H → Qd H) :
    ∃ W : Nat → Nat → Hp → Prop, (∃ m, W 0 m (upd H1 D (F.ob P w D F.ini))) ∧ ∀ i m H, W i m H → ((Itt K a).stop i H ∧ Qd H) ∨ ((Itt K a).go i H ∧ ∃ Nx : Hp → Prop, (∀ H', Nx H' → ∃ m', m' < m ∧ W (i + 1) m' H') ∧ ∀ x H', (Itt K a).yld i H x H' → g x (wipe σ vs) H' fun σ2 H2 => wipe σ2 vs = wipe σ vs ∧ tt σ2 H2 fun b H3 =>
      if b = true then te σ2 H3 fun y H4 => ∃ (c : α) (z : κ), H4 D = some (F.ob P w D c) ∧ F.pre K A H4 c y z ∧ ∀ c', F.post c y z c' → Nx (upd H4 D (F.ob P w D c')) else Nx H3) := by
  refine ⟨fun i m H => m = xs.length - i ∧ i ≤ xs.length ∧ Pv i H, ⟨xs.length, by simp, Nat.zero_le _, h0⟩, ?_⟩
  rintro i m H ⟨rfl, hi, p⟩
  have q := hl i H hi p
  by_cases lt : i < xs.length
  · refine .inr ⟨⟨xs, xs[i], q, by simp [lt]⟩, Pv (i + 1), fun H' p' => ⟨xs.length - (i + 1), by omega, rfl, lt, p'⟩, fun x H' y => ?_⟩
    obtain ⟨e, y⟩ := y
    subst e
    exact hs i x _ (y xs q) p
  · have e : i = xs.length := by omega
    subst e
    exact .inl ⟨⟨xs, q, Nat.le_refl _⟩, hd H p⟩
end CC
namespace CC
open PySem L2 TL
theorem updS_T {P : Program} {w : World} {H : Hp} {l : Addr} {L : List (Addr × List Int)} {o : HO} (h : H l = some (SetTO P w l L)) : SameT H (upd H l o) := by
  constructor
  · intro b xs e
    rw [upd_ne (ne_of e h (by intro z; cases z))]
    exact e
  · intro b o xs e
    rw [upd_ne (ne_of e h (by intro z; cases z))]
    exact e
def pr2 (a b : Nat) (r : List Nat) : List Int := [((r.getD a 0 : Nat) : Int), ((r.getD b 0 : Nat) : Int)]
/-- {(row[a], row[b]) for row in rows} -/
theorem sp_pairs {P : Program} {w : World} {A : Around} {K : PySem.W.Frag} {g : Addr} {us : List V} {rows : List (List Nat)} {m a b ca cb : Nat} {σ : L2.St} {H : Hp} {D : Addr} {Qd : Hp → Prop} (hg : SqT K H g us) (dp : DpAll K H us (rows.map gd)) (ok : ∀ r ∈ rows, RowOk m r) (few : rows.length ≤ 60) (am : a < m) (bm : b < m) (nD : H D = none) (hu : A.units + 64 < cLine)
    (hw : ∀ x : V, wipe ((wipe σ [5]).set 5 (some x)) [5] = wipe σ [5]) (hx : ∀ x : V, ((wipe σ [5]).set 5 (some x))[5]? = some (some x)) (hca : ∀ x : V, ((wipe σ [5]).set 5 (some x))[ca]? = some (some (.int (a : Int)))) (hcb : ∀ x : V, ((wipe σ [5]).set 5 (some x))[cb]? = some (some (.int (b : Int))))
    (q : ∀ H2 (L : List (Addr × List Int)), Same H (wo H2 D) → H2 D = some (SetTO P w D L) → (L.map (·.2)).Nodup → (∀ k, k ∈ L.map (·.2) ↔ k ∈ rows.map (pr2 a b)) → Qd H2) :
    ∃ W : Nat → Nat → Hp → Prop, (∃ m, W 0 m (upd H D (SC.famT.ob P w D SC.famT.ini))) ∧ ∀ i m H, W i m H → ((Itt K g).stop i H ∧ Qd H) ∨ ((Itt K g).go i H ∧ ∃ Nx : Hp → Prop, (∀ H', Nx H' → ∃ m', m' < m ∧ W (i + 1) m' H') ∧ ∀ x H', (Itt K g).yld i H x H' → gName 5 x (wipe σ [5]) H' fun σ2 H2 => wipe σ2 [5] = wipe σ [5] ∧ tYes σ2 H2 fun b H3 =>
      if b = true then tTup (tCons (tOp (rIxT K) (tVar 5) (tVar ca)) (tCons (tOp (rIxT K) (tVar 5) (tVar cb)) tNil)) σ2 H3 fun y H4 => ∃ (c : List (Addr × List Int)) (z : List Int), H4 D = some (SC.famT.ob P w D c) ∧ SC.famT.pre K A H4 c y z ∧ ∀ c', SC.famT.post c y z c' → Nx (upd H4 D (SC.famT.ob P w D c')) else Nx H3) := by
  have ul : us.length = rows.length := by rw [dps_len dp, List.length_map]
  refine sp_tup SC.famT (xs := us) (fun j H2 => Same H (wo H2 D) ∧ ∃ L : List (Addr × List Int), H2 D = some (SetTO P w D L) ∧ (∀ p ∈ L, SqT K H2 p.1 (p.2.map V.int)) ∧ (L.map (·.2)).Nodup ∧ (∀ k, k ∈ L.map (·.2) ↔ k ∈ (rows.take j).map (pr2 a b)) ∧ L.length ≤ j) ⟨?_, [], upd_same, (fun p hp => by cases hp), List.nodup_nil, (fun k => by simp), Nat.le_refl _⟩ (fun j H2 _ z => same_t (z.1.trans (wo_le D)) hg) ?_ ?_
  · rw [wo_upd]
    exact fun b o e => by rw [wo_ne (ne_of_none e nD)]; exact e
  · rintro j v H2 hv ⟨f1, L, f2, f3, f4, f5, f6⟩
    obtain ⟨r, hr2, dr⟩ := dps_gat dp hv
    have jl := (List.getElem?_eq_some_iff.mp hr2).1
    have rok := ok r (List.mem_of_getElem? hr2)
    obtain ⟨t, rfl, ht⟩ := gd_at dr
    have s2 : Same H H2 := f1.trans (wo_le D)
    have gx : ∀ c, c < m → (nms r)[c]? = some (.int ((r.getD c 0 : Nat) : Int)) := fun c cm => by
      rw [nms, List.getElem?_map, List.getD_eq_getElem?_getD, List.getElem?_eq_getElem (by rw [rok.1]; exact cm)]
      rfl
    refine ⟨hw _, yes_if ⟨_, hx _, _, hca _, t, _, _, _, rfl, rfl, same_t s2 ht, atI_nat (gx a am), _, hx _, _, hcb _, t, _, _, _, rfl, rfl, same_t s2 ht, atI_nat (gx b bm), (by show 2 ≤ sizeLine; decide), fun t2 n2 => ?_⟩⟩
    have s3 : Same H2 (upd H2 t2 (.tup [.int ((r.getD a 0 : Nat) : Int), .int ((r.getD b 0 : Nat) : Int)])) := same_new n2
    have h3 : (upd H2 t2 (.tup [.int ((r.getD a 0 : Nat) : Int), .int ((r.getD b 0 : Nat) : Int)])) t2 = some (.tup ((pr2 a b r).map V.int)) := upd_same
    generalize upd H2 t2 (.tup [.int ((r.getD a 0 : Nat) : Int), .int ((r.getD b 0 : Nat) : Int)]) = H3 at s3 h3
    refine ⟨L, pr2 a b r, s3 _ _ f2, ⟨t2, rfl, .inl (.inl h3), fun p hp => same_t s3 (f3 p hp), hu, by omega⟩, ?_⟩
    rintro c' ⟨x, ex, c1, c2⟩
    cases ex
    have uT : SameT H3 (upd H3 D (SetTO P w D c')) := updS_T (s3 _ _ f2)
    refine ⟨?_, c', upd_same, ?_⟩
    · rw [wo_upd]
      exact f1.trans (wo_same s3)
    have tk : ∀ k, k ∈ (rows.take (j + 1)).map (pr2 a b) ↔ k ∈ (rows.take j).map (pr2 a b) ∨ k = pr2 a b r := fun k => by
      rw [take1 hr2, List.map_append, List.mem_append]
      simp
    by_cases e : pr2 a b r ∈ L.map (·.2)
    · rw [c1 e]
      refine ⟨fun p hp => sqt_T (c1 e ▸ uT) (same_t s3 (f3 p hp)), f4, fun k => ?_, by omega⟩
      rw [tk, ← f5]
      exact ⟨.inl, fun z => z.elim id fun z => z ▸ e⟩
    · have pm := c2 e
      refine ⟨fun p hp => ?_, ?_, fun k => ?_, ?_⟩
      · rcases List.mem_cons.mp (pm.mem_iff.mp hp) with z | z
        · rw [z]
          exact sqt_T uT (.inl (.inl h3))
        · exact sqt_T uT (same_t s3 (f3 p z))
      · exact (pm.map (·.2)).nodup_iff.mpr (List.nodup_cons.mpr ⟨e, f4⟩)
      · rw [tk, ← f5, (pm.map (·.2)).mem_iff, List.map_cons, List.mem_cons]
        exact ⟨fun z => z.elim .inr .inl, fun z => z.elim .inr .inl⟩
      · rw [pm.length_eq, List.length_cons]
        omega
  · rintro H2 ⟨f1, L, f2, f3, f4, f5, f6⟩
    rw [ul, List.take_length] at f5
    exact q H2 L f1 f2 f4 f5
/-! as many pairs as values: the column settles the other one -/
theorem subL_len : ∀ {α : Type} [BEq α] [LawfulBEq α] {u v : List α}, u.Nodup → (∀ x ∈ u, x ∈ v) → u.length ≤ v.length
  | _, _, _, [], _, _, _ => Nat.zero_le _
  | _, _, _, x :: u, v, h, s => by
    obtain ⟨h1, h2⟩ := List.nodup_cons.mp h
    have hx := s x List.mem_cons_self
    have := subL_len (u := u) (v := v.erase x) h2 fun y hy => (List.mem_erase_of_ne (a := y) (b := x) fun e => h1 (by rw [← e]; exact hy)).mpr (s y (List.mem_cons_of_mem _ hy))
    have l := List.length_erase_of_mem hx
    have : 0 < v.length := List.length_pos_of_mem hx
    rw [List.length_cons]
    omega
theorem pairs_iff {rows : List (List Nat)} {a b : Nat} {Ps : List (List Int)} (nd : Ps.Nodup) (mem : ∀ k, k ∈ Ps ↔ k ∈ rows.map (pr2 a b)) : Ps.length = dn (colN rows a) ↔ HoldsR rows ⟨true, a, b⟩ := by
  have hd : ∀ r : List Nat, ((pr2 a b r).headD 0).toNat = r.getD a 0 := fun r => rfl
  have inP : ∀ r ∈ rows, pr2 a b r ∈ Ps := fun r hr => (mem _).mpr (List.mem_map.mpr ⟨r, hr, rfl⟩)
  have cover : (firsts (colN rows a)).length ≤ (Ps.map fun p => (p.headD 0).toNat).length := sub_len (nodup_firsts _) fun v hv => by
    obtain ⟨r, hr, rfl⟩ := List.mem_map.mp (mem_firsts.mp hv)
    exact List.mem_map.mpr ⟨_, inP r hr, hd r⟩
  rw [List.length_map] at cover
  show _ ↔ ∀ x ∈ rows, ∀ y ∈ rows, y.getD a 0 = x.getD a 0 → y.getD b 0 = x.getD b 0
  constructor
  · intro h x hx y hy e
    refine Decidable.byContradiction fun ne => ?_
    have np : pr2 a b x ≠ pr2 a b y := fun z => by
      unfold pr2 at z
      injection z with _ z
      injection z with z _
      omega
    have := sub_len (v := (Ps.erase (pr2 a b y)).map fun p => (p.headD 0).toNat) (nodup_firsts (colN rows a)) fun v hv => by
      obtain ⟨r, hr, rfl⟩ := List.mem_map.mp (mem_firsts.mp hv)
      by_cases q : pr2 a b r = pr2 a b y
      · refine List.mem_map.mpr ⟨_, (List.mem_erase_of_ne np).mpr (inP x hx), ?_⟩
        rw [hd, ← e, ← hd y, ← q, hd]
      · exact List.mem_map.mpr ⟨_, (List.mem_erase_of_ne q).mpr (inP r hr), hd r⟩
    rw [List.length_map, List.length_erase_of_mem (inP y hy)] at this
    have p := List.length_pos_of_mem (inP y hy)
    unfold dn at h
    omega
  · intro h
    refine Nat.le_antisymm ?_ cover
    have := subL_len (v := (firsts (colN rows a)).map fun v => ((rows.find? fun s => s.getD a 0 == v).map (pr2 a b)).getD []) nd fun k hk => by
      obtain ⟨r, hr, rfl⟩ := List.mem_map.mp ((mem k).mp hk)
      refine List.mem_map.mpr ⟨r.getD a 0, mem_firsts.mpr (List.mem_map.mpr ⟨r, hr, rfl⟩), ?_⟩
      cases e : rows.find? (fun s => s.getD a 0 == r.getD a 0) with
      | none =>
        have := List.find?_eq_none.mp e r hr
        simp at this
      | some z =>
        have e0 := List.find?_some e
        have e1 : z.getD a 0 = r.getD a 0 := eq_of_beq e0
        have e2 := h r hr z (List.mem_of_find?_eq_some e) e1
        show pr2 a b z = pr2 a b r
        unfold pr2
        rw [e1, e2]
    rw [List.length_map] at this
    exact this
end CC
namespace CC
open PySem L2 TL
def spHo (K : PySem.W.Frag) : Sp := fun vs H Q _ => ∃ (g : Addr) (us : List V) (m : Nat) (rows : List (List Nat)) (v : V) (r : R), vs = [.ref g, v] ∧ SqT K H g us ∧ DpAll K H us (rows.map gd) ∧ (∀ x ∈ rows, RowOk m x) ∧ rows.length ≤ 15 ∧ Dp K H v r.d ∧ r.ok m ∧ ∀ (t : Bool) H', Same H H' → (t = true ↔ HoldsR rows r) → Q (.bl t) H'
theorem dn_pos {l : List Nat} {x : Nat} (h : x ∈ l) : 1 ≤ dn l := List.length_pos_of_mem (mem_firsts.mpr h)
theorem dn_len (l : List Nat) : dn l ≤ l.length := by
  have := dn_le l l.length
  rwa [List.take_length] at this
theorem within_iff {rows : List (List Nat)} {a b : Nat} : (∀ k, (memI (colN rows a) k && !memI (colN rows b) k) = false) ↔ HoldsR rows ⟨false, a, b⟩ := by
  show _ ↔ ∀ x ∈ rows, ∃ y ∈ rows, y.getD b 0 = x.getD a 0
  constructor
  · intro h x hx
    have z := h ((x.getD a 0 : Nat) : Int)
    have hm : x.getD a 0 ∈ colN rows a := List.mem_map.mpr ⟨x, hx, rfl⟩
    rw [memI_at, memI_at, decide_eq_true hm, Bool.true_and, Bool.not_eq_false', decide_eq_true_iff] at z
    obtain ⟨y, hy, e⟩ := List.mem_map.mp z
    exact ⟨y, hy, e⟩
  · intro h k
    cases z : memI (colN rows a) k with
    | false => rfl
    | true =>
      obtain ⟨n, hn, rfl⟩ := of_decide_eq_true z
      obtain ⟨x, hx, rfl⟩ := List.mem_map.mp hn
      obtain ⟨y, hy, e⟩ := h x hx
      have hm : x.getD a 0 ∈ colN rows b := List.mem_map.mpr ⟨y, hy, e⟩
      rw [memI_at, decide_eq_true hm]
      rfl
section
variable {P : Program} {w : World} {K : PySem.W.Frag} {mg : Str → Option Value} {base : Heap} {kA : Addr}
abbrev nHp : List Str := ["rows", "rule", "kind", "a", "b", "row"]
theorem scHo : FnScope nHp ["rows", "rule"] (defScope sHo) := ⟨rfl, rfl, rfl, by decide +kernel, rfl, by decide +kernel, by decide +kernel⟩
theorem ok_ho {f : Addr} {fd : FuncData} {k : Nat} (F : Fun K "holds" "holds" sHo f fd) (T : Glb K mg kA) : FnOk P w K mg base CX0 (k + 1) f fd ["rows", "rule"] (spHo K) := by
  refine F.ok scHo (fun vs H Q E h => ?_) (fun cdv A outer s H vs Q E hr h => ?_)
  · obtain ⟨g, us, m, rows, v, r, rfl, _⟩ := h
    rfl
  · obtain ⟨g, us, m, rows, v, r, rfl, hg, dp, ok, few, dr, hr2, q⟩ := h
    have n := scHo.nd
    refine ⟨_, (pss_cons (ps_asg (pv 1) (pg_tup rfl (pgs_cons (pg_name (i := 2) n rfl (.inl rfl)) (pgs_cons (pg_name (i := 3) n rfl (.inr rfl)) (pgs_cons (pg_name (i := 4) n rfl (.inr rfl)) pgs_nil)))))
      (pss_cons (ps_if (pt_cmpR op_eq (pv 2) pe_str (nomark _))
        (pss_one (ps_ret (pe_cmpR op_eq (pe_callB (r := rLenI w) call_lenI (by rfl) T.len PySem.boot_len (pa_cons (pe_op (r := SD.rSubJ w) SD.op_subJ
          (SC.pe_setI (own := [("row", 5)]) (g := gName 5) (tt := tYes) (te := tOp (rIxT K) (tVar 5) (tVar 3)) rfl n (pi_tup (pv 0)) (blkOk_by (N := nHp) (sc := defScope sHo) (by decide +kernel)) (fun _ _ _ _ _ => (pg_name (i := 5) n rfl (.inl rfl))) (fun _ _ _ _ _ => pts_nil) (fun _ _ _ _ _ => (pe_ix ix_tup (pv 5) (pv 3) (fun _ _ => rfl))))
          (SC.pe_setI (own := [("row", 5)]) (g := gName 5) (tt := tYes) (te := tOp (rIxT K) (tVar 5) (tVar 4)) rfl n (pi_tup (pv 0)) (blkOk_by (N := nHp) (sc := defScope sHo) (by decide +kernel)) (fun _ _ _ _ _ => (pg_name (i := 5) n rfl (.inl rfl))) (fun _ _ _ _ _ => pts_nil) (fun _ _ _ _ _ => (pe_ix ix_tup (pv 5) (pv 4) (fun _ _ => rfl))))) pa_nil)) pe_int (nomark _))))
        pss_nil)
      (pss_one (ps_ret (pe_cmpR op_eq (pe_callB (r := SC.rLenT P w) SC.call_lenT (by rfl) T.len PySem.boot_len (pa_cons (SC.pe_setP SC.famT (own := [("row", 5)]) (g := gName 5) (tt := tYes) (te := tTup (tCons (tOp (rIxT K) (tVar 5) (tVar 3)) (tCons (tOp (rIxT K) (tVar 5) (tVar 4)) tNil))) rfl n (pi_tup (pv 0)) (blkOk_by (N := nHp) (sc := defScope sHo) (by decide +kernel)) (fun _ _ _ _ _ => (pg_name (i := 5) n rfl (.inl rfl))) (fun _ _ _ _ _ => pts_nil) (fun _ _ _ _ _ => (pe_tup (pa_cons (pe_ix ix_tup (pv 5) (pv 3) (fun _ _ => rfl)) (pa_cons (pe_ix ix_tup (pv 5) (pv 4) (fun _ _ => rfl)) pa_nil))))) pa_nil))
        (pe_callB (r := rLenI w) call_lenI (by rfl) T.len PySem.boot_len (pa_cons (SC.pe_setI (own := [("row", 5)]) (g := gName 5) (tt := tYes) (te := tOp (rIxT K) (tVar 5) (tVar 3)) rfl n (pi_tup (pv 0)) (blkOk_by (N := nHp) (sc := defScope sHo) (by decide +kernel)) (fun _ _ _ _ _ => (pg_name (i := 5) n rfl (.inl rfl))) (fun _ _ _ _ _ => pts_nil) (fun _ _ _ _ _ => (pe_ix ix_tup (pv 5) (pv 3) (fun _ _ => rfl)))) pa_nil)) (nomark _)))))), ?_⟩
    obtain ⟨kk, a, b⟩ := r
    obtain ⟨tr, rfl, ht⟩ := dp_r dr
    have aw : a < m := hr2.1
    have bw : b < m := hr2.2.1
    refine ⟨_, rfl, tr, _, rfl, ht, rfl, _, _, rfl, _, _, rfl, _, _, rfl, rfl, ?_⟩
    cases kk with
    | false =>
      refine ⟨_, rfl, rfl, _, rfl, iteT' (decide_eq_true rfl) ?_⟩
      refine ⟨_, rfl, g, rfl, ⟨_, hg⟩, fun D nD => si_col (m := m) (c := a) (cs := 3) hg dp ok (by omega) aw nD (fun _ => rfl) (fun _ => rfl) (fun _ => rfl) fun H1 e1 e2 => ?_⟩
      have s1 : Same H H1 := e1.trans (wo_le D)
      refine ⟨_, rfl, g, rfl, ⟨_, same_t s1 hg⟩, fun D2 nD2 => si_col (m := m) (c := b) (cs := 4) (same_t s1 hg) (dps_same s1 _ _ dp) ok (by omega) bw nD2 (fun _ => rfl) (fun _ => rfl) (fun _ => rfl) fun H2 f1 f2 => ?_⟩
      have s2 : Same H1 H2 := f1.trans (wo_le D2)
      have la : dn (colN rows a) ≤ 15 := Nat.le_trans (dn_len _) (by unfold colN; rw [List.length_map]; exact few)
      have sm : dn (colN rows a) / 4 ≤ dn (colN rows b) ∨ 1 ≤ dn (colN rows b) ∧ dn (colN rows a) ≤ 15 := by
        cases rows with
        | nil => exact .inl (by simp [colN, dn, firsts])
        | cons x rows =>
          have hm : x.getD b 0 ∈ colN (x :: rows) b := List.mem_map.mpr ⟨x, List.mem_cons_self, rfl⟩
          exact .inr ⟨dn_pos hm, la⟩
      refine ⟨D, D2, _, _, _, _, rfl, rfl, s2 _ _ e2, f2, sm, fun p n1 np le iff => ?_⟩
      refine ⟨p, _, n1, rfl, upd_same, by omega, rfl, ?_⟩
      refine q _ _ (s1.trans (s2.trans (same_new np))) ?_
      rw [decide_eq_true_iff, ← within_iff, ← iff]
      exact ⟨fun h => by injection h with h; omega, fun h => by rw [h]; rfl⟩
    | true =>
      refine ⟨_, rfl, rfl, _, rfl, iteF' (decide_eq_false (show ¬ V.str (kd true) = V.str "within" by decide +kernel)) ?_⟩
      have hu64 : (A.deeper (PyProof.Rows.envOfC (Str.ofString "holds") (defScope sHo) s.heap.objs.size f cdv)).units + 64 < cLine := by
        have := hr.un
        omega
      refine ⟨_, rfl, g, rfl, ⟨_, hg⟩, fun D nD => sp_pairs (m := m) (a := a) (b := b) (ca := 3) (cb := 4) hg dp ok (by omega) aw bw nD hu64 (fun _ => rfl) (fun _ => rfl) (fun _ => rfl) (fun _ => rfl) fun H1 L e1 e2 nd mem => ?_⟩
      have s1 : Same H H1 := e1.trans (wo_le D)
      refine ⟨D, L, rfl, e2, ?_⟩
      refine ⟨_, rfl, g, rfl, ⟨_, same_t s1 hg⟩, fun D2 nD2 => si_col (m := m) (c := a) (cs := 3) (same_t s1 hg) (dps_same s1 _ _ dp) ok (by omega) aw nD2 (fun _ => rfl) (fun _ => rfl) (fun _ => rfl) fun H2 f1 f2 => ?_⟩
      have s2 : Same H1 H2 := f1.trans (wo_le D2)
      have la : dn (colN rows a) ≤ 15 := Nat.le_trans (dn_len _) (by unfold colN; rw [List.length_map]; exact few)
      refine ⟨D2, _, _, rfl, f2, by omega, rfl, ?_⟩
      refine q _ _ (s1.trans s2) ?_
      rw [decide_eq_true_iff, ← pairs_iff nd mem, List.length_map]
      exact ⟨fun h => by injection h with h; omega, fun h => by rw [h]⟩
end
end CC
namespace CC
open PySem L2 TL
/-! ### holds, of a list or a tuple of rows, few of them different -/
def iSeq (K : PySem.W.Frag) (tl : TE) : L2.TI := fun σ H R => tl σ H fun x H1 => ∃ a, x = .ref a ∧ (((∃ xs, SqL K H1 a xs) ∧ R (Itl K a) H1) ∨ ((∃ xs, SqT K H1 a xs) ∧ R (Itt K a) H1))
theorem pi_seq {X : Cx} {tg l : Expr} {tl : TE} (hl : PE X l tl) : PI X tg l (iSeq X.K tl) := by
  refine ⟨fun pins s σ H R I h => ?_⟩
  refine thn (hl.run pins s σ H _ I h) fun v s1 ⟨x, H1, I1, r1, q1⟩ => ?_
  obtain ⟨a, e, q1⟩ := q1
  subst e
  cases r1
  rcases q1 with ⟨⟨xs, hq⟩, q⟩ | ⟨⟨xs, hq⟩, q⟩
  · obtain ⟨its, rv, p, hz⟩ := I1.list hq
    refine wpAny_pyIter_list p.isList ?_
    refine ⟨s1.heap.objs.size, [s1.heap.objs.size], _, _, H1, rfl, I1.kept (t' := s1.toks) fun b o e => Heap.get?_push_of_some _ e, L2.turn_list a _, ⟨_, Heap.get?_push_size _ rfl, rfl, rfl⟩, fun b hb => ?_, q⟩
    have e : b = s1.heap.objs.size := by simpa using hb
    subst e
    exact I1.fpOk (Nat.le_refl _) (I1.hok.fresh (Nat.le_refl _))
  · obtain ⟨its, rv, p, hz⟩ := I1.tuple hq
    refine wpAny_pyIter_tuple (show s1.heap.IsTuple a its.toArray from p) ?_
    refine ⟨s1.heap.objs.size, [s1.heap.objs.size], _, _, H1, rfl, I1.kept (t' := s1.toks) fun b o e => Heap.get?_push_of_some _ e, L2.turn_tuple a _, ⟨_, Heap.get?_push_size _ rfl, rfl, rfl⟩, fun b hb => ?_, q⟩
    have e : b = s1.heap.objs.size := by simpa using hb
    subst e
    exact I1.fpOk (Nat.le_refl _) (I1.hok.fresh (Nat.le_refl _))
/-- an iterator over what stands, as long as S holds -/
structure WalkJ (J : It) (S : Hp → Prop) (xs : List V) : Prop where
  go : ∀ i H, i < xs.length → S H → J.go i H
  stop : ∀ H, S H → J.stop xs.length H
  yld : ∀ i H x H', i < xs.length → S H → J.yld i H x H' → H = H' ∧ xs[i]? = some x
theorem walkL {K : PySem.W.Frag} {a : Addr} {xs : List V} : WalkJ (Itl K a) (fun H => SqL K H a xs) xs :=
  ⟨fun i H lt q => ⟨xs, xs[i], q, by simp [lt]⟩, fun H q => ⟨xs, q, Nat.le_refl _⟩, fun i H x H' lt q y => by
    obtain ⟨e, y⟩ := y
    subst e
    exact ⟨rfl, y xs q⟩⟩
theorem walkT {K : PySem.W.Frag} {a : Addr} {xs : List V} : WalkJ (Itt K a) (fun H => SqT K H a xs) xs :=
  ⟨fun i H lt q => ⟨xs, xs[i], q, by simp [lt]⟩, fun H q => ⟨xs, q, Nat.le_refl _⟩, fun i H x H' lt q y => by
    obtain ⟨e, y⟩ := y
    subst e
    exact ⟨rfl, y xs q⟩⟩
/-- a list or a tuple -/
def SqE (K : PySem.W.Frag) (H : Hp) (a : Addr) (xs : List V) : Prop := SqL K H a xs ∨ SqT K H a xs
theorem SqE.same {K : PySem.W.Frag} {H H' : Hp} {a : Addr} {xs : List V} (e : Same H H') (h : SqE K H a xs) : SqE K H' a xs := h.elim (fun z => .inl (same_l e z)) fun z => .inr (same_t e z)
/-- few different rows -/
def Fw (rows : List (List Nat)) : Prop := ∃ B : List (List Nat), B.length ≤ 15 ∧ ∀ r ∈ rows, r ∈ B
theorem Fw.of_len {rows : List (List Nat)} (h : rows.length ≤ 15) : Fw rows := ⟨rows, h, fun _ h => h⟩
theorem Fw.dn {rows : List (List Nat)} (h : Fw rows) (a : Nat) : CC.dn (colN rows a) ≤ 15 := by
  obtain ⟨B, l, h⟩ := h
  have := sub_len (nodup_firsts (colN rows a)) (v := B.map fun r => r.getD a 0) fun v hv => by
    obtain ⟨r, hr, rfl⟩ := List.mem_map.mp (mem_firsts.mp hv)
    exact List.mem_map.mpr ⟨r, h r hr, rfl⟩
  rw [List.length_map] at this
  exact Nat.le_trans this l
theorem si_J {w : World} {J : It} {S : Hp → Prop} {xs : List V} {g : TG} {tt : TT} {te : TE} {vs : List Nat} {σ : L2.St} {H1 : Hp} {D : Addr} {Qd : Hp → Prop} (wk : WalkJ J S xs) (Pv : Nat → Hp → Prop) (h0 : Pv 0 (upd H1 D (SetO w D (fun _ => false) 0))) (hl : ∀ i H, i ≤ xs.length → Pv i H → S H)
    (hs : ∀ i x H, xs[i]? = some x → Pv i H → g x (wipe σ vs) H fun σ2 H2 => wipe σ2 vs = wipe σ vs ∧ tt σ2 H2 fun b H3 => if b = true then te σ2 H3 fun y H4 => ∃ c c' : (Int → Bool) × Nat, H4 D = some (SetO w D c.1 c.2) ∧ (∃ k : Int, y = .int k ∧ c.2 + 1 < scanBound ∧ c' = (fun j => c.1 j || decide (j = k), if c.1 k = true then c.2 else c.2 + 1)) ∧ Pv (i + 1) (upd H4 D (SetO w D c'.1 c'.2)) else Pv (i + 1) H3) (hd : ∀ H, Pv xs.length H → Qd H) :
    ∃ W : Nat → Nat → Hp → Prop, (∃ m, W 0 m (upd H1 D (SetO w D (fun _ => false) 0))) ∧ ∀ i m H, W i m H → (J.stop i H ∧ Qd H) ∨ (J.go i H ∧ ∃ Nx : Hp → Prop, (∀ H', Nx H' → ∃ m', m' < m ∧ W (i + 1) m' H') ∧ ∀ x H', J.yld i H x H' → g x (wipe σ vs) H' fun σ2 H2 => wipe σ2 vs = wipe σ vs ∧ tt σ2 H2 fun b H3 =>
      if b = true then te σ2 H3 fun y H4 => ∃ c c' : (Int → Bool) × Nat, H4 D = some (SetO w D c.1 c.2) ∧ (∃ k : Int, y = .int k ∧ c.2 + 1 < scanBound ∧ c' = (fun j => c.1 j || decide (j = k), if c.1 k = true then c.2 else c.2 + 1)) ∧ Nx (upd H4 D (SetO w D c'.1 c'.2)) else Nx H3) := by
  refine ⟨fun i m H => m = xs.length - i ∧ i ≤ xs.length ∧ Pv i H, ⟨xs.length, by simp, Nat.zero_le _, h0⟩, ?_⟩
  rintro i m H ⟨rfl, hi, p⟩
  have q := hl i H hi p
  by_cases lt : i < xs.length
  · refine .inr ⟨wk.go i H lt q, Pv (i + 1), fun H' p' => ⟨xs.length - (i + 1), by omega, rfl, lt, p'⟩, fun x H' y => ?_⟩
    obtain ⟨e, y2⟩ := wk.yld i H x H' lt q y
    subst e
    exact hs i x _ y2 p
  · have e : i = xs.length := by omega
    subst e
    exact .inl ⟨wk.stop H q, hd H p⟩
theorem sp_J {α κ : Type} (F : SC.FamP α κ) {P : Program} {w : World} {A : Around} {K : PySem.W.Frag} {J : It} {S : Hp → Prop} {xs : List V} {g : TG} {tt : TT} {te : TE} {vs : List Nat} {σ : L2.St} {H1 : Hp} {D : Addr} {Qd : Hp → Prop} (wk : WalkJ J S xs) (Pv : Nat → Hp → Prop) (h0 : Pv 0 (upd H1 D (F.ob P w D F.ini))) (hl : ∀ i H, i ≤ xs.length → Pv i H → S H)
    (hs : ∀ i x H, xs[i]? = some x → Pv i H → g x (wipe σ vs) H fun σ2 H2 => wipe σ2 vs = wipe σ vs ∧ tt σ2 H2 fun b H3 => if b = true then te σ2 H3 fun y H4 => ∃ (c : α) (z : κ), H4 D = some (F.ob P w D c) ∧ F.pre K A H4 c y z ∧ ∀ c', F.post c y z c' → Pv (i + 1) (upd H4 D (F.ob P w D c')) else Pv (i + 1) H3) (hd : ∀ H, Pv xs.length H → Qd H) :
    ∃ W : Nat → Nat → Hp → Prop, (∃ m, W 0 m (upd H1 D (F.ob P w D F.ini))) ∧ ∀ i m H, W i m H → (J.stop i H ∧ Qd H) ∨ (J.go i H ∧ ∃ Nx : Hp → Prop, (∀ H', Nx H' → ∃ m', m' < m ∧ W (i + 1) m' H') ∧ ∀ x H', J.yld i H x H' → g x (wipe σ vs) H' fun σ2 H2 => wipe σ2 vs = wipe σ vs ∧ tt σ2 H2 fun b H3 =>
      if b = true then te σ2 H3 fun y H4 => ∃ (c : α) (z : κ), H4 D = some (F.ob P w D c) ∧ F.pre K A H4 c y z ∧ ∀ c', F.post c y z c' → Nx (upd H4 D (F.ob P w D c')) else Nx H3) := by
  refine ⟨fun i m H => m = xs.length - i ∧ i ≤ xs.length ∧ Pv i H, ⟨xs.length, by simp, Nat.zero_le _, h0⟩, ?_⟩
  rintro i m H ⟨rfl, hi, p⟩
  have q := hl i H hi p
  by_cases lt : i < xs.length
  · refine .inr ⟨wk.go i H lt q, Pv (i + 1), fun H' p' => ⟨xs.length - (i + 1), by omega, rfl, lt, p'⟩, fun x H' y => ?_⟩
    obtain ⟨e, y2⟩ := wk.yld i H x H' lt q y
    subst e
    exact hs i x _ y2 p
  · have e : i = xs.length := by omega
    subst e
    exact .inl ⟨wk.stop H q, hd H p⟩
theorem si_colJ {w : World} {K : PySem.W.Frag} {J : It} {S : Hp → Prop} {us : List V} {rows : List (List Nat)} {m c cs : Nat} {σ : L2.St} {H : Hp} {D : Addr} {Qd : Hp → Prop} (wk : WalkJ J S us) (hg : ∀ H2, Same H H2 → S H2) (dp : DpAll K H us (rows.map gd)) (ok : ∀ r ∈ rows, RowOk m r) (few : rows.length ≤ 401) (cm : c < m) (nD : H D = none)
    (hw : ∀ x : V, wipe ((wipe σ [5]).set 5 (some x)) [5] = wipe σ [5]) (hx : ∀ x : V, ((wipe σ [5]).set 5 (some x))[5]? = some (some x)) (hc : ∀ x : V, ((wipe σ [5]).set 5 (some x))[cs]? = some (some (.int (c : Int))))
    (q : ∀ H2, Same H (wo H2 D) → H2 D = some (SetO w D (memI (colN rows c)) (dn (colN rows c))) → Qd H2) :
    ∃ W : Nat → Nat → Hp → Prop, (∃ m, W 0 m (upd H D (SetO w D (fun _ => false) 0))) ∧ ∀ i m H, W i m H → (J.stop i H ∧ Qd H) ∨ (J.go i H ∧ ∃ Nx : Hp → Prop, (∀ H', Nx H' → ∃ m', m' < m ∧ W (i + 1) m' H') ∧ ∀ x H', J.yld i H x H' → gName 5 x (wipe σ [5]) H' fun σ2 H2 => wipe σ2 [5] = wipe σ [5] ∧ tYes σ2 H2 fun b H3 =>
      if b = true then tOp (rIxT K) (tVar 5) (tVar cs) σ2 H3 fun y H4 => ∃ c c' : (Int → Bool) × Nat, H4 D = some (SetO w D c.1 c.2) ∧ (∃ k : Int, y = .int k ∧ c.2 + 1 < scanBound ∧ c' = (fun j => c.1 j || decide (j = k), if c.1 k = true then c.2 else c.2 + 1)) ∧ Nx (upd H4 D (SetO w D c'.1 c'.2)) else Nx H3) := by
  have ul : us.length = rows.length := by rw [dps_len dp, List.length_map]
  have cut : ∀ j, dn (colN (rows.take j) c) ≤ j := fun j => by
    have e : colN (rows.take j) c = (colN rows c).take j := by
      unfold colN
      rw [List.map_take]
    rw [e]
    exact dn_le _ j
  refine si_J wk (fun j H2 => Same H (wo H2 D) ∧ H2 D = some (SetO w D (memI (colN (rows.take j) c)) (dn (colN (rows.take j) c))) ∧ j ≤ 401) ⟨?_, ?_, by omega⟩ (fun j H2 _ z => hg _ (z.1.trans (wo_le D))) ?_ ?_
  · rw [wo_upd]
    exact fun b o e => by rw [wo_ne (ne_of_none e nD)]; exact e
  · rw [upd_same]
    have e : memI (colN (rows.take 0) c) = fun _ => false := by
      funext k
      simp [memI, colN]
    have e' : dn (colN (rows.take 0) c) = 0 := by simp [dn, firsts, colN]
    rw [e, e']
  · rintro j v H2 hv ⟨f1, f2, f3⟩
    obtain ⟨r, hr2, dr⟩ := dps_gat dp hv
    have jl := (List.getElem?_eq_some_iff.mp hr2).1
    have rok := ok r (List.mem_of_getElem? hr2)
    obtain ⟨t, rfl, ht⟩ := gd_at dr
    have s2 : Same H H2 := f1.trans (wo_le D)
    have gx : (nms r)[c]? = some (.int ((r.getD c 0 : Nat) : Int)) := by
      rw [nms, List.getElem?_map, List.getD_eq_getElem?_getD, List.getElem?_eq_getElem (by rw [rok.1]; exact cm)]
      rfl
    have room : dn (colN (rows.take j) c) + 1 < scanBound := by
      have := cut j
      unfold scanBound
      omega
    refine ⟨hw _, yes_if ⟨_, hx _, _, hc _, t, _, _, _, rfl, rfl, same_t s2 ht, atI_nat gx, (memI (colN (rows.take j) c), dn (colN (rows.take j) c)), _, f2, ⟨_, rfl, room, rfl⟩, ?_, ?_, by omega⟩⟩
    · rw [wo_upd]
      exact f1
    · rw [upd_same]
      show some (SetO w D (fun j' => memI (colN (rows.take j) c) j' || decide (j' = ((r.getD c 0 : Nat) : Int))) (if memI (colN (rows.take j) c) ((r.getD c 0 : Nat) : Int) = true then dn (colN (rows.take j) c) else dn (colN (rows.take j) c) + 1)) = _
      rw [memI_snoc, colN_take hr2, dn_snoc, memI_at]
      by_cases e : r.getD c 0 ∈ colN (rows.take j) c
      · rw [decide_eq_true e, if_pos rfl, if_pos e]
      · rw [decide_eq_false e, if_neg (by decide), if_neg e]
  · rintro H2 ⟨f1, f2, _⟩
    rw [ul, List.take_length] at f2
    exact q H2 f1 f2
theorem sp_pairsJ {P : Program} {w : World} {A : Around} {K : PySem.W.Frag} {J : It} {S : Hp → Prop} {us : List V} {rows : List (List Nat)} {m a b ca cb : Nat} {σ : L2.St} {H : Hp} {D : Addr} {Qd : Hp → Prop} (wk : WalkJ J S us) (hg : ∀ H2, Same H H2 → S H2) (dp : DpAll K H us (rows.map gd)) (ok : ∀ r ∈ rows, RowOk m r) (fw : Fw rows) (am : a < m) (bm : b < m) (nD : H D = none) (hu : A.units + 64 < cLine)
    (hw : ∀ x : V, wipe ((wipe σ [5]).set 5 (some x)) [5] = wipe σ [5]) (hx : ∀ x : V, ((wipe σ [5]).set 5 (some x))[5]? = some (some x)) (hca : ∀ x : V, ((wipe σ [5]).set 5 (some x))[ca]? = some (some (.int (a : Int)))) (hcb : ∀ x : V, ((wipe σ [5]).set 5 (some x))[cb]? = some (some (.int (b : Int))))
    (q : ∀ H2 (L : List (Addr × List Int)), Same H (wo H2 D) → H2 D = some (SetTO P w D L) → (L.map (·.2)).Nodup → (∀ k, k ∈ L.map (·.2) ↔ k ∈ rows.map (pr2 a b)) → Qd H2) :
    ∃ W : Nat → Nat → Hp → Prop, (∃ m, W 0 m (upd H D (SC.famT.ob P w D SC.famT.ini))) ∧ ∀ i m H, W i m H → (J.stop i H ∧ Qd H) ∨ (J.go i H ∧ ∃ Nx : Hp → Prop, (∀ H', Nx H' → ∃ m', m' < m ∧ W (i + 1) m' H') ∧ ∀ x H', J.yld i H x H' → gName 5 x (wipe σ [5]) H' fun σ2 H2 => wipe σ2 [5] = wipe σ [5] ∧ tYes σ2 H2 fun b H3 =>
      if b = true then tTup (tCons (tOp (rIxT K) (tVar 5) (tVar ca)) (tCons (tOp (rIxT K) (tVar 5) (tVar cb)) tNil)) σ2 H3 fun y H4 => ∃ (c : List (Addr × List Int)) (z : List Int), H4 D = some (SC.famT.ob P w D c) ∧ SC.famT.pre K A H4 c y z ∧ ∀ c', SC.famT.post c y z c' → Nx (upd H4 D (SC.famT.ob P w D c')) else Nx H3) := by
  have ul : us.length = rows.length := by rw [dps_len dp, List.length_map]
  have fwl : ∀ L : List (Addr × List Int), (L.map (·.2)).Nodup → (∀ k ∈ L.map (·.2), k ∈ rows.map (pr2 a b)) → L.length ≤ 15 := fun L nd h => by
    obtain ⟨B, lB, hB⟩ := fw
    have := subL_len nd (v := B.map (pr2 a b)) fun k hk => by
      obtain ⟨r, hr, e⟩ := List.mem_map.mp (h k hk)
      exact List.mem_map.mpr ⟨r, hB r hr, e⟩
    rw [List.length_map, List.length_map] at this
    omega
  refine sp_J (A := A) (K := K) SC.famT wk (fun j H2 => Same H (wo H2 D) ∧ ∃ L : List (Addr × List Int), H2 D = some (SetTO P w D L) ∧ (∀ p ∈ L, SqT K H2 p.1 (p.2.map V.int)) ∧ (L.map (·.2)).Nodup ∧ (∀ k, k ∈ L.map (·.2) ↔ k ∈ (rows.take j).map (pr2 a b))  ∧ L.length ≤ 15) ⟨?_, [], upd_same, (fun p hp => by cases hp), List.nodup_nil, (fun k => by simp), Nat.zero_le _⟩ (fun j H2 _ z => hg _ (z.1.trans (wo_le D))) ?_ ?_
  · rw [wo_upd]
    exact fun b o e => by rw [wo_ne (ne_of_none e nD)]; exact e
  · rintro j v H2 hv ⟨f1, L, f2, f3, f4, f5, f6⟩
    obtain ⟨r, hr2, dr⟩ := dps_gat dp hv
    have jl := (List.getElem?_eq_some_iff.mp hr2).1
    have rok := ok r (List.mem_of_getElem? hr2)
    obtain ⟨t, rfl, ht⟩ := gd_at dr
    have s2 : Same H H2 := f1.trans (wo_le D)
    have gx : ∀ c, c < m → (nms r)[c]? = some (.int ((r.getD c 0 : Nat) : Int)) := fun c cm => by
      rw [nms, List.getElem?_map, List.getD_eq_getElem?_getD, List.getElem?_eq_getElem (by rw [rok.1]; exact cm)]
      rfl
    refine ⟨hw _, yes_if ⟨_, hx _, _, hca _, t, _, _, _, rfl, rfl, same_t s2 ht, atI_nat (gx a am), _, hx _, _, hcb _, t, _, _, _, rfl, rfl, same_t s2 ht, atI_nat (gx b bm), (by show 2 ≤ sizeLine; decide), fun t2 n2 => ?_⟩⟩
    have s3 : Same H2 (upd H2 t2 (.tup [.int ((r.getD a 0 : Nat) : Int), .int ((r.getD b 0 : Nat) : Int)])) := same_new n2
    have h3 : (upd H2 t2 (.tup [.int ((r.getD a 0 : Nat) : Int), .int ((r.getD b 0 : Nat) : Int)])) t2 = some (.tup ((pr2 a b r).map V.int)) := upd_same
    generalize upd H2 t2 (.tup [.int ((r.getD a 0 : Nat) : Int), .int ((r.getD b 0 : Nat) : Int)]) = H3 at s3 h3
    refine ⟨L, pr2 a b r, s3 _ _ f2, ⟨t2, rfl, .inl (.inl h3), fun p hp => same_t s3 (f3 p hp), hu, by omega⟩, ?_⟩
    rintro c' ⟨x, ex, c1, c2⟩
    cases ex
    have uT : SameT H3 (upd H3 D (SetTO P w D c')) := updS_T (s3 _ _ f2)
    refine ⟨?_, c', upd_same, ?_⟩
    · rw [wo_upd]
      exact f1.trans (wo_same s3)
    have tk : ∀ k, k ∈ (rows.take (j + 1)).map (pr2 a b) ↔ k ∈ (rows.take j).map (pr2 a b) ∨ k = pr2 a b r := fun k => by
      rw [take1 hr2, List.map_append, List.mem_append]
      simp
    by_cases e : pr2 a b r ∈ L.map (·.2)
    · rw [c1 e]
      refine ⟨fun p hp => sqt_T (c1 e ▸ uT) (same_t s3 (f3 p hp)), f4, fun k => ?_, by omega⟩
      rw [tk, ← f5]
      exact ⟨.inl, fun z => z.elim id fun z => z ▸ e⟩
    · have pm := c2 e
      refine ⟨fun p hp => ?_, ?_, fun k => ?_, ?_⟩
      · rcases List.mem_cons.mp (pm.mem_iff.mp hp) with z | z
        · rw [z]
          exact sqt_T uT (.inl (.inl h3))
        · exact sqt_T uT (same_t s3 (f3 p z))
      · exact (pm.map (·.2)).nodup_iff.mpr (List.nodup_cons.mpr ⟨e, f4⟩)
      · rw [tk, ← f5, (pm.map (·.2)).mem_iff, List.map_cons, List.mem_cons]
        exact ⟨fun z => z.elim .inr .inl, fun z => z.elim .inr .inl⟩
      · exact fwl c' ((pm.map (·.2)).nodup_iff.mpr (List.nodup_cons.mpr ⟨e, f4⟩)) fun k hk => by
          rw [(pm.map (·.2)).mem_iff, List.map_cons, List.mem_cons] at hk
          rcases hk with rfl | hk
          · exact List.mem_map.mpr ⟨r, List.mem_of_getElem? hr2, rfl⟩
          · obtain ⟨z, hz, e⟩ := List.mem_map.mp ((f5 k).mp hk)
            exact List.mem_map.mpr ⟨z, List.mem_of_mem_take hz, e⟩
  · rintro H2 ⟨f1, L, f2, f3, f4, f5, f6⟩
    rw [ul, List.take_length] at f5
    exact q H2 L f1 f2 f4 f5
def spHoM (K : PySem.W.Frag) : Sp := fun vs H Q _ => ∃ (g : Addr) (us : List V) (m : Nat) (rows : List (List Nat)) (v : V) (r : R), vs = [.ref g, v] ∧ SqE K H g us ∧ DpAll K H us (rows.map gd) ∧ (∀ x ∈ rows, RowOk m x) ∧ Fw rows ∧ rows.length ≤ 401 ∧ Dp K H v r.d ∧ r.ok m ∧ ∀ (t : Bool) H', Same H H' → (t = true ↔ HoldsR rows r) → Q (.bl t) H'
theorem spHo_M {K : PySem.W.Frag} : ∀ vs H Q E, spHo K vs H Q E → spHoM K vs H Q E := fun vs H Q E h => by
  obtain ⟨g, us, m, rows, v, r, rfl, hg, dp, ok, few, dr, hr2, q⟩ := h
  exact ⟨g, us, m, rows, v, r, rfl, .inr hg, dp, ok, .of_len few, by omega, dr, hr2, q⟩
section
variable {P : Program} {w : World} {K : PySem.W.Frag} {mg : Str → Option Value} {base : Heap} {kA : Addr}
theorem ok_hoM {f : Addr} {fd : FuncData} {k : Nat} (F : Fun K "holds" "holds" sHo f fd) (T : Glb K mg kA) : FnOk P w K mg base CX0 (k + 1) f fd ["rows", "rule"] (spHoM K) := by
  refine F.ok scHo (fun vs H Q E h => ?_) (fun cdv A outer s H vs Q E hr h => ?_)
  · obtain ⟨g, us, m, rows, v, r, rfl, _⟩ := h
    rfl
  · obtain ⟨g, us, m, rows, v, r, rfl, hg, dp, ok, fw, few, dr, hr2, q⟩ := h
    have n := scHo.nd
    refine ⟨_, (pss_cons (ps_asg (pv 1) (pg_tup rfl (pgs_cons (pg_name (i := 2) n rfl (.inl rfl)) (pgs_cons (pg_name (i := 3) n rfl (.inr rfl)) (pgs_cons (pg_name (i := 4) n rfl (.inr rfl)) pgs_nil)))))
      (pss_cons (ps_if (pt_cmpR op_eq (pv 2) pe_str (nomark _))
        (pss_one (ps_ret (pe_cmpR op_eq (pe_callB (r := rLenI w) call_lenI (by rfl) T.len PySem.boot_len (pa_cons (pe_op (r := SD.rSubJ w) SD.op_subJ
          (SC.pe_setI (own := [("row", 5)]) (g := gName 5) (tt := tYes) (te := tOp (rIxT K) (tVar 5) (tVar 3)) rfl n (show PI _ _ _ (iSeq K _) from pi_seq (pv 0)) (blkOk_by (N := nHp) (sc := defScope sHo) (by decide +kernel)) (fun _ _ _ _ _ => (pg_name (i := 5) n rfl (.inl rfl))) (fun _ _ _ _ _ => pts_nil) (fun _ _ _ _ _ => (pe_ix ix_tup (pv 5) (pv 3) (fun _ _ => rfl))))
          (SC.pe_setI (own := [("row", 5)]) (g := gName 5) (tt := tYes) (te := tOp (rIxT K) (tVar 5) (tVar 4)) rfl n (show PI _ _ _ (iSeq K _) from pi_seq (pv 0)) (blkOk_by (N := nHp) (sc := defScope sHo) (by decide +kernel)) (fun _ _ _ _ _ => (pg_name (i := 5) n rfl (.inl rfl))) (fun _ _ _ _ _ => pts_nil) (fun _ _ _ _ _ => (pe_ix ix_tup (pv 5) (pv 4) (fun _ _ => rfl))))) pa_nil)) pe_int (nomark _))))
        pss_nil)
      (pss_one (ps_ret (pe_cmpR op_eq (pe_callB (r := SC.rLenT P w) SC.call_lenT (by rfl) T.len PySem.boot_len (pa_cons (SC.pe_setP SC.famT (own := [("row", 5)]) (g := gName 5) (tt := tYes) (te := tTup (tCons (tOp (rIxT K) (tVar 5) (tVar 3)) (tCons (tOp (rIxT K) (tVar 5) (tVar 4)) tNil))) rfl n (show PI _ _ _ (iSeq K _) from pi_seq (pv 0)) (blkOk_by (N := nHp) (sc := defScope sHo) (by decide +kernel)) (fun _ _ _ _ _ => (pg_name (i := 5) n rfl (.inl rfl))) (fun _ _ _ _ _ => pts_nil) (fun _ _ _ _ _ => (pe_tup (pa_cons (pe_ix ix_tup (pv 5) (pv 3) (fun _ _ => rfl)) (pa_cons (pe_ix ix_tup (pv 5) (pv 4) (fun _ _ => rfl)) pa_nil))))) pa_nil))
        (pe_callB (r := rLenI w) call_lenI (by rfl) T.len PySem.boot_len (pa_cons (SC.pe_setI (own := [("row", 5)]) (g := gName 5) (tt := tYes) (te := tOp (rIxT K) (tVar 5) (tVar 3)) rfl n (show PI _ _ _ (iSeq K _) from pi_seq (pv 0)) (blkOk_by (N := nHp) (sc := defScope sHo) (by decide +kernel)) (fun _ _ _ _ _ => (pg_name (i := 5) n rfl (.inl rfl))) (fun _ _ _ _ _ => pts_nil) (fun _ _ _ _ _ => (pe_ix ix_tup (pv 5) (pv 3) (fun _ _ => rfl)))) pa_nil)) (nomark _)))))), ?_⟩
    rcases hg with hg | hg
    · obtain ⟨kk, a, b⟩ := r
      obtain ⟨tr, rfl, ht⟩ := dp_r dr
      have aw : a < m := hr2.1
      have bw : b < m := hr2.2.1
      refine ⟨_, rfl, tr, _, rfl, ht, rfl, _, _, rfl, _, _, rfl, _, _, rfl, rfl, ?_⟩
      cases kk with
      | false =>
        refine ⟨_, rfl, rfl, _, rfl, iteT' (decide_eq_true rfl) ?_⟩
        refine ⟨_, rfl, g, rfl, .inl ⟨⟨_, hg⟩, fun D nD => si_colJ (m := m) (c := a) (cs := 3) walkL (fun H2 e => same_l e hg) dp ok (by omega) aw nD (fun _ => rfl) (fun _ => rfl) (fun _ => rfl) fun H1 e1 e2 => ?_⟩⟩
        have s1 : Same H H1 := e1.trans (wo_le D)
        refine ⟨_, rfl, g, rfl, .inl ⟨⟨_, same_l s1 hg⟩, fun D2 nD2 => si_colJ (m := m) (c := b) (cs := 4) walkL (fun H2 e => same_l (s1.trans e) hg) (dps_same s1 _ _ dp) ok (by omega) bw nD2 (fun _ => rfl) (fun _ => rfl) (fun _ => rfl) fun H2 f1 f2 => ?_⟩⟩
        have s2 : Same H1 H2 := f1.trans (wo_le D2)
        have la : dn (colN rows a) ≤ 15 := fw.dn a
        have sm : dn (colN rows a) / 4 ≤ dn (colN rows b) ∨ 1 ≤ dn (colN rows b) ∧ dn (colN rows a) ≤ 15 := by
          cases rows with
          | nil => exact .inl (by simp [colN, dn, firsts])
          | cons x rows =>
            have hm : x.getD b 0 ∈ colN (x :: rows) b := List.mem_map.mpr ⟨x, List.mem_cons_self, rfl⟩
            exact .inr ⟨dn_pos hm, la⟩
        refine ⟨D, D2, _, _, _, _, rfl, rfl, s2 _ _ e2, f2, sm, fun p n1 np le iff => ?_⟩
        refine ⟨p, _, n1, rfl, upd_same, by omega, rfl, ?_⟩
        refine q _ _ (s1.trans (s2.trans (same_new np))) ?_
        rw [decide_eq_true_iff, ← within_iff, ← iff]
        exact ⟨fun h => by injection h with h; omega, fun h => by rw [h]; rfl⟩
      | true =>
        refine ⟨_, rfl, rfl, _, rfl, iteF' (decide_eq_false (show ¬ V.str (kd true) = V.str "within" by decide +kernel)) ?_⟩
        have hu64 : (A.deeper (PyProof.Rows.envOfC (Str.ofString "holds") (defScope sHo) s.heap.objs.size f cdv)).units + 64 < cLine := by
          have := hr.un
          omega
        refine ⟨_, rfl, g, rfl, .inl ⟨⟨_, hg⟩, fun D nD => sp_pairsJ (m := m) (a := a) (b := b) (ca := 3) (cb := 4) walkL (fun H2 e => same_l e hg) dp ok fw aw bw nD hu64 (fun _ => rfl) (fun _ => rfl) (fun _ => rfl) (fun _ => rfl) fun H1 L e1 e2 nd mem => ?_⟩⟩
        have s1 : Same H H1 := e1.trans (wo_le D)
        refine ⟨D, L, rfl, e2, ?_⟩
        refine ⟨_, rfl, g, rfl, .inl ⟨⟨_, same_l s1 hg⟩, fun D2 nD2 => si_colJ (m := m) (c := a) (cs := 3) walkL (fun H2 e => same_l (s1.trans e) hg) (dps_same s1 _ _ dp) ok (by omega) aw nD2 (fun _ => rfl) (fun _ => rfl) (fun _ => rfl) fun H2 f1 f2 => ?_⟩⟩
        have s2 : Same H1 H2 := f1.trans (wo_le D2)
        have la : dn (colN rows a) ≤ 15 := fw.dn a
        refine ⟨D2, _, _, rfl, f2, by omega, rfl, ?_⟩
        refine q _ _ (s1.trans s2) ?_
        rw [decide_eq_true_iff, ← pairs_iff nd mem, List.length_map]
        exact ⟨fun h => by injection h with h; omega, fun h => by rw [h]⟩
    · obtain ⟨kk, a, b⟩ := r
      obtain ⟨tr, rfl, ht⟩ := dp_r dr
      have aw : a < m := hr2.1
      have bw : b < m := hr2.2.1
      refine ⟨_, rfl, tr, _, rfl, ht, rfl, _, _, rfl, _, _, rfl, _, _, rfl, rfl, ?_⟩
      cases kk with
      | false =>
        refine ⟨_, rfl, rfl, _, rfl, iteT' (decide_eq_true rfl) ?_⟩
        refine ⟨_, rfl, g, rfl, .inr ⟨⟨_, hg⟩, fun D nD => si_colJ (m := m) (c := a) (cs := 3) walkT (fun H2 e => same_t e hg) dp ok (by omega) aw nD (fun _ => rfl) (fun _ => rfl) (fun _ => rfl) fun H1 e1 e2 => ?_⟩⟩
        have s1 : Same H H1 := e1.trans (wo_le D)
        refine ⟨_, rfl, g, rfl, .inr ⟨⟨_, same_t s1 hg⟩, fun D2 nD2 => si_colJ (m := m) (c := b) (cs := 4) walkT (fun H2 e => same_t (s1.trans e) hg) (dps_same s1 _ _ dp) ok (by omega) bw nD2 (fun _ => rfl) (fun _ => rfl) (fun _ => rfl) fun H2 f1 f2 => ?_⟩⟩
        have s2 : Same H1 H2 := f1.trans (wo_le D2)
        have la : dn (colN rows a) ≤ 15 := fw.dn a
        have sm : dn (colN rows a) / 4 ≤ dn (colN rows b) ∨ 1 ≤ dn (colN rows b) ∧ dn (colN rows a) ≤ 15 := by
          cases rows with
          | nil => exact .inl (by simp [colN, dn, firsts])
          | cons x rows =>
            have hm : x.getD b 0 ∈ colN (x :: rows) b := List.mem_map.mpr ⟨x, List.mem_cons_self, rfl⟩
            exact .inr ⟨dn_pos hm, la⟩
        refine ⟨D, D2, _, _, _, _, rfl, rfl, s2 _ _ e2, f2, sm, fun p n1 np le iff => ?_⟩
        refine ⟨p, _, n1, rfl, upd_same, by omega, rfl, ?_⟩
        refine q _ _ (s1.trans (s2.trans (same_new np))) ?_
        rw [decide_eq_true_iff, ← within_iff, ← iff]
        exact ⟨fun h => by injection h with h; omega, fun h => by rw [h]; rfl⟩
      | true =>
        refine ⟨_, rfl, rfl, _, rfl, iteF' (decide_eq_false (show ¬ V.str (kd true) = V.str "within" by decide +kernel)) ?_⟩
        have hu64 : (A.deeper (PyProof.Rows.envOfC (Str.ofString "holds") (defScope sHo) s.heap.objs.size f cdv)).units + 64 < cLine := by
          have := hr.un
          omega
        refine ⟨_, rfl, g, rfl, .inr ⟨⟨_, hg⟩, fun D nD => sp_pairsJ (m := m) (a := a) (b := b) (ca := 3) (cb := 4) walkT (fun H2 e => same_t e hg) dp ok fw aw bw nD hu64 (fun _ => rfl) (fun _ => rfl) (fun _ => rfl) (fun _ => rfl) fun H1 L e1 e2 nd mem => ?_⟩⟩
        have s1 : Same H H1 := e1.trans (wo_le D)
        refine ⟨D, L, rfl, e2, ?_⟩
        refine ⟨_, rfl, g, rfl, .inr ⟨⟨_, same_t s1 hg⟩, fun D2 nD2 => si_colJ (m := m) (c := a) (cs := 3) walkT (fun H2 e => same_t (s1.trans e) hg) (dps_same s1 _ _ dp) ok (by omega) aw nD2 (fun _ => rfl) (fun _ => rfl) (fun _ => rfl) fun H2 f1 f2 => ?_⟩⟩
        have s2 : Same H1 H2 := f1.trans (wo_le D2)
        have la : dn (colN rows a) ≤ 15 := fw.dn a
        refine ⟨D2, _, _, rfl, f2, by omega, rfl, ?_⟩
        refine q _ _ (s1.trans s2) ?_
        rw [decide_eq_true_iff, ← pairs_iff nd mem, List.length_map]
        exact ⟨fun h => by injection h with h; omega, fun h => by rw [h]⟩
end
end CC
namespace CC
open PySem L2 TL
/-- what is known of an own exception's class -/
structure ExcK (K : PySem.W.Frag) (mg : Str → Option Value) (x : Str) (C : Addr) : Prop where
  g : mg x = some (.ref C)
  x : PySem.W.excIn K C [.type "ValueError", .type "Exception", .type "BaseException", .type "object"] "ValueError.__new__" = true
  k : PySem.W.keepIn K (.ref C) = true
  b : PySem.W.subIn K (.ref C) (.type "BaseException") = some true
  t : PySem.W.typeIn K (.ref C) = some (.type "type")
end CC
namespace CC
open PySem L2 TL
section
variable {P : Program} {w : World} {K : PySem.W.Frag} {mg : Str → Option Value} {base : Heap} {kA : Addr}
end
end CC
namespace CC
open PySem L2 TL
section
variable {P : Program} {w : World} {K : PySem.W.Frag} {mg : Str → Option Value} {base : Heap} {kA : Addr}
theorem scTRo : FnScope ["self"] ["self"] (defScope sTR) := ⟨rfl, rfl, rfl, by decide +kernel, rfl, by decide +kernel, by decide +kernel⟩
theorem ok_trows {f C : Addr} {fd : FuncData} {k : Nat} (F : Fun K "rows" "Table.rows" sTR f fd) (TC : TxtT K mg C) : FnOk P w K mg base CX0 (k + 1) f fd ["self"] (getSp C "lines") := by
  refine F.ok scTRo (fun vs H Q E h => ?_) (fun cdv A outer s H vs Q E hr h => ?_)
  · obtain ⟨a, dx, fs, v, rfl, _⟩ := h
    rfl
  · obtain ⟨a, dx, fs, v, rfl, ea, l, q⟩ := h
    exact ⟨_, pss_one (ps_ret (pe_fld (pv 0) rfl)), _, rfl, a, C, dx, fs, v, rfl, ea, TC.cl, TC.nL, l, q⟩
end
end CC
namespace CC
open PySem L2 TL
/-- a method that may raise -/
structure MthX (P : Program) (w : World) (K : PySem.W.Frag) (mg : Str → Option Value) (base : Heap) (C : Addr) (n : Str) (ps : List Str) (sp : Sp) (l : Nat) where
  f : Addr
  fd : FuncData
  m : Meth K C n f
  ok : ∀ k, l ≤ k → FnOk P w K mg base (L2.CX P w) k f fd ps sp
  b : Binds K fd ps []
/-- which exception check raises, if any -/
abbrev Ck := Nat → List R → List (List Nat) → Option Addr
/-- check(rows), rows a tuple of rows -/
def spCk (K : PySem.W.Frag) (C CR CT : Addr) (ck : Ck) : Sp := fun vs H Q E => ∃ (x r q g : Addr) (w : Nat) (rs : List R) (rows0 rows : List (List Nat)) (n : Nat) (us : List V), vs = [.ref x, .ref g] ∧ LogAt K C CR CT H x r q w rs rows0 n ∧ SqT K H g us ∧ DpAll K H us (rows.map gd) ∧ (∀ s ∈ rows, RowOk w s) ∧ rows.length ≤ 15 ∧ (∀ r ∈ rs, r.ok w) ∧ rs.length ≤ 60 ∧
  (∀ c, ck w rs rows = some c → ∀ H', Same H H' → E (.ref c) none H') ∧ (ck w rs rows = none → ∀ H', Same H H' → Q .non H')
/-- log.assign_table(t), t a table of the log's width -/
def spLAss (K : PySem.W.Frag) (C CR CT : Addr) (ck : Ck) : Sp := fun vs H Q E => ∃ (x r q t : Addr) (w : Nat) (rs : List R) (rows0 rows : List (List Nat)) (n : Nat), vs = [.ref x, .ref t] ∧ LogAt K C CR CT H x r q w rs rows0 n ∧ TableAt K CT H t w rows ∧ (∀ s ∈ rows, RowOk w s) ∧ rows.length ≤ 15 ∧ (∀ r ∈ rs, r.ok w) ∧ rs.length ≤ 60 ∧ n < 1000 ∧
  (∀ c, ck w rs rows = some c → ∀ H', Same H H' → E (.ref c) none H') ∧ (ck w rs rows = none → LogTo K C CR CT H x r q w rs rows (n + 1) Q)
section
variable {P : Program} {w : World} {K : PySem.W.Frag} {mg : Str → Option Value} {base : Heap} {kA : Addr}
end
end CC
/-! a layer above the hand layer: defs that are called where nothing is being shown (no repr of a container is under way) -/
namespace GD
open PySem PySem.Spec PyProof.Rows L2
abbrev Calm (A : Around) : Prop := A.guards = some []
/-- a def's promise, where nothing is being shown -/
structure FnG (P : Program) (w : World) (K : PySem.W.Frag) (mg : Str → Option Value) (base : Heap) (CX : CXT) (k : Nat) (f : Addr) (fd : FuncData) (ps : List Str) (sp : Sp) : Prop where
  few : ∀ vs H Q E, sp vs H Q E → vs.length = ps.length
  goes : ∀ (A : Around) (out : List Env) (s : Shared) (H : Hp) (args : Args) (us : List Value) (vs : List V) (Q : VK) (E : XK), Calm A → Room k A → Env0 P w K mg base A out s H → BindsTo s fd args (ps.zip us) → Vals vs us → sp vs H Q E → codeAny (model P w) A (.call (.ref f) args) (CR CX out P w H s Q E) s
section
variable {P : Program} {w : World} {K : PySem.W.Frag} {mg : Str → Option Value} {base : Heap} {CX : CXT} {k : Nat} {f : Addr} {fd : FuncData} {ps : List Str} {sp : Sp}
theorem FnG.of (F : FnOk P w K mg base CX k f fd ps sp) : FnG P w K mg base CX k f fd ps sp := ⟨F.len, fun A out s H args us vs Q E _ hr e0 hb r h => F.run A out s H args us vs Q E hr e0 hb r h⟩
end
section
variable {X : Cx} {CX : CXT} {k : Nat} {f : Addr} {fd : FuncData} {ps : List Str} {sp : Sp} {E : XK} {x : Str} {p pos : Pos} {e : Expr} {es : List Expr} {t : TA}
end
/-- the law's call, at the heap behind the top -/
theorem law_callG {P : Program} {w : World} {K : PySem.W.Frag} {mg mb : Str → Option Value} {CX : CXT} {k : Nat} {fa a : Addr} {fd : FuncData} {x : Str} {sp : Sp} {s : Shared} {vs : List Value} {ns : List Int}
    (inK : K.In s.heap) (nsM : s.heap.Ns mainGlobals mg) (nsB : s.heap.Ns builtinsNs mb) (boot : ∀ x : Str, x ≠ "__name__" → mb x = bootBuiltins x) (noL : s.heap.NoLimit) (gens : s.gens = #[])
    (ha : s.heap.get? a = some { cls := .type "list", data := .seq vs.toArray }) (hin : IntsAre vs ns) (few : ns.length ≤ sizeLine) (room : Room k callerA)
    (F : ∀ base : Heap, K.In base → base.Ns mainGlobals mg → FnG P w K mg base CX k fa fd [x] sp) (bind : ∀ (s : Shared) (u : Value), BindsTo s fd ⟨[u], []⟩ [(x, u)])
    (wish : ∀ H : Hp, Only H → SqL K H a (ns.map V.int) → sp [.ref a] H (fun v _ => v = .bl true) fun _ _ _ => False) (noX : ∀ H e s', CX [] H s (fun _ _ _ => False) e s' → False) :
    codeAny (model P w) callerA (.call (.ref fa) ⟨[.ref a], []⟩) (fun r s' => r = .ok (.ret (.bool true)) ∧ OldK s.heap s'.heap ∧ s'.os = s.os ∧ AllBare s'.gens) s := by
  have go : ∀ H : Hp, Only H → SqL K H a (ns.map V.int) → HOk P w H s.heap → (∀ b, b ≠ a → H b = none) → (K.lookup a = none ∨ H a = none) →
      codeAny (model P w) callerA (.call (.ref fa) ⟨[.ref a], []⟩) (fun r s' => r = .ok (.ret (.bool true)) ∧ OldK s.heap s'.heap ∧ s'.os = s.os ∧ AllBare s'.gens) s := by
    intro H only sq hok off way
    have up : ∀ {b : Addr} {o : Obj}, s.heap.get? b = some o → H b = none → (hidT s.heap H).get? b = some o := fun e n => hidT_get e n
    have notA : ∀ {b : Addr} {o : Obj} {es : Array DictEntry} {n : Nat}, s.heap.get? b = some o → o.data = .dict es n → H b = none := fun {b o es n} e d => by
      by_cases z : b = a
      · rw [z, ha] at e
        cases e
        cases (show Data.seq vs.toArray _ = Data.dict es n from d)
      · exact off b z
    have lift : ∀ {b : Addr} {m : Str → Option Value}, s.heap.Ns b m → (hidT s.heap H).Ns b m := fun ⟨o, es, n, e, d, r⟩ => ⟨o, es, n, up e (notA e d), d, r⟩
    have inB : K.In (hidT s.heap H) := fun b o e => up (inK b o e) (by
      by_cases z : b = a
      · rcases way with z2 | z2
        · rw [z, z2] at e
          cases e
        · rw [z]
          exact z2
      · exact off b z)
    obtain ⟨mc, l1, l2⟩ := noL
    have e0 : Env0 P w K mg (hidT s.heap H) callerA [] s H := ⟨rfl, ⟨inB, lift nsM, ⟨mb, lift nsB, boot⟩, ⟨mc, lift l1, l2⟩⟩, fun _ _ e => of_hidT e, Nat.le_of_eq (hidT_size _ _), trivial, fun b z => (nomatch (show b ∈ ([] : List Addr) from z)), hok, .of_eq gens⟩
    refine codeAny_mono ((F _ inB (lift nsM)).goes callerA [] s H ⟨[.ref a], []⟩ [.ref a] [.ref a] _ _ rfl room e0 (bind s (.ref a)) (.cons rfl .nil) (wish H only sq)) fun fin s2 z => ?_
    match fin, z with
    | .error err, z => exact (noX H err s2 z).elim
    | .ok .next, z => exact z.elim
    | .ok .brk, z => exact z.elim
    | .ok .cont, z => exact z.elim
    | .ok (.ret u), ⟨v, H2, os, bare, un, hok2, rel, ev⟩ =>
      cases (show v = V.bl true from ev)
      cases (show u = Value.bool true from rel)
      refine ⟨rfl, OldK.of_keep fun b o e => ?_, os, bare⟩
      rcases only b with z | ⟨ob, xs, z⟩
      · exact un.keep b o e z (fun y => nomatch (show b ∈ ([] : List Addr) from y)) (fun y => nomatch y)
      · obtain ⟨e1, _⟩ := hok b _ z
        obtain ⟨e2, _⟩ := hok2 b _ (un.frzs b ob _ z)
        rw [e1] at e
        cases e
        exact e2
  have rel := vals_ints hin
  have lenV := hin.length
  cases look : K.lookup a with
  | some o =>
    have e := inK a o look
    rw [ha] at e
    cases e
    refine go (fun _ => none) (fun _ => .inl rfl) (.inr ⟨_, vs.toArray, _, look, rfl, rfl, rfl, ?_, ?_⟩) (fun b u z => nomatch (show (none : Option HO) = some u from z)) (fun _ _ => rfl) (.inr rfl)
    · rw [List.size_toArray, lenV]
      exact few
    · simpa using rel
  | none =>
    have one : (fun b => if b = a then some (HO.frz { cls := .type "list", data := .seq vs.toArray } (.lst (ns.map V.int))) else none) a = some (HO.frz { cls := .type "list", data := .seq vs.toArray } (.lst (ns.map V.int))) := if_pos rfl
    refine go (fun b => if b = a then some (.frz { cls := .type "list", data := .seq vs.toArray } (.lst (ns.map V.int))) else none) (fun b => ?_) (.inl (.inr ⟨_, one⟩)) (fun b u z => ?_) (fun b hb => if_neg hb) (.inl look)
    · by_cases hb : b = a
      · rw [hb]
        exact .inr ⟨_, _, one⟩
      · exact .inl (if_neg hb)
    · by_cases hb : b = a
      · subst hb
        have z2 := one.symm.trans z
        cases z2
        exact ⟨ha, by rw [List.length_map]; exact few, vs, _, rel, ha⟩
      · have z2 := (if_neg hb).symm.trans z
        cases z2
end GD
/-! the end of a law whose defs make lambdas, where nothing is being shown -/
namespace GD
open PySem PySem.Spec PyProof.Rows L2
abbrev tab0 : Obj := { cls := .none, data := .fields #[] }
theorem law_callGT {P : Program} {w : World} {K : PySem.W.Frag} {mg mb : Str → Option Value} {CX : CXT} {k : Nat} {fa a : Addr} {cs : List (Addr × Addr)} {fd : FuncData} {x : Str} {sp : Sp} {s : Shared} {vs : List Value} {ns : List Int}
    (inK : K.In s.heap) (nsM : s.heap.Ns mainGlobals mg) (nsB : s.heap.Ns builtinsNs mb) (boot : ∀ x : Str, x ≠ "__name__" → mb x = bootBuiltins x) (noL : s.heap.NoLimit) (gens : s.gens = #[])
    (tabs : ∀ p ∈ cs, PySem.W.CodeHd s.heap p.1 p.2 ∧ s.heap.get? p.2 = some tab0) (offK : ∀ p ∈ cs, K.lookup p.2 = none)
    (blt : ∃ (bm : Addr) (ob : Obj), mg "__builtins__" = some (.ref bm) ∧ bm ≠ builtinsNs ∧ s.heap.get? bm = some ob ∧ ob.cls = .type "module" ∧ ob.dict = some builtinsNs ∧ ob.data = .plain)
    (ha : s.heap.get? a = some { cls := .type "list", data := .seq vs.toArray }) (hin : IntsAre vs ns) (few : ns.length ≤ sizeLine) (room : Room k callerA)
    (F : ∀ base : Heap, K.In base → base.Ns mainGlobals mg → (∀ p ∈ cs, LamX.TabB base mg p.1 p.2) → FnG P w K mg base CX k fa fd [x] sp) (bind : ∀ (s : Shared) (u : Value), BindsTo s fd ⟨[u], []⟩ [(x, u)])
    (wish : ∀ H : Hp, (∀ p ∈ cs, H p.2 = some (.tbl #[])) → SqL K H a (ns.map V.int) → sp [.ref a] H (fun v _ => v = .bl true) fun _ _ _ => False) (noX : ∀ H e s', CX [] H s (fun _ _ _ => False) e s' → False) :
    codeAny (model P w) callerA (.call (.ref fa) ⟨[.ref a], []⟩) (fun r s' => r = .ok (.ret (.bool true)) ∧ OldK s.heap s'.heap ∧ s'.os = s.os ∧ AllBare s'.gens) s := by
  let tb : Addr → Prop := fun b => ∃ p ∈ cs, p.2 = b
  have tbd : ∀ b, Decidable (tb b) := fun b => Classical.propDecidable _
  have tbo : ∀ {b : Addr}, tb b → s.heap.get? b = some tab0 := fun {b} ⟨p, hp, e⟩ => by
    rw [← e]
    exact (tabs p hp).2
  have atb : ¬ tb a := fun z => by
    have e := tbo z
    rw [ha] at e
    have e2 := congrArg Obj.data (Option.some.inj e)
    cases (show Data.seq vs.toArray _ = Data.fields #[] from e2)
  have go : ∀ H : Hp, (∀ b, tb b → H b = some (.tbl #[])) → (∀ b, b ≠ a → ¬ tb b → H b = none) → (H a = none ∨ ∃ ob xs, H a = some (.frz ob (.lst xs))) → SqL K H a (ns.map V.int) → HOk P w H s.heap → (K.lookup a = none ∨ H a = none) →
      codeAny (model P w) callerA (.call (.ref fa) ⟨[.ref a], []⟩) (fun r s' => r = .ok (.ret (.bool true)) ∧ OldK s.heap s'.heap ∧ s'.os = s.os ∧ AllBare s'.gens) s := by
    intro H tbH off onA sq hok way
    have up : ∀ {b : Addr} {o : Obj}, s.heap.get? b = some o → H b = none → (hidT s.heap H).get? b = some o := fun e n => hidT_get e n
    have plain : ∀ {b : Addr} {o : Obj}, s.heap.get? b = some o → (∀ us n, o.data ≠ .seq us n) → o.data ≠ .fields #[] → H b = none := fun {b o} e n1 n2 => by
      by_cases za : b = a
      · rw [za, ha] at e
        cases e
        exact absurd rfl (n1 _ _)
      · refine off b za fun z => ?_
        rw [tbo z] at e
        cases e
        exact n2 rfl
    have lift : ∀ {b : Addr} {m : Str → Option Value}, s.heap.Ns b m → (hidT s.heap H).Ns b m := fun ⟨o, es, n, e, d, r⟩ => ⟨o, es, n, up e (plain e (fun us n z => by rw [d] at z; cases z) (fun z => by rw [d] at z; cases z)), d, r⟩
    have inB : K.In (hidT s.heap H) := fun b o e => up (inK b o e) (by
      by_cases za : b = a
      · rcases way with z2 | z2
        · rw [za, z2] at e
          cases e
        · rw [za]
          exact z2
      · refine off b za fun ⟨p, hp, z⟩ => ?_
        rw [← z, offK p hp] at e
        cases e)
    have TB : ∀ p ∈ cs, LamX.TabB (hidT s.heap H) mg p.1 p.2 := fun p hp => by
      obtain ⟨cd, tp⟩ := tabs p hp
      refine ⟨?_, ?_, fun z => ?_⟩
      · obtain ⟨o, us, f1, f2, f3, f4, f5, f6, f7, e1, g1, g2, g3, rest⟩ := cd
        refine ⟨o, us, f1, f2, f3, f4, f5, f6, f7, up e1 (plain e1 (fun us n z => by rw [g2] at z; cases z) (fun z => ?_)), g1, g2, g3, rest⟩
        rw [g2] at z
        cases z
        simp at g3
      · obtain ⟨bm, ob, b1, b2, b3, b4, b5, b6⟩ := blt
        refine ⟨bm, ob, b1, b2, fun z => ?_, fun z => ?_, up b3 (plain b3 (fun us n z => by rw [b6] at z; cases z) (fun z => by rw [b6] at z; cases z)), b4, b5, b6⟩
        · obtain ⟨o, es, ep, e, d, _⟩ := nsM
          rw [z, e] at b3
          cases b3
          rw [d] at b6
          cases b6
        · rw [z, tp] at b3
          cases b3
          cases b6
      · obtain ⟨o, es, ep, e, d, _⟩ := nsM
        rw [z, tp] at e
        cases e
        cases d
    obtain ⟨mc, l1, l2⟩ := noL
    have e0 : Env0 P w K mg (hidT s.heap H) callerA [] s H := ⟨rfl, ⟨inB, lift nsM, ⟨mb, lift nsB, boot⟩, ⟨mc, lift l1, l2⟩⟩, fun _ _ e => of_hidT e, Nat.le_of_eq (hidT_size _ _), trivial, fun b z => (nomatch (show b ∈ ([] : List Addr) from z)), hok, .of_eq gens⟩
    refine codeAny_mono ((F _ inB (lift nsM) TB).goes callerA [] s H ⟨[.ref a], []⟩ [.ref a] [.ref a] _ _ rfl room e0 (bind s (.ref a)) (.cons rfl .nil) (wish H (fun p hp => tbH _ ⟨p, hp, rfl⟩) sq)) fun fin s2 z => ?_
    match fin, z with
    | .error err, z => exact (noX H err s2 z).elim
    | .ok .next, z => exact z.elim
    | .ok .brk, z => exact z.elim
    | .ok .cont, z => exact z.elim
    | .ok (.ret u), ⟨v, H2, os, bare, un, hok2, rel, ev⟩ =>
      cases (show v = V.bl true from ev)
      cases (show u = Value.bool true from rel)
      have kept : ∀ b o, ¬ tb b → s.heap.get? b = some o → s2.heap.get? b = some o := fun b o nb e => by
        have free : H b = none → s2.heap.get? b = some o := fun n => un.keep b o e n (fun y => nomatch (show b ∈ ([] : List Addr) from y)) (fun y => nomatch y)
        by_cases za : b = a
        · rcases onA with z | ⟨ob, xs, z⟩
          · exact free (by rw [za]; exact z)
          · obtain ⟨e1, _⟩ := hok a _ z
            obtain ⟨e2, _⟩ := hok2 a _ (un.frzs a ob _ z)
            rw [za, e1] at e
            cases e
            rw [za]
            exact e2
        · exact free (off b za nb)
      have grew : ∀ b, tb b → ∃ more : Array Value, s2.heap.get? b = some { cls := .none, data := .fields more } := fun b hb => by
        obtain ⟨more, z⟩ := un.tbls b #[] (tbH b hb)
        exact ⟨_, hok2 b _ z⟩
      refine ⟨rfl, ⟨fun b o e => ?_, fun b o e => ?_⟩, os, bare⟩
      · by_cases hb : tb b
        · obtain ⟨more, hm⟩ := grew b hb
          have t0 := tbo hb
          rw [t0] at e
          cases e
          obtain ⟨p, hp, ep⟩ := hb
          rw [← ep] at hm t0 ⊢
          exact .inr (.inl ⟨((tabs p hp).1.tab t0).isCodeTable, rfl, #[], more, rfl, by rw [Array.empty_append]; exact hm⟩)
        · exact .inl (kept b o hb e)
      · by_cases hb : tb b
        · obtain ⟨more, hm⟩ := grew b hb
          exact ⟨_, hm⟩
        · exact ⟨o, kept b o hb e⟩
  have rel := vals_ints hin
  have lenV := hin.length
  cases look : K.lookup a with
  | some o =>
    have e := inK a o look
    rw [ha] at e
    cases e
    refine go (fun b => @ite _ (tb b) (tbd b) (some (.tbl #[])) none) (fun b hb => if_pos hb) (fun b _ hb => if_neg hb) (.inl (if_neg atb)) (.inr ⟨_, vs.toArray, _, look, rfl, rfl, rfl, ?_, ?_⟩) (fun b u z => ?_) (.inr (if_neg atb))
    · rw [List.size_toArray, lenV]
      exact few
    · simpa using rel
    · by_cases hb : tb b
      · have z2 := (if_pos hb).symm.trans z
        cases z2
        exact tbo hb
      · have z2 := (if_neg hb).symm.trans z
        cases z2
  | none =>
    have one : (fun b => if b = a then some (HO.frz { cls := .type "list", data := .seq vs.toArray } (.lst (ns.map V.int))) else @ite _ (tb b) (tbd b) (some (.tbl #[])) none) a = some (HO.frz { cls := .type "list", data := .seq vs.toArray } (.lst (ns.map V.int))) := if_pos rfl
    refine go (fun b => if b = a then some (.frz { cls := .type "list", data := .seq vs.toArray } (.lst (ns.map V.int))) else @ite _ (tb b) (tbd b) (some (.tbl #[])) none) (fun b hb => ?_) (fun b na hb => ?_) (.inr ⟨_, _, one⟩) (.inl (.inr ⟨_, one⟩)) (fun b u z => ?_) (.inl look)
    · exact (if_neg fun z => atb (by rw [← z]; exact hb)).trans (if_pos hb)
    · exact (if_neg na).trans (if_neg hb)
    · by_cases za : b = a
      · subst za
        have z2 := one.symm.trans z
        cases z2
        exact ⟨ha, by rw [List.length_map]; exact few, vs, _, rel, ha⟩
      · by_cases hb : tb b
        · have z2 := ((if_neg za).trans (if_pos hb)).symm.trans z
          cases z2
          exact tbo hb
        · have z2 := ((if_neg za).trans (if_neg hb)).symm.trans z
          cases z2
end GD
namespace GD
open PySem PySem.Spec PyProof.Rows L2
/-- a def of the top whose code object is at c -/
structure FunC (K : PySem.W.Frag) (x q : Str) (st : Stmt) (f : Addr) (fd : FuncData) (c : Addr) : Prop where
  ex : ∃ (oc : Value) (od : Option Addr) (kV doc pm : Value) (an : Option Addr) (ct : Value) (osl : Array (Option Value)),
    fd = PySem.W.fnOf x q (defArgs st) (defBody st) (defScope st) .none kV doc pm an (.ref c) ct ∧ K.lookup f = some ⟨oc, od, .func fd, osl⟩ ∧ PySem.W.codeIn K (.ref c) q = true
  kp : PySem.W.keepIn K (.ref f) = true
section
variable {P : Program} {w : World} {K : PySem.W.Frag} {mg : Str → Option Value} {base : Heap} {k : Nat} {f c : Addr} {fd : FuncData} {ps : List Str} {sp : Sp}
theorem fun_okGC {x q : Str} {st : Stmt} {N : List Str} (F : FunC K x q st f fd c) (S : FnScope N ps (defScope st)) (few : ∀ vs H Q E, sp vs H Q E → vs.length = ps.length)
    (body : ∀ (A : Around) (out : List Env) (s : Shared) (H : Hp) (vs : List V) (Q : VK) (E : XK), Calm (A.deeper (envOfC q (defScope st) s.heap.objs.size f (.ref c))) → Room k (A.deeper (envOfC q (defScope st) s.heap.objs.size f (.ref c))) → sp vs H Q E →
      ∃ t, PSs (cxOf CX0 P w K mg base N q (defScope st) f (.ref c) A out s H E).nox (defBody st) t ∧ t { nx := fun _ H' => Q .non H', rt := Q } (start N vs) H) : FnG P w K mg base CX0 (k + 1) f fd ps sp := by
  obtain ⟨oc, od, kV, doc, pm, an, ct, osl, rfl, look, hcd⟩ := F.ex
  constructor
  · exact few
  intro A out s H args us vs Q E calm room e0 bound rel wish
  have keep : ∀ b o, base.get? b = some o → s.heap.get? b = some o := fun b o e => (e0.bs b o e).1
  have inK := e0.mod.kin.keeps keep
  have noL := e0.mod.nolimit.keeps keep
  have size := few _ _ _ _ wish
  refine codeAny_call_function room.depth (inK _ _ look) rfl S.co S.gen rfl (PySem.W.codeRec_of inK hcd) (bound _ _ _ _ ?_)
  refine wpAny_newFunctionEnv_cells S.kind (fun y hy => ?_) fun env he s1 x => ?_
  · rcases S.par y.1 (List.of_mem_zip hy).1 with z | z
    · exact .inl z
    · exact .inr ⟨z, PySem.W.cellsFrom_some _ _ _ (.inl z)⟩
  subst he
  refine ⟨noL.keeps x.toInCall.keep, codeAny_func ?_⟩
  obtain ⟨t, d, r⟩ := body A out s H vs Q E calm (room.deeper _) wish
  have J := inv_start (CX := CX0) (E := E) S room.hd e0 size rel x
  refine wpAny_mono (d.nox.run [] s1 (start N vs) H _ J r) (fun fl s2 z => ?_) fun _ _ z => z
  cases fl with
  | brk => exact z.elim fun _ z => z.elim fun _ z => z.2.elim
  | cont => exact z.elim fun _ z => z.elim fun _ z => z.2.elim
  | next =>
    obtain ⟨τ, H2, J2, q⟩ := z
    exact ⟨.non, H2, J2.os, J2.bare, J2.base, J2.hok, rfl, q⟩
  | ret u =>
    obtain ⟨v, τ, H2, J2, rv, q⟩ := z
    exact ⟨v, H2, J2.os, J2.bare, J2.base, J2.hok, rv, q⟩
end
end GD
namespace CC
open PySem L2 LamX
/-! the heap without its tables of code objects -/
def isTb : HO → Bool
  | .tbl _ => true
  | _ => false
def nt (H : Hp) : Hp := fun b => (H b).filter fun o => !isTb o
section
variable {H H' : Hp} {K : PySem.W.Frag} {b a : Addr} {o : HO} {xs : List V}
theorem nt_at (e : nt H b = some o) : H b = some o ∧ isTb o = false := by
  unfold nt at e
  rw [Option.filter_eq_some_iff] at e
  exact ⟨e.1, by simpa using e.2⟩
theorem nt_of (e : H b = some o) (n : isTb o = false) : nt H b = some o := by
  unfold nt
  rw [Option.filter_eq_some_iff]
  exact ⟨e, by rw [n]; rfl⟩
theorem nt_le : Same (nt H) H := fun b o e => (nt_at e).1
theorem tb_no (n : isTb o = false) (ps : Array Value) : o ≠ .tbl ps := fun z => by
  rw [z] at n
  cases n
theorem ext_nt (e : ExtN H H') : Same (nt H) (nt H') := fun b o q => by
  obtain ⟨q, n⟩ := nt_at q
  exact nt_of (e b o q (tb_no n)) n
theorem sql_nt (h : SqL K H a xs) : SqL K (nt H) a xs := by
  rcases h with (h | ⟨o, h⟩) | h
  · exact .inl (.inl (nt_of h rfl))
  · exact .inl (.inr ⟨o, nt_of h rfl⟩)
  · exact .inr h
theorem sqt_nt (h : SqT K H a xs) : SqT K (nt H) a xs := by
  rcases h with (h | ⟨o, h⟩) | h
  · exact .inl (.inl (nt_of h rfl))
  · exact .inl (.inr ⟨o, nt_of h rfl⟩)
  · exact .inr h
theorem nt_T : SameT H (nt H) := ⟨fun b xs h => nt_of h rfl, fun b o xs h => nt_of h rfl⟩
theorem TableAt.nt {C x : Addr} {w : Nat} {rows : List (List Nat)} (h : TableAt K C H x w rows) : TableAt K C (nt H) x w rows := by
  obtain ⟨dx, g, us, h1, h2, h3⟩ := h
  exact ⟨dx, g, us, nt_of h1 rfl, nt_of h2 rfl, gds_T nt_T h3⟩
theorem TableAt.ext {C x : Addr} {w : Nat} {rows : List (List Nat)} (h : TableAt K C H x w rows) (e : ExtN H H') : TableAt K C H' x w rows := (h.nt.same (ext_nt e)).same nt_le
/-- what stands before a lambda's body: a raise leaves it -/
theorem takes_lam {X : Cx} {A : Around} {outer : List Env} {s : Shared} {E : XK} {scope : Scope} {f c' : Addr} : Takes (lamCx X A outer s H E scope f c') (fun cls d _ H' => E cls d H') := takes_of rfl rfl rfl rfl
end
end CC
namespace CC
open PySem L2 LamX
section
variable {H H' : Hp} {K : PySem.W.Frag}
mutual
theorem dp_nt : ∀ (d : PyData) (v : V), Dp K H v d → Dp K (nt H) v d
  | .none, _, h => by cases h; exact .non
  | .bool b, _, h => by cases h; exact .bl b
  | .int i, _, h => by cases h; exact .int i
  | .str x, _, h => by cases h; exact .str x
  | .list ds, _, h => by
    cases h with
    | lst hs ha => exact .lst (sql_nt hs) (dps_nt ds _ ha)
  | .tuple ds, _, h => by
    cases h with
    | tup hs ha => exact .tup (sqt_nt hs) (dps_nt ds _ ha)
  | .dict _, _, h => by cases h
theorem dps_nt : ∀ (ds : List PyData) (vs : List V), DpAll K H vs ds → DpAll K (nt H) vs ds
  | [], _, h => by cases h; exact .nil
  | d :: ds, _, h => by
    cases h with
    | cons h1 h2 => exact .cons (dp_nt d _ h1) (dps_nt ds _ h2)
end
theorem dps_ext (e : ExtN H H') (ds : List PyData) (vs : List V) (h : DpAll K H vs ds) : DpAll K H' vs ds := dps_same ((ext_nt e).trans nt_le) ds vs (dps_nt ds vs h)
theorem ext_lst {b : Addr} {xs : List V} (e : ExtN H H') (h : H b = some (.lst xs)) : H' b = some (.lst xs) := e _ _ h (tb_no rfl)
theorem ext_tup {b : Addr} {xs : List V} (e : ExtN H H') (h : H b = some (.tup xs)) : H' b = some (.tup xs) := e _ _ h (tb_no rfl)
end
end CC
namespace CC
open PySem L2 TL LamX PyProof.Rows
theorem new_view' {H : Hp} {p : Addr} {o : HO} (h : H p = none) : Same H (wo (upd H p o) p) := fun b u e => by
  rw [wo_ne (ne_of_none e h), upd_ne (ne_of_none e h)]
  exact e
/-- what a law with lambdas keeps: its script, the source, the tables of code objects -/
structure W3 (K : PySem.W.Frag) (Ts : List (Addr × Str)) (H : Hp) (a p : Addr) (ns : List Int) : Prop where
  scr : SqL K (wo H p) a (ns.map V.int)
  src : Src H p
  tab : Tabs Ts H
section
variable {K : PySem.W.Frag} {Ts : List (Addr × Str)} {H H' : Hp} {a p l t : Addr} {ns : List Int} {w v : Nat} {rows : List (List Nat)}
theorem tabs_ran (t : Tabs Ts H) (s : Src H p) (r : Ran H H' p) : Tabs Ts H' := fun q hq => by
  obtain ⟨o, ho, i1, i2, i3, eo, _⟩ := s
  rw [eo] at ho
  obtain ⟨ps, h1, h2, h3⟩ := t q hq
  refine ⟨ps, r.at_ h1 (fun z => by rw [z, ho] at h1; cases h1), h2, fun pos cv hc => ?_⟩
  obtain ⟨c, e1, e2⟩ := h3 pos cv hc
  exact ⟨c, e1, r.at_ e2 (fun z => by rw [z, ho] at e2; unfold CodeO at e2; cases e2)⟩
theorem W3.grow (z : W3 K Ts H a p ns) (e : Same H H') : W3 K Ts H' a p ns := by
  obtain ⟨o, h1, h2⟩ := z.src
  exact ⟨same_l (wo_same e) z.scr, ⟨o, e _ _ h1, h2⟩, z.tab.ext e⟩
theorem W3.run (z : W3 K Ts H a p ns) (r : Ran H H' p) : W3 K Ts H' a p ns := ⟨same_l r.same z.scr, r.src, tabs_ran z.tab z.src r⟩
theorem W3.ext (z : W3 K Ts H a p ns) (e : ExtN H H') (t : Tabs Ts H') : W3 K Ts H' a p ns := by
  obtain ⟨o, h1, h2⟩ := z.src
  obtain ⟨i1, i2, i3, eo, _⟩ := id h2
  refine ⟨same_l (fun b u q => ?_) (sql_nt z.scr), ⟨o, e _ _ h1 (fun ps q => by rw [eo] at q; cases q), h2⟩, t⟩
  obtain ⟨q, n⟩ := nt_at q
  have bp : b ≠ p := fun y => by
    rw [y, wo_at] at q
    cases q
  rw [wo_ne bp] at q ⊢
  exact e _ _ q (tb_no n)
/-- a draw leaves a list of rules -/
theorem RulesAt.run {C r : Addr} {rs : List R} (h : RulesAt K C H r w rs) (s : Src H p) (e : Ran H H' p) : RulesAt K C H' r w rs := by
  obtain ⟨o, hp, z1, z2, z3, rfl, _⟩ := id s
  obtain ⟨dr, gr, ur, r1, r2, r3⟩ := h
  exact ⟨dr, gr, ur, e.at_ r1 (ne_of r1 hp (by intro z; cases z)), (e.T s).tup _ _ r2, rds_T (e.T s) r3⟩
theorem TableAt.run {C r : Addr} (h : TableAt K C H r w rows) (s : Src H p) (e : Ran H H' p) : TableAt K C H' r w rows := by
  obtain ⟨o, hp, z1, z2, z3, rfl, _⟩ := id s
  obtain ⟨dr, gr, ur, r1, r2, r3⟩ := h
  exact ⟨dr, gr, ur, e.at_ r1 (ne_of r1 hp (by intro z; cases z)), (e.T s).tup _ _ r2, gds_T (e.T s) r3⟩
end
end CC
namespace CC
open PySem L2 TL LamX
/-! ### logs of all four classes: with a limit, with the tables that were -/
def lmF : Option Nat → List (Str × V)
  | none => []
  | some m => [("limit", .int (m : Int))]
def fldM (lm : Option Nat) (b h p : Addr) : List (Str × V) := fldL b h p ++ lmF lm
theorem lk_app (a b : List (Str × V)) (m : Str) : (a ++ b).lookup m = match a.lookup m with | some v => some v | none => b.lookup m := by
  induction a with
  | nil => rfl
  | cons x a ih =>
    obtain ⟨y, v⟩ := x
    show ((y, v) :: (a ++ b)).lookup m = _
    rw [List.lookup_cons, List.lookup_cons]
    split
    · rfl
    · exact ih
section
variable (lm : Option Nat) (b h p t : Addr)
theorem fldM_b : (fldM lm b h p).lookup ("book" : Str) = some (.ref b) := by
  unfold fldM
  rw [lk_app, fldL_b]
theorem fldM_h : (fldM lm b h p).lookup ("held" : Str) = some (.ref h) := by
  unfold fldM
  rw [lk_app, fldL_h]
theorem fldM_p : (fldM lm b h p).lookup ("past" : Str) = some (.ref p) := by
  unfold fldM
  rw [lk_app, fldL_p]
theorem fldM_l (m : Nat) : (fldM (some m) b h p).lookup ("limit" : Str) = some (.int (m : Int)) := by
  unfold fldM
  rw [lk_app, fldL_no _ _ _ (by decide +kernel) (by decide +kernel) (by decide +kernel)]
  show ([(("limit" : Str), V.int (m : Int))] : List (Str × V)).lookup ("limit" : Str) = _
  rw [List.lookup_cons, beq_self_eq_true]
theorem fldM_no {m : Str} (h1 : ¬ m = "past") (h2 : ¬ m = "held") (h3 : ¬ m = "book") (h4 : ¬ m = "limit") : (fldM lm b h p).lookup m = none := by
  unfold fldM
  rw [lk_app, fldL_no _ _ _ h1 h2 h3]
  cases lm with
  | none => rfl
  | some k =>
    show ([(("limit" : Str), V.int (k : Int))] : List (Str × V)).lookup m = none
    rw [List.lookup_cons, show (m == ("limit" : Str)) = false from beq_eq_false_iff_ne.mpr h4]
    rfl
theorem fldM_held : putF "held" (.ref t) (fldM lm b h p) = fldM lm b t p := by
  show putF "held" (.ref t) (("book", .ref b) :: ("held", .ref h) :: ("past", .ref p) :: lmF lm) = _
  rw [putF_on n_bh, putF_at]
  rfl
theorem fldM_len : (fldM lm b h p).length < 1000 := by
  cases lm with
  | none => exact (by decide : 3 < 1000)
  | some k => exact (by decide : 4 < 1000)
theorem fldM_lim (m : Nat) : putF "limit" (.int (m : Int)) (fldM none b h p) = fldM (some m) b h p := by
  show putF "limit" (.int (m : Int)) [("book", .ref b), ("held", .ref h), ("past", .ref p)] = _
  rw [putF_on (by decide +kernel), putF_on (by decide +kernel), putF_on (by decide +kernel)]
  rfl
end
/-- the tables that were, by their rows -/
inductive TabsL (K : PySem.W.Frag) (CT : Addr) (H : Hp) (w : Nat) : List V → List (List (List Nat)) → Prop
  | nil : TabsL K CT H w [] []
  | cons {t : Addr} {rows : List (List Nat)} {us : List V} {ps : List (List (List Nat))} : TableAt K CT H t w rows → TabsL K CT H w us ps → TabsL K CT H w (.ref t :: us) (rows :: ps)
section
variable {K : PySem.W.Frag} {CT t : Addr} {H H' : Hp} {w : Nat} {us : List V} {ps : List (List (List Nat))} {rows : List (List Nat)}
theorem TabsL.map (f : ∀ t rows, TableAt K CT H t w rows → TableAt K CT H' t w rows) (h : TabsL K CT H w us ps) : TabsL K CT H' w us ps := by
  induction h with
  | nil => exact .nil
  | cons a _ ih => exact .cons (f _ _ a) ih
theorem TabsL.same (e : Same H H') (h : TabsL K CT H w us ps) : TabsL K CT H' w us ps := h.map fun _ _ a => a.same e
theorem TabsL.len (h : TabsL K CT H w us ps) : us.length = ps.length := by
  induction h with
  | nil => rfl
  | cons _ _ ih => rw [List.length_cons, List.length_cons, ih]
theorem TabsL.snoc (h : TabsL K CT H w us ps) (a : TableAt K CT H t w rows) : TabsL K CT H w (us ++ [.ref t]) (ps ++ [rows]) := by
  induction h with
  | nil => exact .cons a .nil
  | cons b _ ih => exact .cons b ih
theorem TabsL.last (h : TabsL K CT H w us (ps ++ [rows])) : ∃ vs t, us = vs ++ [.ref t] ∧ TabsL K CT H w vs ps ∧ TableAt K CT H t w rows := by
  induction ps generalizing us with
  | nil =>
    cases h with
    | cons a b =>
      cases b
      exact ⟨[], _, rfl, .nil, a⟩
  | cons p ps ih =>
    cases h with
    | cons a b =>
      obtain ⟨vs, t, rfl, h1, h2⟩ := ih b
      exact ⟨_ :: vs, t, rfl, .cons a h1, h2⟩
end
structure LgAt (K : PySem.W.Frag) (C CR CT : Addr) (lm : Option Nat) (H : Hp) (x r q : Addr) (w : Nat) (rs : List R) (rows : List (List Nat)) (ps : List (List (List Nat))) : Prop where
  at_ : ∃ dx t, H x = some (.ins C dx (fldM lm r t q)) ∧ TableAt K CT (wos H [x, q]) t w rows
  book : RulesAt K CR (wos H [x, q]) r w rs
  past : ∃ hs, H q = some (.lst hs) ∧ TabsL K CT (wos H [x, q]) w hs ps
section
variable {K : PySem.W.Frag} {C CR CT : Addr} {lm : Option Nat} {H H' H2 : Hp} {x r q : Addr} {w : Nat} {rs : List R} {rows rows' : List (List Nat)} {ps ps' : List (List (List Nat))}
theorem LgAt.ne (h : LgAt K C CR CT lm H x r q w rs rows ps) : x ≠ q := by
  obtain ⟨dx, t, h1, _⟩ := h.at_
  obtain ⟨hs, h2, _⟩ := h.past
  exact ne_of h1 h2 (by intro z; cases z)
theorem LgAt.keep (h : LgAt K C CR CT lm H x r q w rs rows ps) (e : Same H H') : LgAt K C CR CT lm H' x r q w rs rows ps := by
  obtain ⟨⟨dx, t, h1, h2⟩, h3, ⟨hs, h4, h5⟩⟩ := h
  have k : Same (wos H [x, q]) (wos H' [x, q]) := (Kp.of e).same
  exact ⟨⟨dx, t, e _ _ h1, h2.same k⟩, h3.same k, ⟨hs, e _ _ h4, h5.same k⟩⟩
/-- a draw leaves a log as it is -/
theorem LgAt.ran {p : Addr} (L : LgAt K C CR CT lm H x r q w rs rows ps) (src : Src H p) (qp : q ≠ p) (e : Ran H H' p) : LgAt K C CR CT lm H' x r q w rs rows ps := by
  obtain ⟨o, hp, z1, z2, z3, rfl, _⟩ := id src
  have T := e.T src
  have key : ∀ b o, wos H [x, q] b = some o → o ≠ .lst [.int z1, .int z2, .int z3] → wos H' [x, q] b = some o := fun b o eb no => by
    obtain ⟨nb, eb⟩ := wos_at eb
    rw [wos_in nb]
    exact e.at_ eb fun z => no (by rw [z, hp] at eb; exact (Option.some.inj eb).symm)
  have TT : SameT (wos H [x, q]) (wos H' [x, q]) := ⟨fun b xs e => key b _ e (by intro z; cases z), fun b o xs e => key b _ e (by intro z; cases z)⟩
  have tab : ∀ t rows, TableAt K CT (wos H [x, q]) t w rows → TableAt K CT (wos H' [x, q]) t w rows := fun t rows ⟨dt, gt, ut, t1, t2, t3⟩ => ⟨dt, gt, ut, key _ _ t1 (by intro z; cases z), key _ _ t2 (by intro z; cases z), gds_T TT t3⟩
  obtain ⟨⟨dx, t, h1, h2⟩, ⟨dr, gr, ur, r1, r2, r3⟩, ⟨hs, h4, h5⟩⟩ := L
  exact ⟨⟨dx, t, e.at_ h1 (ne_of h1 hp (by intro z; cases z)), tab _ _ h2⟩, ⟨dr, gr, ur, key _ _ r1 (by intro z; cases z), key _ _ r2 (by intro z; cases z), rds_T TT r3⟩, ⟨hs, e.at_ h4 qp, h5.map tab⟩⟩
/-- a change of the log leaves tuples -/
theorem LgAt.T (L : LgAt K C CR CT lm H x r q w rs rows ps) (k : Kp [x, q] H H') : SameT H H' := by
  obtain ⟨⟨dx, t, h1, _⟩, _, ⟨hs, h4, _⟩⟩ := L
  have T := wos2_T h1 h4
  exact T.trans (same_T k.to)
theorem LgAt.out (L : LgAt K C CR CT lm H x r q w rs rows ps) {b : Addr} {o : HO} (e : H b = some o) (n1 : ∀ C dx t, o ≠ .ins C dx (fldM lm r t q)) (n2 : ∀ hs, o ≠ .lst hs) : b ∉ [x, q] := by
  obtain ⟨dx, t, hx, _⟩ := L.at_
  obtain ⟨hs, hq, _⟩ := L.past
  intro z
  simp only [List.mem_cons, List.not_mem_nil, or_false] at z
  rcases z with z | z
  · rw [z, hx] at e
    exact n1 _ _ _ (Option.some.inj e).symm
  · rw [z, hq] at e
    exact n2 _ (Option.some.inj e).symm
theorem fldT_ne {m : Nat} {g r t q : Addr} : fldT m g ≠ fldM lm r t q := fun z => by
  have := congrArg (fun l => List.lookup ("book" : Str) l) z
  have e : (fldT m g).lookup ("book" : Str) = none := by
    unfold fldT flT0
    rw [lookup_putF, if_neg (by decide +kernel), lookup_putF, if_neg (by decide +kernel)]
    rfl
  simp only [fldM_b, e] at this
  cases this
theorem flds_ne {m : Nat} {g r t q : Addr} : flds m g ≠ fldM lm r t q := fun z => by
  have := congrArg (fun l => List.lookup ("book" : Str) l) z
  rw [flds_no _ _ (by decide +kernel) (by decide +kernel)] at this
  simp only [fldM_b] at this
  cases this
/-- a table beside a log stands when the log changes -/
theorem LgAt.tab {t : Addr} {v : Nat} {rows2 : List (List Nat)} (L : LgAt K C CR CT lm H x r q w rs rows ps) (h : TableAt K CT H t v rows2) : TableAt K CT (wos H [x, q]) t v rows2 := by
  obtain ⟨dt, g, us, h1, h2, h3⟩ := h
  obtain ⟨dx, t0, hx, _⟩ := L.at_
  obtain ⟨hs, hq, _⟩ := L.past
  refine ⟨dt, g, us, ?_, ?_, gds_T (wos2_T hx hq) h3⟩
  · rw [wos_in (L.out h1 (fun _ _ _ z => fldT_ne (by injection z)) (fun _ z => by cases z))]
    exact h1
  · rw [wos_in (L.out h2 (fun _ _ _ z => by cases z) (fun _ z => by cases z))]
    exact h2
theorem LgAt.rul {t : Addr} {v : Nat} {ts : List R} (L : LgAt K C CR CT lm H x r q w rs rows ps) (h : RulesAt K CR H t v ts) : RulesAt K CR (wos H [x, q]) t v ts := by
  obtain ⟨dt, g, us, h1, h2, h3⟩ := h
  obtain ⟨dx, t0, hx, _⟩ := L.at_
  obtain ⟨hs, hq, _⟩ := L.past
  refine ⟨dt, g, us, ?_, ?_, rds_T (wos2_T hx hq) h3⟩
  · rw [wos_in (L.out h1 (fun _ _ _ z => flds_ne (by injection z)) (fun _ z => by cases z))]
    exact h1
  · rw [wos_in (L.out h2 (fun _ _ _ z => by cases z) (fun _ z => by cases z))]
    exact h2
/-- two logs, apart -/
theorem LgAt.apart {C2 CR2 CT2 x2 r2 q2 : Addr} {lm2 : Option Nat} {w2 : Nat} {rs2 : List R} {rows2 : List (List Nat)} {ps2 : List (List (List Nat))} (L : LgAt K C CR CT lm H x r q w rs rows ps) (L2 : LgAt K C2 CR2 CT2 lm2 H x2 r2 q2 w2 rs2 rows2 ps2) (nx : x ≠ x2) (nq : q ≠ q2) : LgAt K C CR CT lm (wos H [x2, q2]) x r q w rs rows ps := by
  obtain ⟨dx, t, h1, h2⟩ := L.at_
  obtain ⟨hs, h4, h5⟩ := L.past
  have xq : x ≠ q2 := by
    obtain ⟨_, z, _⟩ := L2.past
    exact ne_of h1 z (by intro z; cases z)
  have qx : q ≠ x2 := by
    obtain ⟨_, _, z, _⟩ := L2.at_
    exact ne_of h4 z (by intro z; cases z)
  have c : ∀ b o, wos H [x, q] b = some o → b ∉ [x2, q2] → wos (wos H [x2, q2]) [x, q] b = some o := fun b o e n => by
    obtain ⟨nb, e⟩ := wos_at e
    rw [wos_in nb, wos_in n]
    exact e
  have TT : SameT (wos H [x, q]) (wos (wos H [x2, q2]) [x, q]) := ⟨fun b xs e => c b _ e (L2.out (wos_le _ _ _ e) (fun _ _ _ z => by cases z) (fun _ z => by cases z)), fun b o xs e => c b _ e (L2.out (wos_le _ _ _ e) (fun _ _ _ z => by cases z) (fun _ z => by cases z))⟩
  have tab : ∀ t rows, TableAt K CT (wos H [x, q]) t w rows → TableAt K CT (wos (wos H [x2, q2]) [x, q]) t w rows := fun t rows ⟨dt, gt, ut, t1, t2, t3⟩ =>
    ⟨dt, gt, ut, c _ _ t1 (L2.out (wos_le _ _ _ t1) (fun _ _ _ z => fldT_ne (by injection z)) (fun _ z => by cases z)), TT.tup _ _ t2, gds_T TT t3⟩
  obtain ⟨dr, gr, ur, r1, r2', r3⟩ := L.book
  refine ⟨⟨dx, t, ?_, tab _ _ h2⟩, ⟨dr, gr, ur, c _ _ r1 (L2.out (wos_le _ _ _ r1) (fun _ _ _ z => flds_ne (by injection z)) (fun _ z => by cases z)), TT.tup _ _ r2', rds_T TT r3⟩, ⟨hs, ?_, h5.map tab⟩⟩
  · rw [wos_in (by simp [nx, xq])]
    exact h1
  · rw [wos_in (by simp [nq, qx])]
    exact h4
/-- a change of one log leaves the other one -/
theorem LgAt.beside {C2 CR2 CT2 x2 r2 q2 : Addr} {lm2 : Option Nat} {w2 : Nat} {rs2 : List R} {rows2 : List (List Nat)} {ps2 : List (List (List Nat))} (L : LgAt K C CR CT lm H x r q w rs rows ps) (L2 : LgAt K C2 CR2 CT2 lm2 H x2 r2 q2 w2 rs2 rows2 ps2) (nx : x ≠ x2) (nq : q ≠ q2) (k : Kp [x2, q2] H H') : LgAt K C CR CT lm H' x r q w rs rows ps :=
  (L.apart L2 nx nq).keep k.to
theorem LgAt.ext (L : LgAt K C CR CT lm H x r q w rs rows ps) (e : ExtN H H') : LgAt K C CR CT lm H' x r q w rs rows ps := by
  obtain ⟨⟨dx, t, h1, h2⟩, h3, ⟨hs, h4, h5⟩⟩ := L
  have k : ExtN (wos H [x, q]) (wos H' [x, q]) := fun b o h n => by
    obtain ⟨nb, h⟩ := wos_at h
    rw [wos_in nb]
    exact e b o h n
  have rul : RulesAt K CR (wos H' [x, q]) r w rs := by
    obtain ⟨dx, g, us, h1, h2, h3⟩ := h3
    exact ⟨dx, g, us, k _ _ h1 (tb_no rfl), ext_tup k h2, dps_ext k _ _ h3⟩
  exact ⟨⟨dx, t, e _ _ h1 (tb_no rfl), h2.ext k⟩, rul, ⟨hs, ext_lst e h4, h5.map fun _ _ a => a.ext k⟩⟩
/-- a change of a log leaves the tables of code objects -/
theorem LgAt.tabs {Ts : List (Addr × Str)} (L : LgAt K C CR CT lm H x r q w rs rows ps) (t : Tabs Ts H) (k : Kp [x, q] H H') : Tabs Ts H' := fun p hp => by
  obtain ⟨qs, h1, h2, h3⟩ := t p hp
  refine ⟨qs, k _ _ h1 (L.out h1 (fun _ _ _ z => by cases z) (fun _ z => by cases z)), h2, fun pos cv hc => ?_⟩
  obtain ⟨c, e1, e2⟩ := h3 pos cv hc
  exact ⟨c, e1, k _ _ e2 (L.out e2 (fun _ _ _ z => by unfold CodeO at z; cases z) (fun _ z => by unfold CodeO at z; cases z))⟩
/-- the script, the source and the tables of code objects, beside a log -/
theorem LgAt.w3 {Ts : List (Addr × Str)} {a p : Addr} {ns : List Int} (L : LgAt K C CR CT lm H x r q w rs rows ps) (W : W3 K Ts H a p ns) (qp : q ≠ p) (qa : SqL K (wos (wo H p) [x, q]) a (ns.map V.int)) (k : Kp [x, q] H H') : W3 K Ts H' a p ns := by
  obtain ⟨o, s1, s2⟩ := W.src
  have xp : x ≠ p := by
    obtain ⟨dx, t, hx, _⟩ := L.at_
    obtain ⟨z1, z2, z3, rfl, _⟩ := s2
    exact ne_of hx s1 (by intro z; cases z)
  refine ⟨same_l (fun b u e => ?_) qa, ⟨o, k _ _ s1 (by simp [xp.symm, qp.symm]), s2⟩, L.tabs W.tab k⟩
  obtain ⟨n1, e⟩ := wos_at e
  have bp : b ≠ p := fun z => by rw [z, wo_at] at e; cases e
  rw [wo_ne bp] at e ⊢
  exact k _ _ e n1
end
/-- which exception check raises, if any: by the limit, the width, the rules and the rows -/
abbrev CkM := Option Nat → Nat → List R → List (List Nat) → Option Addr
/-- the log at x has changed -/
def LgTo (K : PySem.W.Frag) (C CR CT : Addr) (lm : Option Nat) (H : Hp) (x r q : Addr) (w : Nat) (rs : List R) (rows : List (List Nat)) (ps : List (List (List Nat))) (Q : VK) : Prop := ∀ H', Kp [x, q] H H' → LgAt K C CR CT lm H' x r q w rs rows ps → Q .non H'
/-- what change leaves, where the table may have been there before -/
theorem changedM {K : PySem.W.Frag} {C CR CT : Addr} {lm : Option Nat} {H H2 : Hp} {x r q dx t t' : Addr} {w : Nat} {rs : List R} {rows rows' : List (List Nat)} {ps : List (List (List Nat))} {hs : List V} {Q : VK} (L : LgAt K C CR CT lm H x r q w rs rows ps) (s02 : Same H H2) (hx : H x = some (.ins C dx (fldM lm r t q))) (hq : H q = some (.lst hs)) (tt : TableAt K CT H2 t' w rows') (to : LgTo K C CR CT lm H x r q w rs rows' (ps ++ [rows]) Q) : Q .non (upd (upd H2 q (.lst (hs ++ [.ref t]))) x (.ins C dx (fldM lm r t' q))) := by
  have xq := L.ne
  have L2 := L.keep s02
  have key : Same (wos H2 [x, q]) (wos (upd (upd H2 q (.lst (hs ++ [.ref t]))) x (.ins C dx (fldM lm r t' q))) [x, q]) := fun b o e => by
    obtain ⟨n1, e⟩ := wos_at e
    have bx : b ≠ x := fun z => n1 (by simp [z])
    have bq : b ≠ q := fun z => n1 (by simp [z])
    rw [wos_in n1, upd_ne bx, upd_ne bq]
    exact e
  obtain ⟨dx0, t0, hx0, tt0⟩ := L2.at_
  obtain ⟨hs0, hq0, ht0⟩ := L2.past
  have e1 := s02 _ _ hx
  have e2 := s02 _ _ hq
  rw [e2] at hq0
  cases hq0
  have et : t0 = t := by
    rw [e1] at hx0
    have z := congrArg (fun o => match o with | some (HO.ins _ _ fs) => fs.lookup ("held" : Str) | _ => none) hx0
    simp only [fldM_h] at z
    cases z
    rfl
  subst et
  refine to _ (fun b o e n1 => ?_) ⟨⟨dx, t', upd_same, (L2.tab tt).same key⟩, L2.book.same key, hs ++ [.ref t0], ?_, (ht0.snoc tt0).same key⟩
  · have bx : b ≠ x := fun z => n1 (by simp [z])
    have bq : b ≠ q := fun z => n1 (by simp [z])
    rw [upd_ne bx, upd_ne bq]
    exact s02 _ _ e
  · rw [upd_ne xq.symm]
    exact upd_same
/-- a class of logs -/
structure TxtM (K : PySem.W.Frag) (C : Addr) : Prop where
  cl : Cls K C
  nB : NoAttr K C "book"
  nH : NoAttr K C "held"
  nP : NoAttr K C "past"
  nL : NoAttr K C "limit"
theorem TxtM.c {K : PySem.W.Frag} {C : Addr} (h : TxtM K C) : TxtC K C := ⟨h.cl, h.nB, h.nH, h.nP⟩
end CC
namespace CC
open PySem L2 TL
def lbOf (kd : Nat) : Bool := decide (2 ≤ kd)
def lmOf (kd cap : Nat) : Option Nat := if 2 ≤ kd then some cap else none
theorem lmOf_lb (kd cap : Nat) : (lmOf kd cap).isSome = lbOf kd := by
  unfold lmOf lbOf
  split
  · rename_i h
    rw [decide_eq_true h]
    rfl
  · rename_i h
    rw [decide_eq_false h]
    rfl
theorem pe_ex {X : Cx} {ι : Sort _} {e : Expr} {t : ι → TE} (h : ∀ i, PE X e (t i)) : PE X e (fun σ H Q => ∃ i, t i σ H Q) :=
  ⟨fun pins s σ H Q I ⟨i, q⟩ => (h i).run pins s σ H Q I q⟩
end CC
namespace CC
open PySem L2 TL
noncomputable def holdsB (rows : List (List Nat)) (r : R) : Bool := @decide (HoldsR rows r) (Classical.propDecidable _)
theorem holdsB_iff {rows : List (List Nat)} {r : R} : holdsB rows r = true ↔ HoldsR rows r := @decide_eq_true_iff _ (Classical.propDecidable _)
theorem holdsB_of {rows : List (List Nat)} {r : R} {t : Bool} (h : t = true ↔ HoldsR rows r) : holdsB rows r = t := by
  rw [Bool.eq_iff_iff, holdsB_iff]
  exact h.symm
/-- the rules that do not hold -/
noncomputable def brkL (rows : List (List Nat)) (rs : List R) : List R := rs.filter fun r => !holdsB rows r
theorem brkL_len (rows : List (List Nat)) (rs : List R) : (brkL rows rs).length ≤ rs.length := List.length_filter_le _ _
theorem holds_nil (r : R) : HoldsR [] r := by
  obtain ⟨k, a, b⟩ := r
  cases k with
  | false => exact fun x hx => nomatch hx
  | true => exact fun x hx => nomatch hx
theorem brkL_nil (rs : List R) : brkL [] rs = [] := List.filter_eq_nil_iff.mpr fun r _ => by
  rw [holdsB_iff.mpr (holds_nil r)]
  decide
def spBrk (K : PySem.W.Frag) (CR : Addr) : Sp := fun vs H Q _ => ∃ (r g : Addr) (us : List V) (m : Nat) (rs : List R) (rows : List (List Nat)), vs = [.ref r, .ref g] ∧ RulesAt K CR H r m rs ∧ SqT K H g us ∧ DpAll K H us (rows.map gd) ∧ (∀ x ∈ rows, RowOk m x) ∧ rows.length ≤ 15 ∧ (∀ r ∈ rs, r.ok m) ∧ rs.length ≤ 60 ∧ NewF R.d K H (brkL rows rs) Q
section
variable {P : Program} {w : World} {K : PySem.W.Frag} {mg : Str → Option Value} {base : Heap} {kA : Addr}
abbrev nBrk : List Str := ["rules", "rows", "rule"]
theorem scBrk : FnScope nBrk ["rules", "rows"] (defScope sBrk) := ⟨rfl, rfl, rfl, by decide +kernel, rfl, by decide +kernel, by decide +kernel⟩
theorem ok_brk {f CR : Addr} {fd : FuncData} {k : Nat} (F : Fun K "rules_broken" "rules_broken" sBrk f fd) (TC : Txt1 K mg CR) (pR : Prp P w K mg base CR "rules" "given") (cH : Cal P w K mg base "holds" ["rows", "rule"] (spHo K) 1) : FnOk P w K mg base CX0 (k + 3) f fd ["rules", "rows"] (spBrk K CR) := by
  have GH := cH.ok (k + 2) (by omega)
  refine F.ok scBrk (fun vs H Q E h => ?_) (fun cdv A outer s H vs Q E hr h => ?_)
  · obtain ⟨r, g, us, m, rs, rows, rfl, _⟩ := h
    rfl
  · obtain ⟨x, g, us, m, rs, rows, rfl, ⟨dx, gg, ur, h1, h2, h3⟩, hg, dp, ok, few, rok, r60, q⟩ := h
    have n := scBrk.nd
    refine ⟨_, (pss_one (ps_ret (pe_lc (own := [("rule", 2)]) (g := gName 2) (tt := tNot (tB (tCall (spHo K) [] E0 (tCons (tVar 1) (tCons (tVar 2) tNil))))) rfl n (pi_tup (pe_prop (pv 0) TC.cl pR.hp (pR.ok (k + 1) (by omega)) hr pR.b .nil pass0 rfl)) (blkOk_by (N := nBrk) (sc := defScope sBrk) (by decide +kernel))
      (fun _ _ _ _ _ => (pg_name (i := 2) n rfl (.inl rfl))) (fun _ _ _ _ _ => pts_one (pt_not (pt_val (pe_call GH hr rfl cH.g cH.kp cH.b .nil pass0 (pa_cons (pv 1) (pa_cons (pv 2) pa_nil)))))) (fun _ _ _ _ _ => (pv 2))))), ?_⟩
    have ul : ur.length = rs.length := by rw [dps_len h3, List.length_map]
    refine ⟨_, rfl, x, dx, _, rfl, h1, x, dx, _, _, rfl, h1, flds_given _ _, gg, rfl, ⟨_, .inl (.inl h2)⟩, fun D nD => ?_⟩
    refine lc_tup (xs := ur) (fun i H1 => MadeF R.d K H D i H1 (brkL rows (rs.take i))) MadeF.start (fun i H1 _ z => .inl (.inl (z.old nD _ _ h2))) ?_ ?_
    · rintro i v H1 hv mo
      obtain ⟨r, hr2, dr⟩ := dps_rat h3 hv
      have il : i < rs.length := (List.getElem?_eq_some_iff.mp hr2).1
      have o := mo.old nD
      refine ⟨rfl, _, rfl, _, rfl, g, us, m, rows, v, r, rfl, same_t o hg, dps_same o _ _ dp, ok, few, dp_same o _ _ dr, rok r (List.mem_of_getElem? hr2), fun t H2 s2 ht => ⟨_, rfl, ?_⟩⟩
      obtain ⟨uo, _, hDo, _⟩ := id mo
      have e : brkL rows (rs.take (i + 1)) = brkL rows (rs.take i) ++ [r].filter fun r => !holdsB rows r := by
        unfold brkL
        rw [SG.take_one hr2, List.filter_append]
      rw [e]
      have hb := holdsB_of ht
      cases t with
      | true =>
        rw [List.filter_cons_of_neg (by rw [hb]; decide), List.filter_nil, List.append_nil]
        exact iteF (mo.keep s2 (by omega) rfl)
      | false =>
        rw [List.filter_cons_of_pos (by rw [hb]; rfl), List.filter_nil]
        refine iteT ⟨_, rfl, ?_⟩
        exact mo.push (r := r) (m := i + 1) (by omega) (Nat.lt_succ_self _) s2 (rd_T (((same_T o).trans (same_T s2)).trans (wo_T (s2 _ _ hDo))) dr)
    rintro H1 mo
    rw [ul, List.take_length] at mo
    exact mo.out nD (Same.refl _) q
end
end CC
/-! ### an own ==, the != that goes by it, len, + of anything -/
namespace OC
open PySem PySem.Spec PyProof.Rows L2
section
open PySem.W
variable {prog : Program} {w : World} {A : Around} {E : Value → Shared → Prop} {s : Shared} {K : PySem.W.Frag} {x C f L : Addr} {h₀ : Heap} {m : Str → Option Value} {ox : Obj} {od : Obj} {b : Value}
theorem ifBound_b {M : Model} {name : Str} {id : String} {args : List Value} {Q : Option Value → Shared → Prop} (X : K.In s.heap) (I : InstAt s.heap x ox C od) (hs : findIn K (.ref C) name = some (some (.builtin id))) (hb : ∀ self, bindSpecial (.builtin id) self = pure (.builtin id, [self]))
    (h : wpAny M A (call (.builtin id) (.ref x :: args)) (fun v => Q (some v)) E s) : wpAny M A (callSpecialIfBound? (.ref x) name args) Q E s := by
  simp only [callSpecialIfBound?, bindSpecialIfBound?]
  refine wpAny_holding (wpAny_bind (wpAny_bind (wpAny_bind (I.type.here ((looks_findIn X hs).here ?_)))))
  refine wpAny_bind (wpAny_askSetting (wpAny_ite ?_))
  have fin : wpAny M A (call (.builtin id) ([.ref x] ++ args) >>= fun v => pure (some v)) Q E s := wpAny_bind (wpAny_mono h (fun v s' h' => wpAny_pure h') fun _ _ h' => h')
  split
  · exact wpAny_bind ((Looks.of_pure (hb _)).here (wpAny_pure (by exact fin)))
  · exact wpAny_tryCatch (wpAny_bind ((Looks.of_pure (hb _)).here (wpAny_pure (by exact fin))))
open Builtin in
theorem call_ne {Q : Value → Shared → Prop} (hu : A.in1.units < cLine) (X : K.In s.heap) (I : InstAt s.heap x ox C od) (hm : mroIn K C (.type "object") = some true) (hr : findIn K (.ref C) "__eq__" = some (some (.ref f))) (hf : isFn K (.ref f) = true)
    (h : wpAny (model prog w) A.in1 (call (.ref f) [.ref x, b]) (PySem.W.BoolBack fun r s' => Q (.bool (!r)) s') E s) : wpAny (model prog w) A (call (.builtin "object.__ne__") [.ref x, b]) Q E s := by
  refine wpAny_call (codeAny_call_builtin PySem.F.slot_object_ne.plain PySem.F.entry_object_ne (check_slot (i := "object.__ne__") (owner := "object") (n := "__ne__") (by decide +kernel) (by decide +kernel) (I.type.andThen (looks_mroIn X hm)) (PySem.F.args_object_ne_2 _ _) ?_))
  unfold Builtin.«object.__ne__»
  refine wpAny_bind (m := slotArgs "__ne__" 1 _) (wpAny_pure ?_)
  refine wpAny_bind (m := cRoomFor _ _) (wpAny_cRoomFor hu ?_)
  refine wpAny_bind (m := callSpecialIfBound? (.ref x) (Str.ofString "__eq__") _) (ifBound_K X I hr hf (wpAny_mono h (fun r s' hq => ?_) fun _ _ y => y))
  cases r <;> first | exact hq.elim | skip
  exact wpAny_bind (m := truthy (.bool _)) (wpAny_truthy_bool (wpAny_pure hq))
theorem ne_K {Q : Value → Shared → Prop} (hu : A.units + 1 < cLine) (F : Fr h₀ L s.heap m) (X₀ : K.In h₀) (I : InstAt s.heap x ox C od) (hb : Looks (model prog w) s.heap (typeOf b) (.ref C)) (hr : findIn K (.ref C) "__eq__" = some (some (.ref f))) (hf : isFn K (.ref f) = true)
    (hn : findIn K (.ref C) "__ne__" = some (some (.builtin "object.__ne__"))) (hm : mroIn K C (.type "object") = some true)
    (h : wpAny (model prog w) A.in1 (call (.ref f) [.ref x, b]) (PySem.W.BoolBack fun r s' => Q (.bool (!r)) s') E s) : wpAny (model prog w) A (richCompare .NotEq (.ref x) b) Q E s := by
  have X := X₀.keeps F.keep
  have one : wpAny (model prog w) A (tryCompare (.ref x) (cmpInfo .NotEq).2.1 b) (fun r s' => ∃ v, r = some v ∧ Q v s') E s := by
    unfold tryCompare
    refine wpAny_bind (ifBound_b X I hn PySem.F.slot_object_ne.bind (call_ne hu X I hm hr hf (wpAny_mono h (fun v s' hv => ?_) fun _ _ e => e)))
    cases v <;> first | exact hv.elim | exact wpAny_pure ⟨_, rfl, hv⟩
  unfold richCompare
  simp only [oneThing_ref]
  refine wpAny_holding (wpAny_bind (wpAny_cRoomFor (Nat.lt_of_succ_lt hu) ?_))
  refine wpAny_bind (I.type.here (wpAny_bind (hb.here ?_)))
  rw [show (Value.ref C != Value.ref C) = false from by simp]
  simp only [Bool.false_eq_true, if_false]
  refine wpAny_bind (wpAny_pure ?_)
  simp only [Bool.false_eq_true, if_false]
  refine wpAny_bind (wpAny_mono one (fun r s' z => ?_) fun _ _ e => e)
  obtain ⟨v, rfl, hq⟩ := z
  exact wpAny_pure hq
end
section
variable {X : Cx} {CX : CXT} {k : Nat} {f C : Addr} {sp : Sp} {E : XK}
/-- x != y by the own __eq__ -/
def rOwnN (C : Addr) (sp : Sp) (E : XK) : R2 := fun x y H Q => ∃ a dx fs b dy gs, x = .ref a ∧ y = .ref b ∧ H a = some (.ins C dx fs) ∧ H b = some (.ins C dy gs) ∧ sp [x, y] H (fun v H' => ∃ c, v = .bl c ∧ Q (.bl (!c)) H') E
theorem op_neO {g : Addr} (hs : PySem.W.findIn X.K (.ref C) "__eq__" = some (some (.ref g))) (hf : PySem.W.isFn X.K (.ref g) = true) (hn : PySem.W.findIn X.K (.ref C) "__ne__" = some (some (.builtin "object.__ne__"))) (hm : PySem.W.mroIn X.K C (.type "object") = some true)
    (F : FnR X.prog X.w X.K X.mg X.base CX k g sp) (hr : Room (k + 1) X.A) (hx : Passes CX X E) : OpR X (compareOp .NotEq) (rOwnN C sp E) := by
  intro pins s σ H x y v u Q I rx ry h
  obtain ⟨a, dx, fs, b, dy, gs, rfl, rfl, ha, hb, q⟩ := h
  cases (show v = Value.ref a from rx)
  cases (show u = Value.ref b from ry)
  obtain ⟨mA, J, _⟩ := ins_get I.hok ha
  obtain ⟨mB, J', _⟩ := ins_get I.hok hb
  obtain ⟨od, J, _⟩ := J.look
  obtain ⟨od', J', _⟩ := J'.look
  obtain ⟨m, hF⟩ := I.fr
  refine ne_K (by have := hr.un; omega) hF I.ok.mod.kin J J'.type hs hf hn hm ?_
  refine wpAny_mono (wpAny_call (SlX.run_at (us := [.ref a, .ref b]) (ws := [.ref a, .ref b]) F hr.in1 I.env0.in1 hx I (.cons rfl (.cons rfl .nil)) q)) (fun w s' z => ?_) fun _ _ x => x
  obtain ⟨z', H', I', rz, c, rfl, qz⟩ := z
  cases rz
  exact ⟨.bl (!c), H', I', rfl, qz⟩
end
end OC
/-! ### an own + of anything; it may raise -/
namespace OC
open PySem PySem.Spec PyProof.Rows L2
def oddTys : List String := ["NoneType", "bool", "int", "str", "tuple", "list", "dict"]
section
open PySem.W
variable {prog : Program} {w : World} {A : Around} {E : Value → Shared → Prop} {s : Shared} {K : PySem.W.Frag} {x C f L : Addr} {h₀ : Heap} {m : Str → Option Value} {ox : Obj} {od : Obj} {b : Value} {n : String}
end
section
variable {X : Cx} {CX : CXT} {k : Nat} {f C : Addr} {sp : Sp} {E : L2.St → XK} {a b : Expr} {ta tb : TE} {pos : Pos}
def OddV (K : PySem.W.Frag) (H : Hp) (y : V) : Prop := ∃ n, TyX K H y (.type n) ∧ n ∈ oddTys
end
end OC
/-! a method whose first statement is super().m(..) -/
namespace SUP
open PySem PySem.Spec PySem.Calls PySem.W PyProof.Rows L2
/-- the names of such a method -/
structure SupS (N ps : List Str) (sc : Scope) : Prop where
  kind : sc.kind = .function
  co : sc.isCoroutine = false
  gen : sc.isGenerator = false
  nd : N.Nodup
  pre : N.take ps.length = ps
  par : ∀ x ∈ ps, sc.names.lookup x = some .local
  noc : ∀ y ∈ sc.names, y.2 ≠ .cell
  fr : ∀ y ∈ sc.names, y.2 = .free → y.1 = "__class__"
  hks : sc.names.lookup ("super" : Str) = some .globalImplicit
  hkc : sc.names.lookup ("__class__" : Str) = some .free
def cxSup (P : Program) (w : World) (K : PySem.W.Frag) (mg : Str → Option Value) (base : Heap) (N : List Str) (qual : Str) (scope : Scope) (f : Addr) (cd : Value) (cc : Addr) (A : Around) (outer : List Env) (s : Shared) (H : Hp) (E : XK) : Cx where
  prog := P
  w := w
  K := K
  mg := mg
  base := base
  A := A.deeper (ksEnv qual scope s.heap.objs.size f cd cc)
  N := N
  s_0 := s
  H_0 := H
  env := ksEnv qual scope s.heap.objs.size f cd cc
  outer := outer
  stack := ksEnv qual scope s.heap.objs.size f cd cc :: outer
  ex := []
  calm := true
  fn := fun _ => false
  pn := []
  xe := fun e s' => wpAny (model P w) (A.deeper (ksEnv qual scope s.heap.objs.size f cd cc)) (leaving (ksEnv qual scope s.heap.objs.size f cd cc) e) (fun _ s'' => L2.CX P w outer H s E e s'') (fun e' s'' => L2.CX P w outer H s E e' s'') s'
section
variable {P : Program} {w : World} {K : PySem.W.Frag} {mg : Str → Option Value} {base : Heap} {N ps : List Str} {qual : Str} {scope : Scope} {f cc D : Addr} {cd : Value} {A : Around} {outer : List Env} {s : Shared} {H : Hp} {E : XK} {us : List Value} {vs : List V}
theorem look_mem {y : Str} {u : Value} : ∀ {l : List (Str × Value)}, (l.map (·.1)).Nodup → (y, u) ∈ l → l.lookup y = some u
  | [], _, h => nomatch h
  | (z, v) :: l, nd, h => by
    rw [List.map_cons, List.nodup_cons] at nd
    rw [List.lookup_cons]
    rcases List.mem_cons.mp h with e | h2
    · cases e
      rw [show (y == y) = true from beq_self_eq_true y]
    · have ne : (y == z) = false := by
        rw [beq_eq_false_iff_ne]
        rintro rfl
        exact nd.1 (List.mem_map.mpr ⟨_, h2, rfl⟩)
      rw [ne]
      exact look_mem nd.2 h2
theorem cls_cell {x : Str} {c : Addr} (h : (ksEnv qual scope s.heap.objs.size f cd cc).cells.lookup x = some c) : x = "__class__" ∧ c = cc := by
  have h : ([(("__class__" : Str), cc)] : List (Str × Addr)).lookup x = some c := h
  rw [List.lookup_cons] at h
  split at h
  · rename_i e
    exact ⟨beq_iff_eq.mp e, (Option.some.inj h).symm⟩
  · cases h
theorem inv_sup {h₁ : Heap} {t' : Nat} {cl : Value} {cld : Option Addr} {csl : Array (Option Value)} (S : SupS N ps scope) (hd : A.handled = none) (e0 : Env0 P w K mg base A outer s H) (hl : vs.length = ps.length) (r : Vals vs us)
    (hcell : K.lookup cc = some ⟨cl, cld, .cell (some (.ref D)), csl⟩) (hns : h₁.Ns s.heap.objs.size (fun x => (ps.zip us).reverse.lookup x)) (kp : ∀ b o, s.heap.get? b = some o → h₁.get? b = some o) :
    Inv (cxSup P w K mg base N qual scope f cd cc A outer s H E) [] (L2.start N vs) H { s with heap := h₁, toks := t' } := by
  have hpl : ps.length ≤ N.length := by
    have := congrArg List.length S.pre
    rw [List.length_take] at this
    omega
  have hb : base.get? cc = some ⟨cl, cld, .cell (some (.ref D)), csl⟩ := e0.mod.kin _ _ hcell
  have noA : ∀ b : Addr, b ∉ (cxSup P w K mg base N qual scope f cd cc A outer s H E).ex := fun b z => absurd (show b ∈ ([] : List Addr) from z) (by simp)
  refine ⟨⟨e0.mod, S.kind, rfl, rfl, Nat.le_refl _, fun y z c h1 h2 => by rw [(cls_cell h1).1, (cls_cell h2).1], fun y hy => ?_, fun y c z _ => (by cases (show false = true from z)), fun _ => hd, Around.frames_deeper e0.frames, .inr ⟨rfl, rfl⟩, fun b z => absurd z (noA b), e0.bs, e0.bsz, fun b _ _ => noA b, fun b z => absurd z (noA b), e0.funs, e0.frf⟩,
    rfl, e0.bare, Un.kept kp, ⟨_, hns, fun i y v h1 h2 h3 => ?_⟩, fun y c h => ?_, e0.hok.fresh (Nat.le_refl _), fun y c h => ?_, fun p hp => absurd (show p ∈ ([] : List (Addr × Obj)) from hp) (by simp), e0.hok.kept kp, ?_⟩
  · have hy : scope.names.lookup y = some .cell ∨ scope.names.lookup y = some .free := hy
    rcases hy with hy | hy
    · exact absurd rfl (S.noc _ (PySem.mem_of_lookup hy))
    · have := S.fr _ (PySem.mem_of_lookup hy) rfl
      refine ⟨cc, ?_⟩
      show ([(("__class__" : Str), cc)] : List (Str × Addr)).lookup y = some cc
      rw [show y = "__class__" from this, List.lookup_cons_self]
  · have hi : i < vs.length := by
      unfold L2.start at h2
      by_cases hi : i < vs.length
      · exact hi
      · rw [List.getElem?_append_right (by simpa using hi)] at h2
        rw [List.getElem?_replicate] at h2
        split at h2 <;> cases h2
    have ha : vs[i]? = some v := by
      unfold L2.start at h2
      rw [List.getElem?_append_left (by simpa using hi), List.getElem?_map] at h2
      cases e : vs[i]? with
      | none => rw [e] at h2; cases h2
      | some a => rw [e] at h2; cases h2; rfl
    obtain ⟨u, hu, rv⟩ := r.get ha
    have hp : ps[i]? = some y := by
      rw [← S.pre, List.getElem?_take_of_lt (by omega)]; exact h1
    have ndP : ps.Nodup := by rw [← S.pre]; exact S.nd.sublist (List.take_sublist _ _)
    refine ⟨u, rv, .inl ⟨S.par y (List.mem_of_getElem? hp), ?_⟩⟩
    refine look_mem ?_ ?_
    · rw [List.map_reverse, List.map_fst_zip (by rw [← r.length]; omega)]
      exact (List.reverse_perm ps).nodup_iff.mpr ndP
    · rw [List.mem_reverse]
      exact List.mem_of_getElem? (List.getElem?_zip_eq_some.mpr ⟨hp, hu⟩)
  · rw [(cls_cell h).2]
    exact ⟨_, ⟨_, kp _ _ (e0.bs _ _ hb).1, rfl⟩⟩
  · rw [(cls_cell h).2]
    exact (e0.bs _ _ hb).2
  · show (L2.start N vs).length = N.length
    unfold L2.start
    rw [List.length_append, List.length_map, List.length_replicate]
    omega
/-- what the text tells of such a method: the class where it stands, its file -/
structure SupK (P : Program) (K : PySem.W.Frag) (cda cc D : Addr) : Prop where
  code : ∃ (ccl : Value) (cdd : Option Addr) (vs : Array Value) (ccs : Array (Option Value)) (file : Str) (tf : Tok), K.lookup cda = some ⟨ccl, cdd, .fields vs, ccs⟩ ∧ vs[2]? = some (.str file tf) ∧ ((P.main.file : Str) == file) = true
  cell : ∃ (cl : Value) (cld : Option Addr) (csl : Array (Option Value)), K.lookup cc = some ⟨cl, cld, .cell (some (.ref D)), csl⟩
  cls : ∃ cdD, clsIn K D = some cdD
  top : (P.main.scope.names.lookup ("super" : Str)).isSome = false
  opq : nsIn K cStatics "thirdparty.any" = some none
/-- the method that super() finds for an instance of the class at C -/
structure SupM (K : PySem.W.Frag) (C D : Addr) (attr : Str) (f2 : Addr) : Prop where
  sub : mroIn K C (.ref D) = some true
  at_ : ks_superIn K C D attr = some (some (.ref f2))
  ty : typeIn K (.ref f2) = some (.type "function")
  fn : fnIn K f2 = true
/-- super().attr(e, ..) as the first statement of a method, run in its own context -/
theorem run_super {x C dx f2 cda : Addr} {fs : List (Str × V)} {ar : Arg} {fd : FuncData} {oc : Value} {od : Option Addr} {osl : Array (Option Value)} {body rest : List Stmt} {p0 p1 p2 p3 p4 : Pos} {attr : Str} {e : Expr} {es : List Expr} {ta : TA} {tr : TS} {k : Nat} {sp2 : Sp} {s1 : Shared} {σ : L2.St} {H1 : Hp} {R : Ends} {pl : Sem Bool}
    (SK : SupK P K cda cc D) (S : SupS N ps scope) (hsuper : mg "super" = none) (lk : K.lookup f = some ⟨oc, od, .func fd, osl⟩) (hp : (fd.params.posonlyargs ++ fd.params.args).head? = some ar) (h0 : N[0]? = some ar.arg) (hka : scope.names.lookup ar.arg = some .local)
    (J : Inv (cxSup P w K mg base N qual scope f (.ref cda) cc A outer s H E) [] σ H1 s1) (hv : σ[0]? = some (some (.ref x))) (hx : H1 x = some (.ins C dx fs)) (SM : SupM K C D attr f2) (hat : (attr == ("__class__" : Str)) = false)
    (F2 : FnR P w K mg base (L2.CX P w) k f2 sp2) (hr : Room k (A.deeper (ksEnv qual scope s.heap.objs.size f (.ref cda) cc)))
    (hpa : PA (cxSup P w K mg base N qual scope f (.ref cda) cc A outer s H E) (e :: es) ta) (hps : PSs (cxSup P w K mg base N qual scope f (.ref cda) cc A outer s H E) rest tr)
    (go : ta σ H1 (fun xs H2 => sp2 (.ref x :: xs) H2 (fun _ H3 => tr R σ H3) E))
    (hev : eval (.Call (.Attribute (.Call (.Name "super" p0) [] [] p1) attr p2) (e :: es) [] p3) (ksEnv qual scope s.heap.objs.size f (.ref cda) cc) = (do
      let ov ← attributeBase (.Call (.Name "super" p0) [] [] p1) attr (ksEnv qual scope s.heap.objs.size f (.ref cda) cc) (eval (.Call (.Name "super" p0) [] [] p1) (ksEnv qual scope s.heap.objs.size f (.ref cda) cc))
      standAt p2.atName
      let (q, first) ← holding [ov] (getMethod ov attr pl)
      callWith p3 q first (backTo p3 (starEach (e :: es) (ksEnv qual scope s.heap.objs.size f (.ref cda) cc))) []) := by rfl)
    (hint : interactive (ksEnv qual scope s.heap.objs.size f (.ref cda) cc) = false := by rfl)
    (hsw : swapsWith (.Call (.Attribute (.Call (.Name "super" p0) [] [] p1) attr p2) (e :: es) [] p3) none p4.line (ksEnv qual scope s.heap.objs.size f (.ref cda) cc) = pure false := by rfl)
    (hst : starEach (e :: es) (ksEnv qual scope s.heap.objs.size f (.ref cda) cc) = (false, eval e (ksEnv qual scope s.heap.objs.size f (.ref cda) cc)) :: starEach es (ksEnv qual scope s.heap.objs.size f (.ref cda) cc) := by rfl)
    (hpl : (backTo p3 (starEach es (ksEnv qual scope s.heap.objs.size f (.ref cda) cc))).any (·.1) = false := by rfl) :
    _root_.PySem.wpAt (model P w) (A.deeper (ksEnv qual scope s.heap.objs.size f (.ref cda) cc)) (.func body (ksEnv qual scope s.heap.objs.size f (.ref cda) cc)) (execs (.Expr (.Call (.Attribute (.Call (.Name "super" p0) [] [] p1) attr p2) (e :: es) [] p3) p4 :: rest) (ksEnv qual scope s.heap.objs.size f (.ref cda) cc))
      (SP (cxSup P w K mg base N qual scope f (.ref cda) cc A outer s H E) [] R) (cxSup P w K mg base N qual scope f (.ref cda) cc A outer s H E).xe s1 := by
  obtain ⟨⟨ccl, cdd, vsC, ccs, file, tf, hcode, hvs, hfile⟩, ⟨cl, cld, csl, hcell⟩, ⟨cdD, hD⟩, htop, ho⟩ := SK
  refine ks_wpAt_execs_cons (ks_wpAt_Expr_any (ks_wpAt_MethodCall ?_ hev) hint hsw)
  have X1 : K.In s1.heap := J.kIn
  have hD' : ∃ oD, s1.heap.get? D = some oD ∧ oD.data = .cls cdD := by
    unfold clsIn at hD
    split at hD
    · rename_i c d cd' sl ho
      cases hD
      exact ⟨_, X1 _ _ ho, rfl⟩
    · cases hD
  obtain ⟨oD, hD1, hD2⟩ := hD'
  obtain ⟨mA, JI, _⟩ := ins_get J.hok hx
  obtain ⟨odx, JI, _⟩ := JI.look
  refine ks_wpAt_super_base (env := ksEnv qual scope s.heap.objs.size f (.ref cda) cc) S.hks S.hkc hat rfl (X1 _ _ lk) rfl hp rfl (X1 _ _ hcode) rfl hvs hfile htop ?_
  obtain ⟨mb, hb1, hb2⟩ := J.mod.blt
  refine ks_loadName_global S.kind S.hks (loadGlobal_builtin (env := ksEnv qual scope s.heap.objs.size f (.ref cda) cc) (J.mod.glob.keeps J.bk) hsuper (hb1.keeps J.bk) ((hb2 _ (by decide +kernel)).trans (show bootBuiltins "super" = some (.type "super") by decide +kernel)) ⟨rfl, ?_⟩)
  refine wpAny_loadName_free S.kind S.hkc rfl ⟨_, X1 _ _ hcell, rfl⟩ ?_
  obtain ⟨m, hns, hloc⟩ := J.loc
  obtain ⟨u, ru, hu⟩ := hloc 0 ar.arg _ h0 hv (.inl hka)
  cases (show u = Value.ref x from ru)
  have hm : m ar.arg = some (.ref x) := by
    rcases hu with ⟨_, z⟩ | ⟨z, _⟩
    · exact z
    · have z : scope.names.lookup ar.arg = some .cell ∨ scope.names.lookup ar.arg = some .free := z
      rw [hka] at z
      rcases z with z | z <;> cases z
  refine wpAny_loadName_local S.kind hka hns hm ?_
  refine ks_wpAny_isType_cls hD1 hD2 ⟨rfl, ?_⟩
  refine ks_wpAny_call_super hD1 hD2 JI.at_ JI.cls (fun c eh => ?_) (looks_mroIn X1 SM.sub) (fun h' eh kp => ?_)
  · have := JI.no
    unfold notCls at this
    rw [eh] at this
    exact Bool.noConfusion this
  have J2 : Inv (cxSup P w K mg base N qual scope f (.ref cda) cc A outer s H E) [] σ H1 { s1 with heap := h' } := J.kept (t' := s1.toks) kp
  have X2 : K.In h' := J2.kIn
  obtain ⟨mA2, JJ, _⟩ := ins_get J2.hok hx
  obtain ⟨odx2, JJ, _⟩ := JJ.look
  obtain ⟨of, hof, hofc⟩ : ∃ of, h'.get? f2 = some of ∧ of.cls = .type "function" := by
    have ht' : (K.lookup f2).map (·.cls) = some (.type "function") := SM.ty
    cases z : K.lookup f2 with
    | none => rw [z] at ht'; cases ht'
    | some of => rw [z] at ht'; exact ⟨of, X2 _ _ z, Option.some.inj ht'⟩
  have hm2 := SM.at_
  cases hc : clsIn K C with
  | none => unfold ks_superIn at hm2; rw [hc] at hm2; cases hm2
  | some cdC =>
    unfold ks_superIn at hm2
    rw [hc] at hm2
    refine ks_wpAny_getMethod_super eh (looks_opaque X2 ho) (l₀ := cdC.mro) (fun A Q E s k q => wpAny_bind ((looks_clsIn X2 hc) A _ E s k (wpAny_pure q))) rfl X2 hm2 hof hofc (ks_ne X2 JJ hc) hat ?_
    have J3 : Inv (cxSup P w K mg base N qual scope f (.ref cda) cc A outer s H E) [] σ H1 ⟨h'.push { cls := .type "method", data := .fields #[.ref f2, .ref x] }, s1.gens, s1.drawn, s1.toks + 1, s1.os⟩ := J2.kept (t' := s1.toks + 1) fun b o q => Heap.get?_push_of_some _ q
    have hq : (h'.push { cls := .type "method", data := .fields #[.ref f2, .ref x] }).get? h'.objs.size = some (methodObj (.ref f2) (.ref x)) := Heap.get?_push_at rfl rfl
    have hlt : s.heap.objs.size < h'.objs.size := J2.lt
    have pinQ : ∀ p ∈ (cxSup P w K mg base N qual scope f (.ref cda) cc A outer s H E).pn ++ [(h'.objs.size, methodObj (.ref f2) (.ref x))], (h'.push { cls := .type "method", data := .fields #[.ref f2, .ref x] }).get? p.1 = some p.2 ∧ H1 p.1 = none ∧ p.1 ≠ (cxSup P w K mg base N qual scope f (.ref cda) cc A outer s H E).env.locals ∧ p.1 ∉ (cxSup P w K mg base N qual scope f (.ref cda) cc A outer s H E).fs ∧ ∀ v, p.2.data ≠ .cell v := by
      intro p hp
      have hp : p ∈ ([] : List (Addr × Obj)) ++ [(h'.objs.size, methodObj (.ref f2) (.ref x))] := hp
      rw [List.nil_append, List.mem_singleton] at hp
      subst hp
      refine ⟨hq, J2.hok.fresh (Nat.le_refl _), fun z => ?_, fun z => J2.nofs (Nat.le_refl _) z, fun v z => by cases z⟩
      have z : h'.objs.size = s.heap.objs.size := z
      omega
    have J4 : Inv (cxSup P w K mg base N qual scope f (.ref cda) cc A outer s H E) [(h'.objs.size, methodObj (.ref f2) (.ref x))] σ H1 ⟨h'.push { cls := .type "method", data := .fields #[.ref f2, .ref x] }, s1.gens, s1.drawn, s1.toks + 1, s1.os⟩ :=
      { J3 with pin := pinQ }
    rw [hst]
    refine callWith_of (P := MethP K h'.objs.size f2 (.ref x)) (by show ((false || (backTo p3 (starEach es (ksEnv qual scope s.heap.objs.size f (.ref cda) cc))).any (·.1)) || false) = false; rw [hpl]; rfl) (keeps_M SM.fn) (evalArgs_plain ?_)
    have run := hpa.run p3 _ _ _ _ _ J4 go
    rw [show starEach (e :: es) (cxSup P w K mg base N qual scope f (.ref cda) cc A outer s H E).env = _ from hst] at run
    refine thn run fun us s4 ⟨vs, H2, I4, r4, q4⟩ => ?_
    have p4 := (I4.pin (h'.objs.size, methodObj (.ref f2) (.ref x)) (List.mem_append_right _ (List.mem_singleton.mpr rfl))).1
    refine ⟨⟨p4, I4.kIn⟩, wpAny_call (method_call p4 ?_)⟩
    refine codeAny_mono (run_fnR (X := cxSup P w K mg base N qual scope f (.ref cda) cc A outer s H E) F2 hr (passes_call (takes_of rfl rfl rfl rfl) (fun _ _ _ _ h => h)) I4 (us := .ref x :: us) (vs := .ref x :: vs) (.cons (show RelV (.ref x) (Value.ref x) from rfl) r4) q4) fun r s5 hr5 => ?_
    match r, hr5 with
    | .error er, hr5 => exact hr5
    | .ok (.ret v), ⟨y, H3, I5, _, q5⟩ =>
      have I6 : Inv (cxSup P w K mg base N qual scope f (.ref cda) cc A outer s H E) [] σ H3 s5 := { I5 with pin := fun p hp => absurd (show p ∈ ([] : List (Addr × Obj)) from hp) (by simp) }
      exact wpAt_of_wpAny (hps.run [] s5 σ H3 R I6 q5)
    | .ok .next, hr5 => exact hr5.elim
    | .ok .brk, hr5 => exact hr5.elim
    | .ok .cont, hr5 => exact hr5.elim
/-- a method that begins with super().attr(e, ..), by its body -/
theorem fn_super {name : Str} {params : Arguments} {dV kV doc pm ct oc : Value} {an od : Option Addr} {osl : Array (Option Value)} {cda : Addr} {ar : Arg} {rest : List Stmt} {p0 p1 p2 p3 p4 : Pos} {attr : Str} {e : Expr} {es : List Expr} {k : Nat} {sp : Sp} {pl : Sem Bool}
    (lk : K.lookup f = some ⟨oc, od, .func (ksFn name qual params (.Expr (.Call (.Attribute (.Call (.Name "super" p0) [] [] p1) attr p2) (e :: es) [] p3) p4 :: rest) scope dV kV doc pm an (.ref cda) ct cc), osl⟩) (hcd : codeIn K (.ref cda) qual = true) (SK : SupK P K cda cc D) (S : SupS N ps scope) (hsuper : mg "super" = none)
    (hp : (params.posonlyargs ++ params.args).head? = some ar) (h0 : N[0]? = some ar.arg) (hka : scope.names.lookup ar.arg = some .local) (hat : (attr == ("__class__" : Str)) = false) (few : ∀ vs H Q E, sp vs H Q E → vs.length = ps.length)
    (go : ∀ (A : Around) (outer : List Env) (s : Shared) (H : Hp) (vs : List V) (Q : VK) (E : XK), Room k (A.deeper (ksEnv qual scope s.heap.objs.size f (.ref cda) cc)) → sp vs H Q E →
      ∃ (x C dx : Addr) (fs : List (Str × V)) (f2 : Addr) (sp2 : Sp) (ta : TA) (tr : TS), vs[0]? = some (.ref x) ∧ H x = some (.ins C dx fs) ∧ SupM K C D attr f2 ∧ FnR P w K mg base (L2.CX P w) k f2 sp2 ∧
        PA (cxSup P w K mg base N qual scope f (.ref cda) cc A outer s H E) (e :: es) ta ∧ PSs (cxSup P w K mg base N qual scope f (.ref cda) cc A outer s H E) rest tr ∧
        ta (L2.start N vs) H (fun xs H2 => sp2 (.ref x :: xs) H2 (fun _ H3 => tr { nx := fun _ H' => Q .non H', rt := Q } (L2.start N vs) H3) E))
    (hev : ∀ L, eval (.Call (.Attribute (.Call (.Name "super" p0) [] [] p1) attr p2) (e :: es) [] p3) (ksEnv qual scope L f (.ref cda) cc) = (do
      let ov ← attributeBase (.Call (.Name "super" p0) [] [] p1) attr (ksEnv qual scope L f (.ref cda) cc) (eval (.Call (.Name "super" p0) [] [] p1) (ksEnv qual scope L f (.ref cda) cc))
      standAt p2.atName
      let (q, first) ← holding [ov] (getMethod ov attr pl)
      callWith p3 q first (backTo p3 (starEach (e :: es) (ksEnv qual scope L f (.ref cda) cc))) []) := by intro _; rfl)
    (hint : ∀ L, interactive (ksEnv qual scope L f (.ref cda) cc) = false := by intro _; rfl)
    (hsw : ∀ L, swapsWith (.Call (.Attribute (.Call (.Name "super" p0) [] [] p1) attr p2) (e :: es) [] p3) none p4.line (ksEnv qual scope L f (.ref cda) cc) = pure false := by intro _; rfl)
    (hst : ∀ L, starEach (e :: es) (ksEnv qual scope L f (.ref cda) cc) = (false, eval e (ksEnv qual scope L f (.ref cda) cc)) :: starEach es (ksEnv qual scope L f (.ref cda) cc) := by intro _; rfl)
    (hpl : ∀ L, (backTo p3 (starEach es (ksEnv qual scope L f (.ref cda) cc))).any (·.1) = false := by intro _; rfl) :
    FnOk P w K mg base (L2.CX P w) (k + 1) f (ksFn name qual params (.Expr (.Call (.Attribute (.Call (.Name "super" p0) [] [] p1) attr p2) (e :: es) [] p3) p4 :: rest) scope dV kV doc pm an (.ref cda) ct cc) ps sp := by
  refine ⟨few, fun A outer s H args us vs Q E hr e0 hb r h => ?_⟩
  have keep : ∀ b o, base.get? b = some o → s.heap.get? b = some o := fun b o q => (e0.bs b o q).1
  have KX : K.In s.heap := e0.mod.kin.keeps keep
  have lim : s.heap.NoLimit := e0.mod.nolimit.keeps keep
  obtain ⟨cl, cld, csl, hcell⟩ := id SK.cell
  have hl := few _ _ _ _ h
  refine ks_codeAny_call_defAt (binds := ps.zip us) hr.depth (KX _ _ lk) rfl lim (codeRec_of KX hcd) rfl hb S.noc (fun y hy => S.par y.1 (List.of_mem_zip hy).1) (fun h₁ hns kp => ?_) S.co S.gen S.kind
  have J := inv_sup (qual := qual) (f := f) (cd := .ref cda) (E := E) (t' := s.toks + (ps.zip us).length) S hr.hd e0 hl r hcell hns kp
  obtain ⟨x, C, dx, fs, f2, sp2, ta, tr, hv, hx, SM, F2, hpa, hps, g⟩ := go A outer s H vs Q E (hr.deeper _) h
  have hv' : (L2.start N vs)[0]? = some (some (.ref x)) := by
    have i0 := (List.getElem?_eq_some_iff.mp hv).1
    unfold L2.start
    rw [List.getElem?_append_left (by rw [List.length_map]; exact i0), List.getElem?_map, hv]
    rfl
  refine ks_wpAt_mono (run_super SK S hsuper lk hp h0 hka J hv' hx SM hat F2 (hr.deeper _) hpa hps g (hev _) (hint _) (hsw _) (hst _) (hpl _)) (fun fl s2 z => ?_) fun _ _ z => z
  cases fl with
  | brk => exact z.elim fun _ z => z.elim fun _ z => z.2.elim
  | cont => exact z.elim fun _ z => z.elim fun _ z => z.2.elim
  | next =>
    obtain ⟨τ, H2, J2, q⟩ := z
    exact ⟨.non, H2, J2.os, J2.bare, J2.base, J2.hok, rfl, q⟩
  | ret u =>
    obtain ⟨v, τ, H2, J2, rv, q⟩ := z
    exact ⟨v, H2, J2.os, J2.bare, J2.base, J2.hok, rv, q⟩
end
end SUP
namespace CC
open PySem L2 TL
abbrev sSAss : Stmt := inClass (tp 49) 9
/-- a method that calls super(): where it stands -/
structure FunS (K : PySem.W.Frag) (x q : Str) (st : Stmt) (f : Addr) (fd : FuncData) (cda cc : Addr) : Prop where
  ex : ∃ (oc : Value) (od : Option Addr) (kV doc pm : Value) (an : Option Addr) (ct : Value) (osl : Array (Option Value)),
    fd = PySem.W.ksFn x q (defArgs st) (defBody st) (defScope st) .none kV doc pm an (.ref cda) ct cc ∧ K.lookup f = some ⟨oc, od, .func fd, osl⟩ ∧ PySem.W.codeIn K (.ref cda) q = true
/-- a log that refuses what breaks a rule that settles -/
noncomputable def ckS (CB : Addr) : Ck := fun _ rs rows => if (brkL rows rs).any (·.k) = true then some CB else none
theorem fnR_up {P : Program} {w : World} {K : PySem.W.Frag} {mg : Str → Option Value} {base : Heap} {CX : CXT} {k : Nat} {f : Addr} {sp : Sp} (F : FnR P w K mg base CX0 k f sp) : FnR P w K mg base CX k f sp := fun A outer s H us vs Q E hr e0 r h =>
  codeAny_mono (F A outer s H us vs Q E hr e0 r h) fun r s' z => by
    match r, z with
    | .ok (.ret u), z => exact z
    | .ok .next, z => exact z.elim
    | .ok .brk, z => exact z.elim
    | .ok .cont, z => exact z.elim
    | .error e, z => exact z.elim
section
variable {P : Program} {w : World} {K : PySem.W.Frag} {mg : Str → Option Value} {base : Heap} {kA : Addr}
abbrev nSC : List Str := ["self", "rows", "kind", "a", "b"]
theorem scSChk : SUP.SupS nSC ["self", "rows"] (defScope sSChk) := ⟨rfl, rfl, rfl, by decide +kernel, rfl, by decide +kernel, by decide +kernel, by decide +kernel, rfl, rfl⟩
theorem ok_schk {f f2 C D CR CT CB cda cc : Addr} {fd : FuncData} {k : Nat} (F : FunS K "check" "Strict.check" sSChk f fd cda cc) (SK : SUP.SupK P K cda cc D) (hsuper : mg "super" = none) (SM : SUP.SupM K C D "check" f2) (T : Glb K mg kA) (TL : TxtC K C) (eB : ExcK K mg "Broken" CB)
    (lc : ∀ k, 1 ≤ k → FnR P w K mg base CX0 k f2 (spLChk K)) (cB : Cal P w K mg base "rules_broken" ["rules", "rows"] (spBrk K CR) 3) : FnOk P w K mg base (L2.CX P w) (k + 4) f fd ["self", "rows"] (spCk K C CR CT (ckS CB)) := by
  have GB := cB.ok (k + 3) (by omega)
  have GL := lc (k + 3) (by omega)
  obtain ⟨oc, od, kV, doc, pm, an, ct, osl, rfl, lk, hcd⟩ := F.ex
  refine SUP.fn_super (k := k + 3) lk hcd SK scSChk hsuper rfl rfl rfl (by decide +kernel) (fun vs H Q E h => ?_) (fun A outer s H vs Q E hr h => ?_)
  · obtain ⟨x, r, q, g, m, rs, rows0, rows, n, us, rfl, _⟩ := h
    rfl
  · obtain ⟨x, r, pq, g, m, rs, rows0, rows, n, us, rfl, L, hg, dp, ok, few, rok, r60, eE, q⟩ := h
    have nd := scSChk.nd
    obtain ⟨dx, t, hx, _⟩ := L.at_
    refine ⟨x, C, dx, _, f2, spLChk K, _, _, rfl, hx, SM, fnR_up GL, pa_cons (pv 1) pa_nil,
      pss_one (ps_if (pt_val (pe_callB (cr_any rfl) (by rfl) T.any (by decide +kernel) (pa_cons (pe_lc (own := [("kind", 2), ("a", 3), ("b", 4)]) (g := g3 K 2 3 4) (tt := tYes) (te := tOp rEq (tVar 2) (tC (.str "settles"))) rfl nd (pi_list (pe_call GB hr rfl cB.g cB.kp cB.b .nil pass0 (pa_cons (pe_fld (pv 0) rfl) (pa_cons (pv 1) pa_nil)))) (blkOk_by (N := nSC) (sc := defScope sSChk) (by decide +kernel))
        (fun _ _ _ _ _ => (pg_tup rfl (pgs_cons (pg_name (i := 2) nd rfl (.inl rfl)) (pgs_cons (pg_name (i := 3) nd rfl (.inl rfl)) (pgs_cons (pg_name (i := 4) nd rfl (.inl rfl)) pgs_nil))))) (fun _ _ _ _ _ => pts_nil) (fun _ _ _ _ _ => (pe_cmpR op_eq (pv 2) pe_str (nomark _)))) pa_nil))) (pss_one (ps_raise rfl (takes_of rfl rfl rfl rfl) (pmk_own PySem.F.excBase_ValueError eB.x eB.g eB.k (raises_own eB.b eB.t) rfl))) pss_nil), ?_⟩
    have ul : us.length = rows.length := by rw [dps_len dp, List.length_map]
    refine ⟨_, rfl, x, g, us, rfl, .inr hg, by omega, ?_⟩
    refine ⟨_, rfl, x, C, dx, _, _, rfl, hx, TL.cl, TL.nB, fldL_b _ _ _, _, rfl, r, g, us, m, rs, rows, rfl, L.book.same (wos_le _), hg, dp, ok, few, rok, r60, fun p up H1 s1 np hp dq => ?_⟩
    have dq1 := dps_same (wo_le p) _ _ dq
    have pl : up.length = (brkL rows rs).length := by rw [dps_len dq1, List.length_map]
    have bl := brkL_len rows rs
    refine ⟨p, rfl, ⟨_, SqL.of hp⟩, fun D nD => ?_⟩
    refine lc_list (xs := up) (fun i H2 => Same H1 (wo H2 D) ∧ H2 D = some (.lst ((((brkL rows rs).take i).map R.k).map V.bl)) ∧ i ≤ 60) ⟨?_, upd_same, by omega⟩ (fun i H2 _ z => SqL.of (wo_le D _ _ (z.1 _ _ hp))) ?_ ?_
    · rw [wo_upd]
      exact fun b o e => by rw [wo_ne (ne_of_none e nD)]; exact e
    · rintro i v H2 hv ⟨e1, e2, e3⟩
      obtain ⟨rr, hr2, dr⟩ := dps_rat dq1 hv
      have il := (List.getElem?_eq_some_iff.mp hr2).1
      obtain ⟨t1, rfl, ht1⟩ := dp_r (dp_same (e1.trans (wo_le D)) _ _ dr)
      have ek : decide (V.str (kd rr.k) = V.str (Str.ofString "settles")) = rr.k := by cases rr.k <;> decide +kernel
      refine ⟨t1, _, rfl, ht1, rfl, _, _, rfl, _, _, rfl, _, _, rfl, rfl, rfl, yes_if ⟨_, rfl, rfl, _, e2, small1000 (by rw [List.length_map, List.length_map, List.length_take]; omega), ?_, ?_, by omega⟩⟩
      · rw [wo_upd]
        exact e1
      · rw [upd_same, SG.take_one hr2, List.map_append, List.map_append]
        rw [ek]
        rfl
    rintro H2 ⟨e1, e2, _⟩
    rw [pl, List.take_length] at e2
    have s2 := s1.trans (e1.trans (wo_le D))
    refine ⟨D, _, rfl, SqL.of e2, _, rfl, ?_⟩
    have ea : ((brkL rows rs).map R.k).any id = (brkL rows rs).any (·.k) := by rw [List.any_map]; rfl
    rw [ea]
    by_cases e : (brkL rows rs).any (·.k) = true
    · rw [e]
      exact iteT (eE CB (by unfold ckS; rw [if_pos e]) _ s2)
    · rw [eq_false_of_ne_true e]
      exact iteF (q (by unfold ckS; rw [if_neg e]) _ s2)
abbrev nSA : List Str := ["self", "table"]
theorem scSAss : SUP.SupS nSA ["self", "table"] (defScope sSAss) := ⟨rfl, rfl, rfl, by decide +kernel, rfl, by decide +kernel, by decide +kernel, by decide +kernel, rfl, rfl⟩
theorem ok_sass {f f2 C D CR CT cda cc : Addr} {fd : FuncData} {k l : Nat} {ck : Ck} (F : FunS K "assign_table" "Strict.assign_table" sSAss f fd cda cc) (SK : SUP.SupK P K cda cc D) (hsuper : mg "super" = none) (SM : SUP.SupM K C D "assign_table" f2)
    (la : ∀ k, l ≤ k → FnR P w K mg base (L2.CX P w) k f2 (spLAss K C CR CT ck)) : FnOk P w K mg base (L2.CX P w) (k + l + 1) f fd ["self", "table"] (spLAss K C CR CT ck) := by
  have GL := la (k + l) (by omega)
  obtain ⟨oc, od, kV, doc, pm, an, ct, osl, rfl, lk, hcd⟩ := F.ex
  refine SUP.fn_super (k := k + l) lk hcd SK scSAss hsuper rfl rfl rfl (by decide +kernel) (fun vs H Q E h => ?_) (fun A outer s H vs Q E hr h => ?_)
  · obtain ⟨x, r, q, t, m, rs, rows0, rows, n, rfl, _⟩ := h
    rfl
  · obtain ⟨x, r, pq, t', m, rs, rows0, rows, n, rfl, L, tt, rest⟩ := h
    obtain ⟨dx, t, hx, _⟩ := L.at_
    refine ⟨x, C, dx, _, f2, spLAss K C CR CT ck, _, _, rfl, hx, SM, GL, pa_cons (pv 1) pa_nil, pss_nil, ?_⟩
    obtain ⟨ok, few, rok, r60, n1, eE, to⟩ := rest
    exact ⟨_, rfl, x, r, pq, t', m, rs, rows0, rows, n, rfl, L, tt, ok, few, rok, r60, n1, eE, fun e H' k1 L' => to e H' k1 L'⟩
end
end CC
namespace CC
open PySem L2 TL
/-! ### rules_broken and check -/
def spBrkM (K : PySem.W.Frag) (CR : Addr) : Sp := fun vs H Q _ => ∃ (r g : Addr) (us : List V) (m : Nat) (rs : List R) (rows : List (List Nat)), vs = [.ref r, .ref g] ∧ RulesAt K CR H r m rs ∧ SqE K H g us ∧ DpAll K H us (rows.map gd) ∧ (∀ x ∈ rows, RowOk m x) ∧ Fw rows ∧ rows.length ≤ 401 ∧ (∀ r ∈ rs, r.ok m) ∧ rs.length ≤ 60 ∧ NewF R.d K H (brkL rows rs) Q
/-- check(rows): lb: whether there is a limit; ck: which exception it raises -/
def spCkM (K : PySem.W.Frag) (C CR CT : Addr) (lb : Bool) (ck : CkM) : Sp := fun vs H Q E => ∃ (lm : Option Nat) (x r q g : Addr) (w : Nat) (rs : List R) (rows0 rows : List (List Nat)) (ps : List (List (List Nat))) (us : List V), lm.isSome = lb ∧ vs = [.ref x, .ref g] ∧ LgAt K C CR CT lm H x r q w rs rows0 ps ∧ SqE K H g us ∧ DpAll K H us (rows.map gd) ∧ (∀ s ∈ rows, RowOk w s) ∧ Fw rows ∧ rows.length ≤ 401 ∧ (∀ r ∈ rs, r.ok w) ∧ rs.length ≤ 60 ∧
  (∀ c, ck lm w rs rows = some c → ∀ H', Same H H' → E (.ref c) none H') ∧ (ck lm w rs rows = none → ∀ H', Same H H' → Q .non H')
/-- more than 400 rows -/
def ckA (c5 : Addr) : CkM := fun _ _ _ rows => if 400 < rows.length then some c5 else none
/-- more than the limit -/
def ckMo (c5 : Addr) : CkM := fun lm _ _ rows => match lm with
  | some m => if m < rows.length then some c5 else none
  | none => none
/-- a broken rule that settles -/
noncomputable def ckBr (c7 : Addr) : CkM := fun _ _ rs rows => if (brkL rows rs).any (·.k) = true then some c7 else none
/-- one behind the other -/
def ckTh (a b : CkM) : CkM := fun lm w rs rows => match a lm w rs rows with
  | some c => some c
  | none => b lm w rs rows
/-- it lets nothing through with more than 400 rows -/
def CkOk (ck : CkM) : Prop := ∀ lm w rs rows, ck lm w rs rows = none → rows.length ≤ 400
theorem ckA_ok (c : Addr) : CkOk (ckA c) := fun lm w rs rows h => by
  unfold ckA at h
  split at h
  · cases h
  · omega
theorem ckTh_ok {a b : CkM} (h : CkOk a) : CkOk (ckTh a b) := fun lm w rs rows e => by
  unfold ckTh at e
  split at e
  · cases e
  · rename_i z
    exact h _ _ _ _ z
section
variable {P : Program} {w : World} {K : PySem.W.Frag} {mg : Str → Option Value} {base : Heap} {kA : Addr}
theorem ok_brkM {f CR : Addr} {fd : FuncData} {k : Nat} (F : Fun K "rules_broken" "rules_broken" sBrk f fd) (TC : Txt1 K mg CR) (pR : Prp P w K mg base CR "rules" "given") (cH : Cal P w K mg base "holds" ["rows", "rule"] (spHoM K) 1) : FnOk P w K mg base CX0 (k + 3) f fd ["rules", "rows"] (spBrkM K CR) := by
  have GH := cH.ok (k + 2) (by omega)
  refine F.ok scBrk (fun vs H Q E h => ?_) (fun cdv A outer s H vs Q E hr h => ?_)
  · obtain ⟨r, g, us, m, rs, rows, rfl, _⟩ := h
    rfl
  · obtain ⟨x, g, us, m, rs, rows, rfl, ⟨dx, gg, ur, h1, h2, h3⟩, hg, dp, ok, fw, few, rok, r60, q⟩ := h
    have n := scBrk.nd
    refine ⟨_, (pss_one (ps_ret (pe_lc (own := [("rule", 2)]) (g := gName 2) (tt := tNot (tB (tCall (spHoM K) [] E0 (tCons (tVar 1) (tCons (tVar 2) tNil))))) rfl n (pi_tup (pe_prop (pv 0) TC.cl pR.hp (pR.ok (k + 1) (by omega)) hr pR.b .nil pass0 rfl)) (blkOk_by (N := nBrk) (sc := defScope sBrk) (by decide +kernel))
      (fun _ _ _ _ _ => (pg_name (i := 2) n rfl (.inl rfl))) (fun _ _ _ _ _ => pts_one (pt_not (pt_val (pe_call GH hr rfl cH.g cH.kp cH.b .nil pass0 (pa_cons (pv 1) (pa_cons (pv 2) pa_nil)))))) (fun _ _ _ _ _ => (pv 2))))), ?_⟩
    have ul : ur.length = rs.length := by rw [dps_len h3, List.length_map]
    refine ⟨_, rfl, x, dx, _, rfl, h1, x, dx, _, _, rfl, h1, flds_given _ _, gg, rfl, ⟨_, .inl (.inl h2)⟩, fun D nD => ?_⟩
    refine lc_tup (xs := ur) (fun i H1 => MadeF R.d K H D i H1 (brkL rows (rs.take i))) MadeF.start (fun i H1 _ z => .inl (.inl (z.old nD _ _ h2))) ?_ ?_
    · rintro i v H1 hv mo
      obtain ⟨r, hr2, dr⟩ := dps_rat h3 hv
      have il : i < rs.length := (List.getElem?_eq_some_iff.mp hr2).1
      have o := mo.old nD
      refine ⟨rfl, _, rfl, _, rfl, g, us, m, rows, v, r, rfl, hg.same o, dps_same o _ _ dp, ok, fw, few, dp_same o _ _ dr, rok r (List.mem_of_getElem? hr2), fun t H2 s2 ht => ⟨_, rfl, ?_⟩⟩
      obtain ⟨uo, _, hDo, _⟩ := id mo
      have e : brkL rows (rs.take (i + 1)) = brkL rows (rs.take i) ++ [r].filter fun r => !holdsB rows r := by
        unfold brkL
        rw [SG.take_one hr2, List.filter_append]
      rw [e]
      have hb := holdsB_of ht
      cases t with
      | true =>
        rw [List.filter_cons_of_neg (by rw [hb]; decide), List.filter_nil, List.append_nil]
        exact iteF (mo.keep s2 (by omega) rfl)
      | false =>
        rw [List.filter_cons_of_pos (by rw [hb]; rfl), List.filter_nil]
        refine iteT ⟨_, rfl, ?_⟩
        exact mo.push (r := r) (m := i + 1) (by omega) (Nat.lt_succ_self _) s2 (rd_T (((same_T o).trans (same_T s2)).trans (wo_T (s2 _ _ hDo))) dr)
    rintro H1 mo
    rw [ul, List.take_length] at mo
    exact mo.out nD (Same.refl _) q
theorem ok_lchkM {f C CR CT c5 : Addr} {lb : Bool} {fd : FuncData} {k : Nat} (F : Fun K "check" "Log.check" sLChk f fd) (T : Glb K mg kA) (TT : GlbT mg) (e5 : ExcK K mg "TooMuch" c5) : FnOk P w K mg base (L2.CX P w) (k + 1) f fd ["self", "rows"] (spCkM K C CR CT lb (ckA c5)) := by
  refine F.okX scLChk (fun vs H Q E h => ?_) (fun cdv A outer s H vs Q E hr h => ?_)
  · obtain ⟨lm, x, r, q, g, m, rs, rows0, rows, ps, us, _, rfl, _⟩ := h
    rfl
  · obtain ⟨lm, x, r, pq, g, m, rs, rows0, rows, ps, us, _, rfl, L, hg, dp, ok, fw, few, rok, r60, eE, q⟩ := h
    obtain ⟨tm, hmr⟩ := TT.mr
    refine ⟨_, (pss_one (ps_if (pt_cmpR op_gt (pe_callB call_len_seq (by rfl) T.len PySem.boot_len (pa_cons (pv 1) pa_nil)) (pe_glob (v := .int 400) rfl hmr ⟨_, rfl⟩) (nomark _)) (pss_one (ps_raise rfl (takes_of rfl rfl rfl rfl) (pmk_own PySem.F.excBase_ValueError e5.x e5.g e5.k (raises_own e5.b e5.t) rfl))) pss_nil)), ?_⟩
    have ul : us.length = rows.length := by rw [dps_len dp, List.length_map]
    refine ⟨_, rfl, g, us, rfl, hg, _, _, rfl, rfl, _, rfl, ?_⟩
    by_cases e : 400 < rows.length
    · rw [show decide (((us.length : Nat) : Int) > (400 : Int)) = true from decide_eq_true (by omega)]
      exact iteT (eE c5 (by unfold ckA; rw [if_pos e]) _ (Same.refl _))
    · rw [show decide (((us.length : Nat) : Int) > (400 : Int)) = false from decide_eq_false (by omega)]
      exact iteF (q (by unfold ckA; rw [if_neg e]) _ (Same.refl _))
theorem ok_schkM {f f2 C D CR CT CB cda cc : Addr} {lb : Bool} {ck : CkM} {fd : FuncData} {k l : Nat} (F : FunS K "check" "Strict.check" sSChk f fd cda cc) (SK : SUP.SupK P K cda cc D) (hsuper : mg "super" = none) (SM : SUP.SupM K C D "check" f2) (T : Glb K mg kA) (TL : TxtM K C) (eB : ExcK K mg "Broken" CB)
    (lc : ∀ k, l ≤ k → FnR P w K mg base (L2.CX P w) k f2 (spCkM K C CR CT lb ck)) (cB : Cal P w K mg base "rules_broken" ["rules", "rows"] (spBrkM K CR) 3) : FnOk P w K mg base (L2.CX P w) (k + l + 4) f fd ["self", "rows"] (spCkM K C CR CT lb (ckTh ck (ckBr CB))) := by
  have GB := cB.ok (k + l + 3) (by omega)
  have GL := lc (k + l + 3) (by omega)
  obtain ⟨oc, od, kV, doc, pm, an, ct, osl, rfl, lk, hcd⟩ := F.ex
  refine SUP.fn_super (k := k + l + 3) lk hcd SK scSChk hsuper rfl rfl rfl (by decide +kernel) (fun vs H Q E h => ?_) (fun A outer s H vs Q E hr h => ?_)
  · obtain ⟨lm, x, r, q, g, m, rs, rows0, rows, ps, us, _, rfl, _⟩ := h
    rfl
  · obtain ⟨lm, x, r, pq, g, m, rs, rows0, rows, ps, us, hlb, rfl, L, hg, dp, ok, fw, few, rok, r60, eE, q⟩ := h
    have nd := scSChk.nd
    obtain ⟨dx, t, hx, _⟩ := L.at_
    refine ⟨x, C, dx, _, f2, spCkM K C CR CT lb ck, _, _, rfl, hx, SM, GL, pa_cons (pv 1) pa_nil,
      pss_one (ps_if (pt_val (pe_callB (cr_any rfl) (by rfl) T.any (by decide +kernel) (pa_cons (pe_lc (own := [("kind", 2), ("a", 3), ("b", 4)]) (g := g3 K 2 3 4) (tt := tYes) (te := tOp rEq (tVar 2) (tC (.str "settles"))) rfl nd (pi_list (pe_call GB hr rfl cB.g cB.kp cB.b .nil pass0 (pa_cons (pe_fld (pv 0) rfl) (pa_cons (pv 1) pa_nil)))) (blkOk_by (N := nSC) (sc := defScope sSChk) (by decide +kernel))
        (fun _ _ _ _ _ => (pg_tup rfl (pgs_cons (pg_name (i := 2) nd rfl (.inl rfl)) (pgs_cons (pg_name (i := 3) nd rfl (.inl rfl)) (pgs_cons (pg_name (i := 4) nd rfl (.inl rfl)) pgs_nil))))) (fun _ _ _ _ _ => pts_nil) (fun _ _ _ _ _ => (pe_cmpR op_eq (pv 2) pe_str (nomark _)))) pa_nil))) (pss_one (ps_raise rfl (takes_of rfl rfl rfl rfl) (pmk_own PySem.F.excBase_ValueError eB.x eB.g eB.k (raises_own eB.b eB.t) rfl))) pss_nil), ?_⟩
    have ul : us.length = rows.length := by rw [dps_len dp, List.length_map]
    refine ⟨_, rfl, lm, x, r, pq, g, m, rs, rows0, rows, ps, us, hlb, rfl, L, hg, dp, ok, fw, few, rok, r60, fun c hc H' e => eE c (by unfold ckTh; rw [hc]) H' e, fun hc H0 s0 => ?_⟩
    have L0 := L.keep s0
    obtain ⟨dx, t, hx, _⟩ := L0.at_
    refine ⟨_, rfl, x, C, dx, _, _, rfl, hx, TL.cl, TL.nB, fldM_b _ _ _ _, _, rfl, r, g, us, m, rs, rows, rfl, L0.book.same (wos_le _), hg.same s0, dps_same s0 _ _ dp, ok, fw, few, rok, r60, fun p up H1 s1 np hp dq => ?_⟩
    have dq1 := dps_same (wo_le p) _ _ dq
    have pl : up.length = (brkL rows rs).length := by rw [dps_len dq1, List.length_map]
    have bl := brkL_len rows rs
    refine ⟨p, rfl, ⟨_, SqL.of hp⟩, fun D nD => ?_⟩
    refine lc_list (xs := up) (fun i H2 => Same H1 (wo H2 D) ∧ H2 D = some (.lst ((((brkL rows rs).take i).map R.k).map V.bl)) ∧ i ≤ 60) ⟨?_, upd_same, by omega⟩ (fun i H2 _ z => SqL.of (wo_le D _ _ (z.1 _ _ hp))) ?_ ?_
    · rw [wo_upd]
      exact fun b o e => by rw [wo_ne (ne_of_none e nD)]; exact e
    · rintro i v H2 hv ⟨e1, e2, e3⟩
      obtain ⟨rr, hr2, dr⟩ := dps_rat dq1 hv
      have il := (List.getElem?_eq_some_iff.mp hr2).1
      obtain ⟨t1, rfl, ht1⟩ := dp_r (dp_same (e1.trans (wo_le D)) _ _ dr)
      have ek : decide (V.str (kd rr.k) = V.str (Str.ofString "settles")) = rr.k := by cases rr.k <;> decide +kernel
      refine ⟨t1, _, rfl, ht1, rfl, _, _, rfl, _, _, rfl, _, _, rfl, rfl, rfl, yes_if ⟨_, rfl, rfl, _, e2, small1000 (by rw [List.length_map, List.length_map, List.length_take]; omega), ?_, ?_, by omega⟩⟩
      · rw [wo_upd]
        exact e1
      · rw [upd_same, SG.take_one hr2, List.map_append, List.map_append]
        rw [ek]
        rfl
    rintro H2 ⟨e1, e2, _⟩
    rw [pl, List.take_length] at e2
    have s2 := s0.trans (s1.trans (e1.trans (wo_le D)))
    refine ⟨D, _, rfl, SqL.of e2, _, rfl, ?_⟩
    have ea : ((brkL rows rs).map R.k).any id = (brkL rows rs).any (·.k) := by rw [List.any_map]; rfl
    rw [ea]
    by_cases e : (brkL rows rs).any (·.k) = true
    · rw [e]
      exact iteT (eE CB (by unfold ckTh; rw [hc]; unfold ckBr; rw [if_pos e]) _ s2)
    · rw [eq_false_of_ne_true e]
      exact iteF (q (by unfold ckTh; rw [hc]; unfold ckBr; rw [if_neg e]) _ s2)
abbrev nHC : List Str := ["self", "rows"]
theorem scHChk : SUP.SupS nHC ["self", "rows"] (defScope sHChk) := ⟨rfl, rfl, rfl, by decide +kernel, rfl, by decide +kernel, by decide +kernel, by decide +kernel, rfl, rfl⟩
theorem ok_hchkM {f f2 C D CR CT CM cda cc : Addr} {ck : CkM} {fd : FuncData} {k l : Nat} (F : FunS K "check" "Short.check" sHChk f fd cda cc) (SK : SUP.SupK P K cda cc D) (hsuper : mg "super" = none) (SM : SUP.SupM K C D "check" f2) (T : Glb K mg kA) (TL : TxtM K C) (e5 : ExcK K mg "TooMuch" CM)
    (lc : ∀ k, l ≤ k → FnR P w K mg base (L2.CX P w) k f2 (spCkM K C CR CT true ck)) : FnOk P w K mg base (L2.CX P w) (k + l + 1) f fd ["self", "rows"] (spCkM K C CR CT true (ckTh ck (ckMo CM))) := by
  have GL := lc (k + l) (by omega)
  obtain ⟨oc, od, kV, doc, pm, an, ct, osl, rfl, lk, hcd⟩ := F.ex
  refine SUP.fn_super (k := k + l) lk hcd SK scHChk hsuper rfl rfl rfl (by decide +kernel) (fun vs H Q E h => ?_) (fun A outer s H vs Q E hr h => ?_)
  · obtain ⟨lm, x, r, q, g, m, rs, rows0, rows, ps, us, _, rfl, _⟩ := h
    rfl
  · obtain ⟨lm, x, r, pq, g, m, rs, rows0, rows, ps, us, hlb, rfl, L, hg, dp, ok, fw, few, rok, r60, eE, q⟩ := h
    obtain ⟨lim, rfl⟩ := Option.isSome_iff_exists.mp hlb
    have nd := scHChk.nd
    obtain ⟨dx, t, hx, _⟩ := L.at_
    refine ⟨x, C, dx, _, f2, spCkM K C CR CT true ck, _, _, rfl, hx, SM, GL, pa_cons (pv 1) pa_nil,
      pss_one (ps_if (pt_cmpR op_gt (pe_callB call_len_seq (by rfl) T.len PySem.boot_len (pa_cons (pv 1) pa_nil)) (pe_fld (pv 0) rfl) (nomark _)) (pss_one (ps_raise rfl (takes_of rfl rfl rfl rfl) (pmk_own PySem.F.excBase_ValueError e5.x e5.g e5.k (raises_own e5.b e5.t) rfl))) pss_nil), ?_⟩
    have ul : us.length = rows.length := by rw [dps_len dp, List.length_map]
    refine ⟨_, rfl, some lim, x, r, pq, g, m, rs, rows0, rows, ps, us, hlb, rfl, L, hg, dp, ok, fw, few, rok, r60, fun c hc H' e => eE c (by unfold ckTh; rw [hc]) H' e, fun hc H0 s0 => ?_⟩
    have L0 := L.keep s0
    obtain ⟨dx, t, hx, _⟩ := L0.at_
    refine ⟨_, rfl, g, us, rfl, hg.same s0, _, rfl, x, C, dx, _, _, rfl, hx, TL.cl, TL.nL, fldM_l _ _ _ _, _, _, rfl, rfl, _, rfl, ?_⟩
    by_cases e : lim < rows.length
    · rw [show decide (((us.length : Nat) : Int) > (lim : Int)) = true from decide_eq_true (by omega)]
      exact iteT (eE CM (by unfold ckTh; rw [hc]; show (if lim < rows.length then some CM else none) = _; rw [if_pos e]) _ s0)
    · rw [show decide (((us.length : Nat) : Int) > (lim : Int)) = false from decide_eq_false (by omega)]
      exact iteF (q (by unfold ckTh; rw [hc]; show (if lim < rows.length then some CM else none) = _; rw [if_neg e]) _ s0)
def spChgM (K : PySem.W.Frag) (C : Addr) : Sp := fun vs H Q _ => ∃ (lm : Option Nat) (x dx r t q t' : Addr) (hs : List V), vs = [.ref x, .ref t'] ∧ H x = some (.ins C dx (fldM lm r t q)) ∧ H q = some (.lst hs) ∧ hs.length < 1000 ∧ Q .non (upd (upd H q (.lst (hs ++ [.ref t]))) x (.ins C dx (fldM lm r t' q)))
theorem ok_lchgM {f C : Addr} {fd : FuncData} {k : Nat} (F : Fun K "change" "Log.change" sLChg f fd) (TL : TxtM K C) : FnOk P w K mg base CX0 (k + 1) f fd ["self", "table"] (spChgM K C) := by
  refine F.ok scLChg (fun vs H Q E h => ?_) (fun cdv A outer s H vs Q E hr h => ?_)
  · obtain ⟨lm, x, dx, r, t, q, t', hs, rfl, _⟩ := h
    rfl
  · obtain ⟨lm, x, dx, r, t, pq, t', hs, rfl, hx, hq, hl, q⟩ := h
    refine ⟨_, (pss_cons (ps_expr (pe_bm PySem.F.plainAttrs_list PySem.F.slot_list_append PySem.F.type_list_append mt_append (pe_fld (pv 0) rfl) (pa_cons (pe_fld (pv 0) rfl) pa_nil)))
      (pss_one (ps_fld (pv 0) (pv 1) rfl))), ?_⟩
    have xq : x ≠ pq := ne_of hx hq (by intro z; cases z)
    refine ⟨_, rfl, x, C, dx, _, _, rfl, hx, TL.cl, TL.nP, fldM_p _ _ _ _, .inl ⟨rfl, _, SqL.of hq⟩, ?_⟩
    refine ⟨_, rfl, x, C, dx, _, _, rfl, hx, TL.cl, TL.nH, fldM_h _ _ _ _, ?_⟩
    refine ⟨pq, hs, _, rfl, rfl, hq, small1000 (Nat.le_of_lt hl), ?_⟩
    have hx1 : (upd H pq (.lst (hs ++ [.ref t]))) x = some (.ins C dx (fldM lm r t pq)) := by
      rw [upd_ne xq]
      exact hx
    refine ⟨_, rfl, _, rfl, x, C, dx, _, rfl, hx1, TL.cl, TL.nH, fldM_len _ _ _ _, ?_⟩
    rw [fldM_held]
    exact q
end
end CC
namespace CC
open PySem L2 TL
/-! ### what is no width and no text (k05/Ro, Rd, Ir have the same) -/
theorem fn_or {P : Program} {w : World} {K : PySem.W.Frag} {mg : Str → Option Value} {base : Heap} {CX : CXT} {k : Nat} {f : Addr} {fd : FuncData} {ps : List Str} {sp sp' : Sp} (F : FnOk P w K mg base CX k f fd ps sp) (G : FnOk P w K mg base CX k f fd ps sp') :
    FnOk P w K mg base CX k f fd ps (fun vs H Q E => sp vs H Q E ∨ sp' vs H Q E) :=
  ⟨fun vs H Q E h => h.elim (F.len vs H Q E) (G.len vs H Q E), fun A outer s H args us vs Q E hr e0 b r h => h.elim (F.run A outer s H args us vs Q E hr e0 b r) (G.run A outer s H args us vs Q E hr e0 b r)⟩
def noInts : List String := ["NoneType", "bool", "str", "tuple", "list", "dict"]
def noStrs : List String := ["NoneType", "bool", "int", "tuple", "list", "dict"]
def NoInt (K : PySem.W.Frag) (H : Hp) (v : V) : Prop := ∃ n, TyX K H v (.type n) ∧ n ∈ noInts
def NoStr (K : PySem.W.Frag) (H : Hp) (v : V) : Prop := ∃ n, TyX K H v (.type n) ∧ n ∈ noStrs
def spIsIntX (K : PySem.W.Frag) : Sp := fun vs H Q E => spIsInt vs H Q E ∨ ∃ v, vs = [v] ∧ NoInt K H v ∧ Q (.bl false) H
def Cal.imp {P : Program} {w : World} {K : PySem.W.Frag} {mg : Str → Option Value} {base : Heap} {x : Str} {ps : List Str} {sp sp' : Sp} {l : Nat} (c : Cal P w K mg base x ps sp l) (h : ∀ vs H Q E, sp' vs H Q E → sp vs H Q E) : Cal P w K mg base x ps sp' l :=
  ⟨c.f, c.fd, fun k hk => (c.ok k hk).imp h, c.kp, c.b, c.g⟩
section
variable {P : Program} {w : World} {K : PySem.W.Frag} {mg : Str → Option Value} {base : Heap} {kA : Addr}
theorem ok_isintX {f : Addr} {fd : FuncData} {k : Nat} (F : Fun K "is_an_integer" "is_an_integer" sIsInt f fd) (T : Glb K mg kA) : FnOk P w K mg base CX0 (k + 1) f fd ["thing"] (spIsIntX K) := by
  refine fn_or (ok_isint F T) ?_
  refine F.ok scIsInt (fun vs H Q E h => ?_) (fun cdv A outer s H vs Q E hr h => ?_)
  · obtain ⟨v, rfl, _⟩ := h
    rfl
  · obtain ⟨v, rfl, ⟨n, ty, hn⟩, q⟩ := h
    refine ⟨_, pss_one (ps_ret (pe_and (pe_callB call_isi (by rfl) T.isi (by decide +kernel) (pa_cons (pv 0) (pa_cons (pe_bltn (v := .ty "int") (by rfl) T.int (by decide +kernel) rfl) pa_nil)))
      (pe_one (pe_not (pe_callB call_isi (by rfl) T.isi (by decide +kernel) (pa_cons (pv 0) (pa_cons (pe_bltn (v := .ty "bool") (by rfl) T.bool (by decide +kernel) rfl) pa_nil))))))), ?_⟩
    by_cases hb : n = "bool"
    · subst hb
      refine ⟨_, rfl, _, _, _, _, true, rfl, .ty _, ty, kit_ty (by decide +kernel), _, rfl, iteT ?_⟩
      exact ⟨_, rfl, _, _, _, _, true, rfl, .ty _, ty, kit_ty (by decide +kernel), _, rfl, q⟩
    · have kb : kitB n "int" = some false := by
        simp only [noInts, List.mem_cons, List.not_mem_nil, or_false] at hn
        rcases hn with rfl | rfl | rfl | rfl | rfl | rfl <;> first | exact (hb rfl).elim | decide +kernel
      exact ⟨_, rfl, _, _, _, _, false, rfl, .ty _, ty, kit_ty kb, _, rfl, iteF q⟩
end
theorem ty_same {K : PySem.W.Frag} {H H' : Hp} {v : V} {t : Value} (e : Same H H') (h : TyX K H v t) : TyX K H' v t := by
  cases h with
  | base b =>
    refine .base ?_
    cases b with
    | non => exact .non
    | bl x => exact .bl x
    | int i => exact .int i
    | str x => exact .str x
    | flt x => exact .flt x
    | lst z => exact .lst (e _ _ z)
    | frz z => exact .frz (e _ _ z)
    | tup z => exact .tup (e _ _ z)
    | dK z => exact .dK (e _ _ z)
    | dT z => exact .dT (e _ _ z)
    | ins z a b c d f => exact .ins (e _ _ z) a b c d f
  | byt b => exact .byt b
  | set z => exact .set (e _ _ z)
  | kList z c => exact .kList z c
  | kTuple z c => exact .kTuple z c
  | kDict z c => exact .kDict z c
  | fTuple z => exact .fTuple (e _ _ z)
  | fDict z => exact .fDict (e _ _ z)
theorem NoStr.same {K : PySem.W.Frag} {H H' : Hp} {v : V} (h : NoStr K H v) (e : Same H H') : NoStr K H' v := by
  obtain ⟨n, ty, hn⟩ := h
  exact ⟨n, ty_same e ty, hn⟩
end CC
namespace CC
open PySem L2 TL
/-! ### add -/
/-- what is known of the width, the rules and the rows of a log -/
structure LgOk (w : Nat) (rs : List R) (rows : List (List Nat)) : Prop where
  w1 : 1 ≤ w
  w6 : w ≤ 6
  rok : ∀ r ∈ rs, r.ok w
  r60 : rs.length ≤ 60
  ok : ∀ s ∈ rows, RowOk w s
  few : rows.length ≤ 400
/-- is_row: of rows, and of values of which NR says that they are none -/
abbrev NoR := Hp → Nat → V → Prop
def spIsRowG (K : PySem.W.Frag) (NR : NoR) : Sp := fun vs H Q E => spIsRow K vs H Q E ∨ ∃ (w : Nat) (v : V), vs = [.int (w : Int), v] ∧ NR H w v ∧ ∀ H', Same H H' → Q (.bl false) H'
def spAddM (K : PySem.W.Frag) (C CR CT : Addr) (lb : Bool) (ck : CkM) (NR : NoR) (c1 : Addr) : Sp := fun vs H Q E => ∃ (lm : Option Nat) (x r q : Addr) (w : Nat) (rs : List R) (rows : List (List Nat)) (ps : List (List (List Nat))) (v : V), lm.isSome = lb ∧ vs = [.ref x, v] ∧ LgAt K C CR CT lm H x r q w rs rows ps ∧ LgOk w rs rows ∧ ps.length < 1000 ∧
  ((∃ (tr : Addr) (row : List Nat), v = .ref tr ∧ SqT K H tr (nms row) ∧ RowOk w row ∧ Fw (rows ++ [row]) ∧ (∀ c, ck lm w rs (rows ++ [row]) = some c → ∀ H', Same H H' → E (.ref c) none H') ∧ (ck lm w rs (rows ++ [row]) = none → LgTo K C CR CT lm H x r q w rs (rows ++ [row]) (ps ++ [rows]) Q)) ∨
   (NR H w v ∧ ∀ H', Same H H' → E (.ref c1) none H'))
section
variable {P : Program} {w : World} {K : PySem.W.Frag} {mg : Str → Option Value} {base : Heap} {kA : Addr}
theorem ok_laddM {f C CR CT c1 : Addr} {lb : Bool} {ck : CkM} {NR : NoR} {fd : FuncData} {k l : Nat} (hck : CkOk ck) (F : Fun K "add" "Log.add" sLAdd f fd) (TL : TxtM K C) (TR : Txt1 K mg CR) (TT : TxtT K mg CT) (e1 : ExcK K mg "NoRow" c1) (pW : Prp P w K mg base CR "width" "span") (pTR : Prp P w K mg base CT "rows" "lines") (mT : MakeT P w K mg base CT 3) (cR : Cal P w K mg base "is_row" ["width", "thing"] (spIsRowG K NR) 2)
    (cc : MthX P w K mg base C "check" ["self", "rows"] (spCkM K C CR CT lb ck) l) (cg : MthG P w K mg base C "change" ["self", "table"] (spChgM K C) 1) : FnOk P w K mg base (L2.CX P w) (k + l + 5) f fd ["self", "row"] (spAddM K C CR CT lb ck NR c1) := by
  have GN := mT.ok (k + l + 3) (by omega)
  have GR := cR.ok (k + l + 4) (by omega)
  have GC := cc.ok (k + l + 4) (by omega)
  have GG := cg.ok (k + l + 4) (by omega)
  refine F.okX scLAdd (fun vs H Q E h => ?_) (fun cdv A outer s H vs Q E hr h => ?_)
  · obtain ⟨lm, x, r, q, m, rs, rows, ps, v, _, rfl, _⟩ := h
    rfl
  · obtain ⟨lm, x, r, pq, m, rs, rows, ps, v, hlb, rfl, L, ok, p1, hv⟩ := h
    have nd := scLAdd.nd
    refine ⟨_, (pss_cons (ps_if (pt_not (pt_val (pe_call GR hr rfl cR.g cR.kp cR.b .nil pass0 (pa_cons (pe_prop (pe_fld (pv 0) rfl) TR.cl pW.hp (pW.ok (k + l + 3) (by omega)) hr pW.b .nil pass0 rfl) (pa_cons (pv 1) pa_nil))))) (pss_one (ps_raise rfl (takes_of rfl rfl rfl rfl) (pmk_own PySem.F.excBase_ValueError e1.x e1.g e1.k (raises_own e1.b e1.t) rfl))) pss_nil)
      (pss_cons (ps_set (i := 2) nd rfl (.inl rfl) (pe_lst (StX.pa_star (pe_prop (pe_fld (pv 0) rfl) TT.cl pTR.hp (pTR.ok (k + l + 3) (by omega)) hr pTR.b .nil pass0 rfl) (pa_cons (pv 1) pa_nil))))
      (pss_cons (ps_expr (pe_meth (pv 0) TL.cl cc.m GC hr cc.b .nil (passes_call (takes_of rfl rfl rfl rfl) (fun _ _ _ _ h => h)) (pa_cons (pv 2) pa_nil)))
      (pss_one (ps_expr (pe_meth (pv 0) TL.cl cg.m GG hr cg.b .nil pass0 (pa_cons (pe_makeRS mT.M GN hr rfl TT.mgC pass0 (pa_cons (pe_prop (pe_fld (pv 0) rfl) TR.cl pW.hp (pW.ok (k + l + 3) (by omega)) hr pW.b .nil pass0 rfl) (StX.pa_star (pv 2) pa_nil))) pa_nil))))))), ?_⟩
    obtain ⟨dx, t, hx, tt⟩ := L.at_
    obtain ⟨hs, hq, hl⟩ := L.past
    obtain ⟨dr, gr, ur, r1, r2, r3⟩ := L.book.same (wos_le _)
    obtain ⟨dt, g, us, t1, t2, t3⟩ := tt.same (wos_le _)
    have ul : us.length = rows.length := by rw [dps_len t3, List.length_map]
    have few := ok.few
    have hln := hl.len
    refine ⟨_, rfl, x, C, dx, _, _, rfl, hx, TL.cl, TL.nB, fldM_b _ _ _ _, r, dr, _, rfl, r1, r, dr, _, _, rfl, r1, flds_span _ _, _, rfl, ?_⟩
    rcases hv with ⟨tr, row, rfl, ht, rok, fw, eE, to⟩ | ⟨nr, eE⟩
    · refine .inl ⟨m, tr, row, rfl, ht, rok, ok.w6, fun H1 s1 => ⟨_, rfl, iteF ?_⟩⟩
      refine ⟨_, rfl, x, C, dx, _, _, rfl, s1 _ _ hx, TL.cl, TL.nH, fldM_h _ _ _ _, t, dt, _, rfl, s1 _ _ t1, t, dt, _, _, rfl, s1 _ _ t1, fldT_lines _ _, g, us, rfl, .inl (.inl (.inl (s1 _ _ t2))), _, rfl, ?_, fun p np => ?_⟩
      · rw [List.length_append]
        exact Nat.le_of_lt (small1000 (by show us.length + 1 ≤ 1000; omega))
      have s2 : Same H1 (upd H1 p (.lst (us ++ [.ref tr]))) := same_new np
      have hp : (upd H1 p (.lst (us ++ [.ref tr]))) p = some (.lst (us ++ [.ref tr])) := upd_same
      generalize upd H1 p (.lst (us ++ [.ref tr])) = H2 at s2 hp
      have s02 := s1.trans s2
      have dj : DpAll K H2 (us ++ [.ref tr]) ((rows ++ [row]).map gd) := by
        rw [List.map_append]
        exact dps_app (dps_same s02 _ _ t3) (dps_one (dp_gd (same_t s02 ht)))
      have okj : ∀ y ∈ rows ++ [row], RowOk m y := fun y hy => by
        rcases List.mem_append.mp hy with z | z
        · exact ok.ok y z
        · rw [List.mem_singleton.mp z]
          exact rok
      refine ⟨_, rfl, x, dx, _, rfl, s02 _ _ hx, fldM_no _ _ _ _ (by decide +kernel) (by decide +kernel) (by decide +kernel) (by decide +kernel), _, rfl, lm, x, r, pq, p, m, rs, rows, rows ++ [row], ps, _, hlb, rfl, L.keep s02, .inl (SqL.of hp), dj, okj, fw, (by rw [List.length_append]; show rows.length + 1 ≤ 401; omega), ok.rok, ok.r60, fun c hc H3 s3 => eE c hc _ (s02.trans s3), fun hc H3 s3 => ?_⟩
      have few2 := hck _ _ _ _ hc
      have s03 := s02.trans s3
      refine ⟨_, rfl, x, dx, _, rfl, s03 _ _ hx, fldM_no _ _ _ _ (by decide +kernel) (by decide +kernel) (by decide +kernel) (by decide +kernel), ?_⟩
      refine ⟨_, rfl, x, C, dx, _, _, rfl, s03 _ _ hx, TL.cl, TL.nB, fldM_b _ _ _ _, r, dr, _, rfl, s03 _ _ r1, r, dr, _, _, rfl, s03 _ _ r1, flds_span _ _, _, rfl, p, _, rfl, .inr (SqL.of (s3 _ _ hp)), ?_⟩
      refine fun t' dz nz ndz ne => ?_
      refine mkT_go (K := K) (C := CT) ok.w1 ok.w6 okj few2 (dps_same s3 _ _ dj) nz ndz ne fun H4 s4 tt' => ⟨rfl, ?_⟩
      have s04 := s03.trans s4
      exact ⟨lm, x, dx, r, t, pq, t', hs, rfl, s04 _ _ hx, s04 _ _ hq, by omega, changedM L s04 hx hq tt' (to hc)⟩
    · exact .inr ⟨m, v, rfl, nr, fun H1 s1 => ⟨_, rfl, iteT (eE _ s1)⟩⟩
/-- add of a class below Log: super().add(row) -/
theorem pass_add {C CR CT c1 D f f2 cda cc : Addr} {lb : Bool} {ck : CkM} {NR : NoR} {Q : VK} {E : XK} {H : Hp} {vs : List V} (h : spAddM K C CR CT lb ck NR c1 vs H Q E) : ∃ (x dx : Addr) (fs : List (Str × V)) (v : V), vs = [.ref x, v] ∧ H x = some (.ins C dx fs) ∧ fs.lookup ("add" : Str) = none ∧ spAddM K C CR CT lb ck NR c1 vs H (fun _ H3 => Q .non H3) E := by
  obtain ⟨lm, x, r, pq, m, rs, rows, ps, v, hlb, rfl, L, ok, p1, hv⟩ := h
  obtain ⟨dx, t, hx, _⟩ := L.at_
  refine ⟨x, dx, _, v, rfl, hx, fldM_no _ _ _ _ (by decide +kernel) (by decide +kernel) (by decide +kernel) (by decide +kernel), lm, x, r, pq, m, rs, rows, ps, v, hlb, rfl, L, ok, p1, ?_⟩
  rcases hv with ⟨tr, row, rfl, ht, rok, fw, eE, to⟩ | bad
  · exact .inl ⟨tr, row, rfl, ht, rok, fw, eE, fun e H' k L' => to e H' k L'⟩
  · exact .inr bad
end
end CC
namespace CC
open PySem L2 TL
section
variable {P : Program} {w : World} {K : PySem.W.Frag} {mg : Str → Option Value} {base : Heap} {kA : Addr}
theorem scLInit : FnScope ["self", "rules"] ["self", "rules"] (defScope sLInit) := ⟨rfl, rfl, rfl, by decide +kernel, rfl, by decide +kernel, by decide +kernel⟩
end
end CC
/-! C.m(..), m a plain def of the class at C -/
namespace CFU
open PySem PySem.Spec PySem.Calls PyProof.Rows L2 ClX
structure CFun (K : PySem.W.Frag) (C : Addr) (mc : Value) (m : Str) (g : Addr) : Prop where
  at_ : PySem.W.findCls K (.ref C) mc m = some (.val (.ref g))
  ty : PySem.W.typeIn K (.ref g) = some (.type "function")
  kp : PySem.W.keepIn K (.ref g) = true
def tCFun (C : Addr) (sp : Sp) (E : XK) (ta : TE) (t : TA) : TE := fun σ H Q => ta σ H fun x H1 => x = .ref C ∧ t σ H1 fun vs H2 => sp vs H2 Q E
section
variable {X : Cx} {CX : CXT} {k : Nat} {C g : Addr} {mc : Value} {sp : Sp} {E : XK} {o e : Expr} {es : List Expr} {m : Str} {pos apos : Pos} {ta : TE} {t : TA} {pl : Sem Bool}
theorem pe_cfun (he : PE X o ta) (r : CRead X.K C mc) (c : CFun X.K C mc m g) (F : FnR X.prog X.w X.K X.mg X.base CX k g sp) (hr : Room k X.A) (hx : Passes CX X E) (ha : PA X (e :: es) t)
    (hst : starEach (e :: es) X.env = (false, eval e X.env) :: starEach es X.env := by rfl) (hpl : (backTo pos (starEach es X.env)).any (·.1) = false := by rfl)
    (ht : eval (.Call (.Attribute o m apos) (e :: es) [] pos) X.env = (do
      let ov ← eval o X.env
      standAt apos.atName
      let (f, first) ← holding [ov] (getMethod ov m pl)
      callWith pos f first (backTo pos (starEach (e :: es) X.env)) (backToKw pos (keywordEach [] X.env))) := by rfl) :
    PE X (.Call (.Attribute o m apos) (e :: es) [] pos) (tCFun C sp E ta t) := by
  refine ⟨fun pins s σ H Q I h => ?_⟩
  refine PySem.W.methodCall_KW (pl := pl) (thn (he.run pins s σ H _ I h) fun u s1 ⟨x, H1, I1, rx, ex, q⟩ => ?_) ht
  subst ex
  obtain rfl : u = Value.ref C := rx
  refine PySem.W.method_cls I1.kIn r.ga (PySem.W.cls_value I1.kIn r.rd c.at_ rfl ?_)
  have I2 := I1.tok (s1.toks + 1)
  refine PySem.W.callWith_K (h₀ := X.base) I.ok.mod.kin c.kp (thn (ha.run pos pins _ σ _ _ I2 q) fun us s2 ⟨vs, H2, I3, r3, q3⟩ => ⟨I3.kIn, ?_⟩) hst hpl
  exact wpAny_call (run_fnR F hr hx I3 r3 q3)
end
end CFU
namespace CC
open PySem L2 TL
/-- plain values are no instances of the class -/
structure NoIns (K : PySem.W.Frag) (C : Addr) : Prop where
  kit : ∀ n ∈ OC.oddTys, PySem.W.kitOne K (.type n) (.ref C) = some false
  sub : ∀ n ∈ OC.oddTys, PySem.W.subIn K (.type n) (.ref C) = some false
/-- isinstance(x, C), x an instance of C or a plain value -/
def rIsCX (K : PySem.W.Frag) (C : Addr) : List V → Hp → VK → Prop := fun xs H Q => (∃ a dx fs, xs = [.ref a, .ref C] ∧ H a = some (.ins C dx fs) ∧ Q (.bl true) H) ∨ ∃ y, xs = [y, .ref C] ∧ OC.OddV K H y ∧ Q (.bl false) H
theorem call_isCX {X : Cx} {C : Addr} (ic : C8.InsC X.K C) (no : NoIns X.K C) : CallR X (.builtin "isinstance") (rIsCX X.K C) := by
  intro pins s σ H xs us Q I r h
  rcases h with h | ⟨y, rfl, ⟨n, ty, hn⟩, q⟩
  · exact C8.call_isC ic pins s σ H xs us Q I r h
  · exact call_isi pins s σ H _ us Q I r ⟨y, .ref C, _, _, false, rfl, .own C, ty, no.kit n hn, q⟩
end CC
namespace CC
open PySem L2 TL
/-! ### how a log is made -/
/-- isinstance(x, C): an instance of C, or a value of which NI says that it is none -/
def rIsG (C : Addr) (NI : Hp → V → Prop) : List V → Hp → VK → Prop := fun xs H Q => (∃ a dx fs, xs = [.ref a, .ref C] ∧ H a = some (.ins C dx fs) ∧ Q (.bl true) H) ∨ ∃ y, xs = [y, .ref C] ∧ NI H y ∧ Q (.bl false) H
def IsG (K : PySem.W.Frag) (C : Addr) (NI : Hp → V → Prop) : Prop := ∀ {X : Cx}, X.K = K → CallR X (.builtin "isinstance") (rIsG C NI)
theorem isG_plain {K : PySem.W.Frag} {C : Addr} (ic : C8.InsC K C) (no : NoIns K C) : IsG K C (OC.OddV K) := by
  intro X e
  subst e
  intro pins s σ H xs us Q I r h
  exact call_isCX ic no pins s σ H xs us Q I r h
theorem fldM_put (b h p : Addr) : putF "past" (.ref p) (putF "held" (.ref h) (putF "book" (.ref b) [])) = fldM none b h p := by
  rw [fldL_put]
  unfold fldM lmF
  rw [List.append_nil]
/-- Log(v) -/
def spLInitM (K : PySem.W.Frag) (C CR CT c3 : Addr) (NI : Hp → V → Prop) : Sp := fun vs H Q E => ∃ (x dx : Addr) (v : V), vs = [.ref x, v] ∧ H x = some (.ins C dx []) ∧
  ((∃ (r : Addr) (w : Nat) (rs : List R), v = .ref r ∧ RulesAt K CR (wo H x) r w rs ∧ 1 ≤ w ∧ w ≤ 6 ∧ ∀ (H' : Hp) (q : Addr), (∀ b o, H b = some o → b ≠ x → H' b = some o) → H q = none → LgAt K C CR CT none H' x r q w rs [] [] → Q .non H') ∨
   (NI H v ∧ E (.ref c3) none H))
/-- what is no limit -/
def NoLim (K : PySem.W.Frag) (H : Hp) (v : V) : Prop := NoInt K H v ∨ ∃ z : Int, v = .int z ∧ ¬ (0 ≤ z ∧ z ≤ 400)
/-- Short(v, l) -/
def spHInit (K : PySem.W.Frag) (C CR CT c3 c1 : Addr) (NI : Hp → V → Prop) : Sp := fun vs H Q E => ∃ (x dx : Addr) (v l : V), vs = [.ref x, v, l] ∧ H x = some (.ins C dx []) ∧
  ((∃ (r : Addr) (w : Nat) (rs : List R), v = .ref r ∧ RulesAt K CR (wo H x) r w rs ∧ 1 ≤ w ∧ w ≤ 6 ∧
     ((∃ m : Nat, l = .int (m : Int) ∧ m ≤ 400 ∧ ∀ (H' : Hp) (q : Addr), (∀ b o, H b = some o → b ≠ x → H' b = some o) → H q = none → LgAt K C CR CT (some m) H' x r q w rs [] [] → Q .non H') ∨
      (NoLim K (wo H x) l ∧ ∀ H' : Hp, (∀ b o, H b = some o → b ≠ x → H' b = some o) → E (.ref c1) none H'))) ∨
   (NI H v ∧ E (.ref c3) none H))
section
variable {P : Program} {w : World} {K : PySem.W.Frag} {mg : Str → Option Value} {base : Heap} {kA : Addr}
theorem ok_linitM {f C CR CT c3 : Addr} {NI : Hp → V → Prop} {fd : FuncData} {k : Nat} (F : Fun K "__init__" "Log.__init__" sLInit f fd) (T : Glb K mg kA) (TL : TxtM K C) (TR : Txt1 K mg CR) (TT : TxtT K mg CT) (e3 : ExcK K mg "NotRules" c3) (hci : IsG K CR NI) (pW : Prp P w K mg base CR "width" "span") (mT : MakeT P w K mg base CT 3) : FnOk P w K mg base (L2.CX P w) (k + 5) f fd ["self", "rules"] (spLInitM K C CR CT c3 NI) := by
  have GN := mT.ok (k + 3) (by omega)
  refine F.okX scLInit (fun vs H Q E h => ?_) (fun cdv A outer s H vs Q E hr h => ?_)
  · obtain ⟨x, dx, v, rfl, _⟩ := h
    rfl
  · obtain ⟨x, dx, v, rfl, hx, hv⟩ := h
    refine ⟨_, (pss_cons (ps_if (pt_not (pt_val (pe_callB (hci rfl) (by rfl) T.isi (by decide +kernel) (pa_cons (pv 1) (pa_cons (pe_glob (v := .ref CR) rfl TR.mgC rfl) pa_nil))))) (pss_one (ps_raise rfl (takes_of rfl rfl rfl rfl) (pmk_own PySem.F.excBase_ValueError e3.x e3.g e3.k (raises_own e3.b e3.t) rfl))) pss_nil)
      (pss_cons (ps_fld (pv 0) (pv 1) rfl)
      (pss_cons (ps_fld (pv 0) (StX.pe_makeR mT.M GN hr rfl TT.mgC pass0 (pa_cons (pe_prop (pv 1) TR.cl pW.hp (pW.ok (k + 3) (by omega)) hr pW.b .nil pass0 rfl) pa_nil)) rfl)
      (pss_one (ps_fld (pv 0) (pe_lst pa_nil) rfl))))), ?_⟩
    rcases hv.symm with ⟨ni, eE⟩ | ⟨r, m, rs, rfl, bk, w1, w6, q⟩
    · exact ⟨_, rfl, .inr ⟨v, rfl, ni, _, rfl, iteT eE⟩⟩
    obtain ⟨dr, g, us, r1, r2, r3⟩ := id bk
    have rx : r ≠ x := fun z => by rw [z, wo_at] at r1; cases r1
    have gx : g ≠ x := fun z => by rw [z, wo_at] at r2; cases r2
    have r1' := wo_le x _ _ r1
    refine ⟨_, rfl, .inl ⟨r, dr, _, rfl, r1', _, rfl, iteF ?_⟩⟩
    refine ⟨_, rfl, _, rfl, x, C, dx, _, rfl, hx, TL.cl, TL.nB, (by show 0 < 1000; decide), ?_⟩
    have h1x : (upd H x (.ins C dx (putF "book" (.ref r) []))) x = some (.ins C dx (putF "book" (.ref r) [])) := upd_same
    have k1 : Same (wo H x) (wo (upd H x (.ins C dx (putF "book" (.ref r) []))) x) := by
      rw [wo_upd]
      exact Same.refl _
    generalize upd H x (.ins C dx (putF "book" (.ref r) [])) = H1 at h1x k1
    have r11 := wo_le x _ _ (k1 _ _ r1)
    refine ⟨_, rfl, r, dr, _, rfl, r11, r, dr, _, _, rfl, r11, flds_span _ _, ?_⟩
    refine fun t dz nt ndz ne => ?_
    refine mkT_go (K := K) (C := CT) (H := H1) (us := []) (rows := []) w1 w6 (fun r hr => nomatch hr) (Nat.zero_le _) .nil nt ndz ne fun H2 s2 tt => ⟨rfl, ?_⟩
    have h2x := s2 _ _ h1x
    refine ⟨_, rfl, x, C, dx, _, rfl, h2x, TL.cl, TL.nH, (by show 1 < 1000; decide), ?_⟩
    have h3x : (upd H2 x (.ins C dx (putF "held" (.ref t) (putF "book" (.ref r) [])))) x = some (.ins C dx (putF "held" (.ref t) (putF "book" (.ref r) []))) := upd_same
    have k3 : Same (wo H2 x) (wo (upd H2 x (.ins C dx (putF "held" (.ref t) (putF "book" (.ref r) [])))) x) := by
      rw [wo_upd]
      exact Same.refl _
    have tx : TableAt K CT (wo H2 x) t m [] := by
      obtain ⟨dt, gt, ut, t1, t2, t3⟩ := tt
      have a1 : t ≠ x := fun z => by rw [z, h1x] at nt; cases nt
      have a2 : gt ≠ x := ne_of t2 h2x (by intro z; cases z)
      refine ⟨dt, gt, ut, by rw [wo_ne a1]; exact t1, by rw [wo_ne a2]; exact t2, ?_⟩
      cases t3
      exact .nil
    generalize upd H2 x (.ins C dx (putF "held" (.ref t) (putF "book" (.ref r) []))) = H3 at h3x k3
    refine ⟨Nat.zero_le _, fun p np => ?_⟩
    have px : p ≠ x := fun z => by rw [z, h3x] at np; cases np
    have h4x : (upd H3 p (.lst [])) x = some (.ins C dx (putF "held" (.ref t) (putF "book" (.ref r) []))) := by
      rw [upd_ne px.symm]
      exact h3x
    refine ⟨_, rfl, x, C, dx, _, rfl, h4x, TL.cl, TL.nP, (Nat.lt_of_le_of_lt (putF_len _ _ _) (by show 2 < 1000; decide)), ?_⟩
    rw [fldM_put]
    have s03 : Same (wo H x) (wo H3 x) := (k1.trans (wo_same s2)).trans k3
    have key : ∀ b o, wo H3 x b = some o → wos (upd (upd H3 p (.lst [])) x (.ins C dx (fldM none r t p))) [x, p] b = some o := fun b o e => by
      have bx : b ≠ x := fun z => by rw [z, wo_at] at e; cases e
      rw [wo_ne bx] at e
      have bp : b ≠ p := ne_of_none e np
      rw [wos_in (by simp [bx, bp]), upd_ne bx, upd_ne bp]
      exact e
    refine q _ p (fun b o e hb => ?_) ?_ ⟨⟨dx, t, upd_same, tx.same (k3.trans key)⟩, bk.same (s03.trans key), [], ?_, .nil⟩
    · have := s03 b o (by rw [wo_ne hb]; exact e)
      exact wos_le _ _ _ (key b o this)
    · cases z : H p with
      | none => rfl
      | some o =>
        have := wo_le x _ _ (s03 p o (by rw [wo_ne px]; exact z))
        rw [np] at this
        cases this
    · rw [upd_ne px]
      exact upd_same
theorem scSInitM : FnScope ["self", "rules"] ["self", "rules"] (defScope sSInitM) := ⟨rfl, rfl, rfl, by decide +kernel, rfl, by decide +kernel, by decide +kernel⟩
theorem ok_sinitM {f f2 C CL CR CT c3 : Addr} {NI : Hp → V → Prop} {mc : Value} {fd : FuncData} {k l : Nat} (F : Fun K "__init__" "Strict.__init__" sSInitM f fd) (gL : mg "Log" = some (.ref CL)) (r : ClX.CRead K CL mc) (c : CFU.CFun K CL mc "__init__" f2) (li : ∀ k, l ≤ k → FnR P w K mg base (L2.CX P w) k f2 (spLInitM K C CR CT c3 NI)) : FnOk P w K mg base (L2.CX P w) (k + l + 1) f fd ["self", "rules"] (spLInitM K C CR CT c3 NI) := by
  have GL := li (k + l) (by omega)
  refine F.okX scSInitM (fun vs H Q E h => ?_) (fun cdv A outer s H vs Q E hr h => ?_)
  · obtain ⟨x, dx, v, rfl, _⟩ := h
    rfl
  · obtain ⟨x, dx, v, rfl, hx, hv⟩ := h
    refine ⟨_, (pss_one (ps_expr (CFU.pe_cfun (pe_glob (v := .ref CL) rfl gL rfl) r c GL hr (passes_call (takes_of rfl rfl rfl rfl) (fun _ _ _ _ h => h)) (pa_cons (pv 0) (pa_cons (pv 1) pa_nil))))), ?_⟩
    refine ⟨rfl, _, rfl, _, rfl, x, dx, v, rfl, hx, ?_⟩
    rcases hv with ⟨r, m, rs, rfl, bk, w1, w6, q⟩ | bad
    · exact .inl ⟨r, m, rs, rfl, bk, w1, w6, fun H' q' h1 h2 h3 => q H' q' h1 h2 h3⟩
    · exact .inr bad
/-- the limit behind the other fields -/
theorem LgAt.limit {C CR CT x r q dx t : Addr} {H : Hp} {w m : Nat} {rs : List R} {rows : List (List Nat)} {ps : List (List (List Nat))} (L : LgAt K C CR CT none H x r q w rs rows ps) (hx : H x = some (.ins C dx (fldM none r t q))) : LgAt K C CR CT (some m) (upd H x (.ins C dx (fldM (some m) r t q))) x r q w rs rows ps := by
  obtain ⟨⟨dx0, t0, h1, h2⟩, h3, ⟨hs, h4, h5⟩⟩ := id L
  have et : t0 = t := by
    rw [hx] at h1
    have z := congrArg (fun o => match o with | some (HO.ins _ _ fs) => fs.lookup ("held" : Str) | _ => none) h1
    simp only [fldM_h] at z
    cases z
    rfl
  subst et
  have k : Same (wos H [x, q]) (wos (upd H x (.ins C dx (fldM (some m) r t0 q))) [x, q]) := fun b o e => by
    obtain ⟨nb, e⟩ := wos_at e
    rw [wos_in nb, upd_ne (fun z => nb (by simp [z]))]
    exact e
  exact ⟨⟨dx, t0, upd_same, h2.same k⟩, h3.same k, ⟨hs, by rw [upd_ne L.ne.symm]; exact h4, h5.same k⟩⟩
theorem scHInit : FnScope ["self", "rules", "most"] ["self", "rules", "most"] (defScope sHInit) := ⟨rfl, rfl, rfl, by decide +kernel, rfl, by decide +kernel, by decide +kernel⟩
theorem ok_hinit {f f2 C CL CR CT c3 c1 : Addr} {NI : Hp → V → Prop} {mc : Value} {fd : FuncData} {dvs : List V} {k l : Nat} (F : FunD K "__init__" "Short.__init__" (defArgs sHInit) (defBody sHInit) (defScope sHInit) dvs [] f fd) (T : Glb K mg kA) (TT : GlbT mg) (TL : TxtM K C) (e1 : ExcK K mg "NoNumber" c1) (gL : mg "Log" = some (.ref CL)) (r : ClX.CRead K CL mc) (c : CFU.CFun K CL mc "__init__" f2) (li : ∀ k, l ≤ k → FnR P w K mg base (L2.CX P w) k f2 (spLInitM K C CR CT c3 NI)) (cI : Cal P w K mg base "is_an_integer" ["thing"] (spIsIntX K) 1) : FnOk P w K mg base (L2.CX P w) (k + l + 2) f fd ["self", "rules", "most"] (spHInit K C CR CT c3 c1 NI) := by
  have GL := li (k + l + 1) (by omega)
  have GI := cI.ok (k + l + 1) (by omega)
  obtain ⟨tm, hmr⟩ := TT.mr
  refine F.ok scHInit (fun vs H Q E h => ?_) (fun cdv A outer s H vs Q E hr h => ?_)
  · obtain ⟨x, dx, v, l, rfl, _⟩ := h
    rfl
  · obtain ⟨x, dx, v, lv, rfl, hx, hv⟩ := h
    refine ⟨_, (pss_cons (ps_expr (CFU.pe_cfun (pe_glob (v := .ref CL) rfl gL rfl) r c GL hr (passes_call (takes_of rfl rfl rfl rfl) (fun _ _ _ _ h => h)) (pa_cons (pv 0) (pa_cons (pv 1) pa_nil))))
      (pss_cons (ps_if (PW.pt (pw_or (pt_not (pt_val (pe_call GI hr rfl cI.g cI.kp cI.b .nil pass0 (pa_cons (pv 2) pa_nil)))) (pw_or1 (pt_not (pt_chain op_le op_le pe_int (pv 2) (pe_glob (v := .int 400) rfl hmr ⟨_, rfl⟩)))))) (pss_one (ps_raise rfl (takes_of rfl rfl rfl rfl) (pmk_own PySem.F.excBase_ValueError e1.x e1.g e1.k (raises_own e1.b e1.t) rfl))) pss_nil)
      (pss_one (ps_fld (pv 0) (pv 2) rfl)))), ?_⟩
    refine ⟨rfl, _, rfl, _, rfl, x, dx, v, rfl, hx, ?_⟩
    rcases hv.symm with bad | ⟨r', m, rs, rfl, bk, w1, w6, hl⟩
    · exact .inr bad
    refine .inl ⟨r', m, rs, rfl, bk, w1, w6, fun H1 q' k1 nq L => ?_⟩
    rcases hl with ⟨lim, rfl, l4, q⟩ | ⟨nl, eE⟩
    · refine ⟨_, rfl, .inl ⟨_, rfl, _, rfl, iteF ?_⟩⟩
      have g1 : decide ((0 : Int) ≤ (lim : Int)) = true := decide_eq_true (by omega)
      have g2 : decide ((lim : Int) ≤ (400 : Int)) = true := decide_eq_true (by omega)
      refine ⟨_, rfl, _, _, rfl, rfl, _, rfl, iteT' g1 ⟨_, _, rfl, rfl, _, rfl, iteF' (by rw [g2]; rfl) ?_⟩⟩
      obtain ⟨dx1, t, hx1, _⟩ := L.at_
      refine ⟨_, rfl, _, rfl, x, C, dx1, _, rfl, hx1, TL.cl, TL.nL, fldM_len _ _ _ _, ?_⟩
      rw [fldM_lim]
      exact q _ q' (fun b o e hb => by rw [upd_ne hb]; exact k1 b o e hb) nq (L.limit hx1)
    · have nl' : NoLim K H1 lv := by
        rcases nl with ⟨n, ty, hn⟩ | z
        · exact .inl ⟨n, ty_same (fun b o e => by
            by_cases hb : b = x
            · rw [hb, wo_at] at e
              cases e
            · rw [wo_ne hb] at e
              exact k1 b o e hb) ty, hn⟩
        · exact .inr z
      rcases nl' with no | ⟨z, rfl, hz⟩
      · exact ⟨_, rfl, .inr ⟨lv, rfl, no, _, rfl, iteT (eE H1 k1)⟩⟩
      · refine ⟨_, rfl, .inl ⟨z, rfl, _, rfl, iteF ?_⟩⟩
        refine ⟨_, rfl, _, _, rfl, rfl, _, rfl, ?_⟩
        by_cases h1 : (0 : Int) ≤ z
        · exact iteT' (decide_eq_true h1) ⟨_, _, rfl, rfl, _, rfl, iteT' (by rw [decide_eq_false (show ¬ z ≤ (400 : Int) from fun h => hz ⟨h1, h⟩)]; rfl) (eE H1 k1)⟩
        · exact iteF' (decide_eq_false h1) ⟨_, rfl, iteT (eE H1 k1)⟩
theorem scGInit : FnScope ["self", "rules", "most"] ["self", "rules", "most"] (defScope sGInit) := ⟨rfl, rfl, rfl, by decide +kernel, rfl, by decide +kernel, by decide +kernel⟩
theorem ok_ginit {f f2 C CL CR CT c3 c1 : Addr} {NI : Hp → V → Prop} {mc : Value} {fd : FuncData} {dvs : List V} {k l : Nat} (F : FunD K "__init__" "StrictShort.__init__" (defArgs sGInit) (defBody sGInit) (defScope sGInit) dvs [] f fd) (gL : mg "Short" = some (.ref CL)) (r : ClX.CRead K CL mc) (c : CFU.CFun K CL mc "__init__" f2) (li : ∀ k, l ≤ k → FnR P w K mg base (L2.CX P w) k f2 (spHInit K C CR CT c3 c1 NI)) : FnOk P w K mg base (L2.CX P w) (k + l + 1) f fd ["self", "rules", "most"] (spHInit K C CR CT c3 c1 NI) := by
  have GL := li (k + l) (by omega)
  refine F.ok scGInit (fun vs H Q E h => ?_) (fun cdv A outer s H vs Q E hr h => ?_)
  · obtain ⟨x, dx, v, l, rfl, _⟩ := h
    rfl
  · obtain ⟨x, dx, v, lv, rfl, hx, hv⟩ := h
    refine ⟨_, (pss_one (ps_expr (CFU.pe_cfun (pe_glob (v := .ref CL) rfl gL rfl) r c GL hr (passes_call (takes_of rfl rfl rfl rfl) (fun _ _ _ _ h => h)) (pa_cons (pv 0) (pa_cons (pv 1) (pa_cons (pv 2) pa_nil)))))), ?_⟩
    refine ⟨rfl, _, rfl, _, rfl, _, rfl, x, dx, v, lv, rfl, hx, ?_⟩
    rcases hv with ⟨r', m, rs, rfl, bk, w1, w6, hl⟩ | bad
    · refine .inl ⟨r', m, rs, rfl, bk, w1, w6, ?_⟩
      rcases hl with ⟨lim, rfl, l4, q⟩ | nl
      · exact .inl ⟨lim, rfl, l4, fun H' q' h1 h2 h3 => q H' q' h1 h2 h3⟩
      · exact .inr nl
    · exact .inr bad
end
end CC
namespace CC
open PySem L2 TL
/-! ### how a log of any class is made -/
/-- which exception check of a log of a kind raises -/
noncomputable def ckOf (c5 c7 : Addr) : Nat → CkM
  | 0 => ckA c5
  | 1 => ckTh (ckA c5) (ckBr c7)
  | 2 => ckTh (ckA c5) (ckMo c5)
  | _ => ckTh (ckTh (ckA c5) (ckMo c5)) (ckBr c7)
theorem pass0Y {X : Cx} : Passes (L2.CX X.prog X.w) X E0 := fun _ _ _ _ _ _ _ h => by
  obtain ⟨_, _, _, _, _, _, _, _, _, _, _, _, z⟩ := h
  exact z.elim
/-- how logs are made -/
structure MakeC (P : Program) (w : World) (K : PySem.W.Frag) (mg : Str → Option Value) (base : Heap) (x : Str) (C : Addr) (ps : List Str) (sp : Sp) (l : Nat) where
  f : Addr
  fd : FuncData
  M : Mk K C f
  ok : ∀ k, l ≤ k → FnOk P w K mg base (L2.CX P w) k f fd ps sp
  g : mg x = some (.ref C)
structure MakeP (P : Program) (w : World) (K : PySem.W.Frag) (mg : Str → Option Value) (base : Heap) (x : Str) (C : Addr) (ps : List Str) (sp : Sp) (l : Nat) extends MakeC P w K mg base x C ps sp l where
  b : Binds K fd ps []
/-- with most=.. -/
structure MakeQ (P : Program) (w : World) (K : PySem.W.Frag) (mg : Str → Option Value) (base : Heap) (x : Str) (C : Addr) (ps : List Str) (sp : Sp) (l : Nat) extends MakeC P w K mg base x C ps sp l where
  g1 : List Value → List Value → List Value
  kb : KBn K fd ps 2 ["most"] g1 (fun vs zs => vs ++ zs)
def spMdl (K : PySem.W.Frag) (CC_ : Nat → Addr) (CR CT : Addr) : Sp := fun vs H Q _ => ∃ (kd : Nat) (r : Addr) (cap w : Nat) (rs : List R), vs = [.int (kd : Int), .ref r, .int (cap : Int)] ∧ kd < 4 ∧ cap ≤ 400 ∧ RulesAt K CR H r w rs ∧ 1 ≤ w ∧ w ≤ 6 ∧
  ∀ (x q : Addr) (H' : Hp), Same H H' → H x = none → H q = none → LgAt K (CC_ kd) CR CT (lmOf kd cap) H' x r q w rs [] [] → Q (.ref x) H'
section
variable {P : Program} {w : World} {K : PySem.W.Frag} {mg : Str → Option Value} {base : Heap} {kA : Addr}
abbrev nMdl : List Str := ["_law_kind", "_law_asked", "_law_cap"]
theorem scMdl : FnScope nMdl ["_law_kind", "_law_asked", "_law_cap"] (defScope sMdl) := ⟨rfl, rfl, rfl, by decide +kernel, rfl, by decide +kernel, by decide +kernel⟩
theorem made_go {C CR CT x dx : Addr} {lm : Option Nat} {H : Hp} {r : Addr} {m : Nat} {rs : List R} {Q : VK} (nx : H x = none) (ndx : H dx = none) (ne : dx ≠ x) (bk : RulesAt K CR H r m rs) (q : ∀ (x q : Addr) (H' : Hp), Same H H' → H x = none → H q = none → LgAt K C CR CT lm H' x r q m rs [] [] → Q (.ref x) H') :
    (upd (upd H dx (.own x)) x (.ins C dx [])) x = some (.ins C dx []) ∧ RulesAt K CR (wo (upd (upd H dx (.own x)) x (.ins C dx [])) x) r m rs ∧ ∀ (H' : Hp) (q' : Addr), (∀ b o, (upd (upd H dx (.own x)) x (.ins C dx [])) b = some o → b ≠ x → H' b = some o) → (upd (upd H dx (.own x)) x (.ins C dx [])) q' = none → LgAt K C CR CT lm H' x r q' m rs [] [] → V.non = V.non ∧ Q (.ref x) H' := by
  have s1 : Same H (upd (upd H dx (.own x)) x (.ins C dx [])) := fun b o e => by
    rw [upd_ne (ne_of_none e nx), upd_ne (ne_of_none e ndx)]
    exact e
  refine ⟨upd_same, bk.same fun b o e => ?_, fun H' q' k1 nq L => ⟨rfl, ?_⟩⟩
  · rw [wo_ne (ne_of_none e nx)]
    exact s1 _ _ e
  · exact q x q' H' (fun b o e => k1 b o (s1 _ _ e) (ne_of_none e nx)) nx (s1.free nq) L
theorem ok_mdl {f c3 c1 : Addr} {C4 : Nat → Addr} {CR CT : Addr} {NI : Hp → V → Prop} {fd : FuncData} {k l : Nat} (F : Fun K "_law_made" "_law_made" sMdl f fd) (T : Glb K mg kA)
    (m0 : MakeP P w K mg base "Log" (C4 0) ["self", "rules"] (spLInitM K (C4 0) CR CT c3 NI) l) (m1 : MakeP P w K mg base "Strict" (C4 1) ["self", "rules"] (spLInitM K (C4 1) CR CT c3 NI) l) (m2 : MakeQ P w K mg base "Short" (C4 2) ["self", "rules", "most"] (spHInit K (C4 2) CR CT c3 c1 NI) l) (m3 : MakeQ P w K mg base "StrictShort" (C4 3) ["self", "rules", "most"] (spHInit K (C4 3) CR CT c3 c1 NI) l) : FnOk P w K mg base CX0 (k + l + 2) f fd ["_law_kind", "_law_asked", "_law_cap"] (spMdl K C4 CR CT) := by
  have G0 := m0.ok (k + l) (by omega)
  have G1 := m1.ok (k + l) (by omega)
  have G2 := m2.ok (k + l) (by omega)
  have G3 := m3.ok (k + l) (by omega)
  refine F.ok scMdl (fun vs H Q E h => ?_) (fun cdv A outer s H vs Q E hr h => ?_)
  · obtain ⟨kd, r, cap, m, rs, rfl, _⟩ := h
    rfl
  · obtain ⟨kd, r, cap, m, rs, rfl, k4, c4, bk, w1, w6, q⟩ := h
    have n := scMdl.nd
    refine ⟨_, (pss_cons (ps_if (pt_cmpR op_eq (pv 0) pe_int (nomark _)) (pss_one (ps_ret (pe_make m0.M G0 hr rfl m0.g m0.b .nil (E := E0) pass0Y (pa_cons (pv 1) pa_nil)))) pss_nil)
      (pss_cons (ps_if (pt_cmpR op_eq (pv 0) pe_int (nomark _)) (pss_one (ps_ret (pe_make m1.M G1 hr rfl m1.g m1.b .nil (E := E0) pass0Y (pa_cons (pv 1) pa_nil)))) pss_nil)
      (pss_one (ps_ret (pe_ifExp (pt_cmpR op_eq (pv 0) pe_int (nomark _)) (pe_makeN (n := 1) m2.M G2 hr rfl m2.g m2.kb (E := E0) pass0Y (pa_cons (pv 1) pa_nil) (pk_cons (pv 2) pk_nil)) (pe_makeN (n := 1) m3.M G3 hr rfl m3.g m3.kb (E := E0) pass0Y (pa_cons (pv 1) pa_nil) (pk_cons (pv 2) pk_nil))))))), ?_⟩
    have ek : ∀ j : Nat, decide (V.int (kd : Int) = V.int (j : Int)) = decide (kd = j) := fun j => by
      by_cases e : kd = j
      · rw [e, decide_eq_true rfl, decide_eq_true rfl]
      · rw [decide_eq_false e, decide_eq_false (fun z => e (by injection z with z; omega))]
    have k4' : kd = 0 ∨ kd = 1 ∨ kd = 2 ∨ kd = 3 := by omega
    rcases k4' with rfl | rfl | rfl | rfl
    · refine ⟨_, rfl, rfl, _, rfl, iteT' (by decide +kernel) ?_⟩
      refine ⟨_, rfl, fun x dx nx ndx ne => ?_⟩
      obtain ⟨a1, a2, a3⟩ := made_go (Q := Q) nx ndx ne bk q
      exact ⟨x, dx, _, rfl, a1, .inl ⟨r, m, rs, rfl, a2, w1, w6, a3⟩⟩
    · refine ⟨_, rfl, rfl, _, rfl, iteF' (by decide +kernel) ⟨_, rfl, rfl, _, rfl, iteT' (by decide +kernel) ?_⟩⟩
      refine ⟨_, rfl, fun x dx nx ndx ne => ?_⟩
      obtain ⟨a1, a2, a3⟩ := made_go (Q := Q) nx ndx ne bk q
      exact ⟨x, dx, _, rfl, a1, .inl ⟨r, m, rs, rfl, a2, w1, w6, a3⟩⟩
    · refine ⟨_, rfl, rfl, _, rfl, iteF' (by decide +kernel) ⟨_, rfl, rfl, _, rfl, iteF' (by decide +kernel) ?_⟩⟩
      refine ⟨_, rfl, rfl, _, rfl, iteT' (by decide +kernel) ?_⟩
      refine ⟨_, rfl, _, rfl, rfl, rfl, fun x dx nx ndx ne => ?_⟩
      obtain ⟨a1, a2, a3⟩ := made_go (Q := Q) nx ndx ne bk q
      exact ⟨x, dx, _, _, rfl, a1, .inl ⟨r, m, rs, rfl, a2, w1, w6, .inl ⟨cap, rfl, c4, a3⟩⟩⟩
    · refine ⟨_, rfl, rfl, _, rfl, iteF' (by decide +kernel) ⟨_, rfl, rfl, _, rfl, iteF' (by decide +kernel) ?_⟩⟩
      refine ⟨_, rfl, rfl, _, rfl, iteF' (by decide +kernel) ?_⟩
      refine ⟨_, rfl, _, rfl, rfl, rfl, fun x dx nx ndx ne => ?_⟩
      obtain ⟨a1, a2, a3⟩ := made_go (Q := Q) nx ndx ne bk q
      exact ⟨x, dx, _, _, rfl, a1, .inl ⟨r, m, rs, rfl, a2, w1, w6, .inl ⟨cap, rfl, c4, a3⟩⟩⟩
end
end CC
namespace CC
open PySem L2 TL
/-! ### add and the call, of the classes below Log -/
section
variable {P : Program} {w : World} {K : PySem.W.Frag} {mg : Str → Option Value} {base : Heap} {kA : Addr}
theorem scsAdd : SUP.SupS ["self", "row"] ["self", "row"] (defScope ssAdd) := ⟨rfl, rfl, rfl, by decide +kernel, rfl, by decide +kernel, by decide +kernel, by decide +kernel, rfl, rfl⟩
theorem ok_sadd {f f2 C D CR CT c1 cda cc : Addr} {lb : Bool} {ck : CkM} {NR : NoR} {fd : FuncData} {k l : Nat} (F : FunS K "add" "Strict.add" ssAdd f fd cda cc) (SK : SUP.SupK P K cda cc D) (hsuper : mg "super" = none) (SM : SUP.SupM K C D "add" f2)
    (la : ∀ k, l ≤ k → FnR P w K mg base (L2.CX P w) k f2 (spAddM K C CR CT lb ck NR c1)) : FnOk P w K mg base (L2.CX P w) (k + l + 1) f fd ["self", "row"] (spAddM K C CR CT lb ck NR c1) := by
  have GL := la (k + l) (by omega)
  obtain ⟨oc, od, kV, doc, pm, an, ct, osl, rfl, lk, hcd⟩ := F.ex
  refine SUP.fn_super (k := k + l) lk hcd SK scsAdd hsuper rfl rfl rfl (by decide +kernel) (fun vs H Q E h => ?_) (fun A outer s H vs Q E hr h => ?_)
  · obtain ⟨x, dx, fs, v, rfl, _⟩ := pass_add (D := D) (f := f) (f2 := f2) (cda := cda) (cc := cc) h
    rfl
  · obtain ⟨x, dx, fs, v, rfl, hx, _, h'⟩ := pass_add (D := D) (f := f) (f2 := f2) (cda := cda) (cc := cc) h
    exact ⟨x, C, dx, _, f2, spAddM K C CR CT lb ck NR c1, _, _, rfl, hx, SM, GL, pa_cons (pv 1) pa_nil, pss_nil, _, rfl, h'⟩
theorem schAdd : SUP.SupS ["self", "row"] ["self", "row"] (defScope shAdd) := ⟨rfl, rfl, rfl, by decide +kernel, rfl, by decide +kernel, by decide +kernel, by decide +kernel, rfl, rfl⟩
theorem ok_hadd {f f2 C D CR CT c1 cda cc : Addr} {lb : Bool} {ck : CkM} {NR : NoR} {fd : FuncData} {k l : Nat} (F : FunS K "add" "Short.add" shAdd f fd cda cc) (SK : SUP.SupK P K cda cc D) (hsuper : mg "super" = none) (SM : SUP.SupM K C D "add" f2)
    (la : ∀ k, l ≤ k → FnR P w K mg base (L2.CX P w) k f2 (spAddM K C CR CT lb ck NR c1)) : FnOk P w K mg base (L2.CX P w) (k + l + 1) f fd ["self", "row"] (spAddM K C CR CT lb ck NR c1) := by
  have GL := la (k + l) (by omega)
  obtain ⟨oc, od, kV, doc, pm, an, ct, osl, rfl, lk, hcd⟩ := F.ex
  refine SUP.fn_super (k := k + l) lk hcd SK schAdd hsuper rfl rfl rfl (by decide +kernel) (fun vs H Q E h => ?_) (fun A outer s H vs Q E hr h => ?_)
  · obtain ⟨x, dx, fs, v, rfl, _⟩ := pass_add (D := D) (f := f) (f2 := f2) (cda := cda) (cc := cc) h
    rfl
  · obtain ⟨x, dx, fs, v, rfl, hx, _, h'⟩ := pass_add (D := D) (f := f) (f2 := f2) (cda := cda) (cc := cc) h
    exact ⟨x, C, dx, _, f2, spAddM K C CR CT lb ck NR c1, _, _, rfl, hx, SM, GL, pa_cons (pv 1) pa_nil, pss_nil, _, rfl, h'⟩
theorem scgAdd : SUP.SupS ["self", "row"] ["self", "row"] (defScope sgAdd) := ⟨rfl, rfl, rfl, by decide +kernel, rfl, by decide +kernel, by decide +kernel, by decide +kernel, rfl, rfl⟩
theorem ok_gadd {f f2 C D CR CT c1 cda cc : Addr} {lb : Bool} {ck : CkM} {NR : NoR} {fd : FuncData} {k l : Nat} (F : FunS K "add" "StrictShort.add" sgAdd f fd cda cc) (SK : SUP.SupK P K cda cc D) (hsuper : mg "super" = none) (SM : SUP.SupM K C D "add" f2)
    (la : ∀ k, l ≤ k → FnR P w K mg base (L2.CX P w) k f2 (spAddM K C CR CT lb ck NR c1)) : FnOk P w K mg base (L2.CX P w) (k + l + 1) f fd ["self", "row"] (spAddM K C CR CT lb ck NR c1) := by
  have GL := la (k + l) (by omega)
  obtain ⟨oc, od, kV, doc, pm, an, ct, osl, rfl, lk, hcd⟩ := F.ex
  refine SUP.fn_super (k := k + l) lk hcd SK scgAdd hsuper rfl rfl rfl (by decide +kernel) (fun vs H Q E h => ?_) (fun A outer s H vs Q E hr h => ?_)
  · obtain ⟨x, dx, fs, v, rfl, _⟩ := pass_add (D := D) (f := f) (f2 := f2) (cda := cda) (cc := cc) h
    rfl
  · obtain ⟨x, dx, fs, v, rfl, hx, _, h'⟩ := pass_add (D := D) (f := f) (f2 := f2) (cda := cda) (cc := cc) h
    exact ⟨x, C, dx, _, f2, spAddM K C CR CT lb ck NR c1, _, _, rfl, hx, SM, GL, pa_cons (pv 1) pa_nil, pss_nil, _, rfl, h'⟩
theorem sclCll : FnScope ["self", "row"] ["self", "row"] (defScope slCll) := ⟨rfl, rfl, rfl, by decide +kernel, rfl, by decide +kernel, by decide +kernel⟩
theorem ok_lcll {f C CR CT c1 : Addr} {lb : Bool} {ck : CkM} {NR : NoR} {fd : FuncData} {k l : Nat} (F : Fun K "__call__" "Log.__call__" slCll f fd) (TL : TxtM K C) (la : MthX P w K mg base C "add" ["self", "row"] (spAddM K C CR CT lb ck NR c1) l) : FnOk P w K mg base (L2.CX P w) (k + l + 1) f fd ["self", "row"] (spAddM K C CR CT lb ck NR c1) := by
  have GA := la.ok (k + l) (by omega)
  refine F.okX sclCll (fun vs H Q E h => ?_) (fun cdv A outer s H vs Q E hr h => ?_)
  · obtain ⟨x, dx, fs, v, rfl, _⟩ := pass_add (D := C) (f := f) (f2 := f) (cda := f) (cc := f) h
    rfl
  · obtain ⟨x, dx, fs, v, rfl, hx, no, h'⟩ := pass_add (D := C) (f := f) (f2 := f) (cda := f) (cc := f) h
    refine ⟨_, (pss_one (ps_expr (pe_meth (pv 0) TL.cl la.m GA hr la.b .nil (passes_call (takes_of rfl rfl rfl rfl) (fun _ _ _ _ h => h)) (pa_cons (pv 1) pa_nil)))), ?_⟩
    exact ⟨_, rfl, x, dx, _, rfl, hx, no, _, rfl, h'⟩
theorem scsCll : FnScope ["self", "row"] ["self", "row"] (defScope ssCll) := ⟨rfl, rfl, rfl, by decide +kernel, rfl, by decide +kernel, by decide +kernel⟩
theorem ok_scll {f C CR CT c1 : Addr} {lb : Bool} {ck : CkM} {NR : NoR} {fd : FuncData} {k l : Nat} (F : Fun K "__call__" "Strict.__call__" ssCll f fd) (TL : TxtM K C) (la : MthX P w K mg base C "add" ["self", "row"] (spAddM K C CR CT lb ck NR c1) l) : FnOk P w K mg base (L2.CX P w) (k + l + 1) f fd ["self", "row"] (spAddM K C CR CT lb ck NR c1) := by
  have GA := la.ok (k + l) (by omega)
  refine F.okX scsCll (fun vs H Q E h => ?_) (fun cdv A outer s H vs Q E hr h => ?_)
  · obtain ⟨x, dx, fs, v, rfl, _⟩ := pass_add (D := C) (f := f) (f2 := f) (cda := f) (cc := f) h
    rfl
  · obtain ⟨x, dx, fs, v, rfl, hx, no, h'⟩ := pass_add (D := C) (f := f) (f2 := f) (cda := f) (cc := f) h
    refine ⟨_, (pss_one (ps_expr (pe_meth (pv 0) TL.cl la.m GA hr la.b .nil (passes_call (takes_of rfl rfl rfl rfl) (fun _ _ _ _ h => h)) (pa_cons (pv 1) pa_nil)))), ?_⟩
    exact ⟨_, rfl, x, dx, _, rfl, hx, no, _, rfl, h'⟩
theorem schCll : FnScope ["self", "row"] ["self", "row"] (defScope shCll) := ⟨rfl, rfl, rfl, by decide +kernel, rfl, by decide +kernel, by decide +kernel⟩
theorem ok_hcll {f C CR CT c1 : Addr} {lb : Bool} {ck : CkM} {NR : NoR} {fd : FuncData} {k l : Nat} (F : Fun K "__call__" "Short.__call__" shCll f fd) (TL : TxtM K C) (la : MthX P w K mg base C "add" ["self", "row"] (spAddM K C CR CT lb ck NR c1) l) : FnOk P w K mg base (L2.CX P w) (k + l + 1) f fd ["self", "row"] (spAddM K C CR CT lb ck NR c1) := by
  have GA := la.ok (k + l) (by omega)
  refine F.okX schCll (fun vs H Q E h => ?_) (fun cdv A outer s H vs Q E hr h => ?_)
  · obtain ⟨x, dx, fs, v, rfl, _⟩ := pass_add (D := C) (f := f) (f2 := f) (cda := f) (cc := f) h
    rfl
  · obtain ⟨x, dx, fs, v, rfl, hx, no, h'⟩ := pass_add (D := C) (f := f) (f2 := f) (cda := f) (cc := f) h
    refine ⟨_, (pss_one (ps_expr (pe_meth (pv 0) TL.cl la.m GA hr la.b .nil (passes_call (takes_of rfl rfl rfl rfl) (fun _ _ _ _ h => h)) (pa_cons (pv 1) pa_nil)))), ?_⟩
    exact ⟨_, rfl, x, dx, _, rfl, hx, no, _, rfl, h'⟩
theorem scgCll : FnScope ["self", "row"] ["self", "row"] (defScope sgCll) := ⟨rfl, rfl, rfl, by decide +kernel, rfl, by decide +kernel, by decide +kernel⟩
theorem ok_gcll {f C CR CT c1 : Addr} {lb : Bool} {ck : CkM} {NR : NoR} {fd : FuncData} {k l : Nat} (F : Fun K "__call__" "StrictShort.__call__" sgCll f fd) (TL : TxtM K C) (la : MthX P w K mg base C "add" ["self", "row"] (spAddM K C CR CT lb ck NR c1) l) : FnOk P w K mg base (L2.CX P w) (k + l + 1) f fd ["self", "row"] (spAddM K C CR CT lb ck NR c1) := by
  have GA := la.ok (k + l) (by omega)
  refine F.okX scgCll (fun vs H Q E h => ?_) (fun cdv A outer s H vs Q E hr h => ?_)
  · obtain ⟨x, dx, fs, v, rfl, _⟩ := pass_add (D := C) (f := f) (f2 := f) (cda := f) (cc := f) h
    rfl
  · obtain ⟨x, dx, fs, v, rfl, hx, no, h'⟩ := pass_add (D := C) (f := f) (f2 := f) (cda := f) (cc := f) h
    refine ⟨_, (pss_one (ps_expr (pe_meth (pv 0) TL.cl la.m GA hr la.b .nil (passes_call (takes_of rfl rfl rfl rfl) (fun _ _ _ _ h => h)) (pa_cons (pv 1) pa_nil)))), ?_⟩
    exact ⟨_, rfl, x, dx, _, rfl, hx, no, _, rfl, h'⟩
end
end CC
namespace CC
open PySem L2 TL
section
variable {P : Program} {w : World} {K : PySem.W.Frag} {mg : Str → Option Value} {base : Heap} {kA : Addr}
theorem sclRlM : FnScope ["self"] ["self"] (defScope slRlM) := ⟨rfl, rfl, rfl, by decide +kernel, rfl, by decide +kernel, by decide +kernel⟩
theorem ok_lRlM {f C : Addr} {fd : FuncData} {k : Nat} (F : Fun K "rules" "Log.rules" slRlM f fd) (TL : TxtM K C) : FnOk P w K mg base CX0 (k + 1) f fd ["self"] (getSp C "book") := by
  refine F.ok sclRlM (fun vs H Q E h => ?_) (fun cdv A outer s H vs Q E hr h => ?_)
  · obtain ⟨a, dx, fs, v, rfl, _⟩ := h
    rfl
  · obtain ⟨a, dx, fs, v, rfl, ea, l, q⟩ := h
    exact ⟨_, pss_one (ps_ret (pe_fld (pv 0) rfl)), _, rfl, a, C, dx, fs, v, rfl, ea, TL.cl, TL.nB, l, q⟩
theorem scsRlM : FnScope ["self"] ["self"] (defScope ssRlM) := ⟨rfl, rfl, rfl, by decide +kernel, rfl, by decide +kernel, by decide +kernel⟩
theorem ok_sRlM {f C : Addr} {fd : FuncData} {k : Nat} (F : Fun K "rules" "Strict.rules" ssRlM f fd) (TL : TxtM K C) : FnOk P w K mg base CX0 (k + 1) f fd ["self"] (getSp C "book") := by
  refine F.ok scsRlM (fun vs H Q E h => ?_) (fun cdv A outer s H vs Q E hr h => ?_)
  · obtain ⟨a, dx, fs, v, rfl, _⟩ := h
    rfl
  · obtain ⟨a, dx, fs, v, rfl, ea, l, q⟩ := h
    exact ⟨_, pss_one (ps_ret (pe_fld (pv 0) rfl)), _, rfl, a, C, dx, fs, v, rfl, ea, TL.cl, TL.nB, l, q⟩
theorem schRlM : FnScope ["self"] ["self"] (defScope shRlM) := ⟨rfl, rfl, rfl, by decide +kernel, rfl, by decide +kernel, by decide +kernel⟩
theorem ok_hRlM {f C : Addr} {fd : FuncData} {k : Nat} (F : Fun K "rules" "Short.rules" shRlM f fd) (TL : TxtM K C) : FnOk P w K mg base CX0 (k + 1) f fd ["self"] (getSp C "book") := by
  refine F.ok schRlM (fun vs H Q E h => ?_) (fun cdv A outer s H vs Q E hr h => ?_)
  · obtain ⟨a, dx, fs, v, rfl, _⟩ := h
    rfl
  · obtain ⟨a, dx, fs, v, rfl, ea, l, q⟩ := h
    exact ⟨_, pss_one (ps_ret (pe_fld (pv 0) rfl)), _, rfl, a, C, dx, fs, v, rfl, ea, TL.cl, TL.nB, l, q⟩
theorem scgRlM : FnScope ["self"] ["self"] (defScope sgRlM) := ⟨rfl, rfl, rfl, by decide +kernel, rfl, by decide +kernel, by decide +kernel⟩
theorem ok_gRlM {f C : Addr} {fd : FuncData} {k : Nat} (F : Fun K "rules" "StrictShort.rules" sgRlM f fd) (TL : TxtM K C) : FnOk P w K mg base CX0 (k + 1) f fd ["self"] (getSp C "book") := by
  refine F.ok scgRlM (fun vs H Q E h => ?_) (fun cdv A outer s H vs Q E hr h => ?_)
  · obtain ⟨a, dx, fs, v, rfl, _⟩ := h
    rfl
  · obtain ⟨a, dx, fs, v, rfl, ea, l, q⟩ := h
    exact ⟨_, pss_one (ps_ret (pe_fld (pv 0) rfl)), _, rfl, a, C, dx, fs, v, rfl, ea, TL.cl, TL.nB, l, q⟩
end
end CC
namespace CC
open PySem L2 TL
section
variable {P : Program} {w : World} {K : PySem.W.Frag} {mg : Str → Option Value} {base : Heap} {kA : Addr}
theorem sclTbM : FnScope ["self"] ["self"] (defScope slTbM) := ⟨rfl, rfl, rfl, by decide +kernel, rfl, by decide +kernel, by decide +kernel⟩
theorem ok_lTbM {f C : Addr} {fd : FuncData} {k : Nat} (F : Fun K "table" "Log.table" slTbM f fd) (TL : TxtM K C) : FnOk P w K mg base CX0 (k + 1) f fd ["self"] (getSp C "held") := by
  refine F.ok sclTbM (fun vs H Q E h => ?_) (fun cdv A outer s H vs Q E hr h => ?_)
  · obtain ⟨a, dx, fs, v, rfl, _⟩ := h
    rfl
  · obtain ⟨a, dx, fs, v, rfl, ea, l, q⟩ := h
    exact ⟨_, pss_one (ps_ret (pe_fld (pv 0) rfl)), _, rfl, a, C, dx, fs, v, rfl, ea, TL.cl, TL.nH, l, q⟩
theorem scsTbM : FnScope ["self"] ["self"] (defScope ssTbM) := ⟨rfl, rfl, rfl, by decide +kernel, rfl, by decide +kernel, by decide +kernel⟩
theorem ok_sTbM {f C : Addr} {fd : FuncData} {k : Nat} (F : Fun K "table" "Strict.table" ssTbM f fd) (TL : TxtM K C) : FnOk P w K mg base CX0 (k + 1) f fd ["self"] (getSp C "held") := by
  refine F.ok scsTbM (fun vs H Q E h => ?_) (fun cdv A outer s H vs Q E hr h => ?_)
  · obtain ⟨a, dx, fs, v, rfl, _⟩ := h
    rfl
  · obtain ⟨a, dx, fs, v, rfl, ea, l, q⟩ := h
    exact ⟨_, pss_one (ps_ret (pe_fld (pv 0) rfl)), _, rfl, a, C, dx, fs, v, rfl, ea, TL.cl, TL.nH, l, q⟩
theorem schTbM : FnScope ["self"] ["self"] (defScope shTbM) := ⟨rfl, rfl, rfl, by decide +kernel, rfl, by decide +kernel, by decide +kernel⟩
theorem ok_hTbM {f C : Addr} {fd : FuncData} {k : Nat} (F : Fun K "table" "Short.table" shTbM f fd) (TL : TxtM K C) : FnOk P w K mg base CX0 (k + 1) f fd ["self"] (getSp C "held") := by
  refine F.ok schTbM (fun vs H Q E h => ?_) (fun cdv A outer s H vs Q E hr h => ?_)
  · obtain ⟨a, dx, fs, v, rfl, _⟩ := h
    rfl
  · obtain ⟨a, dx, fs, v, rfl, ea, l, q⟩ := h
    exact ⟨_, pss_one (ps_ret (pe_fld (pv 0) rfl)), _, rfl, a, C, dx, fs, v, rfl, ea, TL.cl, TL.nH, l, q⟩
theorem scgTbM : FnScope ["self"] ["self"] (defScope sgTbM) := ⟨rfl, rfl, rfl, by decide +kernel, rfl, by decide +kernel, by decide +kernel⟩
theorem ok_gTbM {f C : Addr} {fd : FuncData} {k : Nat} (F : Fun K "table" "StrictShort.table" sgTbM f fd) (TL : TxtM K C) : FnOk P w K mg base CX0 (k + 1) f fd ["self"] (getSp C "held") := by
  refine F.ok scgTbM (fun vs H Q E h => ?_) (fun cdv A outer s H vs Q E hr h => ?_)
  · obtain ⟨a, dx, fs, v, rfl, _⟩ := h
    rfl
  · obtain ⟨a, dx, fs, v, rfl, ea, l, q⟩ := h
    exact ⟨_, pss_one (ps_ret (pe_fld (pv 0) rfl)), _, rfl, a, C, dx, fs, v, rfl, ea, TL.cl, TL.nH, l, q⟩
end
end CC
namespace CC
open PySem L2 TL
/-- broken of a log -/
def spBrP (K : PySem.W.Frag) (C CR CT : Addr) : Sp := fun vs H Q _ => ∃ (lm : Option Nat) (x r q : Addr) (w : Nat) (rs : List R) (rows : List (List Nat)) (ps : List (List (List Nat))), vs = [.ref x] ∧ LgAt K C CR CT lm H x r q w rs rows ps ∧ (∀ x ∈ rows, RowOk w x) ∧ Fw rows ∧ rows.length ≤ 401 ∧ (∀ r ∈ rs, r.ok w) ∧ rs.length ≤ 60 ∧
  ∀ (z : Addr) (us : List V) (H' : Hp), Same H H' → H z = none → H' z = some (.tup us) → DpAll K (wo H' z) us ((brkL rows rs).map R.d) → Q (.ref z) H'
section
variable {P : Program} {w : World} {K : PySem.W.Frag} {mg : Str → Option Value} {base : Heap} {kA : Addr}
theorem sclBrM : FnScope ["self"] ["self"] (defScope slBrM) := ⟨rfl, rfl, rfl, by decide +kernel, rfl, by decide +kernel, by decide +kernel⟩
theorem ok_lBrM {f C CR CT : Addr} {fd : FuncData} {k : Nat} (F : Fun K "broken" "Log.broken" slBrM f fd) (T : Glb K mg kA) (TL : TxtM K C) (TT : TxtT K mg CT) (pTR : Prp P w K mg base CT "rows" "lines") (cB : Cal P w K mg base "rules_broken" ["rules", "rows"] (spBrkM K CR) 3) : FnOk P w K mg base CX0 (k + 4) f fd ["self"] (spBrP K C CR CT) := by
  have GB := cB.ok (k + 3) (by omega)
  refine F.ok sclBrM (fun vs H Q E h => ?_) (fun cdv A outer s H vs Q E hr h => ?_)
  · obtain ⟨lm, x, r, q, m, rs, rows, ps, rfl, _⟩ := h
    rfl
  · obtain ⟨lm, x, r, pq, m, rs, rows, ps, rfl, ⟨⟨dx, t, hx, tt⟩, bk, _⟩, ok, fw, few, rok, r60, q⟩ := h
    refine ⟨_, (pss_one (ps_ret (pe_callTy (r := rTupOf K) call_tuple_of (by rfl) T.tup (by decide +kernel) (pa_cons (pe_call GB hr rfl cB.g cB.kp cB.b .nil pass0 (pa_cons (pe_fld (pv 0) rfl) (pa_cons (pe_prop (pe_fld (pv 0) rfl) TT.cl pTR.hp (pTR.ok (k + 2) (by omega)) hr pTR.b .nil pass0 rfl) pa_nil))) pa_nil)))), ?_⟩
    obtain ⟨dt, g, us, t1, t2, t3⟩ := tt.same (wos_le _)
    refine ⟨_, rfl, x, C, dx, _, _, rfl, hx, TL.cl, TL.nB, fldM_b _ _ _ _, _, rfl, x, C, dx, _, _, rfl, hx, TL.cl, TL.nH, fldM_h _ _ _ _, t, dt, _, rfl, t1, t, dt, _, _, rfl, t1, fldT_lines _ _, ?_⟩
    refine ⟨r, g, us, m, rs, rows, rfl, bk.same (wos_le _), .inr (.inl (.inl t2)), t3, ok, fw, few, rok, r60, fun p up H1 s1 np hp dp => ?_⟩
    refine ⟨p, up, rfl, .inl ⟨SqL.of hp, fun z nz => ?_⟩⟩
    refine q z up _ (s1.trans (same_new nz)) (s1.free nz) upd_same ?_
    rw [wo_upd]
    have pz : p ≠ z := ne_of_none hp nz
    exact dps_same (fun b o e => by
      have e1 := wo_le p _ _ e
      rw [wo_ne (ne_of_none e1 nz)]
      exact e1) _ _ dp
theorem scsBrM : FnScope ["self"] ["self"] (defScope ssBrM) := ⟨rfl, rfl, rfl, by decide +kernel, rfl, by decide +kernel, by decide +kernel⟩
theorem ok_sBrM {f C CR CT : Addr} {fd : FuncData} {k : Nat} (F : Fun K "broken" "Strict.broken" ssBrM f fd) (T : Glb K mg kA) (TL : TxtM K C) (TT : TxtT K mg CT) (pTR : Prp P w K mg base CT "rows" "lines") (cB : Cal P w K mg base "rules_broken" ["rules", "rows"] (spBrkM K CR) 3) : FnOk P w K mg base CX0 (k + 4) f fd ["self"] (spBrP K C CR CT) := by
  have GB := cB.ok (k + 3) (by omega)
  refine F.ok scsBrM (fun vs H Q E h => ?_) (fun cdv A outer s H vs Q E hr h => ?_)
  · obtain ⟨lm, x, r, q, m, rs, rows, ps, rfl, _⟩ := h
    rfl
  · obtain ⟨lm, x, r, pq, m, rs, rows, ps, rfl, ⟨⟨dx, t, hx, tt⟩, bk, _⟩, ok, fw, few, rok, r60, q⟩ := h
    refine ⟨_, (pss_one (ps_ret (pe_callTy (r := rTupOf K) call_tuple_of (by rfl) T.tup (by decide +kernel) (pa_cons (pe_call GB hr rfl cB.g cB.kp cB.b .nil pass0 (pa_cons (pe_fld (pv 0) rfl) (pa_cons (pe_prop (pe_fld (pv 0) rfl) TT.cl pTR.hp (pTR.ok (k + 2) (by omega)) hr pTR.b .nil pass0 rfl) pa_nil))) pa_nil)))), ?_⟩
    obtain ⟨dt, g, us, t1, t2, t3⟩ := tt.same (wos_le _)
    refine ⟨_, rfl, x, C, dx, _, _, rfl, hx, TL.cl, TL.nB, fldM_b _ _ _ _, _, rfl, x, C, dx, _, _, rfl, hx, TL.cl, TL.nH, fldM_h _ _ _ _, t, dt, _, rfl, t1, t, dt, _, _, rfl, t1, fldT_lines _ _, ?_⟩
    refine ⟨r, g, us, m, rs, rows, rfl, bk.same (wos_le _), .inr (.inl (.inl t2)), t3, ok, fw, few, rok, r60, fun p up H1 s1 np hp dp => ?_⟩
    refine ⟨p, up, rfl, .inl ⟨SqL.of hp, fun z nz => ?_⟩⟩
    refine q z up _ (s1.trans (same_new nz)) (s1.free nz) upd_same ?_
    rw [wo_upd]
    have pz : p ≠ z := ne_of_none hp nz
    exact dps_same (fun b o e => by
      have e1 := wo_le p _ _ e
      rw [wo_ne (ne_of_none e1 nz)]
      exact e1) _ _ dp
theorem schBrM : FnScope ["self"] ["self"] (defScope shBrM) := ⟨rfl, rfl, rfl, by decide +kernel, rfl, by decide +kernel, by decide +kernel⟩
theorem ok_hBrM {f C CR CT : Addr} {fd : FuncData} {k : Nat} (F : Fun K "broken" "Short.broken" shBrM f fd) (T : Glb K mg kA) (TL : TxtM K C) (TT : TxtT K mg CT) (pTR : Prp P w K mg base CT "rows" "lines") (cB : Cal P w K mg base "rules_broken" ["rules", "rows"] (spBrkM K CR) 3) : FnOk P w K mg base CX0 (k + 4) f fd ["self"] (spBrP K C CR CT) := by
  have GB := cB.ok (k + 3) (by omega)
  refine F.ok schBrM (fun vs H Q E h => ?_) (fun cdv A outer s H vs Q E hr h => ?_)
  · obtain ⟨lm, x, r, q, m, rs, rows, ps, rfl, _⟩ := h
    rfl
  · obtain ⟨lm, x, r, pq, m, rs, rows, ps, rfl, ⟨⟨dx, t, hx, tt⟩, bk, _⟩, ok, fw, few, rok, r60, q⟩ := h
    refine ⟨_, (pss_one (ps_ret (pe_callTy (r := rTupOf K) call_tuple_of (by rfl) T.tup (by decide +kernel) (pa_cons (pe_call GB hr rfl cB.g cB.kp cB.b .nil pass0 (pa_cons (pe_fld (pv 0) rfl) (pa_cons (pe_prop (pe_fld (pv 0) rfl) TT.cl pTR.hp (pTR.ok (k + 2) (by omega)) hr pTR.b .nil pass0 rfl) pa_nil))) pa_nil)))), ?_⟩
    obtain ⟨dt, g, us, t1, t2, t3⟩ := tt.same (wos_le _)
    refine ⟨_, rfl, x, C, dx, _, _, rfl, hx, TL.cl, TL.nB, fldM_b _ _ _ _, _, rfl, x, C, dx, _, _, rfl, hx, TL.cl, TL.nH, fldM_h _ _ _ _, t, dt, _, rfl, t1, t, dt, _, _, rfl, t1, fldT_lines _ _, ?_⟩
    refine ⟨r, g, us, m, rs, rows, rfl, bk.same (wos_le _), .inr (.inl (.inl t2)), t3, ok, fw, few, rok, r60, fun p up H1 s1 np hp dp => ?_⟩
    refine ⟨p, up, rfl, .inl ⟨SqL.of hp, fun z nz => ?_⟩⟩
    refine q z up _ (s1.trans (same_new nz)) (s1.free nz) upd_same ?_
    rw [wo_upd]
    have pz : p ≠ z := ne_of_none hp nz
    exact dps_same (fun b o e => by
      have e1 := wo_le p _ _ e
      rw [wo_ne (ne_of_none e1 nz)]
      exact e1) _ _ dp
theorem scgBrM : FnScope ["self"] ["self"] (defScope sgBrM) := ⟨rfl, rfl, rfl, by decide +kernel, rfl, by decide +kernel, by decide +kernel⟩
theorem ok_gBrM {f C CR CT : Addr} {fd : FuncData} {k : Nat} (F : Fun K "broken" "StrictShort.broken" sgBrM f fd) (T : Glb K mg kA) (TL : TxtM K C) (TT : TxtT K mg CT) (pTR : Prp P w K mg base CT "rows" "lines") (cB : Cal P w K mg base "rules_broken" ["rules", "rows"] (spBrkM K CR) 3) : FnOk P w K mg base CX0 (k + 4) f fd ["self"] (spBrP K C CR CT) := by
  have GB := cB.ok (k + 3) (by omega)
  refine F.ok scgBrM (fun vs H Q E h => ?_) (fun cdv A outer s H vs Q E hr h => ?_)
  · obtain ⟨lm, x, r, q, m, rs, rows, ps, rfl, _⟩ := h
    rfl
  · obtain ⟨lm, x, r, pq, m, rs, rows, ps, rfl, ⟨⟨dx, t, hx, tt⟩, bk, _⟩, ok, fw, few, rok, r60, q⟩ := h
    refine ⟨_, (pss_one (ps_ret (pe_callTy (r := rTupOf K) call_tuple_of (by rfl) T.tup (by decide +kernel) (pa_cons (pe_call GB hr rfl cB.g cB.kp cB.b .nil pass0 (pa_cons (pe_fld (pv 0) rfl) (pa_cons (pe_prop (pe_fld (pv 0) rfl) TT.cl pTR.hp (pTR.ok (k + 2) (by omega)) hr pTR.b .nil pass0 rfl) pa_nil))) pa_nil)))), ?_⟩
    obtain ⟨dt, g, us, t1, t2, t3⟩ := tt.same (wos_le _)
    refine ⟨_, rfl, x, C, dx, _, _, rfl, hx, TL.cl, TL.nB, fldM_b _ _ _ _, _, rfl, x, C, dx, _, _, rfl, hx, TL.cl, TL.nH, fldM_h _ _ _ _, t, dt, _, rfl, t1, t, dt, _, _, rfl, t1, fldT_lines _ _, ?_⟩
    refine ⟨r, g, us, m, rs, rows, rfl, bk.same (wos_le _), .inr (.inl (.inl t2)), t3, ok, fw, few, rok, r60, fun p up H1 s1 np hp dp => ?_⟩
    refine ⟨p, up, rfl, .inl ⟨SqL.of hp, fun z nz => ?_⟩⟩
    refine q z up _ (s1.trans (same_new nz)) (s1.free nz) upd_same ?_
    rw [wo_upd]
    have pz : p ≠ z := ne_of_none hp nz
    exact dps_same (fun b o e => by
      have e1 := wo_le p _ _ e
      rw [wo_ne (ne_of_none e1 nz)]
      exact e1) _ _ dp
end
end CC
namespace CC
open PySem L2
/-! ### the dict of ways -/
def Ents (H : Hp) : List (Key × V) → List (Nat × List Nat) → Prop
  | [], [] => True
  | (k, v) :: r, (c, w) :: s => k = Sum.inl (c : Int) ∧ (∃ t, v = .ref t ∧ H t = some (.tup (nms w))) ∧ Ents H r s
  | [], _ :: _ => False
  | _ :: _, [] => False
theorem Ents.mono {H H' : Hp} (e : ∀ t xs, H t = some (.tup xs) → H' t = some (.tup xs)) : ∀ {kvs : List (Key × V)} {ws : List (Nat × List Nat)}, Ents H kvs ws → Ents H' kvs ws
  | [], [], _ => trivial
  | [], _ :: _, h => False.elim h
  | _ :: _, [], h => False.elim h
  | (k, v) :: r, (c, w) :: s, ⟨h1, ⟨t, h2, h3⟩, h4⟩ => ⟨h1, ⟨t, h2, e _ _ h3⟩, Ents.mono e h4⟩
theorem Ents.len {H : Hp} : ∀ {kvs : List (Key × V)} {ws : List (Nat × List Nat)}, Ents H kvs ws → kvs.length = ws.length
  | [], [], _ => rfl
  | [], _ :: _, h => False.elim h
  | _ :: _, [], h => False.elim h
  | (k, v) :: r, (c, w) :: s, ⟨_, _, h⟩ => congrArg (· + 1) (Ents.len h)
theorem Ents.app {H : Hp} : ∀ {kvs kvs2 : List (Key × V)} {ws ws2 : List (Nat × List Nat)}, Ents H kvs ws → Ents H kvs2 ws2 → Ents H (kvs ++ kvs2) (ws ++ ws2)
  | [], _, [], _, _, h => h
  | [], _, _ :: _, _, h, _ => False.elim h
  | _ :: _, _, [], _, h, _ => False.elim h
  | (k, v) :: r, _, (c, w) :: s, _, ⟨h1, h2, h3⟩, h => ⟨h1, h2, Ents.app h3 h⟩
theorem Ents.keys {H : Hp} : ∀ {kvs : List (Key × V)} {ws : List (Nat × List Nat)}, Ents H kvs ws → (kvs.map fun kv => kV kv.1) = nms (ws.map (·.1))
  | [], [], _ => rfl
  | [], _ :: _, h => False.elim h
  | _ :: _, [], h => False.elim h
  | (k, v) :: r, (c, w) :: s, ⟨h1, _, h⟩ => by
    subst h1
    rw [List.map_cons, Ents.keys h]
    rfl
theorem Ents.none {H : Hp} {c : Nat} : ∀ {kvs : List (Key × V)} {ws : List (Nat × List Nat)}, Ents H kvs ws → c ∉ ws.map (·.1) → valV kvs (Sum.inl (c : Int)) = none
  | [], [], _, _ => rfl
  | [], _ :: _, h, _ => False.elim h
  | _ :: _, [], h, _ => False.elim h
  | (k, v) :: r, (d, w) :: s, ⟨h1, _, h⟩, n => by
    subst h1
    rw [List.map_cons, List.mem_cons, not_or] at n
    rw [valV_neg (fun e => n.1 (by have := Sum.inl.inj e; simp only at this ⊢; omega))]
    exact Ents.none h n.2
theorem Ents.some {H : Hp} {c : Nat} {u : List Nat} : ∀ {kvs : List (Key × V)} {ws : List (Nat × List Nat)}, Ents H kvs ws → (ws.map (·.1)).Nodup → (c, u) ∈ ws → ∃ t, valV kvs (Sum.inl (c : Int)) = some (.ref t) ∧ H t = some (.tup (nms u))
  | [], [], _, _, h => nomatch h
  | [], _ :: _, h, _, _ => False.elim h
  | _ :: _, [], h, _, _ => False.elim h
  | (k, v) :: r, (d, w) :: s, ⟨h1, ⟨t, h2, h3⟩, h⟩, nd, m => by
    subst h1 h2
    rw [List.map_cons, List.nodup_cons] at nd
    rcases List.mem_cons.mp m with e | m
    · cases e
      exact ⟨t, valV_pos rfl, h3⟩
    · have ne : ¬ (c = d) := fun e => nd.1 (List.mem_map.mpr ⟨(c, u), m, e⟩)
      obtain ⟨t2, e2, h2⟩ := Ents.some h nd.2 m
      exact ⟨t2, (valV_neg (fun e => ne (by have := Sum.inl.inj e; omega))).trans e2, h2⟩
abbrev sFw : Stmt := tp 31
def spFw (K : PySem.W.Frag) : Sp := fun vs H Q _ => ∃ (a : Addr) (us : List V) (ps : List (Nat × Nat)) (st : Nat), vs = [.ref a, .int (st : Int)] ∧ SqL K H a us ∧ DpAll K H us (ps.map prd) ∧ (∀ x ∈ ps, x.1 < 6 ∧ x.2 < 6) ∧ st < 6 ∧ ps.length ≤ 1000 ∧
  ∀ (D : Addr) (kvs : List (Key × V)) (ws : List (Nat × List Nat)) (H' : Hp), Same H H' → H D = none → H' D = some (.dK kvs) → Ents H' kvs ws → FW ps st ws → Q (.ref D) H'
theorem mem_take_bs {ps : List (Nat × Nat)} {c b : Nat} : b ∈ (ps.filter fun p => decide (p.1 = c)).map (·.2) ↔ (c, b) ∈ ps := by
  simp only [List.mem_map, List.mem_filter, decide_eq_true_eq]
  constructor
  · rintro ⟨⟨x, y⟩, ⟨h1, h2⟩, h3⟩
    simp only at h2 h3
    subst h2 h3
    exact h1
  · exact fun h => ⟨(c, b), ⟨h, rfl⟩, rfl⟩
/-- a sorted list of such numbers -/
theorem nats_of {ns : List Nat} {ns' : List Int} (h : ns'.Perm (ns.map fun (n : Nat) => (n : Int))) : ∃ ms : List Nat, ns' = ms.map (fun (n : Nat) => (n : Int)) ∧ ms.Perm ns := by
  refine ⟨ns'.map Int.toNat, ?_, ?_⟩
  · rw [List.map_map]
    have : ∀ x ∈ ns', ((fun (n : Nat) => (n : Int)) ∘ Int.toNat) x = x := fun x hx => by
      obtain ⟨n, _, rfl⟩ := List.mem_map.mp (h.mem_iff.mp hx)
      simp
    rw [List.map_congr_left this]
    simp
  · have := h.map Int.toNat
    rw [List.map_map] at this
    have e : (Int.toNat ∘ fun (n : Nat) => (n : Int)) = id := by
      funext n
      simp
    rw [e, List.map_id] at this
    exact this
theorem nms_ints (ns : List Nat) : nms ns = (ns.map fun (n : Nat) => (n : Int)).map V.int := by
  unfold nms
  rw [List.map_map]
  rfl
theorem few6' {ws : List (Nat × List Nat)} (nd : (ws.map (·.1)).Nodup) (h : ∀ e ∈ ws, e.1 < 6) : ws.length ≤ 6 := by
  have := few6 nd fun x hx => by
    obtain ⟨e, he, rfl⟩ := List.mem_map.mp hx
    exact h e he
  rwa [List.length_map] at this
def bsF (ps : List (Nat × Nat)) (c : Nat) : List Nat := (ps.filter fun p => decide (p.1 = c)).map (·.2)
theorem bsF_step {ps : List (Nat × Nat)} {c i x y : Nat} (h : ps[i]? = some (x, y)) : bsF (ps.take (i + 1)) c = bsF (ps.take i) c ++ (if x = c then [y] else []) := by
  unfold bsF
  rw [take1 h, List.filter_append, List.map_append]
  by_cases e : x = c
  · simp [e]
  · simp [e]
theorem bsF_len (ps : List (Nat × Nat)) (c : Nat) : (bsF ps c).length ≤ ps.length := by
  unfold bsF
  rw [List.length_map]
  exact List.length_filter_le _ _
section
variable {P : Program} {w : World} {K : PySem.W.Frag} {mg : Str → Option Value} {base : Heap} {kA : Addr}
abbrev nFw : List Str := ["pairs", "start", "ways", "waiting", "column", "b", "first", "second"]
theorem scFw : FnScope nFw ["pairs", "start"] (defScope sFw) := ⟨rfl, rfl, rfl, by decide +kernel, rfl, by decide +kernel, by decide +kernel⟩
theorem ok_fw {f : Addr} {fd : FuncData} {k : Nat} (F : Fun K "first_ways" "first_ways" sFw f fd) (T : Glb K mg kA) : FnOk P w K mg base CX0 (k + 1) f fd ["pairs", "start"] (spFw K) := by
  refine F.ok scFw (fun vs H Q E h => ?_) (fun cdv A outer s H vs Q E hr h => ?_)
  · obtain ⟨a, us, ps, st, rfl, _⟩ := h
    rfl
  · obtain ⟨a, us, ps, st, rfl, ha, dp, hps, hst, hpl, q⟩ := h
    have n := scFw.nd
    have hu := hu_of hr
    refine ⟨_, pss_cons (ps_set (i := 2) n rfl (.inl rfl) (pe_disp (pps_cons (pv 1) (pe_tup (pa_cons (pv 1) pa_nil)) pps_nil) (by rfl) (by rfl) (fun z => by cases z) (by decide)))
      (pss_cons (ps_set (i := 3) n rfl (.inl rfl) (pe_lst (pa_cons (pv 1) pa_nil)))
      (pss_cons (ps_while PassesOwn.never (pt_truth (pv 3) (by intro _; rfl))
        (pss_cons (ps_set (i := 4) n rfl (.inr rfl) (pe_bm PySem.F.plainAttrs_list PySem.F.slot_list_pop PySem.F.type_list_pop mt_popAt (pv 3) (pa_cons pe_int pa_nil)))
        (pss_one (ps_for PassesOwn.never rfl (pi_list (pe_callB cr_sortedI (by rfl) T.srt (by decide +kernel) (pa_cons (pe_lc (own := [("first", 6), ("second", 7)]) (g := g2 K 6 7) (tt := tTest (tOp rEq (tVar 6) (tVar 4))) rfl n (pi_list (pv 0)) (blkOk_by (N := nFw) (sc := defScope sFw) (by decide +kernel))
            (fun _ _ _ _ _ => pg_tup rfl (pgs_cons (pg_name (i := 6) n rfl (.inl rfl)) (pgs_cons (pg_name (i := 7) n rfl (.inl rfl)) pgs_nil)))
            (fun _ _ _ _ _ => pts_one (pt_cmpR op_eq (pv 6) (pv 4) (nomark _))) (fun _ _ _ _ _ => pv 7)) pa_nil))) (pg_name (i := 5) n rfl (.inl rfl))
          (pss_one (ps_if (pt_cmp (pc_dnotin hu (pv 5) (pv 2)))
            (pss_cons (ps_dput hu (pv 2) (pv 5) (pe_tup (StX.pa_star (pe_dget hu (pv 2) (pv 4) (fun _ _ => rfl)) (pa_cons (pv 5) pa_nil))) rfl)
            (pss_one (ps_expr (pe_bm PySem.F.plainAttrs_list PySem.F.slot_list_append PySem.F.type_list_append mt_append (pv 3) (pa_cons (pv 5) pa_nil))))) pss_nil))))))
      (pss_one (ps_ret (pv 2))))), ?_⟩
    have ul : us.length = ps.length := by rw [dps_len dp, List.length_map]
    have un : ∀ {t : Addr} {xs ys : List V} {H1 : Hp} {b : Addr}, H1 t = some (.tup xs) → H1 b = some (.lst ys) → t ≠ b := fun h1 h2 => ne_of h1 h2 (by intro z; cases z)
    have ud : ∀ {t : Addr} {xs : List V} {kvs : List (Key × V)} {H1 : Hp} {b : Addr}, H1 t = some (.tup xs) → H1 b = some (.dK kvs) → t ≠ b := fun h1 h2 => ne_of h1 h2 (by intro z; cases z)
    -- ways = {start: (start,)}
    intro D nD
    refine ⟨_, rfl, _, rfl, (by show 1 ≤ sizeLine; decide), fun t0 nt0 => ?_⟩
    have t0D : t0 ≠ D := fun e => by rw [e, upd_same] at nt0; cases nt0
    refine ⟨by rw [upd_ne t0D.symm]; exact upd_same, [(Sum.inl (st : Int), .ref t0)], rfl, (by show 1 ≤ 15; decide), ?_⟩
    have hD0 : (upd (upd (upd H D (.dK [])) t0 (.tup [.int (st : Int)])) D (.dK (mergeK [] [(Sum.inl (st : Int), .ref t0)]))) D = some (.dK [(Sum.inl (st : Int), .ref t0)]) := upd_same
    have ht0 : (upd (upd (upd H D (.dK [])) t0 (.tup [.int (st : Int)])) D (.dK (mergeK [] [(Sum.inl (st : Int), .ref t0)]))) t0 = some (.tup (nms [st])) := by
      rw [upd_ne t0D, upd_same]
      rfl
    have s0 : Same H (upd (upd (upd H D (.dK [])) t0 (.tup [.int (st : Int)])) D (.dK (mergeK [] [(Sum.inl (st : Int), .ref t0)]))) := same_mut ((same_new nD).trans (same_new nt0)) nD
    generalize upd (upd (upd H D (.dK [])) t0 (.tup [.int (st : Int)])) D (.dK (mergeK [] [(Sum.inl (st : Int), .ref t0)])) = H0 at hD0 ht0 s0
    refine ⟨_, rfl, (by show 1 ≤ sizeLine; decide), fun wt nwt => ?_⟩
    have wD : wt ≠ D := (ne_of_none hD0 nwt).symm
    have nwt0 : H wt = none := s0.free nwt
    -- the while
    refine ⟨fun m σ H1 => ∃ (kvs : List (Key × V)) (ws : List (Nat × List Nat)) (j : Nat) (y4 y5 y6 y7 : Option V), σ = [some (.ref a), some (.int (st : Int)), some (.ref D), some (.ref wt), y4, y5, y6, y7] ∧ Same H H1 ∧ H1 D = some (.dK kvs) ∧ Ents H1 kvs ws ∧ H1 wt = some (.lst (nms ((ws.drop j).map (·.1)))) ∧ BI ps st ws j ∧ m = 6 - j,
      ⟨_, [(Sum.inl (st : Int), .ref t0)], [(st, [st])], 0, none, none, none, none, rfl, s0.trans (same_new nwt), same_new nwt _ _ hD0, ⟨rfl, ⟨t0, rfl, same_new nwt _ _ ht0⟩, trivial⟩, upd_same, BI.start hst, rfl⟩, ?_⟩
    rintro m σ H1 ⟨kvs, ws, j, y4, y5, y6, y7, rfl, s1, hD, en, hw, inv, rfl⟩
    refine ⟨_, rfl, _, .inl ⟨_, SqL.of hw, rfl⟩, ?_⟩
    by_cases jl : j < ws.length
    · obtain ⟨⟨c, cw⟩, hc⟩ : ∃ e, ws[j]? = some e := ⟨_, List.getElem?_eq_getElem jl⟩
      have dr : ws.drop j = (c, cw) :: ws.drop (j + 1) := by
        rw [List.drop_eq_getElem_cons jl]
        congr 1
        exact (List.getElem?_eq_some_iff.mp hc).2
      have w6 := few6' inv.nd inv.lt
      have ne : (!(nms ((ws.drop j).map (·.1))).isEmpty) = true := by
        rw [dr]
        rfl
      rw [ne]
      refine iteT ⟨fun σ' H' => ∃ (kvs : List (Key × V)) (ws' : List (Nat × List Nat)) (y4 y5 y6 y7 : Option V), σ' = [some (.ref a), some (.int (st : Int)), some (.ref D), some (.ref wt), y4, y5, y6, y7] ∧ Same H H' ∧ H' D = some (.dK kvs) ∧ Ents H' kvs ws' ∧ H' wt = some (.lst (nms ((ws'.drop (j + 1)).map (·.1)))) ∧ BI ps st ws' (j + 1), ?_, ?_⟩
      · rintro σ' H' ⟨kvs, ws', y4, y5, y6, y7, rfl, g1, g2, g3, g4, g5⟩
        exact ⟨6 - (j + 1), by omega, kvs, ws', j + 1, y4, y5, y6, y7, rfl, g1, g2, g3, g4, g5, rfl⟩
      -- column = waiting.pop(0)
      refine ⟨_, rfl, .inl ⟨rfl, _, SqL.of hw⟩, wt, _, 0, 0, .int (c : Int), rfl, rfl, hw, by decide, by decide, ?_, ?_, ?_⟩
      · rw [dr]
        simp [seqIndex?, nms]
      · rw [dr]
        rfl
      have e1 : (nms ((ws.drop j).map (·.1))).eraseIdx 0 = nms ((ws.drop (j + 1)).map (·.1)) := by
        rw [dr]
        rfl
      rw [e1]
      have s2 : Same H (upd H1 wt (.lst (nms ((ws.drop (j + 1)).map (·.1))))) := same_mut s1 nwt0
      have h2D : (upd H1 wt (.lst (nms ((ws.drop (j + 1)).map (·.1))))) D = some (.dK kvs) := by rw [upd_ne wD.symm]; exact hD
      have h2w : (upd H1 wt (.lst (nms ((ws.drop (j + 1)).map (·.1))))) wt = some (.lst (nms ((ws.drop (j + 1)).map (·.1)))) := upd_same
      have en2 : Ents (upd H1 wt (.lst (nms ((ws.drop (j + 1)).map (·.1))))) kvs ws := en.mono fun t xs h => by rw [upd_ne (un h hw)]; exact h
      generalize upd H1 wt (.lst (nms ((ws.drop (j + 1)).map (·.1)))) = H2 at s2 h2D h2w en2
      -- the columns behind it
      refine ⟨_, rfl, a, rfl, ⟨_, same_l s2 ha⟩, fun L nL => ?_⟩
      refine lc_list (xs := us) (fun i H3 => Same H2 (wo H3 L) ∧ H3 L = some (.lst (nms (bsF (ps.take i) c)))) ⟨?_, upd_same⟩ (fun i H3 _ z => same_l (s2.trans (z.1.trans (wo_le L))) ha) ?_ ?_
      · rw [wo_upd]
        exact fun b o e => by rw [wo_ne (ne_of_none e nL)]; exact e
      · rintro i v H3 hv ⟨q1, q2⟩
        obtain ⟨⟨x, y⟩, hxy, dv⟩ := dps_pat dp hv
        have il : i < ps.length := (List.getElem?_eq_some_iff.mp hxy).1
        obtain ⟨t, rfl, ht⟩ := dp_p (dp_same (s2.trans (q1.trans (wo_le L))) _ _ dv)
        refine ⟨t, _, rfl, ht, rfl, _, _, rfl, _, _, rfl, rfl, rfl, ?_⟩
        refine ⟨_, rfl, _, rfl, rfl, _, rfl, ?_⟩
        rw [bsF_step hxy]
        by_cases e : x = c
        · subst e
          rw [show decide (V.int (x : Int) = V.int (x : Int)) = true from decide_eq_true rfl, if_pos (show x = x from rfl)]
          have bl := bsF_len (ps.take i) x
          rw [List.length_take] at bl
          have big : (nms (bsF (ps.take i) x)).length < sizeLine := Nat.lt_of_lt_of_le (show (nms (bsF (ps.take i) x)).length < 100000 by rw [nms_len]; omega) (by decide)
          refine iteT ?_
          refine ⟨_, rfl, _, q2, big, ?_, ?_⟩
          · rw [wo_upd]
            exact q1
          · rw [upd_same, nms_app]
            rfl
        · rw [show decide (V.int (x : Int) = V.int (c : Int)) = false from decide_eq_false (fun z => e (by injection z with z; omega)), if_neg e, List.append_nil]
          exact iteF ⟨q1, q2⟩
      rintro H3 ⟨q1, q2⟩
      rw [ul, List.take_length] at q2
      have s23 : Same H2 H3 := q1.trans (wo_le L)
      rw [nms_ints] at q2
      refine ⟨L, _, rfl, SqL.of q2, fun ns' p2 pm st2 n2 => ?_⟩
      obtain ⟨bs, rfl, pm2⟩ := nats_of pm
      rw [← nms_ints]
      have bsl : bs.Pairwise (· ≤ ·) := by
        rw [List.pairwise_map] at st2
        exact st2.imp fun h => by omega
      have hbs : ∀ b, b ∈ bs ↔ (c, b) ∈ ps := fun b => by
        rw [pm2.mem_iff]
        exact mem_take_bs
      have s24 : Same H2 (upd H3 p2 (.lst (nms bs))) := s23.trans (same_new n2)
      have h4p : (upd H3 p2 (.lst (nms bs))) p2 = some (.lst (nms bs)) := upd_same
      have n2' : H2 p2 = none := s23.free n2
      generalize upd H3 p2 (.lst (nms bs)) = H4 at s24 h4p
      have pD : p2 ≠ D := (ne_of_none h2D n2').symm
      have pw : p2 ≠ wt := (ne_of_none h2w n2').symm
      refine ⟨p2, rfl, ⟨_, SqL.of h4p⟩, ?_⟩
      have cm : (c, cw) ∈ ws := List.mem_of_getElem? hc
      refine for_list (xs := nms bs) (fun i σ' H' => ∃ (kvs : List (Key × V)) (nb : List Nat) (y5 y6 y7 : Option V), σ' = [some (.ref a), some (.int (st : Int)), some (.ref D), some (.ref wt), some (.int (c : Int)), y5, y6, y7] ∧ Same H H' ∧ H' p2 = some (.lst (nms bs)) ∧ H' D = some (.dK kvs) ∧ Ents H' kvs (ws ++ nws cw nb) ∧ H' wt = some (.lst (nms (((ws ++ nws cw nb).drop (j + 1)).map (·.1)))) ∧ TI ps ws c cw bs i nb)
        ⟨kvs, [], y5, y6, y7, rfl, s2.trans s24, h4p, s24 _ _ h2D, by rw [show nws cw [] = [] from rfl, List.append_nil]; exact en2.mono fun t xs h => s24 _ _ h, by rw [show nws cw [] = [] from rfl, List.append_nil]; exact s24 _ _ h2w, TI.start⟩
        (fun i σ' H' _ ⟨_, _, _, _, _, _, _, z, _⟩ => SqL.of z) ?_ ?_
      · rintro i v σ' H5 hv ⟨kvs, nb, y5, y6, y7, rfl, s5, g0, g1, g2, g3, ti⟩
        obtain ⟨b, hb, rfl⟩ : ∃ b, bs[i]? = some b ∧ v = .int (b : Int) := by
          rw [nms, List.getElem?_map] at hv
          cases z : bs[i]? with
          | none => rw [z] at hv; cases hv
          | some m => rw [z] at hv; exact ⟨m, rfl, (Option.some.inj hv).symm⟩
        have hbp : (c, b) ∈ ps := (hbs b).mp (List.mem_of_getElem? hb)
        have nbs : ∀ x ∈ nb, x < 6 := fun x hx => (hps _ ((hbs x).mp (List.mem_of_mem_take (ti.sub x hx)))).2
        have ndk : ((ws ++ nws cw nb).map (·.1)).Nodup := by
          rw [List.map_append, nws_keys]
          refine List.nodup_append.mpr ⟨inv.nd, ti.inc.imp (fun h => by omega), fun x hx y hy e => ?_⟩
          subst e
          exact ti.new x hy hx
        have lt6 : ∀ e ∈ ws ++ nws cw nb, e.1 < 6 := fun e he => by
          rcases List.mem_append.mp he with z | z
          · exact inv.lt e z
          · exact nbs _ (nws_mem.mp z).1
        have few := few6' ndk lt6
        have kl := g2.len
        refine ⟨_, rfl, _, rfl, D, _, rfl, DGet.k (k := Sum.inl (b : Int)) g1, _, rfl, ?_⟩
        by_cases hm : b ∈ (ws ++ nws cw nb).map (·.1)
        · obtain ⟨⟨b', u⟩, hu2, rfl⟩ := List.mem_map.mp hm
          obtain ⟨t, e3, _⟩ := g2.some ndk hu2
          rw [e3]
          exact iteF ⟨kvs, nb, _, _, _, rfl, s5, g0, g1, g2, g3, ti.old hb hm⟩
        · rw [g2.none hm]
          refine iteT ?_
          obtain ⟨t, e3, h3⟩ := g2.some ndk (List.mem_append_left _ cm)
          have gc := DGet.k (k := Sum.inl (c : Int)) g1
          rw [e3] at gc
          refine ⟨_, rfl, _, rfl, D, _, rfl, gc, t, _, rfl, .inl (SqT.of h3), _, rfl, ?_, fun t5 nt5 => ?_⟩
          · have := inv.len j _ hc
            exact Nat.le_of_lt (small1000 (by rw [List.length_append, nms_len]; simp only [List.length_singleton] at this ⊢; omega))
          have t5D : t5 ≠ D := (ne_of_none g1 nt5).symm
          have t5w : t5 ≠ wt := (ne_of_none g3 nt5).symm
          have t5p : t5 ≠ p2 := (ne_of_none g0 nt5).symm
          have nt5' : H t5 = none := s5.free nt5
          refine ⟨_, rfl, _, rfl, D, _, rfl, DPut.k (k := Sum.inl (b : Int)) (by rw [upd_ne t5D.symm]; exact g1) (small1000 (by omega)), ?_⟩
          rw [putK_new _ (g2.none hm)]
          have g3' : (upd (upd H5 t5 (.tup (nms cw ++ [.int (b : Int)]))) D (.dK (kvs ++ [(Sum.inl (b : Int), .ref t5)]))) wt = some (.lst (nms (((ws ++ nws cw nb).drop (j + 1)).map (·.1)))) := by
            rw [upd_ne wD, upd_ne t5w.symm]
            exact g3
          refine ⟨_, rfl, .inl ⟨rfl, _, SqL.of g3'⟩, _, rfl, wt, _, _, rfl, rfl, g3', small1000 (by rw [nms_len, List.length_map, List.length_drop]; omega), ?_⟩
          have eq1 : ws ++ nws cw (nb ++ [b]) = (ws ++ nws cw nb) ++ [(b, cw ++ [b])] := by
            unfold nws
            rw [List.map_append, List.append_assoc]
            rfl
          refine ⟨kvs ++ [(Sum.inl (b : Int), .ref t5)], nb ++ [b], _, _, _, rfl, same_mut (same_mut (s5.trans (same_new nt5)) nD) nwt0, ?_, ?_, ?_, ?_, ti.add bsl hb hm⟩
          · rw [upd_ne pw, upd_ne pD, upd_ne t5p.symm]
            exact g0
          · rw [upd_ne wD.symm]
            exact upd_same
          · rw [eq1]
            refine Ents.app (g2.mono fun t xs h => ?_) ⟨rfl, ⟨t5, rfl, ?_⟩, trivial⟩
            · rw [upd_ne (un h g3), upd_ne (ud h g1), upd_ne (ne_of_none h nt5)]
              exact h
            · rw [upd_ne t5w, upd_ne t5D, upd_same, nms_app]
              rfl
          · have eq2 : (ws ++ nws cw (nb ++ [b])).drop (j + 1) = (ws ++ nws cw nb).drop (j + 1) ++ [(b, cw ++ [b])] := by
              rw [eq1]
              exact List.drop_append_of_le_length (by rw [List.length_append]; omega)
            rw [upd_same, eq2, List.map_append, nms_app]
            rfl
      · rintro σ' H5 ⟨kvs, nb, y5, y6, y7, rfl, s5, g0, g1, g2, g3, ti⟩
        rw [nms_len] at ti
        exact ⟨kvs, _, _, _, _, _, rfl, s5, g1, g2, g3, inv.turn hc hbs hps ti⟩
    · have e1 : (!(nms ((ws.drop j).map (·.1))).isEmpty) = false := by
        rw [List.drop_eq_nil_of_le (by omega)]
        rfl
      rw [e1]
      refine iteF ⟨_, rfl, q D kvs ws H1 s1 nD hD en (inv.out (by omega))⟩
end
end CC
namespace CC
open PySem L2
abbrev sReached : Stmt := tp 32
theorem wk_of {ps : List (Nat × Nat)} {a b : Nat} (h : Rch ps a b) : ∃ w, Wk ps a b w := by
  induction h with
  | refl => exact ⟨_, .one⟩
  | step _ h ih =>
    obtain ⟨w, hw⟩ := ih
    exact ⟨_, hw.step h⟩
theorem rch_of {ps : List (Nat × Nat)} {a b : Nat} {w : List Nat} (h : Wk ps a b w) : Rch ps a b := by
  induction h with
  | one => exact .refl
  | step _ h ih => exact ih.step h
theorem FW.keys {ps : List (Nat × Nat)} {st : Nat} {ws : List (Nat × List Nat)} (h : FW ps st ws) (c : Nat) : c ∈ ws.map (·.1) ↔ Rch ps st c := by
  constructor
  · intro z
    obtain ⟨e, he, rfl⟩ := List.mem_map.mp z
    exact rch_of (h.wk e he)
  · intro z
    obtain ⟨w, hw⟩ := wk_of z
    obtain ⟨v, hv, _⟩ := h.fst c w hw
    exact List.mem_map.mpr ⟨_, hv, rfl⟩
def spReached (K : PySem.W.Frag) : Sp := fun vs H Q _ => ∃ (a : Addr) (us : List V) (ps : List (Nat × Nat)) (st : Nat), vs = [.ref a, .int (st : Int)] ∧ SqL K H a us ∧ DpAll K H us (ps.map prd) ∧ (∀ x ∈ ps, x.1 < 6 ∧ x.2 < 6) ∧ st < 6 ∧ ps.length ≤ 1000 ∧
  ∀ (p : Addr) (fs : List Nat) (H' : Hp), Same H H' → H p = none → H' p = some (.lst (nms fs)) → (∀ c, c ∈ fs ↔ Rch ps st c) → fs.Pairwise (· < ·) → Q (.ref p) H'
section
variable {P : Program} {w : World} {K : PySem.W.Frag} {mg : Str → Option Value} {base : Heap} {kA : Addr}
theorem scReached : FnScope ["pairs", "start"] ["pairs", "start"] (defScope sReached) := ⟨rfl, rfl, rfl, by decide +kernel, rfl, by decide +kernel, by decide +kernel⟩
theorem ok_reached {f : Addr} {fd : FuncData} {k : Nat} (F : Fun K "reached" "reached" sReached f fd) (T : Glb K mg kA) (cF : Cal P w K mg base "first_ways" ["pairs", "start"] (spFw K) 1) : FnOk P w K mg base CX0 (k + 2) f fd ["pairs", "start"] (spReached K) := by
  have GF := cF.ok (k + 1) (by omega)
  refine F.ok scReached (fun vs H Q E h => ?_) (fun cdv A outer s H vs Q E hr h => ?_)
  · obtain ⟨a, us, ps, st, rfl, _⟩ := h
    rfl
  · obtain ⟨a, us, ps, st, rfl, ha, dp, hps, hst, hpl, q⟩ := h
    refine ⟨_, pss_one (ps_ret (pe_callB cr_sortedI (by rfl) T.srt (by decide +kernel) (pa_cons (pe_callTy (call_listD rfl) (by rfl) T.lst (by decide +kernel) (pa_cons (pe_call GF hr rfl cF.g cF.kp cF.b .nil pass0 (pa_cons (pv 0) (pa_cons (pv 1) pa_nil))) pa_nil)) pa_nil))), ?_⟩
    refine ⟨_, rfl, _, rfl, a, us, ps, st, rfl, ha, dp, hps, hst, hpl, fun D kvs ws H1 s1 nD hD en fw => ?_⟩
    refine ⟨D, kvs, rfl, .inl hD, fun p np => ?_⟩
    rw [en.keys, nms_ints]
    have s2 : Same H1 (upd H1 p (.lst (((ws.map (·.1)).map fun (n : Nat) => (n : Int)).map V.int))) := same_new np
    have h2 : (upd H1 p (.lst (((ws.map (·.1)).map fun (n : Nat) => (n : Int)).map V.int))) p = some (.lst (((ws.map (·.1)).map fun (n : Nat) => (n : Int)).map V.int)) := upd_same
    generalize upd H1 p (.lst (((ws.map (·.1)).map fun (n : Nat) => (n : Int)).map V.int)) = H2 at s2 h2
    refine ⟨p, _, rfl, SqL.of h2, fun ns' p2 pm st2 n2 => ?_⟩
    obtain ⟨ms, rfl, pm2⟩ := nats_of pm
    rw [← nms_ints]
    refine q p2 ms _ ((s1.trans s2).trans (same_new n2)) ((s1.trans s2).free n2) upd_same (fun c => ?_) ?_
    · rw [pm2.mem_iff]
      exact fw.keys c
    · have nd : ms.Nodup := pm2.nodup_iff.mpr fw.nd
      have le : ms.Pairwise (· ≤ ·) := by
        rw [List.pairwise_map] at st2
        exact st2.imp fun h => by omega
      exact (le.and nd).imp fun h => by omega
end
end CC
namespace CC
open PySem L2
/-! ### what follows -/
inductive RT (S : Nat → Nat → Prop) (a : Nat) : Nat → Prop
  | refl : RT S a a
  | step {b c : Nat} : RT S a b → S b c → RT S a c
theorem RT.trans {S : Nat → Nat → Prop} {a b c : Nat} (h1 : RT S a b) (h2 : RT S b c) : RT S a c := by
  induction h2 with
  | refl => exact h1
  | step _ h ih => exact ih.step h
section
variable {P : Program} {w : World} {K : PySem.W.Frag} {mg : Str → Option Value} {base : Heap} {kA : Addr}
end
end CC
namespace CC
open PySem L2
section
variable {P : Program} {w : World} {K : PySem.W.Frag} {mg : Str → Option Value} {base : Heap} {kA : Addr}
end
end CC
namespace CC
open PySem L2
def tCallO2 (C : Addr) (sp : Sp) (E : XK) (tf : TE) (t : TA) : TE := fun σ H Q => tf σ H fun y H1 => ∃ a, y = V.ref a ∧ t σ H1 fun vs H2 => ((∃ dx vs, SlX.Slt H2 a C dx vs) ∨ ∃ dx fs, H2 a = some (.ins C dx fs)) ∧ sp (V.ref a :: vs) H2 Q E
theorem pe_callO2 {X : Cx} {CX : CXT} {k : Nat} {C g : Addr} {sp : Sp} {E : XK} {e fe : Expr} {es : List Expr} {tf : TE} {t : TA} {pos : Pos} (hf : PE X fe tf) (c : StX.CallO X.K C g) (F : FnR X.prog X.w X.K X.mg X.base CX k g sp) (hr : Room k X.A) (hx : Passes CX X E) (ha : PA X (e :: es) t)
    (ht : eval (.Call fe (e :: es) [] pos) X.env = (do callWith pos (← eval fe X.env) [] (backTo pos (starEach (e :: es) X.env)) (backToKw pos (keywordEach [] X.env))) := by rfl)
    (he : starEach (e :: es) X.env = (false, eval e X.env) :: starEach es X.env := by rfl) (hpl : (backTo pos (starEach es X.env)).any (·.1) = false := by rfl) : PE X (.Call fe (e :: es) [] pos) (tCallO2 C sp E tf t) :=
  StX.pe_callO hf c F hr hx ha ht he hpl
end CC
namespace CC
open PySem L2 TL
/-! ### the four classes of logs as one family -/
/-- a class of logs of a kind: what its methods promise -/
structure LogC (P : Program) (w : World) (K : PySem.W.Frag) (mg : Str → Option Value) (base : Heap) (CR CT c1 c5 c7 : Addr) (NR : NoR) (l : Nat) (kd : Nat) where
  C : Addr
  TM : TxtM K C
  add : MthX P w K mg base C "add" ["self", "row"] (spAddM K C CR CT (lbOf kd) (ckOf c5 c7 kd) NR c1) l
  fC : Addr
  cC : StX.CallO K C fC
  call : ∀ k, l + 1 ≤ k → FnR P w K mg base (L2.CX P w) k fC (spAddM K C CR CT (lbOf kd) (ckOf c5 c7 kd) NR c1)
  pR : Prp P w K mg base C "rules" "book"
  pT : Prp P w K mg base C "table" "held"
  pB : PrpL P w K mg base C "broken" (spBrP K C CR CT) 4
end CC
namespace CC
open PySem L2 TL LamX PyProof.Rows
/-- the exceptions that _law_said knows, in their order -/
abbrev nm9 : Nat → Str
  | 0 => "NoRow"
  | 1 => "NoNumber"
  | 2 => "NotTable"
  | 3 => "NotRules"
  | 4 => "UnlikeWidths"
  | 5 => "TooMuch"
  | 6 => "NotThere"
  | 7 => "Broken"
  | _ => "NothingDone"
structure Ex9 (K : PySem.W.Frag) (mg : Str → Option Value) (C : Nat → Addr) : Prop where
  g : ∀ i, i < 9 → mg (nm9 i) = some (.ref (C i))
  no : ∀ i, i < 9 → ∀ j, j < i → PySem.W.exmOne K (.ref (C i)) (.ref (C j)) = some false
  yes : ∀ i, i < 9 → PySem.W.exmOne K (.ref (C i)) (.ref (C i)) = some true
def e9 (C : Nat → Addr) (Q : VK) : XK := fun cls _ H' => ∃ i, i < 9 ∧ cls = .ref (C i) ∧ ∀ p, H' p = none → Q (.ref p) (upd H' p (.lst [.str (nm9 i)]))
def q9 (Q : VK) : VK := fun z H1 => ∀ p, H1 p = none → Q (.ref p) (upd H1 p (.lst [.str "told", z]))
/-- what is told of a lambda -/
def TS9 (C : Nat → Addr) : (XK → Hp → VK → Prop) → Hp → VK → Prop := fun tl H Q => ∀ Q' : VK, (∀ z H1, q9 Q z H1 → Q' z H1) → tl (e9 C Q) H Q'
abbrev nSa : List Str := ["_law_call"]
theorem scSaid : FnScope nSa ["_law_call"] (defScope sSaid) := ⟨rfl, rfl, rfl, by decide +kernel, rfl, by decide +kernel, by decide +kernel⟩
theorem said_gives {X : Cx} {q : Str} {g : Addr} {C : Nat → Addr} {cdg : Value} (x9 : Ex9 X.K X.mg C) : GivesTo X nSa "_law_said" (defScope sSaid) g cdg (defBody sSaid) "_law_call" q (TS9 C) := by
  intro f c' s H Q tl act hc h
  have n := scSaid.nd
  have RS : ∀ (i : Nat) {X : Cx} {k : Nat} {p1 p2 p3 : Pos}, PSs X [.Return (some (.List [.Constant (.str (nm9 i)) k p1] p2)) p3] _ := fun i {X k p1 p2 p3} => pss_one (ps_ret (pe_lst (pa_cons pe_str pa_nil)))
  refine ⟨_, pss_one (ps_try_many (X := (cxOf C8.CX0 X.prog X.w X.K X.mg X.base nSa "_law_said" (defScope sSaid) g cdg X.A X.stack s H C8.E0).nox)
      (tb := fun W D σ H => ∃ Ech : XK, (∀ cls d σ' H', Ech cls d H' → W cls d σ' H') ∧ σ[0]? = some (some (.ref f)) ∧ H c' = some (CodeO c' q) ∧ tl Ech H (fun z H1 => 2 ≤ sizeLine ∧ ∀ p, H1 p = none → D.rt (.ref p) (upd H1 p (.lst [.str "told", z]))))
      rfl rfl LamX.takes0 (fun W pn xe tk _ => ?_) (HdsOk.cons ⟨rfl, by decide, .inl (x9.g 0 (by decide))⟩ (fun a oe cls d pn _ _ => RS 0) (HdsOk.cons ⟨rfl, by decide, .inl (x9.g 1 (by decide))⟩ (fun a oe cls d pn _ _ => RS 1) (HdsOk.cons ⟨rfl, by decide, .inl (x9.g 2 (by decide))⟩ (fun a oe cls d pn _ _ => RS 2)
        (HdsOk.cons ⟨rfl, by decide, .inl (x9.g 3 (by decide))⟩ (fun a oe cls d pn _ _ => RS 3) (HdsOk.cons ⟨rfl, by decide, .inl (x9.g 4 (by decide))⟩ (fun a oe cls d pn _ _ => RS 4) (HdsOk.cons ⟨rfl, by decide, .inl (x9.g 5 (by decide))⟩ (fun a oe cls d pn _ _ => RS 5)
        (HdsOk.cons ⟨rfl, by decide, .inl (x9.g 6 (by decide))⟩ (fun a oe cls d pn _ _ => RS 6) (HdsOk.cons ⟨rfl, by decide, .inl (x9.g 7 (by decide))⟩ (fun a oe cls d pn _ _ => RS 7) (HdsOk.cons ⟨rfl, by decide, .inl (x9.g 8 (by decide))⟩ (fun a oe cls d pn _ _ => RS 8) .nil)))))))))), ?_⟩
  · refine ⟨fun pins s' σ H' D I h' => ?_⟩
    obtain ⟨Ech, hW, h1, h2, h3⟩ := h'
    exact (pss_one (ps_ret (pe_lst (pa_cons pe_str (pa_cons (act W pn xe Ech _ _ tk hW) pa_nil))))).run pins s' σ H' D I ⟨h1, h2, h3⟩
  · refine ⟨e9 C Q, fun cls d σ' H' he => ?_, rfl, hc, ?_⟩
    · obtain ⟨i, i9, rfl, he⟩ := he
      have N : ∀ j, j < i → PySem.W.exmOne X.K (.ref (C i)) (.ref (C j)) = some false := x9.no i i9
      have Y := x9.yes i i9
      have i9' : i = 0 ∨ i = 1 ∨ i = 2 ∨ i = 3 ∨ i = 4 ∨ i = 5 ∨ i = 6 ∨ i = 7 ∨ i = 8 := by omega
      rcases i9' with rfl | rfl | rfl | rfl | rfl | rfl | rfl | rfl | rfl
      · exact ⟨true, Y, fun _ a ha => ⟨(by show 1 ≤ sizeLine; decide), he⟩, fun z => nomatch z⟩
      · exact ⟨false, N 0 (by decide), (fun z => nomatch z), fun _ => ⟨true, Y, fun _ a ha => ⟨(by show 1 ≤ sizeLine; decide), he⟩, fun z => nomatch z⟩⟩
      · exact ⟨false, N 0 (by decide), (fun z => nomatch z), fun _ => ⟨false, N 1 (by decide), (fun z => nomatch z), fun _ => ⟨true, Y, fun _ a ha => ⟨(by show 1 ≤ sizeLine; decide), he⟩, fun z => nomatch z⟩⟩⟩
      · exact ⟨false, N 0 (by decide), (fun z => nomatch z), fun _ => ⟨false, N 1 (by decide), (fun z => nomatch z), fun _ => ⟨false, N 2 (by decide), (fun z => nomatch z), fun _ => ⟨true, Y, fun _ a ha => ⟨(by show 1 ≤ sizeLine; decide), he⟩, fun z => nomatch z⟩⟩⟩⟩
      · exact ⟨false, N 0 (by decide), (fun z => nomatch z), fun _ => ⟨false, N 1 (by decide), (fun z => nomatch z), fun _ => ⟨false, N 2 (by decide), (fun z => nomatch z), fun _ => ⟨false, N 3 (by decide), (fun z => nomatch z), fun _ => ⟨true, Y, fun _ a ha => ⟨(by show 1 ≤ sizeLine; decide), he⟩, fun z => nomatch z⟩⟩⟩⟩⟩
      · exact ⟨false, N 0 (by decide), (fun z => nomatch z), fun _ => ⟨false, N 1 (by decide), (fun z => nomatch z), fun _ => ⟨false, N 2 (by decide), (fun z => nomatch z), fun _ => ⟨false, N 3 (by decide), (fun z => nomatch z), fun _ => ⟨false, N 4 (by decide), (fun z => nomatch z), fun _ => ⟨true, Y, fun _ a ha => ⟨(by show 1 ≤ sizeLine; decide), he⟩, fun z => nomatch z⟩⟩⟩⟩⟩⟩
      · exact ⟨false, N 0 (by decide), (fun z => nomatch z), fun _ => ⟨false, N 1 (by decide), (fun z => nomatch z), fun _ => ⟨false, N 2 (by decide), (fun z => nomatch z), fun _ => ⟨false, N 3 (by decide), (fun z => nomatch z), fun _ => ⟨false, N 4 (by decide), (fun z => nomatch z), fun _ => ⟨false, N 5 (by decide), (fun z => nomatch z), fun _ => ⟨true, Y, fun _ a ha => ⟨(by show 1 ≤ sizeLine; decide), he⟩, fun z => nomatch z⟩⟩⟩⟩⟩⟩⟩
      · exact ⟨false, N 0 (by decide), (fun z => nomatch z), fun _ => ⟨false, N 1 (by decide), (fun z => nomatch z), fun _ => ⟨false, N 2 (by decide), (fun z => nomatch z), fun _ => ⟨false, N 3 (by decide), (fun z => nomatch z), fun _ => ⟨false, N 4 (by decide), (fun z => nomatch z), fun _ => ⟨false, N 5 (by decide), (fun z => nomatch z), fun _ => ⟨false, N 6 (by decide), (fun z => nomatch z), fun _ => ⟨true, Y, fun _ a ha => ⟨(by show 1 ≤ sizeLine; decide), he⟩, fun z => nomatch z⟩⟩⟩⟩⟩⟩⟩⟩
      · exact ⟨false, N 0 (by decide), (fun z => nomatch z), fun _ => ⟨false, N 1 (by decide), (fun z => nomatch z), fun _ => ⟨false, N 2 (by decide), (fun z => nomatch z), fun _ => ⟨false, N 3 (by decide), (fun z => nomatch z), fun _ => ⟨false, N 4 (by decide), (fun z => nomatch z), fun _ => ⟨false, N 5 (by decide), (fun z => nomatch z), fun _ => ⟨false, N 6 (by decide), (fun z => nomatch z), fun _ => ⟨false, N 7 (by decide), (fun z => nomatch z), fun _ => ⟨true, Y, fun _ a ha => ⟨(by show 1 ≤ sizeLine; decide), he⟩, fun z => nomatch z⟩⟩⟩⟩⟩⟩⟩⟩⟩
    · exact h _ fun z H1 hz => ⟨(by decide), hz⟩
end CC
namespace CC
open PySem L2 LamX
section
variable {H H' : Hp} {K : PySem.W.Frag} {C CR CT x r q : Addr} {w n : Nat} {rs : List R} {rows : List (List Nat)}
theorem RulesAt.ext (h : RulesAt K CR H r w rs) (e : ExtN H H') : RulesAt K CR H' r w rs := by
  obtain ⟨dx, g, us, h1, h2, h3⟩ := h
  exact ⟨dx, g, us, e _ _ h1 (tb_no rfl), ext_tup e h2, dps_ext e _ _ h3⟩
theorem wos_ext {l : List Addr} (e : ExtN H H') : ExtN (wos H l) (wos H' l) := fun b o h n => by
  obtain ⟨nb, h⟩ := wos_at h
  rw [wos_in nb]
  exact e b o h n
theorem LogAt.ext (L : LogAt K C CR CT H x r q w rs rows n) (e : ExtN H H') : LogAt K C CR CT H' x r q w rs rows n := by
  obtain ⟨⟨dx, t, h1, h2⟩, h3, ⟨hs, h4, h5⟩⟩ := L
  exact ⟨⟨dx, t, e _ _ h1 (tb_no rfl), h2.ext (wos_ext e)⟩, h3.ext (wos_ext e), ⟨hs, ext_lst e h4, h5⟩⟩
end
end CC
namespace CC
open PySem L2 TL LamX PyProof.Rows
/-- the script, the source, the tables of code objects and two logs -/
structure W2 (K : PySem.W.Frag) (Ts : List (Addr × Str)) (C CR CT : Addr) (lm : Option Nat) (H : Hp) (a p x1 r1 q1 x2 r2 q2 : Addr) (ns : List Int) (w : Nat) (rs1 rs2 : List R) (rows1 rows2 : List (List Nat)) (ps1 ps2 : List (List (List Nat))) : Prop where
  scr : SqL K (wos H [p, x1, q1, x2, q2]) a (ns.map V.int)
  src : Src H p
  tab : Tabs Ts H
  l1 : LgAt K C CR CT lm H x1 r1 q1 w rs1 rows1 ps1
  l2 : LgAt K C CR CT lm H x2 r2 q2 w rs2 rows2 ps2
  nx : x1 ≠ x2
  nq : q1 ≠ q2
  n1 : q1 ≠ p
  n2 : q2 ≠ p
section
variable {K : PySem.W.Frag} {Ts : List (Addr × Str)} {C CR CT : Addr} {lm : Option Nat} {H H' : Hp} {a p x1 r1 q1 x2 r2 q2 : Addr} {ns : List Int} {w : Nat} {rs1 rs2 : List R} {rows1 rows2 rows1' rows2' : List (List Nat)} {ps1 ps2 ps1' ps2' : List (List (List Nat))}
theorem src_out (s : Src H p) (L : LgAt K C CR CT lm H x1 r1 q1 w rs1 rows1 ps1) (n1 : q1 ≠ p) : p ∉ [x1, q1] := by
  obtain ⟨o, hp, z1, z2, z3, rfl, _⟩ := s
  obtain ⟨dx, t, hx, _⟩ := L.at_
  simp only [List.mem_cons, List.not_mem_nil, or_false, not_or]
  exact ⟨(ne_of hx hp (by intro z; cases z)).symm, n1.symm⟩
theorem W2.grow (W : W2 K Ts C CR CT lm H a p x1 r1 q1 x2 r2 q2 ns w rs1 rs2 rows1 rows2 ps1 ps2) (e : Same H H') : W2 K Ts C CR CT lm H' a p x1 r1 q1 x2 r2 q2 ns w rs1 rs2 rows1 rows2 ps1 ps2 := by
  obtain ⟨o, s1, s2⟩ := W.src
  exact ⟨same_l (Kp.of e).same W.scr, ⟨o, e _ _ s1, s2⟩, W.tab.ext e, W.l1.keep e, W.l2.keep e, W.nx, W.nq, W.n1, W.n2⟩
theorem W2.ext (W : W2 K Ts C CR CT lm H a p x1 r1 q1 x2 r2 q2 ns w rs1 rs2 rows1 rows2 ps1 ps2) (e : ExtN H H') (t : Tabs Ts H') : W2 K Ts C CR CT lm H' a p x1 r1 q1 x2 r2 q2 ns w rs1 rs2 rows1 rows2 ps1 ps2 := by
  obtain ⟨o, h1, h2⟩ := W.src
  obtain ⟨i1, i2, i3, eo, _⟩ := id h2
  refine ⟨same_l (fun b u q => ?_) (sql_nt W.scr), ⟨o, e _ _ h1 (fun ps q => by rw [eo] at q; cases q), h2⟩, t, W.l1.ext e, W.l2.ext e, W.nx, W.nq, W.n1, W.n2⟩
  obtain ⟨q, n⟩ := nt_at q
  obtain ⟨nb, q⟩ := wos_at q
  rw [wos_in nb]
  exact e _ _ q (tb_no n)
theorem W2.run (W : W2 K Ts C CR CT lm H a p x1 r1 q1 x2 r2 q2 ns w rs1 rs2 rows1 rows2 ps1 ps2) (e : Ran H H' p) : W2 K Ts C CR CT lm H' a p x1 r1 q1 x2 r2 q2 ns w rs1 rs2 rows1 rows2 ps1 ps2 :=
  ⟨same_l (Kp.ran e (by simp)).same W.scr, e.src, tabs_ran W.tab W.src e, W.l1.ran W.src W.n1 e, W.l2.ran W.src W.n2 e, W.nx, W.nq, W.n1, W.n2⟩
theorem W2.chg1 (W : W2 K Ts C CR CT lm H a p x1 r1 q1 x2 r2 q2 ns w rs1 rs2 rows1 rows2 ps1 ps2) (k : Kp [x1, q1] H H') (L : LgAt K C CR CT lm H' x1 r1 q1 w rs1 rows1' ps1') : W2 K Ts C CR CT lm H' a p x1 r1 q1 x2 r2 q2 ns w rs1 rs2 rows1' rows2 ps1' ps2 := by
  obtain ⟨o, s1, s2⟩ := W.src
  exact ⟨same_l (k.up fun b hb => by simp at hb ⊢; rcases hb with hb | hb <;> simp [hb]).same W.scr, ⟨o, k _ _ s1 (src_out W.src W.l1 W.n1), s2⟩, W.l1.tabs W.tab k, L, W.l2.beside W.l1 W.nx.symm W.nq.symm k, W.nx, W.nq, W.n1, W.n2⟩
theorem W2.chg2 (W : W2 K Ts C CR CT lm H a p x1 r1 q1 x2 r2 q2 ns w rs1 rs2 rows1 rows2 ps1 ps2) (k : Kp [x2, q2] H H') (L : LgAt K C CR CT lm H' x2 r2 q2 w rs2 rows2' ps2') : W2 K Ts C CR CT lm H' a p x1 r1 q1 x2 r2 q2 ns w rs1 rs2 rows1 rows2' ps1 ps2' := by
  obtain ⟨o, s1, s2⟩ := W.src
  exact ⟨same_l (k.up fun b hb => by simp at hb ⊢; rcases hb with hb | hb <;> simp [hb]).same W.scr, ⟨o, k _ _ s1 (src_out W.src W.l2 W.n2), s2⟩, W.l2.tabs W.tab k, W.l1.beside W.l2 W.nx W.nq k, L, W.nx, W.nq, W.n1, W.n2⟩
theorem W2.w3 (W : W2 K Ts C CR CT lm H a p x1 r1 q1 x2 r2 q2 ns w rs1 rs2 rows1 rows2 ps1 ps2) : W3 K Ts H a p ns :=
  ⟨by rw [wo_wos]; exact same_l (wos_mono fun b hb => by simp at hb ⊢; exact .inl hb) W.scr, W.src, W.tab⟩
/-- two logs just made -/
theorem W2.mk' {H0 H1 : Hp} (W : W3 K Ts H0 a p ns) (s01 : Same H0 H1) (a1 : H0 x1 = none) (a2 : H0 q1 = none) (L1 : LgAt K C CR CT lm H1 x1 r1 q1 w rs1 rows1 ps1) (b1 : H1 x2 = none) (b2 : H1 q2 = none) (s12 : Same H1 H') (L2 : LgAt K C CR CT lm H' x2 r2 q2 w rs2 rows2 ps2) : W2 K Ts C CR CT lm H' a p x1 r1 q1 x2 r2 q2 ns w rs1 rs2 rows1 rows2 ps1 ps2 := by
  have W' := W.grow (s01.trans s12)
  obtain ⟨o, s1, s2⟩ := W.src
  obtain ⟨dx, t, hx, _⟩ := L1.at_
  obtain ⟨hs, hq, _⟩ := L1.past
  refine ⟨same_l (fun b u e => ?_) W.scr, W'.src, W'.tab, L1.keep s12, L2, ne_of_none hx b1, ne_of_none hq b2, (ne_of_none s1 a2).symm, (ne_of_none (s01 _ _ s1) b2).symm⟩
  have bp : b ≠ p := fun y => by
    rw [y, wo_at] at e
    cases e
  rw [wo_ne bp] at e
  rw [wos_in (by simp only [List.mem_cons, List.not_mem_nil, or_false, not_or]; exact ⟨bp, ne_of_none e a1, ne_of_none e a2, ne_of_none (s01 _ _ e) b1, ne_of_none (s01 _ _ e) b2⟩)]
  exact s12 _ _ (s01 _ _ e)
end
/-! what is told of add -/
def lN (C9 : Nat → Addr) (c : Addr) : Nat := if c = C9 5 then 5 else 7
/-- what _law_said tells of a call that check judges -/
def tldV (C9 : Nat → Addr) : Option Addr → List V
  | none => [.str "told", .non]
  | some c => [.str (nm9 (lN C9 c))]
def tldD (C9 : Nat → Addr) : Option Addr → PyData
  | none => .list [.str "told", .none]
  | some c => .list [.str (nm9 (lN C9 c))]
theorem tld_dp {K : PySem.W.Frag} {H : Hp} {p : Addr} {C9 : Nat → Addr} {o : Option Addr} (h : H p = some (.lst (tldV C9 o))) : Dp K H (.ref p) (tldD C9 o) := by
  cases o with
  | none => exact .lst (SqL.of h) (.cons (.str _) (.cons .non .nil))
  | some c => exact .lst (SqL.of h) (.cons (.str _) .nil)
theorem tld_shp {C9 : Nat → Addr} {o : Option Addr} : SeqAt.shaped (tldD C9 o) = true := by
  cases o with
  | none => exact (by decide +kernel : SeqAt.shaped (.list [.str "told", .none]) = true)
  | some c =>
    show SeqAt.shaped (.list [.str (nm9 (if c = C9 5 then 5 else 7))]) = true
    split <;> decide +kernel
theorem tld_eqv {C9 : Nat → Addr} {o : Option Addr} : (!PyData.eqv (tldD C9 o) (tldD C9 o)) = false := by
  cases o with
  | none => simp [tldD, PyData.eqv, PyData.eqvAll]
  | some c => simp [tldD, PyData.eqv, PyData.eqvAll]
theorem ckOf_val {c5 c7 : Addr} {kd : Nat} {lm : Option Nat} {w : Nat} {rs : List R} {rows : List (List Nat)} {c : Addr} (h : ckOf c5 c7 kd lm w rs rows = some c) : c = c5 ∨ c = c7 := by
  have A : ∀ c, ckA c5 lm w rs rows = some c → c = c5 := fun c h => by
    unfold ckA at h
    split at h
    · exact (Option.some.inj h).symm
    · cases h
  have M : ∀ c, ckMo c5 lm w rs rows = some c → c = c5 := fun c h => by
    unfold ckMo at h
    split at h
    · split at h
      · exact (Option.some.inj h).symm
      · cases h
    · cases h
  have B : ∀ c, ckBr c7 lm w rs rows = some c → c = c7 := fun c h => by
    unfold ckBr at h
    split at h
    · exact (Option.some.inj h).symm
    · cases h
  have TH : ∀ (f g : CkM) c, ckTh f g lm w rs rows = some c → f lm w rs rows = some c ∨ g lm w rs rows = some c := fun f g c h => by
    unfold ckTh at h
    split at h
    · rename_i c' e
      rw [e]
      exact .inl h
    · exact .inr h
  match kd, h with
  | 0, h => exact .inl (A _ h)
  | 1, h => exact (TH _ _ _ h).elim (fun z => .inl (A _ z)) fun z => .inr (B _ z)
  | 2, h => exact (TH _ _ _ h).elim (fun z => .inl (A _ z)) fun z => .inl (M _ z)
  | n + 3, h => exact (TH _ _ _ h).elim (fun z => (TH _ _ _ z).elim (fun y => .inl (A _ y)) fun y => .inl (M _ y)) fun z => .inr (B _ z)
theorem ckOf_ok (c5 c7 : Addr) (kd : Nat) : CkOk (ckOf c5 c7 kd) := by
  match kd with
  | 0 => exact ckA_ok c5
  | 1 => exact ckTh_ok (ckA_ok c5)
  | 2 => exact ckTh_ok (ckA_ok c5)
  | n + 3 => exact ckTh_ok (ckTh_ok (ckA_ok c5))
/-- the order of the rules does not matter -/
theorem ckOf_rev (c5 c7 : Addr) (kd : Nat) (lm : Option Nat) (w : Nat) (rs : List R) (rows : List (List Nat)) : ckOf c5 c7 kd lm w rs.reverse rows = ckOf c5 c7 kd lm w rs rows := by
  have B : ckBr c7 lm w rs.reverse rows = ckBr c7 lm w rs rows := by
    unfold ckBr brkL
    rw [List.filter_reverse, List.any_reverse]
  match kd with
  | 0 => rfl
  | 1 =>
    show ckTh (ckA c5) (ckBr c7) lm w rs.reverse rows = ckTh (ckA c5) (ckBr c7) lm w rs rows
    unfold ckTh
    rw [B]
    rfl
  | 2 => rfl
  | n + 3 =>
    show ckTh (ckTh (ckA c5) (ckMo c5)) (ckBr c7) lm w rs.reverse rows = ckTh (ckTh (ckA c5) (ckMo c5)) (ckBr c7) lm w rs rows
    unfold ckTh
    rw [B]
    rfl
/-- a Strict that takes rows has no broken rule that settles -/
theorem ckOf_strict {c5 c7 : Addr} {kd : Nat} {lm : Option Nat} {w : Nat} {rs : List R} {rows : List (List Nat)} (k4 : kd < 4) (h : ckOf c5 c7 kd lm w rs rows = none) (odd : kd % 2 = 1) : (brkL rows rs).any (·.k) = false := by
  have B : ∀ f : CkM, ckTh f (ckBr c7) lm w rs rows = none → (brkL rows rs).any (·.k) = false := fun f h => by
    unfold ckTh at h
    split at h
    · cases h
    · unfold ckBr at h
      split at h
      · cases h
      · rename_i z
        exact eq_false_of_ne_true z
  have : kd = 1 ∨ kd = 3 := by omega
  rcases this with rfl | rfl
  · exact B _ h
  · exact B _ h
section
variable {P : Program} {w : World} {K : PySem.W.Frag} {mg : Str → Option Value} {base : Heap} {CR CT c1 c5 c7 : Addr} {NR : NoR} {l : Nat} {lm : Option Nat} {H : Hp} {x r q tr : Addr} {m : Nat} {rs : List R} {rows : List (List Nat)} {ps : List (List (List Nat))} {row : List Nat} {σ : L2.St} {i j kd : Nat} {C9 : Nat → Addr} {Q : VK}
/-- what is told of log.add(row) -/
theorem ts9_addM (LC : ∀ kd, LogC P w K mg base CR CT c1 c5 c7 NR l kd) (e5 : c5 = C9 5) (e7 : c7 = C9 7) (ne57 : C9 7 ≠ C9 5) (hx : σ[i]? = some (some (.ref x))) (ht : σ[j]? = some (some (.ref tr))) (hlb : lm.isSome = lbOf kd) (L : LgAt K (LC kd).C CR CT lm H x r q m rs rows ps) (ok : LgOk m rs rows) (p1 : ps.length < 1000) (htr : SqT K H tr (nms row)) (rok : RowOk m row) (fw : Fw (rows ++ [row]))
    (bad : ∀ c, ckOf c5 c7 kd lm m rs (rows ++ [row]) = some c → ∀ H1, Same H H1 → ∀ p, H1 p = none → Q (.ref p) (upd H1 p (.lst (tldV C9 (some c)))))
    (good : ckOf c5 c7 kd lm m rs (rows ++ [row]) = none → ∀ H1, Kp [x, q] H H1 → LgAt K (LC kd).C CR CT lm H1 x r q m rs (rows ++ [row]) (ps ++ [rows]) → ∀ p, H1 p = none → Q (.ref p) (upd H1 p (.lst (tldV C9 none)))) :
    TS9 C9 (fun E H' Q' => ∃ kd, tMeth (LC kd).C "add" (spAddM K (LC kd).C CR CT (lbOf kd) (ckOf c5 c7 kd) NR c1) [] E (tVar i) (tCons (tVar j) tNil) σ H' Q') H Q := by
  intro Q' hq
  obtain ⟨dx, t1, hx1, _⟩ := id L.at_
  refine ⟨kd, _, hx, x, dx, _, rfl, hx1, fldM_no _ _ _ _ (by decide +kernel) (by decide +kernel) (by decide +kernel) (by decide +kernel), _, ht, ?_⟩
  refine ⟨lm, x, r, q, m, rs, rows, ps, .ref tr, hlb, rfl, L, ok, p1, .inl ⟨tr, row, rfl, htr, rok, fw, fun c hc H1 s1 => ?_, fun hc H1 k1 L1 => ?_⟩⟩
  · rcases ckOf_val hc with e | e
    · refine ⟨5, by decide, by rw [e, e5], fun p np => ?_⟩
      have : Q (.ref p) (upd H1 p (.lst [.str (nm9 (lN C9 c))])) := bad _ hc H1 s1 p np
      rw [show lN C9 c = 5 from if_pos (e.trans e5)] at this
      exact this
    · refine ⟨7, by decide, by rw [e, e7], fun p np => ?_⟩
      have : Q (.ref p) (upd H1 p (.lst [.str (nm9 (lN C9 c))])) := bad _ hc H1 s1 p np
      rw [show lN C9 c = 7 from if_neg (by rw [e, e7]; exact ne57)] at this
      exact this
  · exact hq _ _ (good hc H1 k1 L1)
/-- what is told of log(row) -/
theorem ts9_callM (LC : ∀ kd, LogC P w K mg base CR CT c1 c5 c7 NR l kd) (e5 : c5 = C9 5) (e7 : c7 = C9 7) (ne57 : C9 7 ≠ C9 5) (hx : σ[i]? = some (some (.ref x))) (ht : σ[j]? = some (some (.ref tr))) (hlb : lm.isSome = lbOf kd) (L : LgAt K (LC kd).C CR CT lm H x r q m rs rows ps) (ok : LgOk m rs rows) (p1 : ps.length < 1000) (htr : SqT K H tr (nms row)) (rok : RowOk m row) (fw : Fw (rows ++ [row]))
    (bad : ∀ c, ckOf c5 c7 kd lm m rs (rows ++ [row]) = some c → ∀ H1, Same H H1 → ∀ p, H1 p = none → Q (.ref p) (upd H1 p (.lst (tldV C9 (some c)))))
    (good : ckOf c5 c7 kd lm m rs (rows ++ [row]) = none → ∀ H1, Kp [x, q] H H1 → LgAt K (LC kd).C CR CT lm H1 x r q m rs (rows ++ [row]) (ps ++ [rows]) → ∀ p, H1 p = none → Q (.ref p) (upd H1 p (.lst (tldV C9 none)))) :
    TS9 C9 (fun E H' Q' => ∃ kd, tCallO2 (LC kd).C (spAddM K (LC kd).C CR CT (lbOf kd) (ckOf c5 c7 kd) NR c1) E (tVar i) (tCons (tVar j) tNil) σ H' Q') H Q := by
  intro Q' hq
  obtain ⟨dx, t1, hx1, _⟩ := id L.at_
  refine ⟨kd, _, hx, x, rfl, _, ht, .inr ⟨dx, _, hx1⟩, ?_⟩
  refine ⟨lm, x, r, q, m, rs, rows, ps, .ref tr, hlb, rfl, L, ok, p1, .inl ⟨tr, row, rfl, htr, rok, fw, fun c hc H1 s1 => ?_, fun hc H1 k1 L1 => ?_⟩⟩
  · rcases ckOf_val hc with e | e
    · refine ⟨5, by decide, by rw [e, e5], fun p np => ?_⟩
      have : Q (.ref p) (upd H1 p (.lst [.str (nm9 (lN C9 c))])) := bad _ hc H1 s1 p np
      rw [show lN C9 c = 5 from if_pos (e.trans e5)] at this
      exact this
    · refine ⟨7, by decide, by rw [e, e7], fun p np => ?_⟩
      have : Q (.ref p) (upd H1 p (.lst [.str (nm9 (lN C9 c))])) := bad _ hc H1 s1 p np
      rw [show lN C9 c = 7 from if_neg (by rw [e, e7]; exact ne57)] at this
      exact this
  · exact hq _ _ (good hc H1 k1 L1)
end
end CC
namespace CC
open PySem L2 TL
def spTCall (K : PySem.W.Frag) (C : Addr) : Sp := fun vs H Q _ => ∃ (x : Addr) (m : Nat) (rows : List (List Nat)) (v : V) (r : R), vs = [.ref x, v] ∧ TableAt K C H x m rows ∧ (∀ x ∈ rows, RowOk m x) ∧ rows.length ≤ 15 ∧ Dp K H v r.d ∧ r.ok m ∧ ∀ (t : Bool) H', Same H H' → (t = true ↔ HoldsR rows r) → Q (.bl t) H'
/-- table(rule) -/
structure CallT (P : Program) (w : World) (K : PySem.W.Frag) (mg : Str → Option Value) (base : Heap) (C : Addr) (l : Nat) where
  fC : Addr
  cC : StX.CallO K C fC
  ok : ∀ k, l ≤ k → FnR P w K mg base CX0 k fC (spTCall K C)
section
variable {P : Program} {w : World} {K : PySem.W.Frag} {mg : Str → Option Value} {base : Heap} {kA : Addr}
theorem scTCall : FnScope ["self", "rule"] ["self", "rule"] (defScope sTCall) := ⟨rfl, rfl, rfl, by decide +kernel, rfl, by decide +kernel, by decide +kernel⟩
theorem ok_tcall {f C : Addr} {fd : FuncData} {k : Nat} (F : Fun K "__call__" "Table.__call__" sTCall f fd) (T : Glb K mg kA) (TC : TxtT K mg C) (cF : Cal P w K mg base "holds" ["rows", "rule"] (spHo K) 1)
 (cU : Cal P w K mg base "is_rule" ["width", "thing"] (spIsRule K) 3) :
    FnOk P w K mg base CX0 (k + 4) f fd ["self", "rule"] (spTCall K C) := by
  have GF := cF.ok (k + 3) (by omega)
  have GU := cU.ok (k + 3) (by omega)
  refine F.ok scTCall (fun vs H Q E h => ?_) (fun cdv A outer s H vs Q E hr h => ?_)
  · obtain ⟨x, w, rs, v, r, rfl, _⟩ := h
    rfl
  · obtain ⟨x, m, rows, v, r, rfl, ⟨dx, g, us, h1, h2, h3⟩, ho, few, dv, hr2, q⟩ := h
    refine ⟨_, pss_cons (ps_if (pt_not (pt_val (pe_call GU hr rfl cU.g cU.kp cU.b .nil pass0 (pa_cons (pe_fld (pv 0) rfl) (pa_cons (pv 1) pa_nil))))) (pss_one ps_never) pss_nil)
      (pss_one (ps_ret (pe_call GF hr rfl cF.g cF.kp cF.b .nil pass0 (pa_cons (pe_fld (pv 0) rfl) (pa_cons (pv 1) pa_nil))))), ?_⟩
    refine ⟨_, rfl, x, C, dx, _, _, rfl, h1, TC.cl, TC.nS, fldT_span _ _, _, rfl, m, v, r, rfl, dv, hr2, _, rfl, iteF ?_⟩
    refine ⟨_, rfl, x, C, dx, _, _, rfl, h1, TC.cl, TC.nL, fldT_lines _ _, _, rfl, ?_⟩
    exact ⟨g, us, m, rows, v, r, rfl, .inl (.inl h2), h3, ho, few, dv, hr2, q⟩
end
end CC
namespace CC
open PySem L2 TL
noncomputable instance decHolds (rows : List (List Nat)) (r : R) : Decidable (HoldsR rows r) := Classical.propDecidable _
/-- all rules that hold in rows, ascending -/
noncomputable def obL (rows : List (List Nat)) (w : Nat) : List R := (allR w).filter fun r => decide (HoldsR rows r)
theorem mem_obL {rows : List (List Nat)} {w : Nat} {r : R} : r ∈ obL rows w ↔ r.ok w ∧ HoldsR rows r := by
  unfold obL
  rw [List.mem_filter, mem_allR, decide_eq_true_iff]
theorem obL_nodup {rows : List (List Nat)} {w : Nat} (h : w ≤ 6) : (obL rows w).Nodup := (allR_nodup h).filter _
def spObey (K : PySem.W.Frag) (C CT : Addr) : Sp := fun vs H Q _ => ∃ (x : Addr) (w : Nat) (rows : List (List Nat)), vs = [.ref x] ∧ TableAt K CT H x w rows ∧ 1 ≤ w ∧ w ≤ 6 ∧ (∀ r ∈ rows, RowOk w r) ∧ rows.length ≤ 15 ∧ ∀ (z : Addr) (H' : Hp), Same H H' → H z = none → RulesAt K C H' z w (obL rows w) → Q (.ref z) H'
/-- table.obeyed() -/
structure ObeyT (P : Program) (w : World) (K : PySem.W.Frag) (mg : Str → Option Value) (base : Heap) (C CT : Addr) (l : Nat) where
  f : Addr
  fd : FuncData
  m : Meth K CT "obeyed" f
  ok : ∀ k, l ≤ k → FnOk P w K mg base CX0 k f fd ["self"] (spObey K C CT)
  b : Binds K fd ["self"] []
section
variable {P : Program} {w : World} {K : PySem.W.Frag} {mg : Str → Option Value} {base : Heap} {kA : Addr}
abbrev nOb : List Str := ["self", "found", "rule"]
theorem scObey : FnScope nOb ["self"] (defScope sObey) := ⟨rfl, rfl, rfl, by decide +kernel, rfl, by decide +kernel, by decide +kernel⟩
theorem ok_obey {f C CT : Addr} {fd : FuncData} {k : Nat} (F : Fun K "obeyed" "Table.obeyed" sObey f fd) (T : Glb K mg kA) (TC : Txt1 K mg C) (TCT : TxtT K mg CT) (m : MakeR P w K mg base C 4) (cE : Cal P w K mg base "every_rule" ["width"] (spEvery K) 1) (cH : Cal P w K mg base "holds" ["rows", "rule"] (spHo K) 1) : FnOk P w K mg base CX0 (k + 6) f fd ["self"] (spObey K C CT) := by
  have GN := m.ok (k + 4) (by omega)
  have GE := cE.ok (k + 5) (by omega)
  have GH := cH.ok (k + 5) (by omega)
  refine F.ok scObey (fun vs H Q E h => ?_) (fun cdv A outer s H vs Q E hr h => ?_)
  · obtain ⟨x, w, rows, rfl, _⟩ := h
    rfl
  · obtain ⟨x, w, rows, rfl, ⟨dx, g, us, h1, h2, h3⟩, w1, w6, ok, few, q⟩ := h
    have n := scObey.nd
    refine ⟨_, (pss_cons (ps_setLc (i := 1) (own := [("rule", 2)]) (g := gName 2) (tt := tB (tCall (spHo K) [] E0 (tCons (tFld K (tVar 0) "lines") (tCons (tVar 2) tNil)))) rfl n rfl rfl (sw_true rfl rfl rfl (by decide +kernel)) (pi_list (pe_call GE hr rfl cE.g cE.kp cE.b .nil pass0 (pa_cons (pe_fld (pv 0) rfl) pa_nil))) (blkOk_by (N := nOb) (sc := defScope sObey) (by decide +kernel))
        (fun _ _ _ _ _ => (pg_name (i := 2) n rfl (.inl rfl))) (fun _ _ _ _ _ => pts_one (pt_val (pe_call GH hr rfl cH.g cH.kp cH.b .nil pass0 (pa_cons (pe_fld (pv 0) rfl) (pa_cons (pv 2) pa_nil))))) (fun _ _ _ _ _ => (pv 2)))
      (pss_one (ps_ret (pe_makeRS m.M GN hr rfl TC.mgC pass0 (pa_cons (pe_fld (pv 0) rfl) (StX.pa_star (pv 1) pa_nil)))))), ?_⟩
    refine ⟨_, rfl, x, CT, dx, _, _, rfl, h1, TCT.cl, TCT.nS, fldT_span _ _, w, rfl, w6, fun pa ua H1 s1 npa hpa dpa => ⟨pa, rfl, ⟨_, SqL.of hpa⟩, fun D nD => ?_⟩⟩
    have ual : ua.length = (allR w).length := by rw [dps_len dpa, List.length_map]
    have all60 : (allR w).length ≤ 60 := few_rules w6 (fun r hr => mem_allR.mp hr) (allR_nodup w6)
    have dpa1 := dps_same (wo_le pa) _ _ dpa
    refine lc_list (xs := ua) (fun i H' => MadeF R.d K H1 D i H' (((allR w).take i).filter fun r => decide (HoldsR rows r))) MadeF.start (fun i H' _ z => SqL.of (z.old nD _ _ hpa)) ?_ ?_
    · rintro i v H' hv mo
      obtain ⟨r, hr2, dr⟩ := dps_rat dpa1 hv
      have rk : r.ok w := mem_allR.mp (List.mem_of_getElem? hr2)
      have il : i < (allR w).length := (List.getElem?_eq_some_iff.mp hr2).1
      have o := mo.old nD
      have o0 := s1.trans o
      refine ⟨rfl, _, rfl, x, CT, dx, _, _, rfl, o0 _ _ h1, TCT.cl, TCT.nL, fldT_lines _ _, _, rfl, g, us, w, rows, v, r, rfl, .inl (.inl (o0 _ _ h2)), dps_same o0 _ _ h3, ok, few, dp_same o _ _ dr, rk, fun t H2 s2 ht => ⟨_, rfl, ?_⟩⟩
      obtain ⟨uo, _, hDo, _⟩ := id mo
      rw [SG.take_one hr2, List.filter_append]
      cases t with
      | false =>
        have nh : ¬ HoldsR rows r := fun z => by
          have := ht.mpr z
          cases this
        rw [List.filter_cons_of_neg (by rw [decide_eq_false nh]; decide), List.filter_nil, List.append_nil]
        exact iteF (mo.keep s2 (by omega) rfl)
      | true =>
        have yh : HoldsR rows r := ht.mp rfl
        rw [List.filter_cons_of_pos (p := fun r => decide (HoldsR rows r)) (decide_eq_true yh), List.filter_nil]
        refine iteT ⟨_, rfl, ?_⟩
        exact mo.push (r := r) (m := i + 1) (by omega) (Nat.lt_succ_self _) s2 (rd_T (((same_T o).trans (same_T s2)).trans (wo_T (s2 _ _ hDo))) dr)
    rintro H2 mo
    have o := mo.old nD
    rw [ual, List.take_length] at mo
    obtain ⟨uo, _, hDo, dDo, ulo⟩ := mo
    have s02 : Same H H2 := s1.trans o
    have dj : DpAll K H2 uo ((obL rows w).map R.d) := dps_same (wo_le D) _ _ dDo
    have oka : ∀ r ∈ obL rows w, r.ok w := fun r hr => (mem_obL.mp hr).1
    have nda : (obL rows w).Nodup := obL_nodup w6
    have ula : uo.length = (obL rows w).length := by rw [dps_len dj, List.length_map]
    have rla := few_rules w6 oka nda
    refine ⟨_, rfl, x, CT, dx, _, _, rfl, s02 _ _ h1, TCT.cl, TCT.nS, fldT_span _ _, _, rfl, D, _, rfl, .inr (SqL.of hDo), fun z dz nz ndz ne => ?_⟩
    rw [List.append_nil]
    refine ⟨[.ref z, .int (w : Int)], uo, rfl, rfl, Nat.le_of_lt (small1000 (by omega)), fun t nt => ?_⟩
    have gx : z ≠ t := fun e => by rw [← e, upd_same] at nt; cases nt
    have gdx : dz ≠ t := fun e => by rw [← e, upd_ne ne, upd_same] at nt; cases nt
    have ng1 : H2 t = none := by
      rw [upd_ne gx.symm, upd_ne gdx.symm] at nt
      exact nt
    have keep : ∀ b o, H2 b = some o → (upd (upd (upd H2 dz (.own z)) z (.ins C dz [])) t (.tup uo)) b = some o := fun b o e => by
      rw [upd_ne (ne_of_none e ng1), upd_ne (ne_of_none e nz), upd_ne (ne_of_none e ndz)]
      exact e
    refine ⟨z, dz, w, t, uo, obL rows w, rfl, by rw [upd_ne gx]; exact upd_same, w1, w6, upd_same, dps_same ?_ _ _ dj, oka, nda, fun H' k1 k2 => ⟨rfl, q z H' ?_ ?_ ⟨dz, t, uo, k2, ?_, ?_⟩⟩⟩
    · exact fun b o e => by
        rw [wo_ne (ne_of_none e nz)]
        exact keep b o e
    · exact fun b o e => k1 b o (keep b o (s02 _ _ e)) (ne_of_none (s02 _ _ e) nz)
    · exact s02.free nz
    · exact k1 t _ upd_same gx.symm
    · refine dps_same (fun b o e => ?_) _ _ dj
      exact k1 b o (keep b o e) (ne_of_none e nz)
end
end CC
namespace CC
open PySem L2 TL
def spTCnt (K : PySem.W.Frag) (C : Addr) : Sp := fun vs H Q _ => ∃ (x : Addr) (w : Nat) (rows : List (List Nat)), vs = [.ref x] ∧ TableAt K C H x w rows ∧ w ≤ 6 ∧ (∀ r ∈ rows, RowOk w r) ∧ rows.length ≤ 400 ∧ ∀ (v : V) (H' : Hp), Same H H' → Dp K H' v (gd ((List.range w).map fun c => dn (colN rows c))) → Q v H'
section
variable {P : Program} {w : World} {K : PySem.W.Frag} {mg : Str → Option Value} {base : Heap} {kA : Addr}
abbrev scCn : Scope := lcScT (callArg0 (retVal ((defBody sTCnt).getD 0 (.Pass ⟨0, 0, 0, 0⟩))))
abbrev nCt : List Str := ["self", "column", "row"]
theorem scTCnt : FnScope nCt ["self"] (defScope sTCnt) := ⟨rfl, rfl, rfl, by decide +kernel, rfl, by decide +kernel, by decide +kernel⟩
theorem ok_tcnt {f C : Addr} {fd : FuncData} {k : Nat} (F : Fun K "counts" "Table.counts" sTCnt f fd) (T : Glb K mg kA) (TC : TxtT K mg C) : FnOk P w K mg base CX0 (k + 1) f fd ["self"] (spTCnt K C) := by
  refine F.ok scTCnt (fun vs H Q E h => ?_) (fun cdv A outer s H vs Q E hr h => ?_)
  · obtain ⟨x, m, rows, rfl, _⟩ := h
    rfl
  · obtain ⟨x, m, rows, rfl, ta, w6, ok, few, q⟩ := h
    obtain ⟨dx, g, us, h1, h2, h3⟩ := id ta
    have n := scTCnt.nd
    refine ⟨_, (pss_one (ps_ret (pe_callTy call_tuple_of (by rfl) T.tup (by decide +kernel) (pa_cons (pe_lc (own := [("column", 1)]) (g := gName 1) (tt := tYes) (te := tCB (rLenI w) (tCons (SC.tSI w (iTup K (tFld K (tVar 0) "lines")) (gName 2) tYes (tOp (rIxT K) (tVar 2) (tVar 1)) [2]) tNil)) rfl n (pi_range1 (by rfl) T.rng (pa_cons (pe_fld (pv 0) rfl) pa_nil)) (blkOk_by (N := nCt) (sc := defScope sTCnt) (by decide +kernel))
        (fun _ _ _ _ _ => (pg_name (i := 1) n rfl (.inr rfl))) (fun _ _ _ _ _ => pts_nil) (fun _ _ _ _ _ => (pe_callB call_lenI (by rfl) T.len PySem.boot_len (pa_cons (SC.pe_setI (own := [("row", 2)]) (g := gName 2) (tt := tYes) rfl n (pi_tup (pe_fld (pv 0) rfl)) (blkOk_by (N := nCt) (sc := relS scCn (defScope sTCnt)) (by decide +kernel))
          (fun _ _ _ _ _ => (pg_name (i := 2) n rfl (.inl rfl))) (fun _ _ _ _ _ => pts_nil) (fun _ _ _ _ _ => (pe_ix ix_tup (pv 2) (pv 1) (fun _ _ => rfl)))) pa_nil)))) pa_nil)))), ?_⟩
    have ew : ((m : Nat) : Int).toNat = m := by omega
    have ul : us.length = rows.length := by rw [dps_len h3, List.length_map]
    refine ⟨_, rfl, x, C, dx, _, _, rfl, h1, TC.cl, TC.nS, fldT_span _ _, _, rfl, by omega, by omega, fun D nD => ?_⟩
    refine lc_range (lo := 0) (n := ((m : Nat) : Int).toNat) (fun i H1 => Same H (wo H1 D) ∧ H1 D = some (.lst (nms ((List.range i).map fun c => dn (colN rows c)))) ∧ i ≤ 6) ⟨?_, upd_same, by omega⟩ ?_ ?_
    · rw [wo_upd]
      exact fun b o e => by rw [wo_ne (ne_of_none e nD)]; exact e
    · rintro i H1 hi ⟨e1, e2, e3⟩
      have im : i < m := by omega
      have s1 : Same H H1 := e1.trans (wo_le D)
      rw [Int.zero_add]
      refine ⟨rfl, yes_if ⟨_, rfl, x, C, dx, _, _, rfl, s1 _ _ h1, TC.cl, TC.nL, fldT_lines _ _, g, rfl, ⟨_, .inl (.inl (s1 _ _ h2))⟩, fun D2 nD2 => ?_⟩⟩
      have cut : ∀ j, dn (colN (rows.take j) i) ≤ j := fun j => by
        have e : colN (rows.take j) i = (colN rows i).take j := by
          unfold colN
          rw [List.map_take]
        rw [e]
        exact dn_le _ j
      refine si_tup (xs := us) (fun j H2 => Same H1 (wo H2 D2) ∧ H2 D2 = some (SetO w D2 (memI (colN (rows.take j) i)) (dn (colN (rows.take j) i))) ∧ j ≤ 400) ⟨?_, ?_, by omega⟩ (fun j H2 _ z => .inl (.inl (wo_le D2 _ _ (z.1 _ _ (s1 _ _ h2))))) ?_ ?_
      · rw [wo_upd]
        exact fun b o e => by rw [wo_ne (ne_of_none e nD2)]; exact e
      · rw [upd_same]
        have e : memI (colN (rows.take 0) i) = fun _ => false := by
          funext k
          simp [memI, colN]
        have e' : dn (colN (rows.take 0) i) = 0 := by simp [dn, firsts, colN]
        rw [e, e']
      · rintro j v H2 hv ⟨f1, f2, f3⟩
        obtain ⟨r, hr2, dr⟩ := dps_gat h3 hv
        have jl := (List.getElem?_eq_some_iff.mp hr2).1
        have rok := ok r (List.mem_of_getElem? hr2)
        obtain ⟨t, rfl, ht⟩ := gd_at dr
        have s2 : Same H H2 := s1.trans (f1.trans (wo_le D2))
        have gx : (nms r)[i]? = some (.int ((r.getD i 0 : Nat) : Int)) := by
          rw [nms, List.getElem?_map, List.getD_eq_getElem?_getD, List.getElem?_eq_getElem (by rw [rok.1]; exact im)]
          rfl
        have room : dn (colN (rows.take j) i) + 1 < scanBound := by
          have := cut j
          unfold scanBound
          omega
        refine ⟨rfl, yes_if ⟨_, rfl, _, rfl, t, _, _, _, rfl, rfl, same_t s2 ht, atI_nat gx, (memI (colN (rows.take j) i), dn (colN (rows.take j) i)), _, f2, ⟨_, rfl, room, rfl⟩, ?_, ?_, by omega⟩⟩
        · rw [wo_upd]
          exact f1
        · rw [upd_same]
          show some (SetO w D2 (fun j' => memI (colN (rows.take j) i) j' || decide (j' = ((r.getD i 0 : Nat) : Int))) (if memI (colN (rows.take j) i) ((r.getD i 0 : Nat) : Int) = true then dn (colN (rows.take j) i) else dn (colN (rows.take j) i) + 1)) = _
          rw [memI_snoc, colN_take hr2, dn_snoc, memI_at]
          by_cases e : r.getD i 0 ∈ colN (rows.take j) i
          · rw [decide_eq_true e, if_pos rfl, if_pos e]
          · rw [decide_eq_false e, if_neg (by decide), if_neg e]
      · rintro H2 ⟨f1, f2, _⟩
        rw [ul, List.take_length] at f2
        have s12 : Same H1 H2 := f1.trans (wo_le D2)
        have dl : dn (colN rows i) ≤ 1000 := by
          have := cut rows.length
          rw [List.take_length] at this
          omega
        refine ⟨D2, _, _, rfl, f2, dl, _, s12 _ _ e2, small1000 (by rw [nms_len, List.length_map, List.length_range]; omega), ?_, ?_, by omega⟩
        · rw [wo_upd]
          exact e1.trans (wo_same s12)
        · rw [upd_same, List.range_succ, List.map_append, nms_app]
          rfl
    rintro H1 ⟨e1, e2, _⟩
    rw [ew] at e2
    refine ⟨D, _, rfl, .inl ⟨SqL.of e2, fun t nt => ?_⟩⟩
    exact q (.ref t) _ ((e1.trans (wo_le D)).trans (same_new nt)) (dp_gd (.inl (.inl upd_same)))
end
end CC
namespace OC
open PySem PySem.Spec PyProof.Rows L2
section
variable {X : Cx} {CX : CXT} {k : Nat} {g C : Addr} {sp : Sp} {E : XK}
/-- x in y by the own __contains__ -/
def rInO (C : Addr) (sp : Sp) (E : XK) : R2 := fun x y H Q => ∃ b dx fs, y = .ref b ∧ H b = some (.ins C dx fs) ∧ sp [y, x] H (fun v H' => ∃ c, v = .bl c ∧ Q (.bl c) H') E
theorem op_inO (hs : PySem.W.findIn X.K (.ref C) "__contains__" = some (some (.ref g))) (hf : PySem.W.isFn X.K (.ref g) = true) (F : FnR X.prog X.w X.K X.mg X.base CX k g sp) (hr : Room k X.A) (hx : Passes CX X E) : OpR X (compareOp .In) (rInO C sp E) := by
  intro pins s σ H x y v u Q I rx ry h
  obtain ⟨b, dx, fs, rfl, hb, q⟩ := h
  cases (show u = Value.ref b from ry)
  obtain ⟨mA, J, _⟩ := ins_get I.hok hb
  obtain ⟨od, J, _⟩ := J.look
  obtain ⟨m, hF⟩ := I.fr
  refine PySem.W.in_K hF I.ok.mod.kin J hs hf ?_
  refine wpAny_mono (wpAny_call (run_fnR (us := [.ref b, v]) (vs := [.ref b, x]) F hr hx I (.cons rfl (.cons rx .nil)) q)) (fun w s' z => ?_) fun _ _ x => x
  obtain ⟨z', H', I', rz, c, rfl, qz⟩ := z
  cases rz
  exact wpAny_truthy_bool ⟨.bl c, H', I', rfl, qz⟩
end
end OC
namespace CC
open PySem L2 TL
/-- r in rules, r a rule for the width -/
def spRCon (K : PySem.W.Frag) (C : Addr) : Sp := fun vs H Q _ => ∃ (x : Addr) (v : V) (w : Nat) (rs : List R) (r : R), vs = [.ref x, v] ∧ RulesAt K C H x w rs ∧ Dp K H v r.d ∧ r.ok w ∧ Q (.bl (decide (r ∈ rs))) H
structure ConR (P : Program) (w : World) (K : PySem.W.Frag) (mg : Str → Option Value) (base : Heap) (C : Addr) (l : Nat) where
  f : Addr
  fi : PySem.W.findIn K (.ref C) "__contains__" = some (some (.ref f))
  fn : PySem.W.isFn K (.ref f) = true
  ok : ∀ k, l ≤ k → FnR P w K mg base CX0 k f (spRCon K C)
section
variable {P : Program} {w : World} {K : PySem.W.Frag} {mg : Str → Option Value} {base : Heap} {kA : Addr}
theorem scRCon : FnScope ["self", "thing"] ["self", "thing"] (defScope sRCon) := ⟨rfl, rfl, rfl, by decide +kernel, rfl, by decide +kernel, by decide +kernel⟩
theorem ok_rcon {f C : Addr} {fd : FuncData} {k : Nat} (F : Fun K "__contains__" "Rules.__contains__" sRCon f fd) (T : Glb K mg kA) (TC : Txt1 K mg C) (cU : Cal P w K mg base "is_rule" ["width", "thing"] (spIsRule K) 3) : FnOk P w K mg base CX0 (k + 4) f fd ["self", "thing"] (spRCon K C) := by
  have GU := cU.ok (k + 3) (by omega)
  refine F.ok scRCon (fun vs H Q E h => ?_) (fun cdv A outer s H vs Q E hr h => ?_)
  · obtain ⟨x, v, w, rs, r, rfl, _⟩ := h
    rfl
  · obtain ⟨x, v, m, rs, r, rfl, ⟨dx, g, us, h1, h2, h3⟩, dv, ho, q⟩ := h
    have hu65 : (A.deeper (PyProof.Rows.envOfC (Str.ofString "Rules.__contains__") (defScope sRCon) s.heap.objs.size f cdv)).units + 65 < cLine := by
      have := hr.un
      omega
    refine ⟨_, (pss_one (ps_ret (pe_and (pe_call GU hr rfl cU.g cU.kp cU.b .nil pass0 (pa_cons (pe_fld (pv 0) rfl) (pa_cons (pv 1) pa_nil))) (pe_one (pe_cmpR (op_inDT hu65) (pv 1) (pe_fld (pv 0) rfl) (by rfl)))))), ?_⟩
    refine ⟨_, rfl, x, C, dx, _, _, rfl, h1, TC.cl, TC.nS, flds_span _ _, _, rfl, m, v, r, rfl, dv, ho, _, rfl, iteT ?_⟩
    refine ⟨_, rfl, _, rfl, x, C, dx, _, _, rfl, h1, TC.cl, TC.nG, flds_given _ _, r.d, rs.map R.d, dv, .tup (.inl (.inl h2)) h3, rd_shaped r, rds_shaped _, ?_⟩
    rw [rds_any]
    exact q
end
end CC
/-! rows as data: equal, in, shaped; the last of several equal rows taken out -/
namespace RW
open PySem L2 CC
theorem eqv_nums : ∀ m l : List Nat, PyData.eqvAll (m.map fun (n : Nat) => PyData.int (n : Int)) (l.map fun (n : Nat) => PyData.int (n : Int)) = decide (m = l)
  | [], [] => by simp [PyData.eqvAll]
  | [], _ :: _ => by simp [PyData.eqvAll]
  | _ :: _, [] => by simp [PyData.eqvAll]
  | a :: m, b :: l => by
    have ih := eqv_nums m l
    simp only [List.map_cons, PyData.eqvAll, PyData.eqv, ih]
    by_cases e : a = b
    · subst e
      simp
    · simp only [List.cons.injEq, e, false_and, decide_false, Bool.and_eq_false_imp, beq_iff_eq]
      intro z
      exact absurd (by omega) e
theorem gd_eqv (m l : List Nat) : PyData.eqv (gd m) (gd l) = decide (m = l) := by
  show PyData.eqvAll _ _ = _
  exact eqv_nums m l
theorem nums_lay (m : List Nat) : PyData.canLayAll0 (m.map fun (n : Nat) => PyData.int (n : Int)) = true ∧ PyData.depthAll (m.map fun (n : Nat) => PyData.int (n : Int)) = 0 := by
  induction m with
  | nil => simp [PyData.canLayAll0, PyData.depthAll]
  | cons x m ih => simp [PyData.canLayAll0, PyData.depthAll, PyData.canLay0, PyData.depth, ih.1, ih.2]
theorem gdl_lay (ms : List (List Nat)) : PyData.canLayAll0 (ms.map gd) = true ∧ PyData.depthAll (ms.map gd) ≤ 1 := by
  induction ms with
  | nil => simp [PyData.canLayAll0, PyData.depthAll]
  | cons m ms ih =>
    have g := nums_lay m
    simp only [List.map_cons, PyData.canLayAll0, PyData.depthAll, gd, PyData.canLay0, PyData.depth, g.1, g.2, Bool.true_and]
    refine ⟨ih.1, ?_⟩
    have := ih.2
    unfold gd at this
    omega
theorem gdl_shp (ms : List (List Nat)) : SeqAt.shaped (.list (ms.map gd)) = true := by
  have h := gdl_lay ms
  show ((PyData.list (ms.map gd)).canLay0 && decide ((PyData.list (ms.map gd)).depth ≤ 64)) = true
  simp only [PyData.canLay0, PyData.depth, h.1, Bool.true_and]
  exact decide_eq_true (by have := h.2; omega)
/-- the rows without the last one that is equal to this one -/
def dropR (rows : List (List Nat)) (row : List Nat) : List (List Nat) := (rows.reverse.erase row).reverse
theorem dropR_at {rows : List (List Nat)} {row : List Nat} {p : Nat} (h : rows[p]? = some row) (last : ∀ j, p < j → rows[j]? ≠ some row) : rows.eraseIdx p = dropR rows row := by
  have pl := (List.getElem?_eq_some_iff.mp h).1
  have hp : rows[p] = row := (List.getElem?_eq_some_iff.mp h).2
  have e : rows = rows.take p ++ row :: rows.drop (p + 1) := by
    rw [← hp, ← List.drop_eq_getElem_cons pl, List.take_append_drop]
  have nb : row ∉ rows.drop (p + 1) := fun z => by
    obtain ⟨i, hi⟩ := List.mem_iff_getElem?.mp z
    rw [List.getElem?_drop] at hi
    exact last _ (by omega) hi
  have ta : (rows.take p).length = p := by rw [List.length_take]; omega
  have e1 : rows.eraseIdx p = rows.take p ++ rows.drop (p + 1) := List.eraseIdx_eq_take_drop_succ ..
  rw [e1]
  generalize rows.take p = a at e
  generalize rows.drop (p + 1) = b at e nb
  subst e
  unfold dropR
  rw [List.reverse_append, List.reverse_cons, List.append_assoc, List.erase_append_right _ (by simpa using nb)]
  simp
/-- the places of a row among the first i -/
structure Plc (rows : List (List Nat)) (row : List Nat) (i : Nat) (ns : List Nat) : Prop where
  is : ∀ j ∈ ns, j < i ∧ rows[j]? = some row
  all : ∀ j, j < i → rows[j]? = some row → j ∈ ns
  up : ns.Pairwise (· < ·)
theorem Plc.nil {rows : List (List Nat)} {row : List Nat} : Plc rows row 0 [] := ⟨(fun j hj => nomatch hj), (fun j hj => absurd hj (Nat.not_lt_zero _)), List.Pairwise.nil⟩
theorem Plc.yes {rows : List (List Nat)} {row : List Nat} {i : Nat} {ns : List Nat} (h : Plc rows row i ns) (e : rows[i]? = some row) : Plc rows row (i + 1) (ns ++ [i]) := by
  refine ⟨fun j hj => ?_, fun j hj ej => ?_, List.pairwise_append.mpr ⟨h.up, by simp, fun a ha b hb => ?_⟩⟩
  · rcases List.mem_append.mp hj with z | z
    · exact ⟨Nat.lt_succ_of_lt (h.is j z).1, (h.is j z).2⟩
    · rw [List.mem_singleton.mp z]
      exact ⟨Nat.lt_succ_self _, e⟩
  · by_cases z : j = i
    · rw [z]
      exact List.mem_append_right _ (List.mem_singleton.mpr rfl)
    · exact List.mem_append_left _ (h.all j (by omega) ej)
  · rw [List.mem_singleton.mp hb]
    exact (h.is a ha).1
theorem Plc.no {rows : List (List Nat)} {row : List Nat} {i : Nat} {ns : List Nat} (h : Plc rows row i ns) (e : rows[i]? ≠ some row) : Plc rows row (i + 1) ns := by
  refine ⟨fun j hj => ⟨Nat.lt_succ_of_lt (h.is j hj).1, (h.is j hj).2⟩, fun j hj ej => ?_, h.up⟩
  by_cases z : j = i
  · rw [z] at ej
    exact absurd ej e
  · exact h.all j (by omega) ej
theorem Plc.len {rows : List (List Nat)} {row : List Nat} {i : Nat} {ns : List Nat} (h : Plc rows row i ns) (hi : i ≤ 400) : ns.length ≤ 400 := by
  have nd : ns.Nodup := h.up.imp fun z => Nat.ne_of_lt z
  have := SG.sub_len (r := List.range i) nd fun x hx => List.mem_range.mpr (h.is x hx).1
  rw [List.length_range] at this
  omega
/-- the last of them -/
theorem Plc.last {rows : List (List Nat)} {row : List Nat} {ns : List Nat} (h : Plc rows row rows.length ns) (hm : row ∈ rows) : ∃ ms p, ns = ms ++ [p] ∧ rows.eraseIdx p = dropR rows row := by
  obtain ⟨i, hi⟩ := List.mem_iff_getElem?.mp hm
  have im := h.all i (List.getElem?_eq_some_iff.mp hi).1 hi
  have ne : ns ≠ [] := fun z => by rw [z] at im; cases im
  obtain ⟨ms, p, rfl⟩ : ∃ u x, ns = u ++ [x] := ⟨_, _, (List.dropLast_concat_getLast ne).symm⟩
  refine ⟨ms, p, rfl, dropR_at (h.is p (by simp)).2 fun j hj ej => ?_⟩
  have jm := h.all j (List.getElem?_eq_some_iff.mp ej).1 ej
  rcases List.mem_append.mp jm with z | z
  · have := (List.pairwise_append.mp h.up).2.2 j z p (by simp)
    omega
  · rw [List.mem_singleton.mp z] at hj
    omega
end RW
namespace CC
open PySem L2 TL
theorem brk_iff {rows : List (List Nat)} {rs : List R} {r : R} (h : r ∈ rs) : r ∈ brkL rows rs ↔ ¬ HoldsR rows r := by
  unfold brkL
  rw [List.mem_filter]
  constructor
  · intro ⟨_, z⟩ y
    rw [holdsB_iff.mpr y] at z
    cases z
  · intro z
    refine ⟨h, ?_⟩
    cases e : holdsB rows r with
    | false => rfl
    | true => exact absurd (holdsB_iff.mp e) z
theorem fldT_obeyed (w : Nat) (g : Addr) : (fldT w g).lookup ("obeyed" : Str) = none := by
  unfold fldT flT0
  rw [lookup_putF, if_neg (by decide +kernel), lookup_putF, if_neg (by decide +kernel)]
  rfl
section
variable {P : Program} {w : World} {K : PySem.W.Frag} {mg : Str → Option Value} {base : Heap} {kA : Addr}
/-- broken beside the table, obeyed and the numbers of values -/
def spTrt (K : PySem.W.Frag) (C4 : Nat → Addr) (CR CT : Addr) : Sp := fun vs H Q _ => ∃ (kd : Nat) (lm : Option Nat) (x r q : Addr) (w : Nat) (rs : List R) (rows : List (List Nat)) (ps : List (List (List Nat))), vs = [.ref x, .int (kd : Int)] ∧ kd < 4 ∧ LgAt K (C4 kd) CR CT lm H x r q w rs rows ps ∧ LgOk w rs rows ∧ rows.length ≤ 15 ∧ (kd % 2 = 1 → (brkL rows rs).any (·.k) = false) ∧ ∀ H', Same H H' → Q (.bl true) H'
abbrev nTrt : List Str := ["_law_log", "_law_kind", "_law_made_here", "_law_lost", "_law_counts", "_law_rule", "_law_word", "_law_a", "_law_b", "_law_more", "_law_less"]
theorem scTrt : FnScope nTrt ["_law_log", "_law_kind"] (defScope sTrt) := ⟨rfl, rfl, rfl, by decide +kernel, rfl, by decide +kernel, by decide +kernel⟩
theorem ok_trt {f CR CT c1 c5 c7 : Addr} {NR : NoR} {l : Nat} {fd : FuncData} {k : Nat} (F : Fun K "_law_is_told_right" "_law_is_told_right" sTrt f fd) (T : Glb K mg kA) (TR : Txt1 K mg CR) (TT : TxtT K mg CT) (LC : ∀ kd, LogC P w K mg base CR CT c1 c5 c7 NR l kd) (pR : Prp P w K mg base CR "rules" "given") (pTC : PrpG P w K mg base CT "counts" (spTCnt K CT)) (cl : CallT P w K mg base CT 4) (ob : ObeyT P w K mg base CR CT 6) (co : ConR P w K mg base CR 4) : FnOk P w K mg base CX0 (k + 7) f fd ["_law_log", "_law_kind"] (spTrt K (fun kd => (LC kd).C) CR CT) := by
  have GC := cl.ok (k + 6) (by omega)
  have GO := ob.ok (k + 6) (by omega)
  have GN := co.ok (k + 6) (by omega)
  refine F.ok scTrt (fun vs H Q E h => ?_) (fun cdv A outer s H vs Q E hr h => ?_)
  · obtain ⟨kd, lm, x, r, q, m, rs, rows, ps, rfl, _⟩ := h
    rfl
  · obtain ⟨kd, lm, x, r, pq, m, rs, rows, ps, rfl, k4, L, ok, few, str, q⟩ := h
    have n := scTrt.nd
    have hu64 : (A.deeper (PyProof.Rows.envOfC (Str.ofString "_law_is_told_right") (defScope sTrt) s.heap.objs.size f cdv)).units + 64 < cLine := by
      have := hr.un
      omega
    have hu65 : (A.deeper (PyProof.Rows.envOfC (Str.ofString "_law_is_told_right") (defScope sTrt) s.heap.objs.size f cdv)).units + 65 < cLine := by
      have := hr.un
      omega
    refine ⟨_, (pss_cons (ps_par3 (i := 2) (j := 3) (l := 4) rfl n rfl rfl rfl (by decide) (by decide) (by decide) rfl rfl rfl (pa_cons (pe_ex fun kd => pe_prop (pv 0) (LC kd).TM.cl (LC kd).pT.hp ((LC kd).pT.ok (k + 5) (by omega)) hr (LC kd).pT.b .nil pass0 rfl) (pa_cons (pe_ex fun kd => pe_prop (pv 0) (LC kd).TM.cl (LC kd).pB.hp ((LC kd).pB.ok (k + 5) (by omega)) hr (LC kd).pB.b .nil pass0 rfl) (pa_cons (pe_prop (pe_ex fun kd => pe_prop (pv 0) (LC kd).TM.cl (LC kd).pT.hp ((LC kd).pT.ok (k + 5) (by omega)) hr (LC kd).pT.b .nil pass0 rfl) TT.cl pTC.hp (pTC.ok (k + 5) (by omega)) hr pTC.b .nil pass0 rfl) pa_nil))) (by rfl))
      (pss_cons (ps_for PassesOwn.never rfl (pi_tup (pe_prop (pe_ex fun kd => pe_prop (pv 0) (LC kd).TM.cl (LC kd).pR.hp ((LC kd).pR.ok (k + 5) (by omega)) hr (LC kd).pR.b .nil pass0 rfl) TR.cl pR.hp (pR.ok (k + 5) (by omega)) hr pR.b .nil pass0 rfl)) (pg_name (i := 5) n rfl (.inl rfl))
        (pss_cons (ps_if (PW.pt (pw_or (pt_cmpR op_eq (pe_callO2 (pv 2) cl.cC GC hr pass0 (pa_cons (pv 5) pa_nil)) (pe_cmpR (op_inDT hu65) (pv 5) (pv 3) (by rfl)) (nomark _)) (pw_or1 (pt_cmpR op_eq (pe_cmpR (OC.op_inO co.fi co.fn GN hr pass0) (pv 5) (pe_meth0 (pv 2) TT.cl ob.m GO hr ob.b .nil pass0) (by rfl)) (pe_cmpR (op_inDT hu65) (pv 5) (pv 3) (by rfl)) (nomark _))))) (pss_one (ps_ret pe_bl)) pss_nil)
        (pss_cons (ps_asg (pv 5) (pg_tup rfl (pgs_cons (pg_name (i := 6) n rfl (.inl rfl)) (pgs_cons (pg_name (i := 7) n rfl (.inl rfl)) (pgs_cons (pg_name (i := 8) n rfl (.inl rfl)) pgs_nil)))))
        (pss_cons (ps_asg (pe_ifExp (pt_cmpR op_eq (pv 6) pe_str (nomark _)) (pe_tup (pa_cons (pe_ix ix_tup (pv 4) (pv 7) (fun _ _ => rfl)) (pa_cons (pe_ix ix_tup (pv 4) (pv 8) (fun _ _ => rfl)) pa_nil))) (pe_tup (pa_cons (pe_ix ix_tup (pv 4) (pv 8) (fun _ _ => rfl)) (pa_cons (pe_ix ix_tup (pv 4) (pv 7) (fun _ _ => rfl)) pa_nil)))) (pg_tup rfl (pgs_cons (pg_name (i := 9) n rfl (.inl rfl)) (pgs_cons (pg_name (i := 10) n rfl (.inl rfl)) pgs_nil))))
        (pss_one (ps_if (PW.pt (pw_and (pt_cmpR (op_notInDT hu65) (pv 5) (pv 3) (by rfl)) (pw_and1 (pt_cmpR op_lt (pv 9) (pv 10) (nomark _))))) (pss_one (ps_ret pe_bl)) pss_nil))))))
      (pss_one (ps_ret (pe_or (pe_cmpR op_eq (pe_op op_mod (pv 1) pe_int) pe_int (nomark _)) (pe_one (pe_cmpR (op_eqD hu64) (pe_lc (own := [("_law_rule", 5)]) (g := gName 5) (tt := tTest (tOp rEq (tOp (rIxT K) (tVar 5) (tC (.int 0))) (tC (.str "settles")))) (te := tC (.int 1)) rfl n (pi_tup (pv 3)) (blkOk_by (N := nTrt) (sc := defScope sTrt) (by decide +kernel))
        (fun _ _ _ _ _ => (pg_name (i := 5) n rfl (.inl rfl))) (fun _ _ _ _ _ => pts_one (pt_cmpR op_eq (pe_ix ix_tup (pv 5) pe_int (fun _ _ => rfl)) pe_str (nomark _))) (fun _ _ _ _ _ => pe_int)) (pe_lst pa_nil) (nomark _)))))))), ?_⟩
    obtain ⟨dx, t, hx, tt⟩ := L.at_
    have tt := tt.same (wos_le _)
    obtain ⟨dt, gt, ut, t1, t2, t3⟩ := id tt
    obtain ⟨dr, gr, ur, r1, r2, r3⟩ := L.book.same (wos_le _)
    refine ⟨kd, _, rfl, x, dx, _, rfl, hx, x, dx, _, _, rfl, hx, fldM_h _ _ _ _, ?_⟩
    refine ⟨kd, _, rfl, x, dx, _, rfl, hx, lm, x, r, pq, m, rs, rows, ps, rfl, L, ok.ok, .of_len few, by omega, ok.rok, ok.r60, fun z us H1 s1 nz hz dz => ?_⟩
    refine ⟨kd, _, rfl, x, dx, _, rfl, s1 _ _ hx, x, dx, _, _, rfl, s1 _ _ hx, fldM_h _ _ _ _, t, dt, _, rfl, s1 _ _ t1, ?_⟩
    refine ⟨t, m, rows, rfl, tt.same s1, ok.w6, ok.ok, by omega, fun cv H2 s2 dc => ⟨_, _, _, rfl, ?_⟩⟩
    have s02 := s1.trans s2
    obtain ⟨ct, rfl, hct⟩ := gd_at dc
    have hz2 := s2 _ _ hz
    have dz2 := dps_same ((wo_le z).trans s2) _ _ dz
    refine ⟨kd, _, rfl, x, dx, _, rfl, s02 _ _ hx, x, dx, _, _, rfl, s02 _ _ hx, fldM_b _ _ _ _, r, dr, _, rfl, s02 _ _ r1, r, dr, _, _, rfl, s02 _ _ r1, flds_given _ _, gr, rfl, ⟨_, .inl (.inl (s02 _ _ r2))⟩, ?_⟩
    have url : ur.length = rs.length := by rw [dps_len r3, List.length_map]
    refine for_tup (xs := ur) (fun i σ H' => (∃ y5 y6 y7 y8 y9 y10, σ = [some (.ref x), some (.int (kd : Int)), some (.ref t), some (.ref z), some (.ref ct), y5, y6, y7, y8, y9, y10]) ∧ Same H2 H') ⟨⟨_, _, _, _, _, _, rfl⟩, Same.refl _⟩ (fun i σ H' _ z => .inl (.inl (z.2 _ _ (s02 _ _ r2)))) ?_ ?_
    · rintro i v σ H3 hv ⟨⟨y5, y6, y7, y8, y9, y10, rfl⟩, s3⟩
      have s03 := s02.trans s3
      obtain ⟨rr, hr2, dr0⟩ := dps_rat r3 hv
      have rmem := List.mem_of_getElem? hr2
      have rok := ok.rok rr rmem
      have dr3 := dp_same s03 _ _ dr0
      have hin : ∀ {H'}, Same H H' → Same H2 H' → Dp K H' (.ref z) (.tuple ((brkL rows rs).map R.d)) := fun e e2 => .tup (.inl (.inl (e2 _ _ hz2))) (dps_same e2 _ _ dz2)
      have hbr := brk_iff (rows := rows) rmem
      refine ⟨_, rfl, t, rfl, _, rfl, .inr ⟨dt, _, s03 _ _ t1⟩, t, m, rows, v, rr, rfl, tt.same s03, ok.ok, few, dr3, rok, fun b H4 s4 hb => ?_⟩
      have s04 := s03.trans s4
      have s24 := s3.trans s4
      refine ⟨_, rfl, _, rfl, rr.d, (brkL rows rs).map R.d, dp_same s4 _ _ dr3, hin s04 s24, rd_shaped rr, rds_shaped _, rfl, _, rfl, iteF' ?_ ?_⟩
      · rw [rds_any]
        refine decide_eq_false fun z => ?_
        injection z with z
        by_cases e : HoldsR rows rr
        · rw [hb.mpr e, decide_eq_false (fun y => hbr.mp y e)] at z
          cases z
        · rw [decide_eq_true (hbr.mpr e)] at z
          exact e (hb.mp z)
      refine ⟨_, rfl, _, rfl, t, dt, _, rfl, s04 _ _ t1, fldT_obeyed _ _, t, m, rows, rfl, tt.same s04, ok.w1, ok.w6, ok.ok, few, fun z2 H5 s5 nz2 Ra => ?_⟩
      have s05 := s04.trans s5
      have s25 := s24.trans s5
      obtain ⟨dz2', gz2, uz2, a1, a2, a3⟩ := id Ra
      refine ⟨z2, dz2', _, rfl, a1, z2, v, m, _, rr, rfl, Ra, dp_same s05 _ _ dr0, rok, _, rfl, ?_⟩
      refine ⟨_, rfl, _, rfl, rr.d, (brkL rows rs).map R.d, dp_same s05 _ _ dr0, hin s05 s25, rd_shaped rr, rds_shaped _, rfl, _, rfl, iteF' ?_ ?_⟩
      · rw [rds_any]
        refine decide_eq_false fun z => ?_
        injection z with z
        by_cases e : HoldsR rows rr
        · rw [decide_eq_true (mem_obL.mpr ⟨rok, e⟩), decide_eq_false (fun y => hbr.mp y e)] at z
          cases z
        · rw [decide_eq_true (hbr.mpr e), decide_eq_false (fun y => e (mem_obL.mp y).2)] at z
          cases z
      obtain ⟨tr, rfl, htr⟩ := dp_r (dp_same s05 _ _ dr0)
      have hct5 := same_t s25 hct
      have gx : ∀ c, c < m → (nms ((List.range m).map fun c => dn (colN rows c)))[c]? = some (.int ((dn (colN rows c) : Nat) : Int)) := fun c cm => by
        rw [nms, List.getElem?_map, List.getElem?_map, List.getElem?_range cm]
        rfl
      refine ⟨_, rfl, tr, _, rfl, htr, rfl, _, _, rfl, _, _, rfl, _, _, rfl, rfl, ?_⟩
      have hdn : HoldsR rows rr → dn (colN rows (down rr).2) ≤ dn (colN rows (down rr).1) := holds_dn
      obtain ⟨kk, a, b2⟩ := rr
      cases kk with
      | true =>
        refine ⟨_, rfl, rfl, _, rfl, iteT' (show decide (V.str (CC.kd true) = V.str (Str.ofString "settles")) = true by decide +kernel) ?_⟩
        refine ⟨_, rfl, _, rfl, ct, _, _, _, rfl, rfl, hct5, atI_nat (gx a rok.1), _, rfl, _, rfl, ct, _, _, _, rfl, rfl, hct5, atI_nat (gx b2 rok.2.1), (by show 2 ≤ sizeLine; decide), fun p np => ?_⟩
        have s6 := same_new (o := .tup [V.int ((dn (colN rows a) : Nat) : Int), V.int ((dn (colN rows b2) : Nat) : Int)]) np
        have hp6 : (upd H5 p (.tup [V.int ((dn (colN rows a) : Nat) : Int), V.int ((dn (colN rows b2) : Nat) : Int)])) p = some (.tup [V.int ((dn (colN rows a) : Nat) : Int), V.int ((dn (colN rows b2) : Nat) : Int)]) := upd_same
        generalize upd H5 p (.tup [V.int ((dn (colN rows a) : Nat) : Int), V.int ((dn (colN rows b2) : Nat) : Int)]) = H6 at s6 hp6
        have s06 := s05.trans s6
        have s26 := s25.trans s6
        have hdn : HoldsR rows ⟨true, a, b2⟩ → dn (colN rows b2) ≤ dn (colN rows a) := hdn
        refine ⟨p, _, rfl, .inl (.inl hp6), rfl, _, _, rfl, _, _, rfl, rfl, ?_⟩
        refine ⟨_, rfl, _, rfl, (R.mk true a b2).d, (brkL rows rs).map R.d, dp_same s06 _ _ dr0, hin s06 s26, rd_shaped _, rds_shaped _, _, rfl, ?_⟩
        rw [rds_any]
        by_cases e : HoldsR rows ⟨true, a, b2⟩
        · have hl := hdn e
          refine iteT' (by rw [decide_eq_false (fun y => hbr.mp y e)]; rfl) ?_
          refine ⟨_, rfl, _, rfl, _, _, rfl, rfl, _, rfl, iteF' (decide_eq_false (by omega)) ?_⟩
          exact ⟨⟨_, _, _, _, _, _, rfl⟩, s26⟩
        · refine iteF' (by rw [decide_eq_true (hbr.mpr e)]; rfl) ?_
          exact iteF ⟨⟨_, _, _, _, _, _, rfl⟩, s26⟩
      | false =>
        refine ⟨_, rfl, rfl, _, rfl, iteF' (show decide (V.str (CC.kd false) = V.str (Str.ofString "settles")) = false by decide +kernel) ?_⟩
        refine ⟨_, rfl, _, rfl, ct, _, _, _, rfl, rfl, hct5, atI_nat (gx b2 rok.2.1), _, rfl, _, rfl, ct, _, _, _, rfl, rfl, hct5, atI_nat (gx a rok.1), (by show 2 ≤ sizeLine; decide), fun p np => ?_⟩
        have s6 := same_new (o := .tup [V.int ((dn (colN rows b2) : Nat) : Int), V.int ((dn (colN rows a) : Nat) : Int)]) np
        have hp6 : (upd H5 p (.tup [V.int ((dn (colN rows b2) : Nat) : Int), V.int ((dn (colN rows a) : Nat) : Int)])) p = some (.tup [V.int ((dn (colN rows b2) : Nat) : Int), V.int ((dn (colN rows a) : Nat) : Int)]) := upd_same
        generalize upd H5 p (.tup [V.int ((dn (colN rows b2) : Nat) : Int), V.int ((dn (colN rows a) : Nat) : Int)]) = H6 at s6 hp6
        have s06 := s05.trans s6
        have s26 := s25.trans s6
        have hdn : HoldsR rows ⟨false, a, b2⟩ → dn (colN rows a) ≤ dn (colN rows b2) := hdn
        refine ⟨p, _, rfl, .inl (.inl hp6), rfl, _, _, rfl, _, _, rfl, rfl, ?_⟩
        refine ⟨_, rfl, _, rfl, (R.mk false a b2).d, (brkL rows rs).map R.d, dp_same s06 _ _ dr0, hin s06 s26, rd_shaped _, rds_shaped _, _, rfl, ?_⟩
        rw [rds_any]
        by_cases e : HoldsR rows ⟨false, a, b2⟩
        · have hl := hdn e
          refine iteT' (by rw [decide_eq_false (fun y => hbr.mp y e)]; rfl) ?_
          refine ⟨_, rfl, _, rfl, _, _, rfl, rfl, _, rfl, iteF' (decide_eq_false (by omega)) ?_⟩
          exact ⟨⟨_, _, _, _, _, _, rfl⟩, s26⟩
        · refine iteF' (by rw [decide_eq_true (hbr.mpr e)]; rfl) ?_
          exact iteF ⟨⟨_, _, _, _, _, _, rfl⟩, s26⟩
    · rintro σ H3 ⟨⟨y5, y6, y7, y8, y9, y10, rfl⟩, s3⟩
      have s03 := s02.trans s3
      refine ⟨_, rfl, _, _, rfl, rfl, (by show (0 : Int) < 2; decide), rfl, _, rfl, ?_⟩
      by_cases e : kd % 2 = 0
      · refine iteT' (decide_eq_true (by show V.int ((kd : Int) % 2) = V.int 0; rw [show (kd : Int) % 2 = 0 by omega])) ?_
        exact q H3 s03
      · refine iteF' (decide_eq_false (fun z => by have z : V.int ((kd : Int) % 2) = V.int 0 := z; injection z with z; omega)) ?_
        have str := str (by omega)
        have ul : us.length = (brkL rows rs).length := by rw [dps_len dz2, List.length_map]
        have nosett : ∀ r ∈ brkL rows rs, r.k = false := fun r hr => by
          cases e : r.k with
          | false => rfl
          | true =>
            have : (brkL rows rs).any (·.k) = true := List.any_eq_true.mpr ⟨r, hr, e⟩
            rw [str] at this
            cases this
        refine ⟨_, rfl, z, rfl, ⟨_, .inl (.inl (s3 _ _ hz2))⟩, fun D nD => ?_⟩
        refine lc_tup (xs := us) (fun i H4 => Same H3 (wo H4 D) ∧ H4 D = some (.lst [])) ⟨?_, upd_same⟩ (fun i H4 _ y => .inl (.inl (wo_le D _ _ (y.1 _ _ (s3 _ _ hz2))))) ?_ ?_
        · rw [wo_upd]
          exact fun b o e => by rw [wo_ne (ne_of_none e nD)]; exact e
        · rintro i v H4 hv ⟨e1, e2⟩
          obtain ⟨rr, hr2, dr⟩ := dps_rat dz2 hv
          obtain ⟨t1', rfl, ht1⟩ := dp_r (dp_same (s3.trans (e1.trans (wo_le D))) _ _ dr)
          have ek : decide (V.str (CC.kd rr.k) = V.str (Str.ofString "settles")) = false := by
            rw [nosett rr (List.mem_of_getElem? hr2)]
            decide +kernel
          refine ⟨rfl, _, rfl, t1', _, 0, .str (CC.kd rr.k), rfl, rfl, ht1, rfl, rfl, _, rfl, ?_⟩
          rw [ek]
          exact iteF ⟨e1, e2⟩
        rintro H4 ⟨e1, e2⟩
        refine ⟨Nat.zero_le _, fun l nl => ?_⟩
        have s5 : Same H4 (upd H4 l (.lst [])) := same_new nl
        refine ⟨.list [], .list [], .lst (SqL.of (s5 _ _ e2)) .nil, .lst (SqL.of upd_same) .nil, by decide +kernel, by decide +kernel, ?_⟩
        rw [show PyData.eqv (.list []) (.list []) = true by simp [PyData.eqv, PyData.eqvAll]]
        exact q _ (s03.trans ((e1.trans (wo_le D)).trans s5))
end
end CC
/-! t[::-1], t a tuple -/
namespace HT
open PySem PySem.Spec PyProof.Rows
section
variable {prog : Program} {w : World} {A : Around} {E : Value → Shared → Prop} {s : Shared}
theorem places_rev (n : Nat) : Builtin.Slice.slicePlaces ((n : Int) - 1) (-1) (-1) = n := by
  unfold Builtin.Slice.slicePlaces
  have h1 : ¬ ((-1 : Int) > 0) := by omega
  simp only [h1, if_false]
  split
  · have : (-(-1 : Int)) = 1 := by decide
    rw [this, Int.ediv_one]
    omega
  · omega
theorem sliceApplied_rev {sl : Addr} {vl vu vs : Value} {n : Nat} {Q : Int × Int × Nat → Shared → Prop} (hs : s.heap.IsSliceOf sl vl vu vs) (pl : IsPart vl none) (pu : IsPart vu none) (ps : IsPart vs (some (-1)))
    (h : Q ((n : Int) - 1, -1, n) s) : wpAny (model prog w) A (Builtin.Slice.sliceApplied (.ref sl) (pure (n : Int))) Q E s := by
  obtain ⟨os, hos, hcs, hds⟩ := id hs
  unfold Builtin.Slice.sliceApplied Builtin.Slice.sliceFields
  refine wpAny_bind (wpAny_bind (wpAny_field hos hds (x := vl) rfl (wpAny_bind (wpAny_field hos hds (x := vu) rfl (wpAny_bind (wpAny_field hos hds (x := vs) rfl (wpAny_pure ?_)))))))
  refine wpAny_bind (slicePart_ ps ?_)
  show wpAny _ _ (if ((-1 : Int) == 0) = true then _ else _) _ _ s
  rw [if_neg (by decide)]
  refine wpAny_bind (slicePart_ pl (wpAny_bind (slicePart_ pu (wpAny_bind (wpAny_pure ?_)))))
  show wpAny _ _ (pure ((n : Int) - 1, (-1 : Int), Builtin.Slice.slicePlaces ((n : Int) - 1) (-1) (-1))) _ _ s
  rw [places_rev]
  exact wpAny_pure h
theorem pick_rev (xs : Array Value) : ((List.range xs.size).filterMap fun (m : Nat) => xs[(((xs.size : Nat) : Int) - 1 + (m : Int) * (-1)).toNat]?).toArray = xs.toList.reverse.toArray := by
  congr 1
  refine List.ext_getElem? fun i => ?_
  have key : ∀ k, k ≤ xs.size → (List.range k).filterMap (fun (m : Nat) => xs[(((xs.size : Nat) : Int) - 1 + (m : Int) * (-1)).toNat]?) = xs.toList.reverse.take k := by
    intro k
    induction k with
    | zero => intro _; simp
    | succ k ih =>
      intro hk
      rw [List.range_succ, List.filterMap_append, ih (by omega)]
      have lt : xs.size - 1 - k < xs.size := by omega
      have e : (((xs.size : Nat) : Int) - 1 + (k : Int) * (-1)).toNat = xs.size - 1 - k := by omega
      have g : xs[(((xs.size : Nat) : Int) - 1 + (k : Int) * (-1)).toNat]? = some xs[xs.size - 1 - k] := by
        rw [e]
        exact Array.getElem?_eq_getElem lt
      have g2 : xs.toList.reverse[k]? = some xs[xs.size - 1 - k] := by
        rw [List.getElem?_reverse (by rw [Array.length_toList]; omega)]
        simp
      rw [List.filterMap_cons, g, List.filterMap_nil, List.take_succ, g2]
      rfl
  rw [key _ (Nat.le_refl _), List.take_of_length_le (by simp)]
theorem getItem_tuple_rev {t sl : Addr} {items : Array Value} {vl vu vs : Value} {Q : Value → Shared → Prop} (ht : IsTup s.heap t items) (hs : s.heap.IsSliceOf sl vl vu vs) (pl : IsPart vl none) (pu : IsPart vu none) (ps : IsPart vs (some (-1)))
    (h : Q (.ref s.heap.objs.size) { s with heap := s.heap.push { cls := .type "tuple", data := .seq items.toList.reverse.toArray } })
    (hsz : items.size ≤ sizeLine) : wpAny (model prog w) A (getItem (.ref t) (.ref sl)) Q E s := by
  have htake : sizeOk (.seq items.toList.reverse.toArray) := by
    show items.toList.reverse.toArray.size ≤ sizeLine
    rw [List.size_toArray, List.length_reverse, Array.length_toList]
    omega
  obtain ⟨os, hos, hcs, hds⟩ := id hs
  have hTs : s.TypeIs (.ref sl) "slice" := ⟨os, hos, hcs⟩
  unfold getItem
  try with_reducible refine wpAny_holding ?_
  first | refine wpAny_bind (wpAny_pure ?_) | skip
  refine wpAny_bind (wpAny_sequenceKey ht.typeIs (by decide) ?_)
  refine wpAny_bind (wpAny_callSpecial?_slot (name := Str.ofString "__getitem__") ht.typeIs PyProof.Rows.slot_tuple_getitem
    (wpAny_call_entry PyProof.Rows.slot_tuple_getitem ht.typeIs entry_tuple_getitem ?_ (args_tuple_getitem _ _)))
  show wpAny _ _ (Builtin.Tuple.tupleItemsOf (.ref t) >>= _) _ _ s
  refine wpAny_bind (tupleItemsOf_ ht ?_)
  refine wpAny_bind (wpAny_typeOf hTs ?_)
  rw [if_pos (by decide)]
  refine wpAny_bind (sliceApplied_rev hs pl pu ps ?_)
  show wpAny _ _ (if (((items.size : Nat) : Int) - 1 == 0 && (-1 : Int) == 1 && items.size == items.size) = true then _ else _) _ _ s
  rw [if_neg (by
    rw [show ((-1 : Int) == 1) = false by decide, Bool.and_false, Bool.false_and]
    exact Bool.false_ne_true), pick_rev]
  first
    | exact wpAny_bind (m := Builtin.Tuple.tupleExact _) (wpAny_newObj_type (wpAny_pure ⟨_, rfl, wpAny_pure h⟩) htake)
    | exact wpAny_bind (m := Builtin.Tuple.tupleExact _) (wpAny_newObj_type (wpAny_bind (wpAny_pure (wpAny_pure ⟨_, rfl, wpAny_pure h⟩))) htake)
    | exact wpAny_bind (wpAny_bind (m := Builtin.Tuple.tupleExact _) (wpAny_newObj_type (wpAny_pure (wpAny_pure ⟨_, rfl, wpAny_pure h⟩)) htake))
    | exact wpAny_bind (wpAny_bind (m := Builtin.Tuple.tupleExact _) (wpAny_newObj_type (wpAny_pure ⟨_, rfl, wpAny_pure h⟩) htake))
end
end HT
namespace L2
open PySem PySem.Spec PyProof.Rows
section
variable {X : Cx}
def tRevT (K : PySem.W.Frag) (te : TE) : TE := fun σ H Q => te σ H fun x H1 => ∃ a xs, x = .ref a ∧ SqT K H1 a xs ∧ ∀ p, H1 p = none → Q (.ref p) (upd H1 p (.tup xs.reverse))
theorem pe_revT {e : Expr} {te : TE} {k : Nat} {p1 p2 p3 pos : Pos} (he : PE X e te) : PE X (.Subscript e (.Slice none none (some (.UnaryOp .USub (.Constant (.int 1) k p1) p2)) p3) pos) (tRevT X.K te) := by
  refine ⟨fun pins s σ H Q I h => ?_⟩
  refine Subscript_ (thn (he.run pins s σ H _ I h) fun v s1 ⟨x, H1, I1, r1, q1⟩ => ?_)
  obtain ⟨a, xs, ex, hx, q⟩ := q1
  subst ex
  cases r1
  have hst : PO X (some (.UnaryOp .USub (.Constant (.int 1) k p1) p2)) (tPart (tUn (rU fun i => .int (-i)) (tC (.int 1)))) := po_some (pe_un un_neg pe_int)
  refine wpAny_Slice (thn (po_none.run pins s1 σ H1 (fun o H2 => o = none ∧ H2 = H1) I1 ⟨rfl, rfl⟩) fun vl s2 ⟨l, H2, I2, pl, el, e2⟩ => ?_)
  subst el e2
  refine thn (po_none.run pins s2 σ H2 (fun o H3 => o = none ∧ H3 = H2) I2 ⟨rfl, rfl⟩) fun vu s3 ⟨u, H3, I3, pu, eu, e3⟩ => ?_
  subst eu e3
  refine thn (hst.run pins s3 σ H3 (fun o H4 => o = some (-1) ∧ H4 = H3) I3 ⟨1, rfl, -1, rfl, rfl, rfl⟩) fun vs s4 ⟨o, H4, I4, ps, eo, e4⟩ => ?_
  subst eo e4
  have I5 : Inv X pins σ H4 { s4 with heap := s4.heap.push { cls := .type "slice", data := .fields #[vl, vu, vs] } } := I4.kept (t' := s4.toks) fun b ob q => Heap.get?_push_of_some _ q
  obtain ⟨its, r, ht, hz⟩ := I5.tuple hx
  have hlen := r.length
  show wpAny (model X.prog X.w) X.A (subscriptTail e (.Slice none none (some (.UnaryOp .USub (.Constant (.int 1) k p1) p2)) p3) (.ref a) (.ref s4.heap.objs.size)) (EP X pins σ Q) X.xe { s4 with heap := s4.heap.push { cls := .type "slice", data := .fields #[vl, vu, vs] } }
  refine tail_any (ops := [.ref a, .ref s4.heap.objs.size]) ht.typeIs (PyProof.Rows.slot_tuple_getitem.lookup) ?_ (by with_unfolding_all rfl)
  refine HT.getItem_tuple_rev ht (Heap.IsSliceOf.new _ vl vu vs) pl pu ps ?_ (by rw [List.size_toArray]; omega)
  refine ⟨.ref _, _, I5.laid (t' := s4.toks) (o := .tup xs.reverse) (fun b ob q => Heap.get?_push_of_some _ q) (Nat.le_refl _) ?_, rfl, q _ (I5.hok.fresh (Nat.le_refl _))⟩
  exact ⟨by rw [List.length_reverse]; exact hz, _, r.reverse, IsTup.new _ _⟩
end
end L2
namespace CC
open PySem L2 TL
/-- a list of rules beside a source -/
structure LsR (K : PySem.W.Frag) (H0 H : Hp) (s p : Addr) (rs : List R) : Prop where
  new : H0 p = none
  nes : p ≠ s
  lst : ∃ us, H p = some (.lst us) ∧ DpAll K H us (rs.map R.d)
section
variable {K : PySem.W.Frag} {H0 H H' : Hp} {s p q : Addr} {rs : List R}
theorem LsR.grow (a : LsR K H0 H s p rs) (e : Same H H') : LsR K H0 H' s p rs := by
  obtain ⟨us, h1, h2⟩ := a.lst
  exact ⟨a.new, a.nes, us, e _ _ h1, dps_same e _ _ h2⟩
theorem LsR.run (a : LsR K H0 H s p rs) (hs : Src H s) (e : Ran H H' s) : LsR K H0 H' s p rs := by
  obtain ⟨us, h1, h2⟩ := a.lst
  exact ⟨a.new, a.nes, us, e.at_ h1 a.nes, rds_T (e.T hs) h2⟩
theorem LsR.len (a : LsR K H0 H s p rs) {us : List V} (h : H p = some (.lst us)) : us.length = rs.length := by
  obtain ⟨vs, h1, h2⟩ := a.lst
  rw [h] at h1
  cases h1
  rw [dps_len h2, List.length_map]
theorem Ran.put' {H1 : Hp} {o : HO} (r : Ran H H1 s) (hp : H p = none) (n : p ≠ s) : Ran H (upd H1 p o) s := by
  refine ⟨fun b u e => ?_, ?_⟩
  · have hb : b ≠ s := fun z => by
      rw [z, wo_at] at e
      cases e
    have bp : b ≠ p := fun z => by
      rw [wo_ne hb, z, hp] at e
      cases e
    have := r.same b u e
    rw [wo_ne hb] at this ⊢
    rw [upd_ne bp]
    exact this
  · obtain ⟨o', h1, h2⟩ := r.src
    exact ⟨o', by rw [upd_ne (Ne.symm n)]; exact h1, h2⟩
/-- one more at its end -/
theorem LsR.push (a : LsR K H0 H s p rs) {v : V} {r : R} (d : Dp K H v r.d) : ∃ us, H p = some (.lst us) ∧ LsR K H0 (upd H p (.lst (us ++ [v]))) s p (rs ++ [r]) := by
  obtain ⟨us, h1, h2⟩ := a.lst
  refine ⟨us, h1, a.new, a.nes, us ++ [v], upd_same, ?_⟩
  rw [List.map_append]
  exact dps_app (rds_T (upd_T h1) h2) (dps_one (rd_T (upd_T h1) d))
/-- another list changes -/
theorem LsR.put (a : LsR K H0 H s p rs) {us : List V} {o : HO} (hq : H q = some (.lst us)) (n : p ≠ q) : LsR K H0 (upd H q o) s p rs := by
  obtain ⟨vs, h1, h2⟩ := a.lst
  exact ⟨a.new, a.nes, vs, by rw [upd_ne n]; exact h1, rds_T (upd_T hq) h2⟩
theorem LsR.data (a : LsR K H0 H s p rs) : Dp K H (.ref p) (.list (rs.map R.d)) := by
  obtain ⟨us, h1, h2⟩ := a.lst
  exact .lst (SqL.of h1) h2
end
end CC
namespace CC
open PySem L2
section
variable {P : Program} {w : World} {K : PySem.W.Frag} {mg : Str → Option Value} {base : Heap}
theorem scSource : FnScope ["_law_cell_here"] ["_law_cell_here"] (defScope sSource) := ⟨rfl, rfl, rfl, by decide +kernel, rfl, by decide +kernel, by decide +kernel⟩
theorem ok_source {f : Addr} {fd : FuncData} {k : Nat} (F : Fun K "_law_source" "_law_source" sSource f fd) (mm : mg "max" = none) : FnOk P w K mg base CX0 (k + 1) f fd ["_law_cell_here"] spSource := by
  refine F.ok scSource (fun vs H Q E h => ?_) (fun cdv A outer s H vs Q E hr h => ?_)
  · obtain ⟨z, rfl, _⟩ := h
    rfl
  · obtain ⟨z, rfl, q⟩ := h
    refine ⟨_, pss_one (ps_ret (pe_lst (pa_cons (pe_callB (call_max2 rfl) (by rfl) mm (by decide +kernel) (pa_cons pe_int (pa_cons (pe_op op_sub (pv 0) (pe_op op_pow pe_int pe_int)) pa_nil))) (pa_cons (pe_op op_add (pe_op op_mod (pv 0) pe_int) pe_int) (pa_cons pe_int pa_nil))))), ?_⟩
    refine ⟨_, rfl, _, _, rfl, rfl, ⟨by decide, by decide, by decide⟩, _, _, rfl, rfl, _, _, rfl, _, rfl, _, _, rfl, rfl, (by show (0 : Int) < 2147483629; decide), _, _, rfl, rfl, (by show 3 ≤ sizeLine; decide), fun p hp => ?_⟩
    exact q p _ hp ⟨_, _, _, rfl, by omega, by omega⟩
theorem scDraw : FnScope ["_law_source_here", "_law_many", "_law_found", "_law_mixed"] ["_law_source_here", "_law_many"] (defScope sDraw) := ⟨rfl, rfl, rfl, by decide +kernel, rfl, by decide +kernel, by decide +kernel⟩
theorem ok_draw {f : Addr} {fd : FuncData} {k : Nat} (F : Fun K "_law_draw" "_law_draw" sDraw f fd) : FnOk P w K mg base CX0 (k + 1) f fd ["_law_source_here", "_law_many"] spDraw := by
  refine F.ok scDraw (fun vs H Q E h => ?_) (fun cdv A outer s H vs Q E hr h => ?_)
  · obtain ⟨a, m, o, rfl, _⟩ := h
    rfl
  · obtain ⟨a, m, o, rfl, ho, ⟨x, y, z, rfl, y0, y1⟩, m0, m1, q⟩ := h
    refine ⟨_, pss_cons (ps_if (pt_cmpR op_gt (pe_ix ix_list (pv 0) pe_int (fun _ _ => rfl)) pe_int (nomark _))
        (pss_cons (ps_set (i := 2) scDraw.nd rfl (.inl rfl) (pe_op op_mod (pe_ix ix_list (pv 0) pe_int (fun _ _ => rfl)) (pv 1)))
        (pss_cons (ps_asg (pe_op op_fdiv (pe_ix ix_list (pv 0) pe_int (fun _ _ => rfl)) (pv 1)) (pg_sub (pv 0) pe_int set_list))
        (pss_one (ps_ret (pv 2))))) pss_nil)
      (pss_cons (ps_asg (pe_op op_add (pe_ix ix_list (pv 0) pe_int (fun _ _ => rfl)) pe_int) (pg_sub (pv 0) pe_int set_list))
      (pss_cons (ps_asg (pe_op op_mod (pe_op op_add (pe_op op_add (pe_op op_mul (pe_ix ix_list (pv 0) pe_int (fun _ _ => rfl)) pe_int) (pe_op op_mul pe_int (pe_ix ix_list (pv 0) pe_int (fun _ _ => rfl)))) pe_int) pe_int) (pg_sub (pv 0) pe_int set_list))
      (pss_cons (ps_set (i := 3) scDraw.nd rfl (.inl rfl) (pe_op op_mod (pe_op op_add (pe_op op_add (pe_op op_mul (pe_ix ix_list (pv 0) pe_int (fun _ _ => rfl)) (pe_ix ix_list (pv 0) pe_int (fun _ _ => rfl))) (pe_op op_mul pe_int (pe_ix ix_list (pv 0) pe_int (fun _ _ => rfl)))) pe_int) pe_int))
      (pss_cons (ps_set (i := 3) scDraw.nd rfl (.inl rfl) (pe_op op_mod (pe_op op_add (pe_op op_mul (pv 3) (pv 3)) (pe_op op_mul pe_int (pv 3))) pe_int))
      (pss_one (ps_ret (pe_op op_mod (pe_op op_fdiv (pv 3) pe_int) (pv 1)))))))), ?_⟩
    have hA : SqL K H a [.int x, .int y, .int z] := SqL.of ho
    refine ⟨_, rfl, a, _, _, _, rfl, rfl, hA, rfl, _, _, rfl, rfl, _, rfl, ite2 (fun e => ?_) (fun e => ?_)⟩
    · refine ⟨_, rfl, a, _, _, _, rfl, rfl, hA, rfl, _, rfl, _, _, rfl, rfl, m0, ?_⟩
      refine ⟨_, rfl, a, _, _, _, rfl, rfl, hA, rfl, _, rfl, _, _, rfl, rfl, ⟨m0, by omega⟩, _, rfl, a, _, _, 0, rfl, rfl, ho, rfl, ?_⟩
      exact ⟨_, rfl, q _ _ (Int.emod_nonneg _ (by omega)) (Int.emod_lt_of_pos _ m0) ⟨_, _, _, rfl, y0, y1⟩⟩
    · refine ⟨_, rfl, a, _, _, _, rfl, rfl, hA, rfl, _, _, rfl, rfl, _, rfl, a, _, _, 2, rfl, rfl, ho, rfl, ?_⟩
      have h1 : (upd H a (.lst [.int x, .int y, .int (z + 1)])) a = some (.lst [.int x, .int y, .int (z + 1)]) := upd_same
      refine ⟨_, rfl, a, _, _, _, rfl, rfl, SqL.of h1, rfl, _, _, rfl, rfl, .inl ⟨by omega, by omega⟩, _, rfl, a, _, _, _, rfl, rfl, SqL.of h1, rfl, _, _, rfl, rfl, .inl ⟨by decide, by decide⟩, _, _, rfl, rfl, _, _, rfl, rfl, _, _, rfl, rfl, (by show (0 : Int) < 2147483647; decide), _, rfl, a, _, _, 1, rfl, rfl, h1, rfl, ?_⟩
      obtain ⟨y', hy⟩ : ∃ y' : Int, y' = (y * 48271 + 1009 * (z + 1) + 7) % 2147483647 := ⟨_, rfl⟩
      have b0 : 0 ≤ y' := by omega
      have b1 : y' < 2147483648 := by omega
      have h2 : (upd (upd H a (.lst [.int x, .int y, .int (z + 1)])) a (.lst [.int x, .int ((y * 48271 + 1009 * (z + 1) + 7) % 2147483647), .int (z + 1)])) a = some (.lst [.int x, .int y', .int (z + 1)]) := by
        rw [hy]
        exact upd_same
      refine ⟨_, rfl, a, _, _, _, rfl, rfl, SqL.of h2, rfl, _, rfl, a, _, _, _, rfl, rfl, SqL.of h2, rfl, _, _, rfl, rfl, .inl ⟨by omega, by omega⟩, _, rfl, a, _, _, _, rfl, rfl, SqL.of h2, rfl, _, _, rfl, rfl, .inl ⟨by decide, by decide⟩, _, _, rfl, rfl, _, _, rfl, rfl, _, _, rfl, rfl, (by show (0 : Int) < 2147483629; decide), ?_⟩
      obtain ⟨m2, hm⟩ : ∃ m2 : Int, m2 = (y' * y' + 69621 * y' + 11) % 2147483629 := ⟨_, rfl⟩
      have c0 : 0 ≤ (y' * y' + 69621 * y' + 11) % 2147483629 := Int.emod_nonneg _ (by decide)
      have c1 : (y' * y' + 69621 * y' + 11) % 2147483629 < 2147483629 := Int.emod_lt_of_pos _ (by decide)
      refine ⟨_, rfl, _, rfl, _, _, rfl, rfl, .inl ⟨Int.lt_of_lt_of_le (by decide) c0, Int.lt_trans c1 (by decide)⟩, _, rfl, _, _, rfl, rfl, .inl ⟨by decide, by decide⟩, _, _, rfl, rfl, _, _, rfl, rfl, (by show (0 : Int) < 2147483587; decide), ?_⟩
      refine ⟨_, rfl, _, _, rfl, rfl, ⟨by decide, by decide⟩, _, rfl, _, _, rfl, rfl, m0, ?_⟩
      rw [upd_upd]
      exact q _ _ (Int.emod_nonneg _ (by omega)) (Int.emod_lt_of_pos _ m0) ⟨x, y', z + 1, by rw [hy]; rfl, b0, b1⟩
end
end CC
namespace CC
open PySem L2 TL
section
variable {P : Program} {w : World} {K : PySem.W.Frag} {mg : Str → Option Value} {base : Heap} {kA : Addr}
theorem ok_draw2 {f : Addr} {fd : FuncData} {k : Nat} (F : Fun K "_law_draw" "_law_draw" sDraw f fd) : FnOk P w K mg base CX0 (k + 1) f fd ["_law_source_here", "_law_many"] spDraw2 := by
  have G : FnOk P w K mg base CX0 (k + 1) f fd ["_law_source_here", "_law_many"] spDraw := ok_draw F
  refine ⟨fun vs H Q E h => ?_, fun A outer s H args us vs Q E hr e0 hb r h => G.run A outer s H args us vs Q E hr e0 hb r ?_⟩
  · obtain ⟨s, m, rfl, _⟩ := h
    rfl
  · obtain ⟨a, m, rfl, ⟨o, h1, h2⟩, m0, m1, q⟩ := h
    refine ⟨a, m, o, rfl, h1, h2, by omega, by omega, fun r o' r0 r1 ho => ?_⟩
    have e : r = ((r.toNat : Nat) : Int) := by omega
    rw [e]
    exact q _ _ (by omega) (.one ho)
theorem scChoose : FnScope ["_law_source_here", "_law_values"] ["_law_source_here", "_law_values"] (defScope sChoose) := ⟨rfl, rfl, rfl, by decide +kernel, rfl, by decide +kernel, by decide +kernel⟩
theorem ok_choose {f : Addr} {fd : FuncData} {k : Nat} (F : Fun K "_law_choose" "_law_choose" sChoose f fd) (T : Glb K mg kA) (cD : Cal P w K mg base "_law_draw" ["_law_source_here", "_law_many"] spDraw2 1) :
    FnOk P w K mg base CX0 (k + 2) f fd ["_law_source_here", "_law_values"] (spChoose K) := by
  have GD := cD.ok (k + 1) (by omega)
  refine F.ok scChoose (fun vs H Q E h => ?_) (fun cdv A outer s H vs Q E hr h => ?_)
  · obtain ⟨s, v, rfl, _⟩ := h
    rfl
  · obtain ⟨sr, v, rfl, hs, h⟩ := h
    refine ⟨_, pss_one (ps_ret (pe_ix ix_seq (pv 1) (pe_call GD hr rfl cD.g cD.kp cD.b .nil pass0 (pa_cons (pv 0) (pa_cons (pe_callB call_len (by rfl) T.len PySem.boot_len (pa_cons (pv 1) pa_nil)) pa_nil))) (fun _ _ => rfl))), ?_⟩
    rcases h with ⟨a, xs, rfl, ha, l0, l1, q⟩ | ⟨z, rfl, l0, l1, q⟩
    · refine ⟨_, rfl, _, rfl, _, rfl, _, xs.length, rfl, .inl ⟨xs, same_l (wo_le sr) ha, rfl⟩, sr, xs.length, rfl, hs, l0, by omega, fun r H' hr2 rn => ?_⟩
      have e : xs[r]? = some xs[r] := List.getElem?_eq_getElem hr2
      exact .inl ⟨a, xs, _, _, rfl, rfl, same_l (rn.same.trans (wo_le sr)) ha, atI_nat e, q r _ H' e rn⟩
    · refine ⟨_, rfl, _, rfl, _, rfl, _, z.length, rfl, ⟨Nat.le_of_lt (small1000 (by omega)), rfl⟩, sr, z.length, rfl, hs, l0, by omega, fun r H' hr2 rn => ?_⟩
      rw [len_tl] at hr2
      have e : (tl z)[r]? = some (tl z)[r] := List.getElem?_eq_getElem hr2
      exact .inr (.inr ⟨z, _, _, rfl, rfl, Nat.le_of_lt (small1000 (by omega)), atI_nat e, q _ H' rn⟩)
end
end CC
namespace CC
open PySem L2 TL
def spGv (K : PySem.W.Frag) : Sp := fun vs H Q _ => ∃ (s : Addr) (m z : Nat), vs = [.ref s, .int (m : Int), .int (z : Int)] ∧ Src H s ∧ 1 ≤ m ∧ m ≤ 6 ∧ z ≤ 50 ∧ ∀ (p : Addr) (us : List V) (rs : List R) (H' : Hp), Ran H H' s → H p = none → p ≠ s → H' p = some (.tup us) → DpAll K H' us (rs.map R.d) → (∀ r ∈ rs, r.ok m) → rs.Nodup → rs.length ≤ z → Q (.ref p) H'
theorem rs_nil (F : List R) : PyData.eqv (.list (F.map R.d)) (.list []) = F.isEmpty := by
  cases F with
  | nil => simp [PyData.eqv, PyData.eqvAll]
  | cons x F => simp [PyData.eqv, PyData.eqvAll]
theorem nilR_shp : SeqAt.shaped (.list []) = true := rds_shaped []
section
variable {P : Program} {w : World} {K : PySem.W.Frag} {mg : Str → Option Value} {base : Heap} {kA : Addr}
abbrev nGv : List Str := ["_law_source_here", "_law_many", "_law_size", "_law_found", "_law_turn", "_law_a", "_law_b", "_law_rule"]
theorem scGv : FnScope nGv ["_law_source_here", "_law_many", "_law_size"] (defScope sGv) := ⟨rfl, rfl, rfl, by decide +kernel, rfl, by decide +kernel, by decide +kernel⟩
theorem ok_gv {f : Addr} {fd : FuncData} {k : Nat} (F : Fun K "_law_given" "_law_given" sGv f fd) (T : Glb K mg kA) (cD : Cal P w K mg base "_law_draw" ["_law_source_here", "_law_many"] spDraw2 1) (cC : Cal P w K mg base "_law_choose" ["_law_source_here", "_law_values"] (spChoose K) 2) : FnOk P w K mg base CX0 (k + 3) f fd ["_law_source_here", "_law_many", "_law_size"] (spGv K) := by
  have GD := cD.ok (k + 2) (by omega)
  have GC := cC.ok (k + 2) (by omega)
  refine F.ok scGv (fun vs H Q E h => ?_) (fun cdv A outer sh H vs Q E hr h => ?_)
  · obtain ⟨s, m, z, rfl, _⟩ := h
    rfl
  · obtain ⟨s, m, z, rfl, src, w1, w6, hz, q⟩ := h
    have n := scGv.nd
    have hu65 : (A.deeper (PyProof.Rows.envOfC (Str.ofString "_law_given") (defScope sGv) sh.heap.objs.size f cdv)).units + 65 < cLine := by
      have := hr.un
      omega
    have hu64 := Nat.lt_trans (Nat.lt_succ_self _) hu65
    refine ⟨_, (pss_cons (ps_set (i := 3) n rfl (.inl rfl) (pe_lst pa_nil))
      (pss_cons (ps_for PassesOwn.never rfl (pi_range1 (by rfl) T.rng (pa_cons (pe_ifExp (pt_cmpR op_gt (pv 1) pe_int (nomark _)) (pv 2) pe_int) pa_nil)) (pg_name (i := 4) n rfl (.inl rfl))
        (pss_cons (ps_set (i := 5) n rfl (.inl rfl) (pe_call GD hr rfl cD.g cD.kp cD.b .nil pass0 (pa_cons (pv 0) (pa_cons (pv 1) pa_nil))))
      (pss_cons (ps_set (i := 6) n rfl (.inl rfl) (pe_op op_mod (pe_op op_add (pe_op op_add (pv 5) pe_int) (pe_call GD hr rfl cD.g cD.kp cD.b .nil pass0 (pa_cons (pv 0) (pa_cons (pe_op op_sub (pv 1) pe_int) pa_nil)))) (pv 1)))
      (pss_cons (ps_set (i := 7) n rfl (.inl rfl) (pe_tup (pa_cons (pe_call GC hr rfl cC.g cC.kp cC.b .nil pass0 (pa_cons (pv 0) (pa_cons (pe_lst (pa_cons pe_str (pa_cons pe_str (pa_cons pe_str pa_nil)))) pa_nil))) (pa_cons (pv 5) (pa_cons (pv 6) pa_nil)))))
      (C8.pss_cut (ps_if (PW.pt (pw_and (pt_cmpR (op_neD hu64) (pv 3) (pe_lst pa_nil) (nomark _)) (pw_and1 (pt_cmpR op_eq (pe_call GD hr rfl cD.g cD.kp cD.b .nil pass0 (pa_cons (pv 0) (pa_cons pe_int pa_nil))) pe_int (nomark _)))))
        (pss_one (ps_set (i := 7) n rfl (.inl rfl) (pe_tup (pa_cons (pe_ix ix_list (pe_lst (pa_cons pe_str (pa_cons pe_str pa_nil))) (pe_call GD hr rfl cD.g cD.kp cD.b .nil pass0 (pa_cons (pv 0) (pa_cons pe_int pa_nil))) (fun _ _ => rfl)) (pa_cons (pe_ix ix_tup (pe_ix ix_list (pv 3) (pe_un un_neg pe_int) (fun _ _ => rfl)) pe_int (fun _ _ => rfl)) (pa_cons (pe_ix ix_tup (pe_ix ix_list (pv 3) (pe_un un_neg pe_int) (fun _ _ => rfl)) pe_int (fun _ _ => rfl)) pa_nil))))))
        pss_nil)
      (pss_one (ps_if (pt_cmpR (op_notInD hu65) (pv 7) (pv 3) (by rfl))
        (pss_one (ps_expr (pe_bm PySem.F.plainAttrs_list PySem.F.slot_list_append PySem.F.type_list_append mt_append (pv 3) (pa_cons (pv 7) pa_nil))))
        pss_nil)))))))
      (pss_one (ps_ret (pe_callTy (r := rTupOf K) call_tuple_of (by rfl) T.tup (by decide +kernel) (pa_cons (pv 3) pa_nil)))))), ?_⟩
    have ran0 : Ran H H s := ⟨Same.refl _, src⟩
    refine ⟨Nat.zero_le _, fun fo nfo => ?_⟩
    have r1 : Ran H (upd H fo (.lst [])) s := ran0.grow (same_new nfo)
    have fos : fo ≠ s := ran0.ne nfo
    have F1 : LsR K H (upd H fo (.lst [])) s fo [] := ⟨nfo, fos, [], upd_same, .nil⟩
    generalize upd H fo (.lst []) = H1 at r1 F1
    have fin : ∀ (H2 : Hp) (Fs : List R), Ran H H2 s → LsR K H H2 s fo Fs → (∀ r ∈ Fs, r.ok m) → Fs.Nodup → Fs.length ≤ z → rTupOf K [V.ref fo] H2 Q := fun H2 Fs r2 F2 ok nd le => by
      obtain ⟨us, hus, dus⟩ := F2.lst
      refine ⟨fo, us, rfl, .inl ⟨SqL.of hus, fun l nl => ?_⟩⟩
      exact q l us Fs _ (r2.grow (same_new nl)) (r2.free nl) (r2.ne nl) upd_same (dps_same (same_new nl) _ _ dus) ok nd le
    refine ⟨_, rfl, _, _, rfl, rfl, _, rfl, ?_⟩
    by_cases hm : 1 < m
    · refine iteT' (decide_eq_true (by omega)) ?_
      refine ⟨_, rfl, _, rfl, by omega, by omega, ?_⟩
      refine for_range (lo := 0) (n := ((z : Nat) : Int).toNat) (fun i σ H2 => ∃ (y4 y5 y6 y7 : Option V) (Fs : List R), σ = [some (.ref s), some (.int (m : Int)), some (.int (z : Int)), some (.ref fo), y4, y5, y6, y7] ∧ Ran H H2 s ∧ LsR K H H2 s fo Fs ∧ (∀ r ∈ Fs, r.ok m) ∧ Fs.Nodup ∧ Fs.length ≤ i) ⟨none, none, none, none, [], rfl, r1, F1, (fun r hr => nomatch hr), List.nodup_nil, Nat.zero_le _⟩ ?_ ?_
      · rintro i σ H2 hi ⟨y4, y5, y6, y7, Fs, rfl, r2, F2, ok, nd, le⟩
        refine ⟨_, rfl, _, rfl, s, m, rfl, r2.src, by omega, by omega, fun a H3 ha r3 => ?_⟩
        have r3' := r2.trans r3
        have F3 := F2.run r2.src r3
        have em : ((m : Int) - 1) = ((m - 1 : Nat) : Int) := by omega
        refine ⟨_, rfl, _, _, rfl, rfl, _, rfl, _, rfl, _, _, rfl, rfl, s, m - 1, (by show [V.ref s, V.int ((m : Int) - 1)] ++ [] = _; rw [em]; rfl), r3'.src, by omega, by omega, fun e H4 he r4 => ?_⟩
        have r4' := r3'.trans r4
        have F4 := F3.run r3'.src r4
        refine ⟨_, _, rfl, rfl, _, rfl, _, _, rfl, rfl, (show (0 : Int) < (m : Int) by omega), ?_⟩
        obtain ⟨b, hb, eb⟩ : ∃ b : Nat, (b < m ∧ b ≠ a) ∧ ((a : Int) + 1 + (e : Int)) % (m : Int) = (b : Int) := by
          refine ⟨(a + 1 + e) % m, ⟨Nat.mod_lt _ (by omega), fun z => ?_⟩, by
            rw [show ((a : Int) + 1 + (e : Int)) = ((a + 1 + e : Nat) : Int) by omega]
            rfl⟩
          by_cases g : a + 1 + e < m
          · rw [Nat.mod_eq_of_lt g] at z
            omega
          · rw [Nat.mod_eq_sub_mod (by omega), Nat.mod_eq_of_lt (by omega)] at z
            omega
        refine ⟨_, rfl, (by show 3 ≤ sizeLine; decide), fun l nl => ?_⟩
        have s5 : Same H4 (upd H4 l (.lst [.str "settles", .str "settles", .str "within"])) := same_new nl
        have hl : (upd H4 l (.lst [.str "settles", .str "settles", .str "within"])) l = some (.lst [.str "settles", .str "settles", .str "within"]) := upd_same
        have ls : l ≠ s := r4'.ne nl
        generalize upd H4 l (.lst [.str "settles", .str "settles", .str "within"]) = H5 at s5 hl
        have r5 := r4'.grow s5
        have F5 := F4.grow s5
        refine ⟨s, _, rfl, r5.src, .inl ⟨l, _, rfl, .inl (.inl (by rw [wo_ne ls]; exact hl)), (by show 0 < 3; decide), (by show 3 < 1000; decide), fun i1 x1 H6 hx1 r6 => ?_⟩⟩
        obtain ⟨kk, rfl⟩ : ∃ kk : Bool, x1 = .str (kd kk) := by
          match i1, hx1 with
          | 0, h => simp at h; exact ⟨true, h.symm⟩
          | 1, h => simp at h; exact ⟨true, h.symm⟩
          | 2, h => simp at h; exact ⟨false, h.symm⟩
          | _ + 3, h => simp at h
        have r6' := r5.trans r6
        have F6 := F5.run r5.src r6
        refine ⟨_, rfl, _, rfl, (by show 3 ≤ sizeLine; decide), fun t nt => ?_⟩
        have s7 : Same H6 (upd H6 t (.tup [.str (kd kk), .int (a : Int), .int (((a : Int) + 1 + (e : Int)) % (m : Int))])) := same_new nt
        have ht : (upd H6 t (.tup [.str (kd kk), .int (a : Int), .int (((a : Int) + 1 + (e : Int)) % (m : Int))])) t = some (.tup [.str (kd kk), .int (a : Int), .int (b : Int)]) := by
          rw [upd_same, eb]
        generalize upd H6 t (.tup [.str (kd kk), .int (a : Int), .int (((a : Int) + 1 + (e : Int)) % (m : Int))]) = H7 at s7 ht
        have r7 := r6'.grow s7
        have F7 := F6.grow s7
        have dt : Dp K H7 (.ref t) (⟨kk, a, b⟩ : R).d := r_dp (.inl (.inl ht))
        have kt : (⟨kk, a, b⟩ : R).ok m := ⟨ha, hb.1, fun z => hb.2 z.symm⟩
        clear s7 ht r6' F6 r5 F5 s5 hl r4' F4 r3' F3
        let Mid : L2.St → Hp → Prop := fun σ H' => ∃ (y4 y5 y6 : Option V) (v : V) (r : R), σ = [some (.ref s), some (.int (m : Int)), some (.int (z : Int)), some (.ref fo), y4, y5, y6, some v] ∧ Ran H H' s ∧ LsR K H H' s fo Fs ∧ Dp K H' v r.d ∧ r.ok m
        refine ⟨Mid, ?_, ?_⟩
        · obtain ⟨uf, huf, duf⟩ := id F7.lst
          refine ⟨_, rfl, Nat.zero_le _, fun p np => ?_⟩
          have s8 : Same H7 (upd H7 p (.lst [])) := same_new np
          refine ⟨.list (Fs.map R.d), .list [], (F7.grow s8).data, .lst (SqL.of upd_same) .nil, rds_shaped _, nilR_shp, _, rfl, ?_⟩
          rw [rs_nil]
          generalize upd H7 p (.lst []) = H8 at s8
          have r8 := r7.grow s8
          have F8 := F7.grow s8
          have d8 := dp_same s8 _ _ dt
          cases hF : Fs.isEmpty with
          | true => exact iteF (iteF ⟨_, _, _, _, ⟨kk, a, b⟩, rfl, r8, F8, d8, kt⟩)
          | false =>
            refine iteT ?_
            refine ⟨_, rfl, s, 4, rfl, r8.src, by decide, by decide, fun d9 H9 hd9 r9 => ⟨rfl, _, rfl, ?_⟩⟩
            have r9' := r8.trans r9
            have F9 := F8.run r8.src r9
            have dt9 := rd_T (r9.T r8.src) d8
            by_cases e0 : V.int (d9 : Int) = V.int 0
            · refine iteT' (decide_eq_true e0) ?_
              refine ⟨(by show 2 ≤ sizeLine; decide), fun l2 nl2 => ?_⟩
              have s10 : Same H9 (upd H9 l2 (.lst [.str "settles", .str "within"])) := same_new nl2
              have hl2 : (upd H9 l2 (.lst [.str "settles", .str "within"])) l2 = some (.lst [.str "settles", .str "within"]) := upd_same
              have ls2 : l2 ≠ s := r9'.ne nl2
              generalize upd H9 l2 (.lst [.str "settles", .str "within"]) = H10 at s10 hl2
              have r10 := r9'.grow s10
              have F10 := F9.grow s10
              refine ⟨_, rfl, s, 2, rfl, r10.src, by decide, by decide, fun d11 H11 hd11 r11 => ?_⟩
              have r11' := r10.trans r11
              have F11 := F10.run r10.src r11
              obtain ⟨k2, ek2⟩ : ∃ k2 : Bool, ([.str "settles", .str "within"] : List V)[d11]? = some (.str (kd k2)) := by
                match d11, hd11 with
                | 0, _ => exact ⟨true, rfl⟩
                | 1, _ => exact ⟨false, rfl⟩
              obtain ⟨uf2, huf2, duf2⟩ := id F11.lst
              have ne : uf2 ≠ [] := fun z => by
                have := F11.len huf2
                rw [z] at this
                rw [List.eq_nil_of_length_eq_zero this.symm] at hF
                cases hF
              obtain ⟨ui, ul, rfl⟩ : ∃ u x, uf2 = u ++ [x] := ⟨_, _, (List.dropLast_concat_getLast ne).symm⟩
              obtain ⟨lr, hlr, dlr⟩ := dps_rat duf2 (i := ui.length) (v := ul) (by simp)
              obtain ⟨tl, rfl, htl⟩ := dp_r dlr
              have lok := ok lr (List.mem_of_getElem? hlr)
              refine ⟨l2, _, _, _, rfl, rfl, SqL.of (r11.at_ hl2 ls2), atI_nat ek2, ?_⟩
              refine ⟨_, rfl, 1, rfl, fo, _, -1, _, rfl, rfl, SqL.of huf2, atI_last _ _, tl, _, 1, _, rfl, rfl, htl, rfl, ?_⟩
              refine ⟨_, rfl, 1, rfl, fo, _, -1, _, rfl, rfl, SqL.of huf2, atI_last _ _, tl, _, 2, _, rfl, rfl, htl, rfl, ?_⟩
              refine ⟨(by show 3 ≤ sizeLine; decide), fun t2 nt2 => ?_⟩
              have s12 : Same H11 (upd H11 t2 (.tup [.str (kd k2), .int (lr.a : Int), .int (lr.b : Int)])) := same_new nt2
              exact ⟨_, _, _, _, ⟨k2, lr.a, lr.b⟩, rfl, r11'.grow s12, F11.grow s12, r_dp (.inl (.inl upd_same)), lok⟩
            · refine iteF' (decide_eq_false e0) ?_
              exact ⟨_, _, _, _, ⟨kk, a, b⟩, rfl, r9', F9, dt9, kt⟩
        clear dt kt F7 r7
        rintro σ H8 ⟨y4', y5', y6', v, r, rfl, r8, F8, dv, rk⟩
        refine ⟨_, rfl, _, rfl, r.d, Fs.map R.d, dv, F8.data, rd_shaped _, rds_shaped _, _, rfl, ?_⟩
        rw [rds_any]
        by_cases e1 : r ∈ Fs
        · rw [decide_eq_true e1]
          exact iteF ⟨_, _, _, _, Fs, rfl, r8, F8, ok, nd, by omega⟩
        · rw [decide_eq_false e1]
          refine iteT ?_
          obtain ⟨uf, huf, L9⟩ := F8.push dv
          have ufl := F8.len huf
          refine ⟨_, rfl, .inl ⟨rfl, _, SqL.of huf⟩, _, rfl, fo, uf, _, rfl, rfl, huf, small1000 (by omega), ?_⟩
          refine ⟨_, _, _, _, Fs ++ [r], rfl, r8.put' F8.new F8.nes, L9, fun x hx => ?_, List.nodup_append.mpr ⟨nd, by simp, fun x hx y hy exy => ?_⟩, by rw [List.length_append]; show Fs.length + 1 ≤ i + 1; omega⟩
          · rcases List.mem_append.mp hx with y | y
            · exact ok x y
            · rw [List.mem_singleton.mp y]
              exact rk
          · rw [List.mem_singleton.mp hy] at exy
            subst exy
            exact e1 hx
      · rintro σ H2 ⟨y4, y5, y6, y7, Fs, rfl, r2, F2, ok, nd, le⟩
        exact ⟨_, rfl, fin H2 Fs r2 F2 ok nd (by simpa using le)⟩
    · refine iteF' (decide_eq_false (by omega)) ?_
      refine ⟨_, rfl, by decide, by decide, ?_⟩
      refine for_range (lo := 0) (n := ((0 : Int)).toNat) (fun i σ H2 => σ = [some (.ref s), some (.int (m : Int)), some (.int (z : Int)), some (.ref fo), none, none, none, none] ∧ H2 = H1) ⟨rfl, rfl⟩ ?_ ?_
      · rintro i σ H2 hi _
        exact absurd hi (by simp)
      · rintro σ H2 ⟨rfl, rfl⟩
        exact ⟨_, rfl, fin _ [] r1 F1 (fun r hr => nomatch hr) List.nodup_nil (Nat.zero_le _)⟩
end
end CC
namespace CC
open PySem L2 TL
def lineP (r : R) : Str := num r.a ++ " " ++ kd r.k ++ " " ++ num r.b ++ "\n"
theorem lineP_eq (r : R) : lineP r = lineS r ++ "\n" := by
  refine ext_tl ?_
  unfold lineP lineS
  simp only [tl_app]
  rw [show tl Str.empty = [] by rfl, List.nil_append]
theorem lens2_all : ((allR 6).all fun r => decide ((num r.a).length ≤ 20) && decide ((num r.a ++ " ").length ≤ 20) && decide ((num r.a ++ " " ++ kd r.k).length ≤ 20) && decide ((num r.a ++ " " ++ kd r.k ++ " ").length ≤ 20) && decide ((num r.a ++ " " ++ kd r.k ++ " " ++ num r.b).length ≤ 20) && decide ((num r.b).length ≤ 20) && decide ((kd r.k).length ≤ 20)) = true := by decide +kernel
end CC
namespace CC
open PySem L2 TL
def spWd (K : PySem.W.Frag) : Sp := fun vs H Q _ => ∃ (g : Addr) (us : List V) (rs : List R), vs = [.ref g] ∧ SqT K H g us ∧ DpAll K H us (rs.map R.d) ∧ (∀ r ∈ rs, r.ok 6) ∧ rs.length ≤ 60 ∧ ∀ H', Same H H' → Q (.str (textS rs)) H'
section
variable {P : Program} {w : World} {K : PySem.W.Frag} {mg : Str → Option Value} {base : Heap} {kA : Addr}
abbrev nWd : List Str := ["_law_given_here", "_law_kind", "_law_a", "_law_b"]
theorem scWd : FnScope nWd ["_law_given_here"] (defScope sWd) := ⟨rfl, rfl, rfl, by decide +kernel, rfl, by decide +kernel, by decide +kernel⟩
theorem ok_wd {f : Addr} {fd : FuncData} {k : Nat} (F : Fun K "_law_words" "_law_words" sWd f fd) (T : Glb K mg kA) : FnOk P w K mg base CX0 (k + 1) f fd ["_law_given_here"] (spWd K) := by
  refine F.ok scWd (fun vs H Q E h => ?_) (fun cdv A outer s H vs Q E hr h => ?_)
  · obtain ⟨g, us, rs, rfl, _⟩ := h
    rfl
  · obtain ⟨g, us, rs, rfl, hg, dp, ho6, rl, q⟩ := h
    have n := scWd.nd
    refine ⟨_, (pss_one (ps_ret (pe_join pe_str (pe_lc (own := [("_law_kind", 1), ("_law_a", 2), ("_law_b", 3)]) (g := g3 K 1 2 3) (tt := tYes) rfl n (pi_tup (pv 0)) (blkOk_by (N := nWd) (sc := defScope sWd) (by decide +kernel))
        (fun _ _ _ _ _ => (pg_tup rfl (pgs_cons (pg_name (i := 1) n rfl (.inl rfl)) (pgs_cons (pg_name (i := 2) n rfl (.inl rfl)) (pgs_cons (pg_name (i := 3) n rfl (.inl rfl)) pgs_nil))))) (fun _ _ _ _ _ => pts_nil) (fun _ _ _ _ _ => (pe_op op_add_str (pe_op op_add_str (pe_op op_add_str (pe_op op_add_str (pe_op op_add_str (pe_callTy call_str_int (by rfl) T.str (by decide +kernel) (pa_cons (pv 2) pa_nil)) pe_str) (pv 1)) pe_str) (pe_callTy call_str_int (by rfl) T.str (by decide +kernel) (pa_cons (pv 3) pa_nil))) pe_str)))))), ?_⟩
    have ul : us.length = rs.length := by rw [dps_len dp, List.length_map]
    refine ⟨⟨_, rfl⟩, _, rfl, g, rfl, ⟨_, hg⟩, fun D nD => ?_⟩
    refine lc_tup (xs := us) (fun i H1 => Same H (wo H1 D) ∧ H1 D = some (.lst (((rs.take i).map fun r => lineS r ++ "\n").map V.str))) ⟨?_, upd_same⟩ (fun i H1 _ z => same_t (z.1.trans (wo_le D)) hg) ?_ ?_
    · rw [wo_upd]
      exact fun b o e => by rw [wo_ne (ne_of_none e nD)]; exact e
    · rintro i v H1 hv ⟨e1, e2⟩
      obtain ⟨r, hr2, dr⟩ := dps_rat dp hv
      have il : i < rs.length := (List.getElem?_eq_some_iff.mp hr2).1
      obtain ⟨t, rfl, ht⟩ := dp_r (dp_same (e1.trans (wo_le D)) _ _ dr)
      have ok := ho6 r (List.mem_of_getElem? hr2)
      have hl := List.all_eq_true.mp lens2_all r (mem_allR.mpr ok)
      simp only [Bool.and_eq_true, decide_eq_true_eq] at hl
      obtain ⟨⟨⟨⟨⟨⟨l1, l2⟩, l3⟩, l4⟩, l5⟩, l6⟩, l7⟩ := hl
      have big : ∀ {a b : Nat}, a ≤ 20 → b ≤ 20 → a + b ≤ sizeLine := fun h1 h2 => Nat.le_trans (Nat.add_le_add h1 h2) (by decide)
      have s1 : (" " : Str).length ≤ 20 := by decide +kernel
      have s2 : ("\n" : Str).length ≤ 20 := by decide +kernel
      refine ⟨t, _, rfl, ht, rfl, _, _, rfl, _, _, rfl, _, _, rfl, rfl, rfl, yes_if ?_⟩
      refine ⟨_, rfl, _, rfl, small6 ok.1, _, _, rfl, rfl, big l1 s1, _, rfl, _, _, rfl, rfl, big l2 l7, _, _, rfl, rfl, big l3 s1, _, rfl, _, rfl, small6 ok.2.1, _, _, rfl, rfl, big l4 l6, _, _, rfl, rfl, big l5 s2, ?_⟩
      refine ⟨_, e2, small1000 (by rw [List.length_map, List.length_map, List.length_take]; omega), ?_, ?_⟩
      · rw [wo_upd]
        exact e1
      · rw [upd_same, SG.take_one hr2, List.map_append, List.map_append]
        show some (HO.lst (_ ++ [V.str (lineP r)])) = some (HO.lst (_ ++ [V.str (lineS r ++ "\n")]))
        rw [lineP_eq]
    rintro H1 ⟨e1, e2⟩
    rw [ul, List.take_length] at e2
    have s1 : Same H H1 := e1.trans (wo_le D)
    refine ⟨_, D, rs.map (fun r => lineS r ++ "\n"), rfl, rfl, .inl (SqL.of e2), ?_, ?_⟩
    · have z : ∀ l : List Nat, (∀ x ∈ l, x ≤ 21) → l.sum ≤ 21 * l.length := by
        intro l
        induction l with
        | nil => intro _; simp
        | cons x l ih =>
          intro h
          have h1 := h x List.mem_cons_self
          have h2 := ih fun y hy => h y (List.mem_cons_of_mem _ hy)
          rw [List.sum_cons, List.length_cons]
          omega
      have z1 := z (((rs.map fun r => lineS r ++ "\n")).map (·.length)) fun x hx => by
        obtain ⟨y, hy, rfl⟩ := List.mem_map.mp hx
        obtain ⟨r, hr2, rfl⟩ := List.mem_map.mp hy
        have := (line_of6 (ho6 r hr2)).1
        rw [len_tl] at this
        rw [len_tl, tl_app, List.length_append]
        have e : (tl ("\n" : Str)).length = 1 := by decide +kernel
        omega
      have e0 : (Str.ofString "").length = 0 := by decide +kernel
      rw [List.length_map, List.length_map] at z1
      rw [e0, Nat.mul_zero]
      omega
    · exact q H1 s1
end
end CC
/-! data that may be shown and compared: weight at most m, depth at most n -/
namespace GD
open PySem L2
structure SD (m n : Nat) (d : PyData) : Prop where
  lay : d.canLay0 = true
  shw : d.showable = true
  lvs : d.leavesShort 13 = true
  dep : d.depth ≤ n
  wt : d.weight ≤ m
theorem SD.up {m n m' n' : Nat} {d : PyData} (h : SD m n d) (h1 : m ≤ m') (h2 : n ≤ n') : SD m' n' d := ⟨h.lay, h.shw, h.lvs, Nat.le_trans h.dep h2, Nat.le_trans h.wt h1⟩
theorem SD.non : SD 0 0 .none := ⟨by simp [PyData.canLay0], by simp [PyData.showable], by simp [PyData.leavesShort], by simp [PyData.depth], by simp [PyData.weight]⟩
theorem SD.bl (b : Bool) : SD 0 0 (.bool b) := ⟨by simp [PyData.canLay0], by simp [PyData.showable], by simp [PyData.leavesShort], by simp [PyData.depth], by simp [PyData.weight]⟩
theorem SD.nat {n : Nat} (hn : n < 1000000) : SD 20 0 (.int (n : Int)) := by
  have hl : n.log2 < 20 := by
    by_cases z : n = 0
    · subst z; decide
    · exact (Nat.log2_lt z).mpr (by omega)
  have hl2 : (n : Int).natAbs.log2 < 1920 := by
    rw [Int.natAbs_natCast]
    omega
  refine ⟨by simp [PyData.canLay0], ?_, ?_, by simp [PyData.depth], ?_⟩
  · unfold PyData.showable
    exact decide_eq_true hl2
  · unfold PyData.leavesShort
    refine decide_eq_true ?_
    show (Str.ofString (toString (n : Int))).length ≤ 13
    have e := int_text_length_le10 (a := (n : Int)) (k := 6) (by decide) (by rw [Int.natAbs_natCast]; exact hn)
    rw [ofString_length]
    omega
  · unfold PyData.weight
    rw [Int.natAbs_natCast]
    split <;> omega
theorem SD.int {i : Int} (h0 : 0 ≤ i) (h1 : i < 1000000) : SD 20 0 (.int i) := by
  obtain ⟨n, rfl⟩ : ∃ n : Nat, i = (n : Int) := ⟨i.toNat, by omega⟩
  exact SD.nat (by omega)
theorem SD.str {x : Str} {m : Nat} (h : PyData.strOk x = true) (hl : x.length ≤ m) (hc : ∀ c ∈ x.cps.toList, c < 16 ^ 8) : SD m 0 (.str x) := by
  refine ⟨by simp [PyData.canLay0, h], by simp [PyData.showable], ?_, by simp [PyData.depth], ?_⟩
  · simpa only [PyData.leavesShort, List.all_eq_true, decide_eq_true_eq] using hc
  · simp only [PyData.weight]
    exact hl
theorem SD.all {m n : Nat} : ∀ {ds : List PyData}, (∀ d ∈ ds, SD m n d) → PyData.canLayAll0 ds = true ∧ PyData.showableAll ds = true ∧ PyData.leavesShortAll 13 ds = true ∧ PyData.depthAll ds ≤ n ∧ PyData.weightAll ds ≤ ds.length * (m + 1)
  | [], _ => by simp [PyData.canLayAll0, PyData.showableAll, PyData.leavesShortAll, PyData.depthAll, PyData.weightAll]
  | d :: ds, h => by
    have h1 := h d List.mem_cons_self
    obtain ⟨a1, a2, a3, a4, a5⟩ := SD.all (ds := ds) fun e he => h e (List.mem_cons_of_mem _ he)
    have := h1.dep
    have := h1.wt
    refine ⟨?_, ?_, ?_, ?_, ?_⟩
    · simp [PyData.canLayAll0, h1.lay, a1]
    · simp [PyData.showableAll, h1.shw, a2]
    · simp [PyData.leavesShortAll, h1.lvs, a3]
    · simp only [PyData.depthAll]; omega
    · simp only [PyData.weightAll, List.length_cons, Nat.add_mul]; omega
theorem SD.list {m n k : Nat} {ds : List PyData} (h : ∀ d ∈ ds, SD m n d) (hk : ds.length ≤ k) : SD (k * (m + 1)) (n + 1) (.list ds) := by
  obtain ⟨a1, a2, a3, a4, a5⟩ := SD.all h
  have : ds.length * (m + 1) ≤ k * (m + 1) := Nat.mul_le_mul_right _ hk
  refine ⟨by simp [PyData.canLay0, a1], by simp [PyData.showable, a2], by simp [PyData.leavesShort, a3], ?_, ?_⟩
  · simp only [PyData.depth]; omega
  · simp only [PyData.weight]; omega
theorem SD.tuple {m n k : Nat} {ds : List PyData} (h : ∀ d ∈ ds, SD m n d) (hk : ds.length ≤ k) : SD (k * (m + 1)) (n + 1) (.tuple ds) := by
  obtain ⟨a1, a2, a3, a4, a5⟩ := SD.all h
  have : ds.length * (m + 1) ≤ k * (m + 1) := Nat.mul_le_mul_right _ hk
  refine ⟨by simp [PyData.canLay0, a1], by simp [PyData.showable, a2], by simp [PyData.leavesShort, a3], ?_, ?_⟩
  · simp only [PyData.depth]; omega
  · simp only [PyData.weight]; omega
theorem SD.shaped {m n : Nat} {d : PyData} (h : SD m n d) (hn : n ≤ 64) : SeqAt.shaped d = true := by
  show (d.canLay0 && decide (d.depth ≤ 64)) = true
  rw [h.lay, Bool.true_and]
  exact decide_eq_true (Nat.le_trans h.dep hn)
theorem SD.fits {m n : Nat} {d : PyData} (h : SD m n d) (hm : m ≤ 2 ^ 20) : d.shown.length ≤ sizeLine := PyData.shown_fits (B := 13) (by decide) (by decide) h.lvs (Nat.le_trans h.wt hm)
end GD
namespace GD
open PySem L2 CC
end GD
namespace CC
open PySem L2
theorem RulesAt.ran {K : PySem.W.Frag} {C : Addr} {H H' : Hp} {x s : Addr} {w : Nat} {rs : List R} (h : RulesAt K C H x w rs) (hs : Src H s) (r : Ran H H' s) (T : SameT H H') : RulesAt K C H' x w rs := by
  obtain ⟨o, hs1, a, b, c, rfl, _⟩ := hs
  obtain ⟨dx, g, us, h1, h2, h3⟩ := h
  exact ⟨dx, g, us, r.at_ h1 (ne_of h1 hs1 (by intro z; cases z)), r.at_ h2 (ne_of h2 hs1 (by intro z; cases z)), rds_T T h3⟩
end CC
namespace CC
open PySem L2 TL
section
variable {K : PySem.W.Frag} {C CR CT : Addr} {H H' : Hp} {a p x r q g l : Addr} {w n : Nat} {ns : List Int} {rs : List R} {rows rows' : List (List Nat)}
/-- a draw leaves a log as it is -/
theorem LogAt.ran (L : LogAt K C CR CT H x r q w rs rows n) (src : Src H p) (qp : q ≠ p) (e : Ran H H' p) : LogAt K C CR CT H' x r q w rs rows n := by
  obtain ⟨o, hp, z1, z2, z3, rfl, _⟩ := id src
  have T := e.T src
  obtain ⟨⟨dx, t, h1, dt, gt, ut, t1, t2, t3⟩, ⟨dr, gr, ur, r1, r2, r3⟩, ⟨hs, h4, h5⟩⟩ := L
  have key : ∀ b o, wos H [x, q] b = some o → o ≠ .lst [.int z1, .int z2, .int z3] → wos H' [x, q] b = some o := fun b o eb no => by
    obtain ⟨nb, eb⟩ := wos_at eb
    rw [wos_in nb]
    exact e.at_ eb fun z => no (by rw [z, hp] at eb; exact (Option.some.inj eb).symm)
  have TT : SameT (wos H [x, q]) (wos H' [x, q]) := ⟨fun b xs e => key b _ e (by intro z; cases z), fun b o xs e => key b _ e (by intro z; cases z)⟩
  exact ⟨⟨dx, t, e.at_ h1 (ne_of h1 hp (by intro z; cases z)), dt, gt, ut, key _ _ t1 (by intro z; cases z), key _ _ t2 (by intro z; cases z), gds_T TT t3⟩, ⟨dr, gr, ur, key _ _ r1 (by intro z; cases z), key _ _ r2 (by intro z; cases z), rds_T TT r3⟩, ⟨hs, e.at_ h4 qp, h5⟩⟩
/-- a change of the log leaves tuples -/
theorem LogAt.T (L : LogAt K C CR CT H x r q w rs rows n) (k : Kp [x, q] H H') : SameT H H' := by
  obtain ⟨⟨dx, t, h1, _⟩, _, ⟨hs, h4, _⟩⟩ := L
  have T := wos2_T h1 h4
  exact T.trans (same_T k.to)
/-- the script, the source, the log and the rules that are given -/
structure Wld (K : PySem.W.Frag) (C CR CT : Addr) (H : Hp) (a p x r q g : Addr) (w : Nat) (ns : List Int) (rs : List R) (rows : List (List Nat)) (n : Nat) : Prop where
  scr : SqL K (wos H [p, x, q]) a (ns.map V.int)
  src : Src H p
  log : LogAt K C CR CT H x r q w rs rows n
  qp : q ≠ p
  giv : ∃ ug, H g = some (.tup ug) ∧ DpAll K H ug (rs.map R.d)
theorem Wld.grow (W : Wld K C CR CT H a p x r q g w ns rs rows n) (e : Same H H') : Wld K C CR CT H' a p x r q g w ns rs rows n := by
  obtain ⟨ug, g1, g2⟩ := W.giv
  obtain ⟨o, s1, s2⟩ := W.src
  exact ⟨same_l (Kp.of e).same W.scr, ⟨o, e _ _ s1, s2⟩, W.log.keep e, W.qp, ug, e _ _ g1, dps_same e _ _ g2⟩
theorem Wld.run (W : Wld K C CR CT H a p x r q g w ns rs rows n) (e : Ran H H' p) : Wld K C CR CT H' a p x r q g w ns rs rows n := by
  obtain ⟨ug, g1, g2⟩ := W.giv
  have T := e.T W.src
  exact ⟨same_l (Kp.ran e (by simp)).same W.scr, e.src, W.log.ran W.src W.qp e, W.qp, ug, T.tup _ _ g1, rds_T T g2⟩
theorem Wld.xp (W : Wld K C CR CT H a p x r q g w ns rs rows n) : x ≠ p := by
  obtain ⟨o, hp, z1, z2, z3, rfl, _⟩ := W.src
  obtain ⟨dx, t, h1, _⟩ := W.log.at_
  exact ne_of h1 hp (by intro z; cases z)
/-- a list of rows beside them -/
structure Lst (K : PySem.W.Frag) (H : Hp) (p q l : Addr) (rows : List (List Nat)) : Prop where
  np : l ≠ p
  nq : l ≠ q
  at_ : ∃ ul, H l = some (.lst ul) ∧ DpAll K H ul (rows.map gd)
theorem Lst.grow (L : Lst K H p q l rows) (e : Same H H') : Lst K H' p q l rows := by
  obtain ⟨ul, h1, h2⟩ := L.at_
  exact ⟨L.np, L.nq, ul, e _ _ h1, dps_same e _ _ h2⟩
theorem Lst.run (L : Lst K H p q l rows) (src : Src H p) (e : Ran H H' p) : Lst K H' p q l rows := by
  obtain ⟨ul, h1, h2⟩ := L.at_
  exact ⟨L.np, L.nq, ul, e.at_ h1 L.np, gds_T (e.T src) h2⟩
theorem Lst.len (L : Lst K H p q l rows) {ul : List V} (h : H l = some (.lst ul)) : ul.length = rows.length := by
  obtain ⟨vl, h1, h2⟩ := L.at_
  rw [h] at h1
  cases h1
  rw [dps_len h2, List.length_map]
end
theorem sdt_shp (rs : List R) : SeqAt.shaped (.tuple (rs.map R.d)) = true := by
  have := rds_shaped rs
  simpa [SeqAt.shaped, PyData.canLay0, PyData.depth] using this
end CC
namespace CC
open PySem L2
theorem cut_whole {xs : List V} {lo hi : Option Int} (h : HT.sIx xs.length 0 lo = 0 ∧ HT.sIx xs.length xs.length hi = xs.length) : cutV xs lo hi = xs := by
  unfold cutV
  rw [h.1, h.2]
  simp
/-- a part of a tuple, be it the whole or not -/
theorem sl_all {K : PySem.W.Frag} {H : Hp} {a : Addr} {xs : List V} {lo hi : Option Int} {Q : VK} (h : SqT K H a xs) (q : ∀ (t : Addr) (H' : Hp), Same H H' → SqT K H' t (cutV xs lo hi) → Q (.ref t) H') : rSlA K (.ref a) lo hi H Q :=
  ⟨a, xs, rfl, h, fun z => q a H (Same.refl _) (by rw [cut_whole z]; exact h), fun _ p np => q p _ (same_new np) (.inl (.inl upd_same))⟩
theorem cat_all {K : PySem.W.Frag} {H : Hp} {a b : Addr} {xs ys : List V} {Q : VK} (h : SqT K H a xs) (g : SqT K H b ys) (l : xs.length + ys.length ≤ sizeLine) (q : ∀ (t : Addr) (H' : Hp), Same H H' → SqT K H' t (xs ++ ys) → Q (.ref t) H') : rCatA K (.ref a) (.ref b) H Q :=
  ⟨a, b, xs, ys, rfl, rfl, h, g, l, fun z => q b H (Same.refl _) (by rw [z]; exact g), fun _ z => q a H (Same.refl _) (by rw [z, List.append_nil]; exact h), fun _ _ p np => q p _ (same_new np) (.inl (.inl upd_same))⟩
end CC
namespace CC
open PySem L2 TL
def spRwl (K : PySem.W.Frag) : Sp := fun vs H Q _ => ∃ (s l : Addr) (m : Nat) (us : List V) (rows : List (List Nat)), vs = [.ref s, .int (m : Int), .ref l] ∧ Src H s ∧ 2 ≤ m ∧ m ≤ 6 ∧ SqL K (wo H s) l us ∧ DpAll K H us (rows.map gd) ∧ (∀ r ∈ rows, RowOk m r) ∧ rows.length < 500 ∧ ∀ (t : Addr) (row : List Nat) (H' : Hp), Ran H H' s → SqT K H' t (nms row) → RowOk m row → Q (.ref t) H'
theorem gds_nil (F : List (List Nat)) : PyData.eqv (.list (F.map gd)) (.list []) = F.isEmpty := by
  cases F with
  | nil => simp [PyData.eqv, PyData.eqvAll]
  | cons x F => simp [PyData.eqv, PyData.eqvAll]
theorem rep_nms (k x : Nat) : (List.replicate k [V.int (x : Int)]).flatten = nms (List.replicate k x) := by
  induction k with
  | zero => rfl
  | succ k ih =>
    rw [List.replicate_succ, List.flatten_cons, ih, List.replicate_succ]
    rfl
section
variable {P : Program} {w : World} {K : PySem.W.Frag} {mg : Str → Option Value} {base : Heap} {kA : Addr}
abbrev nRwl : List Str := ["_law_source_here", "_law_many", "_law_listed", "_law_way", "_law_top", "_law_row_here", "_law_at", "_law_column"]
theorem scRwl : FnScope nRwl ["_law_source_here", "_law_many", "_law_listed"] (defScope sRwl) := ⟨rfl, rfl, rfl, by decide +kernel, rfl, by decide +kernel, by decide +kernel⟩
theorem ok_rwl {f : Addr} {fd : FuncData} {k : Nat} (F : Fun K "_law_row" "_law_row" sRwl f fd) (T : Glb K mg kA) (cD : Cal P w K mg base "_law_draw" ["_law_source_here", "_law_many"] spDraw2 1) (cC : Cal P w K mg base "_law_choose" ["_law_source_here", "_law_values"] (spChoose K) 2) : FnOk P w K mg base CX0 (k + 3) f fd ["_law_source_here", "_law_many", "_law_listed"] (spRwl K) := by
  have GD := cD.ok (k + 2) (by omega)
  have GC := cC.ok (k + 2) (by omega)
  refine F.ok scRwl (fun vs H Q E h => ?_) (fun cdv A outer sh H vs Q E hr h => ?_)
  · obtain ⟨s, l, m, us, rows, rfl, _⟩ := h
    rfl
  · obtain ⟨s, l, m, us, rows, rfl, src, w1, w6, hl, dl, ok, few, q⟩ := h
    have n := scRwl.nd
    have hu64 : (A.deeper (PyProof.Rows.envOfC (Str.ofString "_law_row") (defScope sRwl) sh.heap.objs.size f cdv)).units + 64 < cLine := by
      have := hr.un
      omega
    refine ⟨_, (pss_cons (ps_asg (pe_tup (pa_cons (pe_call GD hr rfl cD.g cD.kp cD.b .nil pass0 (pa_cons (pv 0) (pa_cons pe_int pa_nil))) (pa_cons (pe_ix ix_list (pe_lst (pa_cons pe_int (pa_cons pe_int (pa_cons pe_int pa_nil)))) (pe_call GD hr rfl cD.g cD.kp cD.b .nil pass0 (pa_cons (pv 0) (pa_cons pe_int pa_nil))) (fun _ _ => rfl)) pa_nil))) (pg_tup rfl (pgs_cons (pg_name (i := 3) n rfl (.inl rfl)) (pgs_cons (pg_name (i := 4) n rfl (.inr rfl)) pgs_nil))))
      (C8.pss_cut (ps_if (PW.pt (pw_or (pt_cmpR op_lt (pv 3) pe_int (nomark _)) (pw_or1 (PW.pt (pw_and (pt_cmpR (op_eqD hu64) (pv 2) (pe_lst pa_nil) (nomark _)) (pw_and1 (pt_cmpR op_lt (pv 3) pe_int (nomark _))))))))
        (pss_one (ps_ret (pe_op op_repT (pe_tup (pa_cons (pe_call GD hr rfl cD.g cD.kp cD.b .nil pass0 (pa_cons (pv 0) (pa_cons (pv 4) pa_nil))) pa_nil)) (pv 1))))
        pss_nil)
      (pss_cons (ps_if (pt_cmpR op_lt (pv 3) pe_int (nomark _))
        (pss_cons (ps_par (i := 5) (j := 6) (by rfl) n rfl rfl (by decide) rfl rfl (pa_cons (pe_call GC hr rfl cC.g cC.kp cC.b .nil pass0 (pa_cons (pv 0) (pa_cons (pv 2) pa_nil))) (pa_cons (pe_call GD hr rfl cD.g cD.kp cD.b .nil pass0 (pa_cons (pv 0) (pa_cons (pv 1) pa_nil))) pa_nil)) (by rfl))
        (pss_one (ps_ret (pe_ifExp (pt_cmpR op_lt (pv 3) pe_int (nomark _)) (pv 5) (pe_op op_catA (pe_op op_catA (pe_slice sl_tupA (pv 5) po_none (po_some (pv 6))) (pe_tup (pa_cons (pe_call GD hr rfl cD.g cD.kp cD.b .nil pass0 (pa_cons (pv 0) (pa_cons (pv 4) pa_nil))) pa_nil))) (pe_slice sl_tupA (pv 5) (po_some (pe_op op_add (pv 6) pe_int)) po_none))))))
        pss_nil)
      (pss_one (ps_ret (pe_callTy (r := rTupOf K) call_tuple_of (by rfl) T.tup (by decide +kernel) (pa_cons (pe_lc (own := [("_law_column", 7)]) (g := gName 7) (tt := tYes) (te := tCall spDraw2 [] E0 (tCons (tVar 0) (tCons (tVar 4) tNil))) rfl n (pi_range1 (by rfl) T.rng (pa_cons (pv 1) pa_nil)) (blkOk_by (N := nRwl) (sc := defScope sRwl) (by decide +kernel))
        (fun _ _ _ _ _ => (pg_name (i := 7) n rfl (.inl rfl))) (fun _ _ _ _ _ => pts_nil) (fun _ _ _ _ _ => (pe_call GD hr rfl cD.g cD.kp cD.b .nil pass0 (pa_cons (pv 0) (pa_cons (pv 4) pa_nil))))) pa_nil))))))), ?_⟩
    have ran0 : Ran H H s := ⟨Same.refl _, src⟩
    have ul : us.length = rows.length := by rw [dps_len dl, List.length_map]
    refine ⟨_, rfl, s, 6, rfl, src, by decide, by decide, fun wy H1 hwy r1 => ?_⟩
    refine ⟨(by show 3 ≤ sizeLine; decide), fun l3 n3 => ?_⟩
    have r1' := ran0.trans r1
    have s2 : Same H1 (upd H1 l3 (.lst [.int 2, .int 3, .int 10000])) := same_new n3
    have hl3 : (upd H1 l3 (.lst [.int 2, .int 3, .int 10000])) l3 = some (.lst [.int 2, .int 3, .int 10000]) := upd_same
    have ls3 : l3 ≠ s := r1'.ne n3
    generalize upd H1 l3 (.lst [.int 2, .int 3, .int 10000]) = H2 at s2 hl3
    have r2 := r1'.grow s2
    refine ⟨_, rfl, s, 3, rfl, r2.src, by decide, by decide, fun d3 H3 hd3 r3 => ?_⟩
    have r3' := r2.trans r3
    obtain ⟨tp, etp, tp1, tp2⟩ : ∃ tp : Nat, ([.int 2, .int 3, .int 10000] : List V)[d3]? = some (.int (tp : Int)) ∧ 0 < tp ∧ tp ≤ 10000 := by
      match d3, hd3 with
      | 0, _ => exact ⟨2, rfl, by decide, by decide⟩
      | 1, _ => exact ⟨3, rfl, by decide, by decide⟩
      | 2, _ => exact ⟨10000, rfl, by decide, by decide⟩
    refine ⟨l3, _, _, _, rfl, rfl, SqL.of (r3.at_ hl3 ls3), atI_nat etp, (by show 2 ≤ sizeLine; decide), fun pr npr => ?_⟩
    have s4 : Same H3 (upd H3 pr (.tup [.int (wy : Int), .int (tp : Int)])) := same_new npr
    have hpr : (upd H3 pr (.tup [.int (wy : Int), .int (tp : Int)])) pr = some (.tup [.int (wy : Int), .int (tp : Int)]) := upd_same
    generalize upd H3 pr (.tup [.int (wy : Int), .int (tp : Int)]) = H4 at s4 hpr
    have r4 := r3'.grow s4
    refine ⟨pr, _, rfl, .inl (.inl hpr), rfl, _, _, rfl, _, _, rfl, rfl, ?_⟩
    clear hpr s4 npr hl3 s2 n3
    -- (x,) * many
    have many : ∀ H5, Ran H H5 s → ∀ σ : L2.St, σ[0]? = some (some (.ref s)) → σ[1]? = some (some (.int (m : Int))) → σ[4]? = some (some (.int (tp : Int))) → tOp (rRepT K) (tTup (tCons (tCall spDraw2 [] E0 (tCons (tVar 0) (tCons (tVar 4) tNil))) tNil)) (tVar 1) σ H5 Q := fun H5 r5 σ e0 e1 e4 => by
      refine ⟨_, e0, _, e4, s, tp, rfl, r5.src, tp1, by omega, fun d H6 hd r6 => ⟨(by show 1 ≤ sizeLine; decide), fun t nt => ?_⟩⟩
      have r6' := r5.trans r6
      refine ⟨_, e1, t, _, [.int (d : Int)], rfl, rfl, .inl (.inl upd_same), by simp, by omega, by omega, (by show 1 ≤ 1000; decide), fun p np => ?_⟩
      rw [show ((m : Int)).toNat = m by omega, rep_nms]
      refine q p (List.replicate m d) _ ((r6'.grow (same_new nt)).grow (same_new np)) (.inl (.inl upd_same)) ⟨List.length_replicate, fun v hv => ?_⟩
      rw [List.eq_of_mem_replicate hv]
      omega
    let Mid : L2.St → Hp → Prop := fun σ H' => σ = [some (.ref s), some (.int (m : Int)), some (.ref l), some (.int (wy : Int)), some (.int (tp : Int)), none, none, none] ∧ Ran H H' s ∧ (wy < 5 → rows ≠ [])
    refine ⟨Mid, ?_, ?_⟩
    · refine ⟨_, rfl, _, _, rfl, rfl, _, rfl, ?_⟩
      by_cases e2 : wy < 2
      · refine iteT' (decide_eq_true (by omega)) (iteT ?_)
        exact many H4 r4 _ rfl rfl rfl
      · refine iteF' (decide_eq_false (by omega)) ?_
        refine ⟨_, rfl, Nat.zero_le _, fun p np => ?_⟩
        have s5 : Same H4 (upd H4 p (.lst [])) := same_new np
        have hl5 : SqL K (upd H4 p (.lst [])) l us := same_l (r4.same.trans ((wo_le s).trans s5)) hl
        have dl5 : DpAll K (upd H4 p (.lst [])) us (rows.map gd) := gds_T ((r4.T src).trans (same_T s5)) dl
        refine ⟨.list (rows.map gd), .list [], .lst hl5 dl5, .lst (SqL.of upd_same) .nil, RW.gdl_shp _, RW.gdl_shp [], _, rfl, ?_⟩
        rw [gds_nil]
        have r5 := r4.grow s5
        cases eR : rows.isEmpty with
        | false =>
          refine iteF (iteF ⟨rfl, r5, fun _ z => ?_⟩)
          rw [z] at eR
          cases eR
        | true =>
          refine iteT ⟨_, rfl, _, _, rfl, rfl, _, rfl, ?_⟩
          by_cases e5 : wy < 5
          · refine iteT' (decide_eq_true (by omega)) ?_
            exact many _ r5 _ rfl rfl rfl
          · refine iteF' (decide_eq_false (by omega)) ⟨rfl, r5, fun z => absurd z e5⟩
    rintro σ H5 ⟨rfl, r5, hne⟩
    refine ⟨_, rfl, _, _, rfl, rfl, _, rfl, ?_⟩
    by_cases e5 : wy < 5
    · refine iteT' (decide_eq_true (by omega)) ?_
      have rpos : 0 < us.length := by
        rw [ul]
        exact List.length_pos_iff.mpr (hne e5)
      refine ⟨_, rfl, _, rfl, s, _, rfl, r5.src, .inl ⟨l, us, rfl, same_l r5.same hl, rpos, by omega, fun i x H6 hx r6 => ?_⟩⟩
      have r6' := r5.trans r6
      obtain ⟨row, hrow, drow⟩ := dps_gat dl hx
      have rok := ok row (List.mem_of_getElem? hrow)
      obtain ⟨t, rfl, ht⟩ := gd_at (gd_T (r6'.T src) drow)
      refine ⟨_, rfl, _, rfl, s, m, rfl, r6'.src, by omega, by omega, fun a H7 ha r7 => ⟨_, _, rfl, ?_⟩⟩
      have r7' := r6'.trans r7
      have ht7 := sqt_T (r7.T r6'.src) ht
      refine ⟨_, rfl, _, _, rfl, rfl, _, rfl, ?_⟩
      by_cases e3 : wy < 3
      · refine iteT' (decide_eq_true (by omega)) ⟨_, rfl, q t row H7 r7' ht7 rok⟩
      · refine iteF' (decide_eq_false (by omega)) ?_
        refine ⟨_, rfl, _, rfl, _, rfl, sl_all ht7 fun t1 H8 s8 h1 => ?_⟩
        rw [show cutV (nms row) none (some (a : Int)) = nms (row.take a) from by rw [cut_to, nms, nms, List.map_take]] at h1
        have r8 := r7'.grow s8
        refine ⟨_, rfl, _, rfl, s, tp, rfl, r8.src, tp1, by omega, fun d H9 hd r9 => ⟨(by show 1 ≤ sizeLine; decide), fun t2 nt2 => ?_⟩⟩
        have r9' := r8.trans r9
        have s10 : Same H9 (upd H9 t2 (.tup [.int (d : Int)])) := same_new nt2
        have h2 : SqT K (upd H9 t2 (.tup [.int (d : Int)])) t2 (nms [d]) := .inl (.inl upd_same)
        have h1' := same_t s10 (sqt_T (r9.T r8.src) h1)
        have ht10 := same_t s10 (sqt_T (r9.T r8.src) (same_t s8 ht7))
        generalize upd H9 t2 (.tup [.int (d : Int)]) = H10 at s10 h2 h1' ht10
        have r10 := r9'.grow s10
        have la : (row.take a).length = a := by rw [List.length_take, rok.1]; omega
        refine cat_all h1' h2 (by rw [nms_len, nms_len, la]; exact Nat.le_of_lt (small1000 (by show a + 1 ≤ 1000; omega))) fun t3 H11 s11 h3 => ?_
        rw [← nms_app] at h3
        have r11 := r10.grow s11
        have ht11 := same_t s11 ht10
        refine ⟨_, rfl, _, rfl, _, _, rfl, rfl, _, rfl, ?_⟩
        dsimp only [tNoPart]
        refine sl_all ht11 fun t4 H12 s12 h4 => ?_
        rw [show cutV (nms row) (some ((a : Int) + 1)) none = nms (row.drop (a + 1)) from by rw [show ((a : Int) + 1) = ((a + 1 : Nat) : Int) by omega, cut_from, nms, nms, List.map_drop]] at h4
        have ld : (row.drop (a + 1)).length = m - (a + 1) := by rw [List.length_drop, rok.1]
        refine cat_all (same_t s12 h3) h4 (by rw [nms_len, nms_len, ld, List.length_append, la]; exact Nat.le_of_lt (small1000 (by show a + 1 + (m - (a + 1)) ≤ 1000; omega))) fun t5 H13 s13 h5 => ?_
        rw [← nms_app] at h5
        refine q t5 _ H13 ((r11.grow s12).grow s13) h5 ⟨?_, fun v hv => ?_⟩
        · rw [List.length_append, List.length_append, la, ld]
          show a + 1 + (m - (a + 1)) = m
          omega
        · rcases List.mem_append.mp hv with z | z
          · rcases List.mem_append.mp z with z | z
            · exact rok.2 v (List.mem_of_mem_take z)
            · rw [List.mem_singleton.mp z]
              omega
          · exact rok.2 v (List.mem_of_mem_drop z)
    · refine iteF' (decide_eq_false (by omega)) ?_
      refine ⟨_, rfl, _, rfl, by omega, by omega, fun D nD => ?_⟩
      refine lc_range (lo := 0) (n := ((m : Nat) : Int).toNat) (fun j H' => Ran H H' s ∧ H D = none ∧ D ≠ s ∧ (∃ r, H' D = some (.lst (nms r)) ∧ r.length = j ∧ ∀ x ∈ r, x ≤ 9999) ∧ j ≤ 6) ⟨r5.grow (same_new nD), r5.free nD, r5.ne nD, ⟨[], upd_same, rfl, (fun x hx => nomatch hx)⟩, by omega⟩ ?_ ?_
      · rintro j H7 hj ⟨r7, nD0, Ds, ⟨r, hD7, rl, rv⟩, j6⟩
        refine ⟨rfl, yes_if ⟨_, rfl, _, rfl, s, tp, rfl, r7.src, tp1, by omega, fun x H8 hx r8 => ?_⟩⟩
        have hD8 := r8.at_ hD7 Ds
        refine ⟨_, hD8, small1000 (by rw [nms_len]; omega), (r7.trans r8).put' nD0 Ds, nD0, Ds, ⟨r ++ [x], ?_, ?_, ?_⟩, by omega⟩
        · rw [upd_same, nms_app]
          rfl
        · rw [List.length_append, List.length_singleton, rl]
        · intro y hy
          rcases List.mem_append.mp hy with z | z
          · exact rv y z
          · rw [List.mem_singleton.mp z]
            omega
      rintro H7 ⟨r7, nD0, Ds, ⟨r, hD7, rl, rv⟩, _⟩
      rw [show ((m : Nat) : Int).toNat = m by omega] at rl
      refine ⟨D, _, rfl, .inl ⟨SqL.of hD7, fun z nz => ?_⟩⟩
      exact q z r _ (r7.grow (same_new nz)) (.inl (.inl upd_same)) ⟨rl, rv⟩
end
end CC
/-! sorted(xs), xs a list of data that are alike -/
namespace SoD
open PySem PySem.Spec PyProof.Rows L2 PySem.W
/-- x is not behind y -/
def dle : PyData → PyData → Bool := dataLe false id
theorem each_pairs {X : Cx} {pins : List (Addr × Obj)} {σ : L2.St} {H : Hp} {s : Shared} (I : Inv X pins σ H s) : ∀ {ds : List PyData} {xs : List V} {us : List Value}, DpAll X.K H xs ds → Vals xs us →
    EachIs (fun v d => ∃ as, Reads s.heap v d as) us ds ∧ EachIs (fun (v : Value) (b : V × PyData) => RelV b.1 v ∧ Dp X.K H b.1 b.2 ∧ ∃ as, Reads s.heap v b.2 as) us (xs.zip ds)
  | [], _, _, h, r => by
    cases h
    cases r
    exact ⟨.nil, .nil⟩
  | d :: ds, _, _, h, r => by
    cases h with
    | cons h1 h2 =>
      cases r with
      | cons r1 r2 =>
        obtain ⟨a1, a2⟩ := each_pairs I h2 r2
        obtain ⟨as, z⟩ := Dp.reads I d _ _ h1 r1
        exact ⟨.cons ⟨as, z⟩ a1, .cons ⟨r1, h1, as, z⟩ a2⟩
theorem each_vals {K : PySem.W.Frag} {H : Hp} {R : Value → PyData → Prop} : ∀ {us : List Value} {bs : List (V × PyData)}, EachIs (fun (v : Value) (b : V × PyData) => RelV b.1 v ∧ Dp K H b.1 b.2 ∧ R v b.2) us bs → Vals (bs.map (·.1)) us ∧ DpAll K H (bs.map (·.1)) (bs.map (·.2))
  | _, _, .nil => ⟨.nil, .nil⟩
  | _, _, .cons h r => by
    obtain ⟨a1, a2⟩ := each_vals r
    exact ⟨.cons h.1 a1, .cons h.2.1 a2⟩
def rSortedD (K : PySem.W.Frag) : List V → Hp → VK → Prop := fun vs H Q => ∃ (a : Addr) (xs : List V) (ds : List PyData), vs = [V.ref a] ∧ SqL K H a xs ∧ DpAll K H xs ds ∧ AllAlike ds ∧ Sortable ds ∧ (∀ d ∈ ds, d.depth ≤ 60) ∧
  ∀ (ys : List V) (p : Addr), DpAll K H ys (ds.mergeSort dle) → H p = none → Q (.ref p) (upd H p (.lst ys))
theorem cr_sortedD {X : Cx} (hu : X.A.units + 64 < cLine) : CallR X (.builtin "sorted") (rSortedD X.K) := by
  intro pins s σ H vs us Q I r h
  obtain ⟨a, xs, ds, rfl, hs, hd, hal, hk, dep, q⟩ := h
  obtain ⟨its, rv, hl, hz⟩ := I.list hs
  obtain ⟨u, rfl, ru⟩ := vals1 r
  obtain rfl : u = Value.ref a := ru
  have keep : ∀ b o, s.heap.get? b = some o → (sortingHeap (copyHeap s.heap its) (s.heap.objs.size + 1) its).get? b = some o := fun b o e => sorting_copy_old e
  have go := fun (κ : PyProof.Rows.KeyKind) (S : SortsAt X.prog X.w X.A.in1.in1 { s with heap := sortingHeap (copyHeap s.heap its) (s.heap.objs.size + 1) its } κ its) => sorted_vals (E := X.xe) (Q := EP X pins σ Q) (κ := κ) hl.isList S (by rw [← rv.length]; exact hz)
  generalize sortingHeap (copyHeap s.heap its) (s.heap.objs.size + 1) its = h1 at keep go
  have I1 : Inv X pins σ H { s with heap := h1 } := I.kept (t' := s.toks) keep
  obtain ⟨e1, e2⟩ := each_pairs I1 hd rv
  have S := SortsAt.data (prog := X.prog) (w := X.w) (A := X.A.in1.in1) (s := { s with heap := h1 }) e1 hal hk (fun d hd => by
    have := dep d hd
    show X.A.units + 1 + 1 + d.depth < cLine
    omega)
  have lx : xs.length = ds.length := by
    have l1 := e1.length
    rw [rv.length, l1]
  refine go _ S ?_
  have z1 : (xs.zip ds).map (·.2) = ds := List.map_snd_zip (by omega)
  have kk : EachIs (fun v (b : V × PyData) => (dataKind h1 ds).keyOf v = some (keyToks b.2)) its (xs.zip ds) := by
    refine EachIs.of_zip e2.length fun p hp => ?_
    obtain ⟨_, _, as, z⟩ := e2.zip p hp
    have m2 : p.2 ∈ xs.zip ds := (List.of_mem_zip hp).2
    exact dataKind_some hal (List.of_mem_zip m2).2 z
  have out := sortVals_each (κ := dataKind h1 ds) (rev := false) (fun b : V × PyData => keyToks b.2) e2 kk
  obtain ⟨v1, v2⟩ := each_vals (R := fun v d => ∃ as, Reads h1 v d as) out
  have em : ((xs.zip ds).mergeSort (sortLe (dataKind h1 ds).toKeyOrd false fun b : V × PyData => keyToks b.2)).map (·.2) = ds.mergeSort dle := by
    have := sort_maps (r := sortLe (dataKind h1 ds).toKeyOrd false fun b : V × PyData => keyToks b.2) (s := dle) (fun b : V × PyData => b.2) (l := xs.zip ds) (fun _ _ _ _ => rfl)
    rw [z1] at this
    exact this
  rw [em] at v2
  have ol : (sortVals (dataKind h1 ds) false its its).length = its.length := sortVals_length false rfl
  generalize sortVals (dataKind h1 ds) false its its = res at v1 ol
  obtain ⟨n, hn⟩ := sortedAll_at s.heap its res.toArray
  obtain ⟨ys, v1, v2⟩ : ∃ ys : List V, Vals ys res ∧ DpAll X.K H ys (ds.mergeSort dle) := ⟨_, v1, v2⟩
  refine ⟨.ref (s.heap.objs.size + 1), upd H (s.heap.objs.size + 1) (.lst ys), I.laid (t' := s.toks) (fun b o e => sortedAll_old e) (Nat.le_succ _) ⟨?_, res, n, v1, hn⟩, rfl, q _ _ v2 (I.hok.fresh (Nat.le_succ _))⟩
  rw [v1.length, ol, ← rv.length]
  exact hz
end SoD
/-! sorted(xs), xs a list of data that are alike -/
namespace SoD
open PySem PySem.Spec PyProof.Rows L2 PySem.W
def rSortedTD (K : PySem.W.Frag) : List V → Hp → VK → Prop := fun vs H Q => ∃ (a : Addr) (xs : List V) (ds : List PyData), vs = [V.ref a] ∧ SqT K H a xs ∧ DpAll K H xs ds ∧ AllAlike ds ∧ Sortable ds ∧ (∀ d ∈ ds, d.depth ≤ 60) ∧
  ∀ (ys : List V) (p : Addr), DpAll K H ys (ds.mergeSort dle) → H p = none → Q (.ref p) (upd H p (.lst ys))
section
variable {P : Program} {w : World} {A : Around} {E : Value → Shared → Prop} {s : Shared}
/-- sorted(t), t a tuple -/
theorem sorted_tupV {κ : PyProof.Rows.KeyKind} {l : Addr} {vs : List Value} {Q : Value → Shared → Prop} (hl : IsTup s.heap l vs.toArray) (S : SortsAt P w A.in1.in1 { s with heap := sortingHeap (copyHeap s.heap vs) (s.heap.objs.size + 1) vs } κ vs) (hz : vs.length ≤ sizeLine)
    (h : Q (.ref (s.heap.objs.size + 1)) { s with heap := sortedAll s.heap vs (sortVals κ false vs vs).toArray }) : wpAny (model P w) A (call (.builtin "sorted") [.ref l]) Q E s := by
  refine call_function_entry_kw kind_sorted plain_sorted entry_sorted (args_sorted1 _) ?_
  unfold Builtin.«sorted»
  refine wpAny_bind (m := checkCount "sorted" 1 1 _) (wpAny_pure ?_)
  refine wpAny_bind (coll_tup hl hz ?_)
  refine wpAny_bind (wpAny_newList ?_ hz)
  have hsz : ((s.heap.push (seqObj "list" #[] 0)).update s.heap.objs.size (Obj.mapSeq (· ++ vs.toArray))).objs.size = s.heap.objs.size + 1 := by rw [Heap.size_update, size_push']
  show wpAny _ _ _ _ _ { s with heap := copyHeap s.heap vs }
  rw [hsz]
  refine wpAny_bind (wpAny_holding (wpAny_call_entry_kw slot_list_sort ⟨_, copyHeap_at s.heap vs, rfl⟩ entry_list_sort ?_ (args_list_sort _)))
  refine wpAny_mono (list_sort_vals (P := fun f s' => f = .done (.ret .none) ∧ Q (.ref (s.heap.objs.size + 1)) s') (s := { s with heap := copyHeap s.heap vs }) (copyHeap_at s.heap vs) S hz ⟨rfl, h⟩) (fun f s' hf => ?_) fun _ _ e => e
  obtain ⟨rfl, hq⟩ := hf
  exact ⟨_, rfl, wpAny_pure ⟨_, rfl, hq⟩⟩
end
theorem cr_sortedTD {X : Cx} (hu : X.A.units + 64 < cLine) : CallR X (.builtin "sorted") (rSortedTD X.K) := by
  intro pins s σ H vs us Q I r h
  obtain ⟨a, xs, ds, rfl, hs, hd, hal, hk, dep, q⟩ := h
  obtain ⟨its, rv, hl, hz⟩ := I.tuple hs
  obtain ⟨u, rfl, ru⟩ := vals1 r
  obtain rfl : u = Value.ref a := ru
  have keep : ∀ b o, s.heap.get? b = some o → (sortingHeap (copyHeap s.heap its) (s.heap.objs.size + 1) its).get? b = some o := fun b o e => sorting_copy_old e
  have go := fun (κ : PyProof.Rows.KeyKind) (S : SortsAt X.prog X.w X.A.in1.in1 { s with heap := sortingHeap (copyHeap s.heap its) (s.heap.objs.size + 1) its } κ its) => sorted_tupV (E := X.xe) (Q := EP X pins σ Q) (κ := κ) hl S (by rw [← rv.length]; exact hz)
  generalize sortingHeap (copyHeap s.heap its) (s.heap.objs.size + 1) its = h1 at keep go
  have I1 : Inv X pins σ H { s with heap := h1 } := I.kept (t' := s.toks) keep
  obtain ⟨e1, e2⟩ := each_pairs I1 hd rv
  have S := SortsAt.data (prog := X.prog) (w := X.w) (A := X.A.in1.in1) (s := { s with heap := h1 }) e1 hal hk (fun d hd => by
    have := dep d hd
    show X.A.units + 1 + 1 + d.depth < cLine
    omega)
  have lx : xs.length = ds.length := by
    have l1 := e1.length
    rw [rv.length, l1]
  refine go _ S ?_
  have z1 : (xs.zip ds).map (·.2) = ds := List.map_snd_zip (by omega)
  have kk : EachIs (fun v (b : V × PyData) => (dataKind h1 ds).keyOf v = some (keyToks b.2)) its (xs.zip ds) := by
    refine EachIs.of_zip e2.length fun p hp => ?_
    obtain ⟨_, _, as, z⟩ := e2.zip p hp
    have m2 : p.2 ∈ xs.zip ds := (List.of_mem_zip hp).2
    exact dataKind_some hal (List.of_mem_zip m2).2 z
  have out := sortVals_each (κ := dataKind h1 ds) (rev := false) (fun b : V × PyData => keyToks b.2) e2 kk
  obtain ⟨v1, v2⟩ := each_vals (R := fun v d => ∃ as, Reads h1 v d as) out
  have em : ((xs.zip ds).mergeSort (sortLe (dataKind h1 ds).toKeyOrd false fun b : V × PyData => keyToks b.2)).map (·.2) = ds.mergeSort dle := by
    have := sort_maps (r := sortLe (dataKind h1 ds).toKeyOrd false fun b : V × PyData => keyToks b.2) (s := dle) (fun b : V × PyData => b.2) (l := xs.zip ds) (fun _ _ _ _ => rfl)
    rw [z1] at this
    exact this
  rw [em] at v2
  have ol : (sortVals (dataKind h1 ds) false its its).length = its.length := sortVals_length false rfl
  generalize sortVals (dataKind h1 ds) false its its = res at v1 ol
  obtain ⟨n, hn⟩ := sortedAll_at s.heap its res.toArray
  obtain ⟨ys, v1, v2⟩ : ∃ ys : List V, Vals ys res ∧ DpAll X.K H ys (ds.mergeSort dle) := ⟨_, v1, v2⟩
  refine ⟨.ref (s.heap.objs.size + 1), upd H (s.heap.objs.size + 1) (.lst ys), I.laid (t' := s.toks) (fun b o e => sortedAll_old e) (Nat.le_succ _) ⟨?_, res, n, v1, hn⟩, rfl, q _ _ v2 (I.hok.fresh (Nat.le_succ _))⟩
  rw [v1.length, ol, ← rv.length]
  exact hz
end SoD
namespace CC
open PySem L2 TL
/-- table == table -/
def spTEq (K : PySem.W.Frag) (C : Addr) : Sp := fun vs H Q _ => ∃ (x y : Addr) (w v : Nat) (rs ts : List (List Nat)), vs = [.ref x, .ref y] ∧ TableAt K C H x w rs ∧ TableAt K C H y v ts ∧ 1 ≤ w ∧ (∀ r ∈ rs, RowOk w r) ∧ (∀ r ∈ ts, RowOk v r) ∧
  ∀ (b : Bool) (H' : Hp), Same H H' → (b = true ↔ w = v ∧ rs.Perm ts) → Q (.bl b) H'
/-! ### sorted rows -/
def ungd : PyData → List Nat
  | .tuple ds => ds.map fun | .int i => i.toNat | _ => 0
  | _ => []
theorem ungd_gd (m : List Nat) : ungd (gd m) = m := by
  unfold gd ungd
  simp only [List.map_map]
  exact (List.map_congr_left fun x _ => by simp).trans (List.map_id m)
theorem dle_gd (m l : List Nat) : SoD.dle (gd m) (gd l) = !decide (l.map (fun (n : Nat) => (n : Int)) < m.map (fun (n : Nat) => (n : Int))) := by
  rw [← PySem.W.dataLt_ints]
  show (!PySem.W.dataLt (gd l) (gd m)) = _
  unfold gd
  rw [List.map_map, List.map_map]
  rfl
theorem map_nat_inj {m l : List Nat} (h : m.map (fun (n : Nat) => (n : Int)) = l.map (fun (n : Nat) => (n : Int))) : m = l := by
  have := congrArg (List.map Int.toNat) h
  rw [List.map_map, List.map_map, show (Int.toNat ∘ fun (n : Nat) => (n : Int)) = id from funext fun n => Int.toNat_natCast n, List.map_id, List.map_id] at this
  exact this
theorem dle_anti {m l : List Nat} (h1 : SoD.dle (gd m) (gd l) = true) (h2 : SoD.dle (gd l) (gd m) = true) : m = l := by
  rw [dle_gd] at h1 h2
  simp only [Bool.not_eq_true', decide_eq_false_iff_not] at h1 h2
  exact map_nat_inj (List.le_antisymm (List.not_lt.mp h1) (List.not_lt.mp h2))
theorem rows_sort (rs ts : List (List Nat)) : (rs.map gd).mergeSort SoD.dle = (ts.map gd).mergeSort SoD.dle ↔ rs.Perm ts := by
  have tot : PySem.W.TotalLe SoD.dle := PySem.W.sortLe_total (PyProof.Rows.listOrd PyProof.Rows.itemOrd) false fun b : PyData => PySem.W.keyToks b
  constructor
  · intro h
    have p : (rs.map gd).Perm (ts.map gd) := ((List.mergeSort_perm (rs.map gd) SoD.dle).symm.trans (by rw [h])).trans (List.mergeSort_perm (ts.map gd) SoD.dle)
    have q := p.map ungd
    rw [List.map_map, List.map_map, show ungd ∘ gd = id from funext ungd_gd, List.map_id, List.map_id] at q
    exact q
  · intro h
    have pm : ((rs.map gd).mergeSort SoD.dle).Perm ((ts.map gd).mergeSort SoD.dle) := (List.mergeSort_perm _ _).trans ((h.map gd).trans (List.mergeSort_perm _ _).symm)
    refine List.Perm.eq_of_pairwise (le := fun a b => SoD.dle a b = true) (fun a b ha hb h1 h2 => ?_) (PySem.W.sort_pairwise tot _) (PySem.W.sort_pairwise tot _) pm
    obtain ⟨m, _, rfl⟩ := List.mem_map.mp ((List.mergeSort_perm _ _).mem_iff.mp ha)
    obtain ⟨l, _, rfl⟩ := List.mem_map.mp ((List.mergeSort_perm _ _).mem_iff.mp hb)
    rw [dle_anti h1 h2]
/-- sorted rows are rows -/
theorem sort_gd (rs : List (List Nat)) : ∃ L : List (List Nat), (rs.map gd).mergeSort SoD.dle = L.map gd := by
  refine ⟨((rs.map gd).mergeSort SoD.dle).map ungd, ?_⟩
  rw [List.map_map]
  refine (List.map_id _).symm.trans (List.map_congr_left fun d hd => ?_)
  obtain ⟨m, _, rfl⟩ := List.mem_map.mp ((List.mergeSort_perm _ _).mem_iff.mp hd)
  show gd m = gd (ungd (gd m))
  rw [ungd_gd]
theorem gdl_eqv : ∀ A B : List (List Nat), PyData.eqvAll (A.map gd) (B.map gd) = decide (A = B)
  | [], [] => by simp [PyData.eqvAll]
  | [], _ :: _ => by simp [PyData.eqvAll]
  | _ :: _, [] => by simp [PyData.eqvAll]
  | a :: A, b :: B => by
    simp only [List.map_cons, PyData.eqvAll, RW.gd_eqv, gdl_eqv A B]
    by_cases h1 : a = b <;> by_cases h2 : A = B <;> simp [h1, h2]
theorem nums_alike : ∀ m l : List Nat, PySem.W.alikeAll (m.map fun (n : Nat) => PyData.int (n : Int)) (l.map fun (n : Nat) => PyData.int (n : Int)) = true
  | [], _ => by simp [PySem.W.alikeAll]
  | _ :: _, [] => by simp [PySem.W.alikeAll]
  | a :: m, b :: l => by simp [PySem.W.alikeAll, PySem.W.alike, nums_alike m l]
theorem gds_alike (L : List (List Nat)) : PySem.W.AllAlike (L.map gd) := by
  intro d hd d' hd'
  obtain ⟨m, _, rfl⟩ := List.mem_map.mp hd
  obtain ⟨l, _, rfl⟩ := List.mem_map.mp hd'
  exact nums_alike m l
theorem gds_sortable {w : Nat} {L : List (List Nat)} (w1 : 1 ≤ w) (ok : ∀ r ∈ L, RowOk w r) : PySem.W.Sortable (L.map gd) := .inl fun d hd => by
  obtain ⟨m, hm, rfl⟩ := List.mem_map.mp hd
  have := (ok m hm).1
  cases m with
  | nil => simp at this; omega
  | cons a m => exact ⟨_, _, rfl⟩
theorem gds_dep (L : List (List Nat)) : ∀ d ∈ L.map gd, d.depth ≤ 60 := fun d hd => by
  obtain ⟨m, _, rfl⟩ := List.mem_map.mp hd
  have := (RW.nums_lay m).2
  show PyData.depthAll _ + 1 ≤ 60
  omega
section
variable {P : Program} {w : World} {K : PySem.W.Frag} {mg : Str → Option Value} {base : Heap} {kA : Addr}
theorem scTEq : FnScope ["self", "other"] ["self", "other"] (defScope sTEq) := ⟨rfl, rfl, rfl, by decide +kernel, rfl, by decide +kernel, by decide +kernel⟩
theorem ok_teq {f C : Addr} {fd : FuncData} {k : Nat} (F : Fun K "__eq__" "Table.__eq__" sTEq f fd) (T : Glb K mg kA) (TC : TxtT K mg C) (ic : C8.InsC K C) : FnOk P w K mg base CX0 (k + 1) f fd ["self", "other"] (spTEq K C) := by
  refine F.ok scTEq (fun vs H Q E h => ?_) (fun cdv A outer s H vs Q E hr h => ?_)
  · obtain ⟨x, y, m, v, rs, ts, rfl, _⟩ := h
    rfl
  · obtain ⟨x, y, m, v, rs, ts, rfl, ⟨dx, g, us, h1, h2, h3⟩, ⟨dy, g', us', t1, t2, t3⟩, w1, ho, ho', q⟩ := h
    have hu64 : (A.deeper (PyProof.Rows.envOfC (Str.ofString "Table.__eq__") (defScope sTEq) s.heap.objs.size f cdv)).units + 64 < cLine := by
      have := hr.un
      omega
    refine ⟨_, (pss_cons (ps_if (PW.pt (pw_or (pt_not (pt_val (pe_callB (C8.call_isC ic) (by rfl) T.isi (by decide +kernel) (pa_cons (pv 1) (pa_cons (pe_glob (v := .ref C) rfl TC.mgC rfl) pa_nil))))) (pw_or1 (pt_cmpR op_ne (pe_fld (pv 0) rfl) (pe_fld (pv 1) rfl) (nomark _))))) (pss_one (ps_ret pe_bl)) pss_nil)
      (pss_one (ps_ret (pe_cmpR (op_eqD hu64) (pe_callB (SoD.cr_sortedTD hu64) (by rfl) T.srt (by decide +kernel) (pa_cons (pe_fld (pv 0) rfl) pa_nil)) (pe_callB (SoD.cr_sortedTD hu64) (by rfl) T.srt (by decide +kernel) (pa_cons (pe_fld (pv 1) rfl) pa_nil)) (nomark _))))), ?_⟩
    refine ⟨_, rfl, y, dy, _, rfl, t1, _, rfl, iteF ?_⟩
    refine ⟨_, rfl, x, C, dx, _, _, rfl, h1, TC.cl, TC.nS, fldT_span _ _, _, rfl, y, C, dy, _, _, rfl, t1, TC.cl, TC.nS, fldT_span _ _, rfl, _, rfl, ?_⟩
    by_cases e : m = v
    · refine iteF' (by rw [e, decide_eq_true rfl]; rfl) ?_
      subst e
      refine ⟨_, rfl, x, C, dx, _, _, rfl, h1, TC.cl, TC.nL, fldT_lines _ _, g, us, rs.map gd, rfl, .inl (.inl h2), h3, gds_alike rs, gds_sortable w1 ho, gds_dep rs, fun ys p dy1 np => ?_⟩
      have s1 : Same H (upd H p (.lst ys)) := same_new np
      have hp : (upd H p (.lst ys)) p = some (.lst ys) := upd_same
      have dy2 := dps_same s1 _ _ dy1
      generalize upd H p (.lst ys) = H1 at s1 hp dy2
      refine ⟨_, rfl, y, C, dy, _, _, rfl, s1 _ _ t1, TC.cl, TC.nL, fldT_lines _ _, g', us', ts.map gd, rfl, .inl (.inl (s1 _ _ t2)), dps_same s1 _ _ t3, gds_alike ts, gds_sortable w1 ho', gds_dep ts, fun zs p2 dz1 np2 => ?_⟩
      have s2 : Same H1 (upd H1 p2 (.lst zs)) := same_new np2
      have key := rows_sort rs ts
      obtain ⟨L1, e1⟩ := sort_gd rs
      obtain ⟨L2, e2⟩ := sort_gd ts
      rw [e1] at dy2 key
      rw [e2] at dz1 key
      refine ⟨.list (L1.map gd), .list (L2.map gd), .lst (SqL.of (s2 _ _ hp)) (dps_same s2 _ _ dy2), .lst (SqL.of upd_same) (dps_same s2 _ _ dz1), RW.gdl_shp _, RW.gdl_shp _, ?_⟩
      refine q _ _ (s1.trans s2) ?_
      show PyData.eqvAll (L1.map gd) (L2.map gd) = true ↔ _
      rw [gdl_eqv, decide_eq_true_iff, ← key]
      constructor
      · intro z
        exact ⟨rfl, by rw [z]⟩
      · intro z
        have z2 := congrArg (List.map ungd) z.2
        rw [List.map_map, List.map_map, show ungd ∘ gd = id from funext ungd_gd, List.map_id, List.map_id] at z2
        exact z2
    · refine iteT' (by rw [decide_eq_false (fun z => e (by injection z with z; omega))]; rfl) ?_
      exact q false H (Same.refl _) ⟨(fun z => nomatch z), fun z => absurd z.1 e⟩
end
end CC
namespace CC
open PySem L2 TL LamX PyProof.Rows
abbrev qLaw : Str := (envOfC "law" (defScope sLaw) 0 0 .none).qual ++ "<lambda>"
abbrev a0 : Arguments := { posonlyargs := [], args := [], vararg := none, kwonlyargs := [], kw_defaults := [], kwarg := none, defaults := [] }
abbrev scA : Scope := { kind := .function, names := [("_law_log", .free), ("_law_row_here", .free)], isGenerator := false, isCoroutine := false, more := [] }
abbrev scB : Scope := { kind := .function, names := [("_law_row_here", .free), ("_law_turned", .free)], isGenerator := false, isCoroutine := false, more := [] }
def spLaw (K : PySem.W.Frag) (Ts : List (Addr × Str)) : Sp := fun vs H Q _ => ∃ (a : Addr) (ns : List Int), vs = [.ref a] ∧ SqL K H a (ns.map V.int) ∧ ns.length ≤ 63 ∧ Tabs Ts H ∧ ∀ H', Q (.bl true) H'
structure EqT (P : Program) (w : World) (K : PySem.W.Frag) (mg : Str → Option Value) (base : Heap) (C : Addr) (sp : Sp) (l : Nat) where
  f : Addr
  fi : PySem.W.findIn K (.ref C) "__eq__" = some (some (.ref f))
  fn : PySem.W.isFn K (.ref f) = true
  ne : PySem.W.findIn K (.ref C) "__ne__" = some (some (.builtin "object.__ne__"))
  mo : PySem.W.mroIn K C (.type "object") = some true
  ok : ∀ k, l ≤ k → FnR P w K mg base CX0 k f sp
def rLstOf (K : PySem.W.Frag) : List V → Hp → VK → Prop := fun xs H Q => ∃ p ys, xs = [.ref p] ∧ (SqL K H p ys ∨ SqT K H p ys) ∧ ∀ l, H l = none → Q (.ref l) (upd H l (.lst ys))
theorem call_lstOf {X : Cx} : CallR X (.type "list") (rLstOf X.K) := call_list_of
theorem eqv_rls (ms : List R) : (!PyData.eqv (.tuple (ms.map R.d)) (.tuple (ms.map R.d))) = false := by
  have : ∀ ms : List R, PyData.eqvAll (ms.map R.d) (ms.map R.d) = true := fun ms => by
    induction ms with
    | nil => rfl
    | cons m ms ih => simp only [List.map_cons, PyData.eqvAll, rd_eqv, ih, decide_true, Bool.and_self]
  simp only [PyData.eqv, this, Bool.not_true]
theorem sqt_ext {K : PySem.W.Frag} {H H' : Hp} {a : Addr} {xs : List V} (e : ExtN H H') (h : SqT K H a xs) : SqT K H' a xs := by
  rcases h with (h | ⟨o, h⟩) | h
  · exact .inl (.inl (e _ _ h (by intro ps z; cases z)))
  · exact .inl (.inr ⟨o, e _ _ h (by intro ps z; cases z)⟩)
  · exact .inr h
theorem dps_rev {K : PySem.W.Frag} {H : Hp} : ∀ {us : List V} {ds : List PyData}, DpAll K H us ds → DpAll K H us.reverse ds.reverse
  | _, _, .nil => .nil
  | _, _, .cons a b => by
    rw [List.reverse_cons, List.reverse_cons]
    exact dps_app (dps_rev b) (dps_one a)
section
variable {P : Program} {w : World} {K : PySem.W.Frag} {mg : Str → Option Value} {base : Heap} {kA : Addr}
abbrev nLw : List Str := ["_law_script", "_law_k", "_law_source_here", "_law_kind", "_law_many", "_law_cap", "_law_given_here", "_law_log", "_law_turned", "_law_turn", "_law_row_here", "_law_told"]
theorem scLaw : FnScope nLw ["_law_script"] (defScope sLaw) := ⟨rfl, rfl, rfl, by decide +kernel, rfl, by decide +kernel, by decide +kernel⟩
theorem ok_law {k : Nat} {f c Pt CR CT CE c1 c5 c7 : Addr} {C9 : Nat → Addr} {NR : NoR} {fd : FuncData} {Ts : List (Addr × Str)} (F : GD.FunC K "law" "law" sLaw f fd c) (tb : TabB base mg c Pt) (hmT : (Pt, qLaw) ∈ Ts) (hu : ∀ p ∈ Ts, p.1 = Pt → p.2 = qLaw) (T : Glb K mg kA) (TR : Txt1 K mg CR) (TT : TxtT K mg CT) (gE : mg "ColumnError" = some (.ref CE)) (x9 : Ex9 K mg C9) (e5 : c5 = C9 5) (e7 : c7 = C9 7) (ne57 : C9 7 ≠ C9 5)
    (LC : ∀ kd, LogC P w K mg base CR CT c1 c5 c7 NR 14 kd) (rd : ReadR P w K mg base CR 6) (pTR : Prp P w K mg base CT "rows" "lines") (eq : EqT P w K mg base CT (spTEq K CT) 1) (sd : Df K mg "_law_said" sSaid ["_law_call"])
    (cS : Cal P w K mg base "_law_source" ["_law_cell_here"] spSource 1) (cK : Cal P w K mg base "_law_cell" ["_law_script", "_law_index"] (spCell K) 1) (cD : Cal P w K mg base "_law_draw" ["_law_source_here", "_law_many"] spDraw2 1) (cV : Cal P w K mg base "_law_given" ["_law_source_here", "_law_many", "_law_size"] (spGv K) 3) (cW : Cal P w K mg base "_law_words" ["_law_given_here"] (spWd K) 1) (cY : Cal P w K mg base "_law_row" ["_law_source_here", "_law_many", "_law_listed"] (spRwl K) 3)
    (cM : Cal P w K mg base "_law_made" ["_law_kind", "_law_asked", "_law_cap"] (spMdl K (fun kd => (LC kd).C) CR CT) 10) (cQ : Cal P w K mg base "_law_is_told_right" ["_law_log", "_law_kind"] (spTrt K (fun kd => (LC kd).C) CR CT) 7) : GD.FnG P w K mg base CX0 (k + 18) f fd ["_law_script"] (spLaw K Ts) := by
  have GS := cS.ok (k + 17) (by omega)
  have GK := cK.ok (k + 17) (by omega)
  have GDr := cD.ok (k + 17) (by omega)
  have GV := cV.ok (k + 17) (by omega)
  have GW := cW.ok (k + 17) (by omega)
  have GY := cY.ok (k + 17) (by omega)
  have GM := cM.ok (k + 17) (by omega)
  have GQ := cQ.ok (k + 17) (by omega)
  have GR := rd.ok (k + 17) (by omega)
  have GQ1 := eq.ok (k + 16) (by omega)
  obtain ⟨sg, sfd, sF, sb, smg⟩ := sd
  have skp := sF.kp
  obtain ⟨oc, od, kV, doc, pm, an, scd, ct, osl, rfl, slk, shcd⟩ := sF.ex
  refine GD.fun_okGC F scLaw (fun vs H Q E h => ?_) (fun A outer s H vs Q E calm hr h => ?_)
  · obtain ⟨a, ns, rfl, _⟩ := h
    rfl
  · obtain ⟨a, ns, rfl, ha, hl, tabs, q⟩ := h
    have n := scLaw.nd
    have hu64 : (A.deeper (PyProof.Rows.envOfC (Str.ofString "law") (defScope sLaw) s.heap.objs.size f (.ref c))).units + 64 < cLine := by
      have := hr.un
      omega
    have LA : ∀ (pn : List (Addr × Obj)) (xe : Value → Shared → Prop) (p1 p2 p4 p6 p7 : Pos), PE ((cxOf CX0 P w K mg base nLw "law" (defScope sLaw) f (.ref c) A outer s H E).nox.tr pn xe) (.Call (.Name "_law_said" p1) [.Lambda a0 (.Call (.Attribute (.Name "_law_log" p2) "add" ⟨588, 50, 588, 62⟩) [.Name "_law_row_here" p4] [] ⟨588, 50, 588, 77⟩) scA p6] [] p7) (tLam Ts (TS9 C9) (fun E => fun σ H Q => ∃ kd, tMeth (LC kd).C "add" (spAddM K (LC kd).C CR CT (lbOf kd) (ckOf c5 c7 kd) NR c1) [] E (tVar 7) (tCons (tVar 10) tNil) σ H Q)) := fun pn xe p1 p2 p4 p6 p7 =>
      pe_lamcall (k := k + 15) rfl smg skp slk shcd sb scSaid rfl (.inl rfl) (said_gives x9) tb rfl hmT hu hr (lamS_by (sc := defScope sLaw) (by decide +kernel)) rfl (fun _ _ _ _ _ => rfl) (fun A outer s H E f c' hr => pe_ex fun kd => pe_meth (pv 7) (LC kd).TM.cl (LC kd).add.m ((LC kd).add.ok (k + 15) (by omega)) hr (LC kd).add.b .nil (passes_call takes_lam (fun _ _ _ _ h => h)) (pa_cons (pv 10) pa_nil))
    have LB : ∀ (pn : List (Addr × Obj)) (xe : Value → Shared → Prop) (p1 p2 p4 p5 p6 p7 : Pos), PE ((cxOf CX0 P w K mg base nLw "law" (defScope sLaw) f (.ref c) A outer s H E).nox.tr pn xe) (.Call (.Name "_law_said" p1) [.Lambda a0 (.Call (.Name "_law_turned" p2) [.Name "_law_row_here" p4] [] p5) scB p6] [] p7) (tLam Ts (TS9 C9) (fun E => fun σ H Q => ∃ kd, tCallO2 (LC kd).C (spAddM K (LC kd).C CR CT (lbOf kd) (ckOf c5 c7 kd) NR c1) E (tVar 8) (tCons (tVar 10) tNil) σ H Q)) := fun pn xe p1 p2 p4 p5 p6 p7 =>
      pe_lamcall (k := k + 15) rfl smg skp slk shcd sb scSaid rfl (.inl rfl) (said_gives x9) tb rfl hmT hu hr (lamS_by (sc := defScope sLaw) (by decide +kernel)) rfl (fun _ _ _ _ _ => rfl) (fun A outer s H E f c' hr => pe_ex fun kd => pe_callO2 (pv 8) (LC kd).cC ((LC kd).call (k + 15) (by omega)) hr (passes_call takes_lam (fun _ _ _ _ h => h)) (pa_cons (pv 10) pa_nil))
    refine ⟨_, (pss_one (ps_try_only rfl rfl ⟨rfl, by decide, .inl gE⟩ LamX.takes0 (fun W pn xe tk po => (pss_cons (ps_for po rfl (pi_range1 (by rfl) T.rng (pa_cons (pe_callB (call_max2 rfl) (by rfl) T.max (by decide +kernel) (pa_cons pe_int (pa_cons (pe_callB (call_min2 rfl) (by rfl) T.min (by decide +kernel) (pa_cons (pe_callB (r := rLenSq K) call_lenSq (by rfl) T.len PySem.boot_len (pa_cons (pv 0) pa_nil)) (pa_cons pe_int pa_nil))) pa_nil))) pa_nil)) (pg_name (i := 1) n rfl (.inl rfl))
      (pss_cons (ps_set (i := 2) n rfl (.inl rfl) (pe_call GS hr rfl cS.g cS.kp cS.b .nil pass0 (pa_cons (pe_call GK hr rfl cK.g cK.kp cK.b .nil pass0 (pa_cons (pv 0) (pa_cons (pv 1) pa_nil))) pa_nil)))
      (pss_one (ps_for po rfl (pi_range1 (by rfl) T.rng (pa_cons pe_int pa_nil)) (pg_name (i := 3) n rfl (.inl rfl))
      (pss_cons (ps_par (i := 4) (j := 5) rfl n rfl rfl (by decide) rfl rfl (pa_cons (pe_op op_add pe_int (pe_call GDr hr rfl cD.g cD.kp cD.b .nil pass0 (pa_cons (pv 2) (pa_cons pe_int pa_nil)))) (pa_cons (pe_op op_add pe_int (pe_call GDr hr rfl cD.g cD.kp cD.b .nil pass0 (pa_cons (pv 2) (pa_cons pe_int pa_nil)))) pa_nil)) (by rfl))
      (pss_cons (ps_set (i := 6) n rfl (.inl rfl) (pe_call GV hr rfl cV.g cV.kp cV.b .nil pass0 (pa_cons (pv 2) (pa_cons (pv 4) (pa_cons (pe_call GDr hr rfl cD.g cD.kp cD.b .nil pass0 (pa_cons (pv 2) (pa_cons pe_int pa_nil))) pa_nil)))))
      (pss_cons (ps_set (i := 7) n rfl (.inr rfl) (pe_call GM hr rfl cM.g cM.kp cM.b .nil pass0 (pa_cons (pv 3) (pa_cons (ClX.pe_cmeth (pe_glob (v := .ref CR) rfl TR.mgC rfl) rd.rD rd.cD GR hr pass0 (pa_cons (pv 4) (pa_cons (pe_call GW hr rfl cW.g cW.kp cW.b .nil pass0 (pa_cons (pv 6) pa_nil)) pa_nil))) (pa_cons (pv 5) pa_nil)))))
      (pss_cons (ps_set (i := 8) n rfl (.inr rfl) (pe_call GM hr rfl cM.g cM.kp cM.b .nil pass0 (pa_cons (pv 3) (pa_cons (ClX.pe_cmeth (pe_glob (v := .ref CR) rfl TR.mgC rfl) rd.rD rd.cD GR hr pass0 (pa_cons (pv 4) (pa_cons (pe_call GW hr rfl cW.g cW.kp cW.b .nil pass0 (pa_cons (show PE _ _ (tRevT K (tVar 6)) from pe_revT (pv 6)) pa_nil)) pa_nil))) (pa_cons (pv 5) pa_nil)))))
      (pss_one (ps_for po rfl (pi_range1 (by rfl) T.rng (pa_cons pe_int pa_nil)) (pg_name (i := 9) n rfl (.inl rfl))
      (pss_cons (ps_set (i := 10) n rfl (.inr rfl) (pe_call GY hr rfl cY.g cY.kp cY.b .nil pass0 (pa_cons (pv 2) (pa_cons (pv 4) (pa_cons (pe_callTy (r := rLstOf K) call_lstOf (by rfl) T.lst (by decide +kernel) (pa_cons (pe_prop (pe_ex fun kd => pe_prop (pv 7) (LC kd).TM.cl (LC kd).pT.hp ((LC kd).pT.ok (k + 16) (by omega)) hr (LC kd).pT.b .nil pass0 rfl) TT.cl pTR.hp (pTR.ok (k + 16) (by omega)) hr pTR.b .nil pass0 rfl) pa_nil)) pa_nil)))))
      (pss_cons (ps_set (i := 11) n rfl (.inl rfl) (LA pn xe _ _ _ _ _))
      (pss_cons (ps_if (PW.pt (pw_or (pt_cmpR (r := rNeD K) (op_neD hu64) (LB pn xe _ _ _ _ _ _) (pv 11) (nomark _)) (pw_or1 (pt_cmpR (OC.op_neO eq.fi eq.fn eq.ne eq.mo GQ1 hr pass0) (pe_ex fun kd => pe_prop (pv 7) (LC kd).TM.cl (LC kd).pT.hp ((LC kd).pT.ok (k + 16) (by omega)) hr (LC kd).pT.b .nil pass0 rfl) (pe_ex fun kd => pe_prop (pv 8) (LC kd).TM.cl (LC kd).pT.hp ((LC kd).pT.ok (k + 16) (by omega)) hr (LC kd).pT.b .nil pass0 rfl) (nomark _))))) (pss_one (ps_ret pe_bl)) pss_nil)
      (pss_one (ps_if (PW.pt (pw_or (pt_not (pt_val (pe_call GQ hr rfl cQ.g cQ.kp cQ.b .nil pass0 (pa_cons (pv 7) (pa_cons (pv 3) pa_nil))))) (pw_or1 (pt_cmpR (r := rNeD K) (op_neD hu64) (pe_ex fun kd => pe_prop (pv 8) (LC kd).TM.cl (LC kd).pB.hp ((LC kd).pB.ok (k + 16) (by omega)) hr (LC kd).pB.b .nil pass0 rfl) (show PE _ _ (tRevT K (fun σ H Q => ∃ kd, tProp (LC kd).C (spBrP K (LC kd).C CR CT) [] E0 (tVar 7) σ H Q)) from pe_revT (pe_ex fun kd => pe_prop (pv 7) (LC kd).TM.cl (LC kd).pB.hp ((LC kd).pB.ok (k + 16) (by omega)) hr (LC kd).pB.b .nil pass0 rfl)) (nomark _))))) (pss_one (ps_ret pe_bl)) pss_nil)))))))))))))))
      (pss_one (ps_ret pe_bl)))) (fun a oe cls d pn _ _ => (pss_one (ps_ret pe_bl))))), ?_⟩
    refine ⟨_, rfl, a, _, rfl, .inl ha, _, _, rfl, _, _, rfl, _, rfl, ?_, ?_, ?_⟩
    · split <;> split <;> omega
    · rw [List.length_map]
      split <;> split <;> omega
    generalize (if (if (3 : Int) < (((ns.map V.int).length : Nat) : Int) then (3 : Int) else (((ns.map V.int).length : Nat) : Int)) > 1 then (if (3 : Int) < (((ns.map V.int).length : Nat) : Int) then (3 : Int) else (((ns.map V.int).length : Nat) : Int)) else (1 : Int)) = top
    refine for_range (lo := 0) (n := top.toNat) (fun i σ H1 => ∃ y1 y2 y3 y4 y5 y6 y7 y8 y9 y10 y11, σ = [some (.ref a), y1, y2, y3, y4, y5, y6, y7, y8, y9, y10, y11] ∧ SqL K H1 a (ns.map V.int) ∧ Tabs Ts H1) ⟨none, none, none, none, none, none, none, none, none, none, none, rfl, ha, tabs⟩ ?_ ?_
    · rintro i σ H1 hi ⟨y1, y2, y3, y4, y5, y6, y7, y8, y9, y10, y11, rfl, ha1, tabs1⟩
      refine ⟨_, rfl, _, rfl, a, ns, i, by rw [Int.zero_add]; rfl, ha1, fun z => ?_⟩
      refine ⟨z, rfl, fun p o np ho => ?_⟩
      have W2' : W3 K Ts (upd H1 p o) a p ns := ⟨same_l (new_view' np) ha1, ⟨o, upd_same, ho⟩, tabs1.ext (same_new np)⟩
      generalize upd H1 p o = H2 at W2'
      refine ⟨_, rfl, by decide, by decide, ?_⟩
      refine for_range (lo := 0) (n := ((4 : Int)).toNat) (fun j σ H3 => ∃ y1 y3 y4 y5 y6 y7 y8 y9 y10 y11, σ = [some (.ref a), y1, some (.ref p), y3, y4, y5, y6, y7, y8, y9, y10, y11] ∧ W3 K Ts H3 a p ns) ⟨_, _, _, _, _, _, _, _, _, _, rfl, W2'⟩ ?_ ?_
      · rintro kd σ H3 hkd ⟨y1, y3, y4, y5, y6, y7, y8, y9, y10, y11, rfl, W3'⟩
        have k4 : kd < 4 := by have : kd < (4 : Int).toNat := hkd; omega
        refine ⟨_, rfl, p, 4, rfl, W3'.src, by decide, by decide, fun d H4 hd r4 => ⟨_, _, rfl, rfl, ?_⟩⟩
        refine ⟨_, rfl, p, 7, rfl, r4.src, by decide, by decide, fun e H5 he r5 => ⟨_, _, rfl, rfl, _, _, rfl, ?_⟩⟩
        dsimp only
        rw [show (2 + (d : Int)) = ((d + 2 : Nat) : Int) by omega, show (2 + (e : Int)) = ((e + 2 : Nat) : Int) by omega, Int.zero_add]
        obtain ⟨m, em⟩ : ∃ m, m = d + 2 := ⟨_, rfl⟩
        obtain ⟨cap, ec⟩ : ∃ c, c = e + 2 := ⟨_, rfl⟩
        rw [← em, ← ec]
        have m2 : 2 ≤ m := by omega
        have m1 : 1 ≤ m := by omega
        have m6 : m ≤ 6 := by omega
        have cap4 : cap ≤ 400 := by omega
        have W5' := (W3'.run r4).run r5
        refine ⟨_, rfl, _, rfl, _, rfl, p, 9, rfl, W5'.src, by decide, by decide, fun e2 H6 he2 r6 => ?_⟩
        refine ⟨p, m, e2, rfl, r6.src, m1, m6, by omega, fun g ug rs H7 r7 ng gp hg dg rok nd le => ?_⟩
        have W7' := (W5'.run r6).run r7
        have rok6 : ∀ r ∈ rs, r.ok 6 := fun r hr => (rok r hr).up m6
        have rokr : ∀ r ∈ rs.reverse, r.ok m := fun r hr => rok r (List.mem_reverse.mp hr)
        refine ⟨_, rfl, rfl, _, rfl, _, rfl, g, ug, rs, rfl, .inl (.inl hg), dg, rok6, by omega, fun H8 s8 => ⟨m, rs, rfl, m1, m6, rok, nd, fun r1 H9 s9 nra Ra => ?_⟩⟩
        refine ⟨_, rfl, kd, r1, cap, m, rs, rfl, k4, cap4, Ra, m1, m6, fun x1 q1 H10 s10 nx1 nq1 L1 => ?_⟩
        have s710 := (s8.trans s9).trans s10
        refine ⟨_, rfl, rfl, _, rfl, _, rfl, g, ug, rfl, .inl (.inl (s710 _ _ hg)), fun gz ngz => ?_⟩
        have s11 : Same H10 (upd H10 gz (.tup ug.reverse)) := same_new ngz
        have hgz : (upd H10 gz (.tup ug.reverse)) gz = some (.tup ug.reverse) := upd_same
        generalize upd H10 gz (.tup ug.reverse) = H11 at s11 hgz
        refine ⟨gz, ug.reverse, rs.reverse, rfl, .inl (.inl hgz), (by rw [List.map_reverse]; exact dps_rev (dps_same (s710.trans s11) _ _ dg)), (fun r hr => rok6 r (List.mem_reverse.mp hr)), by rw [List.length_reverse]; omega, fun H12 s12 => ⟨m, rs.reverse, rfl, m1, m6, rokr, (List.reverse_perm rs).nodup_iff.mpr nd, fun r2 H13 s13 nrb Rb => ?_⟩⟩
        refine ⟨_, rfl, kd, r2, cap, m, rs.reverse, rfl, k4, cap4, Rb, m1, m6, fun x2 q2 H14 s14 nx2 nq2 L2 => ?_⟩
        have s1013 := (s11.trans s12).trans s13
        have hlb := lmOf_lb kd cap
        generalize lmOf kd cap = lm at L1 L2 hlb
        have W14 := W2.mk' (W7'.grow (s8.trans s9)) s10 nx1 nq1 L1 (s1013.free nx2) (s1013.free nq2) (s1013.trans s14) L2
        clear L1 L2 s14 s1013 s13 s12 s11 hgz s710 s10 nx1 nq1 nx2 nq2 Rb Ra s9 s8 nra nrb W7' W5' r7 r6 r5 r4 hg dg
        refine ⟨_, rfl, by decide, by decide, ?_⟩
        refine for_range (lo := 0) (n := ((8 : Int)).toNat) (fun t σ H' => ∃ y9 y10 y11 rows ps1 ps2, σ = [some (.ref a), y1, some (.ref p), some (.int (kd : Int)), some (.int (m : Int)), some (.int (cap : Int)), some (.ref g), some (.ref x1), some (.ref x2), y9, y10, y11] ∧ W2 K Ts (LC kd).C CR CT lm H' a p x1 r1 q1 x2 r2 q2 ns m rs rs.reverse rows rows ps1 ps2 ∧ (∀ s ∈ rows, RowOk m s) ∧ rows.length ≤ t ∧ ps1.length ≤ t ∧ ps2.length ≤ t ∧ (kd % 2 = 1 → (brkL rows rs).any (·.k) = false)) ⟨_, _, _, [], [], [], rfl, W14, (fun s hs => nomatch hs), Nat.le_refl _, Nat.le_refl _, Nat.le_refl _, (fun _ => by rw [brkL_nil]; rfl)⟩ ?_ ?_
        · rintro t σ H15 ht ⟨y9, y10, y11, rows, ps1, ps2, rfl, W15, okr, lr, lp1, lp2, str⟩
          have t8 : t < 8 := by have : t < (8 : Int).toNat := ht; omega
          obtain ⟨dx1, tt1, hx1, tab1⟩ := id W15.l1.at_
          obtain ⟨dt, gt, ut, t1, t2, t3⟩ := tab1.same (wos_le _)
          refine ⟨_, rfl, _, rfl, kd, _, rfl, x1, dx1, _, rfl, hx1, x1, dx1, _, _, rfl, hx1, fldM_h _ _ _ _, tt1, dt, _, rfl, t1, tt1, dt, _, _, rfl, t1, fldT_lines _ _, gt, ut, rfl, .inr (.inl (.inl t2)), fun l nl => ?_⟩
          have s16 : Same H15 (upd H15 l (.lst ut)) := same_new nl
          have hl16 : (upd H15 l (.lst ut)) l = some (.lst ut) := upd_same
          have W16 := W15.grow s16
          generalize upd H15 l (.lst ut) = H16 at s16 hl16 W16
          have lp : l ≠ p := by
            obtain ⟨o, hp, _⟩ := W15.src
            exact (ne_of_none hp nl).symm
          refine ⟨p, l, m, ut, rows, rfl, W16.src, m2, m6, SqL.of (by rw [wo_ne lp]; exact hl16), dps_same s16 _ _ t3, okr, by omega, fun tr row H17 r17 htr rowok => ?_⟩
          have W17 := W16.run r17
          refine ⟨W17.tab, fun H18 x18 tb18 => ?_⟩
          have W18 := W17.ext x18 tb18
          have htr18 := sqt_ext x18 htr
          have okj : ∀ s ∈ rows ++ [row], RowOk m s := fun s hs => (List.mem_append.mp hs).elim (okr s) fun z => by rw [List.mem_singleton.mp z]; exact rowok
          have lj : (rows ++ [row]).length ≤ t + 1 := by rw [List.length_append]; show rows.length + 1 ≤ t + 1; omega
          have lok : LgOk m rs rows := ⟨m1, m6, rok, by omega, okr, by omega⟩
          have lokr : LgOk m rs.reverse rows := ⟨m1, m6, rokr, by rw [List.length_reverse]; omega, okr, by omega⟩
          have fwj : Fw (rows ++ [row]) := .of_len (by omega)
          cases ho : ckOf c5 c7 kd lm m rs (rows ++ [row]) with
          | none =>
            refine ts9_addM LC e5 e7 ne57 rfl rfl hlb W18.l1 lok (by omega) htr18 rowok fwj (fun c hc => by rw [ho] at hc; cases hc) (fun _ H19 k19 L19 pt1 np1 => ?_)
            have W19 := W18.chg1 k19 L19
            have s20 : Same H19 (upd H19 pt1 (.lst (tldV C9 none))) := same_new np1
            have hp1 : (upd H19 pt1 (.lst (tldV C9 none))) pt1 = some (.lst (tldV C9 none)) := upd_same
            have W20 := W19.grow s20
            have htr20 := sqt_T ((W18.l1.T k19).trans (same_T s20)) htr18
            generalize upd H19 pt1 (.lst (tldV C9 none)) = H20 at s20 hp1 W20 htr20
            refine ⟨W20.tab, fun H21 x21 tb21 => ?_⟩
            have W21 := W20.ext x21 tb21
            have hp1 := ext_lst x21 hp1
            refine ts9_callM LC e5 e7 ne57 rfl rfl hlb W21.l2 lokr (by omega) (sqt_ext x21 htr20) rowok fwj (fun c hc => by rw [ckOf_rev, ho] at hc; cases hc) (fun _ H22 k22 L22 pt2 np2 => ?_)
            have W22 := W21.chg2 k22 L22
            have pn1 : pt1 ∉ [x2, q2] := by
              obtain ⟨dx2, _, hx2, _⟩ := id W19.l2.at_
              obtain ⟨hs2, hq2, _⟩ := id W19.l2.past
              simp only [List.mem_cons, List.not_mem_nil, or_false, not_or]
              exact ⟨(ne_of_none hx2 np1).symm, (ne_of_none hq2 np1).symm⟩
            have hp1 := k22 _ _ hp1 pn1
            have s23 : Same H22 (upd H22 pt2 (.lst (tldV C9 none))) := same_new np2
            have hp2 : (upd H22 pt2 (.lst (tldV C9 none))) pt2 = some (.lst (tldV C9 none)) := upd_same
            have W5 := W22.grow s23
            have hp1 := s23 _ _ hp1
            generalize upd H22 pt2 (.lst (tldV C9 none)) = H5 at s23 hp2 W5 hp1
            have okR := okj
            have strR : kd % 2 = 1 → (brkL (rows ++ [row]) rs).any (·.k) = false := ckOf_strict k4 ho
            refine ⟨_, rfl, tldD C9 none, tldD C9 none, tld_dp hp2, tld_dp hp1, tld_shp, tld_shp, _, rfl, iteF' tld_eqv ?_⟩
            obtain ⟨dx1, t1, hx1, tt1⟩ := id W5.l1.at_
            obtain ⟨dx2, t2, hx2, tt2⟩ := id W5.l2.at_
            have tt1 := tt1.same (wos_le _)
            have tt2 := tt2.same (wos_le _)
            obtain ⟨dt1, gt1, ut1, b1, _, _⟩ := id tt1
            obtain ⟨dt2, gt2, ut2, b2, _, _⟩ := id tt2
            refine ⟨kd, _, rfl, x1, dx1, _, rfl, hx1, x1, dx1, _, _, rfl, hx1, fldM_h _ _ _ _, kd, _, rfl, x2, dx2, _, rfl, hx2, x2, dx2, _, _, rfl, hx2, fldM_h _ _ _ _, t1, dt1, _, t2, dt2, _, rfl, rfl, b1, b2, t1, t2, m, m, rows ++ [row], rows ++ [row], rfl, tt1, tt2, m1, okR, okR, fun b H6 s6 hb => ⟨b, rfl, _, rfl, ?_⟩⟩
            have b1' : b = true := hb.mpr ⟨rfl, List.Perm.refl _⟩
            subst b1'
            refine iteF ?_
            have W6 := W5.grow s6
            have lok : LgOk m rs (rows ++ [row]) := ⟨m1, m6, rok, by omega, okR, by omega⟩
            refine ⟨_, rfl, _, rfl, kd, lm, x1, r1, q1, m, rs, rows ++ [row], ps1 ++ [rows], rfl, k4, W6.l1, lok, by omega, strR, fun H7 s7 => ⟨_, rfl, iteF ?_⟩⟩
            have W7 := W6.grow s7
            obtain ⟨dx2, t2, hx2, _⟩ := id W7.l2.at_
            refine ⟨kd, _, rfl, x2, dx2, _, rfl, hx2, lm, x2, r2, q2, m, rs.reverse, rows ++ [row], ps2 ++ [rows], rfl, W7.l2, okR, .of_len (by omega), by omega, rokr, by rw [List.length_reverse]; omega, fun z us H8 s8 nz hz dz => ?_⟩
            have W8 := W7.grow s8
            obtain ⟨dx1, t1, hx1, _⟩ := id W8.l1.at_
            refine ⟨kd, _, rfl, x1, dx1, _, rfl, hx1, lm, x1, r1, q1, m, rs, rows ++ [row], ps1 ++ [rows], rfl, W8.l1, okR, .of_len (by omega), by omega, rok, by omega, fun z2 us2 H9 s9 nz2 hz2 dz2 => ?_⟩
            refine ⟨z2, us2, rfl, .inl (.inl hz2), fun p3 np3 => ?_⟩
            have s10 : Same H9 (upd H9 p3 (.tup us2.reverse)) := same_new np3
            have hp3 : (upd H9 p3 (.tup us2.reverse)) p3 = some (.tup us2.reverse) := upd_same
            generalize upd H9 p3 (.tup us2.reverse) = H10 at s10 hp3
            have s810 := s9.trans s10
            have eb : brkL (rows ++ [row]) rs.reverse = (brkL (rows ++ [row]) rs).reverse := by
              unfold brkL
              rw [List.filter_reverse]
            have da : DpAll K H10 us (((brkL (rows ++ [row]) rs).reverse).map R.d) := by
              rw [← eb]
              exact dps_same ((wo_le z).trans s810) _ _ dz
            have db : DpAll K H10 us2.reverse (((brkL (rows ++ [row]) rs).reverse).map R.d) := by
              rw [List.map_reverse]
              exact dps_rev (dps_same ((wo_le z2).trans s10) _ _ dz2)
            refine ⟨.tuple (((brkL (rows ++ [row]) rs).reverse).map R.d), .tuple (((brkL (rows ++ [row]) rs).reverse).map R.d), .tup (.inl (.inl (s810 _ _ hz))) da, .tup (.inl (.inl hp3)) db, sdt_shp _, sdt_shp _, _, rfl, iteF' (eqv_rls _) ?_⟩
            exact ⟨_, _, _, _, _, _, rfl, (W8.grow s9).grow s10, okR, by omega, by (try rw [List.length_append]); (try simp only [List.length_singleton]); omega, by (try rw [List.length_append]); (try simp only [List.length_singleton]); omega, strR⟩
          | some c =>
            refine ts9_addM LC e5 e7 ne57 rfl rfl hlb W18.l1 lok (by omega) htr18 rowok fwj (fun c' hc H19 s19 pt1 np1 => ?_) (fun hc => by rw [ho] at hc; cases hc)
            rw [ho] at hc
            cases hc
            have s20 : Same H19 (upd H19 pt1 (.lst (tldV C9 (some c)))) := same_new np1
            have hp1 : (upd H19 pt1 (.lst (tldV C9 (some c)))) pt1 = some (.lst (tldV C9 (some c))) := upd_same
            have W20 := (W18.grow s19).grow s20
            have htr20 := same_t (s19.trans s20) htr18
            generalize upd H19 pt1 (.lst (tldV C9 (some c))) = H20 at s20 hp1 W20 htr20
            refine ⟨W20.tab, fun H21 x21 tb21 => ?_⟩
            have W21 := W20.ext x21 tb21
            have hp1 := ext_lst x21 hp1
            refine ts9_callM LC e5 e7 ne57 rfl rfl hlb W21.l2 lokr (by omega) (sqt_ext x21 htr20) rowok fwj (fun c' hc H22 s22 pt2 np2 => ?_) (fun hc => by rw [ckOf_rev, ho] at hc; cases hc)
            rw [ckOf_rev, ho] at hc
            cases hc
            have s23 : Same H22 (upd H22 pt2 (.lst (tldV C9 (some c)))) := same_new np2
            have hp2 : (upd H22 pt2 (.lst (tldV C9 (some c)))) pt2 = some (.lst (tldV C9 (some c))) := upd_same
            have W5 := (W21.grow s22).grow s23
            have hp1 := s23 _ _ (s22 _ _ hp1)
            generalize upd H22 pt2 (.lst (tldV C9 (some c))) = H5 at s23 hp2 W5 hp1
            have okR := okr
            have strR := str
            refine ⟨_, rfl, tldD C9 (some c), tldD C9 (some c), tld_dp hp2, tld_dp hp1, tld_shp, tld_shp, _, rfl, iteF' tld_eqv ?_⟩
            obtain ⟨dx1, t1, hx1, tt1⟩ := id W5.l1.at_
            obtain ⟨dx2, t2, hx2, tt2⟩ := id W5.l2.at_
            have tt1 := tt1.same (wos_le _)
            have tt2 := tt2.same (wos_le _)
            obtain ⟨dt1, gt1, ut1, b1, _, _⟩ := id tt1
            obtain ⟨dt2, gt2, ut2, b2, _, _⟩ := id tt2
            refine ⟨kd, _, rfl, x1, dx1, _, rfl, hx1, x1, dx1, _, _, rfl, hx1, fldM_h _ _ _ _, kd, _, rfl, x2, dx2, _, rfl, hx2, x2, dx2, _, _, rfl, hx2, fldM_h _ _ _ _, t1, dt1, _, t2, dt2, _, rfl, rfl, b1, b2, t1, t2, m, m, rows, rows, rfl, tt1, tt2, m1, okR, okR, fun b H6 s6 hb => ⟨b, rfl, _, rfl, ?_⟩⟩
            have b1' : b = true := hb.mpr ⟨rfl, List.Perm.refl _⟩
            subst b1'
            refine iteF ?_
            have W6 := W5.grow s6
            have lok : LgOk m rs (rows) := ⟨m1, m6, rok, by omega, okR, by omega⟩
            refine ⟨_, rfl, _, rfl, kd, lm, x1, r1, q1, m, rs, rows, ps1, rfl, k4, W6.l1, lok, by omega, strR, fun H7 s7 => ⟨_, rfl, iteF ?_⟩⟩
            have W7 := W6.grow s7
            obtain ⟨dx2, t2, hx2, _⟩ := id W7.l2.at_
            refine ⟨kd, _, rfl, x2, dx2, _, rfl, hx2, lm, x2, r2, q2, m, rs.reverse, rows, ps2, rfl, W7.l2, okR, .of_len (by omega), by omega, rokr, by rw [List.length_reverse]; omega, fun z us H8 s8 nz hz dz => ?_⟩
            have W8 := W7.grow s8
            obtain ⟨dx1, t1, hx1, _⟩ := id W8.l1.at_
            refine ⟨kd, _, rfl, x1, dx1, _, rfl, hx1, lm, x1, r1, q1, m, rs, rows, ps1, rfl, W8.l1, okR, .of_len (by omega), by omega, rok, by omega, fun z2 us2 H9 s9 nz2 hz2 dz2 => ?_⟩
            refine ⟨z2, us2, rfl, .inl (.inl hz2), fun p3 np3 => ?_⟩
            have s10 : Same H9 (upd H9 p3 (.tup us2.reverse)) := same_new np3
            have hp3 : (upd H9 p3 (.tup us2.reverse)) p3 = some (.tup us2.reverse) := upd_same
            generalize upd H9 p3 (.tup us2.reverse) = H10 at s10 hp3
            have s810 := s9.trans s10
            have eb : brkL (rows) rs.reverse = (brkL (rows) rs).reverse := by
              unfold brkL
              rw [List.filter_reverse]
            have da : DpAll K H10 us (((brkL (rows) rs).reverse).map R.d) := by
              rw [← eb]
              exact dps_same ((wo_le z).trans s810) _ _ dz
            have db : DpAll K H10 us2.reverse (((brkL (rows) rs).reverse).map R.d) := by
              rw [List.map_reverse]
              exact dps_rev (dps_same ((wo_le z2).trans s10) _ _ dz2)
            refine ⟨.tuple (((brkL (rows) rs).reverse).map R.d), .tuple (((brkL (rows) rs).reverse).map R.d), .tup (.inl (.inl (s810 _ _ hz))) da, .tup (.inl (.inl hp3)) db, sdt_shp _, sdt_shp _, _, rfl, iteF' (eqv_rls _) ?_⟩
            exact ⟨_, _, _, _, _, _, rfl, (W8.grow s9).grow s10, okR, by omega, by (try rw [List.length_append]); (try simp only [List.length_singleton]); omega, by (try rw [List.length_append]); (try simp only [List.length_singleton]); omega, strR⟩
        · rintro σ H15 ⟨y9, y10, y11, rows, ps1, ps2, rfl, W15, _⟩
          exact ⟨_, _, _, _, _, _, _, _, _, _, rfl, W15.w3⟩
      · rintro σ H3 ⟨y1, y3, y4, y5, y6, y7, y8, y9, y10, y11, rfl, W3'⟩
        exact ⟨_, _, _, _, _, _, _, _, _, _, _, rfl, same_l (wo_le p) W3'.scr, W3'.tab⟩
    · rintro σ H1 ⟨y1, y2, y3, y4, y5, y6, y7, y8, y9, y10, y11, rfl, ha1, tabs1⟩
      exact q H1
end
end CC
namespace CC
open PySem L2 TL
/-- no plain value's type has an own class above it -/
theorem no_sub {K : PySem.W.Frag} {C : Addr} : ∀ n ∈ OC.oddTys, PySem.W.subIn K (.type n) (.ref C) = some false := by
  intro n hn
  simp only [OC.oddTys, List.mem_cons, List.not_mem_nil, or_false] at hn
  rcases hn with rfl | rfl | rfl | rfl | rfl | rfl | rfl <;> rfl
theorem no_ins {K : PySem.W.Frag} {C : Addr} (i : PySem.W.isClsIn K C = true) (t : PySem.W.typeIn K (.ref C) = some (.type "type")) : NoIns K C := by
  refine ⟨fun n hn => ?_, no_sub⟩
  have i' : (PySem.W.clsIn K C).isSome = true := i
  have s := no_sub (K := K) (C := C) n hn
  have e : ((Value.type n) == (Value.ref C)) = false := by simp
  simp only [PySem.W.kitOne, PySem.W.kitCls, e, i', t, s]
  simp
theorem exm_is {K : PySem.W.Frag} {cls : Value} {D : Addr} {r : Bool} (b : PySem.W.subIn K (.ref D) (.type "BaseException") = some true) (t : PySem.W.typeIn K (.ref D) = some (.type "type")) (i : (PySem.W.clsIn K D).isSome = true) (s : PySem.W.subIn K cls (.ref D) = some r) : PySem.W.exmOne K cls (.ref D) = some r := by
  simp only [PySem.W.exmOne, PySem.W.kitCls, b, t, i, s]
  simp
/-- the nine exceptions of the log laws' _law_said, put together -/
theorem mk_nine {K : PySem.W.Frag} {h : Heap} {mg : Str → Option Value} {c0 c1 c2 c3 c4 c5 c6 c7 c8 : Addr} (X : K.In h) (G : h.Ns mainGlobals mg)
    (a0 : PySem.W.nsIn K mainGlobals "NoRow" = some (some (.ref c0))) (x0 : PySem.W.excIn K c0 [.type "ValueError", .type "Exception", .type "BaseException", .type "object"] "ValueError.__new__" = true) (k0 : PySem.W.keepIn K (.ref c0) = true) (b0 : PySem.W.subIn K (.ref c0) (.type "BaseException") = some true) (t0 : PySem.W.typeIn K (.ref c0) = some (.type "type")) (i0 : PySem.W.isClsIn K c0 = true) (s0 : PySem.W.subIn K (.ref c0) (.ref c0) = some true)
    (a1 : PySem.W.nsIn K mainGlobals "NoNumber" = some (some (.ref c1))) (x1 : PySem.W.excIn K c1 [.type "ValueError", .type "Exception", .type "BaseException", .type "object"] "ValueError.__new__" = true) (k1 : PySem.W.keepIn K (.ref c1) = true) (b1 : PySem.W.subIn K (.ref c1) (.type "BaseException") = some true) (t1 : PySem.W.typeIn K (.ref c1) = some (.type "type")) (i1 : PySem.W.isClsIn K c1 = true) (s1 : PySem.W.subIn K (.ref c1) (.ref c1) = some true)
    (a2 : PySem.W.nsIn K mainGlobals "NotTable" = some (some (.ref c2))) (x2 : PySem.W.excIn K c2 [.type "ValueError", .type "Exception", .type "BaseException", .type "object"] "ValueError.__new__" = true) (k2 : PySem.W.keepIn K (.ref c2) = true) (b2 : PySem.W.subIn K (.ref c2) (.type "BaseException") = some true) (t2 : PySem.W.typeIn K (.ref c2) = some (.type "type")) (i2 : PySem.W.isClsIn K c2 = true) (s2 : PySem.W.subIn K (.ref c2) (.ref c2) = some true)
    (a3 : PySem.W.nsIn K mainGlobals "NotRules" = some (some (.ref c3))) (x3 : PySem.W.excIn K c3 [.type "ValueError", .type "Exception", .type "BaseException", .type "object"] "ValueError.__new__" = true) (k3 : PySem.W.keepIn K (.ref c3) = true) (b3 : PySem.W.subIn K (.ref c3) (.type "BaseException") = some true) (t3 : PySem.W.typeIn K (.ref c3) = some (.type "type")) (i3 : PySem.W.isClsIn K c3 = true) (s3 : PySem.W.subIn K (.ref c3) (.ref c3) = some true)
    (a4 : PySem.W.nsIn K mainGlobals "UnlikeWidths" = some (some (.ref c4))) (x4 : PySem.W.excIn K c4 [.type "ValueError", .type "Exception", .type "BaseException", .type "object"] "ValueError.__new__" = true) (k4 : PySem.W.keepIn K (.ref c4) = true) (b4 : PySem.W.subIn K (.ref c4) (.type "BaseException") = some true) (t4 : PySem.W.typeIn K (.ref c4) = some (.type "type")) (i4 : PySem.W.isClsIn K c4 = true) (s4 : PySem.W.subIn K (.ref c4) (.ref c4) = some true)
    (a5 : PySem.W.nsIn K mainGlobals "TooMuch" = some (some (.ref c5))) (x5 : PySem.W.excIn K c5 [.type "ValueError", .type "Exception", .type "BaseException", .type "object"] "ValueError.__new__" = true) (k5 : PySem.W.keepIn K (.ref c5) = true) (b5 : PySem.W.subIn K (.ref c5) (.type "BaseException") = some true) (t5 : PySem.W.typeIn K (.ref c5) = some (.type "type")) (i5 : PySem.W.isClsIn K c5 = true) (s5 : PySem.W.subIn K (.ref c5) (.ref c5) = some true)
    (a6 : PySem.W.nsIn K mainGlobals "NotThere" = some (some (.ref c6))) (x6 : PySem.W.excIn K c6 [.type "ValueError", .type "Exception", .type "BaseException", .type "object"] "ValueError.__new__" = true) (k6 : PySem.W.keepIn K (.ref c6) = true) (b6 : PySem.W.subIn K (.ref c6) (.type "BaseException") = some true) (t6 : PySem.W.typeIn K (.ref c6) = some (.type "type")) (i6 : PySem.W.isClsIn K c6 = true) (s6 : PySem.W.subIn K (.ref c6) (.ref c6) = some true)
    (a7 : PySem.W.nsIn K mainGlobals "Broken" = some (some (.ref c7))) (x7 : PySem.W.excIn K c7 [.type "ValueError", .type "Exception", .type "BaseException", .type "object"] "ValueError.__new__" = true) (k7 : PySem.W.keepIn K (.ref c7) = true) (b7 : PySem.W.subIn K (.ref c7) (.type "BaseException") = some true) (t7 : PySem.W.typeIn K (.ref c7) = some (.type "type")) (i7 : PySem.W.isClsIn K c7 = true) (s7 : PySem.W.subIn K (.ref c7) (.ref c7) = some true)
    (a8 : PySem.W.nsIn K mainGlobals "NothingDone" = some (some (.ref c8))) (x8 : PySem.W.excIn K c8 [.type "ValueError", .type "Exception", .type "BaseException", .type "object"] "ValueError.__new__" = true) (k8 : PySem.W.keepIn K (.ref c8) = true) (b8 : PySem.W.subIn K (.ref c8) (.type "BaseException") = some true) (t8 : PySem.W.typeIn K (.ref c8) = some (.type "type")) (i8 : PySem.W.isClsIn K c8 = true) (s8 : PySem.W.subIn K (.ref c8) (.ref c8) = some true)
    (d10 : PySem.W.subIn K (.ref c1) (.ref c0) = some false) (d20 : PySem.W.subIn K (.ref c2) (.ref c0) = some false) (d21 : PySem.W.subIn K (.ref c2) (.ref c1) = some false) (d30 : PySem.W.subIn K (.ref c3) (.ref c0) = some false) (d31 : PySem.W.subIn K (.ref c3) (.ref c1) = some false) (d32 : PySem.W.subIn K (.ref c3) (.ref c2) = some false) (d40 : PySem.W.subIn K (.ref c4) (.ref c0) = some false) (d41 : PySem.W.subIn K (.ref c4) (.ref c1) = some false) (d42 : PySem.W.subIn K (.ref c4) (.ref c2) = some false) (d43 : PySem.W.subIn K (.ref c4) (.ref c3) = some false) (d50 : PySem.W.subIn K (.ref c5) (.ref c0) = some false) (d51 : PySem.W.subIn K (.ref c5) (.ref c1) = some false) (d52 : PySem.W.subIn K (.ref c5) (.ref c2) = some false) (d53 : PySem.W.subIn K (.ref c5) (.ref c3) = some false) (d54 : PySem.W.subIn K (.ref c5) (.ref c4) = some false) (d60 : PySem.W.subIn K (.ref c6) (.ref c0) = some false) (d61 : PySem.W.subIn K (.ref c6) (.ref c1) = some false) (d62 : PySem.W.subIn K (.ref c6) (.ref c2) = some false) (d63 : PySem.W.subIn K (.ref c6) (.ref c3) = some false) (d64 : PySem.W.subIn K (.ref c6) (.ref c4) = some false) (d65 : PySem.W.subIn K (.ref c6) (.ref c5) = some false) (d70 : PySem.W.subIn K (.ref c7) (.ref c0) = some false) (d71 : PySem.W.subIn K (.ref c7) (.ref c1) = some false) (d72 : PySem.W.subIn K (.ref c7) (.ref c2) = some false) (d73 : PySem.W.subIn K (.ref c7) (.ref c3) = some false) (d74 : PySem.W.subIn K (.ref c7) (.ref c4) = some false) (d75 : PySem.W.subIn K (.ref c7) (.ref c5) = some false) (d76 : PySem.W.subIn K (.ref c7) (.ref c6) = some false) (d80 : PySem.W.subIn K (.ref c8) (.ref c0) = some false) (d81 : PySem.W.subIn K (.ref c8) (.ref c1) = some false) (d82 : PySem.W.subIn K (.ref c8) (.ref c2) = some false) (d83 : PySem.W.subIn K (.ref c8) (.ref c3) = some false) (d84 : PySem.W.subIn K (.ref c8) (.ref c4) = some false) (d85 : PySem.W.subIn K (.ref c8) (.ref c5) = some false) (d86 : PySem.W.subIn K (.ref c8) (.ref c6) = some false) (d87 : PySem.W.subIn K (.ref c8) (.ref c7) = some false) :
    ∃ C9 : Nat → Addr, Ex9 K mg C9 ∧ ∀ i, i < 9 → ExcK K mg (nm9 i) (C9 i) := by
  refine ⟨fun | 0 => c0 | 1 => c1 | 2 => c2 | 3 => c3 | 4 => c4 | 5 => c5 | 6 => c6 | 7 => c7 | _ => c8, ⟨fun i hi => ?_, fun i hi => ?_, fun i hi => ?_⟩, fun i hi => ?_⟩
  · match i, hi with
    | 0, _ => exact PySem.W.mg_of X G a0
    | 1, _ => exact PySem.W.mg_of X G a1
    | 2, _ => exact PySem.W.mg_of X G a2
    | 3, _ => exact PySem.W.mg_of X G a3
    | 4, _ => exact PySem.W.mg_of X G a4
    | 5, _ => exact PySem.W.mg_of X G a5
    | 6, _ => exact PySem.W.mg_of X G a6
    | 7, _ => exact PySem.W.mg_of X G a7
    | 8, _ => exact PySem.W.mg_of X G a8
    | i + 9, h => exact absurd h (by omega)
  · match i, hi with
    | 0, _ => exact fun j hj => absurd hj (by omega)
    | 1, _ => 
      intro j hj
      match j, hj with
      | 0, _ => exact exm_is b0 t0 i0 d10
      | j + 1, h => exact absurd h (by omega)
    | 2, _ => 
      intro j hj
      match j, hj with
      | 0, _ => exact exm_is b0 t0 i0 d20
      | 1, _ => exact exm_is b1 t1 i1 d21
      | j + 2, h => exact absurd h (by omega)
    | 3, _ => 
      intro j hj
      match j, hj with
      | 0, _ => exact exm_is b0 t0 i0 d30
      | 1, _ => exact exm_is b1 t1 i1 d31
      | 2, _ => exact exm_is b2 t2 i2 d32
      | j + 3, h => exact absurd h (by omega)
    | 4, _ => 
      intro j hj
      match j, hj with
      | 0, _ => exact exm_is b0 t0 i0 d40
      | 1, _ => exact exm_is b1 t1 i1 d41
      | 2, _ => exact exm_is b2 t2 i2 d42
      | 3, _ => exact exm_is b3 t3 i3 d43
      | j + 4, h => exact absurd h (by omega)
    | 5, _ => 
      intro j hj
      match j, hj with
      | 0, _ => exact exm_is b0 t0 i0 d50
      | 1, _ => exact exm_is b1 t1 i1 d51
      | 2, _ => exact exm_is b2 t2 i2 d52
      | 3, _ => exact exm_is b3 t3 i3 d53
      | 4, _ => exact exm_is b4 t4 i4 d54
      | j + 5, h => exact absurd h (by omega)
    | 6, _ => 
      intro j hj
      match j, hj with
      | 0, _ => exact exm_is b0 t0 i0 d60
      | 1, _ => exact exm_is b1 t1 i1 d61
      | 2, _ => exact exm_is b2 t2 i2 d62
      | 3, _ => exact exm_is b3 t3 i3 d63
      | 4, _ => exact exm_is b4 t4 i4 d64
      | 5, _ => exact exm_is b5 t5 i5 d65
      | j + 6, h => exact absurd h (by omega)
    | 7, _ => 
      intro j hj
      match j, hj with
      | 0, _ => exact exm_is b0 t0 i0 d70
      | 1, _ => exact exm_is b1 t1 i1 d71
      | 2, _ => exact exm_is b2 t2 i2 d72
      | 3, _ => exact exm_is b3 t3 i3 d73
      | 4, _ => exact exm_is b4 t4 i4 d74
      | 5, _ => exact exm_is b5 t5 i5 d75
      | 6, _ => exact exm_is b6 t6 i6 d76
      | j + 7, h => exact absurd h (by omega)
    | 8, _ => 
      intro j hj
      match j, hj with
      | 0, _ => exact exm_is b0 t0 i0 d80
      | 1, _ => exact exm_is b1 t1 i1 d81
      | 2, _ => exact exm_is b2 t2 i2 d82
      | 3, _ => exact exm_is b3 t3 i3 d83
      | 4, _ => exact exm_is b4 t4 i4 d84
      | 5, _ => exact exm_is b5 t5 i5 d85
      | 6, _ => exact exm_is b6 t6 i6 d86
      | 7, _ => exact exm_is b7 t7 i7 d87
      | j + 8, h => exact absurd h (by omega)
    | i + 9, h => exact absurd h (by omega)
  · match i, hi with
    | 0, _ => exact exm_is b0 t0 i0 s0
    | 1, _ => exact exm_is b1 t1 i1 s1
    | 2, _ => exact exm_is b2 t2 i2 s2
    | 3, _ => exact exm_is b3 t3 i3 s3
    | 4, _ => exact exm_is b4 t4 i4 s4
    | 5, _ => exact exm_is b5 t5 i5 s5
    | 6, _ => exact exm_is b6 t6 i6 s6
    | 7, _ => exact exm_is b7 t7 i7 s7
    | 8, _ => exact exm_is b8 t8 i8 s8
    | i + 9, h => exact absurd h (by omega)
  · match i, hi with
    | 0, _ => exact ⟨PySem.W.mg_of X G a0, x0, k0, b0, t0⟩
    | 1, _ => exact ⟨PySem.W.mg_of X G a1, x1, k1, b1, t1⟩
    | 2, _ => exact ⟨PySem.W.mg_of X G a2, x2, k2, b2, t2⟩
    | 3, _ => exact ⟨PySem.W.mg_of X G a3, x3, k3, b3, t3⟩
    | 4, _ => exact ⟨PySem.W.mg_of X G a4, x4, k4, b4, t4⟩
    | 5, _ => exact ⟨PySem.W.mg_of X G a5, x5, k5, b5, t5⟩
    | 6, _ => exact ⟨PySem.W.mg_of X G a6, x6, k6, b6, t6⟩
    | 7, _ => exact ⟨PySem.W.mg_of X G a7, x7, k7, b7, t7⟩
    | 8, _ => exact ⟨PySem.W.mg_of X G a8, x8, k8, b8, t8⟩
    | i + 9, h => exact absurd h (by omega)
end CC
/-! ### the head by one kernel run: what the top has left, found by names -/
namespace HK
open PySem PySem.Spec PyProof.Rows L2 PySem.W
/-! where things stand -/
def sa (K : Frag) (C D : Addr) (m : Str) : Addr := fstR (ks_superIn K C D m)
/-! what is asked, as Bools -/
theorem eqO_ok {a b : Option (Option Value)} (h : eqO a b = true) : a = b := of_decide_eq_true h
theorem eqV_ok {a b : Option Value} (h : eqV a b = true) : a = b := of_decide_eq_true h
theorem eqB_ok {a b : Option Bool} (h : eqB a b = true) : a = b := of_decide_eq_true h
theorem recB_ok {K : Frag} {p : Addr} {T : String} (h : recB K p T = true) : ∃ rest, recIn K p T = some (.ref (ra K p T) :: rest) := by
  unfold recB at h
  unfold ra
  split at h
  · rename_i a r e
    exact ⟨r, by rw [e]; rfl⟩
  · cases h
theorem clsB_ok {K : Frag} {C : Addr} {m : Str} (h : clsB K C m = true) : findCls K (.ref C) (.type "type") m = some (.get (.builtin "classmethod.__get__") (.ref (ca K C m)) .none (.ref C)) := by
  unfold clsB at h
  unfold ca
  split at h
  · rename_i g p c e
    obtain ⟨h1, h2⟩ := Bool.and_eq_true_iff.mp h
    rw [e, of_decide_eq_true h1, of_decide_eq_true h2]
  · cases h
theorem clvB_ok {K : Frag} {C : Addr} {m : Str} {f : Addr} (h : clvB K C m f = true) : findCls K (.ref C) (.type "type") m = some (.val (.ref f)) := by
  unfold clvB at h
  split at h
  · rename_i v e
    rw [e, of_decide_eq_true h]
  · cases h
theorem intB_ok {K : Frag} {x : Str} {i : Int} (h : intB K x i = true) : ∃ t, nsIn K mainGlobals x = some (some (.int i t)) := by
  unfold intB at h
  split at h
  · rename_i j t e
    exact ⟨t, by rw [e, of_decide_eq_true h]⟩
  · cases h
theorem kndB_ok {K : Frag} {a : Addr} (h : kndB K a = true) : ∃ (od : Option Addr) (t1 t2 : Tok) (n : Nat) (sl : Array (Option Value)), K.lookup a = some ⟨.type "tuple", od, .seq #[.str "settles" t1, .str "within" t2] n, sl⟩ := by
  unfold kndB at h
  split at h
  · rename_i c od its n sl e
    obtain ⟨h1, h2⟩ := Bool.and_eq_true_iff.mp h
    split at h2
    · rename_i x t1 y t2 e2
      obtain ⟨h3, h4⟩ := Bool.and_eq_true_iff.mp h2
      refine ⟨od, t1, t2, n, sl, ?_⟩
      have e3 : its = #[.str x t1, .str y t2] := by
        rw [← Array.toArray_toList (xs := its), e2]
      rw [e, of_decide_eq_true h1, e3, of_decide_eq_true h3, of_decide_eq_true h4]
    · cases h2
  · cases h
theorem filB_ok {K : Frag} {P : Program} {c : Addr} (h : filB K P c = true) : ∃ (cl : Value) (od : Option Addr) (vs : Array Value) (sl : Array (Option Value)) (f : Str) (t : Tok), K.lookup c = some ⟨cl, od, .fields vs, sl⟩ ∧ (vs[2]? : Option Value) = some (.str f t) ∧ ((P.main.file : Str) == f) = true := by
  unfold filB at h
  split at h
  · rename_i cl od vs sl e
    split at h
    · rename_i f t e2
      exact ⟨cl, od, vs, sl, f, t, e, e2, h⟩
    · cases h
  · cases h
theorem celB_ok {K : Frag} {c D : Addr} (h : celB K c D = true) : ∃ (cl : Value) (od : Option Addr) (sl : Array (Option Value)), K.lookup c = some ⟨cl, od, .cell (some (.ref D)), sl⟩ := by
  unfold celB at h
  split at h
  · rename_i cl od d sl e
    exact ⟨cl, od, sl, by rw [e, of_decide_eq_true h]⟩
  · cases h
theorem tabB_ok {K : Frag} {x : Str} (h : tabB K x = true) : tabIn K x = some (tabC K x, tabP K x) := by
  obtain ⟨p, e⟩ := Option.isSome_iff_exists.mp h
  unfold tabC tabP
  rw [e]
theorem none_ok {α : Type} {o : Option α} (h : o.isNone = true) : o = none := Option.isNone_iff_eq_none.mp h
/-! defs -/
theorem DefX.keep {K : Frag} {d : DefX} (c : d.ok K = true) : keepIn K (.ref (d.at_ K)) = true := (Bool.and_eq_true_iff.mp c).1
theorem DefX.all {K : Frag} {d : DefX} (e : fnW K (d.at_ K) = d.val) (c : d.ok K = true) : ∃ oc od osl dV kV doc pm an ct cl, K.lookup (d.at_ K) = some ⟨oc, od, .func { fnOf d.name d.qual (defArgs d.st) (defBody d.st) (defScope d.st) dV kV doc pm an (.ref (coA K (d.at_ K))) ct with closure := cl }, osl⟩ ∧ codeIn K (.ref (coA K (d.at_ K))) d.qual = true ∧ DflV K dV d.dfl ∧ cl.map (·.1) = if d.sup then [("__class__" : Str)] else [] := by
  obtain ⟨_, c2⟩ := Bool.and_eq_true_iff.mp c
  unfold fnW at e
  unfold coA
  cases q : K.lookup (d.at_ K) with
  | none =>
    rw [q] at c2
    cases c2
  | some o =>
    obtain ⟨oc, od, dt, osl⟩ := o
    rw [q] at c2 e
    cases dt with
    | func fd =>
      obtain ⟨n1, n2, n3, n4, n5, n6, n7, n8, n9, n10, n11, n12, n13, n14, n15⟩ := fd
      have e2 : (some (n1, n2, n3, n4, n5, n6, n7.map (·.1), n15) : FnW) = some (d.name, d.qual, defArgs d.st, .stmts (defBody d.st), defScope d.st, mainGlobals, if d.sup then [("__class__" : Str)] else [], builtinsNs) := e
      simp only [Option.some.injEq, Prod.mk.injEq] at e2
      obtain ⟨h1, h2, h3, h4, h5, h6, h7, h8⟩ := e2
      subst h1 h2 h3 h4 h5 h6 h8
      have c3 : (codeIn K n13 d.qual && (isRef n13 && He.dflB K n8 d.dfl)) = true := c2
      obtain ⟨k1, k2⟩ := Bool.and_eq_true_iff.mp c3
      obtain ⟨k3, k4⟩ := Bool.and_eq_true_iff.mp k2
      cases n13 with
      | ref c =>
        exact ⟨oc, od, osl, n8, n9, n10, n11, n12, n14, n7, rfl, k1, He.dflB_ok k4, h7⟩
      | _ => cases k3
    | _ => cases c2
theorem DefX.get {K : Frag} {d : DefX} (e : fnW K (d.at_ K) = d.val) (c : d.ok K = true) (hs : d.sup = false := by rfl) (hd : d.dfl = [] := by rfl) : ∃ oc od osl kV doc pm an ct, K.lookup (d.at_ K) = some ⟨oc, od, .func (fnOf d.name d.qual (defArgs d.st) (defBody d.st) (defScope d.st) .none kV doc pm an (.ref (coA K (d.at_ K))) ct), osl⟩ ∧ codeIn K (.ref (coA K (d.at_ K))) d.qual = true := by
  obtain ⟨oc, od, osl, dV, kV, doc, pm, an, ct, cl, l, cI, D, hc⟩ := d.all e c
  rw [hs] at hc
  have hc : cl = [] := List.map_eq_nil_iff.mp hc
  subst hc
  rw [hd] at D
  rcases D with ⟨_, rfl⟩ | ⟨z, _⟩
  · exact ⟨oc, od, osl, kV, doc, pm, an, ct, l, cI⟩
  · exact absurd rfl z
theorem DefX.getS {K : Frag} {d : DefX} (e : fnW K (d.at_ K) = d.val) (c : d.ok K = true) (hs : d.sup = true := by rfl) (hd : d.dfl = [] := by rfl) : ∃ oc od osl kV doc pm an ct, K.lookup (d.at_ K) = some ⟨oc, od, .func (ksFn d.name d.qual (defArgs d.st) (defBody d.st) (defScope d.st) .none kV doc pm an (.ref (coA K (d.at_ K))) ct (ceA K (d.at_ K))), osl⟩ ∧ codeIn K (.ref (coA K (d.at_ K))) d.qual = true := by
  obtain ⟨oc, od, osl, dV, kV, doc, pm, an, ct, cl, l, cI, D, hc⟩ := d.all e c
  rw [hs] at hc
  rw [hd] at D
  rcases D with ⟨_, rfl⟩ | ⟨z, _⟩
  · obtain ⟨n, cc, rfl, rfl⟩ : ∃ n cc, cl = [(n, cc)] ∧ n = "__class__" := by
      match cl, hc with
      | [(n, cc)], hc =>
        simp at hc
        exact ⟨n, cc, rfl, hc⟩
    have ec : ceA K (d.at_ K) = cc := by
      unfold ceA
      rw [l]
    exact ⟨oc, od, osl, kV, doc, pm, an, ct, by rw [ec]; exact l, cI⟩
  · exact absurd rfl z
theorem DefX.getD {K : Frag} {d : DefX} (e : fnW K (d.at_ K) = d.val) (c : d.ok K = true) (hs : d.sup = false := by rfl) : ∃ fd, FunD K d.name d.qual (defArgs d.st) (defBody d.st) (defScope d.st) d.dfl [] (d.at_ K) fd := by
  obtain ⟨oc, od, osl, dV, kV, doc, pm, an, ct, cl, l, cI, D, hc⟩ := d.all e c
  rw [hs] at hc
  have hc : cl = [] := List.map_eq_nil_iff.mp hc
  subst hc
  exact ⟨_, ⟨oc, od, dV, kV, doc, pm, an, _, ct, osl, rfl, l, cI, D, .inl rfl⟩, d.keep c⟩
/-! the Hook -/
theorem obsA_eq {as : List Addr} {bs : Frag → List Bool} {fn : List DefX} {g : Addr → Option Obj} {s : Shared} (h : ∀ a, g a = s.heap.get? a) : obsAG as bs fn g = (hookA as bs fn).obs s := by
  have e : g = s.heap.get? := funext h
  rw [e] <;> rfl
section
variable {bs : Frag → List Bool} {fn : List DefX} {K : Frag}
theorem fact (c : obsX bs fn K = valX fn) (i : Nat) {b : Bool} (h : (bs K)[i]? = some b) : b = true := by
  have c1 := (Bool.and_eq_true_iff.mp (show (((bs K).all id) && fn.all fun d => d.ok K) = true from congrArg (fun z : AlX => z.1) c)).1
  exact List.all_eq_true.mp c1 b (List.mem_of_getElem? h)
theorem def_ (c : obsX bs fn K = valX fn) (i : Nat) {d : DefX} (h : fn[i]? = some d) : fnW K (d.at_ K) = d.val ∧ d.ok K = true := by
  have c2 := (Bool.and_eq_true_iff.mp (show (((bs K).all id) && fn.all fun d => d.ok K) = true from congrArg (fun z : AlX => z.1) c)).2
  have e : fn.map (fun d => fnW K (d.at_ K)) = fn.map DefX.val := congrArg (fun z : AlX => z.2) c
  have e2 : (fn.map fun d => fnW K (d.at_ K))[i]? = (fn.map DefX.val)[i]? := by rw [e]
  rw [List.getElem?_map, List.getElem?_map, h] at e2
  exact ⟨Option.some.inj e2, List.all_eq_true.mp c2 d (List.mem_of_getElem? h)⟩
end
/-- the law's end, the written part by such a Hook -/
theorem walk_X {l : OpenLaw} {n k : Nat} {q : Program} {loose : List Str} {XP : (Str → Option Value) → Heap → Prop} {YP : World → Heap → Prop} {d : DefRec} {CX : World → CXT} {x : Str} {xs : List Str}
    (most : l.most = some n) (few : n ≤ sizeLine) (plain : d.params.defaults = []) (room : Room k callerA)
    (found : ∀ y ∈ xs, ∃ r, (recsOf q).find? (fun e => e.name == y) = some r)
    (F : ∀ (w : World) (mg : Str → Option Value) (fa : Addr) (h : Heap), YP w h → h.Ns mainGlobals mg → mg d.name = some (.ref fa) → ∃ (K : Frag) (fd : FuncData) (cs : List (Addr × Addr)) (sp : Sp), K.In h ∧ (∀ p ∈ cs, ∃ y ∈ xs, tabIn K y = some p) ∧ (∀ p ∈ cs, K.lookup p.2 = none) ∧
      (∀ (s : Shared) (u : Value), BindsTo s fd ⟨[u], []⟩ [(x, u)]) ∧ (∀ (H : Hp) (a : Addr) (ns : List Int), ns.length ≤ n → (∀ p ∈ cs, H p.2 = some (.tbl #[])) → SqL K H a (ns.map V.int) → sp [.ref a] H (fun v _ => v = .bl true) fun _ _ _ => False) ∧
      ∀ base : Heap, K.In base → base.Ns mainGlobals mg → (∀ p ∈ cs, LamX.TabB base mg p.1 p.2) → GD.FnG l.prog w K mg base (CX w) k fa fd [x] sp)
    (noX : ∀ (w : World) (H : Hp) (s : Shared) (e : Value) (s' : Shared), CX w [] H s (fun _ _ _ => False) e s' → False) : WalkO q loose XP YP l.row.toRowW d [] (fun f vs => PySem.call f vs) := by
  refine Att.attach_callB most plain ?_
  intro w s₀ s mg mb fa o pm cd doc a vs ns G Y _ _ _ hmg hobj hin len _ gens
  obtain ⟨K, fd, cs, sp, inK, tbs, offK, bind, wish, ok⟩ := F w mg fa _ Y G.T.g hmg
  refine GD.law_callGT inK G.T.g G.T.b G.T.builtins G.T.nolimit gens (fun p hp => ?_) offK G.T.bmain hobj hin (Nat.le_trans len few) room ok bind (fun H h1 h2 => wish H a ns len h1 h2) fun H e s' => noX w H s e s'
  obtain ⟨y, hy, e⟩ := tbs p hp
  obtain ⟨r, hr⟩ := found y hy
  exact tab_of G.T inK hr (by rw [e])
end HK
namespace CC
open PySem L2 TL
theorem df_mk {K : PySem.W.Frag} {h : Heap} {mg : Str → Option Value} {x : Str} {st : Stmt} {ps : List Str} {f : Addr} {fd : FuncData} (X : K.In h) (G : h.Ns mainGlobals mg) (a : PySem.W.nsIn K mainGlobals x = some (some (.ref f))) (F : Fun K x x st f fd) (b : Binds K fd ps []) : Nonempty (Df K mg x st ps) := ⟨⟨f, fd, F, b, PySem.W.mg_of X G a⟩⟩
theorem kit_self {K : PySem.W.Frag} {C : Addr} : PySem.W.kitOne K (.ref C) (.ref C) = some true := by
  unfold PySem.W.kitOne
  exact if_pos (by simp)
theorem raw0 {P : Program} {w : World} {K : PySem.W.Frag} {mg : Str → Option Value} {base : Heap} {CX : CXT} {k : Nat} {f : Addr} {fd : FuncData} {ps : List Str} {sp : Sp} (F : FnOk P w K mg base CX k f fd ps sp) (b : Binds K fd ps []) : FnR P w K mg base CX k f sp :=
  (F.raw b .nil).imp fun vs H Q E h => by
    show sp (vs ++ []) H Q E
    rw [List.append_nil]
    exact h
theorem mk_is_an_integer {K : PySem.W.Frag} {h : Heap} {mg : Str → Option Value} {f : Addr} {od an : Option Addr} {sl : Array (Option Value)} {oc kV dc pm cd ct : Value} (X : K.In h) (G : h.Ns mainGlobals mg) (a : PySem.W.nsIn K mainGlobals "is_an_integer" = some (some (.ref f)))
    (l : K.lookup f = some ⟨oc, od, .func (PySem.W.fnOf "is_an_integer" "is_an_integer" (defArgs sIsInt) (defBody sIsInt) (defScope sIsInt) .none kV dc pm an cd ct), sl⟩) (c : PySem.W.codeIn K cd "is_an_integer" = true) (k : PySem.W.keepIn K (.ref f) = true) : Nonempty (Df K mg "is_an_integer" sIsInt ["thing"]) :=
  have F := fun_mk (st := sIsInt) l c k
  df_mk X G a F (F.binds (ps := ["thing"]) fun _ _ _ _ _ _ us hl => match us, hl with | [_], _ => rfl)
theorem mk_is_width {K : PySem.W.Frag} {h : Heap} {mg : Str → Option Value} {f : Addr} {od an : Option Addr} {sl : Array (Option Value)} {oc kV dc pm cd ct : Value} (X : K.In h) (G : h.Ns mainGlobals mg) (a : PySem.W.nsIn K mainGlobals "is_width" = some (some (.ref f)))
    (l : K.lookup f = some ⟨oc, od, .func (PySem.W.fnOf "is_width" "is_width" (defArgs sIsWidth) (defBody sIsWidth) (defScope sIsWidth) .none kV dc pm an cd ct), sl⟩) (c : PySem.W.codeIn K cd "is_width" = true) (k : PySem.W.keepIn K (.ref f) = true) : Nonempty (Df K mg "is_width" sIsWidth ["thing"]) :=
  have F := fun_mk (st := sIsWidth) l c k
  df_mk X G a F (F.binds (ps := ["thing"]) fun _ _ _ _ _ _ us hl => match us, hl with | [_], _ => rfl)
theorem mk_is_column {K : PySem.W.Frag} {h : Heap} {mg : Str → Option Value} {f : Addr} {od an : Option Addr} {sl : Array (Option Value)} {oc kV dc pm cd ct : Value} (X : K.In h) (G : h.Ns mainGlobals mg) (a : PySem.W.nsIn K mainGlobals "is_column" = some (some (.ref f)))
    (l : K.lookup f = some ⟨oc, od, .func (PySem.W.fnOf "is_column" "is_column" (defArgs sIsCol) (defBody sIsCol) (defScope sIsCol) .none kV dc pm an cd ct), sl⟩) (c : PySem.W.codeIn K cd "is_column" = true) (k : PySem.W.keepIn K (.ref f) = true) : Nonempty (Df K mg "is_column" sIsCol ["width", "thing"]) :=
  have F := fun_mk (st := sIsCol) l c k
  df_mk X G a F (F.binds (ps := ["width", "thing"]) fun _ _ _ _ _ _ us hl => match us, hl with | [_, _], _ => rfl)
theorem mk_is_rule {K : PySem.W.Frag} {h : Heap} {mg : Str → Option Value} {f : Addr} {od an : Option Addr} {sl : Array (Option Value)} {oc kV dc pm cd ct : Value} (X : K.In h) (G : h.Ns mainGlobals mg) (a : PySem.W.nsIn K mainGlobals "is_rule" = some (some (.ref f)))
    (l : K.lookup f = some ⟨oc, od, .func (PySem.W.fnOf "is_rule" "is_rule" (defArgs sIsRule) (defBody sIsRule) (defScope sIsRule) .none kV dc pm an cd ct), sl⟩) (c : PySem.W.codeIn K cd "is_rule" = true) (k : PySem.W.keepIn K (.ref f) = true) : Nonempty (Df K mg "is_rule" sIsRule ["width", "thing"]) :=
  have F := fun_mk (st := sIsRule) l c k
  df_mk X G a F (F.binds (ps := ["width", "thing"]) fun _ _ _ _ _ _ us hl => match us, hl with | [_, _], _ => rfl)
theorem mk_every_rule {K : PySem.W.Frag} {h : Heap} {mg : Str → Option Value} {f : Addr} {od an : Option Addr} {sl : Array (Option Value)} {oc kV dc pm cd ct : Value} (X : K.In h) (G : h.Ns mainGlobals mg) (a : PySem.W.nsIn K mainGlobals "every_rule" = some (some (.ref f)))
    (l : K.lookup f = some ⟨oc, od, .func (PySem.W.fnOf "every_rule" "every_rule" (defArgs sEvery) (defBody sEvery) (defScope sEvery) .none kV dc pm an cd ct), sl⟩) (c : PySem.W.codeIn K cd "every_rule" = true) (k : PySem.W.keepIn K (.ref f) = true) : Nonempty (Df K mg "every_rule" sEvery ["width"]) :=
  have F := fun_mk (st := sEvery) l c k
  df_mk X G a F (F.binds (ps := ["width"]) fun _ _ _ _ _ _ us hl => match us, hl with | [_], _ => rfl)
theorem mk_line_of {K : PySem.W.Frag} {h : Heap} {mg : Str → Option Value} {f : Addr} {od an : Option Addr} {sl : Array (Option Value)} {oc kV dc pm cd ct : Value} (X : K.In h) (G : h.Ns mainGlobals mg) (a : PySem.W.nsIn K mainGlobals "line_of" = some (some (.ref f)))
    (l : K.lookup f = some ⟨oc, od, .func (PySem.W.fnOf "line_of" "line_of" (defArgs sLine) (defBody sLine) (defScope sLine) .none kV dc pm an cd ct), sl⟩) (c : PySem.W.codeIn K cd "line_of" = true) (k : PySem.W.keepIn K (.ref f) = true) : Nonempty (Df K mg "line_of" sLine ["rule"]) :=
  have F := fun_mk (st := sLine) l c k
  df_mk X G a F (F.binds (ps := ["rule"]) fun _ _ _ _ _ _ us hl => match us, hl with | [_], _ => rfl)
theorem mk_rules_of {K : PySem.W.Frag} {h : Heap} {mg : Str → Option Value} {f : Addr} {od an : Option Addr} {sl : Array (Option Value)} {oc kV dc pm cd ct : Value} (X : K.In h) (G : h.Ns mainGlobals mg) (a : PySem.W.nsIn K mainGlobals "rules_of" = some (some (.ref f)))
    (l : K.lookup f = some ⟨oc, od, .func (PySem.W.fnOf "rules_of" "rules_of" (defArgs sRulesOf) (defBody sRulesOf) (defScope sRulesOf) .none kV dc pm an cd ct), sl⟩) (c : PySem.W.codeIn K cd "rules_of" = true) (k : PySem.W.keepIn K (.ref f) = true) : Nonempty (Df K mg "rules_of" sRulesOf ["width", "text"]) :=
  have F := fun_mk (st := sRulesOf) l c k
  df_mk X G a F (F.binds (ps := ["width", "text"]) fun _ _ _ _ _ _ us hl => match us, hl with | [_, _], _ => rfl)
theorem mk_is_row {K : PySem.W.Frag} {h : Heap} {mg : Str → Option Value} {f : Addr} {od an : Option Addr} {sl : Array (Option Value)} {oc kV dc pm cd ct : Value} (X : K.In h) (G : h.Ns mainGlobals mg) (a : PySem.W.nsIn K mainGlobals "is_row" = some (some (.ref f)))
    (l : K.lookup f = some ⟨oc, od, .func (PySem.W.fnOf "is_row" "is_row" (defArgs sIsRow) (defBody sIsRow) (defScope sIsRow) .none kV dc pm an cd ct), sl⟩) (c : PySem.W.codeIn K cd "is_row" = true) (k : PySem.W.keepIn K (.ref f) = true) : Nonempty (Df K mg "is_row" sIsRow ["width", "thing"]) :=
  have F := fun_mk (st := sIsRow) l c k
  df_mk X G a F (F.binds (ps := ["width", "thing"]) fun _ _ _ _ _ _ us hl => match us, hl with | [_, _], _ => rfl)
theorem mk_holds {K : PySem.W.Frag} {h : Heap} {mg : Str → Option Value} {f : Addr} {od an : Option Addr} {sl : Array (Option Value)} {oc kV dc pm cd ct : Value} (X : K.In h) (G : h.Ns mainGlobals mg) (a : PySem.W.nsIn K mainGlobals "holds" = some (some (.ref f)))
    (l : K.lookup f = some ⟨oc, od, .func (PySem.W.fnOf "holds" "holds" (defArgs sHo) (defBody sHo) (defScope sHo) .none kV dc pm an cd ct), sl⟩) (c : PySem.W.codeIn K cd "holds" = true) (k : PySem.W.keepIn K (.ref f) = true) : Nonempty (Df K mg "holds" sHo ["rows", "rule"]) :=
  have F := fun_mk (st := sHo) l c k
  df_mk X G a F (F.binds (ps := ["rows", "rule"]) fun _ _ _ _ _ _ us hl => match us, hl with | [_, _], _ => rfl)
theorem mk_rules_broken {K : PySem.W.Frag} {h : Heap} {mg : Str → Option Value} {f : Addr} {od an : Option Addr} {sl : Array (Option Value)} {oc kV dc pm cd ct : Value} (X : K.In h) (G : h.Ns mainGlobals mg) (a : PySem.W.nsIn K mainGlobals "rules_broken" = some (some (.ref f)))
    (l : K.lookup f = some ⟨oc, od, .func (PySem.W.fnOf "rules_broken" "rules_broken" (defArgs sBrk) (defBody sBrk) (defScope sBrk) .none kV dc pm an cd ct), sl⟩) (c : PySem.W.codeIn K cd "rules_broken" = true) (k : PySem.W.keepIn K (.ref f) = true) : Nonempty (Df K mg "rules_broken" sBrk ["rules", "rows"]) :=
  have F := fun_mk (st := sBrk) l c k
  df_mk X G a F (F.binds (ps := ["rules", "rows"]) fun _ _ _ _ _ _ us hl => match us, hl with | [_, _], _ => rfl)
theorem mk_l_said {K : PySem.W.Frag} {h : Heap} {mg : Str → Option Value} {f : Addr} {od an : Option Addr} {sl : Array (Option Value)} {oc kV dc pm cd ct : Value} (X : K.In h) (G : h.Ns mainGlobals mg) (a : PySem.W.nsIn K mainGlobals "_law_said" = some (some (.ref f)))
    (l : K.lookup f = some ⟨oc, od, .func (PySem.W.fnOf "_law_said" "_law_said" (defArgs sSaid) (defBody sSaid) (defScope sSaid) .none kV dc pm an cd ct), sl⟩) (c : PySem.W.codeIn K cd "_law_said" = true) (k : PySem.W.keepIn K (.ref f) = true) : Nonempty (Df K mg "_law_said" sSaid ["_law_call"]) :=
  have F := fun_mk (st := sSaid) l c k
  df_mk X G a F (F.binds (ps := ["_law_call"]) fun _ _ _ _ _ _ us hl => match us, hl with | [_], _ => rfl)
theorem mk_l_source {K : PySem.W.Frag} {h : Heap} {mg : Str → Option Value} {f : Addr} {od an : Option Addr} {sl : Array (Option Value)} {oc kV dc pm cd ct : Value} (X : K.In h) (G : h.Ns mainGlobals mg) (a : PySem.W.nsIn K mainGlobals "_law_source" = some (some (.ref f)))
    (l : K.lookup f = some ⟨oc, od, .func (PySem.W.fnOf "_law_source" "_law_source" (defArgs sSource) (defBody sSource) (defScope sSource) .none kV dc pm an cd ct), sl⟩) (c : PySem.W.codeIn K cd "_law_source" = true) (k : PySem.W.keepIn K (.ref f) = true) : Nonempty (Df K mg "_law_source" sSource ["_law_cell_here"]) :=
  have F := fun_mk (st := sSource) l c k
  df_mk X G a F (F.binds (ps := ["_law_cell_here"]) fun _ _ _ _ _ _ us hl => match us, hl with | [_], _ => rfl)
theorem mk_l_cell {K : PySem.W.Frag} {h : Heap} {mg : Str → Option Value} {f : Addr} {od an : Option Addr} {sl : Array (Option Value)} {oc kV dc pm cd ct : Value} (X : K.In h) (G : h.Ns mainGlobals mg) (a : PySem.W.nsIn K mainGlobals "_law_cell" = some (some (.ref f)))
    (l : K.lookup f = some ⟨oc, od, .func (PySem.W.fnOf "_law_cell" "_law_cell" (defArgs sCell) (defBody sCell) (defScope sCell) .none kV dc pm an cd ct), sl⟩) (c : PySem.W.codeIn K cd "_law_cell" = true) (k : PySem.W.keepIn K (.ref f) = true) : Nonempty (Df K mg "_law_cell" sCell ["_law_script", "_law_index"]) :=
  have F := fun_mk (st := sCell) l c k
  df_mk X G a F (F.binds (ps := ["_law_script", "_law_index"]) fun _ _ _ _ _ _ us hl => match us, hl with | [_, _], _ => rfl)
theorem mk_l_draw {K : PySem.W.Frag} {h : Heap} {mg : Str → Option Value} {f : Addr} {od an : Option Addr} {sl : Array (Option Value)} {oc kV dc pm cd ct : Value} (X : K.In h) (G : h.Ns mainGlobals mg) (a : PySem.W.nsIn K mainGlobals "_law_draw" = some (some (.ref f)))
    (l : K.lookup f = some ⟨oc, od, .func (PySem.W.fnOf "_law_draw" "_law_draw" (defArgs sDraw) (defBody sDraw) (defScope sDraw) .none kV dc pm an cd ct), sl⟩) (c : PySem.W.codeIn K cd "_law_draw" = true) (k : PySem.W.keepIn K (.ref f) = true) : Nonempty (Df K mg "_law_draw" sDraw ["_law_source_here", "_law_many"]) :=
  have F := fun_mk (st := sDraw) l c k
  df_mk X G a F (F.binds (ps := ["_law_source_here", "_law_many"]) fun _ _ _ _ _ _ us hl => match us, hl with | [_, _], _ => rfl)
theorem mk_l_choose {K : PySem.W.Frag} {h : Heap} {mg : Str → Option Value} {f : Addr} {od an : Option Addr} {sl : Array (Option Value)} {oc kV dc pm cd ct : Value} (X : K.In h) (G : h.Ns mainGlobals mg) (a : PySem.W.nsIn K mainGlobals "_law_choose" = some (some (.ref f)))
    (l : K.lookup f = some ⟨oc, od, .func (PySem.W.fnOf "_law_choose" "_law_choose" (defArgs sChoose) (defBody sChoose) (defScope sChoose) .none kV dc pm an cd ct), sl⟩) (c : PySem.W.codeIn K cd "_law_choose" = true) (k : PySem.W.keepIn K (.ref f) = true) : Nonempty (Df K mg "_law_choose" sChoose ["_law_source_here", "_law_values"]) :=
  have F := fun_mk (st := sChoose) l c k
  df_mk X G a F (F.binds (ps := ["_law_source_here", "_law_values"]) fun _ _ _ _ _ _ us hl => match us, hl with | [_, _], _ => rfl)
theorem mk_l_given {K : PySem.W.Frag} {h : Heap} {mg : Str → Option Value} {f : Addr} {od an : Option Addr} {sl : Array (Option Value)} {oc kV dc pm cd ct : Value} (X : K.In h) (G : h.Ns mainGlobals mg) (a : PySem.W.nsIn K mainGlobals "_law_given" = some (some (.ref f)))
    (l : K.lookup f = some ⟨oc, od, .func (PySem.W.fnOf "_law_given" "_law_given" (defArgs sGv) (defBody sGv) (defScope sGv) .none kV dc pm an cd ct), sl⟩) (c : PySem.W.codeIn K cd "_law_given" = true) (k : PySem.W.keepIn K (.ref f) = true) : Nonempty (Df K mg "_law_given" sGv ["_law_source_here", "_law_many", "_law_size"]) :=
  have F := fun_mk (st := sGv) l c k
  df_mk X G a F (F.binds (ps := ["_law_source_here", "_law_many", "_law_size"]) fun _ _ _ _ _ _ us hl => match us, hl with | [_, _, _], _ => rfl)
theorem mk_l_words {K : PySem.W.Frag} {h : Heap} {mg : Str → Option Value} {f : Addr} {od an : Option Addr} {sl : Array (Option Value)} {oc kV dc pm cd ct : Value} (X : K.In h) (G : h.Ns mainGlobals mg) (a : PySem.W.nsIn K mainGlobals "_law_words" = some (some (.ref f)))
    (l : K.lookup f = some ⟨oc, od, .func (PySem.W.fnOf "_law_words" "_law_words" (defArgs sWd) (defBody sWd) (defScope sWd) .none kV dc pm an cd ct), sl⟩) (c : PySem.W.codeIn K cd "_law_words" = true) (k : PySem.W.keepIn K (.ref f) = true) : Nonempty (Df K mg "_law_words" sWd ["_law_given_here"]) :=
  have F := fun_mk (st := sWd) l c k
  df_mk X G a F (F.binds (ps := ["_law_given_here"]) fun _ _ _ _ _ _ us hl => match us, hl with | [_], _ => rfl)
theorem mk_l_row {K : PySem.W.Frag} {h : Heap} {mg : Str → Option Value} {f : Addr} {od an : Option Addr} {sl : Array (Option Value)} {oc kV dc pm cd ct : Value} (X : K.In h) (G : h.Ns mainGlobals mg) (a : PySem.W.nsIn K mainGlobals "_law_row" = some (some (.ref f)))
    (l : K.lookup f = some ⟨oc, od, .func (PySem.W.fnOf "_law_row" "_law_row" (defArgs sRwl) (defBody sRwl) (defScope sRwl) .none kV dc pm an cd ct), sl⟩) (c : PySem.W.codeIn K cd "_law_row" = true) (k : PySem.W.keepIn K (.ref f) = true) : Nonempty (Df K mg "_law_row" sRwl ["_law_source_here", "_law_many", "_law_listed"]) :=
  have F := fun_mk (st := sRwl) l c k
  df_mk X G a F (F.binds (ps := ["_law_source_here", "_law_many", "_law_listed"]) fun _ _ _ _ _ _ us hl => match us, hl with | [_, _, _], _ => rfl)
theorem mk_l_made {K : PySem.W.Frag} {h : Heap} {mg : Str → Option Value} {f : Addr} {od an : Option Addr} {sl : Array (Option Value)} {oc kV dc pm cd ct : Value} (X : K.In h) (G : h.Ns mainGlobals mg) (a : PySem.W.nsIn K mainGlobals "_law_made" = some (some (.ref f)))
    (l : K.lookup f = some ⟨oc, od, .func (PySem.W.fnOf "_law_made" "_law_made" (defArgs sMdl) (defBody sMdl) (defScope sMdl) .none kV dc pm an cd ct), sl⟩) (c : PySem.W.codeIn K cd "_law_made" = true) (k : PySem.W.keepIn K (.ref f) = true) : Nonempty (Df K mg "_law_made" sMdl ["_law_kind", "_law_asked", "_law_cap"]) :=
  have F := fun_mk (st := sMdl) l c k
  df_mk X G a F (F.binds (ps := ["_law_kind", "_law_asked", "_law_cap"]) fun _ _ _ _ _ _ us hl => match us, hl with | [_, _, _], _ => rfl)
theorem mk_l_is_told_right {K : PySem.W.Frag} {h : Heap} {mg : Str → Option Value} {f : Addr} {od an : Option Addr} {sl : Array (Option Value)} {oc kV dc pm cd ct : Value} (X : K.In h) (G : h.Ns mainGlobals mg) (a : PySem.W.nsIn K mainGlobals "_law_is_told_right" = some (some (.ref f)))
    (l : K.lookup f = some ⟨oc, od, .func (PySem.W.fnOf "_law_is_told_right" "_law_is_told_right" (defArgs sTrt) (defBody sTrt) (defScope sTrt) .none kV dc pm an cd ct), sl⟩) (c : PySem.W.codeIn K cd "_law_is_told_right" = true) (k : PySem.W.keepIn K (.ref f) = true) : Nonempty (Df K mg "_law_is_told_right" sTrt ["_law_log", "_law_kind"]) :=
  have F := fun_mk (st := sTrt) l c k
  df_mk X G a F (F.binds (ps := ["_law_log", "_law_kind"]) fun _ _ _ _ _ _ us hl => match us, hl with | [_, _], _ => rfl)
theorem mk_glb {K : PySem.W.Frag} {h : Heap} {mg : Str → Option Value} {kA : Addr} {t t1 t2 : Tok} {od : Option Addr} {n : Nat} {sl : Array (Option Value)} (X : K.In h) (G : h.Ns mainGlobals mg) (len : PySem.W.nsIn K mainGlobals "len" = some none) (max : PySem.W.nsIn K mainGlobals "max" = some none) (min : PySem.W.nsIn K mainGlobals "min" = some none) (isi : PySem.W.nsIn K mainGlobals "isinstance" = some none) (int : PySem.W.nsIn K mainGlobals "int" = some none) (bool : PySem.W.nsIn K mainGlobals "bool" = some none) (str : PySem.W.nsIn K mainGlobals "str" = some none) (tup : PySem.W.nsIn K mainGlobals "tuple" = some none) (rng : PySem.W.nsIn K mainGlobals "range" = some none) (lst : PySem.W.nsIn K mainGlobals "list" = some none) (all : PySem.W.nsIn K mainGlobals "all" = some none) (set : PySem.W.nsIn K mainGlobals "set" = some none) (enu : PySem.W.nsIn K mainGlobals "enumerate" = some none) (rep : PySem.W.nsIn K mainGlobals "repr" = some none) (srt : PySem.W.nsIn K mainGlobals "sorted" = some none) (zip : PySem.W.nsIn K mainGlobals "zip" = some none) (any : PySem.W.nsIn K mainGlobals "any" = some none) (sum : PySem.W.nsIn K mainGlobals "sum" = some none) (rev : PySem.W.nsIn K mainGlobals "reversed" = some none) (dic : PySem.W.nsIn K mainGlobals "dict" = some none) (typ : PySem.W.nsIn K mainGlobals "type" = some none)
    (wid : PySem.W.nsIn K mainGlobals "WIDEST" = some (some (.int 6 t))) (knd : PySem.W.nsIn K mainGlobals "KINDS" = some (some (.ref kA))) (kl : K.lookup kA = some ⟨.type "tuple", od, .seq #[.str "settles" t1, .str "within" t2] n, sl⟩) : Nonempty { z : Unit // ∃ kA, Glb K mg kA } :=
  ⟨⟨(), kA, ⟨PySem.W.mg_none_of X G len, PySem.W.mg_none_of X G max, PySem.W.mg_none_of X G min, PySem.W.mg_none_of X G isi, PySem.W.mg_none_of X G int, PySem.W.mg_none_of X G bool, PySem.W.mg_none_of X G str, PySem.W.mg_none_of X G tup, PySem.W.mg_none_of X G rng, PySem.W.mg_none_of X G lst, PySem.W.mg_none_of X G all, PySem.W.mg_none_of X G set, PySem.W.mg_none_of X G enu, PySem.W.mg_none_of X G rep, PySem.W.mg_none_of X G srt, PySem.W.mg_none_of X G zip, PySem.W.mg_none_of X G any, PySem.W.mg_none_of X G sum, PySem.W.mg_none_of X G rev, PySem.W.mg_none_of X G dic, PySem.W.mg_none_of X G typ, ⟨t, PySem.W.mg_of X G wid⟩, PySem.W.mg_of X G knd, ⟨_, _, _, kl, rfl, rfl, by show 2 ≤ sizeLine; decide, .cons ⟨t1, rfl⟩ (.cons ⟨t2, rfl⟩ .nil)⟩⟩⟩⟩
structure LogFam (P : Program) (K : PySem.W.Frag) (mg : Str → Option Value) : Prop where
  g0 : mg "Log" = some (.ref (HK.ga K "Log"))
  tm0 : TxtM K (HK.ga K "Log")
  mk0 : Mk K (HK.ga K "Log") (HK.ma K (HK.ga K "Log") "__init__")
  frules0 : ∃ fd, Fun K "rules" "Log.rules" slRlM (HK.ra K (HK.ma K (HK.ga K "Log") "rules") "property") fd ∧ Binds K fd ["self"] []
  qrules0 : PropOf K (HK.ga K "Log") "rules" (HK.ma K (HK.ga K "Log") "rules") (HK.ra K (HK.ma K (HK.ga K "Log") "rules") "property")
  ftable0 : ∃ fd, Fun K "table" "Log.table" slTbM (HK.ra K (HK.ma K (HK.ga K "Log") "table") "property") fd ∧ Binds K fd ["self"] []
  qtable0 : PropOf K (HK.ga K "Log") "table" (HK.ma K (HK.ga K "Log") "table") (HK.ra K (HK.ma K (HK.ga K "Log") "table") "property")
  fbroken0 : ∃ fd, Fun K "broken" "Log.broken" slBrM (HK.ra K (HK.ma K (HK.ga K "Log") "broken") "property") fd ∧ Binds K fd ["self"] []
  qbroken0 : PropOf K (HK.ga K "Log") "broken" (HK.ma K (HK.ga K "Log") "broken") (HK.ra K (HK.ma K (HK.ga K "Log") "broken") "property")
  fcl0 : ∃ fd, Fun K "__call__" "Log.__call__" slCll (HK.ma K (HK.ga K "Log") "__call__") fd ∧ Binds K fd ["self", "row"] []
  co0 : StX.CallO K (HK.ga K "Log") (HK.ma K (HK.ga K "Log") "__call__")
  mAdd0 : Meth K (HK.ga K "Log") "add" (HK.ma K (HK.ga K "Log") "add")
  mChg0 : Meth K (HK.ga K "Log") "change" (HK.ma K (HK.ga K "Log") "change")
  mChk0 : Meth K (HK.ga K "Log") "check" (HK.ma K (HK.ga K "Log") "check")
  g1 : mg "Strict" = some (.ref (HK.ga K "Strict"))
  tm1 : TxtM K (HK.ga K "Strict")
  mk1 : Mk K (HK.ga K "Strict") (HK.ma K (HK.ga K "Strict") "__init__")
  frules1 : ∃ fd, Fun K "rules" "Strict.rules" ssRlM (HK.ra K (HK.ma K (HK.ga K "Strict") "rules") "property") fd ∧ Binds K fd ["self"] []
  qrules1 : PropOf K (HK.ga K "Strict") "rules" (HK.ma K (HK.ga K "Strict") "rules") (HK.ra K (HK.ma K (HK.ga K "Strict") "rules") "property")
  ftable1 : ∃ fd, Fun K "table" "Strict.table" ssTbM (HK.ra K (HK.ma K (HK.ga K "Strict") "table") "property") fd ∧ Binds K fd ["self"] []
  qtable1 : PropOf K (HK.ga K "Strict") "table" (HK.ma K (HK.ga K "Strict") "table") (HK.ra K (HK.ma K (HK.ga K "Strict") "table") "property")
  fbroken1 : ∃ fd, Fun K "broken" "Strict.broken" ssBrM (HK.ra K (HK.ma K (HK.ga K "Strict") "broken") "property") fd ∧ Binds K fd ["self"] []
  qbroken1 : PropOf K (HK.ga K "Strict") "broken" (HK.ma K (HK.ga K "Strict") "broken") (HK.ra K (HK.ma K (HK.ga K "Strict") "broken") "property")
  fcl1 : ∃ fd, Fun K "__call__" "Strict.__call__" ssCll (HK.ma K (HK.ga K "Strict") "__call__") fd ∧ Binds K fd ["self", "row"] []
  co1 : StX.CallO K (HK.ga K "Strict") (HK.ma K (HK.ga K "Strict") "__call__")
  mAdd1 : Meth K (HK.ga K "Strict") "add" (HK.ma K (HK.ga K "Strict") "add")
  mChg1 : Meth K (HK.ga K "Strict") "change" (HK.ma K (HK.ga K "Log") "change")
  mChk1 : Meth K (HK.ga K "Strict") "check" (HK.ma K (HK.ga K "Strict") "check")
  g2 : mg "Short" = some (.ref (HK.ga K "Short"))
  tm2 : TxtM K (HK.ga K "Short")
  mk2 : Mk K (HK.ga K "Short") (HK.ma K (HK.ga K "Short") "__init__")
  frules2 : ∃ fd, Fun K "rules" "Short.rules" shRlM (HK.ra K (HK.ma K (HK.ga K "Short") "rules") "property") fd ∧ Binds K fd ["self"] []
  qrules2 : PropOf K (HK.ga K "Short") "rules" (HK.ma K (HK.ga K "Short") "rules") (HK.ra K (HK.ma K (HK.ga K "Short") "rules") "property")
  ftable2 : ∃ fd, Fun K "table" "Short.table" shTbM (HK.ra K (HK.ma K (HK.ga K "Short") "table") "property") fd ∧ Binds K fd ["self"] []
  qtable2 : PropOf K (HK.ga K "Short") "table" (HK.ma K (HK.ga K "Short") "table") (HK.ra K (HK.ma K (HK.ga K "Short") "table") "property")
  fbroken2 : ∃ fd, Fun K "broken" "Short.broken" shBrM (HK.ra K (HK.ma K (HK.ga K "Short") "broken") "property") fd ∧ Binds K fd ["self"] []
  qbroken2 : PropOf K (HK.ga K "Short") "broken" (HK.ma K (HK.ga K "Short") "broken") (HK.ra K (HK.ma K (HK.ga K "Short") "broken") "property")
  fcl2 : ∃ fd, Fun K "__call__" "Short.__call__" shCll (HK.ma K (HK.ga K "Short") "__call__") fd ∧ Binds K fd ["self", "row"] []
  co2 : StX.CallO K (HK.ga K "Short") (HK.ma K (HK.ga K "Short") "__call__")
  mAdd2 : Meth K (HK.ga K "Short") "add" (HK.ma K (HK.ga K "Short") "add")
  mChg2 : Meth K (HK.ga K "Short") "change" (HK.ma K (HK.ga K "Log") "change")
  mChk2 : Meth K (HK.ga K "Short") "check" (HK.ma K (HK.ga K "Short") "check")
  g3 : mg "StrictShort" = some (.ref (HK.ga K "StrictShort"))
  tm3 : TxtM K (HK.ga K "StrictShort")
  mk3 : Mk K (HK.ga K "StrictShort") (HK.ma K (HK.ga K "StrictShort") "__init__")
  frules3 : ∃ fd, Fun K "rules" "StrictShort.rules" sgRlM (HK.ra K (HK.ma K (HK.ga K "StrictShort") "rules") "property") fd ∧ Binds K fd ["self"] []
  qrules3 : PropOf K (HK.ga K "StrictShort") "rules" (HK.ma K (HK.ga K "StrictShort") "rules") (HK.ra K (HK.ma K (HK.ga K "StrictShort") "rules") "property")
  ftable3 : ∃ fd, Fun K "table" "StrictShort.table" sgTbM (HK.ra K (HK.ma K (HK.ga K "StrictShort") "table") "property") fd ∧ Binds K fd ["self"] []
  qtable3 : PropOf K (HK.ga K "StrictShort") "table" (HK.ma K (HK.ga K "StrictShort") "table") (HK.ra K (HK.ma K (HK.ga K "StrictShort") "table") "property")
  fbroken3 : ∃ fd, Fun K "broken" "StrictShort.broken" sgBrM (HK.ra K (HK.ma K (HK.ga K "StrictShort") "broken") "property") fd ∧ Binds K fd ["self"] []
  qbroken3 : PropOf K (HK.ga K "StrictShort") "broken" (HK.ma K (HK.ga K "StrictShort") "broken") (HK.ra K (HK.ma K (HK.ga K "StrictShort") "broken") "property")
  fcl3 : ∃ fd, Fun K "__call__" "StrictShort.__call__" sgCll (HK.ma K (HK.ga K "StrictShort") "__call__") fd ∧ Binds K fd ["self", "row"] []
  co3 : StX.CallO K (HK.ga K "StrictShort") (HK.ma K (HK.ga K "StrictShort") "__call__")
  mAdd3 : Meth K (HK.ga K "StrictShort") "add" (HK.ma K (HK.ga K "StrictShort") "add")
  mChg3 : Meth K (HK.ga K "StrictShort") "change" (HK.ma K (HK.ga K "Log") "change")
  mChk3 : Meth K (HK.ga K "StrictShort") "check" (HK.ma K (HK.ga K "Strict") "check")
  hsuper : mg "super" = none
  gR : mg "Rules" = some (.ref (HK.ga K "Rules"))
  noR : NoIns K (HK.ga K "Rules")
  fi0 : ∃ fd, Fun K "__init__" "Log.__init__" sLInit (HK.ma K (HK.ga K "Log") "__init__") fd ∧ Binds K fd ["self", "rules"] []
  fi1 : ∃ fd, Fun K "__init__" "Strict.__init__" sSInitM (HK.ma K (HK.ga K "Strict") "__init__") fd ∧ Binds K fd ["self", "rules"] []
  fi2 : ∃ fd, FunD K "__init__" "Short.__init__" (defArgs sHInit) (defBody sHInit) (defScope sHInit) [.int 10] [] (HK.ma K (HK.ga K "Short") "__init__") fd
  fi3 : ∃ fd, FunD K "__init__" "StrictShort.__init__" (defArgs sGInit) (defBody sGInit) (defScope sGInit) [.int 10] [] (HK.ma K (HK.ga K "StrictShort") "__init__") fd
  cr0 : ClX.CRead K (HK.ga K "Log") (.type "type")
  cf0 : CFU.CFun K (HK.ga K "Log") (.type "type") "__init__" (HK.ma K (HK.ga K "Log") "__init__")
  cr2 : ClX.CRead K (HK.ga K "Short") (.type "type")
  cf2 : CFU.CFun K (HK.ga K "Short") (.type "type") "__init__" (HK.ma K (HK.ga K "Short") "__init__")
  fchk : ∃ fd, Fun K "check" "Log.check" sLChk (HK.ma K (HK.ga K "Log") "check") fd ∧ Binds K fd ["self", "rows"] []
  fchg : ∃ fd, Fun K "change" "Log.change" sLChg (HK.ma K (HK.ga K "Log") "change") fd ∧ Binds K fd ["self", "table"] []
  fadd : ∃ fd, Fun K "add" "Log.add" sLAdd (HK.ma K (HK.ga K "Log") "add") fd ∧ Binds K fd ["self", "row"] []
  kchk1 : ∃ fd cda cc, FunS K "check" "Strict.check" sSChk (HK.ma K (HK.ga K "Strict") "check") fd cda cc ∧ SUP.SupK P K cda cc (HK.ga K "Strict") ∧ Binds K fd ["self", "rows"] []
  kchk2 : ∃ fd cda cc, FunS K "check" "Short.check" sHChk (HK.ma K (HK.ga K "Short") "check") fd cda cc ∧ SUP.SupK P K cda cc (HK.ga K "Short") ∧ Binds K fd ["self", "rows"] []
  kadd1 : ∃ fd cda cc, FunS K "add" "Strict.add" ssAdd (HK.ma K (HK.ga K "Strict") "add") fd cda cc ∧ SUP.SupK P K cda cc (HK.ga K "Strict") ∧ Binds K fd ["self", "row"] []
  kadd2 : ∃ fd cda cc, FunS K "add" "Short.add" shAdd (HK.ma K (HK.ga K "Short") "add") fd cda cc ∧ SUP.SupK P K cda cc (HK.ga K "Short") ∧ Binds K fd ["self", "row"] []
  kadd3 : ∃ fd cda cc, FunS K "add" "StrictShort.add" sgAdd (HK.ma K (HK.ga K "StrictShort") "add") fd cda cc ∧ SUP.SupK P K cda cc (HK.ga K "StrictShort") ∧ Binds K fd ["self", "row"] []
  check11 : SUP.SupM K (HK.ga K "Strict") (HK.ga K "Strict") "check" (HK.ma K (HK.ga K "Log") "check")
  check22 : SUP.SupM K (HK.ga K "Short") (HK.ga K "Short") "check" (HK.ma K (HK.ga K "Log") "check")
  check31 : SUP.SupM K (HK.ga K "StrictShort") (HK.ga K "Strict") "check" (HK.ma K (HK.ga K "Short") "check")
  check32 : SUP.SupM K (HK.ga K "StrictShort") (HK.ga K "Short") "check" (HK.ma K (HK.ga K "Log") "check")
  add11 : SUP.SupM K (HK.ga K "Strict") (HK.ga K "Strict") "add" (HK.ma K (HK.ga K "Log") "add")
  add22 : SUP.SupM K (HK.ga K "Short") (HK.ga K "Short") "add" (HK.ma K (HK.ga K "Log") "add")
  add31 : SUP.SupM K (HK.ga K "StrictShort") (HK.ga K "Strict") "add" (HK.ma K (HK.ga K "Short") "add")
  add32 : SUP.SupM K (HK.ga K "StrictShort") (HK.ga K "Short") "add" (HK.ma K (HK.ga K "Log") "add")
  add33 : SUP.SupM K (HK.ga K "StrictShort") (HK.ga K "StrictShort") "add" (HK.ma K (HK.ga K "Strict") "add")
structure Kls (K : PySem.W.Frag) (mg : Str → Option Value) where
  C : Addr
  TC : Txt1 K mg C
  fN : Addr
  dN : FuncData
  FN : Fun K "__init__" "Rules.__init__" sInit fN dN
  M : Mk K C fN
  fD : Addr
  dD : FuncData
  FD : Fun K "read" "Rules.read" sRead fD dD
  bD : Binds K dD ["cls", "width", "text"] []
  mc : Value
  pD : Addr
  rD : ClX.CRead K C mc
  cD : ClX.CMet K C mc "read" pD fD
  ic : C8.InsC K C
  fW : Addr
  dW : FuncData
  FW : Fun K "width" "Rules.width" sPW fW dW
  bW : Binds K dW ["self"] []
  pW : Addr
  qW : PropOf K C "width" pW fW
  fR : Addr
  dR : FuncData
  FR : Fun K "rules" "Rules.rules" sPR fR dR
  bR : Binds K dR ["self"] []
  pR : Addr
  qR : PropOf K C "rules" pR fR
  fQ : Addr
  dQ : FuncData
  FQ : Fun K "__contains__" "Rules.__contains__" sRCon fQ dQ
  bQ : Binds K dQ ["self", "thing"] []
  aN2 : PySem.W.findIn K (.ref C) "__contains__" = some (some (.ref fQ))
  iN2 : PySem.W.isFn K (.ref fQ) = true
theorem mk_cls {K : PySem.W.Frag} {h : Heap} {mg : Str → Option Value} {C fN fD fW fR fQ : Addr} {odN anN : Option Addr} {slN : Array (Option Value)} {ocN kVN dcN pmN cdN ctN : Value} {pD : Addr} {rest : List Value} {odD anD : Option Addr} {slD : Array (Option Value)} {ocD kVD dcD pmD cdD ctD : Value} {pW : Addr} {restW : List Value} {odW anW : Option Addr} {slW : Array (Option Value)} {ocW kVW dcW pmW cdW ctW : Value} {pR : Addr} {restR : List Value} {odR anR : Option Addr} {slR : Array (Option Value)} {ocR kVR dcR pmR cdR ctR : Value} {odQ anQ : Option Addr} {slQ : Array (Option Value)} {ocQ kVQ dcQ pmQ cdQ ctQ : Value} (X : K.In h) (G : h.Ns mainGlobals mg)
    (aC : PySem.W.nsIn K mainGlobals "Rules" = some (some (.ref C))) (pg : PySem.W.plainGet K C Str.empty = true) (hd : PySem.W.hasDictIn K C = true) (po : PySem.W.plainOver K C = true) (sa : PySem.W.findIn K (.ref C) "__setattr__" = some (some (.builtin "object.__setattr__"))) (kc : PySem.W.keepIn K (.ref C) = true) (nS : PySem.W.findIn K (.ref C) "span" = some none) (nG : PySem.W.findIn K (.ref C) "given" = some none) (mk : PySem.W.makesIn K C = true) (aN : PySem.W.findIn K (.ref C) "__init__" = some (some (.ref fN))) (iN : PySem.W.isFn K (.ref fN) = true) (lN : K.lookup fN = some ⟨ocN, odN, .func (PySem.W.fnOf "__init__" "Rules.__init__" (defArgs sInit) (defBody sInit) (defScope sInit) .none kVN dcN pmN anN cdN ctN), slN⟩) (cN : PySem.W.codeIn K cdN "Rules.__init__" = true) (kN : PySem.W.keepIn K (.ref fN) = true) (rd : PySem.W.readsIn K C (.type "type") = true) (ga : PySem.W.specialIn K (.ref C) "__getattribute__" = some (some (.builtin "type.__getattribute__"))) (aD : PySem.W.findCls K (.ref C) (.type "type") "read" = some (.get (.builtin "classmethod.__get__") (.ref pD) .none (.ref C))) (rD : PySem.W.recIn K pD "classmethod" = some (.ref fD :: rest)) (iD : PySem.W.fnIn K fD = true) (lD : K.lookup fD = some ⟨ocD, odD, .func (PySem.W.fnOf "read" "Rules.read" (defArgs sRead) (defBody sRead) (defScope sRead) .none kVD dcD pmD anD cdD ctD), slD⟩) (cD : PySem.W.codeIn K cdD "Rules.read" = true) (kD : PySem.W.keepIn K (.ref fD) = true) (i1 : PySem.W.findIn K (.ref C) "__class__" = some (some (.builtin "object.__class__"))) (i2 : PySem.W.specialIn K (.builtin "object.__class__") "__get__" = some (some (.builtin "getset_descriptor.__get__"))) (i3 : PySem.W.takesIn K (.builtin "object.__class__") = some true) (i4 : PySem.W.mroIn K C (.type "object") = some true) (q1W : PySem.W.findIn K (.ref C) "width" = some (some (.ref pW))) (q2W : PySem.W.specialIn K (.ref pW) "__get__" = some (some (.builtin "property.__get__"))) (q3W : PySem.W.takesIn K (.ref pW) = some true) (q4W : PySem.W.recIn K pW "property" = some (.ref fW :: restW)) (lW : K.lookup fW = some ⟨ocW, odW, .func (PySem.W.fnOf "width" "Rules.width" (defArgs sPW) (defBody sPW) (defScope sPW) .none kVW dcW pmW anW cdW ctW), slW⟩) (cW : PySem.W.codeIn K cdW "Rules.width" = true) (kW : PySem.W.keepIn K (.ref fW) = true) (q1R : PySem.W.findIn K (.ref C) "rules" = some (some (.ref pR))) (q2R : PySem.W.specialIn K (.ref pR) "__get__" = some (some (.builtin "property.__get__"))) (q3R : PySem.W.takesIn K (.ref pR) = some true) (q4R : PySem.W.recIn K pR "property" = some (.ref fR :: restR)) (lR : K.lookup fR = some ⟨ocR, odR, .func (PySem.W.fnOf "rules" "Rules.rules" (defArgs sPR) (defBody sPR) (defScope sPR) .none kVR dcR pmR anR cdR ctR), slR⟩) (cR : PySem.W.codeIn K cdR "Rules.rules" = true) (kR : PySem.W.keepIn K (.ref fR) = true) (aN2 : PySem.W.findIn K (.ref C) "__contains__" = some (some (.ref fQ))) (iN2 : PySem.W.isFn K (.ref fQ) = true) (lQ : K.lookup fQ = some ⟨ocQ, odQ, .func (PySem.W.fnOf "__contains__" "Rules.__contains__" (defArgs sRCon) (defBody sRCon) (defScope sRCon) .none kVQ dcQ pmQ anQ cdQ ctQ), slQ⟩) (cQ : PySem.W.codeIn K cdQ "Rules.__contains__" = true) (kQ : PySem.W.keepIn K (.ref fQ) = true) : Nonempty (Kls K mg) :=
  have FN := fun_mk (st := sInit) lN cN kN
  have FD := fun_mk (st := sRead) lD cD kD
  have FW := fun_mk (st := sPW) lW cW kW
  have FR := fun_mk (st := sPR) lR cR kR
  have FQ := fun_mk (st := sRCon) lQ cQ kQ
  ⟨⟨C, ⟨⟨pg, hd, po, sa⟩, nS, nG, PySem.W.mg_of X G aC⟩, fN, _, FN, ⟨mk, aN, iN, kc⟩, fD, _, FD, FD.binds (ps := ["cls", "width", "text"]) (fun _ _ _ _ _ _ us hl => match us, hl with | [_, _, _], _ => rfl), .type "type", pD, ⟨rd, ga⟩, ⟨aD, ⟨rest, rD⟩, iD⟩, ⟨⟨pg, hd, po, sa⟩, i1, i2, i3, i4, kit_self⟩, fW, _, FW, FW.binds (ps := ["self"]) (fun _ _ _ _ _ _ us hl => match us, hl with | [_], _ => rfl), pW, ⟨q1W, q2W, q3W, ⟨restW, q4W⟩⟩, fR, _, FR, FR.binds (ps := ["self"]) (fun _ _ _ _ _ _ us hl => match us, hl with | [_], _ => rfl), pR, ⟨q1R, q2R, q3R, ⟨restR, q4R⟩⟩, fQ, _, FQ, FQ.binds (ps := ["self", "thing"]) (fun _ _ _ _ _ _ us hl => match us, hl with | [_, _], _ => rfl), aN2, iN2⟩⟩
structure KlsT (K : PySem.W.Frag) (mg : Str → Option Value) where
  C : Addr
  TC : TxtT K mg C
  fN : Addr
  dN : FuncData
  FN : Fun K "__init__" "Table.__init__" sTInit fN dN
  M : Mk K C fN
  fC : Addr
  dC : FuncData
  FC : Fun K "__call__" "Table.__call__" sTCall fC dC
  bC : Binds K dC ["self", "rule"] []
  cC : StX.CallO K C fC
  ic : C8.InsC K C
  fR : Addr
  dR : FuncData
  FR : Fun K "rows" "Table.rows" sTR fR dR
  bR : Binds K dR ["self"] []
  pR : Addr
  qR : PropOf K C "rows" pR fR
  fQ : Addr
  dQ : FuncData
  FQ : Fun K "counts" "Table.counts" sTCnt fQ dQ
  bQ : Binds K dQ ["self"] []
  pQ : Addr
  qQ : PropOf K C "counts" pQ fQ
  fE : Addr
  dE : FuncData
  FE : Fun K "__eq__" "Table.__eq__" sTEq fE dE
  bE : Binds K dE ["self", "other"] []
  aE : PySem.W.findIn K (.ref C) "__eq__" = some (some (.ref fE))
  iE : PySem.W.isFn K (.ref fE) = true
  nE : PySem.W.findIn K (.ref C) "__ne__" = some (some (.builtin "object.__ne__"))
  mE : PySem.W.mroIn K C (.type "object") = some true
  fO : Addr
  dO : FuncData
  FO : Fun K "obeyed" "Table.obeyed" sObey fO dO
  bO : Binds K dO ["self"] []
  mO : Meth K C "obeyed" fO
theorem mk_clsT {K : PySem.W.Frag} {h : Heap} {mg : Str → Option Value} {C fN fC fR fQ fE fO : Addr} {odN anN : Option Addr} {slN : Array (Option Value)} {ocN kVN dcN pmN cdN ctN : Value} {odC anC : Option Addr} {slC : Array (Option Value)} {ocC kVC dcC pmC cdC ctC : Value} {pR : Addr} {restR : List Value} {odR anR : Option Addr} {slR : Array (Option Value)} {ocR kVR dcR pmR cdR ctR : Value} {pQ : Addr} {restQ : List Value} {odQ anQ : Option Addr} {slQ : Array (Option Value)} {ocQ kVQ dcQ pmQ cdQ ctQ : Value} {odE anE : Option Addr} {slE : Array (Option Value)} {ocE kVE dcE pmE cdE ctE : Value} {odO anO : Option Addr} {slO : Array (Option Value)} {ocO kVO dcO pmO cdO ctO : Value} (X : K.In h) (G : h.Ns mainGlobals mg)
    (aC : PySem.W.nsIn K mainGlobals "Table" = some (some (.ref C))) (pg : PySem.W.plainGet K C Str.empty = true) (hd : PySem.W.hasDictIn K C = true) (po : PySem.W.plainOver K C = true) (sa : PySem.W.findIn K (.ref C) "__setattr__" = some (some (.builtin "object.__setattr__"))) (kc : PySem.W.keepIn K (.ref C) = true) (nS : PySem.W.findIn K (.ref C) "span" = some none) (nL : PySem.W.findIn K (.ref C) "lines" = some none) (mk : PySem.W.makesIn K C = true) (aN : PySem.W.findIn K (.ref C) "__init__" = some (some (.ref fN))) (iN : PySem.W.isFn K (.ref fN) = true) (lN : K.lookup fN = some ⟨ocN, odN, .func (PySem.W.fnOf "__init__" "Table.__init__" (defArgs sTInit) (defBody sTInit) (defScope sTInit) .none kVN dcN pmN anN cdN ctN), slN⟩) (cN : PySem.W.codeIn K cdN "Table.__init__" = true) (kN : PySem.W.keepIn K (.ref fN) = true) (aK : PySem.W.findIn K (.ref C) "__call__" = some (some (.ref fC))) (iK : PySem.W.isFn K (.ref fC) = true) (jK : PySem.W.fnIn K fC = true) (lC : K.lookup fC = some ⟨ocC, odC, .func (PySem.W.fnOf "__call__" "Table.__call__" (defArgs sTCall) (defBody sTCall) (defScope sTCall) .none kVC dcC pmC anC cdC ctC), slC⟩) (cC : PySem.W.codeIn K cdC "Table.__call__" = true) (kC : PySem.W.keepIn K (.ref fC) = true) (i1 : PySem.W.findIn K (.ref C) "__class__" = some (some (.builtin "object.__class__"))) (i2 : PySem.W.specialIn K (.builtin "object.__class__") "__get__" = some (some (.builtin "getset_descriptor.__get__"))) (i3 : PySem.W.takesIn K (.builtin "object.__class__") = some true) (i4 : PySem.W.mroIn K C (.type "object") = some true) (q1R : PySem.W.findIn K (.ref C) "rows" = some (some (.ref pR))) (q2R : PySem.W.specialIn K (.ref pR) "__get__" = some (some (.builtin "property.__get__"))) (q3R : PySem.W.takesIn K (.ref pR) = some true) (q4R : PySem.W.recIn K pR "property" = some (.ref fR :: restR)) (lR : K.lookup fR = some ⟨ocR, odR, .func (PySem.W.fnOf "rows" "Table.rows" (defArgs sTR) (defBody sTR) (defScope sTR) .none kVR dcR pmR anR cdR ctR), slR⟩) (cR : PySem.W.codeIn K cdR "Table.rows" = true) (kR : PySem.W.keepIn K (.ref fR) = true) (q1Q : PySem.W.findIn K (.ref C) "counts" = some (some (.ref pQ))) (q2Q : PySem.W.specialIn K (.ref pQ) "__get__" = some (some (.builtin "property.__get__"))) (q3Q : PySem.W.takesIn K (.ref pQ) = some true) (q4Q : PySem.W.recIn K pQ "property" = some (.ref fQ :: restQ)) (lQ : K.lookup fQ = some ⟨ocQ, odQ, .func (PySem.W.fnOf "counts" "Table.counts" (defArgs sTCnt) (defBody sTCnt) (defScope sTCnt) .none kVQ dcQ pmQ anQ cdQ ctQ), slQ⟩) (cQ : PySem.W.codeIn K cdQ "Table.counts" = true) (kQ : PySem.W.keepIn K (.ref fQ) = true) (aE : PySem.W.findIn K (.ref C) "__eq__" = some (some (.ref fE))) (iE : PySem.W.isFn K (.ref fE) = true) (nE : PySem.W.findIn K (.ref C) "__ne__" = some (some (.builtin "object.__ne__"))) (mE : PySem.W.mroIn K C (.type "object") = some true) (lE : K.lookup fE = some ⟨ocE, odE, .func (PySem.W.fnOf "__eq__" "Table.__eq__" (defArgs sTEq) (defBody sTEq) (defScope sTEq) .none kVE dcE pmE anE cdE ctE), slE⟩) (cE : PySem.W.codeIn K cdE "Table.__eq__" = true) (kE : PySem.W.keepIn K (.ref fE) = true) (aO : PySem.W.findIn K (.ref C) "obeyed" = some (some (.ref fO))) (iO : PySem.W.isFn K (.ref fO) = true) (lO : K.lookup fO = some ⟨ocO, odO, .func (PySem.W.fnOf "obeyed" "Table.obeyed" (defArgs sObey) (defBody sObey) (defScope sObey) .none kVO dcO pmO anO cdO ctO), slO⟩) (cO : PySem.W.codeIn K cdO "Table.obeyed" = true) (kO : PySem.W.keepIn K (.ref fO) = true) : Nonempty (KlsT K mg) :=
  have FN := fun_mk (st := sTInit) lN cN kN
  have FC := fun_mk (st := sTCall) lC cC kC
  have FR := fun_mk (st := sTR) lR cR kR
  have FQ := fun_mk (st := sTCnt) lQ cQ kQ
  have FE := fun_mk (st := sTEq) lE cE kE
  have FO := fun_mk (st := sObey) lO cO kO
  ⟨⟨C, ⟨⟨pg, hd, po, sa⟩, nS, nL, PySem.W.mg_of X G aC⟩, fN, _, FN, ⟨mk, aN, iN, kc⟩, fC, _, FC, FC.binds (ps := ["self", "rule"]) (fun _ _ _ _ _ _ us hl => match us, hl with | [_, _], _ => rfl), ⟨aK, iK, jK⟩, ⟨⟨pg, hd, po, sa⟩, i1, i2, i3, i4, kit_self⟩, fR, _, FR, FR.binds (ps := ["self"]) (fun _ _ _ _ _ _ us hl => match us, hl with | [_], _ => rfl), pR, ⟨q1R, q2R, q3R, ⟨restR, q4R⟩⟩, fQ, _, FQ, FQ.binds (ps := ["self"]) (fun _ _ _ _ _ _ us hl => match us, hl with | [_], _ => rfl), pQ, ⟨q1Q, q2Q, q3Q, ⟨restQ, q4Q⟩⟩, fE, _, FE, FE.binds (ps := ["self", "other"]) (fun _ _ _ _ _ _ us hl => match us, hl with | [_, _], _ => rfl), aE, iE, nE, mE, fO, _, FO, FO.binds (ps := ["self"]) (fun _ _ _ _ _ _ us hl => match us, hl with | [_], _ => rfl), ⟨aO, iO, kO⟩⟩⟩
theorem mk_glbT {K : PySem.W.Frag} {h : Heap} {mg : Str → Option Value} {t1 t2 : Tok} (X : K.In h) (G : h.Ns mainGlobals mg) (a : PySem.W.nsIn K mainGlobals "LARGEST_VALUE" = some (some (.int 9999 t1))) (b : PySem.W.nsIn K mainGlobals "MOST_ROWS" = some (some (.int 400 t2))) : GlbT mg := ⟨⟨t1, PySem.W.mg_of X G a⟩, ⟨t2, PySem.W.mg_of X G b⟩⟩
theorem mk_exc_ColumnError {K : PySem.W.Frag} {h : Heap} {mg : Str → Option Value} {CE : Addr} (X : K.In h) (G : h.Ns mainGlobals mg) (a : PySem.W.nsIn K mainGlobals "ColumnError" = some (some (.ref CE))) : ∃ CE, mg "ColumnError" = some (.ref CE) := ⟨CE, PySem.W.mg_of X G a⟩
theorem fun_mkC {K : PySem.W.Frag} {x q : Str} {st : Stmt} {f c : Addr} {oc : Value} {od an : Option Addr} {osl : Array (Option Value)} {kV doc pm ct : Value} (l : K.lookup f = some ⟨oc, od, .func (PySem.W.fnOf x q (defArgs st) (defBody st) (defScope st) .none kV doc pm an (.ref c) ct), osl⟩) (cI : PySem.W.codeIn K (.ref c) q = true) (k : PySem.W.keepIn K (.ref f) = true) : GD.FunC K x q st f (PySem.W.fnOf x q (defArgs st) (defBody st) (defScope st) .none kV doc pm an (.ref c) ct) c := ⟨⟨_, _, _, _, _, _, _, _, rfl, l, cI⟩, k⟩
theorem all_mk {l : PySem.W.OpenLaw} {w : World} {K : PySem.W.Frag} {h : Heap} {mg : Str → Option Value} {fa f : Addr} {c_0 P_0 : Addr} {od an : Option Addr} {sl : Array (Option Value)} {oc kV dc pm ct : Value} (X : K.In h) (G : h.Ns mainGlobals mg) (hfa : mg "law" = some (.ref fa))
    (a : PySem.W.nsIn K mainGlobals "law" = some (some (.ref f))) (l1 : K.lookup f = some ⟨oc, od, .func (PySem.W.fnOf "law" "law" (defArgs sLaw) (defBody sLaw) (defScope sLaw) .none kV dc pm an (.ref c_0) ct), sl⟩) (c : PySem.W.codeIn K (.ref c_0) "law" = true) (k : PySem.W.keepIn K (.ref f) = true)
    (gb : Nonempty { z : Unit // ∃ kA, Glb K mg kA }) (kl : Nonempty (Kls K mg)) (kt : Nonempty (KlsT K mg)) (TT : GlbT mg) (lf : LogFam l.prog K mg) (ex_ColumnError : ∃ CE, mg "ColumnError" = some (.ref CE)) (mo_e9 : ∃ C9 : Nat → Addr, Ex9 K mg C9 ∧ ∀ i, i < 9 → ExcK K mg (nm9 i) (C9 i)) (m_is_an_integer : Nonempty (Df K mg "is_an_integer" sIsInt ["thing"])) (m_is_width : Nonempty (Df K mg "is_width" sIsWidth ["thing"])) (m_is_column : Nonempty (Df K mg "is_column" sIsCol ["width", "thing"])) (m_is_rule : Nonempty (Df K mg "is_rule" sIsRule ["width", "thing"])) (m_every_rule : Nonempty (Df K mg "every_rule" sEvery ["width"])) (m_line_of : Nonempty (Df K mg "line_of" sLine ["rule"])) (m_rules_of : Nonempty (Df K mg "rules_of" sRulesOf ["width", "text"])) (m_is_row : Nonempty (Df K mg "is_row" sIsRow ["width", "thing"])) (m_holds : Nonempty (Df K mg "holds" sHo ["rows", "rule"])) (m_rules_broken : Nonempty (Df K mg "rules_broken" sBrk ["rules", "rows"])) (m_l_said : Nonempty (Df K mg "_law_said" sSaid ["_law_call"])) (m_l_source : Nonempty (Df K mg "_law_source" sSource ["_law_cell_here"])) (m_l_cell : Nonempty (Df K mg "_law_cell" sCell ["_law_script", "_law_index"])) (m_l_draw : Nonempty (Df K mg "_law_draw" sDraw ["_law_source_here", "_law_many"])) (m_l_choose : Nonempty (Df K mg "_law_choose" sChoose ["_law_source_here", "_law_values"])) (m_l_given : Nonempty (Df K mg "_law_given" sGv ["_law_source_here", "_law_many", "_law_size"])) (m_l_words : Nonempty (Df K mg "_law_words" sWd ["_law_given_here"])) (m_l_row : Nonempty (Df K mg "_law_row" sRwl ["_law_source_here", "_law_many", "_law_listed"])) (m_l_made : Nonempty (Df K mg "_law_made" sMdl ["_law_kind", "_law_asked", "_law_cap"])) (m_l_is_told_right : Nonempty (Df K mg "_law_is_told_right" sTrt ["_law_log", "_law_kind"]))
     (t_0 : PySem.W.tabIn K "law" = some (c_0, P_0)) (o_0 : K.lookup P_0 = none)  :
    ∃ (fd : FuncData) (cs : List (Addr × Addr)) (sp : Sp), (∀ p ∈ cs, ∃ y ∈ (["law"] : List Str), PySem.W.tabIn K y = some p) ∧ (∀ p ∈ cs, K.lookup p.2 = none) ∧ (∀ (s : Shared) (v : Value), BindsTo s fd ⟨[v], []⟩ [("_law_script", v)]) ∧ (∀ (H : Hp) (a : Addr) (ns : List Int), ns.length ≤ 63 → (∀ p ∈ cs, H p.2 = some (.tbl #[])) → SqL K H a (ns.map V.int) → sp [.ref a] H (fun v _ => v = .bl true) fun _ _ _ => False) ∧
      ∀ base : Heap, K.In base → base.Ns mainGlobals mg → (∀ p ∈ cs, LamX.TabB base mg p.1 p.2) → GD.FnG l.prog w K mg base CX0 18 fa fd ["_law_script"] sp := by
  have e := hfa.symm.trans (PySem.W.mg_of X G a)
  cases e
  obtain ⟨⟨_, kA, T⟩⟩ := gb
  obtain ⟨Y⟩ := kl
  obtain ⟨Z⟩ := kt
  obtain ⟨E_ColumnError, g_ColumnError⟩ := ex_ColumnError
  obtain ⟨C9, x9, ek⟩ := mo_e9
  obtain ⟨c5, e5c⟩ : ∃ c, c = C9 5 := ⟨_, rfl⟩
  obtain ⟨c7, e7c⟩ : ∃ c, c = C9 7 := ⟨_, rfl⟩
  obtain ⟨c1, e1c⟩ : ∃ c, c = C9 0 := ⟨_, rfl⟩
  obtain ⟨c3, e3c⟩ : ∃ c, c = C9 3 := ⟨_, rfl⟩
  obtain ⟨cN, eNc⟩ : ∃ c, c = C9 1 := ⟨_, rfl⟩
  have e5 : ExcK K mg "TooMuch" c5 := by rw [e5c]; exact ek 5 (by decide)
  have e7 : ExcK K mg "Broken" c7 := by rw [e7c]; exact ek 7 (by decide)
  have e1 : ExcK K mg "NoRow" c1 := by rw [e1c]; exact ek 0 (by decide)
  have e3 : ExcK K mg "NotRules" c3 := by rw [e3c]; exact ek 3 (by decide)
  have eN : ExcK K mg "NoNumber" cN := by rw [eNc]; exact ek 1 (by decide)
  have ne57 : C9 7 ≠ C9 5 := fun z => by
    have a := x9.no 7 (by decide) 5 (by decide)
    rw [z, x9.yes 5 (by decide)] at a
    cases a
  have eYC : Y.C = HK.ga K "Rules" := Value.ref.inj (Option.some.inj (Y.TC.mgC.symm.trans lf.gR))
  have noR : NoIns K Y.C := by rw [eYC]; exact lf.noR
  obtain ⟨x_is_an_integer⟩ := m_is_an_integer
  obtain ⟨x_is_width⟩ := m_is_width
  obtain ⟨x_is_column⟩ := m_is_column
  obtain ⟨x_is_rule⟩ := m_is_rule
  obtain ⟨x_every_rule⟩ := m_every_rule
  obtain ⟨x_line_of⟩ := m_line_of
  obtain ⟨x_rules_of⟩ := m_rules_of
  obtain ⟨x_is_row⟩ := m_is_row
  obtain ⟨x_holds⟩ := m_holds
  obtain ⟨x_rules_broken⟩ := m_rules_broken
  obtain ⟨x_l_said⟩ := m_l_said
  obtain ⟨x_l_source⟩ := m_l_source
  obtain ⟨x_l_cell⟩ := m_l_cell
  obtain ⟨x_l_draw⟩ := m_l_draw
  obtain ⟨x_l_choose⟩ := m_l_choose
  obtain ⟨x_l_given⟩ := m_l_given
  obtain ⟨x_l_words⟩ := m_l_words
  obtain ⟨x_l_row⟩ := m_l_row
  obtain ⟨x_l_made⟩ := m_l_made
  obtain ⟨x_l_is_told_right⟩ := m_l_is_told_right
  have hu_0 : ∀ p ∈ ([(P_0, qLaw)] : List (Addr × Str)), p.1 = P_0 → p.2 = qLaw := by
    intro p hp e; rcases List.mem_cons.mp hp with rfl | hp; exact rfl; cases hp
  have hm_0 : (P_0, qLaw) ∈ ([(P_0, qLaw)] : List (Addr × Str)) := .head _
  refine ⟨PySem.W.fnOf "law" "law" (defArgs sLaw) (defBody sLaw) (defScope sLaw) .none kV dc pm an (.ref c_0) ct, [(c_0, P_0)], (spLaw K [(P_0, qLaw)]), ?_, ?_, fun s v => .of_eq rfl, ?_, fun base _ _ tbs => ?_⟩
  · intro p hp; rcases List.mem_cons.mp hp with rfl | hp; exact ⟨_, .head _, t_0⟩; cases hp
  · intro p hp; rcases List.mem_cons.mp hp with rfl | hp; exact o_0; cases hp
  · intro H a ns hl ht hS
    refine ⟨a, ns, rfl, hS, hl, ?_, fun _ => rfl⟩
    intro p hp; rcases List.mem_cons.mp hp with rfl | hp; exact LamX.TabS.nil (ht (c_0, P_0) (.head _)); cases hp
  have tb_0 := tbs (c_0, P_0) (.head _)
  have c_is_an_integer : Cal l.prog w K mg base "is_an_integer" ["thing"] spIsInt 1 := Df.cal x_is_an_integer fun k => ok_isint (k := k) x_is_an_integer.F T
  have c_is_width : Cal l.prog w K mg base "is_width" ["thing"] spIsWidth 2 := Df.cal x_is_width fun k => ok_iswidth (k := k) x_is_width.F T c_is_an_integer
  have c_is_column : Cal l.prog w K mg base "is_column" ["width", "thing"] spIsCol 2 := Df.cal x_is_column fun k => ok_iscol (k := k) x_is_column.F T c_is_an_integer
  have c_is_rule : Cal l.prog w K mg base "is_rule" ["width", "thing"] (spIsRule K) 3 := Df.cal x_is_rule fun k => ok_isrule (k := k) x_is_rule.F T c_is_column
  have mkR : MakeR l.prog w K mg base Y.C 4 := ⟨Y.fN, Y.M, from_le fun k => ok_init (k := k) Y.FN T Y.TC c_is_width c_is_rule⟩
  have c_every_rule : Cal l.prog w K mg base "every_rule" ["width"] (spEvery K) 1 := Df.cal x_every_rule fun k => ok_every (k := k) x_every_rule.F T
  have c_line_of : Cal l.prog w K mg base "line_of" ["rule"] (spLine K) 1 := Df.cal x_line_of fun k => ok_line (k := k) x_line_of.F
  have c_rules_of : Cal l.prog w K mg base "rules_of" ["width", "text"] (spRulesOf K) 2 := Df.cal x_rules_of fun k => ok_rulesof (k := k) x_rules_of.F T c_every_rule c_line_of
  have rd : ReadR l.prog w K mg base Y.C 6 := ⟨Y.mc, Y.pD, Y.fD, Y.rD, Y.cD, from_le fun k => raw0 (ok_read (k := k) Y.FD T mkR c_is_width c_rules_of) Y.bD⟩
  have pTR : Prp l.prog w K mg base Z.C "rows" "lines" := ⟨Z.pR, Z.fR, Z.dR, Z.qR, from_le fun k => ok_trows (k := k) Z.FR Z.TC, Z.bR⟩
  have icT : C8.InsC K Z.C := Z.ic
  have eqT : EqT l.prog w K mg base Z.C (spTEq K Z.C) 1 := ⟨Z.fE, Z.aE, Z.iE, Z.nE, Z.mE, from_le fun k => raw0 (ok_teq (k := k) Z.FE T Z.TC icT) Z.bE⟩
  have c_is_row : Cal l.prog w K mg base "is_row" ["width", "thing"] (spIsRow K) 2 := Df.cal x_is_row fun k => ok_isrow (k := k) x_is_row.F T TT c_is_an_integer
  have pR : Prp l.prog w K mg base Y.C "rules" "given" := ⟨Y.pR, Y.fR, Y.dR, Y.qR, from_le fun k => ok_pr (k := k) Y.FR Y.TC, Y.bR⟩
  have c_holds : Cal l.prog w K mg base "holds" ["rows", "rule"] (spHoM K) 1 := Df.cal x_holds fun k => ok_hoM (k := k) x_holds.F T
  have c_rules_broken : Cal l.prog w K mg base "rules_broken" ["rules", "rows"] (spBrkM K Y.C) 3 := Df.cal x_rules_broken fun k => ok_brkM (k := k) x_rules_broken.F Y.TC pR c_holds
  have pW : Prp l.prog w K mg base Y.C "width" "span" := ⟨Y.pW, Y.fW, Y.dW, Y.qW, from_le fun k => ok_pw (k := k) Y.FW Y.TC, Y.bW⟩
  have ic : C8.InsC K Y.C := Y.ic
  have mkT : MakeT l.prog w K mg base Z.C 3 := ⟨Z.fN, Z.M, from_le fun k => ok_tinit (k := k) Z.FN T TT Z.TC c_is_width c_is_row⟩
  have cRow : Cal l.prog w K mg base "is_row" ["width", "thing"] (spIsRowG K (fun _ _ _ => False)) 2 := c_is_row.imp fun _ _ _ _ h => h.elim id fun ⟨_, _, _, z, _⟩ => z.elim
  have cBrk := c_rules_broken
  obtain ⟨d_frules0, F_frules0, b_frules0⟩ := lf.frules0
  obtain ⟨d_ftable0, F_ftable0, b_ftable0⟩ := lf.ftable0
  obtain ⟨d_fbroken0, F_fbroken0, b_fbroken0⟩ := lf.fbroken0
  obtain ⟨d_fcl0, F_fcl0, b_fcl0⟩ := lf.fcl0
  obtain ⟨d_frules1, F_frules1, b_frules1⟩ := lf.frules1
  obtain ⟨d_ftable1, F_ftable1, b_ftable1⟩ := lf.ftable1
  obtain ⟨d_fbroken1, F_fbroken1, b_fbroken1⟩ := lf.fbroken1
  obtain ⟨d_fcl1, F_fcl1, b_fcl1⟩ := lf.fcl1
  obtain ⟨d_frules2, F_frules2, b_frules2⟩ := lf.frules2
  obtain ⟨d_ftable2, F_ftable2, b_ftable2⟩ := lf.ftable2
  obtain ⟨d_fbroken2, F_fbroken2, b_fbroken2⟩ := lf.fbroken2
  obtain ⟨d_fcl2, F_fcl2, b_fcl2⟩ := lf.fcl2
  obtain ⟨d_frules3, F_frules3, b_frules3⟩ := lf.frules3
  obtain ⟨d_ftable3, F_ftable3, b_ftable3⟩ := lf.ftable3
  obtain ⟨d_fbroken3, F_fbroken3, b_fbroken3⟩ := lf.fbroken3
  obtain ⟨d_fcl3, F_fcl3, b_fcl3⟩ := lf.fcl3
  obtain ⟨d_fi0, F_fi0, b_fi0⟩ := lf.fi0
  obtain ⟨d_fi1, F_fi1, b_fi1⟩ := lf.fi1
  obtain ⟨d_fchk, F_fchk, b_fchk⟩ := lf.fchk
  obtain ⟨d_fchg, F_fchg, b_fchg⟩ := lf.fchg
  obtain ⟨d_fadd, F_fadd, b_fadd⟩ := lf.fadd
  obtain ⟨d_kchk1, _, _, F_kchk1, K_kchk1, b_kchk1⟩ := lf.kchk1
  obtain ⟨d_kchk2, _, _, F_kchk2, K_kchk2, b_kchk2⟩ := lf.kchk2
  obtain ⟨d_kadd1, _, _, F_kadd1, K_kadd1, b_kadd1⟩ := lf.kadd1
  obtain ⟨d_kadd2, _, _, F_kadd2, K_kadd2, b_kadd2⟩ := lf.kadd2
  obtain ⟨d_kadd3, _, _, F_kadd3, K_kadd3, b_kadd3⟩ := lf.kadd3
  obtain ⟨d_fi2, F_fi2⟩ := lf.fi2
  obtain ⟨d_fi3, F_fi3⟩ := lf.fi3
  have lc0 : ∀ k, 1 ≤ k → FnR l.prog w K mg base (L2.CX l.prog w) k (HK.ma K (HK.ga K "Log") "check") (spCkM K (HK.ga K "Log") Y.C Z.C false (ckA c5)) := from_le fun k => raw0 (ok_lchkM (k := k) F_fchk T TT e5) b_fchk
  have cg0 : MthG l.prog w K mg base (HK.ga K "Log") "change" ["self", "table"] (spChgM K (HK.ga K "Log")) 1 := ⟨_, d_fchg, lf.mChg0, from_le fun k => ok_lchgM (k := k) F_fchg lf.tm0, b_fchg⟩
  have lc1 : ∀ k, 1 ≤ k → FnR l.prog w K mg base (L2.CX l.prog w) k (HK.ma K (HK.ga K "Log") "check") (spCkM K (HK.ga K "Strict") Y.C Z.C false (ckA c5)) := from_le fun k => raw0 (ok_lchkM (k := k) F_fchk T TT e5) b_fchk
  have cg1 : MthG l.prog w K mg base (HK.ga K "Strict") "change" ["self", "table"] (spChgM K (HK.ga K "Strict")) 1 := ⟨_, d_fchg, lf.mChg1, from_le fun k => ok_lchgM (k := k) F_fchg lf.tm1, b_fchg⟩
  have lc2 : ∀ k, 1 ≤ k → FnR l.prog w K mg base (L2.CX l.prog w) k (HK.ma K (HK.ga K "Log") "check") (spCkM K (HK.ga K "Short") Y.C Z.C true (ckA c5)) := from_le fun k => raw0 (ok_lchkM (k := k) F_fchk T TT e5) b_fchk
  have cg2 : MthG l.prog w K mg base (HK.ga K "Short") "change" ["self", "table"] (spChgM K (HK.ga K "Short")) 1 := ⟨_, d_fchg, lf.mChg2, from_le fun k => ok_lchgM (k := k) F_fchg lf.tm2, b_fchg⟩
  have lc3 : ∀ k, 1 ≤ k → FnR l.prog w K mg base (L2.CX l.prog w) k (HK.ma K (HK.ga K "Log") "check") (spCkM K (HK.ga K "StrictShort") Y.C Z.C true (ckA c5)) := from_le fun k => raw0 (ok_lchkM (k := k) F_fchk T TT e5) b_fchk
  have cg3 : MthG l.prog w K mg base (HK.ga K "StrictShort") "change" ["self", "table"] (spChgM K (HK.ga K "StrictShort")) 1 := ⟨_, d_fchg, lf.mChg3, from_le fun k => ok_lchgM (k := k) F_fchg lf.tm3, b_fchg⟩
  have ck0 : MthX l.prog w K mg base (HK.ga K "Log") "check" ["self", "rows"] (spCkM K (HK.ga K "Log") Y.C Z.C false (ckA c5)) 1 := ⟨_, _, lf.mChk0, from_le fun k => ok_lchkM (k := k) F_fchk T TT e5, b_fchk⟩
  have ck1 : MthX l.prog w K mg base (HK.ga K "Strict") "check" ["self", "rows"] (spCkM K (HK.ga K "Strict") Y.C Z.C false (ckTh (ckA c5) (ckBr c7))) 5 := ⟨_, _, lf.mChk1, from_le fun k => ok_schkM (k := k) (l := 1) F_kchk1 K_kchk1 lf.hsuper lf.check11 T lf.tm1 e7 lc1 cBrk, b_kchk1⟩
  have ck2 : MthX l.prog w K mg base (HK.ga K "Short") "check" ["self", "rows"] (spCkM K (HK.ga K "Short") Y.C Z.C true (ckTh (ckA c5) (ckMo c5))) 2 := ⟨_, _, lf.mChk2, from_le fun k => ok_hchkM (k := k) (l := 1) F_kchk2 K_kchk2 lf.hsuper lf.check22 T lf.tm2 e5 lc2, b_kchk2⟩
  have lh3 : ∀ k, 2 ≤ k → FnR l.prog w K mg base (L2.CX l.prog w) k (HK.ma K (HK.ga K "Short") "check") (spCkM K (HK.ga K "StrictShort") Y.C Z.C true (ckTh (ckA c5) (ckMo c5))) := from_le fun k => raw0 (ok_hchkM (k := k) (l := 1) F_kchk2 K_kchk2 lf.hsuper lf.check32 T lf.tm3 e5 lc3) b_kchk2
  have ck3 : MthX l.prog w K mg base (HK.ga K "StrictShort") "check" ["self", "rows"] (spCkM K (HK.ga K "StrictShort") Y.C Z.C true (ckTh (ckTh (ckA c5) (ckMo c5)) (ckBr c7))) 6 := ⟨_, _, lf.mChk3, from_le fun k => ok_schkM (k := k) (l := 2) F_kchk1 K_kchk1 lf.hsuper lf.check31 T lf.tm3 e7 lh3 cBrk, b_kchk1⟩
  have la0 : ∀ k, 6 ≤ k → FnR l.prog w K mg base (L2.CX l.prog w) k (HK.ma K (HK.ga K "Log") "add") (spAddM K (HK.ga K "Log") Y.C Z.C false (ckA c5) (fun _ _ _ => False) c1) := from_le fun k => raw0 (ok_laddM (k := k) (l := 1) (ckA_ok c5) F_fadd lf.tm0 Y.TC Z.TC e1 pW pTR mkT cRow ck0 cg0) b_fadd
  have la1 : ∀ k, 10 ≤ k → FnR l.prog w K mg base (L2.CX l.prog w) k (HK.ma K (HK.ga K "Log") "add") (spAddM K (HK.ga K "Strict") Y.C Z.C false (ckTh (ckA c5) (ckBr c7)) (fun _ _ _ => False) c1) := from_le fun k => raw0 (ok_laddM (k := k) (l := 5) (ckTh_ok (ckA_ok c5)) F_fadd lf.tm1 Y.TC Z.TC e1 pW pTR mkT cRow ck1 cg1) b_fadd
  have la2 : ∀ k, 7 ≤ k → FnR l.prog w K mg base (L2.CX l.prog w) k (HK.ma K (HK.ga K "Log") "add") (spAddM K (HK.ga K "Short") Y.C Z.C true (ckTh (ckA c5) (ckMo c5)) (fun _ _ _ => False) c1) := from_le fun k => raw0 (ok_laddM (k := k) (l := 2) (ckTh_ok (ckA_ok c5)) F_fadd lf.tm2 Y.TC Z.TC e1 pW pTR mkT cRow ck2 cg2) b_fadd
  have la3 : ∀ k, 11 ≤ k → FnR l.prog w K mg base (L2.CX l.prog w) k (HK.ma K (HK.ga K "Log") "add") (spAddM K (HK.ga K "StrictShort") Y.C Z.C true (ckTh (ckTh (ckA c5) (ckMo c5)) (ckBr c7)) (fun _ _ _ => False) c1) := from_le fun k => raw0 (ok_laddM (k := k) (l := 6) (ckTh_ok (ckTh_ok (ckA_ok c5))) F_fadd lf.tm3 Y.TC Z.TC e1 pW pTR mkT cRow ck3 cg3) b_fadd
  have ad0 : MthX l.prog w K mg base (HK.ga K "Log") "add" ["self", "row"] (spAddM K (HK.ga K "Log") Y.C Z.C false (ckA c5) (fun _ _ _ => False) c1) 14 := ⟨_, _, lf.mAdd0, from_le fun k => ok_laddM (k := k + 8) (l := 1) (ckA_ok c5) F_fadd lf.tm0 Y.TC Z.TC e1 pW pTR mkT cRow ck0 cg0, b_fadd⟩
  have ad1 : MthX l.prog w K mg base (HK.ga K "Strict") "add" ["self", "row"] (spAddM K (HK.ga K "Strict") Y.C Z.C false (ckTh (ckA c5) (ckBr c7)) (fun _ _ _ => False) c1) 14 := ⟨_, _, lf.mAdd1, from_le fun k => ok_sadd (k := k + 3) (l := 10) F_kadd1 K_kadd1 lf.hsuper lf.add11 la1, b_kadd1⟩
  have ad2 : MthX l.prog w K mg base (HK.ga K "Short") "add" ["self", "row"] (spAddM K (HK.ga K "Short") Y.C Z.C true (ckTh (ckA c5) (ckMo c5)) (fun _ _ _ => False) c1) 14 := ⟨_, _, lf.mAdd2, from_le fun k => ok_hadd (k := k + 6) (l := 7) F_kadd2 K_kadd2 lf.hsuper lf.add22 la2, b_kadd2⟩
  have lh4 : ∀ k, 12 ≤ k → FnR l.prog w K mg base (L2.CX l.prog w) k (HK.ma K (HK.ga K "Short") "add") (spAddM K (HK.ga K "StrictShort") Y.C Z.C true (ckTh (ckTh (ckA c5) (ckMo c5)) (ckBr c7)) (fun _ _ _ => False) c1) := from_le fun k => raw0 (ok_hadd (k := k) (l := 11) F_kadd2 K_kadd2 lf.hsuper lf.add32 la3) b_kadd2
  have lh5 : ∀ k, 13 ≤ k → FnR l.prog w K mg base (L2.CX l.prog w) k (HK.ma K (HK.ga K "Strict") "add") (spAddM K (HK.ga K "StrictShort") Y.C Z.C true (ckTh (ckTh (ckA c5) (ckMo c5)) (ckBr c7)) (fun _ _ _ => False) c1) := from_le fun k => raw0 (ok_sadd (k := k) (l := 12) F_kadd1 K_kadd1 lf.hsuper lf.add31 lh4) b_kadd1
  have ad3 : MthX l.prog w K mg base (HK.ga K "StrictShort") "add" ["self", "row"] (spAddM K (HK.ga K "StrictShort") Y.C Z.C true (ckTh (ckTh (ckA c5) (ckMo c5)) (ckBr c7)) (fun _ _ _ => False) c1) 14 := ⟨_, _, lf.mAdd3, from_le fun k => ok_gadd (k := k) (l := 13) F_kadd3 K_kadd3 lf.hsuper lf.add33 lh5, b_kadd3⟩
  obtain ⟨lg0, eL0⟩ : ∃ g : LogC l.prog w K mg base Y.C Z.C c1 c5 c7 (fun _ _ _ => False) 14 0, g.C = (HK.ga K "Log") := ⟨⟨(HK.ga K "Log"), lf.tm0, ad0, _, lf.co0, from_le fun k => raw0 (ok_lcll (k := k) (l := 14) F_fcl0 lf.tm0 ad0) b_fcl0, ⟨_, _, d_frules0, lf.qrules0, from_le fun k => ok_lRlM (k := k) F_frules0 lf.tm0, b_frules0⟩, ⟨_, _, d_ftable0, lf.qtable0, from_le fun k => ok_lTbM (k := k) F_ftable0 lf.tm0, b_ftable0⟩, ⟨_, _, d_fbroken0, lf.qbroken0, from_le fun k => ok_lBrM (k := k) F_fbroken0 T lf.tm0 Z.TC pTR cBrk, b_fbroken0⟩⟩, rfl⟩
  obtain ⟨lg1, eL1⟩ : ∃ g : LogC l.prog w K mg base Y.C Z.C c1 c5 c7 (fun _ _ _ => False) 14 1, g.C = (HK.ga K "Strict") := ⟨⟨(HK.ga K "Strict"), lf.tm1, ad1, _, lf.co1, from_le fun k => raw0 (ok_scll (k := k) (l := 14) F_fcl1 lf.tm1 ad1) b_fcl1, ⟨_, _, d_frules1, lf.qrules1, from_le fun k => ok_sRlM (k := k) F_frules1 lf.tm1, b_frules1⟩, ⟨_, _, d_ftable1, lf.qtable1, from_le fun k => ok_sTbM (k := k) F_ftable1 lf.tm1, b_ftable1⟩, ⟨_, _, d_fbroken1, lf.qbroken1, from_le fun k => ok_sBrM (k := k) F_fbroken1 T lf.tm1 Z.TC pTR cBrk, b_fbroken1⟩⟩, rfl⟩
  obtain ⟨lg2, eL2⟩ : ∃ g : LogC l.prog w K mg base Y.C Z.C c1 c5 c7 (fun _ _ _ => False) 14 2, g.C = (HK.ga K "Short") := ⟨⟨(HK.ga K "Short"), lf.tm2, ad2, _, lf.co2, from_le fun k => raw0 (ok_hcll (k := k) (l := 14) F_fcl2 lf.tm2 ad2) b_fcl2, ⟨_, _, d_frules2, lf.qrules2, from_le fun k => ok_hRlM (k := k) F_frules2 lf.tm2, b_frules2⟩, ⟨_, _, d_ftable2, lf.qtable2, from_le fun k => ok_hTbM (k := k) F_ftable2 lf.tm2, b_ftable2⟩, ⟨_, _, d_fbroken2, lf.qbroken2, from_le fun k => ok_hBrM (k := k) F_fbroken2 T lf.tm2 Z.TC pTR cBrk, b_fbroken2⟩⟩, rfl⟩
  obtain ⟨lg3, eL3⟩ : ∃ g : LogC l.prog w K mg base Y.C Z.C c1 c5 c7 (fun _ _ _ => False) 14 3, g.C = (HK.ga K "StrictShort") := ⟨⟨(HK.ga K "StrictShort"), lf.tm3, ad3, _, lf.co3, from_le fun k => raw0 (ok_gcll (k := k) (l := 14) F_fcl3 lf.tm3 ad3) b_fcl3, ⟨_, _, d_frules3, lf.qrules3, from_le fun k => ok_gRlM (k := k) F_frules3 lf.tm3, b_frules3⟩, ⟨_, _, d_ftable3, lf.qtable3, from_le fun k => ok_gTbM (k := k) F_ftable3 lf.tm3, b_ftable3⟩, ⟨_, _, d_fbroken3, lf.qbroken3, from_le fun k => ok_gBrM (k := k) F_fbroken3 T lf.tm3 Z.TC pTR cBrk, b_fbroken3⟩⟩, rfl⟩
  obtain ⟨LC, eC0, eC1, eC2, eC3⟩ : ∃ LC : (∀ kd, LogC l.prog w K mg base Y.C Z.C c1 c5 c7 (fun _ _ _ => False) 14 kd), (LC 0).C = (HK.ga K "Log") ∧ (LC 1).C = (HK.ga K "Strict") ∧ (LC 2).C = (HK.ga K "Short") ∧ (LC 3).C = (HK.ga K "StrictShort") := ⟨fun | 0 => lg0 | 1 => lg1 | 2 => lg2 | n + 3 => ⟨lg3.C, lg3.TM, lg3.add, lg3.fC, lg3.cC, lg3.call, lg3.pR, lg3.pT, lg3.pB⟩, eL0, eL1, eL2, eL3⟩
  have hci : IsG K Y.C (OC.OddV K) := isG_plain ic noR
  have cIX : Cal l.prog w K mg base "is_an_integer" ["thing"] (spIsIntX K) 1 := Df.cal x_is_an_integer fun k => ok_isintX (k := k) x_is_an_integer.F T
  obtain ⟨d_fi0, F_fi0, b_fi0⟩ := lf.fi0
  obtain ⟨d_fi1, F_fi1, b_fi1⟩ := lf.fi1
  obtain ⟨d_fi2, F_fi2⟩ := lf.fi2
  obtain ⟨d_fi3, F_fi3⟩ := lf.fi3
  have li0 : ∀ k, 5 ≤ k → FnR l.prog w K mg base (L2.CX l.prog w) k (HK.ma K (HK.ga K "Log") "__init__") (spLInitM K (HK.ga K "Log") Y.C Z.C c3 (OC.OddV K)) := from_le fun k => raw0 (ok_linitM (k := k) F_fi0 T lf.tm0 Y.TC Z.TC e3 hci pW mkT) b_fi0
  have li1 : ∀ k, 5 ≤ k → FnR l.prog w K mg base (L2.CX l.prog w) k (HK.ma K (HK.ga K "Log") "__init__") (spLInitM K (HK.ga K "Strict") Y.C Z.C c3 (OC.OddV K)) := from_le fun k => raw0 (ok_linitM (k := k) F_fi0 T lf.tm1 Y.TC Z.TC e3 hci pW mkT) b_fi0
  have li2 : ∀ k, 5 ≤ k → FnR l.prog w K mg base (L2.CX l.prog w) k (HK.ma K (HK.ga K "Log") "__init__") (spLInitM K (HK.ga K "Short") Y.C Z.C c3 (OC.OddV K)) := from_le fun k => raw0 (ok_linitM (k := k) F_fi0 T lf.tm2 Y.TC Z.TC e3 hci pW mkT) b_fi0
  have li3 : ∀ k, 5 ≤ k → FnR l.prog w K mg base (L2.CX l.prog w) k (HK.ma K (HK.ga K "Log") "__init__") (spLInitM K (HK.ga K "StrictShort") Y.C Z.C c3 (OC.OddV K)) := from_le fun k => raw0 (ok_linitM (k := k) F_fi0 T lf.tm3 Y.TC Z.TC e3 hci pW mkT) b_fi0
  have m0 : MakeP l.prog w K mg base "Log" (HK.ga K "Log") ["self", "rules"] (spLInitM K (HK.ga K "Log") Y.C Z.C c3 (OC.OddV K)) 8 := ⟨⟨_, d_fi0, lf.mk0, from_le fun k => ok_linitM (k := k + 3) F_fi0 T lf.tm0 Y.TC Z.TC e3 hci pW mkT, lf.g0⟩, b_fi0⟩
  have m1 : MakeP l.prog w K mg base "Strict" (HK.ga K "Strict") ["self", "rules"] (spLInitM K (HK.ga K "Strict") Y.C Z.C c3 (OC.OddV K)) 8 := ⟨⟨_, d_fi1, lf.mk1, from_le fun k => ok_sinitM (k := k + 2) (l := 5) F_fi1 lf.g0 lf.cr0 lf.cf0 li1, lf.g1⟩, b_fi1⟩
  obtain ⟨is2, kb2⟩ := F_fi2.kbindsD (ps := ["self", "rules", "most"]) 2 ["most"] (fun us _ ws => us ++ ws) (by simp) (fun a _ c => a.append c) (fun _ _ _ _ _ _ _ us its ws l1 l2 l3 => match us, its, ws, l1, l2, l3 with | [_, _], [_], [_], _, _, _ => ⟨_, rfl, rfl⟩)
  obtain ⟨ds2, dv2, bi2⟩ := F_fi2.binds1 (ps := ["self", "rules", "most"]) 3 1 (by simp) rfl (fun _ _ _ _ _ _ _ us its l1 l2 => match us, its, l1, l2 with | [_, _, _], [_], _, _ => ⟨_, rfl, rfl⟩)
  have dz2 : ds2 = [] := by cases dv2; rfl
  subst dz2
  obtain ⟨is3, kb3⟩ := F_fi3.kbindsD (ps := ["self", "rules", "most"]) 2 ["most"] (fun us _ ws => us ++ ws) (by simp) (fun a _ c => a.append c) (fun _ _ _ _ _ _ _ us its ws l1 l2 l3 => match us, its, ws, l1, l2, l3 with | [_, _], [_], [_], _, _, _ => ⟨_, rfl, rfl⟩)
  obtain ⟨ds3, dv3, bi3⟩ := F_fi3.binds1 (ps := ["self", "rules", "most"]) 3 1 (by simp) rfl (fun _ _ _ _ _ _ _ us its l1 l2 => match us, its, l1, l2 with | [_, _, _], [_], _, _ => ⟨_, rfl, rfl⟩)
  have dz3 : ds3 = [] := by cases dv3; rfl
  subst dz3
  have hi2 : ∀ k, 7 ≤ k → FnR l.prog w K mg base (L2.CX l.prog w) k (HK.ma K (HK.ga K "Short") "__init__") (spHInit K (HK.ga K "StrictShort") Y.C Z.C c3 cN (OC.OddV K)) := from_le fun k => raw0 (ok_hinit (k := k) (l := 5) F_fi2 T TT lf.tm3 eN lf.g0 lf.cr0 lf.cf0 li3 cIX) bi2
  have m2 : MakeQ l.prog w K mg base "Short" (HK.ga K "Short") ["self", "rules", "most"] (spHInit K (HK.ga K "Short") Y.C Z.C c3 cN (OC.OddV K)) 8 := ⟨⟨_, d_fi2, lf.mk2, from_le fun k => ok_hinit (k := k + 1) (l := 5) F_fi2 T TT lf.tm2 eN lf.g0 lf.cr0 lf.cf0 li2 cIX, lf.g2⟩, _, kb2⟩
  have m3 : MakeQ l.prog w K mg base "StrictShort" (HK.ga K "StrictShort") ["self", "rules", "most"] (spHInit K (HK.ga K "StrictShort") Y.C Z.C c3 cN (OC.OddV K)) 8 := ⟨⟨_, d_fi3, lf.mk3, from_le fun k => ok_ginit (k := k) (l := 7) F_fi3 lf.g2 lf.cr2 lf.cf2 hi2, lf.g3⟩, _, kb3⟩
  have n0 := m0; rw [← eC0] at n0
  have n1 := m1; rw [← eC1] at n1
  have n2 := m2; rw [← eC2] at n2
  have n3 := m3; rw [← eC3] at n3
  have c__law_source : Cal l.prog w K mg base "_law_source" ["_law_cell_here"] spSource 1 := Df.cal x_l_source fun k => ok_source (k := k) x_l_source.F T.max
  have c__law_cell : Cal l.prog w K mg base "_law_cell" ["_law_script", "_law_index"] (spCell K) 1 := Df.cal x_l_cell fun k => ok_cell (k := k) x_l_cell.F T.len
  have c__law_draw : Cal l.prog w K mg base "_law_draw" ["_law_source_here", "_law_many"] spDraw2 1 := Df.cal x_l_draw fun k => ok_draw2 (k := k) x_l_draw.F
  have c__law_choose : Cal l.prog w K mg base "_law_choose" ["_law_source_here", "_law_values"] (spChoose K) 2 := Df.cal x_l_choose fun k => ok_choose (k := k) x_l_choose.F T c__law_draw
  have c__law_given : Cal l.prog w K mg base "_law_given" ["_law_source_here", "_law_many", "_law_size"] (spGv K) 3 := Df.cal x_l_given fun k => ok_gv (k := k) x_l_given.F T c__law_draw c__law_choose
  have c__law_words : Cal l.prog w K mg base "_law_words" ["_law_given_here"] (spWd K) 1 := Df.cal x_l_words fun k => ok_wd (k := k) x_l_words.F T
  have c__law_row : Cal l.prog w K mg base "_law_row" ["_law_source_here", "_law_many", "_law_listed"] (spRwl K) 3 := Df.cal x_l_row fun k => ok_rwl (k := k) x_l_row.F T c__law_draw c__law_choose
  have c__law_made : Cal l.prog w K mg base "_law_made" ["_law_kind", "_law_asked", "_law_cap"] (spMdl K (fun kd => (LC kd).C) Y.C Z.C) 10 := Df.cal x_l_made fun k => ok_mdl (k := k) (l := 8) x_l_made.F T n0 n1 n2 n3
  have pTC : PrpG l.prog w K mg base Z.C "counts" (spTCnt K Z.C) := ⟨Z.pQ, Z.fQ, Z.dQ, Z.qQ, from_le fun k => ok_tcnt (k := k) Z.FQ T Z.TC, Z.bQ⟩
  have clT : CallT l.prog w K mg base Z.C 4 := ⟨Z.fC, Z.cC, from_le fun k => raw0 (ok_tcall (k := k) Z.FC T Z.TC (c_holds.imp spHo_M) c_is_rule) Z.bC⟩
  have ob : ObeyT l.prog w K mg base Y.C Z.C 6 := ⟨Z.fO, Z.dO, Z.mO, from_le fun k => ok_obey (k := k) Z.FO T Y.TC Z.TC mkR c_every_rule (c_holds.imp spHo_M), Z.bO⟩
  have conR : ConR l.prog w K mg base Y.C 4 := ⟨Y.fQ, Y.aN2, Y.iN2, from_le fun k => raw0 (ok_rcon (k := k) Y.FQ T Y.TC c_is_rule) Y.bQ⟩
  have c__law_is_told_right : Cal l.prog w K mg base "_law_is_told_right" ["_law_log", "_law_kind"] (spTrt K (fun kd => (LC kd).C) Y.C Z.C) 7 := Df.cal x_l_is_told_right fun k => ok_trt (k := k) x_l_is_told_right.F T Y.TC Z.TC LC pR pTC clT ob conR
  exact ok_law (k := 0) (fun_mkC (st := sLaw) l1 c k) tb_0 hm_0 hu_0 T Y.TC Z.TC g_ColumnError x9 e5c e7c ne57 LC rd pTR eqT x_l_said c__law_source c__law_cell c__law_draw c__law_given c__law_words c__law_row c__law_made c__law_is_told_right
end CC
namespace CC
open PySem L2 TL
abbrev LL : PySem.W.OpenLaw := PySem.Challenge.rw_countcycles_k29_whole_broken_beside_tabl
def xsT : List Str := [("law" : Str)]
theorem pTop : (PP.main.scope.names.lookup ("super" : Str)).isSome = false := by rfl
theorem z_glb {mg : Str → Option Value} {h : Heap} {K : PySem.W.Frag} (X : K.In h) (G : h.Ns mainGlobals mg) (c : HK.obsX bs fn K = HK.valX fn) : Nonempty { z : Unit // ∃ kA, Glb K mg kA } := by
  obtain ⟨_, h1⟩ := HK.intB_ok (HK.fact c 21 rfl)
  obtain ⟨_, _, _, _, _, h2⟩ := HK.kndB_ok (HK.fact c 23 rfl)
  exact mk_glb X G (HK.eqO_ok (HK.fact c 0 rfl)) (HK.eqO_ok (HK.fact c 1 rfl)) (HK.eqO_ok (HK.fact c 2 rfl)) (HK.eqO_ok (HK.fact c 3 rfl)) (HK.eqO_ok (HK.fact c 4 rfl)) (HK.eqO_ok (HK.fact c 5 rfl)) (HK.eqO_ok (HK.fact c 6 rfl)) (HK.eqO_ok (HK.fact c 7 rfl)) (HK.eqO_ok (HK.fact c 8 rfl)) (HK.eqO_ok (HK.fact c 9 rfl)) (HK.eqO_ok (HK.fact c 10 rfl)) (HK.eqO_ok (HK.fact c 11 rfl)) (HK.eqO_ok (HK.fact c 12 rfl)) (HK.eqO_ok (HK.fact c 13 rfl)) (HK.eqO_ok (HK.fact c 14 rfl)) (HK.eqO_ok (HK.fact c 15 rfl)) (HK.eqO_ok (HK.fact c 16 rfl)) (HK.eqO_ok (HK.fact c 17 rfl)) (HK.eqO_ok (HK.fact c 18 rfl)) (HK.eqO_ok (HK.fact c 19 rfl)) (HK.eqO_ok (HK.fact c 20 rfl)) h1 (HK.eqO_ok (HK.fact c 22 rfl)) h2
theorem z_kls {mg : Str → Option Value} {h : Heap} {K : PySem.W.Frag} (X : K.In h) (G : h.Ns mainGlobals mg) (c : HK.obsX bs fn K = HK.valX fn) : Nonempty (Kls K mg) := by
  have h1d := HK.def_ c 0 rfl
  obtain ⟨_, _, _, _, _, _, _, _, h1, h1c⟩ := HK.DefX.get h1d.1 h1d.2 rfl rfl
  obtain ⟨_, h2⟩ := HK.recB_ok (HK.fact c 38 rfl)
  have h3d := HK.def_ c 1 rfl
  obtain ⟨_, _, _, _, _, _, _, _, h3, h3c⟩ := HK.DefX.get h3d.1 h3d.2 rfl rfl
  obtain ⟨_, h4⟩ := HK.recB_ok (HK.fact c 47 rfl)
  have h5d := HK.def_ c 2 rfl
  obtain ⟨_, _, _, _, _, _, _, _, h5, h5c⟩ := HK.DefX.get h5d.1 h5d.2 rfl rfl
  obtain ⟨_, h6⟩ := HK.recB_ok (HK.fact c 51 rfl)
  have h7d := HK.def_ c 3 rfl
  obtain ⟨_, _, _, _, _, _, _, _, h7, h7c⟩ := HK.DefX.get h7d.1 h7d.2 rfl rfl
  have h8d := HK.def_ c 4 rfl
  obtain ⟨_, _, _, _, _, _, _, _, h8, h8c⟩ := HK.DefX.get h8d.1 h8d.2 rfl rfl
  exact mk_cls X G (HK.eqO_ok (HK.fact c 24 rfl)) (HK.fact c 25 rfl) (HK.fact c 26 rfl) (HK.fact c 27 rfl) (HK.eqO_ok (HK.fact c 28 rfl)) (HK.fact c 29 rfl) (HK.eqO_ok (HK.fact c 30 rfl)) (HK.eqO_ok (HK.fact c 31 rfl)) (HK.fact c 32 rfl) (HK.eqO_ok (HK.fact c 33 rfl)) (HK.fact c 34 rfl) h1 h1c (HK.DefX.keep h1d.2) (HK.fact c 35 rfl) (HK.eqO_ok (HK.fact c 36 rfl)) (HK.clsB_ok (HK.fact c 37 rfl)) h2 (HK.fact c 39 rfl) h3 h3c (HK.DefX.keep h3d.2) (HK.eqO_ok (HK.fact c 40 rfl)) (HK.eqO_ok (HK.fact c 41 rfl)) (HK.eqB_ok (HK.fact c 42 rfl)) (HK.eqB_ok (HK.fact c 43 rfl)) (HK.eqO_ok (HK.fact c 44 rfl)) (HK.eqO_ok (HK.fact c 45 rfl)) (HK.eqB_ok (HK.fact c 46 rfl)) h4 h5 h5c (HK.DefX.keep h5d.2) (HK.eqO_ok (HK.fact c 48 rfl)) (HK.eqO_ok (HK.fact c 49 rfl)) (HK.eqB_ok (HK.fact c 50 rfl)) h6 h7 h7c (HK.DefX.keep h7d.2) (HK.eqO_ok (HK.fact c 52 rfl)) (HK.fact c 53 rfl) h8 h8c (HK.DefX.keep h8d.2)
theorem z_klsT {mg : Str → Option Value} {h : Heap} {K : PySem.W.Frag} (X : K.In h) (G : h.Ns mainGlobals mg) (c : HK.obsX bs fn K = HK.valX fn) : Nonempty (KlsT K mg) := by
  have h1d := HK.def_ c 5 rfl
  obtain ⟨_, _, _, _, _, _, _, _, h1, h1c⟩ := HK.DefX.get h1d.1 h1d.2 rfl rfl
  have h2d := HK.def_ c 6 rfl
  obtain ⟨_, _, _, _, _, _, _, _, h2, h2c⟩ := HK.DefX.get h2d.1 h2d.2 rfl rfl
  obtain ⟨_, h3⟩ := HK.recB_ok (HK.fact c 73 rfl)
  have h4d := HK.def_ c 7 rfl
  obtain ⟨_, _, _, _, _, _, _, _, h4, h4c⟩ := HK.DefX.get h4d.1 h4d.2 rfl rfl
  obtain ⟨_, h5⟩ := HK.recB_ok (HK.fact c 77 rfl)
  have h6d := HK.def_ c 8 rfl
  obtain ⟨_, _, _, _, _, _, _, _, h6, h6c⟩ := HK.DefX.get h6d.1 h6d.2 rfl rfl
  have h7d := HK.def_ c 9 rfl
  obtain ⟨_, _, _, _, _, _, _, _, h7, h7c⟩ := HK.DefX.get h7d.1 h7d.2 rfl rfl
  have h8d := HK.def_ c 10 rfl
  obtain ⟨_, _, _, _, _, _, _, _, h8, h8c⟩ := HK.DefX.get h8d.1 h8d.2 rfl rfl
  exact mk_clsT X G (HK.eqO_ok (HK.fact c 54 rfl)) (HK.fact c 55 rfl) (HK.fact c 56 rfl) (HK.fact c 57 rfl) (HK.eqO_ok (HK.fact c 58 rfl)) (HK.fact c 59 rfl) (HK.eqO_ok (HK.fact c 60 rfl)) (HK.eqO_ok (HK.fact c 61 rfl)) (HK.fact c 62 rfl) (HK.eqO_ok (HK.fact c 63 rfl)) (HK.fact c 64 rfl) h1 h1c (HK.DefX.keep h1d.2) (HK.eqO_ok (HK.fact c 65 rfl)) (HK.fact c 66 rfl) (HK.fact c 67 rfl) h2 h2c (HK.DefX.keep h2d.2) (HK.eqO_ok (HK.fact c 68 rfl)) (HK.eqO_ok (HK.fact c 41 rfl)) (HK.eqB_ok (HK.fact c 42 rfl)) (HK.eqB_ok (HK.fact c 69 rfl)) (HK.eqO_ok (HK.fact c 70 rfl)) (HK.eqO_ok (HK.fact c 71 rfl)) (HK.eqB_ok (HK.fact c 72 rfl)) h3 h4 h4c (HK.DefX.keep h4d.2) (HK.eqO_ok (HK.fact c 74 rfl)) (HK.eqO_ok (HK.fact c 75 rfl)) (HK.eqB_ok (HK.fact c 76 rfl)) h5 h6 h6c (HK.DefX.keep h6d.2) (HK.eqO_ok (HK.fact c 78 rfl)) (HK.fact c 79 rfl) (HK.eqO_ok (HK.fact c 80 rfl)) (HK.eqB_ok (HK.fact c 69 rfl)) h7 h7c (HK.DefX.keep h7d.2) (HK.eqO_ok (HK.fact c 81 rfl)) (HK.fact c 82 rfl) h8 h8c (HK.DefX.keep h8d.2)
theorem z_glbT {mg : Str → Option Value} {h : Heap} {K : PySem.W.Frag} (X : K.In h) (G : h.Ns mainGlobals mg) (c : HK.obsX bs fn K = HK.valX fn) : GlbT mg := by
  obtain ⟨_, h1⟩ := HK.intB_ok (HK.fact c 83 rfl)
  obtain ⟨_, h2⟩ := HK.intB_ok (HK.fact c 84 rfl)
  exact mk_glbT X G h1 h2
theorem zf_g0 {mg : Str → Option Value} {h : Heap} {K : PySem.W.Frag} (X : K.In h) (G : h.Ns mainGlobals mg) (c : HK.obsX bs fn K = HK.valX fn) : mg "Log" = some (.ref (HK.ga K "Log")) := by
  exact PySem.W.mg_of X G (HK.eqO_ok (HK.fact c 85 rfl))
theorem zf_tm0 {mg : Str → Option Value} {h : Heap} {K : PySem.W.Frag} (X : K.In h) (G : h.Ns mainGlobals mg) (c : HK.obsX bs fn K = HK.valX fn) : TxtM K (HK.ga K "Log") := by
  exact ⟨⟨(HK.fact c 86 rfl), (HK.fact c 87 rfl), (HK.fact c 88 rfl), (HK.eqO_ok (HK.fact c 89 rfl))⟩, (HK.eqO_ok (HK.fact c 90 rfl)), (HK.eqO_ok (HK.fact c 91 rfl)), (HK.eqO_ok (HK.fact c 92 rfl)), (HK.eqO_ok (HK.fact c 93 rfl))⟩
theorem zf_mk0 {mg : Str → Option Value} {h : Heap} {K : PySem.W.Frag} (X : K.In h) (G : h.Ns mainGlobals mg) (c : HK.obsX bs fn K = HK.valX fn) : Mk K (HK.ga K "Log") (HK.ma K (HK.ga K "Log") "__init__") := by
  exact ⟨(HK.fact c 94 rfl), (HK.eqO_ok (HK.fact c 95 rfl)), (HK.fact c 96 rfl), (HK.fact c 97 rfl)⟩
theorem zf_frules0 {mg : Str → Option Value} {h : Heap} {K : PySem.W.Frag} (X : K.In h) (G : h.Ns mainGlobals mg) (c : HK.obsX bs fn K = HK.valX fn) : ∃ fd, Fun K "rules" "Log.rules" slRlM (HK.ra K (HK.ma K (HK.ga K "Log") "rules") "property") fd ∧ Binds K fd ["self"] [] := by
  have h1d := HK.def_ c 11 rfl
  obtain ⟨_, _, _, _, _, _, _, _, h1, h1c⟩ := HK.DefX.get h1d.1 h1d.2 rfl rfl
  exact ⟨_, fun_mk (st := slRlM) h1 h1c (HK.DefX.keep h1d.2), (fun_mk (st := slRlM) h1 h1c (HK.DefX.keep h1d.2)).binds (ps := ["self"]) (fun _ _ _ _ _ _ us hl => match us, hl with | [_], _ => rfl)⟩
theorem zf_qrules0 {mg : Str → Option Value} {h : Heap} {K : PySem.W.Frag} (X : K.In h) (G : h.Ns mainGlobals mg) (c : HK.obsX bs fn K = HK.valX fn) : PropOf K (HK.ga K "Log") "rules" (HK.ma K (HK.ga K "Log") "rules") (HK.ra K (HK.ma K (HK.ga K "Log") "rules") "property") := by
  obtain ⟨_, h1⟩ := HK.recB_ok (HK.fact c 101 rfl)
  exact ⟨(HK.eqO_ok (HK.fact c 98 rfl)), (HK.eqO_ok (HK.fact c 99 rfl)), (HK.eqB_ok (HK.fact c 100 rfl)), ⟨_, h1⟩⟩
theorem zf_ftable0 {mg : Str → Option Value} {h : Heap} {K : PySem.W.Frag} (X : K.In h) (G : h.Ns mainGlobals mg) (c : HK.obsX bs fn K = HK.valX fn) : ∃ fd, Fun K "table" "Log.table" slTbM (HK.ra K (HK.ma K (HK.ga K "Log") "table") "property") fd ∧ Binds K fd ["self"] [] := by
  have h1d := HK.def_ c 12 rfl
  obtain ⟨_, _, _, _, _, _, _, _, h1, h1c⟩ := HK.DefX.get h1d.1 h1d.2 rfl rfl
  exact ⟨_, fun_mk (st := slTbM) h1 h1c (HK.DefX.keep h1d.2), (fun_mk (st := slTbM) h1 h1c (HK.DefX.keep h1d.2)).binds (ps := ["self"]) (fun _ _ _ _ _ _ us hl => match us, hl with | [_], _ => rfl)⟩
theorem zf_qtable0 {mg : Str → Option Value} {h : Heap} {K : PySem.W.Frag} (X : K.In h) (G : h.Ns mainGlobals mg) (c : HK.obsX bs fn K = HK.valX fn) : PropOf K (HK.ga K "Log") "table" (HK.ma K (HK.ga K "Log") "table") (HK.ra K (HK.ma K (HK.ga K "Log") "table") "property") := by
  obtain ⟨_, h1⟩ := HK.recB_ok (HK.fact c 105 rfl)
  exact ⟨(HK.eqO_ok (HK.fact c 102 rfl)), (HK.eqO_ok (HK.fact c 103 rfl)), (HK.eqB_ok (HK.fact c 104 rfl)), ⟨_, h1⟩⟩
theorem zf_fbroken0 {mg : Str → Option Value} {h : Heap} {K : PySem.W.Frag} (X : K.In h) (G : h.Ns mainGlobals mg) (c : HK.obsX bs fn K = HK.valX fn) : ∃ fd, Fun K "broken" "Log.broken" slBrM (HK.ra K (HK.ma K (HK.ga K "Log") "broken") "property") fd ∧ Binds K fd ["self"] [] := by
  have h1d := HK.def_ c 13 rfl
  obtain ⟨_, _, _, _, _, _, _, _, h1, h1c⟩ := HK.DefX.get h1d.1 h1d.2 rfl rfl
  exact ⟨_, fun_mk (st := slBrM) h1 h1c (HK.DefX.keep h1d.2), (fun_mk (st := slBrM) h1 h1c (HK.DefX.keep h1d.2)).binds (ps := ["self"]) (fun _ _ _ _ _ _ us hl => match us, hl with | [_], _ => rfl)⟩
theorem zf_qbroken0 {mg : Str → Option Value} {h : Heap} {K : PySem.W.Frag} (X : K.In h) (G : h.Ns mainGlobals mg) (c : HK.obsX bs fn K = HK.valX fn) : PropOf K (HK.ga K "Log") "broken" (HK.ma K (HK.ga K "Log") "broken") (HK.ra K (HK.ma K (HK.ga K "Log") "broken") "property") := by
  obtain ⟨_, h1⟩ := HK.recB_ok (HK.fact c 109 rfl)
  exact ⟨(HK.eqO_ok (HK.fact c 106 rfl)), (HK.eqO_ok (HK.fact c 107 rfl)), (HK.eqB_ok (HK.fact c 108 rfl)), ⟨_, h1⟩⟩
theorem zf_fcl0 {mg : Str → Option Value} {h : Heap} {K : PySem.W.Frag} (X : K.In h) (G : h.Ns mainGlobals mg) (c : HK.obsX bs fn K = HK.valX fn) : ∃ fd, Fun K "__call__" "Log.__call__" slCll (HK.ma K (HK.ga K "Log") "__call__") fd ∧ Binds K fd ["self", "row"] [] := by
  have h1d := HK.def_ c 14 rfl
  obtain ⟨_, _, _, _, _, _, _, _, h1, h1c⟩ := HK.DefX.get h1d.1 h1d.2 rfl rfl
  exact ⟨_, fun_mk (st := slCll) h1 h1c (HK.DefX.keep h1d.2), (fun_mk (st := slCll) h1 h1c (HK.DefX.keep h1d.2)).binds (ps := ["self", "row"]) (fun _ _ _ _ _ _ us hl => match us, hl with | [_, _], _ => rfl)⟩
theorem zf_co0 {mg : Str → Option Value} {h : Heap} {K : PySem.W.Frag} (X : K.In h) (G : h.Ns mainGlobals mg) (c : HK.obsX bs fn K = HK.valX fn) : StX.CallO K (HK.ga K "Log") (HK.ma K (HK.ga K "Log") "__call__") := by
  exact ⟨(HK.eqO_ok (HK.fact c 110 rfl)), (HK.fact c 111 rfl), (HK.fact c 112 rfl)⟩
theorem zf_mAdd0 {mg : Str → Option Value} {h : Heap} {K : PySem.W.Frag} (X : K.In h) (G : h.Ns mainGlobals mg) (c : HK.obsX bs fn K = HK.valX fn) : Meth K (HK.ga K "Log") "add" (HK.ma K (HK.ga K "Log") "add") := by
  exact ⟨(HK.eqO_ok (HK.fact c 113 rfl)), (HK.fact c 114 rfl), (HK.fact c 115 rfl)⟩
theorem zf_mChg0 {mg : Str → Option Value} {h : Heap} {K : PySem.W.Frag} (X : K.In h) (G : h.Ns mainGlobals mg) (c : HK.obsX bs fn K = HK.valX fn) : Meth K (HK.ga K "Log") "change" (HK.ma K (HK.ga K "Log") "change") := by
  exact ⟨(HK.eqO_ok (HK.fact c 116 rfl)), (HK.fact c 117 rfl), (HK.fact c 118 rfl)⟩
theorem zf_mChk0 {mg : Str → Option Value} {h : Heap} {K : PySem.W.Frag} (X : K.In h) (G : h.Ns mainGlobals mg) (c : HK.obsX bs fn K = HK.valX fn) : Meth K (HK.ga K "Log") "check" (HK.ma K (HK.ga K "Log") "check") := by
  exact ⟨(HK.eqO_ok (HK.fact c 119 rfl)), (HK.fact c 120 rfl), (HK.fact c 121 rfl)⟩
theorem zf_g1 {mg : Str → Option Value} {h : Heap} {K : PySem.W.Frag} (X : K.In h) (G : h.Ns mainGlobals mg) (c : HK.obsX bs fn K = HK.valX fn) : mg "Strict" = some (.ref (HK.ga K "Strict")) := by
  exact PySem.W.mg_of X G (HK.eqO_ok (HK.fact c 122 rfl))
theorem zf_tm1 {mg : Str → Option Value} {h : Heap} {K : PySem.W.Frag} (X : K.In h) (G : h.Ns mainGlobals mg) (c : HK.obsX bs fn K = HK.valX fn) : TxtM K (HK.ga K "Strict") := by
  exact ⟨⟨(HK.fact c 123 rfl), (HK.fact c 124 rfl), (HK.fact c 125 rfl), (HK.eqO_ok (HK.fact c 126 rfl))⟩, (HK.eqO_ok (HK.fact c 127 rfl)), (HK.eqO_ok (HK.fact c 128 rfl)), (HK.eqO_ok (HK.fact c 129 rfl)), (HK.eqO_ok (HK.fact c 130 rfl))⟩
theorem zf_mk1 {mg : Str → Option Value} {h : Heap} {K : PySem.W.Frag} (X : K.In h) (G : h.Ns mainGlobals mg) (c : HK.obsX bs fn K = HK.valX fn) : Mk K (HK.ga K "Strict") (HK.ma K (HK.ga K "Strict") "__init__") := by
  exact ⟨(HK.fact c 131 rfl), (HK.eqO_ok (HK.fact c 132 rfl)), (HK.fact c 133 rfl), (HK.fact c 134 rfl)⟩
theorem zf_frules1 {mg : Str → Option Value} {h : Heap} {K : PySem.W.Frag} (X : K.In h) (G : h.Ns mainGlobals mg) (c : HK.obsX bs fn K = HK.valX fn) : ∃ fd, Fun K "rules" "Strict.rules" ssRlM (HK.ra K (HK.ma K (HK.ga K "Strict") "rules") "property") fd ∧ Binds K fd ["self"] [] := by
  have h1d := HK.def_ c 15 rfl
  obtain ⟨_, _, _, _, _, _, _, _, h1, h1c⟩ := HK.DefX.get h1d.1 h1d.2 rfl rfl
  exact ⟨_, fun_mk (st := ssRlM) h1 h1c (HK.DefX.keep h1d.2), (fun_mk (st := ssRlM) h1 h1c (HK.DefX.keep h1d.2)).binds (ps := ["self"]) (fun _ _ _ _ _ _ us hl => match us, hl with | [_], _ => rfl)⟩
theorem zf_qrules1 {mg : Str → Option Value} {h : Heap} {K : PySem.W.Frag} (X : K.In h) (G : h.Ns mainGlobals mg) (c : HK.obsX bs fn K = HK.valX fn) : PropOf K (HK.ga K "Strict") "rules" (HK.ma K (HK.ga K "Strict") "rules") (HK.ra K (HK.ma K (HK.ga K "Strict") "rules") "property") := by
  obtain ⟨_, h1⟩ := HK.recB_ok (HK.fact c 138 rfl)
  exact ⟨(HK.eqO_ok (HK.fact c 135 rfl)), (HK.eqO_ok (HK.fact c 136 rfl)), (HK.eqB_ok (HK.fact c 137 rfl)), ⟨_, h1⟩⟩
theorem zf_ftable1 {mg : Str → Option Value} {h : Heap} {K : PySem.W.Frag} (X : K.In h) (G : h.Ns mainGlobals mg) (c : HK.obsX bs fn K = HK.valX fn) : ∃ fd, Fun K "table" "Strict.table" ssTbM (HK.ra K (HK.ma K (HK.ga K "Strict") "table") "property") fd ∧ Binds K fd ["self"] [] := by
  have h1d := HK.def_ c 16 rfl
  obtain ⟨_, _, _, _, _, _, _, _, h1, h1c⟩ := HK.DefX.get h1d.1 h1d.2 rfl rfl
  exact ⟨_, fun_mk (st := ssTbM) h1 h1c (HK.DefX.keep h1d.2), (fun_mk (st := ssTbM) h1 h1c (HK.DefX.keep h1d.2)).binds (ps := ["self"]) (fun _ _ _ _ _ _ us hl => match us, hl with | [_], _ => rfl)⟩
theorem zf_qtable1 {mg : Str → Option Value} {h : Heap} {K : PySem.W.Frag} (X : K.In h) (G : h.Ns mainGlobals mg) (c : HK.obsX bs fn K = HK.valX fn) : PropOf K (HK.ga K "Strict") "table" (HK.ma K (HK.ga K "Strict") "table") (HK.ra K (HK.ma K (HK.ga K "Strict") "table") "property") := by
  obtain ⟨_, h1⟩ := HK.recB_ok (HK.fact c 142 rfl)
  exact ⟨(HK.eqO_ok (HK.fact c 139 rfl)), (HK.eqO_ok (HK.fact c 140 rfl)), (HK.eqB_ok (HK.fact c 141 rfl)), ⟨_, h1⟩⟩
theorem zf_fbroken1 {mg : Str → Option Value} {h : Heap} {K : PySem.W.Frag} (X : K.In h) (G : h.Ns mainGlobals mg) (c : HK.obsX bs fn K = HK.valX fn) : ∃ fd, Fun K "broken" "Strict.broken" ssBrM (HK.ra K (HK.ma K (HK.ga K "Strict") "broken") "property") fd ∧ Binds K fd ["self"] [] := by
  have h1d := HK.def_ c 17 rfl
  obtain ⟨_, _, _, _, _, _, _, _, h1, h1c⟩ := HK.DefX.get h1d.1 h1d.2 rfl rfl
  exact ⟨_, fun_mk (st := ssBrM) h1 h1c (HK.DefX.keep h1d.2), (fun_mk (st := ssBrM) h1 h1c (HK.DefX.keep h1d.2)).binds (ps := ["self"]) (fun _ _ _ _ _ _ us hl => match us, hl with | [_], _ => rfl)⟩
theorem zf_qbroken1 {mg : Str → Option Value} {h : Heap} {K : PySem.W.Frag} (X : K.In h) (G : h.Ns mainGlobals mg) (c : HK.obsX bs fn K = HK.valX fn) : PropOf K (HK.ga K "Strict") "broken" (HK.ma K (HK.ga K "Strict") "broken") (HK.ra K (HK.ma K (HK.ga K "Strict") "broken") "property") := by
  obtain ⟨_, h1⟩ := HK.recB_ok (HK.fact c 146 rfl)
  exact ⟨(HK.eqO_ok (HK.fact c 143 rfl)), (HK.eqO_ok (HK.fact c 144 rfl)), (HK.eqB_ok (HK.fact c 145 rfl)), ⟨_, h1⟩⟩
theorem zf_fcl1 {mg : Str → Option Value} {h : Heap} {K : PySem.W.Frag} (X : K.In h) (G : h.Ns mainGlobals mg) (c : HK.obsX bs fn K = HK.valX fn) : ∃ fd, Fun K "__call__" "Strict.__call__" ssCll (HK.ma K (HK.ga K "Strict") "__call__") fd ∧ Binds K fd ["self", "row"] [] := by
  have h1d := HK.def_ c 18 rfl
  obtain ⟨_, _, _, _, _, _, _, _, h1, h1c⟩ := HK.DefX.get h1d.1 h1d.2 rfl rfl
  exact ⟨_, fun_mk (st := ssCll) h1 h1c (HK.DefX.keep h1d.2), (fun_mk (st := ssCll) h1 h1c (HK.DefX.keep h1d.2)).binds (ps := ["self", "row"]) (fun _ _ _ _ _ _ us hl => match us, hl with | [_, _], _ => rfl)⟩
theorem zf_co1 {mg : Str → Option Value} {h : Heap} {K : PySem.W.Frag} (X : K.In h) (G : h.Ns mainGlobals mg) (c : HK.obsX bs fn K = HK.valX fn) : StX.CallO K (HK.ga K "Strict") (HK.ma K (HK.ga K "Strict") "__call__") := by
  exact ⟨(HK.eqO_ok (HK.fact c 147 rfl)), (HK.fact c 148 rfl), (HK.fact c 149 rfl)⟩
theorem zf_mAdd1 {mg : Str → Option Value} {h : Heap} {K : PySem.W.Frag} (X : K.In h) (G : h.Ns mainGlobals mg) (c : HK.obsX bs fn K = HK.valX fn) : Meth K (HK.ga K "Strict") "add" (HK.ma K (HK.ga K "Strict") "add") := by
  exact ⟨(HK.eqO_ok (HK.fact c 150 rfl)), (HK.fact c 151 rfl), (HK.fact c 152 rfl)⟩
theorem zf_mChg1 {mg : Str → Option Value} {h : Heap} {K : PySem.W.Frag} (X : K.In h) (G : h.Ns mainGlobals mg) (c : HK.obsX bs fn K = HK.valX fn) : Meth K (HK.ga K "Strict") "change" (HK.ma K (HK.ga K "Log") "change") := by
  exact ⟨(HK.eqO_ok (HK.fact c 153 rfl)), (HK.fact c 117 rfl), (HK.fact c 118 rfl)⟩
theorem zf_mChk1 {mg : Str → Option Value} {h : Heap} {K : PySem.W.Frag} (X : K.In h) (G : h.Ns mainGlobals mg) (c : HK.obsX bs fn K = HK.valX fn) : Meth K (HK.ga K "Strict") "check" (HK.ma K (HK.ga K "Strict") "check") := by
  exact ⟨(HK.eqO_ok (HK.fact c 154 rfl)), (HK.fact c 155 rfl), (HK.fact c 156 rfl)⟩
theorem zf_g2 {mg : Str → Option Value} {h : Heap} {K : PySem.W.Frag} (X : K.In h) (G : h.Ns mainGlobals mg) (c : HK.obsX bs fn K = HK.valX fn) : mg "Short" = some (.ref (HK.ga K "Short")) := by
  exact PySem.W.mg_of X G (HK.eqO_ok (HK.fact c 157 rfl))
theorem zf_tm2 {mg : Str → Option Value} {h : Heap} {K : PySem.W.Frag} (X : K.In h) (G : h.Ns mainGlobals mg) (c : HK.obsX bs fn K = HK.valX fn) : TxtM K (HK.ga K "Short") := by
  exact ⟨⟨(HK.fact c 158 rfl), (HK.fact c 159 rfl), (HK.fact c 160 rfl), (HK.eqO_ok (HK.fact c 161 rfl))⟩, (HK.eqO_ok (HK.fact c 162 rfl)), (HK.eqO_ok (HK.fact c 163 rfl)), (HK.eqO_ok (HK.fact c 164 rfl)), (HK.eqO_ok (HK.fact c 165 rfl))⟩
theorem zf_mk2 {mg : Str → Option Value} {h : Heap} {K : PySem.W.Frag} (X : K.In h) (G : h.Ns mainGlobals mg) (c : HK.obsX bs fn K = HK.valX fn) : Mk K (HK.ga K "Short") (HK.ma K (HK.ga K "Short") "__init__") := by
  exact ⟨(HK.fact c 166 rfl), (HK.eqO_ok (HK.fact c 167 rfl)), (HK.fact c 168 rfl), (HK.fact c 169 rfl)⟩
theorem zf_frules2 {mg : Str → Option Value} {h : Heap} {K : PySem.W.Frag} (X : K.In h) (G : h.Ns mainGlobals mg) (c : HK.obsX bs fn K = HK.valX fn) : ∃ fd, Fun K "rules" "Short.rules" shRlM (HK.ra K (HK.ma K (HK.ga K "Short") "rules") "property") fd ∧ Binds K fd ["self"] [] := by
  have h1d := HK.def_ c 19 rfl
  obtain ⟨_, _, _, _, _, _, _, _, h1, h1c⟩ := HK.DefX.get h1d.1 h1d.2 rfl rfl
  exact ⟨_, fun_mk (st := shRlM) h1 h1c (HK.DefX.keep h1d.2), (fun_mk (st := shRlM) h1 h1c (HK.DefX.keep h1d.2)).binds (ps := ["self"]) (fun _ _ _ _ _ _ us hl => match us, hl with | [_], _ => rfl)⟩
theorem zf_qrules2 {mg : Str → Option Value} {h : Heap} {K : PySem.W.Frag} (X : K.In h) (G : h.Ns mainGlobals mg) (c : HK.obsX bs fn K = HK.valX fn) : PropOf K (HK.ga K "Short") "rules" (HK.ma K (HK.ga K "Short") "rules") (HK.ra K (HK.ma K (HK.ga K "Short") "rules") "property") := by
  obtain ⟨_, h1⟩ := HK.recB_ok (HK.fact c 173 rfl)
  exact ⟨(HK.eqO_ok (HK.fact c 170 rfl)), (HK.eqO_ok (HK.fact c 171 rfl)), (HK.eqB_ok (HK.fact c 172 rfl)), ⟨_, h1⟩⟩
theorem zf_ftable2 {mg : Str → Option Value} {h : Heap} {K : PySem.W.Frag} (X : K.In h) (G : h.Ns mainGlobals mg) (c : HK.obsX bs fn K = HK.valX fn) : ∃ fd, Fun K "table" "Short.table" shTbM (HK.ra K (HK.ma K (HK.ga K "Short") "table") "property") fd ∧ Binds K fd ["self"] [] := by
  have h1d := HK.def_ c 20 rfl
  obtain ⟨_, _, _, _, _, _, _, _, h1, h1c⟩ := HK.DefX.get h1d.1 h1d.2 rfl rfl
  exact ⟨_, fun_mk (st := shTbM) h1 h1c (HK.DefX.keep h1d.2), (fun_mk (st := shTbM) h1 h1c (HK.DefX.keep h1d.2)).binds (ps := ["self"]) (fun _ _ _ _ _ _ us hl => match us, hl with | [_], _ => rfl)⟩
theorem zf_qtable2 {mg : Str → Option Value} {h : Heap} {K : PySem.W.Frag} (X : K.In h) (G : h.Ns mainGlobals mg) (c : HK.obsX bs fn K = HK.valX fn) : PropOf K (HK.ga K "Short") "table" (HK.ma K (HK.ga K "Short") "table") (HK.ra K (HK.ma K (HK.ga K "Short") "table") "property") := by
  obtain ⟨_, h1⟩ := HK.recB_ok (HK.fact c 177 rfl)
  exact ⟨(HK.eqO_ok (HK.fact c 174 rfl)), (HK.eqO_ok (HK.fact c 175 rfl)), (HK.eqB_ok (HK.fact c 176 rfl)), ⟨_, h1⟩⟩
theorem zf_fbroken2 {mg : Str → Option Value} {h : Heap} {K : PySem.W.Frag} (X : K.In h) (G : h.Ns mainGlobals mg) (c : HK.obsX bs fn K = HK.valX fn) : ∃ fd, Fun K "broken" "Short.broken" shBrM (HK.ra K (HK.ma K (HK.ga K "Short") "broken") "property") fd ∧ Binds K fd ["self"] [] := by
  have h1d := HK.def_ c 21 rfl
  obtain ⟨_, _, _, _, _, _, _, _, h1, h1c⟩ := HK.DefX.get h1d.1 h1d.2 rfl rfl
  exact ⟨_, fun_mk (st := shBrM) h1 h1c (HK.DefX.keep h1d.2), (fun_mk (st := shBrM) h1 h1c (HK.DefX.keep h1d.2)).binds (ps := ["self"]) (fun _ _ _ _ _ _ us hl => match us, hl with | [_], _ => rfl)⟩
theorem zf_qbroken2 {mg : Str → Option Value} {h : Heap} {K : PySem.W.Frag} (X : K.In h) (G : h.Ns mainGlobals mg) (c : HK.obsX bs fn K = HK.valX fn) : PropOf K (HK.ga K "Short") "broken" (HK.ma K (HK.ga K "Short") "broken") (HK.ra K (HK.ma K (HK.ga K "Short") "broken") "property") := by
  obtain ⟨_, h1⟩ := HK.recB_ok (HK.fact c 181 rfl)
  exact ⟨(HK.eqO_ok (HK.fact c 178 rfl)), (HK.eqO_ok (HK.fact c 179 rfl)), (HK.eqB_ok (HK.fact c 180 rfl)), ⟨_, h1⟩⟩
theorem zf_fcl2 {mg : Str → Option Value} {h : Heap} {K : PySem.W.Frag} (X : K.In h) (G : h.Ns mainGlobals mg) (c : HK.obsX bs fn K = HK.valX fn) : ∃ fd, Fun K "__call__" "Short.__call__" shCll (HK.ma K (HK.ga K "Short") "__call__") fd ∧ Binds K fd ["self", "row"] [] := by
  have h1d := HK.def_ c 22 rfl
  obtain ⟨_, _, _, _, _, _, _, _, h1, h1c⟩ := HK.DefX.get h1d.1 h1d.2 rfl rfl
  exact ⟨_, fun_mk (st := shCll) h1 h1c (HK.DefX.keep h1d.2), (fun_mk (st := shCll) h1 h1c (HK.DefX.keep h1d.2)).binds (ps := ["self", "row"]) (fun _ _ _ _ _ _ us hl => match us, hl with | [_, _], _ => rfl)⟩
theorem zf_co2 {mg : Str → Option Value} {h : Heap} {K : PySem.W.Frag} (X : K.In h) (G : h.Ns mainGlobals mg) (c : HK.obsX bs fn K = HK.valX fn) : StX.CallO K (HK.ga K "Short") (HK.ma K (HK.ga K "Short") "__call__") := by
  exact ⟨(HK.eqO_ok (HK.fact c 182 rfl)), (HK.fact c 183 rfl), (HK.fact c 184 rfl)⟩
theorem zf_mAdd2 {mg : Str → Option Value} {h : Heap} {K : PySem.W.Frag} (X : K.In h) (G : h.Ns mainGlobals mg) (c : HK.obsX bs fn K = HK.valX fn) : Meth K (HK.ga K "Short") "add" (HK.ma K (HK.ga K "Short") "add") := by
  exact ⟨(HK.eqO_ok (HK.fact c 185 rfl)), (HK.fact c 186 rfl), (HK.fact c 187 rfl)⟩
theorem zf_mChg2 {mg : Str → Option Value} {h : Heap} {K : PySem.W.Frag} (X : K.In h) (G : h.Ns mainGlobals mg) (c : HK.obsX bs fn K = HK.valX fn) : Meth K (HK.ga K "Short") "change" (HK.ma K (HK.ga K "Log") "change") := by
  exact ⟨(HK.eqO_ok (HK.fact c 188 rfl)), (HK.fact c 117 rfl), (HK.fact c 118 rfl)⟩
theorem zf_mChk2 {mg : Str → Option Value} {h : Heap} {K : PySem.W.Frag} (X : K.In h) (G : h.Ns mainGlobals mg) (c : HK.obsX bs fn K = HK.valX fn) : Meth K (HK.ga K "Short") "check" (HK.ma K (HK.ga K "Short") "check") := by
  exact ⟨(HK.eqO_ok (HK.fact c 189 rfl)), (HK.fact c 190 rfl), (HK.fact c 191 rfl)⟩
theorem zf_g3 {mg : Str → Option Value} {h : Heap} {K : PySem.W.Frag} (X : K.In h) (G : h.Ns mainGlobals mg) (c : HK.obsX bs fn K = HK.valX fn) : mg "StrictShort" = some (.ref (HK.ga K "StrictShort")) := by
  exact PySem.W.mg_of X G (HK.eqO_ok (HK.fact c 192 rfl))
theorem zf_tm3 {mg : Str → Option Value} {h : Heap} {K : PySem.W.Frag} (X : K.In h) (G : h.Ns mainGlobals mg) (c : HK.obsX bs fn K = HK.valX fn) : TxtM K (HK.ga K "StrictShort") := by
  exact ⟨⟨(HK.fact c 193 rfl), (HK.fact c 194 rfl), (HK.fact c 195 rfl), (HK.eqO_ok (HK.fact c 196 rfl))⟩, (HK.eqO_ok (HK.fact c 197 rfl)), (HK.eqO_ok (HK.fact c 198 rfl)), (HK.eqO_ok (HK.fact c 199 rfl)), (HK.eqO_ok (HK.fact c 200 rfl))⟩
theorem zf_mk3 {mg : Str → Option Value} {h : Heap} {K : PySem.W.Frag} (X : K.In h) (G : h.Ns mainGlobals mg) (c : HK.obsX bs fn K = HK.valX fn) : Mk K (HK.ga K "StrictShort") (HK.ma K (HK.ga K "StrictShort") "__init__") := by
  exact ⟨(HK.fact c 201 rfl), (HK.eqO_ok (HK.fact c 202 rfl)), (HK.fact c 203 rfl), (HK.fact c 204 rfl)⟩
theorem zf_frules3 {mg : Str → Option Value} {h : Heap} {K : PySem.W.Frag} (X : K.In h) (G : h.Ns mainGlobals mg) (c : HK.obsX bs fn K = HK.valX fn) : ∃ fd, Fun K "rules" "StrictShort.rules" sgRlM (HK.ra K (HK.ma K (HK.ga K "StrictShort") "rules") "property") fd ∧ Binds K fd ["self"] [] := by
  have h1d := HK.def_ c 23 rfl
  obtain ⟨_, _, _, _, _, _, _, _, h1, h1c⟩ := HK.DefX.get h1d.1 h1d.2 rfl rfl
  exact ⟨_, fun_mk (st := sgRlM) h1 h1c (HK.DefX.keep h1d.2), (fun_mk (st := sgRlM) h1 h1c (HK.DefX.keep h1d.2)).binds (ps := ["self"]) (fun _ _ _ _ _ _ us hl => match us, hl with | [_], _ => rfl)⟩
theorem zf_qrules3 {mg : Str → Option Value} {h : Heap} {K : PySem.W.Frag} (X : K.In h) (G : h.Ns mainGlobals mg) (c : HK.obsX bs fn K = HK.valX fn) : PropOf K (HK.ga K "StrictShort") "rules" (HK.ma K (HK.ga K "StrictShort") "rules") (HK.ra K (HK.ma K (HK.ga K "StrictShort") "rules") "property") := by
  obtain ⟨_, h1⟩ := HK.recB_ok (HK.fact c 208 rfl)
  exact ⟨(HK.eqO_ok (HK.fact c 205 rfl)), (HK.eqO_ok (HK.fact c 206 rfl)), (HK.eqB_ok (HK.fact c 207 rfl)), ⟨_, h1⟩⟩
theorem zf_ftable3 {mg : Str → Option Value} {h : Heap} {K : PySem.W.Frag} (X : K.In h) (G : h.Ns mainGlobals mg) (c : HK.obsX bs fn K = HK.valX fn) : ∃ fd, Fun K "table" "StrictShort.table" sgTbM (HK.ra K (HK.ma K (HK.ga K "StrictShort") "table") "property") fd ∧ Binds K fd ["self"] [] := by
  have h1d := HK.def_ c 24 rfl
  obtain ⟨_, _, _, _, _, _, _, _, h1, h1c⟩ := HK.DefX.get h1d.1 h1d.2 rfl rfl
  exact ⟨_, fun_mk (st := sgTbM) h1 h1c (HK.DefX.keep h1d.2), (fun_mk (st := sgTbM) h1 h1c (HK.DefX.keep h1d.2)).binds (ps := ["self"]) (fun _ _ _ _ _ _ us hl => match us, hl with | [_], _ => rfl)⟩
theorem zf_qtable3 {mg : Str → Option Value} {h : Heap} {K : PySem.W.Frag} (X : K.In h) (G : h.Ns mainGlobals mg) (c : HK.obsX bs fn K = HK.valX fn) : PropOf K (HK.ga K "StrictShort") "table" (HK.ma K (HK.ga K "StrictShort") "table") (HK.ra K (HK.ma K (HK.ga K "StrictShort") "table") "property") := by
  obtain ⟨_, h1⟩ := HK.recB_ok (HK.fact c 212 rfl)
  exact ⟨(HK.eqO_ok (HK.fact c 209 rfl)), (HK.eqO_ok (HK.fact c 210 rfl)), (HK.eqB_ok (HK.fact c 211 rfl)), ⟨_, h1⟩⟩
theorem zf_fbroken3 {mg : Str → Option Value} {h : Heap} {K : PySem.W.Frag} (X : K.In h) (G : h.Ns mainGlobals mg) (c : HK.obsX bs fn K = HK.valX fn) : ∃ fd, Fun K "broken" "StrictShort.broken" sgBrM (HK.ra K (HK.ma K (HK.ga K "StrictShort") "broken") "property") fd ∧ Binds K fd ["self"] [] := by
  have h1d := HK.def_ c 25 rfl
  obtain ⟨_, _, _, _, _, _, _, _, h1, h1c⟩ := HK.DefX.get h1d.1 h1d.2 rfl rfl
  exact ⟨_, fun_mk (st := sgBrM) h1 h1c (HK.DefX.keep h1d.2), (fun_mk (st := sgBrM) h1 h1c (HK.DefX.keep h1d.2)).binds (ps := ["self"]) (fun _ _ _ _ _ _ us hl => match us, hl with | [_], _ => rfl)⟩
theorem zf_qbroken3 {mg : Str → Option Value} {h : Heap} {K : PySem.W.Frag} (X : K.In h) (G : h.Ns mainGlobals mg) (c : HK.obsX bs fn K = HK.valX fn) : PropOf K (HK.ga K "StrictShort") "broken" (HK.ma K (HK.ga K "StrictShort") "broken") (HK.ra K (HK.ma K (HK.ga K "StrictShort") "broken") "property") := by
  obtain ⟨_, h1⟩ := HK.recB_ok (HK.fact c 216 rfl)
  exact ⟨(HK.eqO_ok (HK.fact c 213 rfl)), (HK.eqO_ok (HK.fact c 214 rfl)), (HK.eqB_ok (HK.fact c 215 rfl)), ⟨_, h1⟩⟩
theorem zf_fcl3 {mg : Str → Option Value} {h : Heap} {K : PySem.W.Frag} (X : K.In h) (G : h.Ns mainGlobals mg) (c : HK.obsX bs fn K = HK.valX fn) : ∃ fd, Fun K "__call__" "StrictShort.__call__" sgCll (HK.ma K (HK.ga K "StrictShort") "__call__") fd ∧ Binds K fd ["self", "row"] [] := by
  have h1d := HK.def_ c 26 rfl
  obtain ⟨_, _, _, _, _, _, _, _, h1, h1c⟩ := HK.DefX.get h1d.1 h1d.2 rfl rfl
  exact ⟨_, fun_mk (st := sgCll) h1 h1c (HK.DefX.keep h1d.2), (fun_mk (st := sgCll) h1 h1c (HK.DefX.keep h1d.2)).binds (ps := ["self", "row"]) (fun _ _ _ _ _ _ us hl => match us, hl with | [_, _], _ => rfl)⟩
theorem zf_co3 {mg : Str → Option Value} {h : Heap} {K : PySem.W.Frag} (X : K.In h) (G : h.Ns mainGlobals mg) (c : HK.obsX bs fn K = HK.valX fn) : StX.CallO K (HK.ga K "StrictShort") (HK.ma K (HK.ga K "StrictShort") "__call__") := by
  exact ⟨(HK.eqO_ok (HK.fact c 217 rfl)), (HK.fact c 218 rfl), (HK.fact c 219 rfl)⟩
theorem zf_mAdd3 {mg : Str → Option Value} {h : Heap} {K : PySem.W.Frag} (X : K.In h) (G : h.Ns mainGlobals mg) (c : HK.obsX bs fn K = HK.valX fn) : Meth K (HK.ga K "StrictShort") "add" (HK.ma K (HK.ga K "StrictShort") "add") := by
  exact ⟨(HK.eqO_ok (HK.fact c 220 rfl)), (HK.fact c 221 rfl), (HK.fact c 222 rfl)⟩
theorem zf_mChg3 {mg : Str → Option Value} {h : Heap} {K : PySem.W.Frag} (X : K.In h) (G : h.Ns mainGlobals mg) (c : HK.obsX bs fn K = HK.valX fn) : Meth K (HK.ga K "StrictShort") "change" (HK.ma K (HK.ga K "Log") "change") := by
  exact ⟨(HK.eqO_ok (HK.fact c 223 rfl)), (HK.fact c 117 rfl), (HK.fact c 118 rfl)⟩
theorem zf_mChk3 {mg : Str → Option Value} {h : Heap} {K : PySem.W.Frag} (X : K.In h) (G : h.Ns mainGlobals mg) (c : HK.obsX bs fn K = HK.valX fn) : Meth K (HK.ga K "StrictShort") "check" (HK.ma K (HK.ga K "Strict") "check") := by
  exact ⟨(HK.eqO_ok (HK.fact c 224 rfl)), (HK.fact c 155 rfl), (HK.fact c 156 rfl)⟩
theorem zf_hsuper {mg : Str → Option Value} {h : Heap} {K : PySem.W.Frag} (X : K.In h) (G : h.Ns mainGlobals mg) (c : HK.obsX bs fn K = HK.valX fn) : mg "super" = none := by
  exact PySem.W.mg_none_of X G (HK.eqO_ok (HK.fact c 225 rfl))
theorem zf_gR {mg : Str → Option Value} {h : Heap} {K : PySem.W.Frag} (X : K.In h) (G : h.Ns mainGlobals mg) (c : HK.obsX bs fn K = HK.valX fn) : mg "Rules" = some (.ref (HK.ga K "Rules")) := by
  exact PySem.W.mg_of X G (HK.eqO_ok (HK.fact c 24 rfl))
theorem zf_noR {mg : Str → Option Value} {h : Heap} {K : PySem.W.Frag} (X : K.In h) (G : h.Ns mainGlobals mg) (c : HK.obsX bs fn K = HK.valX fn) : NoIns K (HK.ga K "Rules") := by
  exact no_ins (HK.fact c 226 rfl) (HK.eqV_ok (HK.fact c 227 rfl))
theorem zf_fi0 {mg : Str → Option Value} {h : Heap} {K : PySem.W.Frag} (X : K.In h) (G : h.Ns mainGlobals mg) (c : HK.obsX bs fn K = HK.valX fn) : ∃ fd, Fun K "__init__" "Log.__init__" sLInit (HK.ma K (HK.ga K "Log") "__init__") fd ∧ Binds K fd ["self", "rules"] [] := by
  have h1d := HK.def_ c 27 rfl
  obtain ⟨_, _, _, _, _, _, _, _, h1, h1c⟩ := HK.DefX.get h1d.1 h1d.2 rfl rfl
  exact ⟨_, fun_mk (st := sLInit) h1 h1c (HK.DefX.keep h1d.2), (fun_mk (st := sLInit) h1 h1c (HK.DefX.keep h1d.2)).binds (ps := ["self", "rules"]) (fun _ _ _ _ _ _ us hl => match us, hl with | [_, _], _ => rfl)⟩
theorem zf_fi1 {mg : Str → Option Value} {h : Heap} {K : PySem.W.Frag} (X : K.In h) (G : h.Ns mainGlobals mg) (c : HK.obsX bs fn K = HK.valX fn) : ∃ fd, Fun K "__init__" "Strict.__init__" sSInitM (HK.ma K (HK.ga K "Strict") "__init__") fd ∧ Binds K fd ["self", "rules"] [] := by
  have h1d := HK.def_ c 28 rfl
  obtain ⟨_, _, _, _, _, _, _, _, h1, h1c⟩ := HK.DefX.get h1d.1 h1d.2 rfl rfl
  exact ⟨_, fun_mk (st := sSInitM) h1 h1c (HK.DefX.keep h1d.2), (fun_mk (st := sSInitM) h1 h1c (HK.DefX.keep h1d.2)).binds (ps := ["self", "rules"]) (fun _ _ _ _ _ _ us hl => match us, hl with | [_, _], _ => rfl)⟩
theorem zf_fi2 {mg : Str → Option Value} {h : Heap} {K : PySem.W.Frag} (X : K.In h) (G : h.Ns mainGlobals mg) (c : HK.obsX bs fn K = HK.valX fn) : ∃ fd, FunD K "__init__" "Short.__init__" (defArgs sHInit) (defBody sHInit) (defScope sHInit) [.int 10] [] (HK.ma K (HK.ga K "Short") "__init__") fd := by
  have hd := HK.def_ c 29 rfl
  exact HK.DefX.getD hd.1 hd.2 rfl
theorem zf_fi3 {mg : Str → Option Value} {h : Heap} {K : PySem.W.Frag} (X : K.In h) (G : h.Ns mainGlobals mg) (c : HK.obsX bs fn K = HK.valX fn) : ∃ fd, FunD K "__init__" "StrictShort.__init__" (defArgs sGInit) (defBody sGInit) (defScope sGInit) [.int 10] [] (HK.ma K (HK.ga K "StrictShort") "__init__") fd := by
  have hd := HK.def_ c 30 rfl
  exact HK.DefX.getD hd.1 hd.2 rfl
theorem zf_cr0 {mg : Str → Option Value} {h : Heap} {K : PySem.W.Frag} (X : K.In h) (G : h.Ns mainGlobals mg) (c : HK.obsX bs fn K = HK.valX fn) : ClX.CRead K (HK.ga K "Log") (.type "type") := by
  exact ⟨(HK.fact c 228 rfl), (HK.eqO_ok (HK.fact c 229 rfl))⟩
theorem zf_cf0 {mg : Str → Option Value} {h : Heap} {K : PySem.W.Frag} (X : K.In h) (G : h.Ns mainGlobals mg) (c : HK.obsX bs fn K = HK.valX fn) : CFU.CFun K (HK.ga K "Log") (.type "type") "__init__" (HK.ma K (HK.ga K "Log") "__init__") := by
  exact ⟨(HK.clvB_ok (HK.fact c 230 rfl)), (HK.eqV_ok (HK.fact c 231 rfl)), (HK.fact c 232 rfl)⟩
theorem zf_cr2 {mg : Str → Option Value} {h : Heap} {K : PySem.W.Frag} (X : K.In h) (G : h.Ns mainGlobals mg) (c : HK.obsX bs fn K = HK.valX fn) : ClX.CRead K (HK.ga K "Short") (.type "type") := by
  exact ⟨(HK.fact c 233 rfl), (HK.eqO_ok (HK.fact c 234 rfl))⟩
theorem zf_cf2 {mg : Str → Option Value} {h : Heap} {K : PySem.W.Frag} (X : K.In h) (G : h.Ns mainGlobals mg) (c : HK.obsX bs fn K = HK.valX fn) : CFU.CFun K (HK.ga K "Short") (.type "type") "__init__" (HK.ma K (HK.ga K "Short") "__init__") := by
  exact ⟨(HK.clvB_ok (HK.fact c 235 rfl)), (HK.eqV_ok (HK.fact c 236 rfl)), (HK.fact c 237 rfl)⟩
theorem zf_fchk {mg : Str → Option Value} {h : Heap} {K : PySem.W.Frag} (X : K.In h) (G : h.Ns mainGlobals mg) (c : HK.obsX bs fn K = HK.valX fn) : ∃ fd, Fun K "check" "Log.check" sLChk (HK.ma K (HK.ga K "Log") "check") fd ∧ Binds K fd ["self", "rows"] [] := by
  have h1d := HK.def_ c 31 rfl
  obtain ⟨_, _, _, _, _, _, _, _, h1, h1c⟩ := HK.DefX.get h1d.1 h1d.2 rfl rfl
  exact ⟨_, fun_mk (st := sLChk) h1 h1c (HK.DefX.keep h1d.2), (fun_mk (st := sLChk) h1 h1c (HK.DefX.keep h1d.2)).binds (ps := ["self", "rows"]) (fun _ _ _ _ _ _ us hl => match us, hl with | [_, _], _ => rfl)⟩
theorem zf_fchg {mg : Str → Option Value} {h : Heap} {K : PySem.W.Frag} (X : K.In h) (G : h.Ns mainGlobals mg) (c : HK.obsX bs fn K = HK.valX fn) : ∃ fd, Fun K "change" "Log.change" sLChg (HK.ma K (HK.ga K "Log") "change") fd ∧ Binds K fd ["self", "table"] [] := by
  have h1d := HK.def_ c 32 rfl
  obtain ⟨_, _, _, _, _, _, _, _, h1, h1c⟩ := HK.DefX.get h1d.1 h1d.2 rfl rfl
  exact ⟨_, fun_mk (st := sLChg) h1 h1c (HK.DefX.keep h1d.2), (fun_mk (st := sLChg) h1 h1c (HK.DefX.keep h1d.2)).binds (ps := ["self", "table"]) (fun _ _ _ _ _ _ us hl => match us, hl with | [_, _], _ => rfl)⟩
theorem zf_fadd {mg : Str → Option Value} {h : Heap} {K : PySem.W.Frag} (X : K.In h) (G : h.Ns mainGlobals mg) (c : HK.obsX bs fn K = HK.valX fn) : ∃ fd, Fun K "add" "Log.add" sLAdd (HK.ma K (HK.ga K "Log") "add") fd ∧ Binds K fd ["self", "row"] [] := by
  have h1d := HK.def_ c 33 rfl
  obtain ⟨_, _, _, _, _, _, _, _, h1, h1c⟩ := HK.DefX.get h1d.1 h1d.2 rfl rfl
  exact ⟨_, fun_mk (st := sLAdd) h1 h1c (HK.DefX.keep h1d.2), (fun_mk (st := sLAdd) h1 h1c (HK.DefX.keep h1d.2)).binds (ps := ["self", "row"]) (fun _ _ _ _ _ _ us hl => match us, hl with | [_, _], _ => rfl)⟩
theorem zf_kchk1 {mg : Str → Option Value} {h : Heap} {K : PySem.W.Frag} (X : K.In h) (G : h.Ns mainGlobals mg) (c : HK.obsX bs fn K = HK.valX fn) : ∃ fd cda cc, FunS K "check" "Strict.check" sSChk (HK.ma K (HK.ga K "Strict") "check") fd cda cc ∧ SUP.SupK PP K cda cc (HK.ga K "Strict") ∧ Binds K fd ["self", "rows"] [] := by
  have h1d := HK.def_ c 34 rfl
  obtain ⟨_, _, _, _, _, _, _, _, h1, h1c⟩ := HK.DefX.getS h1d.1 h1d.2 rfl rfl
  obtain ⟨_, _, _, _, _, _, h2, h2v, h2f⟩ := HK.filB_ok (P := PP) (HK.fact c 238 rfl)
  obtain ⟨_, _, _, h3⟩ := HK.celB_ok (HK.fact c 239 rfl)
  exact ⟨_, _, _, ⟨_, _, _, _, _, _, _, _, rfl, h1, h1c⟩, ⟨⟨_, _, _, _, _, _, h2, h2v, h2f⟩, ⟨_, _, _, h3⟩, Option.isSome_iff_exists.mp (HK.fact c 240 rfl), pTop, (HK.eqO_ok (HK.fact c 241 rfl))⟩, .all (ps := ["self", "rows"]) (fun us hl => match us, hl with | [_, _], _ => rfl)⟩
theorem zf_kchk2 {mg : Str → Option Value} {h : Heap} {K : PySem.W.Frag} (X : K.In h) (G : h.Ns mainGlobals mg) (c : HK.obsX bs fn K = HK.valX fn) : ∃ fd cda cc, FunS K "check" "Short.check" sHChk (HK.ma K (HK.ga K "Short") "check") fd cda cc ∧ SUP.SupK PP K cda cc (HK.ga K "Short") ∧ Binds K fd ["self", "rows"] [] := by
  have h1d := HK.def_ c 35 rfl
  obtain ⟨_, _, _, _, _, _, _, _, h1, h1c⟩ := HK.DefX.getS h1d.1 h1d.2 rfl rfl
  obtain ⟨_, _, _, _, _, _, h2, h2v, h2f⟩ := HK.filB_ok (P := PP) (HK.fact c 242 rfl)
  obtain ⟨_, _, _, h3⟩ := HK.celB_ok (HK.fact c 243 rfl)
  exact ⟨_, _, _, ⟨_, _, _, _, _, _, _, _, rfl, h1, h1c⟩, ⟨⟨_, _, _, _, _, _, h2, h2v, h2f⟩, ⟨_, _, _, h3⟩, Option.isSome_iff_exists.mp (HK.fact c 244 rfl), pTop, (HK.eqO_ok (HK.fact c 241 rfl))⟩, .all (ps := ["self", "rows"]) (fun us hl => match us, hl with | [_, _], _ => rfl)⟩
theorem zf_kadd1 {mg : Str → Option Value} {h : Heap} {K : PySem.W.Frag} (X : K.In h) (G : h.Ns mainGlobals mg) (c : HK.obsX bs fn K = HK.valX fn) : ∃ fd cda cc, FunS K "add" "Strict.add" ssAdd (HK.ma K (HK.ga K "Strict") "add") fd cda cc ∧ SUP.SupK PP K cda cc (HK.ga K "Strict") ∧ Binds K fd ["self", "row"] [] := by
  have h1d := HK.def_ c 36 rfl
  obtain ⟨_, _, _, _, _, _, _, _, h1, h1c⟩ := HK.DefX.getS h1d.1 h1d.2 rfl rfl
  obtain ⟨_, _, _, _, _, _, h2, h2v, h2f⟩ := HK.filB_ok (P := PP) (HK.fact c 245 rfl)
  obtain ⟨_, _, _, h3⟩ := HK.celB_ok (HK.fact c 246 rfl)
  exact ⟨_, _, _, ⟨_, _, _, _, _, _, _, _, rfl, h1, h1c⟩, ⟨⟨_, _, _, _, _, _, h2, h2v, h2f⟩, ⟨_, _, _, h3⟩, Option.isSome_iff_exists.mp (HK.fact c 240 rfl), pTop, (HK.eqO_ok (HK.fact c 241 rfl))⟩, .all (ps := ["self", "row"]) (fun us hl => match us, hl with | [_, _], _ => rfl)⟩
theorem zf_kadd2 {mg : Str → Option Value} {h : Heap} {K : PySem.W.Frag} (X : K.In h) (G : h.Ns mainGlobals mg) (c : HK.obsX bs fn K = HK.valX fn) : ∃ fd cda cc, FunS K "add" "Short.add" shAdd (HK.ma K (HK.ga K "Short") "add") fd cda cc ∧ SUP.SupK PP K cda cc (HK.ga K "Short") ∧ Binds K fd ["self", "row"] [] := by
  have h1d := HK.def_ c 37 rfl
  obtain ⟨_, _, _, _, _, _, _, _, h1, h1c⟩ := HK.DefX.getS h1d.1 h1d.2 rfl rfl
  obtain ⟨_, _, _, _, _, _, h2, h2v, h2f⟩ := HK.filB_ok (P := PP) (HK.fact c 247 rfl)
  obtain ⟨_, _, _, h3⟩ := HK.celB_ok (HK.fact c 248 rfl)
  exact ⟨_, _, _, ⟨_, _, _, _, _, _, _, _, rfl, h1, h1c⟩, ⟨⟨_, _, _, _, _, _, h2, h2v, h2f⟩, ⟨_, _, _, h3⟩, Option.isSome_iff_exists.mp (HK.fact c 244 rfl), pTop, (HK.eqO_ok (HK.fact c 241 rfl))⟩, .all (ps := ["self", "row"]) (fun us hl => match us, hl with | [_, _], _ => rfl)⟩
theorem zf_kadd3 {mg : Str → Option Value} {h : Heap} {K : PySem.W.Frag} (X : K.In h) (G : h.Ns mainGlobals mg) (c : HK.obsX bs fn K = HK.valX fn) : ∃ fd cda cc, FunS K "add" "StrictShort.add" sgAdd (HK.ma K (HK.ga K "StrictShort") "add") fd cda cc ∧ SUP.SupK PP K cda cc (HK.ga K "StrictShort") ∧ Binds K fd ["self", "row"] [] := by
  have h1d := HK.def_ c 38 rfl
  obtain ⟨_, _, _, _, _, _, _, _, h1, h1c⟩ := HK.DefX.getS h1d.1 h1d.2 rfl rfl
  obtain ⟨_, _, _, _, _, _, h2, h2v, h2f⟩ := HK.filB_ok (P := PP) (HK.fact c 249 rfl)
  obtain ⟨_, _, _, h3⟩ := HK.celB_ok (HK.fact c 250 rfl)
  exact ⟨_, _, _, ⟨_, _, _, _, _, _, _, _, rfl, h1, h1c⟩, ⟨⟨_, _, _, _, _, _, h2, h2v, h2f⟩, ⟨_, _, _, h3⟩, Option.isSome_iff_exists.mp (HK.fact c 251 rfl), pTop, (HK.eqO_ok (HK.fact c 241 rfl))⟩, .all (ps := ["self", "row"]) (fun us hl => match us, hl with | [_, _], _ => rfl)⟩
theorem zf_check11 {mg : Str → Option Value} {h : Heap} {K : PySem.W.Frag} (X : K.In h) (G : h.Ns mainGlobals mg) (c : HK.obsX bs fn K = HK.valX fn) : SUP.SupM K (HK.ga K "Strict") (HK.ga K "Strict") "check" (HK.ma K (HK.ga K "Log") "check") := by
  exact ⟨(HK.eqB_ok (HK.fact c 252 rfl)), (HK.eqO_ok (HK.fact c 253 rfl)), (HK.eqV_ok (HK.fact c 254 rfl)), (HK.fact c 255 rfl)⟩
theorem zf_check22 {mg : Str → Option Value} {h : Heap} {K : PySem.W.Frag} (X : K.In h) (G : h.Ns mainGlobals mg) (c : HK.obsX bs fn K = HK.valX fn) : SUP.SupM K (HK.ga K "Short") (HK.ga K "Short") "check" (HK.ma K (HK.ga K "Log") "check") := by
  exact ⟨(HK.eqB_ok (HK.fact c 256 rfl)), (HK.eqO_ok (HK.fact c 257 rfl)), (HK.eqV_ok (HK.fact c 254 rfl)), (HK.fact c 255 rfl)⟩
theorem zf_check31 {mg : Str → Option Value} {h : Heap} {K : PySem.W.Frag} (X : K.In h) (G : h.Ns mainGlobals mg) (c : HK.obsX bs fn K = HK.valX fn) : SUP.SupM K (HK.ga K "StrictShort") (HK.ga K "Strict") "check" (HK.ma K (HK.ga K "Short") "check") := by
  exact ⟨(HK.eqB_ok (HK.fact c 258 rfl)), (HK.eqO_ok (HK.fact c 259 rfl)), (HK.eqV_ok (HK.fact c 260 rfl)), (HK.fact c 261 rfl)⟩
theorem zf_check32 {mg : Str → Option Value} {h : Heap} {K : PySem.W.Frag} (X : K.In h) (G : h.Ns mainGlobals mg) (c : HK.obsX bs fn K = HK.valX fn) : SUP.SupM K (HK.ga K "StrictShort") (HK.ga K "Short") "check" (HK.ma K (HK.ga K "Log") "check") := by
  exact ⟨(HK.eqB_ok (HK.fact c 262 rfl)), (HK.eqO_ok (HK.fact c 263 rfl)), (HK.eqV_ok (HK.fact c 254 rfl)), (HK.fact c 255 rfl)⟩
theorem zf_add11 {mg : Str → Option Value} {h : Heap} {K : PySem.W.Frag} (X : K.In h) (G : h.Ns mainGlobals mg) (c : HK.obsX bs fn K = HK.valX fn) : SUP.SupM K (HK.ga K "Strict") (HK.ga K "Strict") "add" (HK.ma K (HK.ga K "Log") "add") := by
  exact ⟨(HK.eqB_ok (HK.fact c 252 rfl)), (HK.eqO_ok (HK.fact c 264 rfl)), (HK.eqV_ok (HK.fact c 265 rfl)), (HK.fact c 266 rfl)⟩
theorem zf_add22 {mg : Str → Option Value} {h : Heap} {K : PySem.W.Frag} (X : K.In h) (G : h.Ns mainGlobals mg) (c : HK.obsX bs fn K = HK.valX fn) : SUP.SupM K (HK.ga K "Short") (HK.ga K "Short") "add" (HK.ma K (HK.ga K "Log") "add") := by
  exact ⟨(HK.eqB_ok (HK.fact c 256 rfl)), (HK.eqO_ok (HK.fact c 267 rfl)), (HK.eqV_ok (HK.fact c 265 rfl)), (HK.fact c 266 rfl)⟩
theorem zf_add31 {mg : Str → Option Value} {h : Heap} {K : PySem.W.Frag} (X : K.In h) (G : h.Ns mainGlobals mg) (c : HK.obsX bs fn K = HK.valX fn) : SUP.SupM K (HK.ga K "StrictShort") (HK.ga K "Strict") "add" (HK.ma K (HK.ga K "Short") "add") := by
  exact ⟨(HK.eqB_ok (HK.fact c 258 rfl)), (HK.eqO_ok (HK.fact c 268 rfl)), (HK.eqV_ok (HK.fact c 269 rfl)), (HK.fact c 270 rfl)⟩
theorem zf_add32 {mg : Str → Option Value} {h : Heap} {K : PySem.W.Frag} (X : K.In h) (G : h.Ns mainGlobals mg) (c : HK.obsX bs fn K = HK.valX fn) : SUP.SupM K (HK.ga K "StrictShort") (HK.ga K "Short") "add" (HK.ma K (HK.ga K "Log") "add") := by
  exact ⟨(HK.eqB_ok (HK.fact c 262 rfl)), (HK.eqO_ok (HK.fact c 271 rfl)), (HK.eqV_ok (HK.fact c 265 rfl)), (HK.fact c 266 rfl)⟩
theorem zf_add33 {mg : Str → Option Value} {h : Heap} {K : PySem.W.Frag} (X : K.In h) (G : h.Ns mainGlobals mg) (c : HK.obsX bs fn K = HK.valX fn) : SUP.SupM K (HK.ga K "StrictShort") (HK.ga K "StrictShort") "add" (HK.ma K (HK.ga K "Strict") "add") := by
  exact ⟨(HK.eqB_ok (HK.fact c 272 rfl)), (HK.eqO_ok (HK.fact c 273 rfl)), (HK.eqV_ok (HK.fact c 274 rfl)), (HK.fact c 275 rfl)⟩
theorem z_fam {mg : Str → Option Value} {h : Heap} {K : PySem.W.Frag} (X : K.In h) (G : h.Ns mainGlobals mg) (c : HK.obsX bs fn K = HK.valX fn) : LogFam PP K mg :=
  ⟨zf_g0 X G c, zf_tm0 X G c, zf_mk0 X G c, zf_frules0 X G c, zf_qrules0 X G c, zf_ftable0 X G c, zf_qtable0 X G c, zf_fbroken0 X G c, zf_qbroken0 X G c, zf_fcl0 X G c, zf_co0 X G c, zf_mAdd0 X G c, zf_mChg0 X G c, zf_mChk0 X G c, zf_g1 X G c, zf_tm1 X G c, zf_mk1 X G c, zf_frules1 X G c, zf_qrules1 X G c, zf_ftable1 X G c, zf_qtable1 X G c, zf_fbroken1 X G c, zf_qbroken1 X G c, zf_fcl1 X G c, zf_co1 X G c, zf_mAdd1 X G c, zf_mChg1 X G c, zf_mChk1 X G c, zf_g2 X G c, zf_tm2 X G c, zf_mk2 X G c, zf_frules2 X G c, zf_qrules2 X G c, zf_ftable2 X G c, zf_qtable2 X G c, zf_fbroken2 X G c, zf_qbroken2 X G c, zf_fcl2 X G c, zf_co2 X G c, zf_mAdd2 X G c, zf_mChg2 X G c, zf_mChk2 X G c, zf_g3 X G c, zf_tm3 X G c, zf_mk3 X G c, zf_frules3 X G c, zf_qrules3 X G c, zf_ftable3 X G c, zf_qtable3 X G c, zf_fbroken3 X G c, zf_qbroken3 X G c, zf_fcl3 X G c, zf_co3 X G c, zf_mAdd3 X G c, zf_mChg3 X G c, zf_mChk3 X G c, zf_hsuper X G c, zf_gR X G c, zf_noR X G c, zf_fi0 X G c, zf_fi1 X G c, zf_fi2 X G c, zf_fi3 X G c, zf_cr0 X G c, zf_cf0 X G c, zf_cr2 X G c, zf_cf2 X G c, zf_fchk X G c, zf_fchg X G c, zf_fadd X G c, zf_kchk1 X G c, zf_kchk2 X G c, zf_kadd1 X G c, zf_kadd2 X G c, zf_kadd3 X G c, zf_check11 X G c, zf_check22 X G c, zf_check31 X G c, zf_check32 X G c, zf_add11 X G c, zf_add22 X G c, zf_add31 X G c, zf_add32 X G c, zf_add33 X G c⟩
theorem z_ex_ColumnError {mg : Str → Option Value} {h : Heap} {K : PySem.W.Frag} (X : K.In h) (G : h.Ns mainGlobals mg) (c : HK.obsX bs fn K = HK.valX fn) : ∃ CE, mg "ColumnError" = some (.ref CE) := by
  exact mk_exc_ColumnError X G (HK.eqO_ok (HK.fact c 276 rfl))
theorem z_mo_e9 {mg : Str → Option Value} {h : Heap} {K : PySem.W.Frag} (X : K.In h) (G : h.Ns mainGlobals mg) (c : HK.obsX bs fn K = HK.valX fn) : ∃ C9 : Nat → Addr, Ex9 K mg C9 ∧ ∀ i, i < 9 → ExcK K mg (nm9 i) (C9 i) := by
  exact mk_nine X G (HK.eqO_ok (HK.fact c 277 rfl)) (HK.fact c 278 rfl) (HK.fact c 279 rfl) (HK.eqB_ok (HK.fact c 280 rfl)) (HK.eqV_ok (HK.fact c 281 rfl)) (HK.fact c 282 rfl) (HK.eqB_ok (HK.fact c 283 rfl)) (HK.eqO_ok (HK.fact c 284 rfl)) (HK.fact c 285 rfl) (HK.fact c 286 rfl) (HK.eqB_ok (HK.fact c 287 rfl)) (HK.eqV_ok (HK.fact c 288 rfl)) (HK.fact c 289 rfl) (HK.eqB_ok (HK.fact c 290 rfl)) (HK.eqO_ok (HK.fact c 291 rfl)) (HK.fact c 292 rfl) (HK.fact c 293 rfl) (HK.eqB_ok (HK.fact c 294 rfl)) (HK.eqV_ok (HK.fact c 295 rfl)) (HK.fact c 296 rfl) (HK.eqB_ok (HK.fact c 297 rfl)) (HK.eqO_ok (HK.fact c 298 rfl)) (HK.fact c 299 rfl) (HK.fact c 300 rfl) (HK.eqB_ok (HK.fact c 301 rfl)) (HK.eqV_ok (HK.fact c 302 rfl)) (HK.fact c 303 rfl) (HK.eqB_ok (HK.fact c 304 rfl)) (HK.eqO_ok (HK.fact c 305 rfl)) (HK.fact c 306 rfl) (HK.fact c 307 rfl) (HK.eqB_ok (HK.fact c 308 rfl)) (HK.eqV_ok (HK.fact c 309 rfl)) (HK.fact c 310 rfl) (HK.eqB_ok (HK.fact c 311 rfl)) (HK.eqO_ok (HK.fact c 312 rfl)) (HK.fact c 313 rfl) (HK.fact c 314 rfl) (HK.eqB_ok (HK.fact c 315 rfl)) (HK.eqV_ok (HK.fact c 316 rfl)) (HK.fact c 317 rfl) (HK.eqB_ok (HK.fact c 318 rfl)) (HK.eqO_ok (HK.fact c 319 rfl)) (HK.fact c 320 rfl) (HK.fact c 321 rfl) (HK.eqB_ok (HK.fact c 322 rfl)) (HK.eqV_ok (HK.fact c 323 rfl)) (HK.fact c 324 rfl) (HK.eqB_ok (HK.fact c 325 rfl)) (HK.eqO_ok (HK.fact c 326 rfl)) (HK.fact c 327 rfl) (HK.fact c 328 rfl) (HK.eqB_ok (HK.fact c 329 rfl)) (HK.eqV_ok (HK.fact c 330 rfl)) (HK.fact c 331 rfl) (HK.eqB_ok (HK.fact c 332 rfl)) (HK.eqO_ok (HK.fact c 333 rfl)) (HK.fact c 334 rfl) (HK.fact c 335 rfl) (HK.eqB_ok (HK.fact c 336 rfl)) (HK.eqV_ok (HK.fact c 337 rfl)) (HK.fact c 338 rfl) (HK.eqB_ok (HK.fact c 339 rfl)) (HK.eqB_ok (HK.fact c 340 rfl)) (HK.eqB_ok (HK.fact c 341 rfl)) (HK.eqB_ok (HK.fact c 342 rfl)) (HK.eqB_ok (HK.fact c 343 rfl)) (HK.eqB_ok (HK.fact c 344 rfl)) (HK.eqB_ok (HK.fact c 345 rfl)) (HK.eqB_ok (HK.fact c 346 rfl)) (HK.eqB_ok (HK.fact c 347 rfl)) (HK.eqB_ok (HK.fact c 348 rfl)) (HK.eqB_ok (HK.fact c 349 rfl)) (HK.eqB_ok (HK.fact c 350 rfl)) (HK.eqB_ok (HK.fact c 351 rfl)) (HK.eqB_ok (HK.fact c 352 rfl)) (HK.eqB_ok (HK.fact c 353 rfl)) (HK.eqB_ok (HK.fact c 354 rfl)) (HK.eqB_ok (HK.fact c 355 rfl)) (HK.eqB_ok (HK.fact c 356 rfl)) (HK.eqB_ok (HK.fact c 357 rfl)) (HK.eqB_ok (HK.fact c 358 rfl)) (HK.eqB_ok (HK.fact c 359 rfl)) (HK.eqB_ok (HK.fact c 360 rfl)) (HK.eqB_ok (HK.fact c 361 rfl)) (HK.eqB_ok (HK.fact c 362 rfl)) (HK.eqB_ok (HK.fact c 363 rfl)) (HK.eqB_ok (HK.fact c 364 rfl)) (HK.eqB_ok (HK.fact c 365 rfl)) (HK.eqB_ok (HK.fact c 366 rfl)) (HK.eqB_ok (HK.fact c 367 rfl)) (HK.eqB_ok (HK.fact c 368 rfl)) (HK.eqB_ok (HK.fact c 369 rfl)) (HK.eqB_ok (HK.fact c 370 rfl)) (HK.eqB_ok (HK.fact c 371 rfl)) (HK.eqB_ok (HK.fact c 372 rfl)) (HK.eqB_ok (HK.fact c 373 rfl)) (HK.eqB_ok (HK.fact c 374 rfl)) (HK.eqB_ok (HK.fact c 375 rfl))
theorem z_is_an_integer {mg : Str → Option Value} {h : Heap} {K : PySem.W.Frag} (X : K.In h) (G : h.Ns mainGlobals mg) (c : HK.obsX bs fn K = HK.valX fn) : Nonempty (Df K mg "is_an_integer" sIsInt ["thing"]) := by
  have h1d := HK.def_ c 39 rfl
  obtain ⟨_, _, _, _, _, _, _, _, h1, h1c⟩ := HK.DefX.get h1d.1 h1d.2 rfl rfl
  exact mk_is_an_integer X G (HK.eqO_ok (HK.fact c 376 rfl)) h1 h1c (HK.DefX.keep h1d.2)
theorem z_is_width {mg : Str → Option Value} {h : Heap} {K : PySem.W.Frag} (X : K.In h) (G : h.Ns mainGlobals mg) (c : HK.obsX bs fn K = HK.valX fn) : Nonempty (Df K mg "is_width" sIsWidth ["thing"]) := by
  have h1d := HK.def_ c 40 rfl
  obtain ⟨_, _, _, _, _, _, _, _, h1, h1c⟩ := HK.DefX.get h1d.1 h1d.2 rfl rfl
  exact mk_is_width X G (HK.eqO_ok (HK.fact c 377 rfl)) h1 h1c (HK.DefX.keep h1d.2)
theorem z_is_column {mg : Str → Option Value} {h : Heap} {K : PySem.W.Frag} (X : K.In h) (G : h.Ns mainGlobals mg) (c : HK.obsX bs fn K = HK.valX fn) : Nonempty (Df K mg "is_column" sIsCol ["width", "thing"]) := by
  have h1d := HK.def_ c 41 rfl
  obtain ⟨_, _, _, _, _, _, _, _, h1, h1c⟩ := HK.DefX.get h1d.1 h1d.2 rfl rfl
  exact mk_is_column X G (HK.eqO_ok (HK.fact c 378 rfl)) h1 h1c (HK.DefX.keep h1d.2)
theorem z_is_rule {mg : Str → Option Value} {h : Heap} {K : PySem.W.Frag} (X : K.In h) (G : h.Ns mainGlobals mg) (c : HK.obsX bs fn K = HK.valX fn) : Nonempty (Df K mg "is_rule" sIsRule ["width", "thing"]) := by
  have h1d := HK.def_ c 42 rfl
  obtain ⟨_, _, _, _, _, _, _, _, h1, h1c⟩ := HK.DefX.get h1d.1 h1d.2 rfl rfl
  exact mk_is_rule X G (HK.eqO_ok (HK.fact c 379 rfl)) h1 h1c (HK.DefX.keep h1d.2)
theorem z_every_rule {mg : Str → Option Value} {h : Heap} {K : PySem.W.Frag} (X : K.In h) (G : h.Ns mainGlobals mg) (c : HK.obsX bs fn K = HK.valX fn) : Nonempty (Df K mg "every_rule" sEvery ["width"]) := by
  have h1d := HK.def_ c 43 rfl
  obtain ⟨_, _, _, _, _, _, _, _, h1, h1c⟩ := HK.DefX.get h1d.1 h1d.2 rfl rfl
  exact mk_every_rule X G (HK.eqO_ok (HK.fact c 380 rfl)) h1 h1c (HK.DefX.keep h1d.2)
theorem z_line_of {mg : Str → Option Value} {h : Heap} {K : PySem.W.Frag} (X : K.In h) (G : h.Ns mainGlobals mg) (c : HK.obsX bs fn K = HK.valX fn) : Nonempty (Df K mg "line_of" sLine ["rule"]) := by
  have h1d := HK.def_ c 44 rfl
  obtain ⟨_, _, _, _, _, _, _, _, h1, h1c⟩ := HK.DefX.get h1d.1 h1d.2 rfl rfl
  exact mk_line_of X G (HK.eqO_ok (HK.fact c 381 rfl)) h1 h1c (HK.DefX.keep h1d.2)
theorem z_rules_of {mg : Str → Option Value} {h : Heap} {K : PySem.W.Frag} (X : K.In h) (G : h.Ns mainGlobals mg) (c : HK.obsX bs fn K = HK.valX fn) : Nonempty (Df K mg "rules_of" sRulesOf ["width", "text"]) := by
  have h1d := HK.def_ c 45 rfl
  obtain ⟨_, _, _, _, _, _, _, _, h1, h1c⟩ := HK.DefX.get h1d.1 h1d.2 rfl rfl
  exact mk_rules_of X G (HK.eqO_ok (HK.fact c 382 rfl)) h1 h1c (HK.DefX.keep h1d.2)
theorem z_is_row {mg : Str → Option Value} {h : Heap} {K : PySem.W.Frag} (X : K.In h) (G : h.Ns mainGlobals mg) (c : HK.obsX bs fn K = HK.valX fn) : Nonempty (Df K mg "is_row" sIsRow ["width", "thing"]) := by
  have h1d := HK.def_ c 46 rfl
  obtain ⟨_, _, _, _, _, _, _, _, h1, h1c⟩ := HK.DefX.get h1d.1 h1d.2 rfl rfl
  exact mk_is_row X G (HK.eqO_ok (HK.fact c 383 rfl)) h1 h1c (HK.DefX.keep h1d.2)
theorem z_holds {mg : Str → Option Value} {h : Heap} {K : PySem.W.Frag} (X : K.In h) (G : h.Ns mainGlobals mg) (c : HK.obsX bs fn K = HK.valX fn) : Nonempty (Df K mg "holds" sHo ["rows", "rule"]) := by
  have h1d := HK.def_ c 47 rfl
  obtain ⟨_, _, _, _, _, _, _, _, h1, h1c⟩ := HK.DefX.get h1d.1 h1d.2 rfl rfl
  exact mk_holds X G (HK.eqO_ok (HK.fact c 384 rfl)) h1 h1c (HK.DefX.keep h1d.2)
theorem z_rules_broken {mg : Str → Option Value} {h : Heap} {K : PySem.W.Frag} (X : K.In h) (G : h.Ns mainGlobals mg) (c : HK.obsX bs fn K = HK.valX fn) : Nonempty (Df K mg "rules_broken" sBrk ["rules", "rows"]) := by
  have h1d := HK.def_ c 48 rfl
  obtain ⟨_, _, _, _, _, _, _, _, h1, h1c⟩ := HK.DefX.get h1d.1 h1d.2 rfl rfl
  exact mk_rules_broken X G (HK.eqO_ok (HK.fact c 385 rfl)) h1 h1c (HK.DefX.keep h1d.2)
theorem z_l_said {mg : Str → Option Value} {h : Heap} {K : PySem.W.Frag} (X : K.In h) (G : h.Ns mainGlobals mg) (c : HK.obsX bs fn K = HK.valX fn) : Nonempty (Df K mg "_law_said" sSaid ["_law_call"]) := by
  have h1d := HK.def_ c 49 rfl
  obtain ⟨_, _, _, _, _, _, _, _, h1, h1c⟩ := HK.DefX.get h1d.1 h1d.2 rfl rfl
  exact mk_l_said X G (HK.eqO_ok (HK.fact c 386 rfl)) h1 h1c (HK.DefX.keep h1d.2)
theorem z_l_source {mg : Str → Option Value} {h : Heap} {K : PySem.W.Frag} (X : K.In h) (G : h.Ns mainGlobals mg) (c : HK.obsX bs fn K = HK.valX fn) : Nonempty (Df K mg "_law_source" sSource ["_law_cell_here"]) := by
  have h1d := HK.def_ c 50 rfl
  obtain ⟨_, _, _, _, _, _, _, _, h1, h1c⟩ := HK.DefX.get h1d.1 h1d.2 rfl rfl
  exact mk_l_source X G (HK.eqO_ok (HK.fact c 387 rfl)) h1 h1c (HK.DefX.keep h1d.2)
theorem z_l_cell {mg : Str → Option Value} {h : Heap} {K : PySem.W.Frag} (X : K.In h) (G : h.Ns mainGlobals mg) (c : HK.obsX bs fn K = HK.valX fn) : Nonempty (Df K mg "_law_cell" sCell ["_law_script", "_law_index"]) := by
  have h1d := HK.def_ c 51 rfl
  obtain ⟨_, _, _, _, _, _, _, _, h1, h1c⟩ := HK.DefX.get h1d.1 h1d.2 rfl rfl
  exact mk_l_cell X G (HK.eqO_ok (HK.fact c 388 rfl)) h1 h1c (HK.DefX.keep h1d.2)
theorem z_l_draw {mg : Str → Option Value} {h : Heap} {K : PySem.W.Frag} (X : K.In h) (G : h.Ns mainGlobals mg) (c : HK.obsX bs fn K = HK.valX fn) : Nonempty (Df K mg "_law_draw" sDraw ["_law_source_here", "_law_many"]) := by
  have h1d := HK.def_ c 52 rfl
  obtain ⟨_, _, _, _, _, _, _, _, h1, h1c⟩ := HK.DefX.get h1d.1 h1d.2 rfl rfl
  exact mk_l_draw X G (HK.eqO_ok (HK.fact c 389 rfl)) h1 h1c (HK.DefX.keep h1d.2)
theorem z_l_choose {mg : Str → Option Value} {h : Heap} {K : PySem.W.Frag} (X : K.In h) (G : h.Ns mainGlobals mg) (c : HK.obsX bs fn K = HK.valX fn) : Nonempty (Df K mg "_law_choose" sChoose ["_law_source_here", "_law_values"]) := by
  have h1d := HK.def_ c 53 rfl
  obtain ⟨_, _, _, _, _, _, _, _, h1, h1c⟩ := HK.DefX.get h1d.1 h1d.2 rfl rfl
  exact mk_l_choose X G (HK.eqO_ok (HK.fact c 390 rfl)) h1 h1c (HK.DefX.keep h1d.2)
theorem z_l_given {mg : Str → Option Value} {h : Heap} {K : PySem.W.Frag} (X : K.In h) (G : h.Ns mainGlobals mg) (c : HK.obsX bs fn K = HK.valX fn) : Nonempty (Df K mg "_law_given" sGv ["_law_source_here", "_law_many", "_law_size"]) := by
  have h1d := HK.def_ c 54 rfl
  obtain ⟨_, _, _, _, _, _, _, _, h1, h1c⟩ := HK.DefX.get h1d.1 h1d.2 rfl rfl
  exact mk_l_given X G (HK.eqO_ok (HK.fact c 391 rfl)) h1 h1c (HK.DefX.keep h1d.2)
theorem z_l_words {mg : Str → Option Value} {h : Heap} {K : PySem.W.Frag} (X : K.In h) (G : h.Ns mainGlobals mg) (c : HK.obsX bs fn K = HK.valX fn) : Nonempty (Df K mg "_law_words" sWd ["_law_given_here"]) := by
  have h1d := HK.def_ c 55 rfl
  obtain ⟨_, _, _, _, _, _, _, _, h1, h1c⟩ := HK.DefX.get h1d.1 h1d.2 rfl rfl
  exact mk_l_words X G (HK.eqO_ok (HK.fact c 392 rfl)) h1 h1c (HK.DefX.keep h1d.2)
theorem z_l_row {mg : Str → Option Value} {h : Heap} {K : PySem.W.Frag} (X : K.In h) (G : h.Ns mainGlobals mg) (c : HK.obsX bs fn K = HK.valX fn) : Nonempty (Df K mg "_law_row" sRwl ["_law_source_here", "_law_many", "_law_listed"]) := by
  have h1d := HK.def_ c 56 rfl
  obtain ⟨_, _, _, _, _, _, _, _, h1, h1c⟩ := HK.DefX.get h1d.1 h1d.2 rfl rfl
  exact mk_l_row X G (HK.eqO_ok (HK.fact c 393 rfl)) h1 h1c (HK.DefX.keep h1d.2)
theorem z_l_made {mg : Str → Option Value} {h : Heap} {K : PySem.W.Frag} (X : K.In h) (G : h.Ns mainGlobals mg) (c : HK.obsX bs fn K = HK.valX fn) : Nonempty (Df K mg "_law_made" sMdl ["_law_kind", "_law_asked", "_law_cap"]) := by
  have h1d := HK.def_ c 57 rfl
  obtain ⟨_, _, _, _, _, _, _, _, h1, h1c⟩ := HK.DefX.get h1d.1 h1d.2 rfl rfl
  exact mk_l_made X G (HK.eqO_ok (HK.fact c 394 rfl)) h1 h1c (HK.DefX.keep h1d.2)
theorem z_l_is_told_right {mg : Str → Option Value} {h : Heap} {K : PySem.W.Frag} (X : K.In h) (G : h.Ns mainGlobals mg) (c : HK.obsX bs fn K = HK.valX fn) : Nonempty (Df K mg "_law_is_told_right" sTrt ["_law_log", "_law_kind"]) := by
  have h1d := HK.def_ c 58 rfl
  obtain ⟨_, _, _, _, _, _, _, _, h1, h1c⟩ := HK.DefX.get h1d.1 h1d.2 rfl rfl
  exact mk_l_is_told_right X G (HK.eqO_ok (HK.fact c 395 rfl)) h1 h1c (HK.DefX.keep h1d.2)
theorem facts {w : World} {mg : Str → Option Value} {fa : Addr} {h : Heap} (Y : (HK.hookA adrs bs fn).says w h) (G : h.Ns mainGlobals mg) (hmg : mg "law" = some (.ref fa)) : ∃ (K : PySem.W.Frag) (fd : FuncData) (cs : List (Addr × Addr)) (sp : Sp), K.In h ∧ (∀ p ∈ cs, ∃ y ∈ xsT, PySem.W.tabIn K y = some p) ∧ (∀ p ∈ cs, K.lookup p.2 = none) ∧ (∀ (s : Shared) (v : Value), BindsTo s fd ⟨[v], []⟩ [("_law_script", v)]) ∧ (∀ (H : Hp) (a : Addr) (ns : List Int), ns.length ≤ 63 → (∀ p ∈ cs, H p.2 = some (.tbl #[])) → SqL K H a (ns.map V.int) → sp [.ref a] H (fun v _ => v = .bl true) fun _ _ _ => False) ∧
      ∀ base : Heap, K.In base → base.Ns mainGlobals mg → (∀ p ∈ cs, LamX.TabB base mg p.1 p.2) → GD.FnG LL.prog w K mg base CX0 18 fa fd ["_law_script"] sp := by
  obtain ⟨K, X, c⟩ := Y
  have h1d := HK.def_ c 59 rfl
  obtain ⟨_, _, _, _, _, _, _, _, h1, h1c⟩ := HK.DefX.get h1d.1 h1d.2 rfl rfl
  have elq := of_decide_eq_true (HK.fact c 399 rfl)
  rw [elq] at h1 h1c
  obtain ⟨fd, cs, sp, h1, h2, h3, h4, h5⟩ := all_mk (l := LL) (w := w) X G hmg (HK.eqO_ok (HK.fact c 396 rfl)) h1 h1c (HK.DefX.keep h1d.2) (z_glb X G c) (z_kls X G c) (z_klsT X G c) (z_glbT X G c) (z_fam X G c) (z_ex_ColumnError X G c) (z_mo_e9 X G c) (z_is_an_integer X G c) (z_is_width X G c) (z_is_column X G c) (z_is_rule X G c) (z_every_rule X G c) (z_line_of X G c) (z_rules_of X G c) (z_is_row X G c) (z_holds X G c) (z_rules_broken X G c) (z_l_said X G c) (z_l_source X G c) (z_l_cell X G c) (z_l_draw X G c) (z_l_choose X G c) (z_l_given X G c) (z_l_words X G c) (z_l_row X G c) (z_l_made X G c) (z_l_is_told_right X G c) (HK.tabB_ok (HK.fact c 397 rfl)) (HK.none_ok (HK.fact c 398 rfl))
  exact ⟨K, fd, cs, sp, X, h1, h2, h3, h4, h5⟩
theorem ob_eq (s : PySem.W.SharedT) : ob s = hk.obs s.abs := HK.obsA_eq (HandSHeadRun.getT_eq s)
section
open PySem.W HandSHeadRun
end
end CC
open PySem PySem.W PyProof.Rows
set_option maxHeartbeats 0 in
theorem PySem.Challenge.cw_countcycles_k29_whole_broken_beside_tabl_holds : PySem.Challenge.rw_countcycles_k29_whole_broken_beside_tabl.Holds := by
  w_on; o_law
  refine HandSHeadRun.head_any (r := OpenLaw.row PySem.Challenge.rw_countcycles_k29_whole_broken_beside_tabl) (q := CC.qv) (H := CC.hk) (ob := CC.ob) (M := 20000) (loose := CC.hdNms) (d := HandSHeadRun.topDef (OpenLaw.row PySem.Challenge.rw_countcycles_k29_whole_broken_beside_tabl).prog 63) (kwd := []) CC.ob_eq
    (by kernel_rfl) (fun s => by kernel_rfl) CC.run (by kernel_rfl) (by kernel_rfl) (by kernel_rfl) (by rfl) (by first | assumption | decide +kernel) (by decide +kernel) ⟨rfl, rfl, rfl, rfl, rfl, by decide +kernel⟩ ?hw ?hc
  case hw => w_witness2
  case hc =>
    refine HK.walk_X (l := PySem.Challenge.rw_countcycles_k29_whole_broken_beside_tabl) (n := 63) (k := 18) (x := "_law_script") (xs := CC.xsT) (CX := fun _ => L2.CX0) rfl (by decide) (by kernel_rfl) ⟨rfl, by decide, by decide⟩ (by intro y hy; rcases List.mem_cons.mp hy with rfl | hy; exact ⟨_, rfl⟩; cases hy) ?F (fun _ _ _ _ _ h => h)
    intro w mg fa h Y G hmg0
    have hmg : mg ("law" : PySem.Str) = some (.ref fa) := by
      have e : (HandSHeadRun.topDef (OpenLaw.row PySem.Challenge.rw_countcycles_k29_whole_broken_beside_tabl).prog 63).name = ("law" : PySem.Str) := by kernel_rfl
      rw [← e]
      exact hmg0
    exact CC.facts Y G hmg


