import PyProof.Rows.All
import Wide.All
import OpenK.AllK
import Wide.FinOn
import HandS.ForMost
import HandS.Deep
import HandS.IsInst
import HandS.FStr
import HandS.Star
import HandS.SlotsOwn
import PyProof.FactsAll.object_2
import HandS.ExcOwn
import HandS.WordsExc
import HandS.Codes
import HandS.Conv
import HandS.Strs
import HandS.SetFor
import HandS.TupSets
import HandS.DictComp
import HandS.ClsMeth
import HandS.StrMore
import HandS.Property
import HandS.SetBool
import HandS.Zip
import HandS.Set
import PyProof.FactsAll.set_2
import PyProof.ReprRoads
import HandS.More
import HandS.Lambda
import HandS.EndBits
import KE.KNestM
import KE.KSuper
import HandS.Style
import HandS.Defaults
import HandS.MakeKw
import HandS.SortInts
import PyProof.ReprLen
import HandS.TryMany
import HandS.TupLe
import KE.GoesMore
import HandS.TupAny
import HandS.TupMul
import HandS.TryOnly
import HandS.Head0
import HandS.Head1
import HandS.Head2
import HandS.HeadHook1
import HandS.HeadHook2
import OpenK.KCls
import PySem.Challenge.RW_countcycles_k20_rows_are_added_and_dropp
set_option Elab.async false
set_option linter.all false
set_option maxRecDepth 100000
set_option maxHeartbeats 4000000
namespace CC
open PySem L2
def tp (i : Nat) : Stmt := PySem.Challenge.pw_countcycles_k20_rows_are_added_and_dropp.main.body.getD i (.Pass ⟨0, 0, 0, 0⟩)
abbrev sCell : Stmt := tp 50
end CC
namespace CC
open PySem L2
abbrev sIsInt : Stmt := tp 6
abbrev sIsWidth : Stmt := tp 7
abbrev sIsCol : Stmt := tp 8
abbrev sIsRule : Stmt := tp 10
end CC
namespace CC
open PySem L2
abbrev sEvery : Stmt := tp 11
end CC
namespace CC
open PySem L2 TL
abbrev sLine : Stmt := tp 36
end CC
namespace CC
open PySem L2 TL
abbrev sRulesOf : Stmt := tp 37
end CC
namespace CC
open PySem L2 TL
abbrev sInit : Stmt := inClass (tp 38) 0
abbrev sRead : Stmt := inClass (tp 38) 10
end CC
namespace CC
open PySem L2 TL
abbrev sIsRow : Stmt := tp 9
abbrev sIsNum : Stmt := tp 41
end CC
namespace CC
open PySem L2 TL
abbrev sRowsOf : Stmt := tp 42
def retVal : Stmt → Expr
  | .Return (some v) _ => v
  | _ => .Constant .none 0 ⟨0, 0, 0, 0⟩
end CC
namespace CC
open PySem L2 TL
abbrev sTInit : Stmt := inClass (tp 45) 0
abbrev sTRead : Stmt := inClass (tp 45) 12
end CC
namespace CC
open PySem L2 TL
abbrev sLChk : Stmt := inClass (tp 48) 8
abbrev sLChg : Stmt := inClass (tp 48) 9
end CC
namespace CC
open PySem L2
abbrev sPW : Stmt := inClass (tp 38) 1
abbrev sPR : Stmt := inClass (tp 38) 2
end CC
namespace CC
open PySem L2 TL
abbrev sLAdd : Stmt := inClass (tp 48) 11
end CC
namespace CC
open PySem L2 TL
abbrev sHo : Stmt := tp 12
end CC
namespace CC
open PySem L2 TL
abbrev sTW : Stmt := inClass (tp 45) 1
end CC
namespace CC
open PySem L2 TL
abbrev sTR : Stmt := inClass (tp 45) 2
end CC
namespace CC
open PySem L2 TL
abbrev sBrk : Stmt := tp 47
end CC
namespace CC
open PySem L2 TL
abbrev sLir : Stmt := tp 65
abbrev sDdu : Stmt := tp 67
end CC
namespace CC
open PySem L2 TL
abbrev sLInit : Stmt := inClass (tp 48) 0
end CC
namespace CC
open PySem L2 TL
abbrev sIh : Stmt := tp 60
end CC
namespace CC
open PySem L2 TL
abbrev slRlM : Stmt := inClass (tp 48) 1
end CC
namespace CC
open PySem L2 TL
abbrev slTbM : Stmt := inClass (tp 48) 2
end CC
namespace CC
open PySem L2 TL
abbrev slBrM : Stmt := inClass (tp 48) 4
end CC
namespace CC
open PySem L2 TL
abbrev slLnM : Stmt := inClass (tp 48) 6
end CC
namespace CC
open PySem L2 TL
abbrev slRpM : Stmt := inClass (tp 48) 7
end CC
namespace CC
open PySem L2 TL
abbrev slCgM : Stmt := inClass (tp 48) 5
end CC
namespace CC
open PySem L2 TL
def joinArg : Expr → Expr
  | .Call _ (a :: _) _ _ => a
  | e => e
end CC
namespace CC
open PySem L2 TL
abbrev sTTx : Stmt := tp 55
end CC
namespace CC
open PySem L2 TL
abbrev sWd : Stmt := tp 57
end CC
namespace CC
open PySem L2 TL
abbrev sLdu : Stmt := tp 64
end CC
namespace CC
open PySem L2 TL
abbrev sFit : Stmt := tp 61
end CC
namespace CC
open PySem L2 TL
abbrev sRTxt : Stmt := inClass (tp 38) 9
end CC
namespace CC
open PySem L2 TL LamX
abbrev sAdu : Stmt := tp 66
end CC
namespace CC
open PySem L2 TL
abbrev slAsg : Stmt := inClass (tp 48) 10
end CC
namespace CC
open PySem L2 TL LamX PyProof.Rows
abbrev sSaid : Stmt := tp 62
end CC
namespace CC
open PySem L2 TL
abbrev slCll : Stmt := inClass (tp 48) 12
end CC
namespace CC
open PySem L2 TL
abbrev slDrp : Stmt := inClass (tp 48) 13
end CC
namespace CC
open PySem L2
abbrev sSource : Stmt := tp 51
abbrev sDraw : Stmt := tp 52
abbrev sChoose : Stmt := tp 53
end CC
namespace CC
open PySem L2 TL
abbrev sRwl : Stmt := tp 59
end CC
namespace CC
open PySem L2 TL LamX
abbrev sOdd : Stmt := tp 68
end CC
namespace CC
open PySem L2 TL
abbrev sTText : Stmt := inClass (tp 45) 11
end CC
namespace CC
open PySem L2 TL
abbrev sSee : Stmt := tp 63
end CC
namespace CC
open PySem L2 TL
abbrev sLta : Stmt := tp 56
end CC
namespace CC
open PySem L2 TL LamX PyProof.Rows
abbrev sCl : Stmt := tp 69
end CC
namespace CC
open PySem L2 TL LamX PyProof.Rows
abbrev sFul : Stmt := tp 70
end CC
namespace CC
open PySem L2 TL
abbrev sGv : Stmt := tp 58
end CC
namespace CC
open PySem L2 TL
abbrev sIsEq : Stmt := tp 54
end CC
namespace CC
open PySem L2 TL LamX PyProof.Rows
abbrev sLaw : Stmt := tp 71
end CC
namespace HK
open PySem PySem.Spec PyProof.Rows L2 PySem.W
def fstR : Option (Option Value) → Addr
  | some (some (.ref a)) => a
  | _ => 0
def hdR : Option (List Value) → Addr
  | some (.ref a :: _) => a
  | _ => 0
def ga (K : Frag) (x : Str) : Addr := fstR (nsIn K mainGlobals x)
def ma (K : Frag) (C : Addr) (m : Str) : Addr := fstR (findIn K (.ref C) m)
def ra (K : Frag) (p : Addr) (T : String) : Addr := hdR (recIn K p T)
def ca (K : Frag) (C : Addr) (m : Str) : Addr := match findCls K (.ref C) (.type "type") m with
  | some (.get _ (.ref p) _ _) => p
  | _ => 0
def coA (K : Frag) (f : Addr) : Addr := match K.lookup f with
  | some ⟨_, _, .func fd, _⟩ => (match fd.code with
    | .ref c => c
    | _ => 0)
  | _ => 0
def ceA (K : Frag) (f : Addr) : Addr := match K.lookup f with
  | some ⟨_, _, .func fd, _⟩ => (match fd.closure with
    | [(_, c)] => c
    | _ => 0)
  | _ => 0
def tabC (K : Frag) (x : Str) : Addr := match tabIn K x with
  | some p => p.1
  | none => 0
def tabP (K : Frag) (x : Str) : Addr := match tabIn K x with
  | some p => p.2
  | none => 0
def eqO (a b : Option (Option Value)) : Bool := decide (a = b)
def eqV (a b : Option Value) : Bool := decide (a = b)
def eqB (a b : Option Bool) : Bool := decide (a = b)
def recB (K : Frag) (p : Addr) (T : String) : Bool := match recIn K p T with
  | some (.ref _ :: _) => true
  | _ => false
def clsB (K : Frag) (C : Addr) (m : Str) : Bool := match findCls K (.ref C) (.type "type") m with
  | some (.get g (.ref _) .none (.ref c)) => decide (g = .builtin "classmethod.__get__") && decide (c = C)
  | _ => false
def clvB (K : Frag) (C : Addr) (m : Str) (f : Addr) : Bool := match findCls K (.ref C) (.type "type") m with
  | some (.val v) => decide (v = .ref f)
  | _ => false
def intB (K : Frag) (x : Str) (i : Int) : Bool := match nsIn K mainGlobals x with
  | some (some (.int j _)) => decide (j = i)
  | _ => false
def kndB (K : Frag) (a : Addr) : Bool := match K.lookup a with
  | some ⟨.type c, _, .seq its _, _⟩ => decide (c = "tuple") && (match its.toList with
    | [.str x _, .str y _] => decide (x = "settles") && decide (y = "within")
    | _ => false)
  | _ => false
def tabB (K : Frag) (x : Str) : Bool := (tabIn K x).isSome
abbrev FnW : Type := Option (Str × Str × Arguments × FuncBody × Scope × Addr × List Str × Addr)
def fnW (K : Frag) (a : Addr) : FnW := match K.lookup a with
  | some ⟨_, _, .func fd, _⟩ => some (fd.name, fd.qualname, fd.params, fd.body, fd.scope, fd.globals, fd.closure.map (·.1), fd.builtins)
  | _ => none
/-- one def: where it stands; sup: whether it has the cell __class__ -/
structure DefX where
  at_ : Frag → Addr
  sup : Bool
  name : Str
  qual : Str
  st : Stmt
  dfl : List V := []
def DefX.val (d : DefX) : FnW := some (d.name, d.qual, defArgs d.st, .stmts (defBody d.st), defScope d.st, mainGlobals, if d.sup then [("__class__" : Str)] else [], builtinsNs)
def isRef : Value → Bool
  | .ref _ => true
  | _ => false
def DefX.ok (K : Frag) (d : DefX) : Bool := keepIn K (.ref (d.at_ K)) && (match K.lookup (d.at_ K) with
  | some ⟨_, _, .func fd, _⟩ => codeIn K fd.code d.qual && (isRef fd.code && He.dflB K fd.defaults d.dfl)
  | _ => false)
/-- what the module's names reach in n steps, but for the tables of the code objects of xs -/
def frX (xs : List Str) (n : Nat) (g : Addr → Option Obj) : Frag :=
  He.frG g (cStatics :: (He.asD g n).filter fun a => !(xs.any fun x => decide (tabP (He.frG g (He.asD g n)) x = a)))
abbrev AlX : Type := Bool × List FnW
def obsX (bs : Frag → List Bool) (fn : List DefX) (K : Frag) : AlX := (((bs K).all id) && fn.all fun d => d.ok K, fn.map fun d => fnW K (d.at_ K))
def valX (fn : List DefX) : AlX := (true, fn.map DefX.val)
def obsXG (xs : List Str) (n : Nat) (bs : Frag → List Bool) (fn : List DefX) (g : Addr → Option Obj) : AlX := obsX bs fn (frX xs n g)
def hookX (xs : List Str) (n : Nat) (bs : Frag → List Bool) (fn : List DefX) : Hook where
  α := AlX
  obs := fun s => obsXG xs n bs fn s.heap.get?
  val := fun _ => valX fn
  says := fun _ h => ∃ K : Frag, K.In h ∧ obsX bs fn K = valX fn
  of := fun _ _ e => ⟨_, He.frG_in, e⟩
  keeps := fun _ _ _ ⟨K, hK, c⟩ k => ⟨K, Frag.In.keeps hK k, c⟩
/-- the same with the addresses written out (found by a run beforehand): no growing, a third of the memory -/
def obsAG (as : List Addr) (bs : Frag → List Bool) (fn : List DefX) (g : Addr → Option Obj) : AlX := obsX bs fn (He.frG g as)
def hookA (as : List Addr) (bs : Frag → List Bool) (fn : List DefX) : Hook where
  α := AlX
  obs := fun s => obsAG as bs fn s.heap.get?
  val := fun _ => valX fn
  says := fun _ h => ∃ K : Frag, K.In h ∧ obsX bs fn K = valX fn
  of := fun _ _ e => ⟨_, He.frG_in, e⟩
  keeps := fun _ _ _ ⟨K, hK, c⟩ k => ⟨K, Frag.In.keeps hK k, c⟩
def bsAG (as : List Addr) (bs : Frag → List Bool) (g : Addr → Option Obj) : Bool := (bs (He.frG g as)).all id
def fnAG (as : List Addr) (fn : List DefX) (g : Addr → Option Obj) : AlX := (fn.all fun d => d.ok (He.frG g as), fn.map fun d => fnW (He.frG g as) (d.at_ (He.frG g as)))
theorem obs_of {as : List Addr} {bs : Frag → List Bool} {fn : List DefX} {g : Addr → Option Obj} (h1 : bsAG as bs g = true) (h2 : fnAG as fn g = valX fn) : obsAG as bs fn g = valX fn := by
  have a := congrArg (fun z : AlX => z.1) h2
  have b := congrArg (fun z : AlX => z.2) h2
  exact Prod.ext (show (((bs (He.frG g as)).all id) && fn.all fun d => d.ok (He.frG g as)) = true from Bool.and_eq_true_iff.mpr ⟨h1, a⟩) b
/-- one fact of the end by two -/
theorem map_two {α S A B C : Type} {o : α → Option S} {f : S → A} {g : S → B} {k : S → C} {a : A} {b : B} {c : C} (h1 : ∀ x, (o x).map f = some a) (h2 : ∀ x, (o x).map g = some b) (hk : ∀ s, f s = a → g s = b → k s = c) : ∀ x, (o x).map k = some c := fun x => by
  have h1 := h1 x
  have h2 := h2 x
  cases e : o x with
  | none =>
    rw [e] at h1
    cases h1
  | some s =>
    rw [e] at h1 h2
    exact congrArg some (hk s (Option.some.inj h1) (Option.some.inj h2))
theorem bs_cut {as : List Addr} {bs : Frag → List Bool} {g : Addr → Option Obj} (n : Nat) (h1 : bsAG as (fun K => (bs K).take n) g = true) (h2 : bsAG as (fun K => (bs K).drop n) g = true) : bsAG as bs g = true := by
  have h1 : ((bs (He.frG g as)).take n).all id = true := h1
  have h2 : ((bs (He.frG g as)).drop n).all id = true := h2
  show (bs (He.frG g as)).all id = true
  rw [← List.take_append_drop n (bs (He.frG g as)), List.all_append, h1, h2]
  rfl
theorem fn_cut {as : List Addr} {fn : List DefX} {g : Addr → Option Obj} (n : Nat) (h1 : fnAG as (fn.take n) g = valX (fn.take n)) (h2 : fnAG as (fn.drop n) g = valX (fn.drop n)) : fnAG as fn g = valX fn := by
  have a1 : ((fn.take n).all fun d => d.ok (He.frG g as)) = true := congrArg (fun z : AlX => z.1) h1
  have a2 : ((fn.drop n).all fun d => d.ok (He.frG g as)) = true := congrArg (fun z : AlX => z.1) h2
  have b1 : ((fn.take n).map fun d => fnW (He.frG g as) (d.at_ (He.frG g as))) = (fn.take n).map DefX.val := congrArg (fun z : AlX => z.2) h1
  have b2 : ((fn.drop n).map fun d => fnW (He.frG g as) (d.at_ (He.frG g as))) = (fn.drop n).map DefX.val := congrArg (fun z : AlX => z.2) h2
  refine Prod.ext ?_ ?_
  · show (fn.all fun d => d.ok (He.frG g as)) = true
    rw [← List.take_append_drop n fn, List.all_append, a1, a2]
    rfl
  · show (fn.map fun d => fnW (He.frG g as) (d.at_ (He.frG g as))) = fn.map DefX.val
    have e : ∀ {β : Type} (q : DefX → β), fn.map q = (fn.take n).map q ++ (fn.drop n).map q := fun q => by rw [← List.map_append, List.take_append_drop]
    rw [e, e, b1, b2]
theorem split3 {α S A B C : Type} {o : α → Option S} {f : S → A} {g : S → B} {h : S → C} {a : A} {b : B} {c : C} (x : α) (h1 : ∀ x, (o x).map f = some a) (h2 : ∀ x, (o x).map g = some b) (h3 : ∀ x, (o x).map h = some c) : ∃ s, o x = some s ∧ f s = a ∧ g s = b ∧ h s = c := by
  have h1 := h1 x
  have h2 := h2 x
  have h3 := h3 x
  cases e : o x with
  | none =>
    rw [e] at h1
    cases h1
  | some s =>
    rw [e] at h1 h2 h3
    exact ⟨s, rfl, Option.some.inj h1, Option.some.inj h2, Option.some.inj h3⟩
end HK
namespace CC
open PySem L2 TL
def adr0 : List Addr := [nat_lit 0, nat_lit 2, nat_lit 3, nat_lit 4, nat_lit 6, nat_lit 15, nat_lit 16, nat_lit 17, nat_lit 18, nat_lit 19, nat_lit 20, nat_lit 21, nat_lit 22, nat_lit 23, nat_lit 24, nat_lit 25, nat_lit 26, nat_lit 27, nat_lit 28, nat_lit 29, nat_lit 30, nat_lit 31, nat_lit 32, nat_lit 33, nat_lit 34, nat_lit 35, nat_lit 36, nat_lit 37, nat_lit 38, nat_lit 39, nat_lit 40, nat_lit 41, nat_lit 42, nat_lit 43, nat_lit 44, nat_lit 45, nat_lit 46, nat_lit 47, nat_lit 48, nat_lit 49, nat_lit 50, nat_lit 51, nat_lit 52, nat_lit 53, nat_lit 54, nat_lit 55, nat_lit 56, nat_lit 57, nat_lit 58, nat_lit 59, nat_lit 60, nat_lit 61, nat_lit 62, nat_lit 63, nat_lit 64, nat_lit 65, nat_lit 73, nat_lit 74, nat_lit 75, nat_lit 76]
def adr1 : List Addr := [nat_lit 86, nat_lit 87, nat_lit 88, nat_lit 98, nat_lit 99, nat_lit 100, nat_lit 110, nat_lit 111, nat_lit 112, nat_lit 122, nat_lit 123, nat_lit 124, nat_lit 134, nat_lit 135, nat_lit 136, nat_lit 146, nat_lit 147, nat_lit 148, nat_lit 158, nat_lit 159, nat_lit 160, nat_lit 170, nat_lit 171, nat_lit 172, nat_lit 182, nat_lit 183, nat_lit 184, nat_lit 194, nat_lit 195, nat_lit 196, nat_lit 206, nat_lit 207, nat_lit 208, nat_lit 218, nat_lit 219, nat_lit 220, nat_lit 230, nat_lit 231, nat_lit 232, nat_lit 242, nat_lit 243, nat_lit 244, nat_lit 247, nat_lit 248, nat_lit 249, nat_lit 250, nat_lit 251, nat_lit 252, nat_lit 253, nat_lit 254, nat_lit 255, nat_lit 256, nat_lit 257, nat_lit 258, nat_lit 259, nat_lit 260, nat_lit 261, nat_lit 262, nat_lit 263, nat_lit 264]
def adr2 : List Addr := [nat_lit 265, nat_lit 266, nat_lit 267, nat_lit 268, nat_lit 269, nat_lit 270, nat_lit 271, nat_lit 272, nat_lit 273, nat_lit 274, nat_lit 275, nat_lit 276, nat_lit 277, nat_lit 278, nat_lit 279, nat_lit 280, nat_lit 281, nat_lit 282, nat_lit 283, nat_lit 284, nat_lit 285, nat_lit 286, nat_lit 287, nat_lit 295, nat_lit 296, nat_lit 297, nat_lit 298, nat_lit 299, nat_lit 300, nat_lit 301, nat_lit 302, nat_lit 303, nat_lit 304, nat_lit 305, nat_lit 306, nat_lit 307, nat_lit 308, nat_lit 309, nat_lit 310, nat_lit 311, nat_lit 312, nat_lit 313, nat_lit 314, nat_lit 315, nat_lit 316, nat_lit 317, nat_lit 318, nat_lit 319, nat_lit 320, nat_lit 321, nat_lit 322, nat_lit 323, nat_lit 324, nat_lit 325, nat_lit 326, nat_lit 327, nat_lit 328, nat_lit 329, nat_lit 330, nat_lit 331]
def adr3 : List Addr := [nat_lit 332, nat_lit 333, nat_lit 334, nat_lit 335, nat_lit 336, nat_lit 337, nat_lit 338, nat_lit 339, nat_lit 340, nat_lit 341, nat_lit 342, nat_lit 343, nat_lit 344, nat_lit 345, nat_lit 346, nat_lit 347, nat_lit 348, nat_lit 349, nat_lit 350, nat_lit 351, nat_lit 352, nat_lit 353, nat_lit 354, nat_lit 355, nat_lit 356, nat_lit 357, nat_lit 358, nat_lit 359, nat_lit 360, nat_lit 361, nat_lit 362, nat_lit 363, nat_lit 364, nat_lit 365, nat_lit 366, nat_lit 367, nat_lit 368, nat_lit 369, nat_lit 370, nat_lit 371, nat_lit 372, nat_lit 373, nat_lit 374, nat_lit 375, nat_lit 378, nat_lit 379, nat_lit 380, nat_lit 381, nat_lit 382, nat_lit 383, nat_lit 384, nat_lit 385, nat_lit 386, nat_lit 387, nat_lit 388, nat_lit 389, nat_lit 390, nat_lit 391, nat_lit 392, nat_lit 393]
def adr4 : List Addr := [nat_lit 394, nat_lit 395, nat_lit 396, nat_lit 397, nat_lit 398, nat_lit 399, nat_lit 407, nat_lit 408, nat_lit 409, nat_lit 410, nat_lit 411, nat_lit 412, nat_lit 413, nat_lit 414, nat_lit 415, nat_lit 416, nat_lit 417, nat_lit 418, nat_lit 419, nat_lit 420, nat_lit 421, nat_lit 422, nat_lit 423, nat_lit 424, nat_lit 425, nat_lit 426, nat_lit 427, nat_lit 428, nat_lit 429, nat_lit 430, nat_lit 431, nat_lit 432, nat_lit 433, nat_lit 434, nat_lit 435, nat_lit 436, nat_lit 437, nat_lit 438, nat_lit 439, nat_lit 440, nat_lit 441, nat_lit 442, nat_lit 443, nat_lit 444, nat_lit 445, nat_lit 446, nat_lit 447, nat_lit 448, nat_lit 449, nat_lit 450, nat_lit 451, nat_lit 452, nat_lit 453, nat_lit 454, nat_lit 455, nat_lit 456, nat_lit 457, nat_lit 458, nat_lit 459, nat_lit 460]
def adr5 : List Addr := [nat_lit 461, nat_lit 462, nat_lit 463, nat_lit 464, nat_lit 465, nat_lit 466, nat_lit 467, nat_lit 468, nat_lit 469, nat_lit 470, nat_lit 471, nat_lit 472, nat_lit 473, nat_lit 474, nat_lit 475, nat_lit 476, nat_lit 477, nat_lit 478, nat_lit 479, nat_lit 480, nat_lit 481, nat_lit 482, nat_lit 483, nat_lit 484, nat_lit 485, nat_lit 486, nat_lit 487, nat_lit 488, nat_lit 489, nat_lit 490, nat_lit 491, nat_lit 492, nat_lit 493, nat_lit 494, nat_lit 495, nat_lit 496, nat_lit 497, nat_lit 498, nat_lit 499, nat_lit 500, nat_lit 501, nat_lit 502, nat_lit 505, nat_lit 506, nat_lit 507, nat_lit 508, nat_lit 509, nat_lit 517, nat_lit 518, nat_lit 519, nat_lit 520, nat_lit 521, nat_lit 522, nat_lit 523, nat_lit 524, nat_lit 525, nat_lit 526, nat_lit 527, nat_lit 528, nat_lit 529]
def adr6 : List Addr := [nat_lit 530, nat_lit 531, nat_lit 532, nat_lit 533, nat_lit 534, nat_lit 535, nat_lit 536, nat_lit 537, nat_lit 538, nat_lit 541, nat_lit 542, nat_lit 543, nat_lit 544, nat_lit 545, nat_lit 546, nat_lit 547, nat_lit 548, nat_lit 549, nat_lit 550, nat_lit 551, nat_lit 552, nat_lit 553, nat_lit 554, nat_lit 555, nat_lit 556, nat_lit 557, nat_lit 558, nat_lit 559, nat_lit 560, nat_lit 561, nat_lit 562, nat_lit 563, nat_lit 564, nat_lit 565, nat_lit 566, nat_lit 567, nat_lit 568, nat_lit 569, nat_lit 570, nat_lit 571, nat_lit 572, nat_lit 573, nat_lit 574, nat_lit 575, nat_lit 576, nat_lit 577, nat_lit 578, nat_lit 579, nat_lit 580, nat_lit 581, nat_lit 582, nat_lit 583, nat_lit 584, nat_lit 585, nat_lit 586, nat_lit 587, nat_lit 588, nat_lit 589, nat_lit 590, nat_lit 591]
def adr7 : List Addr := [nat_lit 592, nat_lit 593, nat_lit 594, nat_lit 595, nat_lit 596, nat_lit 597, nat_lit 598, nat_lit 599, nat_lit 600, nat_lit 601, nat_lit 602, nat_lit 603, nat_lit 604, nat_lit 605, nat_lit 606, nat_lit 607, nat_lit 608, nat_lit 609, nat_lit 610, nat_lit 611, nat_lit 612, nat_lit 613, nat_lit 614, nat_lit 615, nat_lit 616, nat_lit 617, nat_lit 618, nat_lit 619, nat_lit 620, nat_lit 621, nat_lit 622, nat_lit 623, nat_lit 624, nat_lit 625, nat_lit 626, nat_lit 627, nat_lit 628, nat_lit 629, nat_lit 630, nat_lit 631, nat_lit 632, nat_lit 633, nat_lit 634, nat_lit 635, nat_lit 636, nat_lit 637, nat_lit 640, nat_lit 641, nat_lit 642, nat_lit 643, nat_lit 644, nat_lit 645, nat_lit 646, nat_lit 647, nat_lit 648, nat_lit 649, nat_lit 650, nat_lit 651, nat_lit 652, nat_lit 653]
def adr8 : List Addr := [nat_lit 654, nat_lit 655, nat_lit 656, nat_lit 657, nat_lit 658, nat_lit 659, nat_lit 660, nat_lit 661, nat_lit 662, nat_lit 663, nat_lit 664, nat_lit 665, nat_lit 666, nat_lit 667, nat_lit 668, nat_lit 669, nat_lit 670, nat_lit 671, nat_lit 672, nat_lit 673, nat_lit 674, nat_lit 675, nat_lit 676, nat_lit 677, nat_lit 678, nat_lit 679, nat_lit 680, nat_lit 681, nat_lit 682, nat_lit 683, nat_lit 684, nat_lit 685, nat_lit 686, nat_lit 687, nat_lit 688, nat_lit 689, nat_lit 690, nat_lit 691, nat_lit 692, nat_lit 693, nat_lit 694, nat_lit 695, nat_lit 696, nat_lit 697, nat_lit 698, nat_lit 699, nat_lit 700, nat_lit 701, nat_lit 702, nat_lit 703, nat_lit 704, nat_lit 705, nat_lit 706, nat_lit 707, nat_lit 708, nat_lit 709, nat_lit 710, nat_lit 711, nat_lit 712, nat_lit 713]
def adr9 : List Addr := [nat_lit 714, nat_lit 715, nat_lit 716, nat_lit 717, nat_lit 718, nat_lit 719, nat_lit 720, nat_lit 721, nat_lit 722, nat_lit 723, nat_lit 724, nat_lit 725, nat_lit 726, nat_lit 727, nat_lit 728, nat_lit 729, nat_lit 730, nat_lit 731, nat_lit 732, nat_lit 733, nat_lit 734, nat_lit 735, nat_lit 736, nat_lit 737, nat_lit 738, nat_lit 739, nat_lit 740, nat_lit 741, nat_lit 742, nat_lit 743, nat_lit 744, nat_lit 745, nat_lit 746, nat_lit 747, nat_lit 748, nat_lit 749, nat_lit 750, nat_lit 751, nat_lit 752, nat_lit 753, nat_lit 754, nat_lit 755, nat_lit 756, nat_lit 757, nat_lit 758, nat_lit 759, nat_lit 760, nat_lit 761, nat_lit 762, nat_lit 763, nat_lit 764, nat_lit 765, nat_lit 766, nat_lit 768, nat_lit 769, nat_lit 770, nat_lit 771, nat_lit 772, nat_lit 773, nat_lit 775]
def adr10 : List Addr := [nat_lit 776, nat_lit 777, nat_lit 778, nat_lit 779]
def adrs : List Addr := adr0 ++ adr1 ++ adr2 ++ adr3 ++ adr4 ++ adr5 ++ adr6 ++ adr7 ++ adr8 ++ adr9 ++ adr10
def bs (K : PySem.W.Frag) : List Bool := [
  HK.eqO (PySem.W.nsIn K mainGlobals "len") (some none),
  HK.eqO (PySem.W.nsIn K mainGlobals "max") (some none),
  HK.eqO (PySem.W.nsIn K mainGlobals "min") (some none),
  HK.eqO (PySem.W.nsIn K mainGlobals "isinstance") (some none),
  HK.eqO (PySem.W.nsIn K mainGlobals "int") (some none),
  HK.eqO (PySem.W.nsIn K mainGlobals "bool") (some none),
  HK.eqO (PySem.W.nsIn K mainGlobals "str") (some none),
  HK.eqO (PySem.W.nsIn K mainGlobals "tuple") (some none),
  HK.eqO (PySem.W.nsIn K mainGlobals "range") (some none),
  HK.eqO (PySem.W.nsIn K mainGlobals "list") (some none),
  HK.eqO (PySem.W.nsIn K mainGlobals "all") (some none),
  HK.eqO (PySem.W.nsIn K mainGlobals "set") (some none),
  HK.eqO (PySem.W.nsIn K mainGlobals "enumerate") (some none),
  HK.eqO (PySem.W.nsIn K mainGlobals "repr") (some none),
  HK.eqO (PySem.W.nsIn K mainGlobals "sorted") (some none),
  HK.eqO (PySem.W.nsIn K mainGlobals "zip") (some none),
  HK.eqO (PySem.W.nsIn K mainGlobals "any") (some none),
  HK.eqO (PySem.W.nsIn K mainGlobals "sum") (some none),
  HK.eqO (PySem.W.nsIn K mainGlobals "reversed") (some none),
  HK.eqO (PySem.W.nsIn K mainGlobals "dict") (some none),
  HK.eqO (PySem.W.nsIn K mainGlobals "type") (some none),
  HK.intB K "WIDEST" 6,
  HK.eqO (PySem.W.nsIn K mainGlobals "KINDS") (some (some (.ref (HK.ga K "KINDS")))),
  HK.kndB K (HK.ga K "KINDS"),
  HK.eqO (PySem.W.nsIn K mainGlobals "Rules") (some (some (.ref (HK.ga K "Rules")))),
  PySem.W.plainGet K (HK.ga K "Rules") Str.empty,
  PySem.W.hasDictIn K (HK.ga K "Rules"),
  PySem.W.plainOver K (HK.ga K "Rules"),
  HK.eqO (PySem.W.findIn K (.ref (HK.ga K "Rules")) "__setattr__") (some (some (.builtin "object.__setattr__"))),
  PySem.W.keepIn K (.ref (HK.ga K "Rules")),
  HK.eqO (PySem.W.findIn K (.ref (HK.ga K "Rules")) "span") (some none),
  HK.eqO (PySem.W.findIn K (.ref (HK.ga K "Rules")) "given") (some none),
  PySem.W.makesIn K (HK.ga K "Rules"),
  HK.eqO (PySem.W.findIn K (.ref (HK.ga K "Rules")) "__init__") (some (some (.ref (HK.ma K (HK.ga K "Rules") "__init__")))),
  PySem.W.isFn K (.ref (HK.ma K (HK.ga K "Rules") "__init__")),
  PySem.W.readsIn K (HK.ga K "Rules") (.type "type"),
  HK.eqO (PySem.W.specialIn K (.ref (HK.ga K "Rules")) "__getattribute__") (some (some (.builtin "type.__getattribute__"))),
  HK.clsB K (HK.ga K "Rules") "read",
  HK.recB K (HK.ca K (HK.ga K "Rules") "read") "classmethod",
  PySem.W.fnIn K (HK.ra K (HK.ca K (HK.ga K "Rules") "read") "classmethod"),
  HK.eqO (PySem.W.findIn K (.ref (HK.ga K "Rules")) "__class__") (some (some (.builtin "object.__class__"))),
  HK.eqO (PySem.W.specialIn K (.builtin "object.__class__") "__get__") (some (some (.builtin "getset_descriptor.__get__"))),
  HK.eqB (PySem.W.takesIn K (.builtin "object.__class__")) (some true),
  HK.eqB (PySem.W.mroIn K (HK.ga K "Rules") (.type "object")) (some true),
  HK.eqO (PySem.W.findIn K (.ref (HK.ga K "Rules")) "width") (some (some (.ref (HK.ma K (HK.ga K "Rules") "width")))),
  HK.eqO (PySem.W.specialIn K (.ref (HK.ma K (HK.ga K "Rules") "width")) "__get__") (some (some (.builtin "property.__get__"))),
  HK.eqB (PySem.W.takesIn K (.ref (HK.ma K (HK.ga K "Rules") "width"))) (some true),
  HK.recB K (HK.ma K (HK.ga K "Rules") "width") "property",
  HK.eqO (PySem.W.findIn K (.ref (HK.ga K "Rules")) "rules") (some (some (.ref (HK.ma K (HK.ga K "Rules") "rules")))),
  HK.eqO (PySem.W.specialIn K (.ref (HK.ma K (HK.ga K "Rules") "rules")) "__get__") (some (some (.builtin "property.__get__"))),
  HK.eqB (PySem.W.takesIn K (.ref (HK.ma K (HK.ga K "Rules") "rules"))) (some true),
  HK.recB K (HK.ma K (HK.ga K "Rules") "rules") "property",
  HK.eqO (PySem.W.findIn K (.ref (HK.ga K "Rules")) "text") (some (some (.ref (HK.ma K (HK.ga K "Rules") "text")))),
  PySem.W.isFn K (.ref (HK.ma K (HK.ga K "Rules") "text")),
  HK.eqO (PySem.W.nsIn K mainGlobals "Table") (some (some (.ref (HK.ga K "Table")))),
  PySem.W.plainGet K (HK.ga K "Table") Str.empty,
  PySem.W.hasDictIn K (HK.ga K "Table"),
  PySem.W.plainOver K (HK.ga K "Table"),
  HK.eqO (PySem.W.findIn K (.ref (HK.ga K "Table")) "__setattr__") (some (some (.builtin "object.__setattr__"))),
  PySem.W.keepIn K (.ref (HK.ga K "Table")),
  HK.eqO (PySem.W.findIn K (.ref (HK.ga K "Table")) "span") (some none),
  HK.eqO (PySem.W.findIn K (.ref (HK.ga K "Table")) "lines") (some none),
  PySem.W.makesIn K (HK.ga K "Table"),
  HK.eqO (PySem.W.findIn K (.ref (HK.ga K "Table")) "__init__") (some (some (.ref (HK.ma K (HK.ga K "Table") "__init__")))),
  PySem.W.isFn K (.ref (HK.ma K (HK.ga K "Table") "__init__")),
  PySem.W.readsIn K (HK.ga K "Table") (.type "type"),
  HK.eqO (PySem.W.specialIn K (.ref (HK.ga K "Table")) "__getattribute__") (some (some (.builtin "type.__getattribute__"))),
  HK.clsB K (HK.ga K "Table") "read",
  HK.recB K (HK.ca K (HK.ga K "Table") "read") "classmethod",
  PySem.W.fnIn K (HK.ra K (HK.ca K (HK.ga K "Table") "read") "classmethod"),
  HK.eqO (PySem.W.findIn K (.ref (HK.ga K "Table")) "__class__") (some (some (.builtin "object.__class__"))),
  HK.eqB (PySem.W.mroIn K (HK.ga K "Table") (.type "object")) (some true),
  HK.eqO (PySem.W.findIn K (.ref (HK.ga K "Table")) "width") (some (some (.ref (HK.ma K (HK.ga K "Table") "width")))),
  HK.eqO (PySem.W.specialIn K (.ref (HK.ma K (HK.ga K "Table") "width")) "__get__") (some (some (.builtin "property.__get__"))),
  HK.eqB (PySem.W.takesIn K (.ref (HK.ma K (HK.ga K "Table") "width"))) (some true),
  HK.recB K (HK.ma K (HK.ga K "Table") "width") "property",
  HK.eqO (PySem.W.findIn K (.ref (HK.ga K "Table")) "rows") (some (some (.ref (HK.ma K (HK.ga K "Table") "rows")))),
  HK.eqO (PySem.W.specialIn K (.ref (HK.ma K (HK.ga K "Table") "rows")) "__get__") (some (some (.builtin "property.__get__"))),
  HK.eqB (PySem.W.takesIn K (.ref (HK.ma K (HK.ga K "Table") "rows"))) (some true),
  HK.recB K (HK.ma K (HK.ga K "Table") "rows") "property",
  HK.eqO (PySem.W.findIn K (.ref (HK.ga K "Table")) "text") (some (some (.ref (HK.ma K (HK.ga K "Table") "text")))),
  PySem.W.isFn K (.ref (HK.ma K (HK.ga K "Table") "text")),
  HK.intB K "LARGEST_VALUE" 9999,
  HK.intB K "MOST_ROWS" 400,
  HK.eqO (PySem.W.nsIn K mainGlobals "Log") (some (some (.ref (HK.ga K "Log")))),
  PySem.W.plainGet K (HK.ga K "Log") Str.empty,
  PySem.W.hasDictIn K (HK.ga K "Log"),
  PySem.W.plainOver K (HK.ga K "Log"),
  HK.eqO (PySem.W.findIn K (.ref (HK.ga K "Log")) "__setattr__") (some (some (.builtin "object.__setattr__"))),
  HK.eqO (PySem.W.findIn K (.ref (HK.ga K "Log")) "book") (some none),
  HK.eqO (PySem.W.findIn K (.ref (HK.ga K "Log")) "held") (some none),
  HK.eqO (PySem.W.findIn K (.ref (HK.ga K "Log")) "past") (some none),
  HK.eqO (PySem.W.findIn K (.ref (HK.ga K "Log")) "limit") (some none),
  PySem.W.makesIn K (HK.ga K "Log"),
  HK.eqO (PySem.W.findIn K (.ref (HK.ga K "Log")) "__init__") (some (some (.ref (HK.ma K (HK.ga K "Log") "__init__")))),
  PySem.W.isFn K (.ref (HK.ma K (HK.ga K "Log") "__init__")),
  PySem.W.keepIn K (.ref (HK.ga K "Log")),
  HK.eqO (PySem.W.findIn K (.ref (HK.ga K "Log")) "rules") (some (some (.ref (HK.ma K (HK.ga K "Log") "rules")))),
  HK.eqO (PySem.W.specialIn K (.ref (HK.ma K (HK.ga K "Log") "rules")) "__get__") (some (some (.builtin "property.__get__"))),
  HK.eqB (PySem.W.takesIn K (.ref (HK.ma K (HK.ga K "Log") "rules"))) (some true),
  HK.recB K (HK.ma K (HK.ga K "Log") "rules") "property",
  HK.eqO (PySem.W.findIn K (.ref (HK.ga K "Log")) "table") (some (some (.ref (HK.ma K (HK.ga K "Log") "table")))),
  HK.eqO (PySem.W.specialIn K (.ref (HK.ma K (HK.ga K "Log") "table")) "__get__") (some (some (.builtin "property.__get__"))),
  HK.eqB (PySem.W.takesIn K (.ref (HK.ma K (HK.ga K "Log") "table"))) (some true),
  HK.recB K (HK.ma K (HK.ga K "Log") "table") "property",
  HK.eqO (PySem.W.findIn K (.ref (HK.ga K "Log")) "broken") (some (some (.ref (HK.ma K (HK.ga K "Log") "broken")))),
  HK.eqO (PySem.W.specialIn K (.ref (HK.ma K (HK.ga K "Log") "broken")) "__get__") (some (some (.builtin "property.__get__"))),
  HK.eqB (PySem.W.takesIn K (.ref (HK.ma K (HK.ga K "Log") "broken"))) (some true),
  HK.recB K (HK.ma K (HK.ga K "Log") "broken") "property",
  HK.eqO (PySem.W.findIn K (.ref (HK.ga K "Log")) "changes") (some (some (.ref (HK.ma K (HK.ga K "Log") "changes")))),
  HK.eqO (PySem.W.specialIn K (.ref (HK.ma K (HK.ga K "Log") "changes")) "__get__") (some (some (.builtin "property.__get__"))),
  HK.eqB (PySem.W.takesIn K (.ref (HK.ma K (HK.ga K "Log") "changes"))) (some true),
  HK.recB K (HK.ma K (HK.ga K "Log") "changes") "property",
  HK.eqO (PySem.W.findIn K (.ref (HK.ga K "Log")) "__call__") (some (some (.ref (HK.ma K (HK.ga K "Log") "__call__")))),
  PySem.W.isFn K (.ref (HK.ma K (HK.ga K "Log") "__call__")),
  PySem.W.fnIn K (HK.ma K (HK.ga K "Log") "__call__"),
  HK.eqO (PySem.W.findIn K (.ref (HK.ga K "Log")) "add") (some (some (.ref (HK.ma K (HK.ga K "Log") "add")))),
  PySem.W.isFn K (.ref (HK.ma K (HK.ga K "Log") "add")),
  PySem.W.keepIn K (.ref (HK.ma K (HK.ga K "Log") "add")),
  HK.eqO (PySem.W.findIn K (.ref (HK.ga K "Log")) "change") (some (some (.ref (HK.ma K (HK.ga K "Log") "change")))),
  PySem.W.isFn K (.ref (HK.ma K (HK.ga K "Log") "change")),
  PySem.W.keepIn K (.ref (HK.ma K (HK.ga K "Log") "change")),
  HK.eqO (PySem.W.findIn K (.ref (HK.ga K "Log")) "check") (some (some (.ref (HK.ma K (HK.ga K "Log") "check")))),
  PySem.W.isFn K (.ref (HK.ma K (HK.ga K "Log") "check")),
  PySem.W.keepIn K (.ref (HK.ma K (HK.ga K "Log") "check")),
  HK.eqO (PySem.W.nsIn K mainGlobals "super") (some none),
  PySem.W.isClsIn K (HK.ga K "Rules"),
  HK.eqV (PySem.W.typeIn K (.ref (HK.ga K "Rules"))) (some (.type "type")),
  PySem.W.readsIn K (HK.ga K "Log") (.type "type"),
  HK.eqO (PySem.W.specialIn K (.ref (HK.ga K "Log")) "__getattribute__") (some (some (.builtin "type.__getattribute__"))),
  HK.clvB K (HK.ga K "Log") "__init__" (HK.ma K (HK.ga K "Log") "__init__"),
  HK.eqV (PySem.W.typeIn K (.ref (HK.ma K (HK.ga K "Log") "__init__"))) (some (.type "function")),
  PySem.W.keepIn K (.ref (HK.ma K (HK.ga K "Log") "__init__")),
  HK.eqO (PySem.W.findIn K (.ref (HK.ga K "Log")) "assign_table") (some (some (.ref (HK.ma K (HK.ga K "Log") "assign_table")))),
  PySem.W.isFn K (.ref (HK.ma K (HK.ga K "Log") "assign_table")),
  PySem.W.keepIn K (.ref (HK.ma K (HK.ga K "Log") "assign_table")),
  HK.eqO (PySem.W.findIn K (.ref (HK.ga K "Log")) "__len__") (some (some (.ref (HK.ma K (HK.ga K "Log") "__len__")))),
  PySem.W.isFn K (.ref (HK.ma K (HK.ga K "Log") "__len__")),
  HK.eqO (PySem.W.findIn K (.ref (HK.ga K "Log")) "__repr__") (some (some (.ref (HK.ma K (HK.ga K "Log") "__repr__")))),
  PySem.W.isFn K (.ref (HK.ma K (HK.ga K "Log") "__repr__")),
  PySem.W.isClsIn K (HK.ga K "Table"),
  HK.eqV (PySem.W.typeIn K (.ref (HK.ga K "Table"))) (some (.type "type")),
  HK.eqB (PySem.W.kitOne K (.ref (HK.ga K "Rules")) (.ref (HK.ga K "Table"))) (some false),
  HK.eqO (PySem.W.findIn K (.ref (HK.ga K "Log")) "drop") (some (some (.ref (HK.ma K (HK.ga K "Log") "drop")))),
  PySem.W.isFn K (.ref (HK.ma K (HK.ga K "Log") "drop")),
  PySem.W.keepIn K (.ref (HK.ma K (HK.ga K "Log") "drop")),
  HK.eqO (PySem.W.findIn K (.ref (HK.ga K "Log")) "__class__") (some (some (.builtin "object.__class__"))),
  HK.eqB (PySem.W.mroIn K (HK.ga K "Log") (.type "object")) (some true),
  HK.eqB (PySem.W.kitOne K (.ref (HK.ga K "Log")) (.type "tuple")) (some false),
  HK.eqB (PySem.W.kitOne K (.ref (HK.ga K "Log")) (.type "int")) (some false),
  HK.eqB (PySem.W.kitOne K (.ref (HK.ga K "Table")) (.type "tuple")) (some false),
  HK.eqB (PySem.W.kitOne K (.ref (HK.ga K "Table")) (.type "int")) (some false),
  HK.eqB (PySem.W.kitOne K (.ref (HK.ga K "Rules")) (.type "tuple")) (some false),
  HK.eqB (PySem.W.kitOne K (.ref (HK.ga K "Rules")) (.type "int")) (some false),
  HK.eqO (PySem.W.nsIn K mainGlobals "ColumnError") (some (some (.ref (HK.ga K "ColumnError")))),
  HK.eqO (PySem.W.nsIn K mainGlobals "NoRow") (some (some (.ref (HK.ga K "NoRow")))),
  PySem.W.excIn K (HK.ga K "NoRow") [.type "ValueError", .type "Exception", .type "BaseException", .type "object"] "ValueError.__new__",
  PySem.W.keepIn K (.ref (HK.ga K "NoRow")),
  HK.eqB (PySem.W.subIn K (.ref (HK.ga K "NoRow")) (.type "BaseException")) (some true),
  HK.eqV (PySem.W.typeIn K (.ref (HK.ga K "NoRow"))) (some (.type "type")),
  PySem.W.isClsIn K (HK.ga K "NoRow"),
  HK.eqB (PySem.W.subIn K (.ref (HK.ga K "NoRow")) (.ref (HK.ga K "NoRow"))) (some true),
  HK.eqO (PySem.W.nsIn K mainGlobals "NoNumber") (some (some (.ref (HK.ga K "NoNumber")))),
  PySem.W.excIn K (HK.ga K "NoNumber") [.type "ValueError", .type "Exception", .type "BaseException", .type "object"] "ValueError.__new__",
  PySem.W.keepIn K (.ref (HK.ga K "NoNumber")),
  HK.eqB (PySem.W.subIn K (.ref (HK.ga K "NoNumber")) (.type "BaseException")) (some true),
  HK.eqV (PySem.W.typeIn K (.ref (HK.ga K "NoNumber"))) (some (.type "type")),
  PySem.W.isClsIn K (HK.ga K "NoNumber"),
  HK.eqB (PySem.W.subIn K (.ref (HK.ga K "NoNumber")) (.ref (HK.ga K "NoNumber"))) (some true),
  HK.eqO (PySem.W.nsIn K mainGlobals "NotTable") (some (some (.ref (HK.ga K "NotTable")))),
  PySem.W.excIn K (HK.ga K "NotTable") [.type "ValueError", .type "Exception", .type "BaseException", .type "object"] "ValueError.__new__",
  PySem.W.keepIn K (.ref (HK.ga K "NotTable")),
  HK.eqB (PySem.W.subIn K (.ref (HK.ga K "NotTable")) (.type "BaseException")) (some true),
  HK.eqV (PySem.W.typeIn K (.ref (HK.ga K "NotTable"))) (some (.type "type")),
  PySem.W.isClsIn K (HK.ga K "NotTable"),
  HK.eqB (PySem.W.subIn K (.ref (HK.ga K "NotTable")) (.ref (HK.ga K "NotTable"))) (some true),
  HK.eqO (PySem.W.nsIn K mainGlobals "NotRules") (some (some (.ref (HK.ga K "NotRules")))),
  PySem.W.excIn K (HK.ga K "NotRules") [.type "ValueError", .type "Exception", .type "BaseException", .type "object"] "ValueError.__new__",
  PySem.W.keepIn K (.ref (HK.ga K "NotRules")),
  HK.eqB (PySem.W.subIn K (.ref (HK.ga K "NotRules")) (.type "BaseException")) (some true),
  HK.eqV (PySem.W.typeIn K (.ref (HK.ga K "NotRules"))) (some (.type "type")),
  PySem.W.isClsIn K (HK.ga K "NotRules"),
  HK.eqB (PySem.W.subIn K (.ref (HK.ga K "NotRules")) (.ref (HK.ga K "NotRules"))) (some true),
  HK.eqO (PySem.W.nsIn K mainGlobals "UnlikeWidths") (some (some (.ref (HK.ga K "UnlikeWidths")))),
  PySem.W.excIn K (HK.ga K "UnlikeWidths") [.type "ValueError", .type "Exception", .type "BaseException", .type "object"] "ValueError.__new__",
  PySem.W.keepIn K (.ref (HK.ga K "UnlikeWidths")),
  HK.eqB (PySem.W.subIn K (.ref (HK.ga K "UnlikeWidths")) (.type "BaseException")) (some true),
  HK.eqV (PySem.W.typeIn K (.ref (HK.ga K "UnlikeWidths"))) (some (.type "type")),
  PySem.W.isClsIn K (HK.ga K "UnlikeWidths"),
  HK.eqB (PySem.W.subIn K (.ref (HK.ga K "UnlikeWidths")) (.ref (HK.ga K "UnlikeWidths"))) (some true),
  HK.eqO (PySem.W.nsIn K mainGlobals "TooMuch") (some (some (.ref (HK.ga K "TooMuch")))),
  PySem.W.excIn K (HK.ga K "TooMuch") [.type "ValueError", .type "Exception", .type "BaseException", .type "object"] "ValueError.__new__",
  PySem.W.keepIn K (.ref (HK.ga K "TooMuch")),
  HK.eqB (PySem.W.subIn K (.ref (HK.ga K "TooMuch")) (.type "BaseException")) (some true),
  HK.eqV (PySem.W.typeIn K (.ref (HK.ga K "TooMuch"))) (some (.type "type")),
  PySem.W.isClsIn K (HK.ga K "TooMuch"),
  HK.eqB (PySem.W.subIn K (.ref (HK.ga K "TooMuch")) (.ref (HK.ga K "TooMuch"))) (some true),
  HK.eqO (PySem.W.nsIn K mainGlobals "NotThere") (some (some (.ref (HK.ga K "NotThere")))),
  PySem.W.excIn K (HK.ga K "NotThere") [.type "ValueError", .type "Exception", .type "BaseException", .type "object"] "ValueError.__new__",
  PySem.W.keepIn K (.ref (HK.ga K "NotThere")),
  HK.eqB (PySem.W.subIn K (.ref (HK.ga K "NotThere")) (.type "BaseException")) (some true),
  HK.eqV (PySem.W.typeIn K (.ref (HK.ga K "NotThere"))) (some (.type "type")),
  PySem.W.isClsIn K (HK.ga K "NotThere"),
  HK.eqB (PySem.W.subIn K (.ref (HK.ga K "NotThere")) (.ref (HK.ga K "NotThere"))) (some true),
  HK.eqO (PySem.W.nsIn K mainGlobals "Broken") (some (some (.ref (HK.ga K "Broken")))),
  PySem.W.excIn K (HK.ga K "Broken") [.type "ValueError", .type "Exception", .type "BaseException", .type "object"] "ValueError.__new__",
  PySem.W.keepIn K (.ref (HK.ga K "Broken")),
  HK.eqB (PySem.W.subIn K (.ref (HK.ga K "Broken")) (.type "BaseException")) (some true),
  HK.eqV (PySem.W.typeIn K (.ref (HK.ga K "Broken"))) (some (.type "type")),
  PySem.W.isClsIn K (HK.ga K "Broken"),
  HK.eqB (PySem.W.subIn K (.ref (HK.ga K "Broken")) (.ref (HK.ga K "Broken"))) (some true),
  HK.eqO (PySem.W.nsIn K mainGlobals "NothingDone") (some (some (.ref (HK.ga K "NothingDone")))),
  PySem.W.excIn K (HK.ga K "NothingDone") [.type "ValueError", .type "Exception", .type "BaseException", .type "object"] "ValueError.__new__",
  PySem.W.keepIn K (.ref (HK.ga K "NothingDone")),
  HK.eqB (PySem.W.subIn K (.ref (HK.ga K "NothingDone")) (.type "BaseException")) (some true),
  HK.eqV (PySem.W.typeIn K (.ref (HK.ga K "NothingDone"))) (some (.type "type")),
  PySem.W.isClsIn K (HK.ga K "NothingDone"),
  HK.eqB (PySem.W.subIn K (.ref (HK.ga K "NothingDone")) (.ref (HK.ga K "NothingDone"))) (some true),
  HK.eqB (PySem.W.subIn K (.ref (HK.ga K "NoNumber")) (.ref (HK.ga K "NoRow"))) (some false),
  HK.eqB (PySem.W.subIn K (.ref (HK.ga K "NotTable")) (.ref (HK.ga K "NoRow"))) (some false),
  HK.eqB (PySem.W.subIn K (.ref (HK.ga K "NotTable")) (.ref (HK.ga K "NoNumber"))) (some false),
  HK.eqB (PySem.W.subIn K (.ref (HK.ga K "NotRules")) (.ref (HK.ga K "NoRow"))) (some false),
  HK.eqB (PySem.W.subIn K (.ref (HK.ga K "NotRules")) (.ref (HK.ga K "NoNumber"))) (some false),
  HK.eqB (PySem.W.subIn K (.ref (HK.ga K "NotRules")) (.ref (HK.ga K "NotTable"))) (some false),
  HK.eqB (PySem.W.subIn K (.ref (HK.ga K "UnlikeWidths")) (.ref (HK.ga K "NoRow"))) (some false),
  HK.eqB (PySem.W.subIn K (.ref (HK.ga K "UnlikeWidths")) (.ref (HK.ga K "NoNumber"))) (some false),
  HK.eqB (PySem.W.subIn K (.ref (HK.ga K "UnlikeWidths")) (.ref (HK.ga K "NotTable"))) (some false),
  HK.eqB (PySem.W.subIn K (.ref (HK.ga K "UnlikeWidths")) (.ref (HK.ga K "NotRules"))) (some false),
  HK.eqB (PySem.W.subIn K (.ref (HK.ga K "TooMuch")) (.ref (HK.ga K "NoRow"))) (some false),
  HK.eqB (PySem.W.subIn K (.ref (HK.ga K "TooMuch")) (.ref (HK.ga K "NoNumber"))) (some false),
  HK.eqB (PySem.W.subIn K (.ref (HK.ga K "TooMuch")) (.ref (HK.ga K "NotTable"))) (some false),
  HK.eqB (PySem.W.subIn K (.ref (HK.ga K "TooMuch")) (.ref (HK.ga K "NotRules"))) (some false),
  HK.eqB (PySem.W.subIn K (.ref (HK.ga K "TooMuch")) (.ref (HK.ga K "UnlikeWidths"))) (some false),
  HK.eqB (PySem.W.subIn K (.ref (HK.ga K "NotThere")) (.ref (HK.ga K "NoRow"))) (some false),
  HK.eqB (PySem.W.subIn K (.ref (HK.ga K "NotThere")) (.ref (HK.ga K "NoNumber"))) (some false),
  HK.eqB (PySem.W.subIn K (.ref (HK.ga K "NotThere")) (.ref (HK.ga K "NotTable"))) (some false),
  HK.eqB (PySem.W.subIn K (.ref (HK.ga K "NotThere")) (.ref (HK.ga K "NotRules"))) (some false),
  HK.eqB (PySem.W.subIn K (.ref (HK.ga K "NotThere")) (.ref (HK.ga K "UnlikeWidths"))) (some false),
  HK.eqB (PySem.W.subIn K (.ref (HK.ga K "NotThere")) (.ref (HK.ga K "TooMuch"))) (some false),
  HK.eqB (PySem.W.subIn K (.ref (HK.ga K "Broken")) (.ref (HK.ga K "NoRow"))) (some false),
  HK.eqB (PySem.W.subIn K (.ref (HK.ga K "Broken")) (.ref (HK.ga K "NoNumber"))) (some false),
  HK.eqB (PySem.W.subIn K (.ref (HK.ga K "Broken")) (.ref (HK.ga K "NotTable"))) (some false),
  HK.eqB (PySem.W.subIn K (.ref (HK.ga K "Broken")) (.ref (HK.ga K "NotRules"))) (some false),
  HK.eqB (PySem.W.subIn K (.ref (HK.ga K "Broken")) (.ref (HK.ga K "UnlikeWidths"))) (some false),
  HK.eqB (PySem.W.subIn K (.ref (HK.ga K "Broken")) (.ref (HK.ga K "TooMuch"))) (some false),
  HK.eqB (PySem.W.subIn K (.ref (HK.ga K "Broken")) (.ref (HK.ga K "NotThere"))) (some false),
  HK.eqB (PySem.W.subIn K (.ref (HK.ga K "NothingDone")) (.ref (HK.ga K "NoRow"))) (some false),
  HK.eqB (PySem.W.subIn K (.ref (HK.ga K "NothingDone")) (.ref (HK.ga K "NoNumber"))) (some false),
  HK.eqB (PySem.W.subIn K (.ref (HK.ga K "NothingDone")) (.ref (HK.ga K "NotTable"))) (some false),
  HK.eqB (PySem.W.subIn K (.ref (HK.ga K "NothingDone")) (.ref (HK.ga K "NotRules"))) (some false),
  HK.eqB (PySem.W.subIn K (.ref (HK.ga K "NothingDone")) (.ref (HK.ga K "UnlikeWidths"))) (some false),
  HK.eqB (PySem.W.subIn K (.ref (HK.ga K "NothingDone")) (.ref (HK.ga K "TooMuch"))) (some false),
  HK.eqB (PySem.W.subIn K (.ref (HK.ga K "NothingDone")) (.ref (HK.ga K "NotThere"))) (some false),
  HK.eqB (PySem.W.subIn K (.ref (HK.ga K "NothingDone")) (.ref (HK.ga K "Broken"))) (some false),
  HK.eqO (PySem.W.nsIn K mainGlobals "is_an_integer") (some (some (.ref (HK.ga K "is_an_integer")))),
  HK.eqO (PySem.W.nsIn K mainGlobals "is_width") (some (some (.ref (HK.ga K "is_width")))),
  HK.eqO (PySem.W.nsIn K mainGlobals "is_column") (some (some (.ref (HK.ga K "is_column")))),
  HK.eqO (PySem.W.nsIn K mainGlobals "is_rule") (some (some (.ref (HK.ga K "is_rule")))),
  HK.eqO (PySem.W.nsIn K mainGlobals "every_rule") (some (some (.ref (HK.ga K "every_rule")))),
  HK.eqO (PySem.W.nsIn K mainGlobals "line_of") (some (some (.ref (HK.ga K "line_of")))),
  HK.eqO (PySem.W.nsIn K mainGlobals "rules_of") (some (some (.ref (HK.ga K "rules_of")))),
  HK.eqO (PySem.W.nsIn K mainGlobals "_law_said") (some (some (.ref (HK.ga K "_law_said")))),
  HK.eqO (PySem.W.nsIn K mainGlobals "_law_call") (some (some (.ref (HK.ga K "_law_call")))),
  HK.eqO (PySem.W.nsIn K mainGlobals "is_row") (some (some (.ref (HK.ga K "is_row")))),
  HK.eqO (PySem.W.nsIn K mainGlobals "holds") (some (some (.ref (HK.ga K "holds")))),
  HK.eqO (PySem.W.nsIn K mainGlobals "rules_broken") (some (some (.ref (HK.ga K "rules_broken")))),
  HK.eqO (PySem.W.nsIn K mainGlobals "_law_source") (some (some (.ref (HK.ga K "_law_source")))),
  HK.eqO (PySem.W.nsIn K mainGlobals "_law_cell") (some (some (.ref (HK.ga K "_law_cell")))),
  HK.eqO (PySem.W.nsIn K mainGlobals "_law_draw") (some (some (.ref (HK.ga K "_law_draw")))),
  HK.eqO (PySem.W.nsIn K mainGlobals "_law_choose") (some (some (.ref (HK.ga K "_law_choose")))),
  HK.eqO (PySem.W.nsIn K mainGlobals "_law_given") (some (some (.ref (HK.ga K "_law_given")))),
  HK.eqO (PySem.W.nsIn K mainGlobals "_law_words") (some (some (.ref (HK.ga K "_law_words")))),
  HK.eqO (PySem.W.nsIn K mainGlobals "_law_row") (some (some (.ref (HK.ga K "_law_row")))),
  HK.eqO (PySem.W.nsIn K mainGlobals "is_numeral") (some (some (.ref (HK.ga K "is_numeral")))),
  HK.eqO (PySem.W.nsIn K mainGlobals "rows_of") (some (some (.ref (HK.ga K "rows_of")))),
  HK.eqO (PySem.W.nsIn K mainGlobals "_law_odd_row") (some (some (.ref (HK.ga K "_law_odd_row")))),
  HK.eqO (PySem.W.nsIn K mainGlobals "_law_is_row") (some (some (.ref (HK.ga K "_law_is_row")))),
  HK.eqO (PySem.W.nsIn K mainGlobals "_law_is_held") (some (some (.ref (HK.ga K "_law_is_held")))),
  HK.eqO (PySem.W.nsIn K mainGlobals "_law_fit") (some (some (.ref (HK.ga K "_law_fit")))),
  HK.eqO (PySem.W.nsIn K mainGlobals "_law_add_due") (some (some (.ref (HK.ga K "_law_add_due")))),
  HK.eqO (PySem.W.nsIn K mainGlobals "_law_drop_due") (some (some (.ref (HK.ga K "_law_drop_due")))),
  HK.eqO (PySem.W.nsIn K mainGlobals "_law_is_equal") (some (some (.ref (HK.ga K "_law_is_equal")))),
  HK.eqO (PySem.W.nsIn K mainGlobals "_law_seen") (some (some (.ref (HK.ga K "_law_seen")))),
  HK.eqO (PySem.W.nsIn K mainGlobals "_law_text") (some (some (.ref (HK.ga K "_law_text")))),
  HK.eqO (PySem.W.nsIn K mainGlobals "_law_due") (some (some (.ref (HK.ga K "_law_due")))),
  HK.eqO (PySem.W.nsIn K mainGlobals "_law_table") (some (some (.ref (HK.ga K "_law_table")))),
  HK.eqO (PySem.W.nsIn K mainGlobals "law") (some (some (.ref (HK.ga K "law")))),
  HK.eqO (PySem.W.nsIn K mainGlobals "_law_is_full_right") (some (some (.ref (HK.ga K "_law_is_full_right")))),
  decide (HK.coA K (HK.ga K "_law_is_full_right") = HK.tabC K "_law_is_full_right"),
  HK.tabB K "_law_is_full_right",
  (K.lookup (HK.tabP K "_law_is_full_right")).isNone,
  HK.tabB K "law",
  (K.lookup (HK.tabP K "law")).isNone,
  decide (HK.coA K (HK.ga K "law") = HK.tabC K "law"),
  decide ((HK.tabP K "law") ≠ (HK.tabP K "_law_is_full_right"))]
def fn : List HK.DefX := [
  ⟨fun K => (HK.ma K (HK.ga K "Rules") "__init__"), false, "__init__", "Rules.__init__", sInit, []⟩,
  ⟨fun K => (HK.ra K (HK.ca K (HK.ga K "Rules") "read") "classmethod"), false, "read", "Rules.read", sRead, []⟩,
  ⟨fun K => (HK.ra K (HK.ma K (HK.ga K "Rules") "width") "property"), false, "width", "Rules.width", sPW, []⟩,
  ⟨fun K => (HK.ra K (HK.ma K (HK.ga K "Rules") "rules") "property"), false, "rules", "Rules.rules", sPR, []⟩,
  ⟨fun K => (HK.ma K (HK.ga K "Rules") "text"), false, "text", "Rules.text", sRTxt, []⟩,
  ⟨fun K => (HK.ma K (HK.ga K "Table") "__init__"), false, "__init__", "Table.__init__", sTInit, []⟩,
  ⟨fun K => (HK.ra K (HK.ca K (HK.ga K "Table") "read") "classmethod"), false, "read", "Table.read", sTRead, []⟩,
  ⟨fun K => (HK.ra K (HK.ma K (HK.ga K "Table") "width") "property"), false, "width", "Table.width", sTW, []⟩,
  ⟨fun K => (HK.ra K (HK.ma K (HK.ga K "Table") "rows") "property"), false, "rows", "Table.rows", sTR, []⟩,
  ⟨fun K => (HK.ma K (HK.ga K "Table") "text"), false, "text", "Table.text", sTText, []⟩,
  ⟨fun K => (HK.ra K (HK.ma K (HK.ga K "Log") "rules") "property"), false, "rules", "Log.rules", slRlM, []⟩,
  ⟨fun K => (HK.ra K (HK.ma K (HK.ga K "Log") "table") "property"), false, "table", "Log.table", slTbM, []⟩,
  ⟨fun K => (HK.ra K (HK.ma K (HK.ga K "Log") "broken") "property"), false, "broken", "Log.broken", slBrM, []⟩,
  ⟨fun K => (HK.ra K (HK.ma K (HK.ga K "Log") "changes") "property"), false, "changes", "Log.changes", slCgM, []⟩,
  ⟨fun K => (HK.ma K (HK.ga K "Log") "__call__"), false, "__call__", "Log.__call__", slCll, []⟩,
  ⟨fun K => (HK.ma K (HK.ga K "Log") "__init__"), false, "__init__", "Log.__init__", sLInit, []⟩,
  ⟨fun K => (HK.ma K (HK.ga K "Log") "check"), false, "check", "Log.check", sLChk, []⟩,
  ⟨fun K => (HK.ma K (HK.ga K "Log") "change"), false, "change", "Log.change", sLChg, []⟩,
  ⟨fun K => (HK.ma K (HK.ga K "Log") "add"), false, "add", "Log.add", sLAdd, []⟩,
  ⟨fun K => (HK.ma K (HK.ga K "Log") "assign_table"), false, "assign_table", "Log.assign_table", slAsg, []⟩,
  ⟨fun K => (HK.ma K (HK.ga K "Log") "__len__"), false, "__len__", "Log.__len__", slLnM, []⟩,
  ⟨fun K => (HK.ma K (HK.ga K "Log") "__repr__"), false, "__repr__", "Log.__repr__", slRpM, []⟩,
  ⟨fun K => (HK.ma K (HK.ga K "Log") "drop"), false, "drop", "Log.drop", slDrp, []⟩,
  ⟨fun K => (HK.ga K "is_an_integer"), false, "is_an_integer", "is_an_integer", sIsInt, []⟩,
  ⟨fun K => (HK.ga K "is_width"), false, "is_width", "is_width", sIsWidth, []⟩,
  ⟨fun K => (HK.ga K "is_column"), false, "is_column", "is_column", sIsCol, []⟩,
  ⟨fun K => (HK.ga K "is_rule"), false, "is_rule", "is_rule", sIsRule, []⟩,
  ⟨fun K => (HK.ga K "every_rule"), false, "every_rule", "every_rule", sEvery, []⟩,
  ⟨fun K => (HK.ga K "line_of"), false, "line_of", "line_of", sLine, []⟩,
  ⟨fun K => (HK.ga K "rules_of"), false, "rules_of", "rules_of", sRulesOf, []⟩,
  ⟨fun K => (HK.ga K "_law_said"), false, "_law_said", "_law_said", sSaid, []⟩,
  ⟨fun K => (HK.ga K "_law_call"), false, "_law_call", "_law_call", sCl, []⟩,
  ⟨fun K => (HK.ga K "is_row"), false, "is_row", "is_row", sIsRow, []⟩,
  ⟨fun K => (HK.ga K "holds"), false, "holds", "holds", sHo, []⟩,
  ⟨fun K => (HK.ga K "rules_broken"), false, "rules_broken", "rules_broken", sBrk, []⟩,
  ⟨fun K => (HK.ga K "_law_source"), false, "_law_source", "_law_source", sSource, []⟩,
  ⟨fun K => (HK.ga K "_law_cell"), false, "_law_cell", "_law_cell", sCell, []⟩,
  ⟨fun K => (HK.ga K "_law_draw"), false, "_law_draw", "_law_draw", sDraw, []⟩,
  ⟨fun K => (HK.ga K "_law_choose"), false, "_law_choose", "_law_choose", sChoose, []⟩,
  ⟨fun K => (HK.ga K "_law_given"), false, "_law_given", "_law_given", sGv, []⟩,
  ⟨fun K => (HK.ga K "_law_words"), false, "_law_words", "_law_words", sWd, []⟩,
  ⟨fun K => (HK.ga K "_law_row"), false, "_law_row", "_law_row", sRwl, []⟩,
  ⟨fun K => (HK.ga K "is_numeral"), false, "is_numeral", "is_numeral", sIsNum, []⟩,
  ⟨fun K => (HK.ga K "rows_of"), false, "rows_of", "rows_of", sRowsOf, []⟩,
  ⟨fun K => (HK.ga K "_law_odd_row"), false, "_law_odd_row", "_law_odd_row", sOdd, []⟩,
  ⟨fun K => (HK.ga K "_law_is_row"), false, "_law_is_row", "_law_is_row", sLir, []⟩,
  ⟨fun K => (HK.ga K "_law_is_held"), false, "_law_is_held", "_law_is_held", sIh, []⟩,
  ⟨fun K => (HK.ga K "_law_fit"), false, "_law_fit", "_law_fit", sFit, []⟩,
  ⟨fun K => (HK.ga K "_law_add_due"), false, "_law_add_due", "_law_add_due", sAdu, []⟩,
  ⟨fun K => (HK.ga K "_law_drop_due"), false, "_law_drop_due", "_law_drop_due", sDdu, []⟩,
  ⟨fun K => (HK.ga K "_law_is_equal"), false, "_law_is_equal", "_law_is_equal", sIsEq, []⟩,
  ⟨fun K => (HK.ga K "_law_seen"), false, "_law_seen", "_law_seen", sSee, []⟩,
  ⟨fun K => (HK.ga K "_law_text"), false, "_law_text", "_law_text", sTTx, []⟩,
  ⟨fun K => (HK.ga K "_law_due"), false, "_law_due", "_law_due", sLdu, []⟩,
  ⟨fun K => (HK.ga K "_law_table"), false, "_law_table", "_law_table", sLta, []⟩,
  ⟨fun K => (HK.ga K "law"), false, "law", "law", sLaw, []⟩,
  ⟨fun K => (HK.ga K "_law_is_full_right"), false, "_law_is_full_right", "_law_is_full_right", sFul, []⟩]
abbrev RR : PySem.W.OpenRow := PySem.W.OpenLaw.row PySem.Challenge.rw_countcycles_k20_rows_are_added_and_dropp
abbrev qv : Program := PySem.W.view RR.prog [70, 71]
def hdNms0 : List PySem.Str := [("_wall" : PySem.Str), ("__name__" : PySem.Str), ("WIDEST" : PySem.Str), ("MOST_ROWS" : PySem.Str), ("LARGEST_VALUE" : PySem.Str), ("KINDS" : PySem.Str), ("is_an_integer" : PySem.Str), ("is_width" : PySem.Str), ("is_column" : PySem.Str), ("is_row" : PySem.Str), ("is_rule" : PySem.Str), ("every_rule" : PySem.Str)]
def hdNms1 : List PySem.Str := [("holds" : PySem.Str), ("ColumnError" : PySem.Str), ("NoWidth" : PySem.Str), ("NoRows" : PySem.Str), ("NoRow" : PySem.Str), ("NoRules" : PySem.Str), ("NoRule" : PySem.Str), ("NoNumber" : PySem.Str), ("NoText" : PySem.Str), ("NotTable" : PySem.Str), ("NotRules" : PySem.Str), ("UnlikeWidths" : PySem.Str)]
def hdNms2 : List PySem.Str := [("TooMuch" : PySem.Str), ("NotThere" : PySem.Str), ("Broken" : PySem.Str), ("NothingDone" : PySem.Str), ("steps_down" : PySem.Str), ("first_ways" : PySem.Str), ("reached" : PySem.Str), ("links" : PySem.Str), ("follows" : PySem.Str), ("line_of" : PySem.Str), ("rules_of" : PySem.Str), ("Rules" : PySem.Str)]
def hdNms3 : List PySem.Str := [("FACTOR" : PySem.Str), ("is_numeral" : PySem.Str), ("rows_of" : PySem.Str), ("all_below" : PySem.Str), ("product_row" : PySem.Str), ("Table" : PySem.Str), ("rules_broken" : PySem.Str), ("Log" : PySem.Str), ("_law_cell" : PySem.Str), ("_law_source" : PySem.Str), ("_law_draw" : PySem.Str), ("_law_choose" : PySem.Str)]
def hdNms4 : List PySem.Str := [("_law_is_equal" : PySem.Str), ("_law_text" : PySem.Str), ("_law_table" : PySem.Str), ("_law_words" : PySem.Str), ("_law_given" : PySem.Str), ("_law_row" : PySem.Str), ("_law_is_held" : PySem.Str), ("_law_fit" : PySem.Str), ("_law_said" : PySem.Str), ("_law_seen" : PySem.Str), ("_law_due" : PySem.Str), ("_law_is_row" : PySem.Str)]
def hdNms5 : List PySem.Str := [("_law_add_due" : PySem.Str), ("_law_drop_due" : PySem.Str), ("_law_odd_row" : PySem.Str), ("_law_call" : PySem.Str)]
def hdNms : List PySem.Str := hdNms0 ++ hdNms1 ++ hdNms2 ++ hdNms3 ++ hdNms4 ++ hdNms5
abbrev hk : PySem.W.Hook := HK.hookA adrs bs fn
def ob (s : PySem.W.SharedT) : HK.AlX := HK.obsAG adrs bs fn (HandSHeadRun.getT s)
section
open PySem.W HandSHeadRun
noncomputable abbrev endT (w : World) (os : OsState) := endF (stepQ (denQ tabQ) RR.prog w) 20000 RR.prog w os
set_option maxHeartbeats 0 in
theorem run1a (w : World) : ∀ os : OsState, (endT w os).map (fun s => staticsOk (importedModules RR.prog.main.body) (boot_heap w.params) s.abs.heap && namesBound RR.prog s.abs.heap) = some true := by
  intro os
  kernel_rfl
set_option maxHeartbeats 0 in
theorem run1b (w : World) : ∀ os : OsState, (endT w os).map (fun s => gensDone s.abs && laidKept (boot_heap w.params) s.abs.heap) = some true := by
  intro os
  kernel_rfl
set_option maxHeartbeats 0 in
theorem run1c (w : World) : ∀ os : OsState, (endT w os).map (fun s => seenQ qv hdNms (importedModules RR.prog.main.body) (fun s => xlAt qv [] s && recOk RR.toRowW.records s) s.abs) = some (openGood qv hdNms) := by
  intro os
  kernel_rfl
theorem run1 (w : World) : ∀ os : OsState, (endT w os).map (fun s => (looksF RR.prog (boot_heap w.params) s.abs, seenQ qv hdNms (importedModules RR.prog.main.body) (fun s => xlAt qv [] s && recOk RR.toRowW.records s) s.abs)) = some (true, openGood qv hdNms) :=
  HK.map_two (HK.map_two (k := fun s => looksF RR.prog (boot_heap w.params) s.abs) (c := true) (run1a w) (run1b w) fun s h1 h2 => by
    show (((staticsOk (importedModules RR.prog.main.body) (boot_heap w.params) s.abs.heap && namesBound RR.prog s.abs.heap) && gensDone s.abs) && laidKept (boot_heap w.params) s.abs.heap) = true
    rw [h1, Bool.true_and]
    exact h2) (run1c w) fun s h1 h2 => Prod.ext h1 h2
set_option maxHeartbeats 0 in
theorem run2a (w : World) : ∀ os : OsState, (endT w os).map (fun s => HK.bsAG adrs (fun K => (bs K).take 147) (getT s)) = some true := by
  intro os
  kernel_rfl
set_option maxHeartbeats 0 in
theorem run3a (w : World) : ∀ os : OsState, (endT w os).map (fun s => HK.fnAG adrs (fn.take 28) (getT s)) = some (HK.valX (fn.take 28)) := by
  intro os
  kernel_rfl
set_option maxHeartbeats 0 in
theorem run2b (w : World) : ∀ os : OsState, (endT w os).map (fun s => HK.bsAG adrs (fun K => (bs K).drop 147) (getT s)) = some true := by
  intro os
  kernel_rfl
set_option maxHeartbeats 0 in
theorem run3b (w : World) : ∀ os : OsState, (endT w os).map (fun s => HK.fnAG adrs (fn.drop 28) (getT s)) = some (HK.valX (fn.drop 28)) := by
  intro os
  kernel_rfl
theorem run2 (w : World) : ∀ os : OsState, (endT w os).map (fun s => HK.bsAG adrs bs (getT s)) = some true := HK.map_two (run2a w) (run2b w) fun _ h1 h2 => HK.bs_cut 147 h1 h2
theorem run3 (w : World) : ∀ os : OsState, (endT w os).map (fun s => HK.fnAG adrs fn (getT s)) = some (HK.valX fn) := HK.map_two (run3a w) (run3b w) fun _ h1 h2 => HK.fn_cut 28 h1 h2
theorem run (w : World) : HandSHeadRun.RunEq RR qv hk ob 20000 hdNms w := by
  unfold HandSHeadRun.RunEq
  intro os
  obtain ⟨s, e, h1, h2, h3⟩ := HK.split3 os (run1 w) (run2 w) (run3 w)
  have e : endF (stepQ (denQ tabQ) RR.prog w) 20000 RR.prog w os = some s := e
  rw [e]
  have e1 := congrArg (fun z => z.1) h1
  have e2 := congrArg (fun z => z.2) h1
  exact congrArg some (Prod.ext e1 (Prod.ext e2 (HK.obs_of h2 h3)))
end
end CC
set_option Elab.async false
set_option linter.all false
set_option maxRecDepth 100000
set_option maxHeartbeats 4000000
namespace CC
open PySem L2
/-- a source of draws: three numbers -/
def IsSrc (o : HO) : Prop := ∃ a b c : Int, o = .lst [.int a, .int b, .int c] ∧ 0 ≤ b ∧ b < 2147483648
def spCell (K : PySem.W.Frag) : Sp := fun vs H Q _ => ∃ (a : Addr) (ns : List Int) (k : Nat), vs = [.ref a, .int (k : Int)] ∧ SqL K H a (ns.map V.int) ∧ ∀ z : Int, Q (.int z) H
def spSource : Sp := fun vs H Q _ => ∃ z : Int, vs = [.int z] ∧ ∀ p o, H p = none → IsSrc o → Q (.ref p) (upd H p o)
def spDraw : Sp := fun vs H Q _ => ∃ (s : Addr) (m : Int) (o : HO), vs = [.ref s, .int m] ∧ H s = some o ∧ IsSrc o ∧ 0 < m ∧ m < 1000000 ∧ ∀ (r : Int) (o' : HO), 0 ≤ r → r < m → IsSrc o' → Q (.int r) (upd H s o')
section
variable {P : Program} {w : World} {K : PySem.W.Frag} {mg : Str → Option Value} {base : Heap}
theorem scCell : FnScope ["_law_script", "_law_index"] ["_law_script", "_law_index"] (defScope sCell) := ⟨rfl, rfl, rfl, by decide +kernel, rfl, by decide +kernel, by decide +kernel⟩
theorem ok_cell {f : Addr} {fd : FuncData} {k : Nat} (F : Fun K "_law_cell" "_law_cell" sCell f fd) (ml : mg "len" = none) : FnOk P w K mg base CX0 (k + 1) f fd ["_law_script", "_law_index"] (spCell K) := by
  refine F.ok scCell (fun vs H Q E h => ?_) (fun cdv A outer s H vs Q E hr h => ?_)
  · obtain ⟨a, ns, k, rfl, _⟩ := h
    rfl
  · obtain ⟨a, ns, k, rfl, hS, q⟩ := h
    refine ⟨_, pss_cons (ps_if (pt_cmpR op_lt (pv 1) (pe_callB call_len_seq (by rfl) ml PySem.boot_len (pa_cons (pv 0) pa_nil)) (nomark _)) (pss_one (ps_ret (pe_ix ix_list (pv 0) (pv 1) (fun _ _ => rfl)))) pss_nil) (pss_one (ps_ret pe_int)), ?_⟩
    refine ⟨_, rfl, _, rfl, a, _, rfl, .inl hS, _, _, rfl, rfl, _, rfl, ite2 (fun e => ?_) (fun e => ?_)⟩
    · have e1 : (k : Int) < ((ns.map V.int).length : Int) := of_decide_eq_true e
      have e2 : k < ns.length := by
        rw [List.length_map] at e1
        omega
      have e3 : (ns.map V.int)[k]? = some (.int ns[k]) := by
        rw [List.getElem?_map, List.getElem?_eq_getElem e2]
        rfl
      exact ⟨_, rfl, _, rfl, a, _, _, _, rfl, rfl, hS, atI_nat e3, q _⟩
    · exact q 0
end
end CC
namespace CC
open PySem L2
/-! ### data in the heap -/
section
variable {K : PySem.W.Frag} {H H' : Hp}
theorem same_rd {a : Addr} {u : HO} (e : Same H H') (h : Rd H a u) : Rd H' a u := by
  rcases h with h | ⟨o, h⟩
  · exact .inl (e a _ h)
  · exact .inr ⟨o, e a _ h⟩
theorem same_l {a : Addr} {xs : List V} (e : Same H H') (h : SqL K H a xs) : SqL K H' a xs := by
  rcases h with h | h
  · exact .inl (same_rd e h)
  · exact .inr h
theorem same_t {a : Addr} {xs : List V} (e : Same H H') (h : SqT K H a xs) : SqT K H' a xs := by
  rcases h with h | h
  · exact .inl (same_rd e h)
  · exact .inr h
mutual
theorem dp_same (e : Same H H') : ∀ (d : PyData) (v : V), Dp K H v d → Dp K H' v d
  | .none, _, h => by cases h; exact .non
  | .bool b, _, h => by cases h; exact .bl b
  | .int i, _, h => by cases h; exact .int i
  | .str x, _, h => by cases h; exact .str x
  | .list ds, _, h => by
    cases h with
    | lst hs ha => exact .lst (same_l e hs) (dps_same e ds _ ha)
  | .tuple ds, _, h => by
    cases h with
    | tup hs ha => exact .tup (same_t e hs) (dps_same e ds _ ha)
  | .dict _, _, h => by cases h
theorem dps_same (e : Same H H') : ∀ (ds : List PyData) (vs : List V), DpAll K H vs ds → DpAll K H' vs ds
  | [], _, h => by cases h; exact .nil
  | d :: ds, _, h => by
    cases h with
    | cons h1 h2 => exact .cons (dp_same e d _ h1) (dps_same e ds _ h2)
end
theorem dps_len : ∀ {ds : List PyData} {vs : List V}, DpAll K H vs ds → vs.length = ds.length
  | [], _, h => by cases h; rfl
  | d :: ds, _, h => by
    cases h with
    | cons h1 h2 => exact congrArg (· + 1) (dps_len h2)
theorem dps_at : ∀ {ds : List PyData} {vs : List V} {i : Nat} {v : V}, DpAll K H vs ds → vs[i]? = some v → ∃ d, ds[i]? = some d ∧ Dp K H v d
  | [], _, i, v, h, e => by
    cases h
    simp at e
  | d :: ds, _, 0, v, h, e => by
    cases h with
    | cons h1 h2 => exact ⟨d, rfl, by simp at e; subst e; exact h1⟩
  | d :: ds, _, i + 1, v, h, e => by
    cases h with
    | cons h1 h2 => exact dps_at (i := i) h2 (by simpa using e)
theorem dps_app : ∀ {ds es : List PyData} {vs us : List V}, DpAll K H vs ds → DpAll K H us es → DpAll K H (vs ++ us) (ds ++ es)
  | [], _, _, _, h, g => by
    cases h
    exact g
  | d :: ds, _, _, _, h, g => by
    cases h with
    | cons h1 h2 => exact .cons h1 (dps_app h2 g)
theorem dps_take : ∀ {ds : List PyData} {vs : List V} (n : Nat), DpAll K H vs ds → DpAll K H (vs.take n) (ds.take n)
  | _, _, 0, _ => .nil
  | [], _, n + 1, h => by
    cases h
    exact .nil
  | d :: ds, _, n + 1, h => by
    cases h with
    | cons h1 h2 => exact .cons h1 (dps_take n h2)
theorem dps_drop : ∀ {ds : List PyData} {vs : List V} (n : Nat), DpAll K H vs ds → DpAll K H (vs.drop n) (ds.drop n)
  | _, _, 0, h => h
  | [], _, n + 1, h => by
    cases h
    exact .nil
  | d :: ds, _, n + 1, h => by
    cases h with
    | cons h1 h2 => exact dps_drop n h2
theorem dps_one {v : V} {d : PyData} (h : Dp K H v d) : DpAll K H [v] [d] := .cons h .nil
theorem dp_l {v : V} {ds : List PyData} (h : Dp K H v (.list ds)) : ∃ p vs, v = .ref p ∧ SqL K H p vs ∧ DpAll K H vs ds := by
  cases h with
  | lst hs ha => exact ⟨_, _, rfl, hs, ha⟩
theorem dp_t {v : V} {ds : List PyData} (h : Dp K H v (.tuple ds)) : ∃ p vs, v = .ref p ∧ SqT K H p vs ∧ DpAll K H vs ds := by
  cases h with
  | tup hs ha => exact ⟨_, _, rfl, hs, ha⟩
theorem dp_int {v : V} {i : Int} (h : Dp K H v (.int i)) : v = .int i := by
  cases h
  rfl
theorem dp_str {v : V} {i : Str} (h : Dp K H v (.str i)) : v = .str i := by
  cases h
  rfl
theorem same_new {p : Addr} {o : HO} (h : H p = none) : Same H (upd H p o) := fun b x e => by
  rw [upd_ne (ne_of_none e h)]
  exact e
theorem same_mut {p : Addr} {o : HO} (e : Same H H') (h : H p = none) : Same H (upd H' p o) := fun b x q => by
  rw [upd_ne (ne_of_none q h)]
  exact e b x q
/-- the heap without one object -/
def wo (H : Hp) (s : Addr) : Hp := fun b => if b = s then none else H b
theorem wo_at (s : Addr) : wo H s s = none := by
  unfold wo
  rw [if_pos rfl]
theorem wo_ne {s b : Addr} (h : b ≠ s) : wo H s b = H b := by
  unfold wo
  rw [if_neg h]
theorem wo_le (s : Addr) : Same (wo H s) H := fun b o e => by
  by_cases h : b = s
  · subst h
    rw [wo_at] at e
    cases e
  · rw [wo_ne h] at e
    exact e
theorem wo_upd (s : Addr) (o : HO) : wo (upd H s o) s = wo H s := by
  funext b
  by_cases h : b = s
  · subst h
    rw [wo_at, wo_at]
  · rw [wo_ne h, wo_ne h, upd_ne h]
theorem wo_upd_ne {s p : Addr} (o : HO) (h : p ≠ s) : wo (upd H p o) s = upd (wo H s) p o := by
  funext b
  by_cases hb : b = s
  · subst hb
    rw [wo_at, upd_ne (Ne.symm h), wo_at]
  · rw [wo_ne hb]
    by_cases hp : b = p
    · subst hp
      rw [upd_same, upd_same]
    · rw [upd_ne hp, upd_ne hp, wo_ne hb]
theorem wo_same {s : Addr} (e : Same H H') : Same (wo H s) (wo H' s) := fun b o q => by
  by_cases h : b = s
  · subst h
    rw [wo_at] at q
    cases q
  · rw [wo_ne h] at q ⊢
    exact e b o q
end
/-! ### rules and pairs as data -/
structure R where
  k : Bool
  a : Nat
  b : Nat
  deriving DecidableEq
def kd (k : Bool) : Str := if k then "settles" else "within"
def R.d (r : R) : PyData := .tuple [.str (kd r.k), .int (r.a : Int), .int (r.b : Int)]
def prd (p : Nat × Nat) : PyData := .tuple [.int (p.1 : Int), .int (p.2 : Int)]
theorem kd_inj {j k : Bool} (h : kd j = kd k) : j = k := by
  revert h
  cases j <;> cases k <;> decide +kernel
theorem kd_ok (k : Bool) : PyData.strOk (kd k) = true := by
  cases k <;> decide +kernel
theorem rd_shaped (r : R) : SeqAt.shaped r.d = true := by
  show (r.d.canLay0 && decide (r.d.depth ≤ 64)) = true
  simp [R.d, PyData.canLay0, PyData.canLayAll0, PyData.depth, PyData.depthAll, kd_ok]
theorem rds_shaped (rs : List R) : SeqAt.shaped (.list (rs.map R.d)) = true := by
  have h : PyData.canLayAll0 (rs.map R.d) = true ∧ PyData.depthAll (rs.map R.d) ≤ 2 := by
    induction rs with
    | nil => simp [PyData.canLayAll0, PyData.depthAll]
    | cons r rs ih =>
      simp only [List.map_cons, PyData.canLayAll0, PyData.depthAll, R.d, PyData.canLay0, PyData.depth, Bool.and_eq_true]
      refine ⟨⟨by simp [kd_ok], ih.1⟩, ?_⟩
      have := ih.2
      omega
  show ((PyData.list (rs.map R.d)).canLay0 && decide ((PyData.list (rs.map R.d)).depth ≤ 64)) = true
  simp only [PyData.canLay0, PyData.depth, h.1, Bool.true_and]
  exact decide_eq_true (by have := h.2; omega)
theorem rd_eqv (r s : R) : PyData.eqv r.d s.d = decide (r = s) := by
  obtain ⟨k, a, b⟩ := r
  obtain ⟨k', a', b'⟩ := s
  simp only [R.d, PyData.eqv, PyData.eqvAll, Bool.and_true]
  by_cases h : (⟨k, a, b⟩ : R) = ⟨k', a', b'⟩
  · rw [decide_eq_true h]
    cases h
    simp
  · rw [decide_eq_false h]
    by_cases hk : k = k'
    · subst hk
      have : ¬ (a = a' ∧ b = b') := fun z => h (by rw [z.1, z.2])
      simp
      intro z
      omega
    · have : ¬ kd k = kd k' := fun z => hk (kd_inj z)
      simp [this]
theorem rds_any (rs : List R) (r : R) : ((rs.map R.d).any fun z => PyData.eqv z r.d) = decide (r ∈ rs) := by
  induction rs with
  | nil => simp
  | cons x rs ih =>
    rw [List.map_cons, List.any_cons, ih, rd_eqv]
    by_cases h : x = r
    · simp [h]
    · have : ¬ r = x := fun z => h z.symm
      simp [h, this]
section
variable {K : PySem.W.Frag} {H H' : Hp}
theorem dp_r {v : V} {r : R} (h : Dp K H v r.d) : ∃ p, v = .ref p ∧ SqT K H p [.str (kd r.k), .int (r.a : Int), .int (r.b : Int)] := by
  obtain ⟨p, vs, rfl, hs, ha⟩ := dp_t h
  cases ha with
  | cons h1 h2 =>
    cases h2 with
    | cons h2 h3 =>
      cases h3 with
      | cons h3 h4 =>
        cases h4
        cases dp_str h1
        cases dp_int h2
        cases dp_int h3
        exact ⟨p, rfl, hs⟩
theorem r_dp {p : Addr} {r : R} (h : SqT K H p [.str (kd r.k), .int (r.a : Int), .int (r.b : Int)]) : Dp K H (.ref p) r.d := .tup h (.cons (.str _) (.cons (.int _) (.cons (.int _) .nil)))
theorem dp_p {v : V} {r : Nat × Nat} (h : Dp K H v (prd r)) : ∃ p, v = .ref p ∧ SqT K H p [.int (r.1 : Int), .int (r.2 : Int)] := by
  obtain ⟨p, vs, rfl, hs, ha⟩ := dp_t h
  cases ha with
  | cons h1 h2 =>
    cases h2 with
    | cons h2 h3 =>
      cases h3
      cases dp_int h1
      cases dp_int h2
      exact ⟨p, rfl, hs⟩
theorem p_dp {p : Addr} {r : Nat × Nat} (h : SqT K H p [.int (r.1 : Int), .int (r.2 : Int)]) : Dp K H (.ref p) (prd r) := .tup h (.cons (.int _) (.cons (.int _) .nil))
theorem dps_rat {rs : List R} {vs : List V} {i : Nat} {v : V} (h : DpAll K H vs (rs.map R.d)) (e : vs[i]? = some v) : ∃ r, rs[i]? = some r ∧ Dp K H v r.d := by
  obtain ⟨d, h1, h2⟩ := dps_at h e
  rw [List.getElem?_map] at h1
  cases q : rs[i]? with
  | none =>
    rw [q] at h1
    cases h1
  | some r =>
    rw [q] at h1
    cases h1
    exact ⟨r, rfl, h2⟩
end
end CC
namespace CC
open PySem L2
/-- what the top has left: the built-ins' names are free, the two constants -/
structure Glb (K : PySem.W.Frag) (mg : Str → Option Value) (kA : Addr) : Prop where
  len : mg "len" = none
  max : mg "max" = none
  min : mg "min" = none
  isi : mg "isinstance" = none
  int : mg "int" = none
  bool : mg "bool" = none
  str : mg "str" = none
  tup : mg "tuple" = none
  rng : mg "range" = none
  lst : mg "list" = none
  all : mg "all" = none
  set : mg "set" = none
  enu : mg "enumerate" = none
  rep : mg "repr" = none
  srt : mg "sorted" = none
  zip : mg "zip" = none
  any : mg "any" = none
  sum : mg "sum" = none
  rev : mg "reversed" = none
  dic : mg "dict" = none
  typ : mg "type" = none
  wid : ∃ t, mg "WIDEST" = some (.int 6 t)
  knd : mg "KINDS" = some (.ref kA)
  kseq : ∃ (o : Obj) (its : Array Value) (n : Nat), K.lookup kA = some o ∧ o.cls = .type "tuple" ∧ o.data = .seq its n ∧ its.size ≤ sizeLine ∧ Vals [.str "settles", .str "within"] its.toList
/-- a def of the top, as it stands -/
structure Df (K : PySem.W.Frag) (mg : Str → Option Value) (x : Str) (st : Stmt) (ps : List Str) where
  f : Addr
  fd : FuncData
  F : Fun K x x st f fd
  b : Binds K fd ps []
  g : mg x = some (.ref f)
/-- a def that keeps a promise -/
structure Cal (P : Program) (w : World) (K : PySem.W.Frag) (mg : Str → Option Value) (base : Heap) (x : Str) (ps : List Str) (sp : Sp) (l : Nat) where
  f : Addr
  fd : FuncData
  ok : ∀ k, l ≤ k → FnOk P w K mg base CX0 k f fd ps sp
  kp : PySem.W.keepIn K (.ref f) = true
  b : Binds K fd ps []
  g : mg x = some (.ref f)
def Df.cal {P : Program} {w : World} {K : PySem.W.Frag} {mg : Str → Option Value} {base : Heap} {x : Str} {st : Stmt} {ps : List Str} {sp : Sp} {l : Nat} (d : Df K mg x st ps) (h : ∀ k, FnOk P w K mg base CX0 (k + l) d.f d.fd ps sp) : Cal P w K mg base x ps sp l :=
  ⟨d.f, d.fd, fun k hk => (Nat.sub_add_cancel hk) ▸ h (k - l), d.F.kp, d.b, d.g⟩
def spIsInt : Sp := fun vs H Q _ => ∃ z : Int, vs = [.int z] ∧ Q (.bl true) H
def spIsWidth : Sp := fun vs H Q _ => ∃ z : Nat, vs = [.int (z : Int)] ∧ 1 ≤ z ∧ z ≤ 6 ∧ Q (.bl true) H
def spIsCol : Sp := fun vs H Q _ => ∃ w z : Nat, vs = [.int (w : Int), .int (z : Int)] ∧ z < w ∧ Q (.bl true) H
/-- a rule for the width -/
def R.ok (w : Nat) (r : R) : Prop := r.a < w ∧ r.b < w ∧ r.a ≠ r.b
def spIsRule (K : PySem.W.Frag) : Sp := fun vs H Q _ => ∃ (w : Nat) (v : V) (r : R), vs = [.int (w : Int), v] ∧ Dp K H v r.d ∧ r.ok w ∧ Q (.bl true) H
section
variable {P : Program} {w : World} {K : PySem.W.Frag} {mg : Str → Option Value} {base : Heap} {kA : Addr}
theorem ty_tup {H : Hp} {p : Addr} {xs : List V} (h : SqT K H p xs) : TyX K H (.ref p) (.type "tuple") := by
  rcases h with (h | ⟨o, h⟩) | ⟨o, its, n, h, c, _⟩
  · exact .base (.tup h)
  · exact .fTuple h
  · exact .kTuple h c
theorem scIsInt : FnScope ["thing"] ["thing"] (defScope sIsInt) := ⟨rfl, rfl, rfl, by decide +kernel, rfl, by decide +kernel, by decide +kernel⟩
theorem ok_isint {f : Addr} {fd : FuncData} {k : Nat} (F : Fun K "is_an_integer" "is_an_integer" sIsInt f fd) (T : Glb K mg kA) : FnOk P w K mg base CX0 (k + 1) f fd ["thing"] spIsInt := by
  refine F.ok scIsInt (fun vs H Q E h => ?_) (fun cdv A outer s H vs Q E hr h => ?_)
  · obtain ⟨z, rfl, _⟩ := h
    rfl
  · obtain ⟨z, rfl, q⟩ := h
    refine ⟨_, pss_one (ps_ret (pe_and (pe_callB call_isi (by rfl) T.isi (by decide +kernel) (pa_cons (pv 0) (pa_cons (pe_bltn (v := .ty "int") (by rfl) T.int (by decide +kernel) rfl) pa_nil)))
      (pe_one (pe_not (pe_callB call_isi (by rfl) T.isi (by decide +kernel) (pa_cons (pv 0) (pa_cons (pe_bltn (v := .ty "bool") (by rfl) T.bool (by decide +kernel) rfl) pa_nil))))))), ?_⟩
    refine ⟨_, rfl, _, _, _, _, true, rfl, .ty _, .base (.int z), kit_ty (by decide +kernel), _, rfl, iteT ?_⟩
    exact ⟨_, rfl, _, _, _, _, false, rfl, .ty _, .base (.int z), kit_ty (by decide +kernel), _, rfl, q⟩
theorem scIsWidth : FnScope ["thing"] ["thing"] (defScope sIsWidth) := ⟨rfl, rfl, rfl, by decide +kernel, rfl, by decide +kernel, by decide +kernel⟩
theorem ok_iswidth {f : Addr} {fd : FuncData} {k : Nat} (F : Fun K "is_width" "is_width" sIsWidth f fd) (T : Glb K mg kA) (cI : Cal P w K mg base "is_an_integer" ["thing"] spIsInt 1) : FnOk P w K mg base CX0 (k + 2) f fd ["thing"] spIsWidth := by
  have GI := cI.ok (k + 1) (by omega)
  refine F.ok scIsWidth (fun vs H Q E h => ?_) (fun cdv A outer s H vs Q E hr h => ?_)
  · obtain ⟨z, rfl, _⟩ := h
    rfl
  · obtain ⟨z, rfl, h1, h2, q⟩ := h
    obtain ⟨tw, hw⟩ := T.wid
    refine ⟨_, pss_one (ps_ret (pe_and (pe_call GI hr rfl cI.g cI.kp cI.b .nil pass0 (pa_cons (pv 0) pa_nil))
      (pe_one (pe_chain op_le op_le pe_int (pv 0) (pe_glob (v := .int 6) rfl hw ⟨_, rfl⟩))))), ?_⟩
    refine ⟨_, rfl, _, rfl, _, rfl, iteT ?_⟩
    have e1 : decide ((1 : Int) ≤ (z : Int)) = true := decide_eq_true (by omega)
    have e2 : decide ((z : Int) ≤ (6 : Int)) = true := decide_eq_true (by omega)
    refine ⟨_, rfl, _, _, rfl, rfl, _, rfl, ?_⟩
    rw [e1]
    refine iteT ⟨_, _, rfl, rfl, ?_⟩
    show Q (.bl (decide ((z : Int) ≤ (6 : Int)))) H
    rw [e2]
    exact q
theorem scIsCol : FnScope ["width", "thing"] ["width", "thing"] (defScope sIsCol) := ⟨rfl, rfl, rfl, by decide +kernel, rfl, by decide +kernel, by decide +kernel⟩
theorem ok_iscol {f : Addr} {fd : FuncData} {k : Nat} (F : Fun K "is_column" "is_column" sIsCol f fd) (T : Glb K mg kA) (cI : Cal P w K mg base "is_an_integer" ["thing"] spIsInt 1) : FnOk P w K mg base CX0 (k + 2) f fd ["width", "thing"] spIsCol := by
  have GI := cI.ok (k + 1) (by omega)
  refine F.ok scIsCol (fun vs H Q E h => ?_) (fun cdv A outer s H vs Q E hr h => ?_)
  · obtain ⟨w, z, rfl, _⟩ := h
    rfl
  · obtain ⟨w, z, rfl, h1, q⟩ := h
    refine ⟨_, pss_one (ps_ret (pe_and (pe_call GI hr rfl cI.g cI.kp cI.b .nil pass0 (pa_cons (pv 1) pa_nil))
      (pe_one (pe_chain op_le op_lt pe_int (pv 1) (pv 0))))), ?_⟩
    refine ⟨_, rfl, _, rfl, _, rfl, iteT ?_⟩
    have e1 : decide ((0 : Int) ≤ (z : Int)) = true := decide_eq_true (by omega)
    have e2 : decide ((z : Int) < (w : Int)) = true := decide_eq_true (by omega)
    refine ⟨_, rfl, _, _, rfl, rfl, _, rfl, ?_⟩
    rw [e1]
    refine iteT ⟨_, rfl, _, _, rfl, rfl, ?_⟩
    show Q (.bl (decide ((z : Int) < (w : Int)))) H
    rw [e2]
    exact q
theorem scIsRule : FnScope ["width", "thing", "kind", "first", "second"] ["width", "thing"] (defScope sIsRule) := ⟨rfl, rfl, rfl, by decide +kernel, rfl, by decide +kernel, by decide +kernel⟩
theorem ok_isrule {f : Addr} {fd : FuncData} {k : Nat} (F : Fun K "is_rule" "is_rule" sIsRule f fd) (T : Glb K mg kA) 
 (cC : Cal P w K mg base "is_column" ["width", "thing"] spIsCol 2) : FnOk P w K mg base CX0 (k + 3) f fd ["width", "thing"] (spIsRule K) := by
  have GC := cC.ok (k + 2) (by omega)
  refine F.ok scIsRule (fun vs H Q E h => ?_) (fun cdv A outer s H vs Q E hr h => ?_)
  · obtain ⟨w, v, r, rfl, _⟩ := h
    rfl
  · obtain ⟨w, v, r, rfl, hd, ⟨h1, h2, h3⟩, q⟩ := h
    obtain ⟨p, rfl, hp⟩ := dp_r hd
    have hk : SqT K H kA [.str "settles", .str "within"] := .inr T.kseq
    have nd := scIsRule.nd
    refine ⟨_, pss_cons (ps_if (PW.pt (pw_or (pt_not (pt_val (pe_callB call_isi (by rfl) T.isi (by decide +kernel) (pa_cons (pv 1) (pa_cons (pe_bltn (v := .ty "tuple") (by rfl) T.tup (by decide +kernel) rfl) pa_nil)))))
          (pw_or1 (pt_cmpR op_ne (pe_callB call_len_seq (by rfl) T.len PySem.boot_len (pa_cons (pv 1) pa_nil)) pe_int (nomark _))))) (pss_one (ps_ret pe_bl)) pss_nil)
      (pss_cons (ps_asg (pv 1) (pg_tup rfl (pgs_cons (pg_name (i := 2) nd rfl (.inl rfl)) (pgs_cons (pg_name (i := 3) nd rfl (.inl rfl)) (pgs_cons (pg_name (i := 4) nd rfl (.inl rfl)) pgs_nil)))))
      (pss_cons (ps_if (PW.pt (pw_or (pt_not (pt_val (pe_callB call_isi (by rfl) T.isi (by decide +kernel) (pa_cons (pv 2) (pa_cons (pe_bltn (v := .ty "str") (by rfl) T.str (by decide +kernel) rfl) pa_nil)))))
          (pw_or1 (pt_cmpR op_notIn_seq (pv 2) (pe_glob (v := .ref kA) rfl T.knd rfl) (by rfl))))) (pss_one (ps_ret pe_bl)) pss_nil)
      (pss_one (ps_ret (pe_and (pe_call GC hr rfl cC.g cC.kp cC.b .nil pass0 (pa_cons (pv 0) (pa_cons (pv 3) pa_nil)))
        (pe_and (pe_call GC hr rfl cC.g cC.kp cC.b .nil pass0 (pa_cons (pv 0) (pa_cons (pv 4) pa_nil))) (pe_one (pe_cmpR op_ne (pv 3) (pv 4) (nomark _))))))))), ?_⟩
    refine ⟨_, rfl, _, _, _, _, true, rfl, .ty _, ty_tup hp, kit_ty (by decide +kernel), _, rfl, iteF ?_⟩
    refine ⟨_, rfl, p, _, rfl, .inr hp, rfl, _, rfl, iteF ?_⟩
    refine ⟨_, rfl, p, _, rfl, hp, rfl, _, _, rfl, _, _, rfl, _, _, rfl, rfl, ?_⟩
    refine ⟨_, rfl, _, _, _, _, true, rfl, .ty _, .base (.str _), kit_ty (by decide +kernel), _, rfl, iteF ?_⟩
    have ek : inV (.str (kd r.k)) [.str "settles", .str "within"] = true := by
      cases r.k <;> decide +kernel
    refine ⟨_, rfl, kA, _, rfl, .inr hk, rfl, rfl, _, rfl, ?_⟩
    rw [ek]
    refine iteF ?_
    refine ⟨_, rfl, _, rfl, w, r.a, rfl, h1, _, rfl, iteT ?_⟩
    refine ⟨_, rfl, _, rfl, w, r.b, rfl, h2, _, rfl, iteT ?_⟩
    refine ⟨_, rfl, _, rfl, rfl, ?_⟩
    have e3 : (!decide (V.int (r.a : Int) = V.int (r.b : Int))) = true := by
      rw [decide_eq_false (fun z => h3 (by injection z with z; omega))]
      rfl
    show Q (.bl (!decide (V.int (r.a : Int) = V.int (r.b : Int)))) H
    rw [e3]
    exact q
end
end CC
namespace CC
open PySem PySem.Spec PyProof.Rows L2
section
variable {X : Cx}
end
end CC
namespace CC
open PySem PySem.Spec PyProof.Rows L2
/-! ### x in a tuple of data, C(e, *y), an own + -/
section
variable {X : Cx}
variable {CX : CXT} {k : Nat} {f C : Addr} {sp : Sp} {E : XK} {x : Str} {e : Expr} {es : List Expr} {t : TA} {p pos : Pos}
theorem pe_makeRS (M : Mk X.K C f) (F : FnR X.prog X.w X.K X.mg X.base CX k f sp) (hr : Room (k + 1) X.A) (hg : Gl X x) (hm : X.mg x = some (.ref C)) (hx : Passes CX X E) (ha : PA X (e :: es) t) (hdb : (x == ("__debug__" : Str)) = false := by decide)
    (he : starEach (e :: es) X.env = (false, eval e X.env) :: starEach es X.env := by rfl) (hst : (backTo pos (starEach es X.env)).any (·.1) = true := by rfl) : PE X (.Call (.Name x p) (e :: es) [] pos) (StX.tMakeR C sp E t) := by
  refine ⟨fun pins s σ H Q I h => ?_⟩
  refine wpAny_Call_Name_kw (ld_glob I hg hm ?_ hdb)
  refine PySem.W.callWith_S2 (h₀ := X.base) I.ok.mod.kin M.kp (thn (ha.run pos pins s σ H _ I h) fun us s1 ⟨vs, H1, I1, r, q⟩ => ⟨I1.kIn, ?_⟩) he hst
  exact StX.run_makeR M F hr hx I1 r q
end
end CC
/-! ### an own ==, the != that goes by it, len, + of anything -/
namespace OC
open PySem PySem.Spec PyProof.Rows L2
section
open PySem.W
variable {prog : Program} {w : World} {A : Around} {E : Value → Shared → Prop} {s : Shared} {K : PySem.W.Frag} {x C f L : Addr} {h₀ : Heap} {m : Str → Option Value} {ox : Obj} {od : Obj} {b : Value}
end
section
variable {X : Cx} {CX : CXT} {k : Nat} {f C : Addr} {sp : Sp} {E : XK}
/-- len(x) by the own __len__ -/
def rLenO (C : Addr) (sp : Sp) (E : XK) : List V → Hp → VK → Prop := fun xs H Q => ∃ a dx fs, xs = [.ref a] ∧ H a = some (.ins C dx fs) ∧ sp [.ref a] H (fun v H' => ∃ n : Nat, v = .int (n : Int) ∧ n < 1000000 ∧ Q (.int (n : Int)) H') E
theorem call_lenO {g : Addr} (hs : PySem.W.findIn X.K (.ref C) "__len__" = some (some (.ref g))) (hf : PySem.W.isFn X.K (.ref g) = true) (F : FnR X.prog X.w X.K X.mg X.base CX k g sp) (hr : Room (k + 1) X.A) (hx : Passes CX X E) : CallR X (.builtin "len") (rLenO C sp E) := by
  intro pins s σ H xs us Q I r h
  obtain ⟨a, dx, fs, rfl, ha, q⟩ := h
  rw [Vals.ref1 r]
  obtain ⟨mA, J, _⟩ := ins_get I.hok ha
  obtain ⟨od, J, _⟩ := J.look
  obtain ⟨m, hF⟩ := I.fr
  refine PySem.W.len_K hF I.ok.mod.kin J hs hf ?_
  refine wpAny_mono (wpAny_call (SlX.run_at (us := [.ref a]) (ws := [.ref a]) F hr.in1 I.env0.in1 hx I (.cons rfl .nil) q)) (fun w s' z => ?_) fun _ _ x => x
  obtain ⟨z', H', I', rz, c, rfl, hc, qz⟩ := z
  obtain ⟨t, rfl⟩ := (show ∃ t, w = Value.int (c : Int) t from rz)
  exact ⟨⟨by omega, by omega⟩, .int (c : Int), H', I'.tok _, ⟨_, rfl⟩, qz⟩
end
end OC
/-! ### an own + of anything; it may raise -/
namespace OC
open PySem PySem.Spec PyProof.Rows L2
def oddTys : List String := ["NoneType", "bool", "int", "str", "tuple", "list", "dict"]
theorem fills_no {n : String} (h : n = "NoneType" ∨ n = "str" ∨ n = "tuple" ∨ n = "list" ∨ n = "dict") : fillsNumberSlot (.type n) "add" = pure false := by
  unfold fillsNumberSlot
  rcases h with rfl | rfl | rfl | rfl | rfl <;>
  · simp only [typeLookup_type, builtinLookup_eq_fast]
    kernel_rfl
theorem fills_yes {n : String} (h : n = "bool" ∨ n = "int") : fillsNumberSlot (.type n) "add" = pure true := by
  unfold fillsNumberSlot
  rcases h with rfl | rfl <;>
  · simp only [typeLookup_type, builtinLookup_eq_fast]
    kernel_rfl
section
open PySem.W
variable {prog : Program} {w : World} {A : Around} {E : Value → Shared → Prop} {s : Shared} {K : PySem.W.Frag} {x C f L : Addr} {h₀ : Heap} {m : Str → Option Value} {ox : Obj} {od : Obj} {b : Value} {n : String}
theorem dn_add : PySem.dunder "add" = ("__add__" : Str) := by decide +kernel
theorem dn_radd : PySem.dunderR "add" = ("__radd__" : Str) := by decide +kernel
theorem in_python (X : K.In s.heap) (hs : findIn K (.ref C) "__add__" = some (some (.ref f))) (hn : findIn K (.ref C) "__radd__" = some none) : Looks (model prog w) s.heap (numberSlotInPython (.ref C) "add") true := by
  unfold numberSlotInPython
  rw [dn_add, dn_radd]
  intro A Q E s' k q
  have X' := X.keeps k
  refine wpAny_bind ((looks_findIn X' hs).here ?_)
  show wpAny _ _ (pure true >>= _) _ _ _
  refine wpAny_bind (wpAny_pure ?_)
  refine wpAny_bind ((looks_findIn X' hn).here ?_)
  show wpAny _ _ (pure false >>= _) _ _ _
  refine wpAny_bind (wpAny_pure ?_)
  exact wpAny_pure q
theorem radd_of {n : String} (h : n = "bool" ∨ n = "int") : ∃ t, typeLookup (.type n) (PySem.dunderR "add") = pure t := by
  rcases h with rfl | rfl <;>
  · refine ⟨some (.builtin "int.__radd__"), ?_⟩
    rw [typeLookup_type, builtinLookup_eq_fast]
    kernel_rfl
theorem add_any {Q : Value → Shared → Prop} (F : Fr h₀ L s.heap m) (X₀ : K.In h₀) (I : InstAt s.heap x ox C od) (hb : Looks (model prog w) s.heap (typeOf b) (.type n)) (hn : n ∈ oddTys) (hc : selfFirst K C = true)
    (hs : findIn K (.ref C) "__add__" = some (some (.ref f))) (hnr : findIn K (.ref C) "__radd__" = some none) (hf : isFn K (.ref f) = true) (hsub : subIn K (.type n) (.ref C) = some false)
    (h : wpAny (model prog w) A (call (.ref f) [.ref x, b]) (PySem.W.CmpBack Q) E s) : wpAny (model prog w) A (binaryOp .Add (.ref x) b) Q E s := by
  have X := X₀.keeps F.keep
  obtain ⟨cd, hcd, hm⟩ := any_some hc
  obtain ⟨rest, hm⟩ : ∃ rest, cd.mro = .ref C :: rest := by
    cases q : cd.mro with
    | nil => rw [q] at hm; cases hm
    | cons a r => rw [q] at hm; exact ⟨r, by rw [List.head?_cons] at hm; cases (beq_iff_eq.mp hm); rfl⟩
  have hs' : findIn K (.ref C) (PySem.dunder "add") = some (some (.ref f)) := by rw [dn_add]; exact hs
  have fin : ∀ {P : Option Value → Shared → Prop}, (∀ v s', Q v s' → P (some v) s') → wpAny (model prog w) A (tryMethod (.ref x) (PySem.dunder "add") b) P E s := fun {P} hp => by
    unfold tryMethod
    refine wpAny_bind (special_fn X I hs' (beq_iff_eq.mp hf) (wpAny_mono h (fun v s' hv => ?_) fun _ _ e => e))
    cases v <;> first | exact hv.elim | exact wpAny_pure (hp _ _ hv)
  have bt : (Value.ref C == Value.type n) = false := rfl
  unfold binaryOp
  refine wpAny_holding ?_
  show wpAny _ _ (binaryOp1 "add" (.ref x) b >>= _) _ _ _
  refine wpAny_bind ?_
  unfold binaryOp1
  refine wpAny_bind (I.type.here (wpAny_bind (hb.here (wpAny_bind ((fills_K X hcd hm hs').here ?_)))))
  simp only [bt, Bool.false_eq_true, if_false]
  by_cases hy : n = "bool" ∨ n = "int"
  · refine wpAny_bind ((Looks.of_pure (fills_yes hy)).here ?_)
    simp only [Bool.and_self, if_true]
    refine wpAny_bind ((looks_subIn X hsub).here ?_)
    simp only [Bool.false_eq_true, if_false, Bool.not_false, Bool.and_self, if_true]
    refine wpAny_bind ((in_python X hs hnr).here ?_)
    simp only [if_true]
    refine wpAny_bind ((Looks.of_pure (show numberSlotInPython (.type n) "add" = pure false from rfl)).here ?_)
    simp only [Bool.not_false, if_true]
    obtain ⟨t, ht⟩ := radd_of hy
    refine wpAny_bind ((Looks.of_pure ht).here ?_)
    refine wpAny_bind (fin fun v s' hv => ?_)
    exact wpAny_pure (wpAny_pure hv)
  · have hno : n = "NoneType" ∨ n = "str" ∨ n = "tuple" ∨ n = "list" ∨ n = "dict" := by
      simp only [oddTys, List.mem_cons, List.mem_singleton, List.not_mem_nil, or_false] at hn
      rcases hn with h | h | h | h | h | h | h
      · exact .inl h
      · exact (hy (.inl h)).elim
      · exact (hy (.inr h)).elim
      · exact .inr (.inl h)
      · exact .inr (.inr (.inl h))
      · exact .inr (.inr (.inr (.inl h)))
      · exact .inr (.inr (.inr (.inr h)))
    refine wpAny_bind ((Looks.of_pure (fills_no hno)).here ?_)
    simp only [Bool.and_false, Bool.false_eq_true, if_false, Bool.false_and, if_true]
    refine wpAny_bind (wpAny_pure ?_)
    simp only [Bool.false_eq_true, if_false]
    refine wpAny_bind (fin fun v s' hv => ?_)
    exact wpAny_pure (wpAny_pure hv)
end
section
variable {X : Cx} {CX : CXT} {k : Nat} {f C : Addr} {sp : Sp} {E : L2.St → XK} {a b : Expr} {ta tb : TE} {pos : Pos}
def OddV (K : PySem.W.Frag) (H : Hp) (y : V) : Prop := ∃ n, TyX K H y (.type n) ∧ n ∈ oddTys
end
end OC
namespace CC
open PySem L2 TL
/-- what is known of an own exception's class -/
structure ExcK (K : PySem.W.Frag) (mg : Str → Option Value) (x : Str) (C : Addr) : Prop where
  g : mg x = some (.ref C)
  x : PySem.W.excIn K C [.type "ValueError", .type "Exception", .type "BaseException", .type "object"] "ValueError.__new__" = true
  k : PySem.W.keepIn K (.ref C) = true
  b : PySem.W.subIn K (.ref C) (.type "BaseException") = some true
  t : PySem.W.typeIn K (.ref C) = some (.type "type")
end CC
namespace CC
open PySem L2 TL
/-- plain values are no instances of the class -/
structure NoIns (K : PySem.W.Frag) (C : Addr) : Prop where
  kit : ∀ n ∈ OC.oddTys, PySem.W.kitOne K (.type n) (.ref C) = some false
  sub : ∀ n ∈ OC.oddTys, PySem.W.subIn K (.type n) (.ref C) = some false
/-- isinstance(x, C), x an instance of C or a plain value -/
def rIsCX (K : PySem.W.Frag) (C : Addr) : List V → Hp → VK → Prop := fun xs H Q => (∃ a dx fs, xs = [.ref a, .ref C] ∧ H a = some (.ins C dx fs) ∧ Q (.bl true) H) ∨ ∃ y, xs = [y, .ref C] ∧ OC.OddV K H y ∧ Q (.bl false) H
theorem call_isCX {X : Cx} {C : Addr} (ic : C8.InsC X.K C) (no : NoIns X.K C) : CallR X (.builtin "isinstance") (rIsCX X.K C) := by
  intro pins s σ H xs us Q I r h
  rcases h with h | ⟨y, rfl, ⟨n, ty, hn⟩, q⟩
  · exact C8.call_isC ic pins s σ H xs us Q I r h
  · exact call_isi pins s σ H _ us Q I r ⟨y, .ref C, _, _, false, rfl, .own C, ty, no.kit n hn, q⟩
end CC
/-! A list comprehension of three clauses. -/
namespace C3
open PySem PySem.Spec PyProof.Rows L2
abbrev no : Value → Shared → Prop := fun _ _ => False
def turnOf (c : Expr) (k : Nat) (tg : Expr) (ps : Pos) (fs : List Expr) (env : Env) (acc : Value) (body : Sem Unit) (it : Value) : Sem Fin := do
  standAt ps
  match ← pyNext it with
  | none => pure (.done .next)
  | some v =>
    letOwnedTupleGo tg it v
    assign tg env v
    let mut ok := true
    for cd in fs do
      if ok then ok ← isTrue cd env (eval cd env)
    if ok then body
    again (.compLoop c k it acc env)
def nextOf (c : Expr) (k : Nat) (ix : Expr) (env : Env) (acc : Value) : Sem Unit := do
  let x ← eval ix env
  standAt ix.pos
  let x ← foldedSetIterable ix env x
  let _ ← runOwn (.compStart c k (← holding [x] (pyIter x)) acc env) env
def pushOf (ex : Expr) (env : Env) (acc : Value) : Sem Unit := do
  let _ ← call (.builtin "list.append") [acc, ← eval ex env]
section
variable {ex t0 i0 t1 i1 t2 i2 : Expr} {f0 f1 f2 : List Expr} {sc : Scope} {pos : Pos} {it acc : Value} {env : Env}
abbrev lc3 (ex t0 i0 t1 i1 t2 i2 : Expr) (f0 f1 f2 : List Expr) (sc : Scope) (pos : Pos) : Expr := .ListComp ex [⟨t0, i0, f0, 0⟩, ⟨t1, i1, f1, 0⟩, ⟨t2, i2, f2, 0⟩] sc pos
theorem turn0 : compTurn (lc3 ex t0 i0 t1 i1 t2 i2 f0 f1 f2 sc pos) 0 it acc env = turnOf (lc3 ex t0 i0 t1 i1 t2 i2 f0 f1 f2 sc pos) 0 t0 i0.pos f0 env acc (nextOf (lc3 ex t0 i0 t1 i1 t2 i2 f0 f1 f2 sc pos) 1 i1 env acc) it := by
  unfold turnOf
  refine congrArg (standAt i0.pos >>= ·) (funext fun _ => congrArg (pyNext it >>= ·) (funext fun r => ?_))
  cases r with
  | none => rfl
  | some v =>
    refine congrArg (letOwnedTupleGo t0 it v >>= ·) (funext fun _ => congrArg (assign t0 env v >>= ·) (funext fun _ => ?_))
    refine congrArg (fun k => forIn f0 true (fun c r => if r = true then do let ok ← isTrue c env (eval c env); pure (ForInStep.yield ok) else pure (ForInStep.yield r)) >>= k) (funext fun ok => ?_)
    cases ok with
    | false => rfl
    | true =>
      unfold nextOf
      simp only [bind_assoc, pure_bind, if_true]
      rfl
theorem turn1 : compTurn (lc3 ex t0 i0 t1 i1 t2 i2 f0 f1 f2 sc pos) 1 it acc env = turnOf (lc3 ex t0 i0 t1 i1 t2 i2 f0 f1 f2 sc pos) 1 t1 i1.pos f1 env acc (nextOf (lc3 ex t0 i0 t1 i1 t2 i2 f0 f1 f2 sc pos) 2 i2 env acc) it := by
  unfold turnOf
  refine congrArg (standAt i1.pos >>= ·) (funext fun _ => congrArg (pyNext it >>= ·) (funext fun r => ?_))
  cases r with
  | none => rfl
  | some v =>
    refine congrArg (letOwnedTupleGo t1 it v >>= ·) (funext fun _ => congrArg (assign t1 env v >>= ·) (funext fun _ => ?_))
    refine congrArg (fun k => forIn f1 true (fun c r => if r = true then do let ok ← isTrue c env (eval c env); pure (ForInStep.yield ok) else pure (ForInStep.yield r)) >>= k) (funext fun ok => ?_)
    cases ok with
    | false => rfl
    | true =>
      unfold nextOf
      simp only [bind_assoc, pure_bind, if_true]
      rfl
theorem turn2 : compTurn (lc3 ex t0 i0 t1 i1 t2 i2 f0 f1 f2 sc pos) 2 it acc env = turnOf (lc3 ex t0 i0 t1 i1 t2 i2 f0 f1 f2 sc pos) 2 t2 i2.pos f2 env acc (pushOf ex env acc) it := by rfl
end
section
variable {P : Program} {w : World} {A : Around} {R : Result → Shared → Prop} {s : Shared} {ex : Expr} {gs : List Comprehension} {sc : Scope} {pos : Pos} {k : Nat} {tg : Expr} {ps : Pos} {fs : List Expr} {it acc : Value} {env : Env} {body : Sem Unit}
theorem loopAny (e : compTurn (.ListComp ex gs sc pos) k it acc env = turnOf (.ListComp ex gs sc pos) k tg ps fs env acc body it) (J : Nat → Shared → Prop)
    (turn : ∀ n s, J n s → wpAny (model P w) A (pyNext it) (fun r s1 => match r with
      | none => R (.ok .next) s1
      | some v => wpAny (model P w) A (letOwnedTupleGo tg it v) (fun _ s2 => wpAny (model P w) A (assign tg env v) (fun _ s3 =>
          wpAny (model P w) A (forIn fs true fun c r => if r = true then do let ok ← isTrue c env (eval c env); pure (ForInStep.yield ok) else pure (ForInStep.yield r)) (fun ok s4 =>
            if ok = true then wpAny (model P w) A body (fun _ s5 => ∃ m, m < n ∧ J m s5) no s4 else ∃ m, m < n ∧ J m s4) no s3) no s2) no s1) no s)
    (n : Nat) (h : J n s) : codeAny (model P w) A (.compLoop (.ListComp ex gs sc pos) k it acc env) R s := by
  refine codeAny_loop rfl J (fun n s j => ?_) n h
  show wpAny _ A ((compTurn (.ListComp ex gs sc pos) k it acc env).onRaise (fun x => do noteFrame x env; theTreesLotGoes x)) _ _ s
  refine wpAny_noted ?_
  rw [e]
  unfold turnOf
  refine wpAny_bind (wpAny_standAt (wpAny_bind (thnF (turn n s j) fun r s1 h1 => ?_)))
  cases r with
  | none => exact wpAny_pure h1
  | some v =>
    refine wpAny_bind (thnF h1 fun _ s2 h2 => ?_)
    refine wpAny_bind (thnF h2 fun _ s3 h3 => wpAny_bind (thnF h3 fun ok s4 h4 => ?_))
    cases ok with
    | false => exact wpAny_pure ⟨rfl, h4⟩
    | true =>
      first
        | exact wpAny_bind (thnF h4 fun _ s5 h5 => wpAny_pure ⟨rfl, h5⟩)
        | exact wpAny_bind (wpAny_bind (thnF h4 fun _ s5 h5 => wpAny_pure (wpAny_pure ⟨rfl, h5⟩)))
end
/-! ### a clause within the block -/
abbrev TB := L2.St → Hp → (Hp → Prop) → Prop
def tPush (te : TE) (D : Addr) : TB := fun σ H N => te σ H fun y H1 => ∃ l, H1 D = some (.lst l) ∧ l.length < sizeLine ∧ N (upd H1 D (.lst (l ++ [y])))
def tTurn (J : It) (g : TG) (tt : TT) (vs : List Nat) (b : TB) (σ : L2.St) (W : Nat → Nat → Hp → Prop) (N : Hp → Prop) : Prop := ∀ i m H, W i m H →
  (J.stop i H ∧ N H) ∨ (J.go i H ∧ ∃ M : Hp → Prop, (∀ H', M H' → ∃ m', m' < m ∧ W (i + 1) m' H') ∧ ∀ x H', J.yld i H x H' → g x (wipe σ vs) H' fun τ H1 => wipe τ vs = wipe σ vs ∧ tt τ H1 fun y H2 => if y = true then b τ H2 M else M H2)
def tCl (wi : TI) (g : TG) (tt : TT) (vs : List Nat) (b : TB) : TB := fun σ H N => wi σ H fun J H1 => ∃ W : Nat → Nat → Hp → Prop, (∃ m, W 0 m H1) ∧ tTurn J g tt vs b σ W N
section
variable {X : Cx} {s0 : Shared} {H0 : Hp} {sc : Scope} {ce : Env} {fp : List Addr}
abbrev Bk (X : Cx) (s0 : Shared) (H0 : Hp) (sc : Scope) (ce : Env) (fp : List Addr) : Cx := X.blk s0 H0 sc ce fp
/-- what the body of a clause does, and which slots it forgets -/
def Does (X : Cx) (s0 : Shared) (H0 : Hp) (sc : Scope) (ce : Env) (fp : List Addr) (body : Sem Unit) (t : TB) (us : List Nat) : Prop :=
  ∀ (pins : List (Addr × Obj)) (s : Shared) (σ : L2.St) (H : Hp) (N : Hp → Prop), Inv (Bk X s0 H0 sc ce fp) pins σ H s → t σ H N →
    wpAny (model X.prog X.w) X.A body (fun _ s' => ∃ H', Inv (Bk X s0 H0 sc ce fp) pins (wipe σ us) H' s' ∧ N H') no s
theorem does_push {ex : Expr} {te : TE} {D : Addr} (pe : PE (Bk X s0 H0 sc ce fp) ex te) : Does X s0 H0 sc ce fp (pushOf ex ce (.ref D)) (tPush te D) [] := by
  intro pins s σ H N I h
  unfold pushOf
  refine wpAny_bind (thnF (pe.run pins s σ H _ I h) fun z s1 ⟨y, H1, I1, r, l, hl, hz, n⟩ => ?_)
  exact wpAny_bind (thnF (app_ok (E := no) (X := Bk X s0 H0 sc ce fp) (Q := fun _ s' => ∃ H', Inv (Bk X s0 H0 sc ce fp) pins (wipe σ []) H' s' ∧ N H') I1 hl hz r fun s2 I2 => ⟨_, I2, n⟩) fun _ s2 q => wpAny_pure q)
theorem level {ex : Expr} {gs : List Comprehension} {sb : Scope} {pos : Pos} {k : Nat} {tg : Expr} {ps : Pos} {fs : List Expr} {acc : Value} {body : Sem Unit} {g : TG} {tt : TT} {b : TB} {vs us : List Nat} (hc : X.calm = true) (te : ∀ it, compTurn (.ListComp ex gs sb pos) k it acc ce = turnOf (.ListComp ex gs sb pos) k tg ps fs ce acc body it)
    (pg : PG (Bk X s0 H0 sc ce fp) tg g) (pt : PTs (Bk X s0 H0 sc ce fp) fs tt) (bd : Does X s0 H0 sc ce fp body b us) (sub : ∀ i ∈ us, i ∈ vs)
    {pins : List (Addr × Obj)} {s : Shared} {σ : L2.St} {H : Hp} {N : Hp → Prop} {it : Addr} {fq : List Addr} {tn : Nat → Heap → Prop} {J : It} {W : Nat → Nat → Hp → Prop} {m : Nat} {R : Result → Shared → Prop}
    (I : Inv (Bk X s0 H0 sc ce fp) pins σ H s) (T : Turn X.prog X.w X.K tg J fq it tn) (st : tn 0 s.heap) (fo : ∀ b ∈ fq, FpOk (Bk X s0 H0 sc ce fp) pins H b) (w0 : W 0 m H) (tu : tTurn J g tt vs b σ W N)
    (fin : ∀ s' H', Inv (Bk X s0 H0 sc ce fp) pins (wipe σ vs) H' s' → N H' → R (.ok .next) s') :
    codeAny (model X.prog X.w) X.A (.compLoop (.ListComp ex gs sb pos) k (.ref it) acc ce) R s := by
  have fok : ∀ {H' : Hp}, (∀ b ∈ fq, H' b = none) → ∀ b ∈ fq, FpOk (Bk X s0 H0 sc ce fp) pins H' b := fun hn b hb => ⟨hn b hb, (fo b hb).2⟩
  refine loopAny (te _) (fun n s' => ∃ i H', Inv (Bk X s0 H0 sc ce fp) pins (wipe σ vs) H' s' ∧ tn i s'.heap ∧ (∀ b ∈ fq, H' b = none) ∧ W i n H') ?_ m ⟨0, H, I.weak (wipe_length _ _) (fun j v e => (wipe_some e).1), st, fun b hb => (fo b hb).1, w0⟩
  rintro n s1 ⟨i, H1, I1, st1, n1, w1⟩
  rcases tu i n H1 w1 with ⟨stop, nn⟩ | ⟨go, M, hM, step⟩
  · refine thnF (T.done (Bk X s0 H0 sc ce fp) rfl rfl rfl hc i _ s1 _ H1 no I1 (fok n1) st1 stop) fun r s2 ⟨hr, I2⟩ => ?_
    subst hr
    exact fin s2 H1 I2 nn
  · refine thnF (T.item (Bk X s0 H0 sc ce fp) rfl rfl rfl hc i _ s1 _ H1 no I1 (fok n1) st1 go) fun r s2 ⟨u, hr, h2⟩ => ?_
    subst hr
    refine thnF h2 fun _ s3 ⟨x, H3, I3, r3, y3, st3, n3⟩ => ?_
    have I3' := I3.pinned (fok n3) (T.obj _ _ st3)
    refine thnF (pg.run _ s3 _ H3 x u _ I3' r3 (step x H3 y3)) fun _ s4 ⟨τ, H4, I4, hw, q4⟩ => ?_
    refine thnF (pt.run _ s4 τ H4 _ I4 q4) fun ok s5 ⟨H5, I5, q5⟩ => ?_
    have ended : ∀ {s' : Shared} {H' : Hp}, Inv (Bk X s0 H0 sc ce fp) (pins ++ pinsAt fq s3.heap) (wipe τ us) H' s' → M H' → ∃ m, m < n ∧ ∃ i H', Inv (Bk X s0 H0 sc ce fp) pins (wipe σ vs) H' s' ∧ tn i s'.heap ∧ (∀ b ∈ fq, H' b = none) ∧ W i m H' := fun {s' H'} I' mm => by
      obtain ⟨m', hm, w'⟩ := hM H' mm
      have kp : ∀ b ∈ fq, ∀ o, s3.heap.get? b = some o → s'.heap.get? b = some o ∧ H' b = none := fun b hb o e =>
        have z := I'.pin (b, o) (List.mem_append_right _ (List.mem_append_right _ (mem_pinsAt hb e)))
        ⟨z.1, z.2.1⟩
      refine ⟨m', hm, i + 1, H', I'.unpinned.weak (by rw [wipe_length, wipe_length, ← wipe_length τ vs, hw, wipe_length]) (fun j v e => ?_), T.keep _ _ _ st3 fun b hb o e => (kp b hb o e).1, fun b hb => ?_, w'⟩
      · rw [← hw] at e
        obtain ⟨e1, e2⟩ := wipe_some e
        rw [wipe_out fun z => e2 (sub j z)]
        exact e1
      · obtain ⟨o, e, _⟩ := T.obj _ _ st3 b hb
        exact (kp b hb o e).2
    cases ok with
    | false =>
      simp only [Bool.false_eq_true, if_false] at q5 ⊢
      exact ended (I5.weak (wipe_length _ _) fun j v e => (wipe_some e).1) q5
    | true =>
      simp only [if_true] at q5 ⊢
      exact thnF (bd _ s5 τ H5 _ I5 q5) fun _ s6 ⟨H6, I6, q6⟩ => ended I6 q6
theorem does_next {ex : Expr} {gs : List Comprehension} {sb : Scope} {pos : Pos} {k : Nat} {tg ix : Expr} {ps : Pos} {fs : List Expr} {D : Addr} {body : Sem Unit} {wi : TI} {g : TG} {tt : TT} {b : TB} {vs us : List Nat} (hc : X.calm = true) (hce : (Bk X s0 H0 sc ce fp).env = ce)
    (te : ∀ it, compTurn (.ListComp ex gs sb pos) k it (.ref D) ce = turnOf (.ListComp ex gs sb pos) k tg ps fs ce (.ref D) body it)
    (cs : ∀ {it : Value} {R : Result → Shared → Prop} {s : Shared}, codeAny (model X.prog X.w) X.A (.compLoop (.ListComp ex gs sb pos) k it (.ref D) ce) R s → wpAny (model X.prog X.w) X.A (pyIter it) (fun it' s' => codeAny (model X.prog X.w) X.A (.compLoop (.ListComp ex gs sb pos) k it' (.ref D) ce) R s') no s → codeAny (model X.prog X.w) X.A (.compStart (.ListComp ex gs sb pos) k it (.ref D) ce) R s)
    (fo : ∀ x, foldedSetIterable ix ce x = pure x) (pi : PI (Bk X s0 H0 sc ce fp) tg ix wi) (pg : PG (Bk X s0 H0 sc ce fp) tg g) (pt : PTs (Bk X s0 H0 sc ce fp) fs tt) (bd : Does X s0 H0 sc ce fp body b us) (sub : ∀ i ∈ us, i ∈ vs) :
    Does X s0 H0 sc ce fp (nextOf (.ListComp ex gs sb pos) k ix ce (.ref D)) (tCl wi g tt vs b) vs := by
  intro pins s σ H N I h
  unfold nextOf
  refine wpAny_bind (thnF (pi.run pins s σ H _ I h) fun xv s1 hx => ?_)
  refine wpAny_bind (wpAny_standAt (wpAny_bind (wpAny_of_eq (fo xv) (wpAny_bind (wpAny_holding (thnF hx fun itv s2 h2 => ?_))))))
  obtain ⟨it, fq, tn, J, H2, rfl, I2, T, st2, f2, W, ⟨m, w0⟩, tu⟩ := h2
  refine wpAny_bind (wpAny_runOwn ?_)
  rw [Around.mark_none]
  have lp : codeAny (model X.prog X.w) X.A (.compLoop (.ListComp ex gs sb pos) k (.ref it) (.ref D) ce) (fun r s' => match r with
      | .ok _ => ∃ H', Inv (Bk X s0 H0 sc ce fp) pins (wipe σ vs) H' s' ∧ N H'
      | .error _ => False) s2 := level hc te pg pt bd sub I2 T st2 f2 w0 tu fun s' H' I' n => ⟨H', I', n⟩
  refine codeAny_mono (cs lp (T.self X.A 0 _ _ _ st2 lp)) fun r s' hr => ?_
  cases r with
  | ok f => exact wpAny_pure hr
  | error e => exact hr.elim
end
section
variable {P : Program} {w : World} {A : Around} {R : Result → Shared → Prop} {s : Shared} {ex t0 i0 t1 i1 t2 i2 : Expr} {f0 f1 f2 : List Expr} {sc : Scope} {pos : Pos} {it acc : Value} {env : Env}
theorem start1 (h0 : codeAny (model P w) A (.compLoop (lc3 ex t0 i0 t1 i1 t2 i2 f0 f1 f2 sc pos) 1 it acc env) R s)
    (h : wpAny (model P w) A (pyIter it) (fun it' s' => codeAny (model P w) A (.compLoop (lc3 ex t0 i0 t1 i1 t2 i2 f0 f1 f2 sc pos) 1 it' acc env) R s') no s) :
    codeAny (model P w) A (.compStart (lc3 ex t0 i0 t1 i1 t2 i2 f0 f1 f2 sc pos) 1 it acc env) R s := by
  refine codeAny_of_tree ?_
  show wpAny _ _ ((compStart (lc3 ex t0 i0 t1 i1 t2 i2 f0 f1 f2 sc pos) 1 it acc env).onRaise (fun x => do noteFrame x env; standAt theWindowsPlace)) _ _ s
  refine wpAny_notedAt ?_
  unfold compStart
  show wpAny _ _ (ask >>= _) _ _ s
  refine wpAny_bind (wpAny_askSetting (wpAny_ite ?_))
  split
  · first
      | exact wpAny_bind (wpAny_pure (wpAny_pure ⟨rfl, h0⟩))
      | exact wpAny_pure ⟨rfl, h0⟩
  · refine wpAny_bind (wpAny_rule ?_)
    show wpAny _ _ (standAt i1.pos >>= _) _ _ s
    exact wpAny_bind (wpAny_standAt (wpAny_bind (thnF h fun it' s' h' => wpAny_pure ⟨rfl, h'⟩)))
theorem start2 (h0 : codeAny (model P w) A (.compLoop (lc3 ex t0 i0 t1 i1 t2 i2 f0 f1 f2 sc pos) 2 it acc env) R s)
    (h : wpAny (model P w) A (pyIter it) (fun it' s' => codeAny (model P w) A (.compLoop (lc3 ex t0 i0 t1 i1 t2 i2 f0 f1 f2 sc pos) 2 it' acc env) R s') no s) :
    codeAny (model P w) A (.compStart (lc3 ex t0 i0 t1 i1 t2 i2 f0 f1 f2 sc pos) 2 it acc env) R s := by
  refine codeAny_of_tree ?_
  show wpAny _ _ ((compStart (lc3 ex t0 i0 t1 i1 t2 i2 f0 f1 f2 sc pos) 2 it acc env).onRaise (fun x => do noteFrame x env; standAt theWindowsPlace)) _ _ s
  refine wpAny_notedAt ?_
  unfold compStart
  show wpAny _ _ (ask >>= _) _ _ s
  refine wpAny_bind (wpAny_askSetting (wpAny_ite ?_))
  split
  · first
      | exact wpAny_bind (wpAny_pure (wpAny_pure ⟨rfl, h0⟩))
      | exact wpAny_pure ⟨rfl, h0⟩
  · refine wpAny_bind (wpAny_rule ?_)
    show wpAny _ _ (standAt i2.pos >>= _) _ _ s
    exact wpAny_bind (wpAny_standAt (wpAny_bind (thnF h fun it' s' h' => wpAny_pure ⟨rfl, h'⟩)))
end
section
variable {X : Cx}
def tLc3 (wi : TI) (g : TG) (tt : TT) (b : Addr → TB) (ws : List Nat) : TE := fun σ H Q => wi σ H fun J H1 => ∀ D, H1 D = none → ∃ W : Nat → Nat → Hp → Prop, (∃ m, W 0 m (upd H1 D (.lst []))) ∧ tTurn J g tt ws (b D) (wipe σ ws) W fun H' => Q (.ref D) H'
theorem pe_lc3 {ex t0 i0 t1 i1 t2 i2 : Expr} {f0 f1 f2 : List Expr} {scope : Scope} {pos : Pos} {own : List (Str × Nat)} {v1 v2 : List Nat} {w0 w1 w2 : TI} {g0 g1 g2 : TG} {e0 e1 e2 : TT} {te : TE} (hc : X.calm = true) (hN : X.N.Nodup) (hi : PI X t0 i0 w0)
    (ok : BlkOk X.N X.env.scope scope own) (sub1 : ∀ i ∈ v1, i ∈ own.map (·.2)) (sub2 : ∀ i ∈ v2, i ∈ v1)
    (hg : ∀ (s : Shared) (H : Hp) (C : Addr) (cl : List (Str × Addr)) (fp : List Addr), PG (X.blk s H scope (compEnvC scope cl C X.env) fp) t0 g0) (ht : ∀ (s : Shared) (H : Hp) (C : Addr) (cl : List (Str × Addr)) (fp : List Addr), PTs (X.blk s H scope (compEnvC scope cl C X.env) fp) f0 e0) (hi1 : ∀ (s : Shared) (H : Hp) (C : Addr) (cl : List (Str × Addr)) (fp : List Addr), PI (X.blk s H scope (compEnvC scope cl C X.env) fp) t1 i1 w1) (hg1 : ∀ (s : Shared) (H : Hp) (C : Addr) (cl : List (Str × Addr)) (fp : List Addr), PG (X.blk s H scope (compEnvC scope cl C X.env) fp) t1 g1) (ht1 : ∀ (s : Shared) (H : Hp) (C : Addr) (cl : List (Str × Addr)) (fp : List Addr), PTs (X.blk s H scope (compEnvC scope cl C X.env) fp) f1 e1)
    (hi2 : ∀ (s : Shared) (H : Hp) (C : Addr) (cl : List (Str × Addr)) (fp : List Addr), PI (X.blk s H scope (compEnvC scope cl C X.env) fp) t2 i2 w2) (hg2 : ∀ (s : Shared) (H : Hp) (C : Addr) (cl : List (Str × Addr)) (fp : List Addr), PG (X.blk s H scope (compEnvC scope cl C X.env) fp) t2 g2) (ht2 : ∀ (s : Shared) (H : Hp) (C : Addr) (cl : List (Str × Addr)) (fp : List Addr), PTs (X.blk s H scope (compEnvC scope cl C X.env) fp) f2 e2) (he : ∀ (s : Shared) (H : Hp) (C : Addr) (cl : List (Str × Addr)) (fp : List Addr), PE (X.blk s H scope (compEnvC scope cl C X.env) fp) ex te)
    (fs0 : ∀ x, foldedSetIterable i0 X.env x = pure x := by intro _; rfl) (fs1 : ∀ env x, foldedSetIterable i1 env x = pure x := by intro _ _; rfl) (fs2 : ∀ env x, foldedSetIterable i2 env x = pure x := by intro _ _; rfl) :
    PE X (lc3 ex t0 i0 t1 i1 t2 i2 f0 f1 f2 scope pos) (tLc3 w0 g0 e0 (fun D => tCl w1 g1 e1 v1 (tCl w2 g2 e2 v2 (tPush te D))) (own.map (·.2))) := by
  refine ⟨fun pins s σ H Q I h => ?_⟩
  rw [eval_ListComp]
  have fre : ∀ y ∈ scope.names, y.2 = .free → ∃ c, X.env.cells.lookup y.1 = some c := fun y hy e => by
    rcases ok.free y hy e with z | z
    · exact I.ok.has _ (.inl z)
    · exact I.ok.has _ (.inr z)
  refine wpAny_comprehension_free (use := none) rfl fs0 (closure_ok fre) ok.kind (fun y hy e => by rw [ok.uniq y hy, e]) (thn (hi.run pins s σ H _ I h) fun xv s1 hx => thn hx fun itv s2 h2 => ?_)
  obtain ⟨it, fp, tn, J, H2, rfl, I2, T, st2, f2', q⟩ := h2
  refine wpAny_newObj_type (newEnv_comp ?_) (by show 0 ≤ sizeLine; decide)
  obtain ⟨D, hD⟩ : ∃ D, D = s2.heap.objs.size := ⟨_, rfl⟩
  rw [← hD]
  obtain ⟨W, ⟨m0, wz⟩, turn⟩ := q D (I2.hok.fresh (by rw [hD]; exact Nat.le_refl _))
  obtain ⟨nl, hnl⟩ : ∃ nl : Obj, nl = { cls := .type "list", data := .seq ([] : List Value).toArray } := ⟨_, rfl⟩
  rw [← hnl]
  obtain ⟨s3, hs3⟩ : ∃ s3 : Shared, s3 = { s2 with heap := s2.heap.push nl } := ⟨_, rfl⟩
  have I3 : Inv X pins σ (upd H2 D (.lst [])) s3 := by
    rw [hs3]
    refine I2.laid (t' := s2.toks) (fun b o e => Heap.get?_push_of_some _ e) (by rw [hD]; exact Nat.le_refl _) ⟨Nat.zero_le _, [], 0, .nil, ?_⟩
    rw [hD, hnl]
    exact Heap.get?_push_size _ rfl
  have lt2 : ∀ b ∈ fp, b < s2.heap.objs.size := fun b hb => by
    obtain ⟨o, e, _⟩ := T.obj _ _ st2 b hb
    exact Heap.lt_size e
  have f3 : ∀ b ∈ fp, FpOk X pins (upd H2 D (.lst [])) b ∧ b < s3.heap.objs.size := fun b hb => by
    have z := lt2 b hb
    refine ⟨⟨?_, (f2' b hb).2⟩, by rw [hs3]; show b < (s2.heap.push nl).objs.size; rw [Heap.size_push]; exact Nat.lt_succ_of_lt z⟩
    rw [upd_ne (by rw [hD]; exact Nat.ne_of_lt z)]
    exact (f2' b hb).1
  have st3 : tn 0 s3.heap := T.keep _ _ _ st2 fun b _ o e => by
    rw [hs3]
    exact Heap.get?_push_of_some _ e
  have I4 := block_start I3 ok hN f3
  obtain ⟨cl, hcl⟩ : ∃ cl, cl = cellsFrom (s3.heap.objs.size + 1) scope.names (cloFrom X.env.cells scope.names []) := ⟨_, rfl⟩
  obtain ⟨H3, hH3⟩ : ∃ H3, H3 = upd H2 D (.lst []) := ⟨_, rfl⟩
  obtain ⟨ce, hce⟩ : ∃ ce, ce = compEnvC scope cl s3.heap.objs.size X.env := ⟨_, rfl⟩
  obtain ⟨s4, hs4⟩ : ∃ s4 : Shared, s4 = { s3 with heap := pushCells (s3.heap.push { cls := .type "dict", data := .dict #[] }) scope.names } := ⟨_, rfl⟩
  have cL : ce.locals = s3.heap.objs.size := by
    rw [hce]
    rfl
  have st4 : tn 0 s4.heap := T.keep _ _ _ st3 fun b _ o e => by
    rw [hs4]
    exact pushCells_keeps _ _ _ _ (Heap.get?_push_of_some _ e)
  have p0 := hg s3 H3 s3.heap.objs.size cl fp
  have p1 := ht s3 H3 s3.heap.objs.size cl fp
  have p2 := hi1 s3 H3 s3.heap.objs.size cl fp
  have p3 := hg1 s3 H3 s3.heap.objs.size cl fp
  have p4 := ht1 s3 H3 s3.heap.objs.size cl fp
  have p5 := hi2 s3 H3 s3.heap.objs.size cl fp
  have p6 := hg2 s3 H3 s3.heap.objs.size cl fp
  have p7 := ht2 s3 H3 s3.heap.objs.size cl fp
  have p8 := he s3 H3 s3.heap.objs.size cl fp
  rw [← hcl, ← hH3, ← hce, ← hs4] at I4
  rw [← hce] at p0 p1 p2 p3 p4 p5 p6 p7 p8
  rw [← hH3] at I3 f3 wz
  have stat : ∀ b ∈ fp, FpOk (Bk X s3 H3 scope ce fp) [] H3 b := fun b hb =>
    ⟨(f3 b hb).1.1, (I4.ok.exf b hb).1, I4.ok.exfs b hb, .inl hb, fun x c e => (I4.ok.exf b hb).2 x c e, fun p hp => absurd (show p ∈ ([] : List (Addr × Obj)) ++ [] from hp) (by simp)⟩
  have d2 := does_push (D := D) p8
  have d1 := does_next (D := D) (body := pushOf ex ce (.ref D)) hc rfl (fun it => turn2 (ex := ex) (t0 := t0) (i0 := i0) (t1 := t1) (i1 := i1) (t2 := t2) (i2 := i2) (f2 := f2) (f0 := f0) (f1 := f1) (sc := scope) (pos := pos)) start2 (fs2 ce) p5 p6 p7 d2 (vs := v2) (fun i hi => nomatch hi)
  have d0 := does_next (D := D) hc rfl (fun it => turn1 (ex := ex) (t0 := t0) (i0 := i0) (t1 := t1) (i1 := i1) (f1 := f1) (t2 := t2) (i2 := i2) (f0 := f0) (f2 := f2) (sc := scope) (pos := pos)) start1 (fs1 ce) p2 p3 p4 d1 (vs := v1) sub2
  have loop : codeAny (model X.prog X.w) X.A (.compLoop (lc3 ex t0 i0 t1 i1 t2 i2 f0 f1 f2 scope pos) 0 (.ref it) (.ref D) ce) (compPost (model X.prog X.w) X.A X.xe none (EP X pins σ Q) (.ref D) s3.heap.objs.size) s4 := by
    refine level hc (fun it => turn0) p0 p1 d0 sub1 I4 T st4 stat wz turn fun s6 H6 I6 nn => ?_
    have I7 : Inv X pins σ H6 s6 := I3.call' (ch := fp) I6.os I6.base I6.hok I6.bare fun b hb => ⟨(f3 b hb).1.2.2.2.1, (f3 b hb).1.2.1, (f3 b hb).1.2.2.2.2.1, (f3 b hb).1.2.2.2.2.2⟩
    have nC : H6 s3.heap.objs.size = none := by
      rw [← cL]
      exact I6.free
    obtain ⟨m, hn, _⟩ := I6.loc
    have hn : s6.heap.Ns ce.locals m := hn
    rw [cL] at hn
    refine ⟨m, hn, fun h'' sb => ?_⟩
    obtain ⟨y0, y1, y2, y3, y4, y5⟩ := I3.fpOk (Nat.le_refl _) nC
    exact ⟨.ref D, H6, I7.turned (t' := s6.toks) (fun b o hb e => (sb.2 b hb).trans e) y0 y1 y3 y4 y5, rfl, nn⟩
  have done := codeAny_compStart_list loop (T.self X.A 0 _ _ _ st4 loop)
  rw [hce, hcl, hs4, hs3] at done
  exact done
end
end C3
namespace CC
open PySem L2
/-! ### a list that is being made at D, its items seen through a view of the heap that D is not part of -/
section
variable {K : PySem.W.Frag} {D : Addr} {H0 H H' : Hp} {Vw : Hp → Hp} {G : Hp → Prop} {P : Nat → List PyData → Prop} {i : Nat} {us : List V} {ds : List PyData}
structure Made (K : PySem.W.Frag) (Vw : Hp → Hp) (G : Hp → Prop) (P : Nat → List PyData → Prop) (H0 : Hp) (D : Addr) (i : Nat) (H : Hp) (us : List V) (ds : List PyData) : Prop where
  same : Same (Vw H0) (Vw H)
  more : G H
  lst : H D = some (.lst us)
  dat : DpAll K (Vw H) us ds
  inv : P i ds
  len : us.length ≤ i
def MadeI (K : PySem.W.Frag) (Vw : Hp → Hp) (G : Hp → Prop) (P : Nat → List PyData → Prop) (H0 : Hp) (D : Addr) (i : Nat) (H : Hp) : Prop := ∃ us ds, Made K Vw G P H0 D i H us ds
theorem Made.start (v1 : ∀ H o, Vw (upd H D o) = Vw H) (v3 : ∀ H o, G H → G (upd H D o)) (g0 : G H0) (p0 : P 0 []) : MadeI K Vw G P H0 D 0 (upd H0 D (.lst [])) :=
  ⟨[], [], by rw [v1]; exact Same.refl _, v3 _ _ g0, upd_same, .nil, p0, Nat.le_refl _⟩
theorem Made.push (p : Made K Vw G P H0 D i H us ds) (h9 : i < 100000) (v1 : ∀ H o, Vw (upd H D o) = Vw H) (v3 : ∀ H o, G H → G (upd H D o)) {y : V} {d : PyData} {j : Nat} (hj : i < j) (q1 : Dp K (Vw H') y d) (q2 : P j (ds ++ [d])) (q3 : Same (Vw H) (Vw H')) (q4 : H' D = H D) (q5 : G H') :
    ∃ acc, H' D = some (.lst acc) ∧ acc.length < sizeLine ∧ MadeI K Vw G P H0 D j (upd H' D (.lst (acc ++ [y]))) := by
  refine ⟨us, q4.trans p.lst, Nat.lt_of_le_of_lt p.len (Nat.lt_of_lt_of_le h9 (by decide)), us ++ [y], ds ++ [d], ?_, v3 _ _ q5, upd_same, ?_, q2, by rw [List.length_append]; exact Nat.le_trans (Nat.succ_le_succ p.len) hj⟩
  · rw [v1]
    exact p.same.trans q3
  · rw [v1]
    exact dps_app (dps_same q3 _ _ p.dat) (dps_one q1)
theorem Made.skip (p : Made K Vw G P H0 D i H us ds) {j : Nat} (hj : i ≤ j) (q2 : P j ds) (q3 : Same (Vw H) (Vw H')) (q4 : H' D = H D) (q5 : G H') : MadeI K Vw G P H0 D j H' :=
  ⟨us, ds, p.same.trans q3, q5, q4.trans p.lst, dps_same q3 _ _ p.dat, q2, Nat.le_trans p.len hj⟩
end
/-! the plain view: the heap without D -/
abbrev Tr : Hp → Prop := fun _ => True
abbrev MadeP (K : PySem.W.Frag) (P : Nat → List PyData → Prop) (H0 : Hp) (D : Addr) (i : Nat) (H : Hp) : Prop := MadeI K (fun H => wo H D) Tr P H0 D i H
section
variable {K : PySem.W.Frag} {D : Addr} {H0 H H' : Hp} {P : Nat → List PyData → Prop} {i : Nat} {us : List V} {ds : List PyData}
theorem madeP_push (p : Made K (fun H => wo H D) Tr P H0 D i H us ds) (h9 : i < 100000) {y : V} {d : PyData} {j : Nat} (hj : i < j) (q3 : Same H H') (q1 : Dp K (wo H' D) y d) (q2 : P j (ds ++ [d])) :
    ∃ acc, H' D = some (.lst acc) ∧ acc.length < sizeLine ∧ MadeP K P H0 D j (upd H' D (.lst (acc ++ [y]))) :=
  p.push h9 (fun H o => wo_upd D o) (fun _ _ z => z) hj q1 q2 (wo_same q3) ((q3 _ _ p.lst).trans p.lst.symm) trivial
/-- what stood before the list, still stands -/
theorem Made.old (p : Made K (fun H => wo H D) Tr P H0 D i H us ds) (n : H0 D = none) : Same H0 H := fun b o e => wo_le D _ _ (p.same b o (by rw [wo_ne (ne_of_none e n)]; exact e))
/-- a new tuple in the view -/
theorem tup_new {t : Addr} {xs : List V} {u : HO} (hD : H D = some u) (n : H t = none) : SqT K (wo (upd H t (.tup xs)) D) t xs := by
  have ne : t ≠ D := (ne_of_none hD n).symm
  rw [wo_upd_ne _ ne]
  exact .inl (.inl upd_same)
/-- the made list, whole -/
theorem Made.dp (p : Made K (fun H => wo H D) Tr P H0 D i H us ds) : Dp K H (.ref D) (.list ds) := .lst (.inl (.inl p.lst)) (dps_same (wo_le D) _ _ p.dat)
end
theorem yes_if {σ : L2.St} {H : Hp} {A B : Hp → Prop} (h : A H) : tYes σ H fun y H3 => if y = true then A H3 else B H3 := by
  show if true = true then A H else B H
  exact iteT h
/-! ### the columns 0 .. z - 1 as values -/
def cols (z : Nat) : List V := (List.range z).map fun (i : Nat) => V.int (i : Int)
theorem cols_len (z : Nat) : (cols z).length = z := by rw [cols, List.length_map, List.length_range]
theorem cols_at {z i : Nat} {x : V} (h : (cols z)[i]? = some x) : i < z ∧ x = .int (i : Int) := by
  rw [cols, List.getElem?_map] at h
  by_cases hi : i < z
  · rw [List.getElem?_range hi] at h
    exact ⟨hi, (Option.some.inj h).symm⟩
  · rw [List.getElem?_eq_none (by rw [List.length_range]; omega)] at h
    cases h
theorem cols_rg (z : Nat) : rgV 0 (z : Int) = cols z := by
  unfold rgV cols
  rw [show ((z : Int) - 0).toNat = z by omega]
  refine List.map_congr_left fun i _ => ?_
  rw [Int.zero_add]
/-! ### all rules for a width -/
def row (w a : Nat) (k : Bool) : List R := ((List.range w).filter fun b => decide (a ≠ b)).map fun b => ⟨k, a, b⟩
def allR (w : Nat) : List R := [true, false].flatMap fun k => (List.range w).flatMap fun a => row w a k
end CC
namespace CC
open PySem L2
def spEvery (K : PySem.W.Frag) : Sp := fun vs H Q _ => ∃ w : Nat, vs = [.int (w : Int)] ∧ w ≤ 6 ∧ ∀ (p : Addr) (us : List V) (H' : Hp), Same H H' → H p = none → H' p = some (.lst us) → DpAll K (wo H' p) us ((allR w).map R.d) → Q (.ref p) H'
theorem row_step (w a : Nat) (k : Bool) (j : Nat) (hj : j < w) : ((List.range (j + 1)).filter fun b => decide (a ≠ b)) = ((List.range j).filter fun b => decide (a ≠ b)) ++ (if a = j then [] else [j]) := by
  rw [List.range_succ, List.filter_append]
  by_cases h : a = j
  · simp [h]
  · simp [h]
/-- a list of rules that is being made at D -/
def MadeR (K : PySem.W.Frag) (H0 : Hp) (D : Addr) (n : Nat) (H : Hp) (rs : List R) : Prop := ∃ us, Made K (fun H => wo H D) Tr (fun _ _ => True) H0 D n H us (rs.map R.d)
theorem MadeR.up {K : PySem.W.Frag} {H0 H : Hp} {D : Addr} {n m : Nat} {rs rs' : List R} (p : MadeR K H0 D n H rs) (h : n ≤ m) (e : rs = rs') : MadeR K H0 D m H rs' := by
  obtain ⟨us, p⟩ := p
  subst e
  exact ⟨us, p.same, trivial, p.lst, p.dat, trivial, Nat.le_trans p.len h⟩
theorem MadeR.start {K : PySem.W.Frag} {H0 : Hp} {D : Addr} : MadeR K H0 D 0 (upd H0 D (.lst [])) [] := by
  refine ⟨[], ?_, trivial, upd_same, .nil, trivial, Nat.le_refl _⟩
  show Same (wo H0 D) (wo (upd H0 D (.lst [])) D)
  rw [wo_upd]
  exact Same.refl _
theorem MadeR.push {K : PySem.W.Frag} {H0 H H' : Hp} {D : Addr} {n m : Nat} {rs : List R} {r : R} {y : V} (p : MadeR K H0 D n H rs) (h9 : n < 100000) (hm : n < m) (q3 : Same H H') (q1 : Dp K (wo H' D) y r.d) :
    ∃ acc, H' D = some (.lst acc) ∧ acc.length < sizeLine ∧ MadeR K H0 D m (upd H' D (.lst (acc ++ [y]))) (rs ++ [r]) := by
  obtain ⟨us, p⟩ := p
  obtain ⟨acc, a1, a2, us', ds', p'⟩ := madeP_push (j := m) p h9 hm q3 q1 trivial
  refine ⟨acc, a1, a2, us ++ [y], ?_, trivial, ?_, ?_, trivial, ?_⟩
  · show Same (wo H0 D) (wo (upd H' D (.lst (acc ++ [y]))) D)
    rw [wo_upd]
    exact p.same.trans (wo_same q3)
  · have e : some (HO.lst acc) = some (HO.lst us) := a1.symm.trans (q3 _ _ p.lst)
    cases e
    exact upd_same
  · show DpAll K (wo (upd H' D (.lst (acc ++ [y]))) D) _ _
    rw [wo_upd, List.map_append]
    exact dps_app (dps_same (wo_same q3) _ _ p.dat) (dps_one q1)
  · rw [List.length_append]
    exact Nat.le_trans (Nat.succ_le_succ p.len) hm
theorem MadeR.old {K : PySem.W.Frag} {H0 H : Hp} {D : Addr} {n : Nat} {rs : List R} (p : MadeR K H0 D n H rs) (h : H0 D = none) : Same H0 H := by
  obtain ⟨us, p⟩ := p
  exact p.old h
section
variable {P : Program} {w : World} {K : PySem.W.Frag} {mg : Str → Option Value} {base : Heap} {kA : Addr}
/-- a walk over a list, a clause of a comprehension -/
theorem turn_list {a : Addr} {xs : List V} {g : TG} {tt : TT} {vs : List Nat} {b : C3.TB} {σ : L2.St} {N : Hp → Prop} {H1 : Hp} (Pv : Nat → Hp → Prop) (h0 : Pv 0 H1) (hl : ∀ i H, i ≤ xs.length → Pv i H → SqL K H a xs)
    (hs : ∀ i x H, xs[i]? = some x → Pv i H → g x (wipe σ vs) H fun τ H2 => wipe τ vs = wipe σ vs ∧ tt τ H2 fun y H3 => if y = true then b τ H3 (Pv (i + 1)) else Pv (i + 1) H3) (hd : ∀ H, Pv xs.length H → N H) :
    ∃ W : Nat → Nat → Hp → Prop, (∃ m, W 0 m H1) ∧ C3.tTurn (Itl K a) g tt vs b σ W N := by
  refine ⟨fun i m H => m = xs.length - i ∧ i ≤ xs.length ∧ Pv i H, ⟨xs.length, by simp, Nat.zero_le _, h0⟩, ?_⟩
  rintro i m H ⟨rfl, hi, p⟩
  have q := hl i H hi p
  by_cases lt : i < xs.length
  · refine .inr ⟨⟨xs, xs[i], q, by simp [lt]⟩, Pv (i + 1), fun H' p' => ⟨xs.length - (i + 1), by omega, rfl, lt, p'⟩, fun x H' y => ?_⟩
    obtain ⟨e, y⟩ := y
    subst e
    exact hs i x _ (y xs q) p
  · have e : i = xs.length := by omega
    subst e
    exact .inl ⟨⟨xs, q, Nat.le_refl _⟩, hd H p⟩
theorem turn_tup {a : Addr} {xs : List V} {g : TG} {tt : TT} {vs : List Nat} {b : C3.TB} {σ : L2.St} {N : Hp → Prop} {H1 : Hp} (Pv : Nat → Hp → Prop) (h0 : Pv 0 H1) (hl : ∀ i H, i ≤ xs.length → Pv i H → SqT K H a xs)
    (hs : ∀ i x H, xs[i]? = some x → Pv i H → g x (wipe σ vs) H fun τ H2 => wipe τ vs = wipe σ vs ∧ tt τ H2 fun y H3 => if y = true then b τ H3 (Pv (i + 1)) else Pv (i + 1) H3) (hd : ∀ H, Pv xs.length H → N H) :
    ∃ W : Nat → Nat → Hp → Prop, (∃ m, W 0 m H1) ∧ C3.tTurn (Itt K a) g tt vs b σ W N := by
  refine ⟨fun i m H => m = xs.length - i ∧ i ≤ xs.length ∧ Pv i H, ⟨xs.length, by simp, Nat.zero_le _, h0⟩, ?_⟩
  rintro i m H ⟨rfl, hi, p⟩
  have q := hl i H hi p
  by_cases lt : i < xs.length
  · refine .inr ⟨⟨xs, xs[i], q, by simp [lt]⟩, Pv (i + 1), fun H' p' => ⟨xs.length - (i + 1), by omega, rfl, lt, p'⟩, fun x H' y => ?_⟩
    obtain ⟨e, y⟩ := y
    subst e
    exact hs i x _ (y xs q) p
  · have e : i = xs.length := by omega
    subst e
    exact .inl ⟨⟨xs, q, Nat.le_refl _⟩, hd H p⟩
theorem scEvery : FnScope ["width", "columns", "kind", "a", "b"] ["width"] (defScope sEvery) := ⟨rfl, rfl, rfl, by decide +kernel, rfl, by decide +kernel, by decide +kernel⟩
theorem ok_every {f : Addr} {fd : FuncData} {k : Nat} (F : Fun K "every_rule" "every_rule" sEvery f fd) (T : Glb K mg kA) : FnOk P w K mg base CX0 (k + 1) f fd ["width"] (spEvery K) := by
  refine F.ok scEvery (fun vs H Q E h => ?_) (fun cdv A outer s H vs Q E hr h => ?_)
  · obtain ⟨z, rfl, _⟩ := h
    rfl
  · obtain ⟨z, rfl, hz, q⟩ := h
    have nd := scEvery.nd
    refine ⟨_, pss_cons (ps_set (i := 1) nd rfl (.inr rfl) (pe_listRg rfl (by rfl) T.lst (prg_1 (by rfl) T.rng (pv 0))))
      (pss_one (ps_ret (C3.pe_lc3 (own := [("kind", 2), ("a", 3), ("b", 4)]) (v1 := [3, 4]) (v2 := [4]) (w1 := iList K (tVar 1)) (w2 := iList K (tVar 1)) rfl nd (pi_tup (pe_glob (v := .ref kA) rfl T.knd rfl)) (blkOk_by (N := ["width", "columns", "kind", "a", "b"]) (sc := defScope sEvery) (by decide +kernel)) (by decide) (by decide)
        (fun _ _ _ _ _ => pg_name (i := 2) nd rfl (.inl rfl)) (fun _ _ _ _ _ => pts_nil)
        (fun _ _ _ _ _ => pi_list (pv 1)) (fun _ _ _ _ _ => pg_name (i := 3) nd rfl (.inl rfl)) (fun _ _ _ _ _ => pts_nil)
        (fun _ _ _ _ _ => pi_list (pv 1)) (fun _ _ _ _ _ => pg_name (i := 4) nd rfl (.inl rfl)) (fun _ _ _ _ _ => pts_one (pt_cmpR op_ne (pv 3) (pv 4) (nomark _)))
        (fun _ _ _ _ _ => pe_tup (pa_cons (pv 2) (pa_cons (pv 3) (pa_cons (pv 4) pa_nil))))))), ?_⟩
    have hk : ∀ H, SqT K H kA [.str "settles", .str "within"] := fun H => .inr T.kseq
    refine ⟨_, rfl, _, rfl, RgOk.of_le (by omega) (by omega) (by omega) (by omega), fun c nc => ?_⟩
    rw [cols_rg]
    have cC : ∀ {H' : Hp}, Same (upd H c (.lst (cols z))) H' → SqL K H' c (cols z) := fun e => .inl (.inl (e _ _ upd_same))
    generalize hH1 : upd H c (.lst (cols z)) = H1 at cC
    have s1 : Same H H1 := by
      rw [← hH1]
      exact same_new nc
    refine ⟨kA, rfl, ⟨_, hk _⟩, fun D nD => ?_⟩
    refine turn_tup (xs := [.str "settles", .str "within"]) (fun i H => MadeR K H1 D (36 * i) H (([true, false].take i).flatMap fun k => (List.range z).flatMap fun a => row z a k)) MadeR.start (fun _ _ _ _ => hk _) ?_ ?_
    · intro i x H2 hx p
      obtain ⟨kk, rfl, hi, tk⟩ : ∃ kk : Bool, x = .str (kd kk) ∧ i < 2 ∧ [true, false].take (i + 1) = [true, false].take i ++ [kk] := by
        match i, hx with
        | 0, hx =>
          simp at hx
          exact ⟨true, hx.symm, by decide, rfl⟩
        | 1, hx =>
          simp at hx
          exact ⟨false, hx.symm, by decide, rfl⟩
        | n + 2, hx => simp at hx
      rw [tk, List.flatMap_append]
      generalize ([true, false].take i).flatMap (fun k => (List.range z).flatMap fun a => row z a k) = pre at p
      refine ⟨rfl, ?_⟩
      refine yes_if ?_
      refine ⟨_, rfl, c, rfl, ⟨_, cC (p.old nD)⟩, ?_⟩
      refine turn_list (xs := cols z) (fun j H => MadeR K H1 D (36 * i + 6 * j) H (pre ++ (List.range j).flatMap fun a => row z a kk)) (p.up (by omega) (by simp)) (fun _ _ _ p => cC (p.old nD)) ?_ ?_
      · intro j y H3 hy p3
        obtain ⟨hj, rfl⟩ := cols_at hy
        refine ⟨rfl, ?_⟩
        refine yes_if ?_
        refine ⟨_, rfl, c, rfl, ⟨_, cC (p3.old nD)⟩, ?_⟩
        refine turn_list (xs := cols z) (fun l H => MadeR K H1 D (36 * i + 6 * j + l) H ((pre ++ (List.range j).flatMap fun a => row z a kk) ++ (((List.range l).filter fun b => decide (j ≠ b)).map fun b => ⟨kk, j, b⟩))) (p3.up (by omega) (by simp)) (fun _ _ _ p => cC (p.old nD)) ?_ ?_
        · intro l v H4 hv p4
          obtain ⟨hl, rfl⟩ := cols_at hv
          refine ⟨rfl, _, rfl, _, rfl, rfl, _, rfl, ?_⟩
          rw [row_step z j kk l hl, List.map_append, ← List.append_assoc]
          by_cases e : j = l
          · have e1 : (!decide (V.int (j : Int) = V.int (l : Int))) = false := by rw [e]; simp
            rw [e1]
            refine iteF (p4.up (by omega) ?_)
            rw [if_pos e]
            simp
          · have e1 : (!decide (V.int (j : Int) = V.int (l : Int))) = true := by
              rw [decide_eq_false (fun q => e (by injection q with q; omega))]
              rfl
            rw [e1, if_neg e]
            refine iteT ⟨_, rfl, _, rfl, _, rfl, (by show 3 ≤ sizeLine; decide), fun t nt => ?_⟩
            obtain ⟨us, p5⟩ := id p4
            exact p4.push (by omega) (by omega) (same_new nt) (r_dp (r := ⟨kk, j, l⟩) (tup_new p5.lst nt))
        · intro H4 p4
          rw [cols_len] at p4
          refine p4.up (by omega) ?_
          rw [List.range_succ, List.flatMap_append]
          simp [row]
      · intro H3 p3
        rw [cols_len] at p3
        refine p3.up (by omega) (by simp)
    · intro H2 p
      obtain ⟨us, p5⟩ := id p
      exact q D us H2 (s1.trans (p.old nD)) (by
        cases z0 : H D with
        | none => rfl
        | some o =>
          rw [s1 _ _ z0] at nD
          cases nD) p5.lst p5.dat
end
end CC
namespace CC
open PySem L2 TL
def num (n : Nat) : Str := Str.ofString (toString (n : Int))
theorem tl_app (a b : Str) : tl (a ++ b) = tl a ++ tl b := tl_append a b
end CC
namespace CC
open PySem L2 TL
/-! ### lines -/
def lineS (r : R) : Str := Str.empty ++ num r.a ++ " " ++ kd r.k ++ " " ++ num r.b
def textS (rs : List R) : Str := Txt.join "" (rs.map fun r => lineS r ++ "\n")
theorem lines_nodup : ((allR 6).map lineS).Nodup := by decide +kernel
theorem mem_row {w a : Nat} {k : Bool} {r : R} : r ∈ row w a k ↔ r.k = k ∧ r.a = a ∧ r.b < w ∧ a ≠ r.b := by
  obtain ⟨k', a', b'⟩ := r
  simp only [row, List.mem_map, List.mem_filter, List.mem_range, decide_eq_true_eq, R.mk.injEq]
  constructor
  · rintro ⟨b, ⟨h1, h2⟩, rfl, rfl, rfl⟩
    exact ⟨rfl, rfl, h1, h2⟩
  · rintro ⟨rfl, rfl, h1, h2⟩
    exact ⟨b', ⟨h1, h2⟩, rfl, rfl, rfl⟩
theorem mem_allR {w : Nat} {r : R} : r ∈ allR w ↔ r.ok w := by
  simp only [allR, List.mem_flatMap, List.mem_range, mem_row, R.ok, List.mem_cons, List.not_mem_nil, or_false]
  constructor
  · rintro ⟨k, _, a, h1, rfl, rfl, h2, h3⟩
    exact ⟨h1, h2, h3⟩
  · rintro ⟨h1, h2, h3⟩
    refine ⟨r.k, ?_, r.a, h1, rfl, rfl, h2, h3⟩
    cases r.k
    · exact .inr rfl
    · exact .inl rfl
theorem R.ok.up {w : Nat} {r : R} (h : r.ok w) (hw : w ≤ 6) : r.ok 6 := ⟨Nat.lt_of_lt_of_le h.1 hw, Nat.lt_of_lt_of_le h.2.1 hw, h.2.2⟩
theorem inj_of {α β : Type} {f : α → β} : ∀ {l : List α}, (l.map f).Nodup → ∀ {x y : α}, x ∈ l → y ∈ l → f x = f y → x = y
  | [], _, _, _, h, _, _ => nomatch h
  | z :: l, nd, x, y, hx, hy, e => by
    rw [List.map_cons, List.nodup_cons] at nd
    rcases List.mem_cons.mp hx with e1 | h1
    · rcases List.mem_cons.mp hy with e2 | h2
      · rw [e1, e2]
      · exact absurd (List.mem_map.mpr ⟨y, h2, by rw [← e, e1]⟩) nd.1
    · rcases List.mem_cons.mp hy with e2 | h2
      · exact absurd (List.mem_map.mpr ⟨x, h1, by rw [e, e2]⟩) nd.1
      · exact inj_of nd.2 h1 h2 e
theorem line_inj {r s : R} (hr : r.ok 6) (hs : s.ok 6) (e : lineS r = lineS s) : r = s := inj_of lines_nodup (mem_allR.mpr hr) (mem_allR.mpr hs) e
theorem lines_all : ((allR 6).all fun r => (lineS r).length ≤ 20 && !(tl (lineS r)).contains 10) = true := by decide +kernel
theorem line_of6 {r : R} (hr : r.ok 6) : (lineS r).length ≤ 20 ∧ 10 ∉ tl (lineS r) := by
  have h := List.all_eq_true.mp lines_all r (mem_allR.mpr hr)
  simp only [Bool.and_eq_true, decide_eq_true_eq, Bool.not_eq_true'] at h
  refine ⟨h.1, fun z => ?_⟩
  have := List.contains_iff_mem.mpr z
  rw [h.2] at this
  cases this
theorem allR_nodup {w : Nat} (hw : w ≤ 6) : (allR w).Nodup := by
  have h : ∀ w : Fin 7, (allR w.1).Nodup := by decide +kernel
  exact h ⟨w, by omega⟩
/-- a text of lines, and its lines -/
theorem tl_text : ∀ rs : List R, tl (textS rs) = (rs.map fun r => tl (lineS r) ++ [10]).flatten
  | [] => by decide +kernel
  | r :: rs => by
    unfold textS
    rw [join_eq, tl_join]
    have e : ∀ l : List (List Nat), joinL (tl ("" : Str)) l = l.flatten := by
      intro l
      rw [show tl ("" : Str) = [] by decide +kernel]
      induction l with
      | nil => rfl
      | cons x l ih =>
        cases l with
        | nil => simp [joinL]
        | cons y l =>
          show x ++ ([] ++ joinL [] (y :: l)) = _
          rw [ih, List.nil_append]
          simp
    rw [e, List.map_map]
    congr 1
    refine List.map_congr_left fun r _ => ?_
    show tl (lineS r ++ "\n") = _
    rw [tl_app, show tl ("\n" : Str) = [10] by decide +kernel]
theorem split_text {rs : List R} (h : ∀ r ∈ rs, r.ok 6) : Txt.split (textS rs) "\n" = rs.map lineS ++ [Str.empty] := by
  have e : textS rs = Txt.join "\n" (rs.map lineS ++ [Str.empty]) := by
    refine ext_tl ?_
    show tl (textS rs) = tl (Txt.join "\n" (rs.map lineS ++ [Str.empty]))
    rw [tl_text, join_eq, tl_join, show tl ("\n" : Str) = [10] by decide +kernel]
    induction rs with
    | nil => decide +kernel
    | cons r rs ih =>
      rw [List.map_cons, List.flatten_cons, ih fun s hs => h s (List.mem_cons_of_mem _ hs)]
      cases rs with
      | nil =>
        show tl (lineS r) ++ [10] ++ joinL [10] [tl Str.empty] = joinL [10] [tl (lineS r), tl Str.empty]
        show tl (lineS r) ++ [10] ++ tl Str.empty = tl (lineS r) ++ ([10] ++ tl Str.empty)
        rw [List.append_assoc]
      | cons s rs =>
        show tl (lineS r) ++ [10] ++ _ = tl (lineS r) ++ ([10] ++ _)
        rw [List.append_assoc]
        rfl
  rw [e]
  refine split_join (s := 10) (S := []) (by decide +kernel) (by decide +kernel) (by simp) fun p hp => ?_
  rcases List.mem_append.mp hp with z | z
  · obtain ⟨r, hr, rfl⟩ := List.mem_map.mp z
    exact (line_of6 (h r hr)).2
  · rw [List.mem_singleton.mp z]
    decide +kernel
theorem text_len {rs : List R} (h : ∀ r ∈ rs, r.ok 6) : (textS rs).length ≤ 21 * rs.length := by
  rw [len_tl, tl_text]
  induction rs with
  | nil => simp
  | cons r rs ih =>
    have h1 := (line_of6 (h r List.mem_cons_self)).1
    rw [len_tl] at h1
    have h2 : (tl (lineS r)).length ≤ 20 := h1
    have h3 := ih fun s hs => h s (List.mem_cons_of_mem _ hs)
    simp only [List.map_cons, List.flatten_cons, List.length_append, List.length_cons, List.length_nil]
    omega
def spLine (K : PySem.W.Frag) : Sp := fun vs H Q _ => ∃ (v : V) (r : R), vs = [v] ∧ Dp K H v r.d ∧ r.ok 6 ∧ Q (.str (lineS r)) H
section
variable {P : Program} {w : World} {K : PySem.W.Frag} {mg : Str → Option Value} {base : Heap} {kA : Addr}
theorem scLine : FnScope ["rule", "kind", "first", "second"] ["rule"] (defScope sLine) := ⟨rfl, rfl, rfl, by decide +kernel, rfl, by decide +kernel, by decide +kernel⟩
theorem small6 {n : Nat} (h : n < 6) : (n : Int).natAbs.log2 < 1920 := by
  have : ∀ n : Fin 6, ((n.1 : Nat) : Int).natAbs.log2 < 1920 := by decide +kernel
  exact this ⟨n, h⟩
theorem lens_all : ((allR 6).all fun r => decide ((Str.empty ++ num r.a).length ≤ 20) && decide ((Str.empty ++ num r.a ++ " ").length ≤ 20) && decide ((Str.empty ++ num r.a ++ " " ++ kd r.k).length ≤ 20) && decide ((Str.empty ++ num r.a ++ " " ++ kd r.k ++ " ").length ≤ 20)) = true := by decide +kernel
theorem ok_line {f : Addr} {fd : FuncData} {k : Nat} (F : Fun K "line_of" "line_of" sLine f fd) : FnOk P w K mg base CX0 (k + 1) f fd ["rule"] (spLine K) := by
  refine F.ok scLine (fun vs H Q E h => ?_) (fun cdv A outer s H vs Q E hr h => ?_)
  · obtain ⟨v, r, rfl, _⟩ := h
    rfl
  · obtain ⟨v, r, rfl, hd, ho, q⟩ := h
    obtain ⟨p, rfl, hp⟩ := dp_r hd
    have nd := scLine.nd
    refine ⟨_, pss_cons (ps_asg (pv 0) (pg_tup rfl (pgs_cons (pg_name (i := 1) nd rfl (.inl rfl)) (pgs_cons (pg_name (i := 2) nd rfl (.inl rfl)) (pgs_cons (pg_name (i := 3) nd rfl (.inl rfl)) pgs_nil)))))
      (pss_one (ps_ret (pe_joined (.cons (pe_fmt (pv 2)) (.cons pe_str (.cons (pe_fmt (pv 1)) (.cons pe_str (.cons (pe_fmt (pv 3)) .nil)))))))), ?_⟩
    have hl := List.all_eq_true.mp lens_all r (mem_allR.mpr ho)
    simp only [Bool.and_eq_true, decide_eq_true_eq] at hl
    obtain ⟨⟨⟨l1, l2⟩, l3⟩, l4⟩ := hl
    have l5 := (line_of6 ho).1
    have big : ∀ {n : Nat}, n ≤ 20 → n ≤ sizeLine := fun h => Nat.le_trans h (by decide)
    have lk : (kd r.k).length ≤ sizeLine := by cases r.k <;> decide +kernel
    refine ⟨_, rfl, p, _, rfl, hp, rfl, _, _, rfl, _, _, rfl, _, _, rfl, rfl, ?_⟩
    exact ⟨_, rfl, .inr ⟨_, rfl, small6 ho.1, _, rfl, big l1, _, rfl, big l2, _, rfl, .inl ⟨_, rfl, lk, _, rfl, big l3, _, rfl, big l4, _, rfl, .inr ⟨_, rfl, small6 ho.2.1, _, rfl, big l5, q⟩⟩⟩⟩
end
end CC
/-! A set made of a list or tuple of things of one kind, and how many members it has. -/
namespace SG
open PySem PySem.Spec PyProof.Rows L2
section kinds
variable {P : Program} {w : World} {κ : Type} [DecidableEq κ] {kn : KeyKind P w κ} {A : Around} {E : Value → Shared → Prop} {s : Shared}
/-- things of the kind come from no class statement, and hash by their value -/
structure Tame (kn : KeyKind P w κ) : Prop where
  cls : ∀ (n : Nat) (k : κ) (v : Value), kn.is k v = true → ofAClassStatement n v = pure false
  byv : ∀ (n : Nat) (k : κ) (v : Value), kn.is k v = true → ∃ b, hashByValue n v = pure b
theorem tame_mix : Tame (mixKind P w) := by
  constructor
  · intro n k v h
    rcases keyIs_shape h with ⟨i, t, _, rfl⟩ | ⟨x, t, _, rfl⟩ <;> cases n <;> rfl
  · intro n k v h
    rcases keyIs_shape h with ⟨i, t, _, rfl⟩ | ⟨x, t, _, rfl⟩ <;> exact ⟨_, hashByValue_scannable n rfl⟩
theorem each_is {ks : List κ} {us : List Value} (h : ItemsAre kn ks us) : ∀ u ∈ us, ∃ k, kn.is k u = true := by
  induction h with
  | nil => exact fun u hu => nomatch hu
  | @cons k v _ _ q _ ih =>
    intro u hu
    cases hu with
    | head => exact ⟨k, q⟩
    | tail _ hu => exact ih u hu
theorem tup_cls (Tm : Tame kn) {ks : List κ} {b : Addr} {Q : Bool → Shared → Prop} (hb : IsTupleKey kn s.heap ks b) (q : Q false s) : wpAny (model P w) A (ofAClassStatement 8 (.ref b)) Q E s := by
  have ty := hb.typeIs
  obtain ⟨ob, its, m, g1, _, g2, g3⟩ := hb
  unfold ofAClassStatement
  refine wpAny_bind (wpAny_typeOf ty ?_)
  dsimp only
  have e0 : (("tuple" : String) == "tuple") = true := by decide
  simp only [e0, if_true, Bool.not_true, Bool.false_eq_true, if_false]
  try refine wpAny_bind (wpAny_pure ?_)
  try simp only [Bool.not_true, Bool.false_eq_true, if_false]
  show wpAny _ _ (seqItems? (.ref b) >>= _) _ _ s
  refine wpAny_bind (wpAny_seqItems g1 g2 ?_)
  dsimp only
  refine wpAny_bind ?_
  show wpAny _ _ (forIn its _ _) _ _ s
  rw [← Array.forIn_toList]
  refine wpAny_forIn_list _ (fun left r s' => r.1 = none ∧ s' = s ∧ ∀ u ∈ left, ∃ k, kn.is k u = true) _ ?_ ?_ _ _ ⟨rfl, rfl, each_is g3⟩
  · rintro u left r s' ⟨hr, rfl, al⟩
    obtain ⟨k, hk⟩ := al u List.mem_cons_self
    rw [Tm.cls _ k u hk]
    refine wpAny_bind (wpAny_pure ?_)
    simp only [Bool.false_eq_true, if_false]
    exact wpAny_pure ⟨rfl, rfl, fun x hx => al x (List.mem_cons_of_mem _ hx)⟩
  · rintro ⟨r1, r2⟩ s' ⟨hr, rfl, _⟩
    simp only at hr
    subst hr
    exact wpAny_pure q
theorem tup_byv (Tm : Tame kn) {ks : List κ} {b : Addr} {Q : Bool → Shared → Prop} (hb : IsTupleKey kn s.heap ks b) (q : ∀ y, Q y s) : wpAny (model P w) A (hashByValue 8 (.ref b)) Q E s := by
  have ty := hb.typeIs
  obtain ⟨ob, its, m, g1, _, g2, g3⟩ := hb
  unfold hashByValue
  refine wpAny_bind (wpAny_specialOf ty F.slot_tuple_hash.lookup ?_)
  show wpAny _ _ (seqItems? (.ref b) >>= _) _ _ s
  refine wpAny_bind (wpAny_seqItems g1 g2 ?_)
  refine wpAny_bind ?_
  show wpAny _ _ (forIn its _ _) _ _ s
  rw [← Array.forIn_toList]
  refine wpAny_forIn_list _ (fun left r s' => s' = s ∧ ∀ u ∈ left, ∃ k, kn.is k u = true) _ ?_ ?_ _ _ ⟨rfl, each_is g3⟩
  · rintro u left r s' ⟨rfl, al⟩
    obtain ⟨k, hk⟩ := al u List.mem_cons_self
    obtain ⟨y, hy⟩ := Tm.byv 7 k u hk
    rw [hy]
    refine wpAny_bind (wpAny_pure ?_)
    cases y with
    | true =>
      simp only [Bool.not_true, Bool.false_eq_true, if_false]
      exact wpAny_pure ⟨rfl, fun x hx => al x (List.mem_cons_of_mem _ hx)⟩
    | false =>
      simp only [Bool.not_false, if_true]
      exact wpAny_pure (wpAny_pure (q _))
  · rintro ⟨r1, r2⟩ s' ⟨rfl, _⟩
    cases r1 with
    | none => exact wpAny_pure (q _)
    | some y => exact wpAny_pure (q _)
theorem tup_unseen (Tm : Tame kn) {ks : List κ} {b : Addr} {Q : Bool → Shared → Prop} (hb : IsTupleKey kn s.heap ks b) {us : List Value} (hus : ∀ u ∈ us, ∃ js c, u = Value.ref c ∧ IsTupleKey kn s.heap js c) (q : Q false s) :
    wpAny (model P w) A (searchCouldBeSeen (.ref b) us) Q E s := by
  unfold searchCouldBeSeen
  refine wpAny_bind ?_
  refine wpAny_forIn_list _ (fun left r s' => r.1 = none ∧ s' = s ∧ ∀ u ∈ left, ∃ js c, u = Value.ref c ∧ IsTupleKey kn s.heap js c) _ ?_ ?_ _ _ ⟨rfl, rfl, hus⟩
  · rintro u left r s' ⟨hr, rfl, al⟩
    obtain ⟨js, c, rfl, hc⟩ := al u List.mem_cons_self
    have al2 : ∀ x ∈ left, ∃ js c, x = Value.ref c ∧ IsTupleKey kn s'.heap js c := fun x hx => al x (List.mem_cons_of_mem _ hx)
    dsimp only
    by_cases hv : (b == c || (carriedByValue (.ref b) && carriedByValue (.ref c))) = true
    · exact wp_if_pos hv (wpAny_pure ⟨rfl, rfl, al2⟩)
    · refine wp_if_neg hv (wpAny_bind (wpAny_eqIsQuiet_tuple hb ?_))
      simp only [Bool.not_true, Bool.false_eq_true, if_false]
      refine wpAny_bind (wpAny_eqIsQuiet_tuple hc ?_)
      simp only [Bool.not_true, Bool.false_eq_true, if_false]
      refine wpAny_bind (tup_cls Tm hb ?_)
      simp only [Bool.false_eq_true, if_false]
      refine wpAny_bind (tup_cls Tm hc ?_)
      simp only [Bool.false_eq_true, if_false]
      exact wpAny_pure ⟨rfl, rfl, al2⟩
  · rintro ⟨r1, r2⟩ s' ⟨hr, rfl, _⟩
    simp only at hr
    subst hr
    exact wpAny_pure q
/-! ### a set of tuples of the kind -/
abbrev hs (kn : KeyKind P w κ) (k : List κ) : Int := tupleKeyHash kn k
abbrev Mem (κ : Type) := Addr × List κ
def ents (kn : KeyKind P w κ) (M : List (Mem κ)) : List (Int × Value) := M.map fun m => (hs kn m.2, Value.ref m.1)
structure TSet (kn : KeyKind P w κ) (h : Heap) (a : Addr) (M : List (Mem κ)) (es : Array (Int × Value)) (ep : Nat) (t : SetTable) : Prop where
  obj : ∃ o, h.get? a = some o ∧ o.ExactSet ∧ o.data = .set es ep t
  ent : es.toList = ents kn M
  tok : TabOk t (M.map fun m => hs kn m.2)
  uni : (M.map (·.2)).Nodup
  mem : ∀ m ∈ M, IsTupleKey kn h m.2 m.1
  led : w.params.followText "set-order" = true ∨ t.led = true
  rom : M.length * 5 < t.mask * 3
  few : M.length < 64
variable {a : Addr} {M : List (Mem κ)} {es : Array (Int × Value)} {ep : Nat} {t : SetTable}
theorem ents_len (e : es.toList = ents kn M) : es.size = M.length := by
  have q := congrArg List.length e
  rw [ents, List.length_map, Array.length_toList] at q
  exact q
theorem ents_at (e : es.toList = ents kn M) {i : Nat} {m : Mem κ} (h : M[i]? = some m) : es[i]? = some (hs kn m.2, Value.ref m.1) := by
  rw [← Array.getElem?_toList, e, ents, List.getElem?_map, h]
  rfl
theorem fits_of (T : TabOk t (M.map fun m => hs kn m.2)) (n : es.size = M.length) (r : M.length ≤ t.mask) : t.fits es.size = true := by
  have z := T.sz
  rw [List.length_map] at z
  unfold SetTable.fits SetTable.fill
  rw [T.dm, Bool.and_eq_true, beq_iff_eq, decide_eq_true_eq]
  show t.place.size = es.size ∧ t.place.size + 0 ≤ t.mask
  omega
theorem TSet.fit (S : TSet kn s.heap a M es ep t) : t.fits es.size = true := fits_of S.tok (ents_len S.ent) (by have := S.rom; omega)
theorem nodummy (m : Nat) : ∀ (n : Nat) (p : SetTable.Probe), p.dummy = none → (nth m p n).dummy = none
  | 0, _, h => h
  | n + 1, p, h => nodummy m n (adv m p) (by unfold adv; split <;> exact h)
abbrev st0 (m : Nat) (h : Int) : SetTable.Probe := runAt m (SetTable.bits h % (m + 1)) (SetTable.bits h)
/-- the search along the way, from its c-th step -/
theorem look (Tm : Tame kn) (S : TSet kn s.heap a M es ep t) {x : Addr} {k : List κ} (hx : IsTupleKey kn s.heap k x) (hu : A.units < cLine) {N : Nat} (hN : N < 10 * SetTable.turns t.mask)
    (fr : way t.mask (hs kn k) N ∉ t.place.toList) (oc : ∀ c, c < N → way t.mask (hs kn k) c ∈ t.place.toList) {Q : SetFound → Shared → Prop}
    (yes : k ∈ M.map (·.2) → Q (.there none) s) (no : k ∉ M.map (·.2) → Q (.free (way t.mask (hs kn k) N) false) s) :
    ∀ (f c : Nat) (sd : Option SetTable.Probe), sd.getD (t.probeStart (hs kn k)) = nth t.mask (st0 t.mask (hs kn k)) c → c ≤ N → N - c < f →
      (∀ (i : Nat) m, M[i]? = some m → m.2 = k → ∃ d, c ≤ d ∧ d < N ∧ t.place.toList[i]? = some (way t.mask (hs kn k) d)) →
      wpAny (model P w) A (setSearchFrom a (.ref x) (hs kn k) true f sd) Q E s
  | 0, _, _, _, _, z, _ => absurd z (Nat.not_lt_zero _)
  | f + 1, c, sd, hsd, hc, hf, ahead => by
    obtain ⟨ob, g1, g2, g3⟩ := S.obj
    rw [setSearchFrom_succ]
    refine wpAny_bind (wpAny_setState_of g1 g3 S.fit ?_)
    dsimp only
    have gw : ¬ t.gaveWay = true := by
      unfold SetTable.gaveWay
      rw [mask_odd S.tok.mok]
      decide
    refine wp_if_neg gw ?_
    try refine wpAny_bind (wpAny_pure ?_)
    have shift : ∀ q, nth t.mask (nth t.mask (st0 t.mask (hs kn k)) c) q = nth t.mask (st0 t.mask (hs kn k)) (c + q) := fun q => (nth_add t.mask c _ q).symm
    have at_ : ∀ q, (nth t.mask (nth t.mask (st0 t.mask (hs kn k)) c) q).j = way t.mask (hs kn k) (c + q) := fun q => congrArg SetTable.Probe.j (shift q)
    have last : c + (N - c) = N := by omega
    have told := go_spec t S.tok.ris S.tok.dm (fun i => (es[i]?.map (·.1)).getD 0) (hs kn k) (10 * SetTable.turns t.mask) (N - c) _ (nodummy t.mask c (st0 t.mask (hs kn k)) rfl) (by omega)
      (fun q hq => by rw [at_]; exact oc _ (by omega)) (by rw [at_, last]; exact fr)
    have hsh : ∀ (i : Nat) m, M[i]? = some m → (fun i => (es[i]?.map (·.1)).getD 0) i = hs kn m.2 := fun i m hm => by
      show (es[i]?.map (·.1)).getD 0 = _
      rw [ents_at S.ent hm]
      rfl
    rcases told with ⟨q, i, hq, hi, _, before, ans⟩ | ⟨before, ans⟩
    · have ans' : t.probe (fun i => (es[i]?.map (·.1)).getD 0) (hs kn k) (sd.getD (t.probeStart (hs kn k))) = some (.candidate (way t.mask (hs kn k) (c + q)) i (nth t.mask (st0 t.mask (hs kn k)) (c + (q + 1)))) := by
        rw [hsd, ← at_, ← shift]
        exact ans
      rw [ans']
      dsimp only
      rw [at_] at hi
      have il : i < M.length := by
        have z1 := (List.getElem?_eq_some_iff.mp hi).1
        have z2 := S.tok.sz
        rw [List.length_map] at z2
        rw [Array.length_toList] at z1
        omega
      obtain ⟨m, hm⟩ : ∃ m, M[i]? = some m := ⟨_, List.getElem?_eq_getElem il⟩
      have mm : m ∈ M := List.mem_of_getElem? hm
      have go : wpAny (model P w) A (searchRest a (.ref x) (hs kn k) true f es t (way t.mask (hs kn k) (c + q)) i (nth t.mask (st0 t.mask (hs kn k)) (c + (q + 1)))) Q E s := by
        unfold searchRest
        rw [ents_at S.ent hm]
        dsimp only
        refine wpAny_bind (wpAny_holding (wpAny_eqBool_tuple hu (S.mem m mm) hx ?_))
        refine wpAny_bind (wpAny_setState_of g1 g3 S.fit ?_)
        dsimp only
        by_cases same : m.2 = k
        · exact wp_if_pos (by simp [same]) (wpAny_pure (yes (List.mem_map.mpr ⟨m, mm, same⟩)))
        · refine wp_if_neg (by simp [same]) ?_
          try refine wpAny_bind (wpAny_pure ?_)
          rw [sameMem]
          dsimp only
          have live : t.slot (way t.mask (hs kn k) (c + q)) = .live i := slot_live S.tok.ris hi
          simp only [if_true, live, ents_at S.ent hm]
          refine wpAny_bind (wpAny_isSame_ref_self (wpAny_bind (wpAny_pure ?_)))
          simp only [if_true]
          refine wp_if_neg (by simp [same]) ?_
          refine look Tm S hx hu hN fr oc yes no f (c + (q + 1)) _ rfl (by omega) (by omega) fun j n hj hn => ?_
          obtain ⟨d, d1, d2, d3⟩ := ahead j n hj hn
          refine ⟨d, ?_, d2, d3⟩
          rcases Nat.lt_trichotomy d (c + q) with z | z | z
          · have z0 : c + (d - c) = d := by omega
            refine absurd ((hsh j n hj).trans (congrArg (hs kn) hn)) (before (d - c) j (by omega) ?_)
            rw [at_, z0]
            exact d3
          · rw [z] at d3
            have z1 := slot_live S.tok.ris d3
            rw [live] at z1
            injection z1 with z1
            rw [← z1, hm] at hj
            exact absurd ((congrArg Prod.snd (Option.some.inj hj)).trans hn) same
          · omega
      by_cases hl : t.led = true
      · refine wp_if_neg (by simp [hl]) ?_
        try refine wpAny_bind (wpAny_pure ?_)
        exact go
      · refine wp_if_pos (by simp [hl]) ?_
        refine wpAny_bind (tup_unseen Tm hx (fun u hu2 => ?_) ?_)
        · obtain ⟨e, he, ee⟩ := List.mem_map.mp hu2
          have he1 : e ∈ es ∧ e.1 = hs kn k := by simpa using he
          have he2 : e ∈ es.toList := by simpa using he1.1
          rw [S.ent] at he2
          obtain ⟨n, hn, rfl⟩ := List.mem_map.mp he2
          exact ⟨n.2, n.1, ee.symm, S.mem n hn⟩
        · refine wp_if_neg (by decide) ?_
          try refine wpAny_bind (wpAny_pure ?_)
          exact go
    · have ans' : t.probe (fun i => (es[i]?.map (·.1)).getD 0) (hs kn k) (sd.getD (t.probeStart (hs kn k))) = some (.empty (way t.mask (hs kn k) N) none) := by
        have z : way t.mask (hs kn k) N = (nth t.mask (nth t.mask (st0 t.mask (hs kn k)) c) (N - c)).j := by rw [at_, last]
        rw [hsd, z]
        exact ans
      rw [ans']
      dsimp only
      refine wpAny_pure (no fun hm => ?_)
      obtain ⟨m, mm, ek⟩ := List.mem_map.mp hm
      obtain ⟨j, hj⟩ := List.mem_iff_getElem?.mp mm
      obtain ⟨d, d1, d2, d3⟩ := ahead j m hj ek
      have z0 : c + (d - c) = d := by omega
      refine absurd ((hsh j m hj).trans (congrArg (hs kn) ek)) (before (d - c) j (by omega) ?_)
      rw [at_, z0]
      exact d3
theorem look0 (Tm : Tame kn) (S : TSet kn s.heap a M es ep t) {x : Addr} {k : List κ} (hx : IsTupleKey kn s.heap k x) (hu : A.units < cLine) {Q : SetFound → Shared → Prop} (yes : k ∈ M.map (·.2) → Q (.there none) s)
    (no : ∀ N, k ∉ M.map (·.2) → way t.mask (hs kn k) N ∉ t.place.toList → (∀ c, c < N → way t.mask (hs kn k) c ∈ t.place.toList) → Q (.free (way t.mask (hs kn k) N) false) s) :
    wpAny (model P w) A (setSearch a (.ref x) (hs kn k) true) Q E s := by
  have rm := S.rom
  obtain ⟨N, n1, n2, n3⟩ := S.tok.first (by rw [List.length_map]; omega) (hs kn k)
  have big : N < 100000 := by
    have : 10 * SetTable.turns t.mask ≤ 1420 := by
      unfold SetTable.turns
      rcases S.tok.mok with e | e | e <;> omega
    omega
  unfold setSearch
  refine look Tm S hx hu n1 n2 n3 yes (fun z => no N z n2 n3) 100000 0 none rfl (Nat.zero_le _) (by omega) fun i m hm ek => ?_
  have z1 : (M.map fun m => hs kn m.2)[i]? = some (hs kn k) := by
    rw [List.getElem?_map, hm, ← ek]
    rfl
  have z2 : i < t.place.toList.length := by
    have y1 : i < M.length := (List.getElem?_eq_some_iff.mp hm).1
    have y2 := S.tok.sz
    rw [List.length_map] at y2
    rw [Array.length_toList]
    omega
  obtain ⟨d, d1, d2⟩ := S.tok.before n2 z1 (List.getElem?_eq_getElem z2)
  exact ⟨d, Nat.zero_le _, d1, by rw [List.getElem?_eq_getElem z2, d2]⟩
/-! ### laid anew, and added to -/
theorem key_else {h h' : Heap} {k : List κ} {b : Addr} {o : Obj} (hb : IsTupleKey kn h k b) (ho : h.get? a = some o) (hd : o.data = .set es ep t) (sb : Heap.SameBut a h h') : IsTupleKey kn h' k b := by
  obtain ⟨o2, its, n, g1, g2, g3, g4⟩ := hb
  have ne : b ≠ a := fun z => by
    rw [z, ho] at g1
    rw [← Option.some.inj g1, hd] at g3
    exact nomatch g3
  exact ⟨o2, its, n, (sb.2 b ne).trans g1, g2, g3, g4⟩
theorem pick_len {α : Type} (l : List α) : ∀ n, n ≤ l.length → (List.range n).filterMap (fun i => l[i]?) = l.take n
  | 0, _ => by simp
  | n + 1, h => by
    rw [List.range_succ, List.filterMap_append, pick_len l n (by omega), List.take_succ, List.getElem?_eq_getElem h]
    simp [List.filterMap, List.getElem?_eq_getElem h]
theorem pick (e : es.toList = ents kn M) : ∀ js : List Nat, (∀ j ∈ js, j < M.length) →
    js.filterMap (fun j => es[j]?) = ents kn (js.filterMap fun j => M[j]?) ∧ ((js.filterMap fun j => M[j]?).map fun m => hs kn m.2) = js.map fun j => (es.map (·.1)).getD j 0
  | [], _ => ⟨rfl, rfl⟩
  | j :: js, h => by
    have hj : j < M.length := h j List.mem_cons_self
    obtain ⟨i1, i2⟩ := pick e js fun i hi => h i (List.mem_cons_of_mem _ hi)
    have g := List.getElem?_eq_getElem hj
    have z : (es.map (·.1)).getD j 0 = hs kn M[j].2 := by
      have z1 : (es.map (·.1))[j]? = some (hs kn M[j].2) := by
        rw [Array.getElem?_map, ents_at e g]
        rfl
      simp [Array.getD_eq_getD_getElem?, z1]
    constructor
    · rw [List.filterMap_cons_some (ents_at e g), List.filterMap_cons_some g, i1]
      rfl
    · rw [List.filterMap_cons_some g, List.map_cons, List.map_cons, i2, z]
theorem grow {o : Obj} (g1 : s.heap.get? a = some o) (g2 : o.ExactSet) (g3 : o.data = .set es ep t) (en : es.toList = ents kn M) (T : TabOk t (M.map fun m => hs kn m.2)) (fl : M.length ≤ t.mask)
    (un : (M.map (·.2)).Nodup) (me : ∀ m ∈ M, IsTupleKey kn s.heap m.2 m.1) (ld : w.params.followText "set-order" = true ∨ t.led = true) (fw : M.length < 64) {want B : Nat}
    (w1 : SetTable.sizeAbove want - 1 = B) (w2 : MaskOk B) (w3 : SetTable.sizeAbove want ≤ 128) (w4 : M.length * 5 < B * 3) {Q : Unit → Shared → Prop}
    (q : ∀ h' M' es' ep' t', Heap.SameBut a s.heap h' → TSet kn h' a M' es' ep' t' → M'.Perm M → Q () { s with heap := h' }) : wpAny (model P w) A (setRelay a want) Q E s := by
  have n := ents_len en
  obtain ⟨t', order, e1, pm, T', e2, e3, _, _⟩ := relaid_ok t (hs := es.map (·.1)) (wanted := want) w1 w2 (by rw [Array.size_map, n]; omega)
  rw [Array.size_map, n] at pm
  obtain ⟨p1, p2⟩ := pick en order.toList fun j hj => List.mem_range.mp (pm.mem_iff.mp hj)
  have pm2 : (order.toList.filterMap fun j => M[j]?).Perm M := by
    have z := pm.filterMap fun j => M[j]?
    rw [pick_len M M.length (Nat.le_refl _), List.take_length] at z
    exact z
  generalize order.toList.filterMap (fun j => M[j]?) = M' at p1 p2 pm2
  rw [← p2] at T'
  have p3 : (order.filterMap (es[·]?)).toList = ents kn M' := by
    first
      | (rw [Array.toList_filterMap]; exact p1)
      | simpa using p1
  have n2 := ents_len p3
  have n3 := pm2.length_eq
  rw [setRelay_eq]
  refine wpAny_bind (wpAny_setState_of g1 g3 (fits_of T n fl) ?_)
  dsimp only
  refine wp_if_neg (by rw [sizeLine_eq]; omega) ?_
  try refine wpAny_bind (wpAny_pure ?_)
  rw [e1]
  dsimp only
  refine wpAny_bind (wp_if_neg (by rw [n2, n3, n]; simp) ?_)
  try refine wpAny_bind (wpAny_pure ?_)
  refine wpAny_pure ?_
  dsimp only
  refine wpAny_storeSet_of g1 g3 ?_ (by rw [n2, n3, sizeLine_eq]; omega)
  have sb : Heap.SameBut a s.heap (s.heap.update a (Obj.putSet (order.filterMap (es[·]?)) t')) := Heap.SameBut.update ..
  refine q _ M' _ (ep + 1) t' sb ⟨⟨_, store_at g1 g3, ⟨g2.1, g2.2.1, g2.2.2⟩, rfl⟩, p3, T', (pm2.map (·.2)).nodup_iff.mpr un, fun m hm => key_else (me m (pm2.mem_iff.mp hm)) g1 g3 sb, by rw [e3]; exact ld, by rw [n3, e2]; exact w4, by rw [n3]; exact fw⟩ pm2
theorem more (Tm : Tame kn) (S : TSet kn s.heap a M es ep t) {x : Addr} {k : List κ} (hx : IsTupleKey kn s.heap k x) (hu : A.units < cLine) (fw : M.length + 1 < 64) {Q : Bool → Shared → Prop}
    (q : ∀ b h' M' es' ep' t', Heap.SameBut a s.heap h' → TSet kn h' a M' es' ep' t' → (k ∈ M.map (·.2) → M' = M) → (k ∉ M.map (·.2) → M'.Perm ((x, k) :: M)) → Q b { s with heap := h' }) :
    wpAny (model P w) A (setAddHashed a (.ref x) (hs kn k)) Q E s := by
  obtain ⟨o, g1, g2, g3⟩ := S.obj
  have n := ents_len S.ent
  have rm := S.rom
  unfold setAddHashed
  refine wpAny_holding ?_
  rw [show (100000 : Nat) = 99999 + 1 from rfl, setAddHashedIn_succ]
  refine wpAny_bind (wpAny_setState_of g1 g3 S.fit ?_)
  dsimp only
  refine wp_if_neg (by simp [byScan, Value.scannable]) ?_
  try refine wpAny_bind (wpAny_pure ?_)
  refine wpAny_bind (look0 Tm S hx hu (fun hm => ?_) fun N hm f1 f2 => ?_)
  · exact wpAny_pure (q false s.heap M es ep t (Heap.SameBut.refl a s.heap) S (fun _ => rfl) fun z => absurd hm z)
  · dsimp only
    refine wpAny_bind (wpAny_setState_of g1 g3 S.fit ?_)
    dsimp only
    obtain ⟨q1, q2, q3, q4, q5, q6, q7, q8, q9⟩ := S.tok.put f1 f2
    generalize t.put (way t.mask (hs kn k) N) = pt at q1 q3 q4 q5 q6 q7 q8 q9 ⊢
    obtain ⟨t1, p⟩ := pt
    dsimp only at q1 q3 q4 q5 q6 q7 q8 q9 ⊢
    subst q1
    have hin : (SetTable.insertAt es (SetTable.below t.place (way t.mask (hs kn k) N)) (hs kn k, Value.ref x)).toList = ents kn (M.take (SetTable.below t.place (way t.mask (hs kn k) N)) ++ (x, k) :: M.drop (SetTable.below t.place (way t.mask (hs kn k) N))) := by
      rw [SetTable.toList_insertAt, S.ent, ents, ents, List.map_append, List.map_cons, List.map_take, List.map_drop]
    generalize SetTable.below t.place (way t.mask (hs kn k) N) = b at q2 q3 hin ⊢
    have pm := put_perm M b (x, k)
    have ln : (M.take b ++ (x, k) :: M.drop b).length = M.length + 1 := pm.length_eq
    have hh : (M.take b ++ (x, k) :: M.drop b).map (fun m => hs kn m.2) = (M.map fun m => hs kn m.2).take b ++ hs kn k :: (M.map fun m => hs kn m.2).drop b := by
      rw [List.map_append, List.map_cons, List.map_take, List.map_drop]
    rw [← hh] at q3
    have un1 : ((M.take b ++ (x, k) :: M.drop b).map (·.2)).Nodup := by
      refine (pm.map (·.2)).nodup_iff.mpr ?_
      rw [List.map_cons]
      exact List.nodup_cons.mpr ⟨hm, S.uni⟩
    have n1 := ents_len hin
    rw [ln] at n1
    generalize SetTable.insertAt es b (hs kn k, Value.ref x) = es1 at hin n1 ⊢
    generalize M.take b ++ (x, k) :: M.drop b = M1 at pm ln q3 un1 hin
    have tail : ∀ t2 : SetTable, TabOk t2 (M1.map fun m => hs kn m.2) → t2.mask = t.mask → t2.led = t1.led → t2.tooFull = t1.tooFull →
        wpAny (model P w) A (do
          storeSet a es1 t2
          if !false && t2.tooFull then setRelay a (SetTable.grown (es.size + 1))
          return true) Q E s := by
      intro t2 T2 mk ldd tf
      refine wpAny_bind (wpAny_storeSet_of g1 g3 ?_ (by rw [n1, sizeLine_eq]; omega))
      have sb : Heap.SameBut a s.heap (s.heap.update a (Obj.putSet es1 t2)) := Heap.SameBut.update ..
      have so := store_at (es' := es1) (t' := t2) g1 g3
      generalize s.heap.update a (Obj.putSet es1 t2) = h1 at sb so ⊢
      have me1 : ∀ m ∈ M1, IsTupleKey kn h1 m.2 m.1 := fun m hm1 => by
        rcases List.mem_cons.mp (pm.mem_iff.mp hm1) with z | z
        · rw [z]
          exact key_else hx g1 g3 sb
        · exact key_else (S.mem m z) g1 g3 sb
      have ld1 : w.params.followText "set-order" = true ∨ t2.led = true := by
        rw [ldd, q5]
        exact S.led
      by_cases hf : t1.tooFull = true
      · have hf2 : t2.tooFull = true := tf.trans hf
        first
          | (refine wpAny_bind ?_; refine wp_if_pos (by simp [hf2]) ?_)
          | (refine wp_if_pos (by simp [hf2]) ?_; refine wpAny_bind ?_)
        have full : (M.length + 1) * 5 ≥ t1.mask * 3 := by
          have z := hf
          unfold SetTable.tooFull at z
          rw [decide_eq_true_eq, q9, List.length_map] at z
          exact z
        rw [n]
        have two : (t.mask = 7 ∧ M.length = 4) ∨ (t.mask = 31 ∧ M.length = 18) := by
          rcases S.tok.mok with e | e | e
          · left
            rw [q4, e] at full
            rw [e] at rm
            exact ⟨e, by omega⟩
          · right
            rw [q4, e] at full
            rw [e] at rm
            exact ⟨e, by omega⟩
          · exfalso
            rw [q4, e] at full
            omega
        have go : ∀ B, SetTable.sizeAbove (SetTable.grown (M.length + 1)) - 1 = B → MaskOk B → SetTable.sizeAbove (SetTable.grown (M.length + 1)) ≤ 128 → (M.length + 1) * 5 < B * 3 →
            wpAny (model P w) A (setRelay a (SetTable.grown (M.length + 1))) (fun _ s' => wpAny (model P w) A (pure true) Q E s') E { s with heap := h1 } := fun B b1 b2 b3 b4 => by
          refine grow (s := { s with heap := h1 }) so ⟨g2.1, g2.2.1, g2.2.2⟩ rfl hin T2 (by rw [ln, mk]; rcases two with ⟨z, z2⟩ | ⟨z, z2⟩ <;> omega) un1 me1 ld1 (by rw [ln]; exact fw) b1 b2 b3 (by rw [ln]; exact b4) ?_
          intro h2 M2 es2 ep2 t3 sb2 S2 pm2
          exact wpAny_pure (q true h2 M2 es2 ep2 t3 (sb.trans sb2) S2 (fun z => absurd z hm) fun _ => pm2.trans pm)
        rcases two with ⟨_, z⟩ | ⟨_, z⟩
        · exact go 31 (by rw [z, size_20]) (.inr (.inl rfl)) (by rw [z, size_20]; decide) (by omega)
        · exact go 127 (by rw [z, size_76]) (.inr (.inr rfl)) (by rw [z, size_76]; decide) (by omega)
      · have hf2 : ¬ t2.tooFull = true := by
          rw [tf]
          exact hf
        first
          | refine wp_if_neg (by simp [hf2]) ?_
          | (refine wpAny_bind ?_; refine wp_if_neg (by simp [hf2]) ?_; refine wpAny_pure ?_)
        refine wpAny_pure (q true h1 M1 es1 (ep + 1) t2 sb ⟨⟨_, so, ⟨g2.1, g2.2.1, g2.2.2⟩, rfl⟩, hin, T2, un1, me1, ld1, ?_, by rw [ln]; exact fw⟩ (fun z => absurd z hm) fun _ => pm)
        have z := hf
        unfold SetTable.tooFull at z
        rw [decide_eq_true_eq, q9, List.length_map, q4] at z
        rw [ln, mk]
        omega
    have both : ∀ y : Bool, wpAny (model P w) A (do
        storeSet a es1 (if y then t1 else { t1 with plain := false })
        if !false && (if y then t1 else { t1 with plain := false } : SetTable).tooFull then setRelay a (SetTable.grown (es.size + 1))
        return true) Q E s := by
      intro y
      cases y with
      | true => exact tail t1 q3 q4 rfl rfl
      | false => exact tail { t1 with plain := false } ⟨q3.ris, q3.dm, q3.sz, q3.mok, q3.bd, q3.reach⟩ q4 rfl rfl
    by_cases pl : t1.plain = true
    · first
        | (refine wpAny_bind ?_; refine wp_if_pos pl ?_; refine tup_byv Tm hx fun y => ?_)
        | refine wp_if_pos pl (wpAny_bind (tup_byv Tm hx fun y => ?_))
      exact both y
    · first
        | (refine wpAny_bind ?_; refine wp_if_neg pl ?_; refine wpAny_pure ?_)
        | refine wp_if_neg pl (wpAny_bind (wpAny_pure ?_))
      exact both true
end kinds
end SG
namespace SG
open PySem PySem.Spec PyProof.Rows L2
/-- what a set at S, filled one by one, is known to be behind i things; base: what stood before it -/
structure Fills (P : Program) (w : World) (A : Around) (S : Addr) (base : Heap) (n : Nat) (Pv : Nat → Value → Prop) (J : Nat → Heap → Prop) : Prop where
  stay : ∀ (i : Nat) (h h' : Heap), J i h → (∀ b o, (b = S ∨ ∃ x, base.get? b = some x) → h.get? b = some o → h'.get? b = some o) → J i h'
  adds : ∀ (i : Nat) (v : Value) (s : Shared) (Q : Shared → Prop) (E : Value → Shared → Prop), i < n → Pv i v → J i s.heap →
    (∀ (h' : Heap) (tk : Nat), s.toks ≤ tk → Heap.SameBut S s.heap h' → J (i + 1) h' → Q { s with heap := h', toks := tk }) → wpAny (model P w) A (setAdd S v) (fun _ s' => Q s') E s
section
variable {P : Program} {w : World} {A : Around} {s : Shared}
theorem fill {I S : Addr} {fp wr : List Addr} {G : Array GenState → Array GenState → Prop} {n : Nat} {Pv : Nat → Value → Prop} {St : Nat → Shared → Prop} {R : Result → Shared → Prop} {base : Heap} {J : Nat → Heap → Prop}
    (W : WalksS P w A.in1 I fp wr G n Pv St) (Fi : Fills P w A.in1 S base n Pv J) (off : S ∉ fp) (old : ∀ b ∈ wr, base.get? b = none) : ∀ (d i : Nat) (s : Shared), n - i = d → i ≤ n → St i s → J i s.heap →
      (∀ s', Moved (S :: wr) G s s' → J n s'.heap → R (.ok (.ret .none)) s') → codeAny (model P w) A (.builtin "set.update.loop" ⟨[.ref S, .ref I], []⟩) R s := by
  have up : ∀ b ∈ wr, b ∈ S :: wr := fun b hb => List.mem_cons_of_mem _ hb
  have still : ∀ {i : Nat} {s s' : Shared}, Moved wr G s s' → J i s.heap → J i s'.heap := fun {i s s'} mv j => Fi.stay i _ _ j fun b o hb e => mv.heap b o (fun hw => by
    rcases hb with z | ⟨x, z⟩
    · exact off (W.sub _ (z ▸ hw))
    · rw [old b hw] at z
      cases z) e
  intro d
  induction d with
  | zero =>
    intro i s hd hi st j fin
    have e : i = n := by omega
    subst e
    refine codeAny_builtin F.entry_set_update_loop ?_
    rw [Around.under_plainId F.plain_set_update_loop _]
    show wpAny _ A.in1 (pyNext (.ref I) >>= _) _ _ s
    refine wpAny_bind (W.done s _ _ st fun s' mv => ?_)
    exact wpAny_pure (fin s' (mv.mono up) (still mv j))
  | succ d ih =>
    intro i s hd hi st j fin
    have lt : i < n := by omega
    refine codeAny_builtin F.entry_set_update_loop ?_
    rw [Around.under_plainId F.plain_set_update_loop _]
    show wpAny _ A.in1 (pyNext (.ref I) >>= _) _ _ s
    refine wpAny_bind (W.item i s _ _ lt st fun v s' pv st' mv => ?_)
    show wpAny _ A.in1 (holding [v] (setAdd S v) >>= _) _ _ s'
    refine wpAny_bind (wpAny_holding (Fi.adds i v s' _ _ lt pv (still mv j) fun h' tk ht sb j' => ?_))
    have out : ∀ b o, b ∉ S :: wr → s'.heap.get? b = some o → h'.get? b = some o := fun b o hb e => by
      rw [sb.2 b fun z => hb (by rw [z]; exact List.mem_cons_self)]
      exact e
    refine wpAny_pure ⟨plainId_quiet F.plain_set_update_loop _, ih (i + 1) _ (by omega) lt (W.frame _ s' _ _ st' ht fun b hb o e => ?_) j' fun s2 mv2 j2 => ?_⟩
    · rw [sb.2 b fun z => off (z ▸ hb)]
      exact e
    · exact fin s2 (Moved.trans W.gtrans ((mv.mono up).then_heap ht out) mv2) j2
end
abbrev bare (w : World) : Obj := { cls := .type "set", dict := none, data := .set #[] 0 (.fresh 0 0 (!w.params.followText "set-order")) }
section
variable {P : Program} {w : World} {A : Around} {E : Value → Shared → Prop} {s : Shared}
theorem make {l : Addr} {its : Array Value} {J : Nat → Heap → Prop} {Q : Value → Shared → Prop} (hh : A.handled = none) (hl : s.heap.IsList l its ∨ s.heap.IsTuple l its)
    (Fi : Fills P w A.in1.in1.in1 s.heap.objs.size s.heap its.size (fun i v => its[i]? = some v) J)
    (j0 : ∀ h : Heap, h.get? s.heap.objs.size = some (bare w) → (∀ b o, s.heap.get? b = some o → h.get? b = some o) → J 0 h)
    (q : ∀ (h' : Heap) (tk : Nat), J its.size h' → (∀ b o, s.heap.get? b = some o → h'.get? b = some o) → Q (.ref s.heap.objs.size) { s with heap := h', toks := tk }) :
    wpAny (model P w) A (call (.type "set") [.ref l]) Q E s := by
  obtain ⟨c, tl, hmro⟩ := F.called_set.mro
  have hmade := F.called_set.made
  have hsub := F.called_set.sub
  refine wpAny_call (codeAny_of_tree ?_)
  show wpAny _ _ (callAny (.type "set") _) _ _ _
  refine wpAny_pure ⟨Code.quiet_builtin _ (by decide +kernel), codeAny_builtin F.entry_type_call ?_⟩
  rw [Around.under_plain (weight_type_call_type "set" [.ref l] []) rfl]
  have h1 := F.called_set.notType
  have h2 := F.called_set.canCreate
  have h3 := F.typeCall_set_1 (.ref l)
  repeat (any_goals (first | assumption | wp_step))
  refine codeAny_mono (code_set_led1 (.ref l) (E := E) (Q₁ := fun ob s1 => ob = .ref s.heap.objs.size ∧ s1 = { s with heap := s.heap.push (bare w) }) ⟨rfl, rfl⟩) fun r s1 hr => ?_
  cases r with
  | error e => exact hr
  | ok fl =>
    cases fl with
    | ret ob =>
      obtain ⟨rfl, rfl⟩ := hr
      have g0 : (s.heap.push (bare w)).get? s.heap.objs.size = some (bare w) := Heap.get?_push_size _ rfl
      have ty : Shared.TypeIs { s with heap := s.heap.push (bare w) } (.ref s.heap.objs.size) "set" := ⟨_, g0, rfl⟩
      have h4 := F.called_set.init.lookup
      have h5 := F.called_set.init.bind (.ref s.heap.objs.size)
      repeat (any_goals (first | assumption | wp_step))
      refine codeAny_mono (codeAny_call_builtin (R := wants (fun r s2 => r = .none ∧ ∃ h' tk, s2 = { s with heap := h', toks := tk } ∧ J its.size h' ∧ ∀ b o, s.heap.get? b = some o → h'.get? b = some o) E) F.called_set.init.plain F.entry_set_init (check_set_init_1 ty ?_)) fun r2 s2 hr2 => ?_
      · have lt : ∀ {b o}, s.heap.get? b = some o → b < s.heap.objs.size := fun e => Heap.lt_size e
        have nw : ∀ b, s.heap.objs.size ≤ b → s.heap.get? b = none := fun b hb => by
          cases z : s.heap.get? b with
          | none => rfl
          | some o => exact absurd (Nat.lt_of_lt_of_le (lt z) hb) (Nat.lt_irrefl _)
        have hh3 : A.in1.in1.in1.handled = none := by simp [hh]
        have z1 : (s.heap.push (bare w)).objs.size = s.heap.objs.size + 1 := Heap.size_push ..
        have ends : ∀ (s' : Shared), Moved [s.heap.objs.size, (s.heap.push (bare w)).objs.size] (fun a b => b = a) { s with heap := (s.heap.push (bare w)) } s' → J its.size s'.heap →
            ∃ h' tk, s' = { s with heap := h', toks := tk } ∧ J its.size h' ∧ ∀ b o, s.heap.get? b = some o → h'.get? b = some o := fun s' mv j => by
          obtain ⟨h', g', d', tk, os'⟩ := s'
          have e1 : g' = s.gens := mv.gens
          have e2 : d' = s.drawn := mv.drawn
          have e3 : os' = s.os := mv.os
          subst e1 e2 e3
          refine ⟨h', tk, rfl, j, fun b o e => mv.heap b o (fun hb => ?_) (Heap.get?_push_of_some _ e)⟩
          have hb2 := lt e
          simp only [List.mem_cons, List.not_mem_nil, or_false] at hb
          rcases hb with z | z
          · rw [z] at hb2
            exact Nat.lt_irrefl _ hb2
          · rw [z, z1] at hb2
            exact absurd hb2 (Nat.not_lt.mpr (Nat.le_succ _))
        rcases hl with hl | hl
        · obtain ⟨⟨ocls, odict, odata, oslots⟩, hol, hcl, nl, hdl⟩ := hl
          simp only at hcl hdl
          subst hcl hdl
          have hol' := Heap.get?_push_of_some (bare w) hol
          have hl1 : (s.heap.push (bare w)).IsList l its := ⟨_, hol', rfl, nl, rfl⟩
          have h6 := F.sub_list_set
          have h7 := F.sub_list_frozenset
          have h8 : (Value.type "list" == Value.type "dict") = false := by decide
          unfold Builtin.«set.__init__» noKeywords Builtin.Frozenset.updateFrom
          generalize hPI : pyIter = PI
          wp_walk
          subst hPI
          refine wpAny_pyIter_list hl1 (wpAny_bind (wpAny_runValue ?_))
          have hls := lt hol
          refine fill ((Walks.list hh3 _ l (by rw [z1]; exact Nat.ne_of_lt (Nat.lt_succ_of_lt hls)) its).toS) Fi (by rw [z1]; simp only [List.mem_cons, List.not_mem_nil, or_false, not_or]; exact ⟨Nat.ne_of_lt (Nat.lt_succ_self _), (Nat.ne_of_lt hls).symm⟩) (fun b hb => nw b (by rw [List.mem_singleton.mp hb, z1]; exact Nat.le_succ _)) (its.size - 0) 0 _ (by omega) (Nat.zero_le _)
            ⟨⟨_, Heap.get?_push_size _ rfl, rfl, rfl⟩, hl1.push _⟩ (j0 _ (Heap.get?_push_of_some _ g0) fun b o e => Heap.get?_push_of_some _ (Heap.get?_push_of_some _ e)) fun s' mv j => ?_
          refine wpAny_pure ?_
          obtain ⟨h', tk, e1, e2, e3⟩ := ends s' ⟨fun b o hb e => mv.heap b o hb (Heap.get?_push_of_some _ e), mv.gens, mv.drawn, mv.os, mv.toks⟩ j
          exact wpAny_pure ⟨rfl, h', tk, e1, e2, e3⟩
        · obtain ⟨⟨ocls, odict, odata, oslots⟩, hol, hcl, nl, hdl⟩ := hl
          simp only at hcl hdl
          subst hcl hdl
          have hol' := Heap.get?_push_of_some (bare w) hol
          have hl1 : (s.heap.push (bare w)).IsTuple l its := ⟨_, hol', rfl, nl, rfl⟩
          have h6 := F.sub_tuple_set
          have h7 := F.sub_tuple_frozenset
          have h8 : (Value.type "tuple" == Value.type "dict") = false := by decide
          unfold Builtin.«set.__init__» noKeywords Builtin.Frozenset.updateFrom
          generalize hPI : pyIter = PI
          wp_walk
          subst hPI
          refine wpAny_pyIter_tuple hl1 (wpAny_bind (wpAny_runValue ?_))
          have hls := lt hol
          refine fill ((Walks.tuple hh3 _ l (by rw [z1]; exact Nat.ne_of_lt (Nat.lt_succ_of_lt hls)) its).toS) Fi (by rw [z1]; simp only [List.mem_cons, List.not_mem_nil, or_false, not_or]; exact ⟨Nat.ne_of_lt (Nat.lt_succ_self _), (Nat.ne_of_lt hls).symm⟩) (fun b hb => nw b (by rw [List.mem_singleton.mp hb, z1]; exact Nat.le_succ _)) (its.size - 0) 0 _ (by omega) (Nat.zero_le _)
            ⟨⟨_, Heap.get?_push_size _ rfl, rfl, rfl⟩, hl1.push _⟩ (j0 _ (Heap.get?_push_of_some _ g0) fun b o e => Heap.get?_push_of_some _ (Heap.get?_push_of_some _ e)) fun s' mv j => ?_
          refine wpAny_pure ?_
          obtain ⟨h', tk, e1, e2, e3⟩ := ends s' ⟨fun b o hb e => mv.heap b o hb (Heap.get?_push_of_some _ e), mv.gens, mv.drawn, mv.os, mv.toks⟩ j
          exact wpAny_pure ⟨rfl, h', tk, e1, e2, e3⟩
      · cases r2 with
        | error e => exact hr2
        | ok fl2 =>
          cases fl2 with
          | ret r =>
            obtain ⟨rfl, h', tk, rfl, j, kp⟩ := hr2
            repeat (any_goals (first | assumption | wp_step))
            exact q _ _ j kp
          | _ => exact hr2.elim
    | _ => exact hr.elim
end
end SG
namespace SG
open PySem PySem.Spec PyProof.Rows L2
/-! ### how many different ones -/
section
variable {α : Type} [DecidableEq α]
theorem sub_len : ∀ {l r : List α}, l.Nodup → (∀ x ∈ l, x ∈ r) → l.length ≤ r.length
  | [], _, _, _ => Nat.zero_le _
  | x :: l, r, nd, h => by
    have h1 := List.nodup_cons.mp nd
    have hx := h x List.mem_cons_self
    have h2 : ∀ y ∈ l, y ∈ r.erase x := fun y hy => (List.mem_erase_of_ne (a := y) (b := x) fun e => h1.1 (by rw [← e]; exact hy)).mpr (h y (List.mem_cons_of_mem _ hy))
    have h3 := sub_len h1.2 h2
    rw [List.length_erase_of_mem hx] at h3
    have h4 : 0 < r.length := List.length_pos_of_mem hx
    rw [List.length_cons]
    omega
theorem less : ∀ {r : List α}, ¬ r.Nodup → ∃ l : List α, l.length < r.length ∧ ∀ x ∈ r, x ∈ l
  | [], h => absurd List.nodup_nil h
  | x :: r, h => by
    by_cases hx : x ∈ r
    · refine ⟨r, by simp, fun y hy => ?_⟩
      rcases List.mem_cons.mp hy with e | e
      · rw [e]
        exact hx
      · exact e
    · obtain ⟨l, h1, h2⟩ := less fun nd => h (List.nodup_cons.mpr ⟨hx, nd⟩)
      refine ⟨x :: l, by simpa using h1, fun y hy => ?_⟩
      rcases List.mem_cons.mp hy with e | e
      · rw [e]
        exact List.mem_cons_self
      · exact List.mem_cons_of_mem _ (h2 y e)
theorem as_many {l r : List α} (nd : l.Nodup) (h1 : ∀ x ∈ l, x ∈ r) (h2 : ∀ x ∈ r, x ∈ l) : l.length ≤ r.length ∧ (l.length = r.length ↔ r.Nodup) := by
  refine ⟨sub_len nd h1, fun e => ?_, fun nr => Nat.le_antisymm (sub_len nd h1) (sub_len nr h2)⟩
  rcases Classical.em r.Nodup with z | z
  · exact z
  · obtain ⟨l', q1, q2⟩ := less z
    have := sub_len nd fun x hx => q2 x (h1 x hx)
    omega
theorem take_one {l : List α} {i : Nat} {x : α} (h : l[i]? = some x) : l.take (i + 1) = l.take i ++ [x] := by
  rw [List.take_succ, h]
  rfl
end
section
variable {P : Program} {w : World} {A : Around} {E : Value → Shared → Prop} {s : Shared}
/-! ### tuples of texts and ints -/
theorem fills_tup {ks : List (Mem Key)} {its : Array Value} (e : its.toList = ks.map fun m => Value.ref m.1) (hk : ∀ m ∈ ks, IsTupleKey (mixKind P w) s.heap m.2 m.1) (few : ks.length < 64) (hu : A.units < cLine) :
    Fills P w A s.heap.objs.size s.heap its.size (fun i v => its[i]? = some v) fun i h => (∀ b o, s.heap.get? b = some o → h.get? b = some o) ∧
      ∃ M es ep t, TSet (mixKind P w) h s.heap.objs.size M es ep t ∧ (∀ m ∈ M, m ∈ ks.take i) ∧ (∀ m ∈ ks.take i, m.2 ∈ M.map (·.2)) ∧ M.length ≤ i := by
  have nw : s.heap.get? s.heap.objs.size = none := by
    cases z : s.heap.get? s.heap.objs.size with
    | none => rfl
    | some o => exact absurd (Heap.lt_size z) (Nat.lt_irrefl _)
  have up : ∀ {h : Heap} {m : Mem Key}, (∀ b o, s.heap.get? b = some o → h.get? b = some o) → m ∈ ks → IsTupleKey (mixKind P w) h m.2 m.1 := fun {h m} k hm => by
    obtain ⟨o, items, n, g, r⟩ := hk m hm
    exact ⟨o, items, n, k _ _ g, r⟩
  constructor
  · rintro i h h' ⟨k0, M, es, ep, t, S, m1, m2, m3⟩ kp
    have k1 : ∀ b o, s.heap.get? b = some o → h'.get? b = some o := fun b o q => kp b o (.inr ⟨o, q⟩) (k0 b o q)
    obtain ⟨o, g1, g2⟩ := S.obj
    exact ⟨k1, M, es, ep, t, ⟨⟨o, kp _ _ (.inl rfl) g1, g2⟩, S.ent, S.tok, S.uni, fun m hm => up k1 (List.mem_of_mem_take (m1 m hm)), S.led, S.rom, S.few⟩, m1, m2, m3⟩
  · rintro i v s' Q E' lt pv ⟨k0, M, es, ep, t, S, m1, m2, m3⟩ q
    have z : its.toList[i]? = some v := by
      rw [Array.getElem?_toList]
      exact pv
    rw [e, List.getElem?_map] at z
    obtain ⟨m, hm, rfl⟩ : ∃ m, ks[i]? = some m ∧ v = .ref m.1 := by
      cases y : ks[i]? with
      | none =>
        rw [y] at z
        cases z
      | some m =>
        rw [y] at z
        exact ⟨m, rfl, (Option.some.inj z).symm⟩
    have mm := List.mem_of_getElem? hm
    have il : i < ks.length := (List.getElem?_eq_some_iff.mp hm).1
    have hx := up k0 mm
    unfold setAdd
    refine wpAny_holding (wpAny_bind (wpAny_pyHash_tuple hu hx ?_))
    refine more (s := { s' with toks := s'.toks + (m.2.length + 1) }) tame_mix S hx hu (by omega) fun b h' M' es' ep' t' sb S' c1 c2 => ?_
    refine q h' _ (Nat.le_add_right _ _) sb ⟨fun b o g => (sb.2 b fun y => by rw [y, nw] at g; cases g).trans (k0 b o g), M', es', ep', t', S', ?_⟩
    rw [take_one hm]
    by_cases hin : m.2 ∈ M.map (·.2)
    · rw [c1 hin]
      refine ⟨fun n hn => List.mem_append_left _ (m1 n hn), fun n hn => ?_, by omega⟩
      rcases List.mem_append.mp hn with y | y
      · exact m2 n y
      · rw [List.mem_singleton.mp y]
        exact hin
    · have pm := c2 hin
      refine ⟨fun n hn => ?_, fun n hn => ?_, by rw [pm.length_eq, List.length_cons]; omega⟩
      · rcases List.mem_cons.mp (pm.mem_iff.mp hn) with y | y
        · rw [y]
          exact List.mem_append_right _ (List.mem_singleton.mpr rfl)
        · exact List.mem_append_left _ (m1 n y)
      · rw [(pm.map (·.2)).mem_iff, List.map_cons]
        rcases List.mem_append.mp hn with y | y
        · exact List.mem_cons_of_mem _ (m2 n y)
        · rw [List.mem_singleton.mp y]
          exact List.mem_cons_self
theorem fresh_tup {h : Heap} {a : Addr} (g : h.get? a = some (bare w)) : TSet (mixKind P w) h a [] #[] 0 (.fresh 0 0 (!w.params.followText "set-order")) where
  obj := ⟨_, g, ⟨rfl, rfl, rfl⟩, rfl⟩
  ent := rfl
  tok := ⟨List.Pairwise.nil, rfl, rfl, .inl rfl, (fun x hx => nomatch hx), (fun i h j hi => by simp at hi)⟩
  uni := List.nodup_nil
  mem := fun m hm => nomatch hm
  led := by
    show _ ∨ (!w.params.followText "set-order") = true
    cases w.params.followText "set-order"
    · exact .inr rfl
    · exact .inl rfl
  rom := by
    show 0 * 5 < 7 * 3
    decide
  few := by
    show 0 < 64
    decide
/-! ### texts -/
theorem fills_str {xs : List Str} {its : Array Value} (e : ∀ (i : Nat) v, its[i]? = some v → ∃ x t, xs[i]? = some x ∧ v = Value.str x t) (few : xs.length < 64) :
    Fills P w A s.heap.objs.size s.heap its.size (fun i v => its[i]? = some v) fun i h => (∀ b o, s.heap.get? b = some o → h.get? b = some o) ∧
      ∃ (Sf : Str → Bool) (l : List Str), h.SetOf (PySem.strKind P w) s.heap.objs.size Sf l.length ∧ (∀ k, Sf k = true ↔ k ∈ xs.take i) ∧ l.Nodup ∧ (∀ k, k ∈ l ↔ k ∈ xs.take i) ∧ l.length ≤ i := by
  have nw : s.heap.get? s.heap.objs.size = none := by
    cases z : s.heap.get? s.heap.objs.size with
    | none => rfl
    | some o => exact absurd (Heap.lt_size z) (Nat.lt_irrefl _)
  constructor
  · rintro i h h' ⟨k0, Sf, l, ⟨o, es, ep, t, g, r⟩, m⟩ kp
    exact ⟨fun b o q => kp b o (.inr ⟨o, q⟩) (k0 b o q), Sf, l, ⟨o, es, ep, t, kp _ _ (.inl rfl) g, r⟩, m⟩
  · rintro i v s' Q E' lt pv ⟨k0, Sf, l, S, m1, m2, m3, m4⟩ q
    obtain ⟨x, t, hx, rfl⟩ := e i v pv
    have il : i < xs.length := (List.getElem?_eq_some_iff.mp hx).1
    unfold setAdd
    refine wpAny_holding (wpAny_bind ((PySem.strKind P w).pyHash (k := x) (strKind_is _ _ _ _) ?_))
    refine wpAny_setAddHashed_of (knd := PySem.strKind P w) (s := { s' with toks := s'.toks + 1 }) (strKind_is _ _ _ _) rfl S (by unfold scanBound; omega) fun h' sb S' => ?_
    refine q h' _ (Nat.le_add_right _ _) sb ⟨fun b o g => (sb.2 b fun y => by rw [y, nw] at g; cases g).trans (k0 b o g), ?_⟩
    rw [take_one hx]
    have mem : ∀ k, (Sf k || decide (k = x)) = true ↔ k ∈ xs.take i ++ [x] := fun k => by
      rw [Bool.or_eq_true, decide_eq_true_eq, m1, List.mem_append, List.mem_singleton]
    by_cases hin : Sf x = true
    · rw [hin, if_pos rfl] at S'
      refine ⟨_, l, S', mem, m2, fun k => ?_, by omega⟩
      rw [m3, List.mem_append, List.mem_singleton]
      exact ⟨.inl, fun y => y.elim id fun y => by rw [y]; exact (m1 x).mp hin⟩
    · rw [if_neg hin] at S'
      have hn : x ∉ l := fun y => hin ((m1 x).mpr ((m3 x).mp y))
      refine ⟨_, x :: l, S', mem, List.nodup_cons.mpr ⟨hn, m2⟩, fun k => ?_, by rw [List.length_cons]; omega⟩
      rw [List.mem_cons, m3, List.mem_append, List.mem_singleton]
      exact ⟨fun y => y.elim .inr .inl, fun y => y.elim .inr .inl⟩
end
/-! ### len(set(e)) -/
section
variable {X : Cx}
def tLenSetD (K : PySem.W.Frag) (ta : TE) : TE := fun σ H Q => ta σ H fun x H1 => ∃ l : Addr, x = .ref l ∧
  ((∃ xs : List Str, (SqL K H1 l (xs.map V.str) ∨ SqT K H1 l (xs.map V.str)) ∧ xs.length < 64 ∧ ∀ n : Nat, n ≤ xs.length → (n = xs.length ↔ xs.Nodup) → Q (.int n) H1) ∨
  ∃ ks : List (Mem Key), (SqL K H1 l (ks.map fun m => V.ref m.1) ∨ SqT K H1 l (ks.map fun m => V.ref m.1)) ∧ (∀ m ∈ ks, SqT K H1 m.1 (m.2.map kV)) ∧ ks.length < 64 ∧
    ∀ n : Nat, n ≤ ks.length → (n = ks.length ↔ (ks.map (·.2)).Nodup) → Q (.int n) H1)
theorem its_keys {P : Program} {w : World} : ∀ {k : List Key} {us : List Value}, Vals (k.map kV) us → ItemsAre (mixKind P w) k us
  | [], _, .nil => .nil
  | .inl i :: ks, _, .cons r t => by
    obtain ⟨tk, rfl⟩ := r
    exact .cons (mixKind_int P w i tk) (its_keys t)
  | .inr x :: ks, _, .cons r t => by
    obtain ⟨tk, rfl⟩ := r
    exact .cons (mixKind_str P w x tk) (its_keys t)
theorem its_refs : ∀ {ks : List (Mem Key)} {us : List Value}, Vals (ks.map fun m => V.ref m.1) us → us = ks.map fun m => Value.ref m.1
  | [], _, .nil => rfl
  | m :: ks, _, .cons r t => by
    cases r
    rw [its_refs t]
    rfl
theorem its_strs {xs : List Str} {us : List Value} (r : Vals (xs.map V.str) us) (i : Nat) (v : Value) (h : us[i]? = some v) : ∃ x t, xs[i]? = some x ∧ v = Value.str x t := by
  induction xs generalizing us i with
  | nil =>
    cases r
    simp at h
  | cons y ys ih =>
    cases r with
    | cons r t =>
      obtain ⟨tk, rfl⟩ := r
      cases i with
      | zero =>
        simp at h
        exact ⟨y, tk, rfl, h.symm⟩
      | succ i => exact ih t i (by simpa using h)
theorem pe_lenSetD {a : Expr} {ta : TE} {p p2 q pos : Pos} (hc : X.calm = true) (hu : X.A.units + 3 < cLine) (hg : Gl X "len") (hm : X.mg "len" = none) (hg2 : Gl X "set") (hm2 : X.mg "set" = none) (ha : PE X a ta)
    (na : starEach [a] X.env = (false, eval a X.env) :: starEach [] X.env := by rfl) : PE X (.Call (.Name "len" p) [.Call (.Name "set" p2) [a] [] q] [] pos) (tLenSetD X.K ta) := by
  refine ⟨fun pins s σ H Q I h => ?_⟩
  refine Call_ (ld_blt I hg hm boot_len ?_)
  refine PyProof.Rows.callWith_builtin1 (PyProof.Rows.args_cons ?_ rfl) rfl rfl
  refine Call_ (ld_blt I hg2 hm2 boot_set ?_)
  refine PyProof.Rows.callWith_type1 (PyProof.Rows.args_cons (thn (ha.run pins s σ H _ I h) fun v s1 ⟨x, H1, I1, r1, q1⟩ => PyProof.Rows.args_nil ?_) na) na rfl
  obtain ⟨l, rfl, q1⟩ := q1
  cases r1
  have seq : ∀ {vs : List V}, (SqL X.K H1 l vs ∨ SqT X.K H1 l vs) → ∃ its : Array Value, Vals vs its.toList ∧ (s1.heap.IsList l its ∨ s1.heap.IsTuple l its) := fun {vs} hq => by
    rcases hq with hq | hq
    · obtain ⟨its, r, pl, _⟩ := I1.list hq
      exact ⟨its.toArray, by simpa using r, .inl pl.isList⟩
    · obtain ⟨its, r, pl, _⟩ := I1.tuple hq
      exact ⟨its.toArray, by simpa using r, .inr pl⟩
  have fin : ∀ (h' : Heap) (tk : Nat) (o : Obj) (es : Array (Int × Value)) (ep : Nat) (t : SetTable), h'.get? s1.heap.objs.size = some o → o.ExactSet → o.data = .set es ep t → t.fits es.size = true → (es.size : Int) < 2 ^ 63 →
      (∀ b o, s1.heap.get? b = some o → h'.get? b = some o) → Q (.int es.size) H1 →
      wpAny (model X.prog X.w) X.A (spliced (backTo pos (starEach [] X.env))) (fun vs s2 => wpAny (model X.prog X.w) X.A (call (.builtin "len") (Value.ref s1.heap.objs.size :: vs)) (EP X pins σ Q) X.xe s2) X.xe { s1 with heap := h', toks := tk } := fun h' tk o es ep t g1 g2 g3 g4 g5 kp qq => by
    have I2 : Inv X pins σ H1 { s1 with heap := h', toks := tk } := I1.kept fun b o e => kp b o e
    exact PyProof.Rows.args_nil (call_len_set g1 g2 g3 g4 g5 ⟨.int es.size, H1, I2.tok _, ⟨_, rfl⟩, qq⟩)
  rcases q1 with ⟨xs, hq, few, q1⟩ | ⟨ks, hq, hk, few, q1⟩
  · obtain ⟨its, r, hl⟩ := seq hq
    refine make (I1.ok.hd hc) hl (fills_str (xs := xs) (fun i v hv => its_strs r i v (by rw [Array.getElem?_toList]; exact hv)) few)
      (fun h g kp => ⟨kp, fun _ => false, [], ?_, fun k => by simp, List.nodup_nil, fun k => by simp, Nat.le_refl _⟩) fun h' tk ⟨_, Sf, ls, S, _, m2, m3, m4⟩ kp => ?_
    · exact SetOf_congr ((setObjOf_fresh (knd := PySem.strKind X.prog X.w) (!X.w.params.followText "set-order")).setOf g (by unfold scanBound; omega)) (fun _ => rfl) rfl
    · have n : its.size = xs.length := by
        have z := r.length
        rw [List.length_map, Array.length_toList] at z
        exact z.symm
      rw [n, List.take_length] at m3
      obtain ⟨a1, a2⟩ := as_many m2 (fun x hx => (m3 x).mp hx) fun x hx => (m3 x).mpr hx
      obtain ⟨o, es, ep, t, g1, g2, g3, _, _, _, g4, g5⟩ := S
      refine fin h' tk o es ep t g1 g2 g3 g4 (by rw [g5]; omega) kp ?_
      rw [g5]
      exact q1 _ a1 a2
  · obtain ⟨its, r, hl⟩ := seq hq
    have hx : ∀ m ∈ ks, IsTupleKey (mixKind X.prog X.w) s1.heap m.2 m.1 := fun m hm => by
      obtain ⟨us, ru, ⟨o, g1, g2, n, g3⟩, _⟩ := I1.tuple (hk m hm)
      exact ⟨o, _, n, g1, g2, g3, by simpa using its_keys ru⟩
    refine make (I1.ok.hd hc) hl (fills_tup (its_refs r) hx few hu) (fun h g kp => ⟨kp, [], #[], 0, _, fresh_tup g, (fun m hm => nomatch hm), (fun m hm => by simp at hm), Nat.le_refl _⟩) fun h' tk ⟨_, M, es, ep, t, S, m1, m2, m3⟩ kp => ?_
    have n : its.size = ks.length := by
      have z := r.length
      rw [List.length_map, Array.length_toList] at z
      exact z.symm
    rw [n, List.take_length] at m1 m2
    have zz : (M.map (·.2)).length ≤ (ks.map (·.2)).length ∧ ((M.map (·.2)).length = (ks.map (·.2)).length ↔ (ks.map (·.2)).Nodup) := as_many S.uni (fun x hx2 => by
        obtain ⟨m, hm, rfl⟩ := List.mem_map.mp hx2
        exact List.mem_map.mpr ⟨m, m1 m hm, rfl⟩) fun x hx2 => by
        obtain ⟨m, hm, rfl⟩ := List.mem_map.mp hx2
        exact m2 m hm
    rw [List.length_map, List.length_map] at zz
    obtain ⟨o, g1, g2, g3⟩ := S.obj
    have sz := ents_len S.ent
    refine fin h' tk o es ep t g1 g2 g3 (fits_of S.tok sz (by have := S.rom; omega)) (by rw [sz]; have := S.few; omega) kp ?_
    rw [sz]
    exact q1 _ zz.1 zz.2
end
end SG
namespace CC
open PySem L2 TL
/-! ### lines by their rules: the dict -/
def prs (rs : List R) (us : List V) : List (Key × V) := List.zipWith (fun (r : R) (v : V) => ((Sum.inr (lineS r) : Key), v)) rs us
theorem prs_get {K : PySem.W.Frag} {H : Hp} : ∀ {rs : List R} {us : List V}, (∀ r ∈ rs, r.ok 6) → DpAll K H us (rs.map R.d) → ∀ {r : R}, r ∈ rs → ∃ v, valV (prs rs us) (Sum.inr (lineS r)) = some v ∧ Dp K H v r.d
  | [], _, _, _, _, h => nomatch h
  | s :: rs, _, ho, .cons (v := v) (vs := vs) h1 h2, r, hr => by
    by_cases e : s = r
    · subst e
      exact ⟨v, valV_pos rfl, h1⟩
    · have ne : ¬ (Sum.inr (lineS s) : Key) = Sum.inr (lineS r) := fun z => e (line_inj (ho s List.mem_cons_self) (ho r hr) (Sum.inr.inj z))
      have hr' : r ∈ rs := by
        rcases List.mem_cons.mp hr with z | z
        · exact absurd z.symm e
        · exact z
      obtain ⟨u, u1, u2⟩ := prs_get (fun x hx => ho x (List.mem_cons_of_mem _ hx)) h2 hr'
      exact ⟨u, (valV_neg (p := (Sum.inr (lineS s), v)) ne).trans u1, u2⟩
theorem val_none {kvs : List (Key × V)} {k : Key} (h : ∀ p ∈ kvs, p.1 ≠ k) : valV kvs k = none := by
  induction kvs with
  | nil => rfl
  | cons p r ih => rw [valV_neg (h p List.mem_cons_self)]; exact ih fun q hq => h q (List.mem_cons_of_mem _ hq)
theorem prs_len {rs : List R} {us : List V} (h : us.length = rs.length) : (prs rs us).length = rs.length := by
  rw [prs, List.length_zipWith, h, Nat.min_self]
theorem prs_step {rs : List R} {us : List V} {i : Nat} {r : R} {v : V} (hr : rs[i]? = some r) (hv : us[i]? = some v) : (prs rs us).take (i + 1) = (prs rs us).take i ++ [(Sum.inr (lineS r), v)] := by
  rw [List.take_succ]
  have : (prs rs us)[i]? = some (Sum.inr (lineS r), v) := by
    rw [prs, List.getElem?_zipWith, hr, hv]
  rw [this]
  rfl
theorem prs_new {rs : List R} {us : List V} {i : Nat} {r : R} (ho : ∀ r ∈ rs, r.ok 6) (nd : rs.Nodup) (hr : rs[i]? = some r) : valV ((prs rs us).take i) (Sum.inr (lineS r)) = none := by
  refine val_none fun p hp e => ?_
  obtain ⟨j, hj⟩ := List.mem_iff_getElem?.mp hp
  have hji : j < i := by
    have := (List.getElem?_eq_some_iff.mp hj).1
    rw [List.length_take] at this
    omega
  rw [List.getElem?_take_of_lt hji, prs, List.getElem?_zipWith] at hj
  cases hs : rs[j]? with
  | none => rw [hs] at hj; cases us[j]? <;> cases hj
  | some s =>
    cases hu : us[j]? with
    | none => rw [hs, hu] at hj; cases hj
    | some u =>
      rw [hs, hu] at hj
      cases hj
      have e2 := line_inj (ho s (List.mem_of_getElem? hs)) (ho r (List.mem_of_getElem? hr)) (Sum.inr.inj e)
      subst e2
      exact absurd (nd_ix nd hs hr) (by omega)
theorem cut_last (xs : List V) (x : V) : cutV (xs ++ [x]) none (some (-1)) = xs := by
  unfold cutV
  have e : HT.sIx (xs ++ [x]).length (xs ++ [x]).length (some (-1)) = xs.length := by
    have := HT.clip_eq (-1) (xs ++ [x]).length (xs ++ [x]).length
    rw [if_pos (by decide)] at this
    have hl : (xs ++ [x]).length = xs.length + 1 := by simp
    omega
  rw [HT.sIx_none, e]
  simp
/-- a dict comprehension over a list -/
theorem dc_list {K : PySem.W.Frag} {a : Addr} {xs : List V} {g : TG} {tt : TT} {tk tv : TE} {vs : List Nat} {σ : L2.St} {H1 : Hp} {D : Addr} {N : Hp → Prop} (Pv : Nat → Hp → Prop) (h0 : Pv 0 (upd H1 D (.dK []))) (hl : ∀ i H, i ≤ xs.length → Pv i H → SqL K H a xs)
    (hs : ∀ i x H, xs[i]? = some x → Pv i H → g x (wipe σ vs) H fun τ H2 => wipe τ vs = wipe σ vs ∧ tt τ H2 fun b H3 => if b = true then tk τ H3 fun y H4 => tv τ H4 fun z H5 => ∃ kvs k, y = kV k ∧ H5 D = some (.dK kvs) ∧ kvs.length < sizeLine ∧ Pv (i + 1) (upd H5 D (.dK (putK kvs k z))) else Pv (i + 1) H3)
    (hd : ∀ H, Pv xs.length H → N H) :
    ∃ W : Nat → Nat → Hp → Prop, (∃ m, W 0 m (upd H1 D (.dK []))) ∧ ∀ i m H, W i m H → ((Itl K a).stop i H ∧ N H) ∨ ((Itl K a).go i H ∧ ∃ Nx : Hp → Prop, (∀ H', Nx H' → ∃ m', m' < m ∧ W (i + 1) m' H') ∧ ∀ x H', (Itl K a).yld i H x H' →
      g x (wipe σ vs) H' fun τ H2 => wipe τ vs = wipe σ vs ∧ tt τ H2 fun b H3 => if b = true then tk τ H3 fun y H4 => tv τ H4 fun z H5 => ∃ kvs k, y = kV k ∧ H5 D = some (.dK kvs) ∧ kvs.length < sizeLine ∧ Nx (upd H5 D (.dK (putK kvs k z))) else Nx H3) := by
  refine ⟨fun i m H => m = xs.length - i ∧ i ≤ xs.length ∧ Pv i H, ⟨xs.length, by simp, Nat.zero_le _, h0⟩, ?_⟩
  rintro i m H ⟨rfl, hi, p⟩
  have q := hl i H hi p
  by_cases lt : i < xs.length
  · refine .inr ⟨⟨xs, xs[i], q, by simp [lt]⟩, Pv (i + 1), fun H' p' => ⟨xs.length - (i + 1), by omega, rfl, lt, p'⟩, fun x H' y => ?_⟩
    obtain ⟨e, y⟩ := y
    subst e
    exact hs i x _ (y xs q) p
  · have e : i = xs.length := by omega
    subst e
    exact .inl ⟨⟨xs, q, Nat.le_refl _⟩, hd H p⟩
def spRulesOf (K : PySem.W.Frag) : Sp := fun vs H Q _ => ∃ (w : Nat) (rs : List R), vs = [.int (w : Int), .str (textS rs)] ∧ w ≤ 6 ∧ (∀ r ∈ rs, r.ok w) ∧ rs.Nodup ∧
  ∀ (p : Addr) (us : List V) (H' : Hp), Same H H' → H p = none → H' p = some (.lst us) → DpAll K (wo H' p) us (rs.map R.d) → Q (.ref p) H'
theorem few_rules {w : Nat} {rs : List R} (hw : w ≤ 6) (ho : ∀ r ∈ rs, r.ok w) (nd : rs.Nodup) : rs.length ≤ 60 := by
  have h := SG.sub_len nd fun r hr => mem_allR.mpr ((ho r hr).up hw)
  have e : (allR 6).length = 60 := by decide +kernel
  omega
section
variable {P : Program} {w : World} {K : PySem.W.Frag} {mg : Str → Option Value} {base : Heap} {kA : Addr}
abbrev nRO : List Str := ["width", "text", "known", "parts", "lines", "rule", "line"]
theorem scRulesOf : FnScope nRO ["width", "text"] (defScope sRulesOf) := ⟨rfl, rfl, rfl, by decide +kernel, rfl, by decide +kernel, by decide +kernel⟩
theorem ok_rulesof {f : Addr} {fd : FuncData} {k : Nat} (F : Fun K "rules_of" "rules_of" sRulesOf f fd) (T : Glb K mg kA) (cE : Cal P w K mg base "every_rule" ["width"] (spEvery K) 1)
 (cL : Cal P w K mg base "line_of" ["rule"] (spLine K) 1) : FnOk P w K mg base CX0 (k + 2) f fd ["width", "text"] (spRulesOf K) := by
  have GE := cE.ok (k + 1) (by omega)
  have GL := cL.ok (k + 1) (by omega)
  refine F.ok scRulesOf (fun vs H Q E h => ?_) (fun cdv A outer s H vs Q E hr h => ?_)
  · obtain ⟨w, rs, rfl, _⟩ := h
    rfl
  · obtain ⟨w, rs, rfl, hw, ho, nd, q⟩ := h
    have hu := hu_of hr
    have hu3 := Nat.lt_of_le_of_lt (Nat.add_le_add_left (by decide : 3 ≤ 64) _) hr.units
    have n := scRulesOf.nd
    have ho6 : ∀ r ∈ rs, r.ok 6 := fun r h => (ho r h).up hw
    refine ⟨_, pss_cons (ps_set (i := 2) n rfl (.inr rfl) (pe_dc (own := [("rule", 5)]) (g := gName 5) (tt := tYes) rfl n (pi_list (pe_call GE hr rfl cE.g cE.kp cE.b .nil pass0 (pa_cons (pv 0) pa_nil))) (blkOk_by (N := nRO) (sc := defScope sRulesOf) (by decide +kernel))
          (fun _ _ _ _ _ => pg_name (i := 5) n rfl (.inl rfl)) (fun _ _ _ _ _ => pts_nil) (fun _ _ _ _ _ => pe_call GL hr rfl cL.g cL.kp cL.b .nil pass0 (pa_cons (pv 5) pa_nil)) (fun _ _ _ _ _ => pv 5)))
      (pss_cons (ps_set (i := 3) n rfl (.inl rfl) (pe_split (pv 1) pe_str))
      (pss_cons (ps_set (i := 4) n rfl (.inl rfl) (pe_slice sl_list (pv 3) po_none (po_some (pe_un un_neg pe_int))))
      (pss_cons (ps_if (PW.pt (pw_or (pt_cmpR op_ne (pe_ix ix_list (pv 3) (pe_un un_neg pe_int) (fun _ _ => rfl)) pe_str (nomark _))
          (pw_or1 (pt_cmpR op_ne (SG.pe_lenSetD rfl hu3 (by rfl) T.len (by rfl) T.set (pv 4)) (pe_callB call_len_seq (by rfl) T.len PySem.boot_len (pa_cons (pv 4) pa_nil)) (nomark _))))) (pss_one (ps_ret pe_non)) pss_nil)
      (pss_cons (ps_if (pt_not (pt_val (pe_callB (cr_all rfl) (by rfl) T.all (by decide +kernel) (pa_cons (pe_lc (own := [("line", 6)]) (g := gName 6) (tt := tYes) rfl n (pi_list (pv 4)) (blkOk_by (N := nRO) (sc := defScope sRulesOf) (by decide +kernel))
          (fun _ _ _ _ _ => pg_name (i := 6) n rfl (.inl rfl)) (fun _ _ _ _ _ => pts_nil) (fun _ _ _ _ _ => pe_cmp (pc_din hu (pv 6) (pv 2)) rfl)) pa_nil)))) (pss_one (ps_ret pe_non)) pss_nil)
      (pss_one (ps_ret (pe_lc (own := [("line", 6)]) (g := gName 6) (tt := tYes) rfl n (pi_list (pv 4)) (blkOk_by (N := nRO) (sc := defScope sRulesOf) (by decide +kernel))
          (fun _ _ _ _ _ => pg_name (i := 6) n rfl (.inl rfl)) (fun _ _ _ _ _ => pts_nil) (fun _ _ _ _ _ => pe_dget hu (pv 2) (pv 6) (fun _ _ => rfl))))))))), ?_⟩
    refine ⟨_, rfl, w, rfl, hw, fun p us H1 s1 np hp dp => ⟨p, rfl, ⟨_, SqL.of hp⟩, fun D nD => ?_⟩⟩
    have dp1 : DpAll K H1 us ((allR w).map R.d) := dps_same (wo_le p) _ _ dp
    have ulen : us.length = (allR w).length := by rw [dps_len dp1, List.length_map]
    have oka : ∀ r ∈ allR w, r.ok 6 := fun r h => (mem_allR.mp h).up hw
    have nda := allR_nodup hw
    have few : (allR w).length ≤ 60 := few_rules hw (fun r h => mem_allR.mp h) nda
    have pD : p ≠ D := ne_of_none hp nD
    refine dc_list (xs := us) (fun i H => Same H1 (wo H D) ∧ H D = some (.dK ((prs (allR w) us).take i))) ⟨?_, upd_same⟩ (fun i H _ z => SqL.of (wo_le D _ _ (z.1 _ _ hp))) ?_ ?_
    · rw [wo_upd]
      exact fun b o e => by rw [wo_ne (ne_of_none e nD)]; exact e
    · rintro i v H2 hv ⟨e1, e2⟩
      obtain ⟨r, hr2, dr⟩ := dps_rat dp1 hv
      refine ⟨rfl, yes_if ?_⟩
      refine ⟨_, rfl, v, r, rfl, dp_same (e1.trans (wo_le D)) _ _ dr, oka r (List.mem_of_getElem? hr2), _, rfl, _, Sum.inr (lineS r), rfl, e2, ?_, ?_, ?_⟩
      · rw [List.length_take]
        exact Nat.lt_of_le_of_lt (Nat.min_le_right _ _) (by rw [prs_len ulen]; exact small1000 (by omega))
      · rw [wo_upd]
        exact e1
      · rw [upd_same, putK_new _ (prs_new oka nda hr2), prs_step hr2 hv]
    rintro H2 ⟨e1, e2⟩
    rw [List.take_of_length_le (by rw [prs_len ulen, ulen]; exact Nat.le_refl _)] at e2
    have dp2 : DpAll K (wo H2 D) us ((allR w).map R.d) := dps_same e1 _ _ dp1
    -- parts
    have tlen := text_len ho6
    have rlen := few_rules hw ho nd
    refine ⟨_, rfl, ⟨_, rfl⟩, _, _, rfl, rfl, by decide +kernel, Nat.le_trans (show (textS rs).length + 2 ≤ 100000 by omega) (by decide), fun p3 n3 => ?_⟩
    rw [split_text ho6, List.map_append]
    have m3 : Same H2 (upd H2 p3 (.lst ((rs.map lineS).map V.str ++ [Str.empty].map V.str))) := same_new n3
    have h3 : (upd H2 p3 (.lst ((rs.map lineS).map V.str ++ [Str.empty].map V.str))) p3 = some (.lst ((rs.map lineS).map V.str ++ [V.str Str.empty])) := upd_same
    generalize upd H2 p3 (.lst ((rs.map lineS).map V.str ++ [Str.empty].map V.str)) = H3 at m3 h3
    -- lines
    refine ⟨_, rfl, _, rfl, _, rfl, p3, _, rfl, SqL.of h3, fun p4 n4 => ?_⟩
    have e4 : cutV ((rs.map lineS).map V.str ++ [V.str Str.empty]) none (some (-1)) = (rs.map lineS).map V.str := cut_last _ _
    rw [e4]
    have m4 : Same H3 (upd H3 p4 (.lst ((rs.map lineS).map V.str))) := same_new n4
    have h4 : (upd H3 p4 (.lst ((rs.map lineS).map V.str))) p4 = some (.lst ((rs.map lineS).map V.str)) := upd_same
    generalize upd H3 p4 (.lst ((rs.map lineS).map V.str)) = H4 at m4 h4
    have h34 := m4 _ _ h3
    have nodl : (rs.map lineS).Nodup := by
      refine List.Pairwise.map _ ?_ ((List.pairwise_iff_forall_sublist.mpr ?_ : rs.Pairwise fun a b => lineS a ≠ lineS b))
      · exact fun a b h => h
      · intro a b hab e
        have ha : a ∈ rs := hab.subset (by simp)
        have hb : b ∈ rs := hab.subset (by simp)
        have e2 := line_inj (ho6 a ha) (ho6 b hb) e
        subst e2
        exact absurd (nd.sublist hab) (by simp)
    have ll : ((rs.map lineS).map V.str).length = rs.length := by rw [List.length_map, List.length_map]
    refine ⟨_, rfl, 1, rfl, p3, _, -1, _, rfl, rfl, SqL.of h34, atI_last _ _, rfl, _, rfl, ?_⟩
    refine iteF ⟨_, rfl, p4, rfl, .inl ⟨rs.map lineS, .inl (SqL.of h4), by rw [List.length_map]; omega, fun n n1 n2 => ?_⟩⟩
    have en : n = (rs.map lineS).length := n2.mpr nodl
    subst en
    refine ⟨_, rfl, p4, _, rfl, .inl (SqL.of h4), rfl, _, rfl, ?_⟩
    have e5 : (!decide (V.int (((rs.map lineS).length : Nat) : Int) = V.int ((((rs.map lineS).map V.str).length : Nat) : Int))) = false := by
      rw [ll, List.length_map]
      simp
    rw [e5]
    refine iteF ?_
    -- all([line in known for line in lines])
    have h24 : H4 D = some (.dK (prs (allR w) us)) := m4 _ _ (m3 _ _ e2)
    have m24 : Same H2 H4 := m3.trans m4
    refine ⟨_, rfl, p4, rfl, ⟨_, SqL.of h4⟩, fun D5 n5 => ?_⟩
    have at_ : ∀ {i : Nat} {x : V}, ((rs.map lineS).map V.str)[i]? = some x → ∃ r, rs[i]? = some r ∧ x = .str (lineS r) := fun {i x} h => by
      rw [List.getElem?_map, List.getElem?_map] at h
      cases z : rs[i]? with
      | none =>
        rw [z] at h
        cases h
      | some r =>
        rw [z] at h
        exact ⟨r, rfl, (Option.some.inj h).symm⟩
    refine lc_list (xs := (rs.map lineS).map V.str) (fun i H => Same H4 (wo H D5) ∧ H D5 = some (.lst ((List.replicate i true).map V.bl)) ∧ i ≤ 60) ⟨?_, upd_same, by omega⟩ (fun i H _ z => SqL.of (wo_le D5 _ _ (z.1 _ _ h4))) ?_ ?_
    · rw [wo_upd]
      exact fun b o e => by rw [wo_ne (ne_of_none e n5)]; exact e
    · rintro i x H5 hx ⟨f1, f2, f3⟩
      obtain ⟨r, hr2, rfl⟩ := at_ hx
      have il : i < rs.length := (List.getElem?_eq_some_iff.mp hr2).1
      obtain ⟨v, v1, _⟩ := prs_get oka dp2 (mem_allR.mpr (ho r (List.mem_of_getElem? hr2)))
      have h5 : H5 D = some (.dK (prs (allR w) us)) := wo_le D5 _ _ (f1 _ _ h24)
      refine ⟨rfl, yes_if ⟨_, rfl, _, rfl, D, _, rfl, DGet.k (k := Sum.inr (lineS r)) h5, _, f2, small1000 (by simp; omega), ?_, ?_, by omega⟩⟩
      · rw [wo_upd]
        exact f1
      · rw [upd_same, v1, List.replicate_succ', List.map_append]
        rfl
    rintro H5 ⟨f1, f2, _⟩
    rw [ll] at f2
    refine ⟨D5, List.replicate rs.length true, rfl, SqL.of f2, _, rfl, ?_⟩
    have e6 : (List.replicate rs.length true).all id = true := by
      rw [List.all_eq_true]
      intro b hb
      rw [List.eq_of_mem_replicate hb]
      rfl
    rw [e6]
    refine iteF ?_
    -- [known[line] for line in lines]
    have m5 : Same H4 H5 := f1.trans (wo_le D5)
    have h45 := m5 _ _ h4
    have h25 := m5 _ _ h24
    refine ⟨_, rfl, p4, rfl, ⟨_, SqL.of h45⟩, fun D6 n6 => ?_⟩
    refine lc_list (xs := (rs.map lineS).map V.str) (fun i H => MadeR K H5 D6 i H (rs.take i)) MadeR.start (fun i H _ z => SqL.of (z.old n6 _ _ h45)) ?_ ?_
    · rintro i x H6 hx p6
      obtain ⟨r, hr2, rfl⟩ := at_ hx
      have il : i < rs.length := (List.getElem?_eq_some_iff.mp hr2).1
      obtain ⟨v, v1, v2⟩ := prs_get oka dp2 (mem_allR.mpr (ho r (List.mem_of_getElem? hr2)))
      have h6 : H6 D = some (.dK (prs (allR w) us)) := p6.old n6 _ _ h25
      have g6 := DGet.k (k := Sum.inr (lineS r)) h6
      rw [v1] at g6
      refine ⟨rfl, yes_if ⟨_, rfl, _, rfl, D, v, rfl, g6, ?_⟩⟩
      rw [SG.take_one hr2]
      refine p6.push (by omega) (Nat.lt_succ_self _) (Same.refl _) (dp_same ?_ _ _ v2)
      have nD6 : wo H2 D D6 = none := by
        cases z : wo H2 D D6 with
        | none => rfl
        | some o => rw [m5 _ _ (m24 _ _ (wo_le D _ _ z))] at n6; cases n6
      exact fun b o e => by
        rw [wo_ne (ne_of_none e nD6)]
        exact p6.old n6 _ _ (m5 _ _ (m24 _ _ (wo_le D _ _ e)))
    · intro H6 p6
      rw [ll, List.take_length] at p6
      obtain ⟨us6, p7⟩ := id p6
      have sH : Same H H6 := s1.trans (e1.trans ((wo_le D).trans (m24.trans (m5.trans (p6.old n6)))))
      refine q D6 us6 H6 sH ?_ p7.lst p7.dat
      cases z : H D6 with
      | none => rfl
      | some o => rw [m5 _ _ (m24 _ _ (wo_le D _ _ (e1 _ _ (s1 _ _ z))))] at n6; cases n6
end
end CC
namespace CC
open PySem L2 TL
section
variable {X : Cx} {CX : CXT} {k i : Nat} {f C : Addr} {sp : Sp} {E : XK} {x : Str} {e : Expr} {es : List Expr} {t : TA} {p pos : Pos}
/-- c(e, *y), c a local that holds the class at C -/
theorem pe_makeLS (M : Mk X.K C f) (F : FnR X.prog X.w X.K X.mg X.base CX k f sp) (hr : Room (k + 1) X.A) (hN : X.N[i]? = some x) (hv : Vis X.env.scope x) (hx : Passes CX X E) (ha : PA X (e :: es) t) (hdb : (x == ("__debug__" : Str)) = false := by decide)
    (hcd : (x == ("__classdict__" : Str)) = false := by decide) (he : starEach (e :: es) X.env = (false, eval e X.env) :: starEach es X.env := by rfl) (hst : (backTo pos (starEach es X.env)).any (·.1) = true := by rfl) :
    PE X (.Call (.Name x p) (e :: es) [] pos) (fun σ H Q => σ[i]? = some (some (.ref C)) ∧ StX.tMakeR C sp E t σ H Q) := by
  refine ⟨fun pins s σ H Q I ⟨h1, h2⟩ => ?_⟩
  refine wpAny_Call_Name_kw (thn ((pe_var (pos := p) hN hv hdb hcd).run pins s σ H (fun v H1 => v = .ref C ∧ H1 = H) I ⟨.ref C, h1, rfl, rfl⟩) fun u s1 ⟨v, H1, I1, r1, q1⟩ => ?_)
  obtain ⟨rfl, rfl⟩ := q1
  cases r1
  refine PySem.W.callWith_S2 (h₀ := X.base) I.ok.mod.kin M.kp (thn (ha.run pos pins s1 σ _ _ I1 h2) fun us s2 ⟨vs, H2, I2, r, q⟩ => ⟨I2.kIn, ?_⟩) he hst
  exact StX.run_makeR M F hr hx I2 r q
end
theorem from_le {p : Nat → Prop} {l : Nat} (h : ∀ k, p (k + l)) : ∀ k, l ≤ k → p k := fun k hk => by
  have := h (k - l)
  rwa [Nat.sub_add_cancel hk] at this
end CC
namespace CC
open PySem L2 TL
/-! ### the object -/
def fl0 (w : Nat) : List (Str × V) := putF "span" (.int (w : Int)) []
def flds (w : Nat) (g : Addr) : List (Str × V) := putF "given" (.ref g) (fl0 w)
theorem sg : ¬ (("span" : Str) = "given") := by decide +kernel
theorem flds_span (w : Nat) (g : Addr) : (flds w g).lookup ("span" : Str) = some (.int (w : Int)) := by
  unfold flds fl0
  rw [lookup_putF, if_neg sg, lookup_putF, if_pos rfl]
theorem flds_given (w : Nat) (g : Addr) : (flds w g).lookup ("given" : Str) = some (.ref g) := by
  unfold flds
  rw [lookup_putF, if_pos rfl]
theorem flds_no (w : Nat) (g : Addr) {m : Str} (h1 : ¬ m = "given") (h2 : ¬ m = "span") : (flds w g).lookup m = none := by
  unfold flds fl0
  rw [lookup_putF, if_neg h1, lookup_putF, if_neg h2]
  rfl
/-- a list of rules stands at x -/
def RulesAt (K : PySem.W.Frag) (C : Addr) (H : Hp) (x : Addr) (w : Nat) (rs : List R) : Prop := ∃ dx g us, H x = some (.ins C dx (flds w g)) ∧ H g = some (.tup us) ∧ DpAll K H us (rs.map R.d)
theorem RulesAt.same {K : PySem.W.Frag} {C : Addr} {H H' : Hp} {x : Addr} {w : Nat} {rs : List R} (h : RulesAt K C H x w rs) (e : Same H H') : RulesAt K C H' x w rs := by
  obtain ⟨dx, g, us, h1, h2, h3⟩ := h
  exact ⟨dx, g, us, e _ _ h1, e _ _ h2, dps_same e _ _ h3⟩
/-- what is asked of the class as the top has made it -/
structure Txt1 (K : PySem.W.Frag) (mg : Str → Option Value) (C : Addr) : Prop where
  cl : Cls K C
  nS : NoAttr K C "span"
  nG : NoAttr K C "given"
  mgC : mg "Rules" = some (.ref C)
/-! ### keys -/
def R.key (r : R) : List Key := [.inr (kd r.k), .inl (r.a : Int), .inl (r.b : Int)]
theorem key_inj {r s : R} (h : r.key = s.key) : r = s := by
  obtain ⟨k, a, b⟩ := r
  obtain ⟨k', a', b'⟩ := s
  simp only [R.key, List.cons.injEq, Sum.inr.injEq, Sum.inl.injEq, and_true] at h
  obtain ⟨h1, h2, h3⟩ := h
  have e1 := kd_inj h1
  have e2 : a = a' := by omega
  have e3 : b = b' := by omega
  rw [e1, e2, e3]
theorem keys_nodup {rs : List R} (h : rs.Nodup) : (rs.map R.key).Nodup := List.Pairwise.map _ (fun a b hab e => hab (key_inj e)) h
theorem dps_keys {K : PySem.W.Frag} {H : Hp} : ∀ {rs : List R} {us : List V}, DpAll K H us (rs.map R.d) → ∃ ks : List (SG.Mem Key), us = ks.map (fun m => V.ref m.1) ∧ ks.map (·.2) = rs.map R.key ∧ ∀ m ∈ ks, SqT K H m.1 (m.2.map kV)
  | [], _, h => by
    cases h
    exact ⟨[], rfl, rfl, fun m hm => nomatch hm⟩
  | r :: rs, _, h => by
    cases h with
    | cons h1 h2 =>
      obtain ⟨p, rfl, hp⟩ := dp_r h1
      obtain ⟨ks, e1, e2, e3⟩ := dps_keys h2
      refine ⟨(p, r.key) :: ks, by rw [e1]; rfl, by rw [List.map_cons, e2]; rfl, fun m hm => ?_⟩
      rcases List.mem_cons.mp hm with z | z
      · rw [z]
        exact hp
      · exact e3 m z
def spInit (K : PySem.W.Frag) (C : Addr) : Sp := fun vs H Q _ => ∃ (x dx : Addr) (w : Nat) (p : Addr) (us : List V) (rs : List R), vs = [.ref x, .int (w : Int), .ref p] ∧ H x = some (.ins C dx []) ∧ 1 ≤ w ∧ w ≤ 6 ∧ H p = some (.tup us) ∧ DpAll K (wo H x) us (rs.map R.d) ∧
  (∀ r ∈ rs, r.ok w) ∧ rs.Nodup ∧ ∀ H', (∀ b o, H b = some o → b ≠ x → H' b = some o) → H' x = some (.ins C dx (flds w p)) → Q .non H'
def spInitR (K : PySem.W.Frag) (C : Addr) : Sp := fun vs H Q E => ∃ ws rest, vs = ws ++ rest ∧ ws.length = 2 ∧ rest.length ≤ sizeLine ∧ ∀ p, H p = Option.none → spInit K C (ws ++ [V.ref p]) (upd H p (.tup rest)) Q E
def spRead (K : PySem.W.Frag) (C : Addr) : Sp := fun vs H Q _ => ∃ (w : Nat) (rs : List R), vs = [.ref C, .int (w : Int), .str (textS rs)] ∧ 1 ≤ w ∧ w ≤ 6 ∧ (∀ r ∈ rs, r.ok w) ∧ rs.Nodup ∧ ∀ (x : Addr) (H' : Hp), Same H H' → H x = none → RulesAt K C H' x w rs → Q (.ref x) H'
/-- C(width, *rules), C.read(width, text) -/
structure MakeR (P : Program) (w : World) (K : PySem.W.Frag) (mg : Str → Option Value) (base : Heap) (C : Addr) (l : Nat) where
  fN : Addr
  M : Mk K C fN
  ok : ∀ k, l ≤ k → FnR P w K mg base CX0 k fN (spInitR K C)
structure ReadR (P : Program) (w : World) (K : PySem.W.Frag) (mg : Str → Option Value) (base : Heap) (C : Addr) (l : Nat) where
  mc : Value
  pD : Addr
  fD : Addr
  rD : ClX.CRead K C mc
  cD : ClX.CMet K C mc "read" pD fD
  ok : ∀ k, l ≤ k → FnR P w K mg base CX0 k fD (spRead K C)
section
variable {P : Program} {w : World} {K : PySem.W.Frag} {mg : Str → Option Value} {base : Heap} {kA : Addr}
abbrev nIn : List Str := ["self", "width", "rules", "rule"]
theorem scInit : FnScope nIn ((["self", "width"] : List Str) ++ ([("rules" : Str)] : List Str)) (defScope sInit) := ⟨rfl, rfl, rfl, by decide +kernel, rfl, by decide +kernel, by decide +kernel⟩
theorem ok_init {f C : Addr} {fd : FuncData} {k : Nat} (F : Fun K "__init__" "Rules.__init__" sInit f fd) (T : Glb K mg kA) (TC : Txt1 K mg C)
 (cW : Cal P w K mg base "is_width" ["thing"] spIsWidth 2) (cR : Cal P w K mg base "is_rule" ["width", "thing"] (spIsRule K) 3) :
    FnR P w K mg base CX0 (k + 4) f (spInitR K C) := by
  have GW := cW.ok (k + 3) (by omega)
  have GR := cR.ok (k + 3) (by omega)
  obtain ⟨oc, od, kV, doc, pm, an, cdv, ct, osl, rfl, lk, hcd⟩ := F.ex
  refine StX.fn_star (ps := ["self", "width"]) (pv := "rules") lk hcd scInit StX.cxUp_none (fun us rest hl => ?_) (fun A outer s H vs Q E hr h => ?_)
  · match us, hl with
    | [a, b], _ =>
      cases rest with
      | nil => rfl
      | cons c r => rfl
  · obtain ⟨x, dx, w, p, us, rs, rfl, hx, w1, w6, hp, dp, ho, nd, q⟩ := h
    have hu3 := Nat.lt_of_le_of_lt (Nat.add_le_add_left (by decide : 3 ≤ 64) _) hr.units
    have n := scInit.nd
    refine ⟨_, PSs.nox (pss_cons (ps_if (pt_not (pt_val (pe_call GW hr rfl cW.g cW.kp cW.b .nil pass0 (pa_cons (pv 1) pa_nil)))) (pss_one ps_never) pss_nil)
      (pss_cons (ps_if (pt_not (pt_val (pe_callB (cr_all rfl) (by rfl) T.all (by decide +kernel) (pa_cons (pe_lc (own := [("rule", 3)]) (g := gName 3) (tt := tYes) rfl n (pi_tup (pv 2)) (blkOk_by (N := nIn) (sc := defScope sInit) (by decide +kernel))
          (fun _ _ _ _ _ => pg_name (i := 3) n rfl (.inl rfl)) (fun _ _ _ _ _ => pts_nil) (fun _ _ _ _ _ => pe_call GR hr rfl cR.g cR.kp cR.b .nil pass0 (pa_cons (pv 1) (pa_cons (pv 3) pa_nil)))) pa_nil)))) (pss_one ps_never) pss_nil)
      (pss_cons (ps_if (pt_cmpR op_ne (SG.pe_lenSetD rfl hu3 (by rfl) T.len (by rfl) T.set (pv 2)) (pe_callB call_len_seq (by rfl) T.len PySem.boot_len (pa_cons (pv 2) pa_nil)) (nomark _)) (pss_one ps_never) pss_nil)
      (pss_cons (ps_fld (pv 0) (pv 1) rfl) (pss_one (ps_fld (pv 0) (pv 2) rfl)))))), ?_⟩
    have rl := few_rules w6 ho nd
    have ul : us.length = rs.length := by rw [dps_len dp, List.length_map]
    refine ⟨_, rfl, w, rfl, w1, w6, _, rfl, iteF ?_⟩
    refine ⟨_, rfl, p, rfl, ⟨_, .inl (.inl hp)⟩, fun D nD => ?_⟩
    refine lc_tup (xs := us) (fun i H1 => Same H (wo H1 D) ∧ H1 D = some (.lst ((List.replicate i true).map V.bl)) ∧ i ≤ 60) ⟨?_, upd_same, by omega⟩ (fun i H1 _ z => .inl (.inl (wo_le D _ _ (z.1 _ _ hp)))) ?_ ?_
    · rw [wo_upd]
      exact fun b o e => by rw [wo_ne (ne_of_none e nD)]; exact e
    · rintro i v H1 hv ⟨e1, e2, e3⟩
      obtain ⟨r, hr2, dr⟩ := dps_rat dp hv
      have il : i < rs.length := (List.getElem?_eq_some_iff.mp hr2).1
      refine ⟨rfl, yes_if ⟨_, rfl, _, rfl, w, v, r, rfl, dp_same ((wo_le x).trans (e1.trans (wo_le D))) _ _ dr, ho r (List.mem_of_getElem? hr2), _, e2, small1000 (by simp; omega), ?_, ?_, by omega⟩⟩
      · rw [wo_upd]
        exact e1
      · rw [upd_same, List.replicate_succ', List.map_append]
        rfl
    rintro H1 ⟨e1, e2, _⟩
    rw [ul] at e2
    refine ⟨D, List.replicate rs.length true, rfl, SqL.of e2, _, rfl, ?_⟩
    have e6 : (List.replicate rs.length true).all id = true := by
      rw [List.all_eq_true]
      intro b hb
      rw [List.eq_of_mem_replicate hb]
      rfl
    rw [e6]
    refine iteF ?_
    have m1 : Same H H1 := e1.trans (wo_le D)
    obtain ⟨ks, k1, k2, k3⟩ := dps_keys (dps_same ((wo_le x).trans m1) _ _ dp)
    have hp1 := m1 _ _ hp
    have kl : ks.length = rs.length := by
      rw [← ul, k1, List.length_map]
    refine ⟨_, rfl, p, rfl, .inr ⟨ks, .inr (by rw [← k1]; exact .inl (.inl hp1)), k3, by omega, fun m z1 z2 => ?_⟩⟩
    have em : m = ks.length := z2.mpr (by rw [k2]; exact keys_nodup nd)
    subst em
    refine ⟨_, rfl, p, us, rfl, .inr (.inl (.inl hp1)), rfl, _, rfl, ?_⟩
    have e7 : (!decide (V.int (ks.length : Int) = V.int (us.length : Int))) = false := by
      rw [kl, ul]
      simp
    rw [e7]
    refine iteF ?_
    have hx1 := m1 _ _ hx
    have px : p ≠ x := ne_of hp hx (by intro z; cases z)
    refine ⟨_, rfl, _, rfl, x, C, dx, _, rfl, hx1, TC.cl, TC.nS, (by show 0 < 1000; decide), ?_⟩
    refine ⟨_, rfl, _, rfl, x, C, dx, _, rfl, upd_same, TC.cl, TC.nG, (by show 1 < 1000; decide), ?_⟩
    refine q _ (fun b o e hb => ?_) upd_same
    rw [upd_ne hb, upd_ne hb]
    exact m1 _ _ e
abbrev nRd : List Str := ["cls", "width", "text", "found"]
theorem scRead : FnScope nRd ["cls", "width", "text"] (defScope sRead) := ⟨rfl, rfl, rfl, by decide +kernel, rfl, by decide +kernel, by decide +kernel⟩
theorem ok_read {f C : Addr} {fd : FuncData} {k : Nat} (F : Fun K "read" "Rules.read" sRead f fd) (T : Glb K mg kA) (m : MakeR P w K mg base C 4)
 (cW : Cal P w K mg base "is_width" ["thing"] spIsWidth 2)
 (cO : Cal P w K mg base "rules_of" ["width", "text"] (spRulesOf K) 2) 
 : FnOk P w K mg base CX0 (k + 6) f fd ["cls", "width", "text"] (spRead K C) := by
  have GW := cW.ok (k + 5) (by omega)
  have GO := cO.ok (k + 5) (by omega)
  have GN := m.ok (k + 4) (by omega)
  refine F.ok scRead (fun vs H Q E h => ?_) (fun cdv A outer s H vs Q E hr h => ?_)
  · obtain ⟨w, rs, rfl, _⟩ := h
    rfl
  · obtain ⟨w, rs, rfl, w1, w6, ho, nd, q⟩ := h
    have n := scRead.nd
    refine ⟨_, pss_cons (ps_if (pt_not (pt_val (pe_call GW hr rfl cW.g cW.kp cW.b .nil pass0 (pa_cons (pv 1) pa_nil)))) (pss_one ps_never) pss_nil)
      (pss_cons (ps_if (pt_not (pt_val (pe_callB call_isi (by rfl) T.isi (by decide +kernel) (pa_cons (pv 2) (pa_cons (pe_bltn (v := .ty "str") (by rfl) T.str (by decide +kernel) rfl) pa_nil))))) (pss_one ps_never) pss_nil)
      (pss_cons (ps_set (i := 3) n rfl (.inl rfl) (pe_call GO hr rfl cO.g cO.kp cO.b .nil pass0 (pa_cons (pv 1) (pa_cons (pv 2) pa_nil))))
      (pss_cons (ps_if (pt_cmpR op_isN (pv 3) pe_non (nomark _)) (pss_one ps_never) pss_nil)
      (pss_one (ps_ret (pe_makeLS (i := 0) m.M GN hr rfl (.inl rfl) pass0 (pa_cons (pv 1) (StX.pa_star (pv 3) pa_nil)))))))), ?_⟩
    refine ⟨_, rfl, w, rfl, w1, w6, _, rfl, iteF ?_⟩
    refine ⟨_, rfl, _, _, _, _, true, rfl, .ty _, .base (.str _), kit_ty (by decide +kernel), _, rfl, iteF ?_⟩
    refine ⟨_, rfl, _, rfl, w, rs, rfl, w6, ho, nd, fun p us H1 s1 np hp dp => ?_⟩
    refine ⟨_, rfl, rfl, _, rfl, iteF ?_⟩
    have rl := few_rules w6 ho nd
    have ul : us.length = rs.length := by rw [dps_len dp, List.length_map]
    refine ⟨rfl, _, rfl, _, rfl, p, us, rfl, .inr (SqL.of hp), fun x dx nx ndx ne => ?_⟩
    rw [List.append_nil]
    refine ⟨[.ref x, .int (w : Int)], us, rfl, rfl, Nat.le_of_lt (small1000 (by omega)), fun g ng => ?_⟩
    have gx : x ≠ g := fun z => by rw [← z, upd_same] at ng; cases ng
    have gdx : dx ≠ g := fun z => by rw [← z, upd_ne ne, upd_same] at ng; cases ng
    have ng1 : H1 g = none := by
      rw [upd_ne gx.symm, upd_ne gdx.symm] at ng
      exact ng
    have keep : ∀ b o, H1 b = some o → (upd (upd (upd H1 dx (.own x)) x (.ins C dx [])) g (.tup us)) b = some o := fun b o e => by
      rw [upd_ne (ne_of_none e ng1), upd_ne (ne_of_none e nx), upd_ne (ne_of_none e ndx)]
      exact e
    refine ⟨x, dx, w, g, us, rs, rfl, by rw [upd_ne gx]; exact upd_same, w1, w6, upd_same, dps_same ?_ _ _ dp, ho, nd, fun H' k1 k2 => ⟨rfl, q x H' ?_ ?_ ⟨dx, g, us, k2, ?_, ?_⟩⟩⟩
    · exact fun b o e => by
        have e1 := wo_le p _ _ e
        rw [wo_ne (ne_of_none e1 nx)]
        exact keep b o e1
    · exact fun b o e => k1 b o (keep b o (s1 _ _ e)) (ne_of_none (s1 _ _ e) nx)
    · cases z : H x with
      | none => rfl
      | some o => rw [s1 _ _ z] at nx; cases nx
    · exact k1 g _ upd_same gx.symm
    · refine dps_same (fun b o e => ?_) _ _ dp
      have e1 := wo_le p _ _ e
      exact k1 b o (keep b o e1) (ne_of_none e1 nx)
end
end CC
/-! ### the texts of rows -/
namespace CC
open PySem L2 TL
def rowS (row : List Nat) : Str := Txt.join " " (row.map num)
def textT (rows : List (List Nat)) : Str := Txt.join "" (rows.map fun r => rowS r ++ "\n")
/-- a row for a width -/
def RowOk (w : Nat) (row : List Nat) : Prop := row.length = w ∧ ∀ v ∈ row, v ≤ 9999
theorem tl_n (n : Nat) : tl (num n) = numL n := tl_num n
theorem joinL_flat (l : List (List Nat)) : joinL (tl ("" : Str)) l = l.flatten := by
  rw [show tl ("" : Str) = [] by decide +kernel]
  induction l with
  | nil => rfl
  | cons x l ih =>
    cases l with
    | nil => simp [joinL]
    | cons y l =>
      show x ++ ([] ++ joinL [] (y :: l)) = _
      rw [ih, List.nil_append]
      simp
theorem joinL_in {sep : List Nat} {c : Nat} : ∀ {l : List (List Nat)}, c ∈ joinL sep l → c ∈ sep ∨ ∃ p ∈ l, c ∈ p
  | [], h => by simp [joinL] at h
  | [x], h => by
    simp [joinL] at h
    exact .inr ⟨x, by simp, h⟩
  | x :: y :: l, h => by
    have h' : c ∈ x ++ (sep ++ joinL sep (y :: l)) := h
    rcases List.mem_append.mp h' with z | z
    · exact .inr ⟨x, by simp, z⟩
    · rcases List.mem_append.mp z with z | z
      · exact .inl z
      · rcases joinL_in z with q | ⟨p, hp, hc⟩
        · exact .inl q
        · exact .inr ⟨p, List.mem_cons_of_mem _ hp, hc⟩
theorem joinL_le {sep : List Nat} {k : Nat} : ∀ {l : List (List Nat)}, (∀ p ∈ l, p.length ≤ k) → (joinL sep l).length ≤ l.length * (k + sep.length)
  | [], _ => by simp [joinL]
  | [x], h => by
    have := h x (by simp)
    simp [joinL]
    omega
  | x :: y :: l, h => by
    have h1 := h x (by simp)
    have h2 := joinL_le (sep := sep) (l := y :: l) fun p hp => h p (List.mem_cons_of_mem _ hp)
    show (x ++ (sep ++ joinL sep (y :: l))).length ≤ _
    rw [List.length_append, List.length_append, List.length_cons (a := x), Nat.succ_mul]
    omega
theorem row_free {row : List Nat} : 10 ∉ tl (rowS row) := fun h => by
  unfold rowS at h
  rw [join_eq, tl_join] at h
  rcases joinL_in h with z | ⟨p, hp, z⟩
  · rw [show tl (" " : Str) = [32] by decide +kernel] at z
    simp at z
  · obtain ⟨q, hq, rfl⟩ := List.mem_map.mp hp
    obtain ⟨n, _, rfl⟩ := List.mem_map.mp hq
    rw [tl_n] at z
    exact numL_free (.inl (by decide)) z
theorem num_len {n : Nat} (h : n ≤ 9999) : (num n).length ≤ 4 := by
  rw [len_tl, tl_n]
  exact numL_len (by decide) (by omega)
theorem rowS_len {w : Nat} {row : List Nat} (h : RowOk w row) (hw : w ≤ 6) : (rowS row).length ≤ 30 := by
  rw [len_tl]
  unfold rowS
  rw [join_eq, tl_join]
  refine Nat.le_trans (joinL_le (k := 4) fun p hp => ?_) ?_
  · obtain ⟨q, hq, rfl⟩ := List.mem_map.mp hp
    obtain ⟨n, hn, rfl⟩ := List.mem_map.mp hq
    rw [← len_tl]
    exact num_len (h.2 n hn)
  · rw [List.length_map, List.length_map, h.1, show tl (" " : Str) = [32] by decide +kernel]
    show w * 5 ≤ 30
    omega
theorem split_row {row : List Nat} (h : row ≠ []) : Txt.split (rowS row) " " = row.map num := by
  refine split_join (s := 32) (S := []) (by decide +kernel) (by decide +kernel) (fun e => h (List.map_eq_nil_iff.mp e)) fun p hp => ?_
  obtain ⟨n, _, rfl⟩ := List.mem_map.mp hp
  rw [tl_n]
  exact numL_free (.inl (by decide))
theorem tl_lines (L : List Str) : tl (Txt.join "" (L.map fun l => l ++ "\n")) = (L.map fun l => tl l ++ [10]).flatten := by
  rw [join_eq, tl_join, joinL_flat, List.map_map]
  congr 1
  refine List.map_congr_left fun l _ => ?_
  show tl (l ++ "\n") = _
  rw [tl_app, show tl ("\n" : Str) = [10] by decide +kernel]
theorem split_lines {L : List Str} (h : ∀ l ∈ L, 10 ∉ tl l) : Txt.split (Txt.join "" (L.map fun l => l ++ "\n")) "\n" = L ++ [Str.empty] := by
  have e : Txt.join "" (L.map fun l => l ++ "\n") = Txt.join "\n" (L ++ [Str.empty]) := by
    refine ext_tl ?_
    show tl _ = tl _
    rw [tl_lines, join_eq, tl_join, show tl ("\n" : Str) = [10] by decide +kernel]
    clear h
    induction L with
    | nil => decide +kernel
    | cons r L ih =>
      rw [List.map_cons, List.flatten_cons, ih]
      cases L with
      | nil =>
        show tl r ++ [10] ++ tl Str.empty = tl r ++ ([10] ++ tl Str.empty)
        rw [List.append_assoc]
      | cons s L =>
        show tl r ++ [10] ++ _ = tl r ++ ([10] ++ _)
        rw [List.append_assoc]
        rfl
  rw [e]
  refine split_join (s := 10) (S := []) (by decide +kernel) (by decide +kernel) (by simp) fun p hp => ?_
  rcases List.mem_append.mp hp with z | z
  · exact h p z
  · rw [List.mem_singleton.mp z]
    decide +kernel
theorem textT_eq (rows : List (List Nat)) : textT rows = Txt.join "" ((rows.map rowS).map fun l => l ++ "\n") := by
  unfold textT
  rw [List.map_map]
  rfl
theorem split_textT (rows : List (List Nat)) : Txt.split (textT rows) "\n" = rows.map rowS ++ [Str.empty] := by
  rw [textT_eq]
  refine split_lines fun l hl => ?_
  obtain ⟨r, _, rfl⟩ := List.mem_map.mp hl
  exact row_free
theorem textT_len {w : Nat} {rows : List (List Nat)} (h : ∀ r ∈ rows, RowOk w r) (hw : w ≤ 6) : (textT rows).length ≤ 31 * rows.length := by
  rw [len_tl, textT_eq, tl_lines, List.map_map]
  induction rows with
  | nil => simp
  | cons r rows ih =>
    have h1 := rowS_len (h r List.mem_cons_self) hw
    rw [len_tl] at h1
    have h3 := ih fun s hs => h s (List.mem_cons_of_mem _ hs)
    rw [List.map_cons, List.flatten_cons, List.length_append, List.length_cons]
    show (tl (rowS r) ++ [10]).length + _ ≤ _
    rw [List.length_append, List.length_singleton]
    omega
theorem dig_ok : ∀ c : Fin 58, 48 ≤ c.1 → Unicode.isDigit c.1 = true := by decide +kernel
theorem num_digit (n : Nat) : Txt.isdigit (num n) = true := by
  unfold Txt.isdigit
  rw [Bool.and_eq_true]
  refine ⟨decide_eq_true ?_, ?_⟩
  · rw [len_tl, tl_n]
    exact List.length_pos_iff.mpr (numL_ne n)
  · rw [Array.all_eq_true_iff_forall_mem]
    intro c hc
    have m : c ∈ numL n := by
      rw [← tl_n]
      exact Array.mem_def.mp hc
    have := numL_digits n c m
    exact dig_ok ⟨c, by omega⟩ this.1
theorem num_ascii (n : Nat) : Txt.isascii (num n) = true := by
  unfold Txt.isascii
  rw [Array.all_eq_true_iff_forall_mem]
  intro c hc
  have m : c ∈ numL n := by
    rw [← tl_n]
    exact Array.mem_def.mp hc
  have := numL_digits n c m
  exact decide_eq_true (by omega)
theorem num_int {n : Nat} (h : n ≤ 9999) : intText? (num n) = some (n : Int) := int_num (Nat.le_trans (numL_len (k := 4) (by decide) (by omega)) (by decide))
theorem small10k {n : Nat} (h : n ≤ 9999) : (n : Int).natAbs.log2 < 1920 := by
  rw [Int.natAbs_natCast]
  have : n.log2 ≤ n := Nat.log2_le_self n
  by_cases e : n = 0
  · subst e
    decide
  · have := (Nat.log2_lt e (k := 14)).mpr (by omega)
    omega
end CC
namespace CC
open PySem L2
/-! ### a list of things of one shape that is being made at D -/
section
variable {α : Type} {f : α → PyData} {K : PySem.W.Frag} {H0 H H' : Hp} {D : Addr} {n m : Nat} {rs rs' : List α}
def MadeF (f : α → PyData) (K : PySem.W.Frag) (H0 : Hp) (D : Addr) (n : Nat) (H : Hp) (rs : List α) : Prop := ∃ us, Same (wo H0 D) (wo H D) ∧ H D = some (.lst us) ∧ DpAll K (wo H D) us (rs.map f) ∧ us.length ≤ n
theorem MadeF.start : MadeF f K H0 D 0 (upd H0 D (.lst [])) [] := by
  refine ⟨[], ?_, upd_same, .nil, Nat.le_refl _⟩
  rw [wo_upd]
  exact Same.refl _
theorem MadeF.up (p : MadeF f K H0 D n H rs) (h : n ≤ m) (e : rs = rs') : MadeF f K H0 D m H rs' := by
  obtain ⟨us, p1, p2, p3, p4⟩ := p
  subst e
  exact ⟨us, p1, p2, p3, Nat.le_trans p4 h⟩
theorem MadeF.push {r : α} {y : V} (p : MadeF f K H0 D n H rs) (h9 : n < 100000) (hm : n < m) (q3 : Same H H') (q1 : Dp K (wo H' D) y (f r)) :
    ∃ acc, H' D = some (.lst acc) ∧ acc.length < sizeLine ∧ MadeF f K H0 D m (upd H' D (.lst (acc ++ [y]))) (rs ++ [r]) := by
  obtain ⟨us, p1, p2, p3, p4⟩ := p
  refine ⟨us, q3 _ _ p2, Nat.lt_of_le_of_lt p4 (Nat.lt_of_lt_of_le h9 (by decide)), us ++ [y], ?_, upd_same, ?_, ?_⟩
  · rw [wo_upd]
    exact p1.trans (wo_same q3)
  · rw [wo_upd, List.map_append]
    exact dps_app (dps_same (wo_same q3) _ _ p3) (dps_one q1)
  · rw [List.length_append]
    exact Nat.le_trans (Nat.succ_le_succ p4) hm
theorem MadeF.keep (p : MadeF f K H0 D n H rs) (q3 : Same H H') (h : n ≤ m) (e : rs = rs') : MadeF f K H0 D m H' rs' := by
  obtain ⟨us, p1, p2, p3, p4⟩ := p
  subst e
  exact ⟨us, p1.trans (wo_same q3), q3 _ _ p2, dps_same (wo_same q3) _ _ p3, Nat.le_trans p4 h⟩
theorem MadeF.old (p : MadeF f K H0 D n H rs) (h : H0 D = none) : Same H0 H := fun b o e => by
  obtain ⟨us, p1, _⟩ := p
  exact wo_le D _ _ (p1 b o (by rw [wo_ne (ne_of_none e h)]; exact e))
theorem MadeF.tup {t : Addr} {xs : List V} (p : MadeF f K H0 D n H rs) (nt : H t = none) : SqT K (wo (upd H t (.tup xs)) D) t xs := by
  obtain ⟨us, _, p2, _⟩ := p
  exact tup_new p2 nt
end
/-- what a def that hands back a new list of such things promises -/
def NewF {α : Type} (f : α → PyData) (K : PySem.W.Frag) (H : Hp) (rs : List α) (Q : VK) : Prop := ∀ (p : Addr) (us : List V) (H' : Hp), Same H H' → H p = none → H' p = some (.lst us) → DpAll K (wo H' p) us (rs.map f) → Q (.ref p) H'
theorem MadeF.out {α : Type} {f : α → PyData} {K : PySem.W.Frag} {H H0 H' : Hp} {D : Addr} {n : Nat} {rs : List α} {Q : VK} (p : MadeF f K H0 D n H' rs) (h : H0 D = none) (s : Same H H0) (q : NewF f K H rs Q) : Q (.ref D) H' := by
  have o := p.old h
  obtain ⟨us, p1, p2, p3, p4⟩ := p
  exact q D us H' (s.trans o) (s.free h) p2 p3
abbrev g3 (K : PySem.W.Frag) (i j k : Nat) : TG := gTup K 3 (gCons (gName i) (gCons (gName j) (gCons (gName k) gNil)))
abbrev g2 (K : PySem.W.Frag) (i j : Nat) : TG := gTup K 2 (gCons (gName i) (gCons (gName j) gNil))
end CC
namespace CC
open PySem L2
/-! ### where pairs lead -/
inductive Rch (ps : List (Nat × Nat)) (a : Nat) : Nat → Prop
  | refl : Rch ps a a
  | step {b c : Nat} : Rch ps a b → (b, c) ∈ ps → Rch ps a c
theorem Rch.trans {ps : List (Nat × Nat)} {a b c : Nat} (h1 : Rch ps a b) (h2 : Rch ps b c) : Rch ps a c := by
  induction h2 with
  | refl => exact h1
  | step _ h ih => exact ih.step h
theorem Rch.mono {ps qs : List (Nat × Nat)} (h : ∀ x ∈ ps, x ∈ qs) {a b : Nat} (r : Rch ps a b) : Rch qs a b := by
  induction r with
  | refl => exact .refl
  | step _ q ih => exact ih.step (h _ q)
theorem Rch.lt {ps : List (Nat × Nat)} {w a b : Nat} (h : ∀ x ∈ ps, x.1 < w ∧ x.2 < w) (ha : a < w) (r : Rch ps a b) : b < w := by
  cases r with
  | refl => exact ha
  | step _ q => exact (h _ q).2
/-- a set that is closed under the pairs holds all that is reached -/
theorem Rch.within {ps : List (Nat × Nat)} {a b : Nat} {S : Nat → Prop} (ha : S a) (hc : ∀ x y, S x → (x, y) ∈ ps → S y) (r : Rch ps a b) : S b := by
  induction r with
  | refl => exact ha
  | step _ q ih => exact hc _ _ ih q
def nms (ns : List Nat) : List V := ns.map fun (n : Nat) => V.int (n : Int)
theorem nms_len (ns : List Nat) : (nms ns).length = ns.length := List.length_map _
theorem nms_app (ns ms : List Nat) : nms (ns ++ ms) = nms ns ++ nms ms := List.map_append
end CC
namespace CC
open PySem L2 TL
structure GlbT (mg : Str → Option Value) : Prop where
  lv : ∃ t, mg "LARGEST_VALUE" = some (.int 9999 t)
  mr : ∃ t, mg "MOST_ROWS" = some (.int 400 t)
def spIsRow (K : PySem.W.Frag) : Sp := fun vs H Q _ => ∃ (w : Nat) (t : Addr) (row : List Nat), vs = [.int (w : Int), .ref t] ∧ SqT K H t (nms row) ∧ RowOk w row ∧ w ≤ 6 ∧ ∀ H', Same H H' → Q (.bl true) H'
def spIsNum : Sp := fun vs H Q _ => ∃ n : Nat, vs = [.str (num n)] ∧ n ≤ 9999 ∧ Q (.bl true) H
theorem all_true (m : Nat) : (List.replicate m true).all id = true := by
  rw [List.all_eq_true]
  intro b hb
  rw [List.eq_of_mem_replicate hb]
  rfl
theorem nms_get? {ns : List Nat} {i : Nat} {x : V} (h : (nms ns)[i]? = some x) : ∃ m, ns[i]? = some m ∧ x = .int (m : Int) := by
  rw [nms, List.getElem?_map] at h
  cases z : ns[i]? with
  | none =>
    rw [z] at h
    cases h
  | some m =>
    rw [z] at h
    exact ⟨m, rfl, (Option.some.inj h).symm⟩
section
variable {P : Program} {w : World} {K : PySem.W.Frag} {mg : Str → Option Value} {base : Heap} {kA : Addr}
abbrev nIRow : List Str := ["width", "thing", "part"]
theorem scIsRow : FnScope nIRow ["width", "thing"] (defScope sIsRow) := ⟨rfl, rfl, rfl, by decide +kernel, rfl, by decide +kernel, by decide +kernel⟩
theorem ok_isrow {f : Addr} {fd : FuncData} {k : Nat} (F : Fun K "is_row" "is_row" sIsRow f fd) (T : Glb K mg kA) (TT : GlbT mg) (cI : Cal P w K mg base "is_an_integer" ["thing"] spIsInt 1) : FnOk P w K mg base CX0 (k + 2) f fd ["width", "thing"] (spIsRow K) := by
  have GI := cI.ok (k + 1) (by omega)
  refine F.ok scIsRow (fun vs H Q E h => ?_) (fun cdv A outer s H vs Q E hr h => ?_)
  · obtain ⟨w, t, row, rfl, _⟩ := h
    rfl
  · obtain ⟨w, t, row, rfl, ht, ⟨rl, rv⟩, w6, q⟩ := h
    obtain ⟨tl, hlv⟩ := TT.lv
    have n := scIsRow.nd
    refine ⟨_, (pss_cons (ps_if (PW.pt (pw_or (pt_not (pt_val (pe_callB call_isi (by rfl) T.isi (by decide +kernel) (pa_cons (pv 1) (pa_cons (pe_bltn (v := .ty "tuple") (by rfl) T.tup (by decide +kernel) rfl) pa_nil))))) (pw_or1 (pt_cmpR op_ne (pe_callB call_len_seq (by rfl) T.len PySem.boot_len (pa_cons (pv 1) pa_nil)) (pv 0) (nomark _))))) (pss_one (ps_ret pe_bl)) pss_nil)
      (pss_one (ps_ret (pe_callB (cr_all rfl) (by rfl) T.all (by decide +kernel) (pa_cons (pe_lc (own := [("part", 2)]) (g := gName 2) (tt := tYes) rfl n (pi_tup (pv 1)) (blkOk_by (N := nIRow) (sc := defScope sIsRow) (by decide +kernel))
        (fun _ _ _ _ _ => (pg_name (i := 2) n rfl (.inl rfl))) (fun _ _ _ _ _ => pts_nil) (fun _ _ _ _ _ => (pe_and (pe_call GI hr rfl cI.g cI.kp cI.b .nil pass0 (pa_cons (pv 2) pa_nil)) (pe_one (pe_chain op_le op_le pe_int (pv 2) (pe_glob (v := .int 9999) rfl hlv ⟨_, rfl⟩)))))) pa_nil))))), ?_⟩
    refine ⟨_, rfl, _, _, _, _, true, rfl, .ty _, ty_tup ht, kit_ty (by decide +kernel), _, rfl, iteF ?_⟩
    refine ⟨_, rfl, t, _, rfl, .inr ht, _, rfl, rfl, _, rfl, ?_⟩
    have e0 : (!decide (V.int (((nms row).length : Nat) : Int) = V.int (w : Int))) = false := by
      rw [nms_len, rl]
      simp
    rw [e0]
    refine iteF ?_
    refine ⟨_, rfl, t, rfl, ⟨_, ht⟩, fun D nD => ?_⟩
    refine lc_tup (xs := nms row) (fun i H1 => Same H (wo H1 D) ∧ H1 D = some (.lst ((List.replicate i true).map V.bl)) ∧ i ≤ 6) ⟨?_, upd_same, by omega⟩ (fun i H1 _ z => same_t (z.1.trans (wo_le D)) ht) ?_ ?_
    · rw [wo_upd]
      exact fun b o e => by rw [wo_ne (ne_of_none e nD)]; exact e
    · rintro i v H1 hv ⟨e1, e2, e3⟩
      obtain ⟨y, hy, rfl⟩ := nms_get? hv
      have il := (List.getElem?_eq_some_iff.mp hy).1
      have yv := rv y (List.mem_of_getElem? hy)
      have c1 : decide ((0 : Int) ≤ (y : Int)) = true := decide_eq_true (by omega)
      have c2 : decide ((y : Int) ≤ (9999 : Int)) = true := decide_eq_true (by omega)
      refine ⟨rfl, yes_if ⟨_, rfl, _, rfl, _, rfl, iteT ⟨_, rfl, _, _, rfl, rfl, _, rfl, ?_⟩⟩⟩
      rw [c1]
      refine iteT ⟨_, _, rfl, rfl, ?_⟩
      dsimp only
      rw [c2]
      refine ⟨_, e2, small1000 (by simp; omega), ?_, ?_, by omega⟩
      · rw [wo_upd]
        exact e1
      · rw [upd_same, List.replicate_succ', List.map_append]
        rfl
    rintro H1 ⟨e1, e2, _⟩
    refine ⟨D, _, rfl, SqL.of e2, ?_⟩
    rw [all_true]
    exact q H1 (e1.trans (wo_le D))
theorem scIsNum : FnScope ["word"] ["word"] (defScope sIsNum) := ⟨rfl, rfl, rfl, by decide +kernel, rfl, by decide +kernel, by decide +kernel⟩
theorem ok_isnum {f : Addr} {fd : FuncData} {k : Nat} (F : Fun K "is_numeral" "is_numeral" sIsNum f fd) (T : Glb K mg kA) (TT : GlbT mg) : FnOk P w K mg base CX0 (k + 1) f fd ["word"] spIsNum := by
  refine F.ok scIsNum (fun vs H Q E h => ?_) (fun cdv A outer s H vs Q E hr h => ?_)
  · obtain ⟨m, rfl, _⟩ := h
    rfl
  · obtain ⟨m, rfl, hm, q⟩ := h
    obtain ⟨tl, hlv⟩ := TT.lv
    refine ⟨_, (pss_cons (ps_if (PW.pt (pw_or (pt_cmpR op_gt (pe_callB call_len_str (by rfl) T.len PySem.boot_len (pa_cons (pv 0) pa_nil)) (pe_callB call_len_str (by rfl) T.len PySem.boot_len (pa_cons (pe_callTy call_str_int (by rfl) T.str (by decide +kernel) (pa_cons (pe_glob (v := .int 9999) rfl hlv ⟨_, rfl⟩) pa_nil)) pa_nil)) (nomark _))
        (pw_or (pt_not (pt_val (pe_m0 PySem.F.slot_str_isascii PySem.F.type_str_isascii mt_isascii (pv 0)))) (pw_or1 (pt_not (pt_val (pe_m0 PySem.F.slot_str_isdigit PySem.F.type_str_isdigit mt_isdigit (pv 0)))))))) (pss_one (ps_ret pe_bl)) pss_nil)
      (pss_one (ps_ret (pe_cmpR op_eq (pe_callTy call_str_int (by rfl) T.str (by decide +kernel) (pa_cons (pe_callTy call_int_str (by rfl) T.int (by decide +kernel) (pa_cons (pv 0) pa_nil)) pa_nil)) (pv 0) (nomark _))))), ?_⟩
    have ln := num_len hm
    have l4 : (Str.ofString (toString (9999 : Int))).length = 4 := by decide +kernel
    have big : ∀ {a : Nat}, a ≤ 4 → a ≤ sizeLine := fun h => Nat.le_trans h (by decide)
    refine ⟨_, rfl, _, rfl, big ln, _, rfl, (by decide +kernel), _, rfl, big (Nat.le_of_eq l4), _, _, rfl, rfl, _, rfl, ?_⟩
    have g1 : decide ((((num m).length : Nat) : Int) > (((Str.ofString (toString (9999 : Int))).length : Nat) : Int)) = false := decide_eq_false (by rw [l4]; omega)
    rw [g1]
    refine iteF ⟨_, rfl, ⟨_, rfl⟩, _, rfl, rfl, trivial, _, rfl, ?_⟩
    rw [num_ascii]
    refine iteF ⟨_, rfl, ⟨_, rfl⟩, _, rfl, rfl, trivial, _, rfl, ?_⟩
    rw [num_digit]
    refine iteF ?_
    refine ⟨_, rfl, _, _, rfl, num_int hm, Nat.le_trans ln (by decide), _, rfl, small10k hm, _, rfl, rfl, ?_⟩
    show Q (.bl (decide (V.str (num m) = V.str (num m)))) H
    rw [decide_eq_true rfl]
    exact q
end
end CC
namespace CC
open PySem L2 TL
/-- the source at s is one again, all else that stood still stands -/
structure Ran (H H' : Hp) (s : Addr) : Prop where
  same : Same (wo H s) (wo H' s)
  src : ∃ o, H' s = some o ∧ IsSrc o
theorem Ran.one {H : Hp} {s : Addr} {o : HO} (h : IsSrc o) : Ran H (upd H s o) s := ⟨by rw [wo_upd]; exact Same.refl _, o, upd_same, h⟩
theorem Ran.trans {H H1 H2 : Hp} {s : Addr} (a : Ran H H1 s) (b : Ran H1 H2 s) : Ran H H2 s := ⟨a.same.trans b.same, b.src⟩
theorem Ran.grow {H H1 H2 : Hp} {s : Addr} (a : Ran H H1 s) (b : Same H1 H2) : Ran H H2 s := by
  obtain ⟨o, h1, h2⟩ := a.src
  exact ⟨a.same.trans (wo_same b), o, b _ _ h1, h2⟩
theorem Ran.at_ {H H1 : Hp} {s b : Addr} {o : HO} (a : Ran H H1 s) (h : H b = some o) (n : b ≠ s) : H1 b = some o := wo_le s _ _ (a.same b o (by rw [wo_ne n]; exact h))
theorem Ran.free {H H1 : Hp} {s b : Addr} (a : Ran H H1 s) (h : H1 b = none) : H b = none := by
  by_cases e : b = s
  · obtain ⟨o, h1, _⟩ := a.src
    rw [e, h1] at h
    cases h
  · cases z : H b with
    | none => rfl
    | some o =>
      rw [a.at_ z e] at h
      cases h
theorem Ran.ne {H H1 : Hp} {s b : Addr} (a : Ran H H1 s) (h : H1 b = none) : b ≠ s := fun e => by
  obtain ⟨o, h1, _⟩ := a.src
  rw [e, h1] at h
  cases h
def Src (H : Hp) (s : Addr) : Prop := ∃ o, H s = some o ∧ IsSrc o
def spDraw2 : Sp := fun vs H Q _ => ∃ (s : Addr) (m : Nat), vs = [.ref s, .int (m : Int)] ∧ Src H s ∧ 0 < m ∧ m < 1000000 ∧ ∀ (r : Nat) (H' : Hp), r < m → Ran H H' s → Q (.int (r : Int)) H'
def spChoose (K : PySem.W.Frag) : Sp := fun vs H Q _ => ∃ (s : Addr) (v : V), vs = [.ref s, v] ∧ Src H s ∧
  ((∃ (a : Addr) (xs : List V), v = .ref a ∧ SqL K (wo H s) a xs ∧ 0 < xs.length ∧ xs.length < 1000 ∧ ∀ (i : Nat) (x : V) (H' : Hp), xs[i]? = some x → Ran H H' s → Q x H') ∨
  ∃ z : Str, v = .str z ∧ 0 < z.length ∧ z.length < 1000 ∧ ∀ (c : Nat) (H' : Hp), Ran H H' s → Q (.str ⟨#[c]⟩) H')
section
variable {X : Cx}
end
theorem nms_at {ns : List Nat} {i : Nat} {x : V} (h : (nms ns)[i]? = some x) : ∃ m, ns[i]? = some m ∧ x = .int (m : Int) := by
  rw [nms, List.getElem?_map] at h
  cases z : ns[i]? with
  | none =>
    rw [z] at h
    cases h
  | some m =>
    rw [z] at h
    exact ⟨m, rfl, (Option.some.inj h).symm⟩
theorem int_ne (a b : Nat) : (!decide (V.int (a : Int) = V.int (b : Int))) = decide (a ≠ b) := by
  by_cases e : a = b
  · subst e
    simp
  · rw [decide_eq_false (fun z => e (by injection z with z; omega)), decide_eq_true e]
    rfl
end CC
namespace CC
open PySem L2
/-! tuples never change -/
structure SameT (H H' : Hp) : Prop where
  tup : ∀ b xs, H b = some (.tup xs) → H' b = some (.tup xs)
  frz : ∀ b o xs, H b = some (.frz o (.tup xs)) → H' b = some (.frz o (.tup xs))
theorem sqt_T {K : PySem.W.Frag} {H H' : Hp} {a : Addr} {xs : List V} (e : SameT H H') (h : SqT K H a xs) : SqT K H' a xs := by
  rcases h with (h | ⟨o, h⟩) | h
  · exact .inl (.inl (e.tup _ _ h))
  · exact .inl (.inr ⟨o, e.frz _ _ _ h⟩)
  · exact .inr h
theorem rd_T {K : PySem.W.Frag} {H H' : Hp} {v : V} {r : R} (e : SameT H H') (h : Dp K H v r.d) : Dp K H' v r.d := by
  obtain ⟨p, rfl, hp⟩ := dp_r h
  exact r_dp (sqt_T e hp)
theorem rds_T {K : PySem.W.Frag} {H H' : Hp} (e : SameT H H') : ∀ {rs : List R} {us : List V}, DpAll K H us (rs.map R.d) → DpAll K H' us (rs.map R.d)
  | [], _, h => by
    cases h
    exact .nil
  | r :: rs, _, h => by
    cases h with
    | cons h1 h2 => exact .cons (rd_T e h1) (rds_T e h2)
theorem prd_T {K : PySem.W.Frag} {H H' : Hp} {v : V} {r : Nat × Nat} (e : SameT H H') (h : Dp K H v (prd r)) : Dp K H' v (prd r) := by
  obtain ⟨p, rfl, hp⟩ := dp_p h
  exact p_dp (sqt_T e hp)
theorem prds_T {K : PySem.W.Frag} {H H' : Hp} (e : SameT H H') : ∀ {rs : List (Nat × Nat)} {us : List V}, DpAll K H us (rs.map prd) → DpAll K H' us (rs.map prd)
  | [], _, h => by
    cases h
    exact .nil
  | r :: rs, _, h => by
    cases h with
    | cons h1 h2 => exact .cons (prd_T e h1) (prds_T e h2)
theorem same_T {H H' : Hp} (e : Same H H') : SameT H H' := ⟨fun b xs h => e _ _ h, fun b o xs h => e _ _ h⟩
theorem SameT.trans {H H1 H2 : Hp} (a : SameT H H1) (b : SameT H1 H2) : SameT H H2 := ⟨fun c xs h => b.tup _ _ (a.tup _ _ h), fun c o xs h => b.frz _ _ _ (a.frz _ _ _ h)⟩
/-- a list that is left out, or changed, is no tuple -/
theorem wo_T {H : Hp} {l : Addr} {us : List V} (h : H l = some (.lst us)) : SameT H (wo H l) := by
  constructor
  · intro b xs e
    rw [wo_ne (ne_of e h (by intro z; cases z))]
    exact e
  · intro b o xs e
    rw [wo_ne (ne_of e h (by intro z; cases z))]
    exact e
theorem upd_T {H : Hp} {l : Addr} {us : List V} {o : HO} (h : H l = some (.lst us)) : SameT H (upd H l o) := by
  constructor
  · intro b xs e
    rw [upd_ne (ne_of e h (by intro z; cases z))]
    exact e
  · intro b o xs e
    rw [upd_ne (ne_of e h (by intro z; cases z))]
    exact e
end CC
namespace CC
open PySem L2 TL
def gd (m : List Nat) : PyData := .tuple (m.map fun (n : Nat) => PyData.int (n : Int))
theorem dps_nms {K : PySem.W.Frag} {H : Hp} : ∀ fs : List Nat, DpAll K H (nms fs) (fs.map fun (n : Nat) => PyData.int (n : Int))
  | [] => .nil
  | n :: fs => .cons (.int _) (dps_nms fs)
theorem nms_dps {K : PySem.W.Frag} {H : Hp} : ∀ {fs : List Nat} {us : List V}, DpAll K H us (fs.map fun (n : Nat) => PyData.int (n : Int)) → us = nms fs
  | [], _, h => by
    cases h
    rfl
  | n :: fs, _, h => by
    cases h with
    | cons h1 h2 =>
      rw [dp_int h1, nms_dps h2]
      rfl
theorem dp_gd {K : PySem.W.Frag} {H : Hp} {t : Addr} {m : List Nat} (h : SqT K H t (nms m)) : Dp K H (.ref t) (gd m) := .tup h (dps_nms m)
theorem gd_at {K : PySem.W.Frag} {H : Hp} {v : V} {m : List Nat} (h : Dp K H v (gd m)) : ∃ t, v = .ref t ∧ SqT K H t (nms m) := by
  obtain ⟨p, us, rfl, h1, h2⟩ := dp_t h
  rw [nms_dps h2] at h1
  exact ⟨p, rfl, h1⟩
theorem gd_T {K : PySem.W.Frag} {H H' : Hp} {v : V} {m : List Nat} (e : SameT H H') (h : Dp K H v (gd m)) : Dp K H' v (gd m) := by
  obtain ⟨t, rfl, ht⟩ := gd_at h
  exact dp_gd (sqt_T e ht)
theorem gds_T {K : PySem.W.Frag} {H H' : Hp} (e : SameT H H') : ∀ {ms : List (List Nat)} {us : List V}, DpAll K H us (ms.map gd) → DpAll K H' us (ms.map gd)
  | [], _, h => by
    cases h
    exact .nil
  | m :: ms, _, h => by
    cases h with
    | cons h1 h2 => exact .cons (gd_T e h1) (gds_T e h2)
theorem dps_gat {K : PySem.W.Frag} {H : Hp} {gs : List V} {ms : List (List Nat)} {i : Nat} {v : V} (h : DpAll K H gs (ms.map gd)) (e : gs[i]? = some v) : ∃ m, ms[i]? = some m ∧ Dp K H v (gd m) := by
  obtain ⟨d, h1, h2⟩ := dps_at h e
  rw [List.getElem?_map] at h1
  cases q : ms[i]? with
  | none => rw [q] at h1; cases h1
  | some m =>
    rw [q] at h1
    cases h1
    exact ⟨m, rfl, h2⟩
def rTupOf (K : PySem.W.Frag) : List V → Hp → VK → Prop := fun xs H Q => ∃ p ys, xs = [.ref p] ∧ ((SqL K H p ys ∧ ∀ l, H l = none → Q (.ref l) (upd H l (.tup ys))) ∨ (SqT K H p ys ∧ Q (.ref p) H))
end CC
namespace CC
open PySem L2 TL
theorem Ran.T {H H' : Hp} {s : Addr} (r : Ran H H' s) (h : Src H s) : SameT H H' := by
  obtain ⟨o, h1, a, b, c, rfl, _⟩ := h
  constructor
  · intro x xs e
    exact r.at_ e (ne_of e h1 (by intro z; cases z))
  · intro x o xs e
    exact r.at_ e (ne_of e h1 (by intro z; cases z))
theorem cut_from (xs : List V) (n : Nat) : cutV xs (some (n : Int)) none = xs.drop n := by
  unfold cutV
  rw [HT.sIx_nat, HT.sIx_none]
  by_cases h : n ≤ xs.length
  · rw [Nat.min_eq_left h]
    exact List.take_of_length_le (by rw [List.length_drop]; exact Nat.le_refl _)
  · rw [Nat.min_eq_right (by omega), List.drop_eq_nil_of_le (Nat.le_refl _), List.drop_eq_nil_of_le (by omega)]
    simp
theorem cut_to (xs : List V) (n : Nat) : cutV xs none (some (n : Int)) = xs.take n := by
  unfold cutV
  rw [HT.sIx_nat, HT.sIx_none, List.drop_zero, Nat.sub_zero]
  by_cases h : n ≤ xs.length
  · rw [Nat.min_eq_left h]
  · rw [Nat.min_eq_right (by omega), List.take_of_length_le (Nat.le_refl _), List.take_of_length_le (by omega)]
end CC
namespace CC
/-! ### words in their order: shorter ones first, then by their signs -/
def lx : List Nat → List Nat → Prop
  | [], [] => False
  | [], _ :: _ => True
  | _ :: _, [] => False
  | a :: p, b :: q => a < b ∨ (a = b ∧ lx p q)
theorem lx_trans : ∀ {p q r : List Nat}, lx p q → lx q r → lx p r
  | [], [], _, h, _ => False.elim h
  | [], _ :: _, [], _, h => False.elim h
  | [], _ :: _, _ :: _, _, _ => trivial
  | _ :: _, [], _, h, _ => False.elim h
  | _ :: _, _ :: _, [], _, h => False.elim h
  | a :: p, b :: q, c :: r, h1, h2 => by
    rcases h1 with h1 | ⟨rfl, h1⟩ <;> rcases h2 with h2 | ⟨rfl, h2⟩
    · exact .inl (by omega)
    · exact .inl h1
    · exact .inl h2
    · exact .inr ⟨rfl, lx_trans h1 h2⟩
theorem lx_tri : ∀ p q : List Nat, lx p q ∨ p = q ∨ lx q p
  | [], [] => .inr (.inl rfl)
  | [], _ :: _ => .inl trivial
  | _ :: _, [] => .inr (.inr trivial)
  | a :: p, b :: q => by
    rcases Nat.lt_trichotomy a b with h | h | h
    · exact .inl (.inl h)
    · subst h
      rcases lx_tri p q with z | z | z
      · exact .inl (.inr ⟨rfl, z⟩)
      · exact .inr (.inl (by rw [z]))
      · exact .inr (.inr (.inr ⟨rfl, z⟩))
    · exact .inr (.inr (.inl h))
theorem lx_app : ∀ {p q : List Nat} (r s : List Nat), p.length = q.length → lx p q → lx (p ++ r) (q ++ s)
  | [], [], _, _, _, h => False.elim h
  | [], _ :: _, _, _, e, _ => by simp at e
  | _ :: _, [], _, _, e, _ => by simp at e
  | a :: p, b :: q, r, s, e, h => by
    rcases h with h | ⟨h1, h⟩
    · exact .inl h
    · exact .inr ⟨h1, lx_app r s (by simpa using e) h⟩
theorem lx_last : ∀ (p : List Nat) {a b : Nat}, a < b → lx (p ++ [a]) (p ++ [b])
  | [], _, _, h => .inl h
  | _ :: p, _, _, h => .inr ⟨rfl, lx_last p h⟩
def SS (p q : List Nat) : Prop := p.length < q.length ∨ (p.length = q.length ∧ lx p q)
theorem SS.trans {p q r : List Nat} (h1 : SS p q) (h2 : SS q r) : SS p r := by
  rcases h1 with h1 | ⟨e1, h1⟩ <;> rcases h2 with h2 | ⟨e2, h2⟩
  · exact .inl (by omega)
  · exact .inl (by omega)
  · exact .inl (by omega)
  · exact .inr ⟨by omega, lx_trans h1 h2⟩
theorem SS.app {p q : List Nat} (x y : Nat) (h : SS p q) : SS (p ++ [x]) (q ++ [y]) := by
  rcases h with h | ⟨e, h⟩
  · exact .inl (by simp; omega)
  · exact .inr ⟨by simp [e], lx_app _ _ e h⟩
theorem SS.last (p : List Nat) {x y : Nat} (h : x < y) : SS (p ++ [x]) (p ++ [y]) := .inr ⟨by simp, lx_last p h⟩
theorem SS.snoc (p : List Nat) (x : Nat) : SS p (p ++ [x]) := .inl (by simp)
/-- a walk -/
inductive Wk (ps : List (Nat × Nat)) (a : Nat) : Nat → List Nat → Prop
  | one : Wk ps a a [a]
  | step {b c : Nat} {w : List Nat} : Wk ps a b w → (b, c) ∈ ps → Wk ps a c (w ++ [c])
theorem Wk.ne {ps : List (Nat × Nat)} {a b : Nat} {w : List Nat} (h : Wk ps a b w) : w ≠ [] := by
  cases h <;> simp
/-- what is found: each column that is reached, with the first of the shortest walks -/
structure FW (ps : List (Nat × Nat)) (st : Nat) (ws : List (Nat × List Nat)) : Prop where
  nd : (ws.map (·.1)).Nodup
  lt : ∀ e ∈ ws, e.1 < 6
  wk : ∀ e ∈ ws, Wk ps st e.1 e.2
  fst : ∀ c q, Wk ps st c q → ∃ v, (c, v) ∈ ws ∧ (v = q ∨ SS v q)
  len : ∀ e ∈ ws, e.2.length ≤ ws.length
/-- between two turns: n columns are through -/
structure BI (ps : List (Nat × Nat)) (st : Nat) (ws : List (Nat × List Nat)) (n : Nat) : Prop where
  nd : (ws.map (·.1)).Nodup
  lt : ∀ e ∈ ws, e.1 < 6
  wk : ∀ e ∈ ws, Wk ps st e.1 e.2
  ord : ∀ (i j : Nat) (e f : Nat × List Nat), i < j → ws[i]? = some e → ws[j]? = some f → SS e.2 f.2
  beg : (st, [st]) ∈ ws
  le : n ≤ ws.length
  len : ∀ (i : Nat) (e : Nat × List Nat), ws[i]? = some e → e.2.length ≤ i + 1
  don : ∀ (i : Nat) (e : Nat × List Nat), i < n → ws[i]? = some e → ∀ b, (e.1, b) ∈ ps → ∃ v, (b, v) ∈ ws ∧ (v = e.2 ++ [b] ∨ SS v (e.2 ++ [b]))
  low : ∀ e ∈ ws, ∀ (j : Nat) (f : Nat × List Nat), n ≤ j → ws[j]? = some f → ∀ x, SS e.2 (f.2 ++ [x])
theorem BI.start {ps : List (Nat × Nat)} {st : Nat} (h : st < 6) : BI ps st [(st, [st])] 0 where
  nd := by simp
  lt := fun e he => by rw [List.mem_singleton.mp he]; exact h
  wk := fun e he => by rw [List.mem_singleton.mp he]; exact .one
  ord := fun i j e f hij h1 h2 => by
    have := (List.getElem?_eq_some_iff.mp h2).1
    simp at this
    omega
  beg := List.mem_singleton.mpr rfl
  le := Nat.zero_le _
  len := fun i e h => by
    have : e ∈ [(st, [st])] := List.mem_of_getElem? h
    rw [List.mem_singleton.mp this]
    simp
  don := fun i e hi => absurd hi (Nat.not_lt_zero _)
  low := fun e he j f _ hf x => by
    have : f ∈ [(st, [st])] := List.mem_of_getElem? hf
    rw [List.mem_singleton.mp he, List.mem_singleton.mp this]
    exact SS.snoc _ _
theorem BI.out {ps : List (Nat × Nat)} {st : Nat} {ws : List (Nat × List Nat)} {n : Nat} (h : BI ps st ws n) (hn : ws.length ≤ n) : FW ps st ws where
  nd := h.nd
  lt := h.lt
  wk := h.wk
  fst := fun c q w => by
    induction w with
    | one => exact ⟨_, h.beg, .inl rfl⟩
    | @step b c w w1 hb ih =>
      obtain ⟨v, hv, e⟩ := ih
      obtain ⟨i, hi⟩ := List.mem_iff_getElem?.mp hv
      have il := (List.getElem?_eq_some_iff.mp hi).1
      obtain ⟨u, hu, e2⟩ := h.don i _ (by omega) hi c hb
      refine ⟨u, hu, ?_⟩
      rcases e with rfl | e
      · exact e2
      · rcases e2 with rfl | e2
        · exact .inr (e.app _ _)
        · exact .inr (e2.trans (e.app _ _))
  len := fun e he => by
    obtain ⟨i, hi⟩ := List.mem_iff_getElem?.mp he
    have := h.len i e hi
    have := (List.getElem?_eq_some_iff.mp hi).1
    omega
/-- within a turn, the column c with the way w: the new ones -/
def nws (w : List Nat) (nb : List Nat) : List (Nat × List Nat) := nb.map fun b => (b, w ++ [b])
structure TI (ps : List (Nat × Nat)) (ws : List (Nat × List Nat)) (c : Nat) (w : List Nat) (bs : List Nat) (i : Nat) (nb : List Nat) : Prop where
  inc : nb.Pairwise (· < ·)
  sub : ∀ b ∈ nb, b ∈ bs.take i
  new : ∀ b ∈ nb, b ∉ ws.map (·.1)
  all : ∀ b ∈ bs.take i, b ∈ ws.map (·.1) ∨ b ∈ nb
theorem TI.start {ps : List (Nat × Nat)} {ws : List (Nat × List Nat)} {c : Nat} {w bs : List Nat} : TI ps ws c w bs 0 [] where
  inc := .nil
  sub := fun _ h => nomatch h
  new := fun _ h => nomatch h
  all := fun _ h => by simp at h
theorem take1 {α : Type} {l : List α} {i : Nat} {x : α} (h : l[i]? = some x) : l.take (i + 1) = l.take i ++ [x] := by
  rw [List.take_succ, h]
  rfl
theorem nws_keys (w nb : List Nat) : (nws w nb).map (·.1) = nb := by
  unfold nws
  rw [List.map_map]
  exact List.map_id' nb
theorem TI.old {ps : List (Nat × Nat)} {ws : List (Nat × List Nat)} {c : Nat} {w bs nb : List Nat} {i b : Nat} (h : TI ps ws c w bs i nb) (hb : bs[i]? = some b) (hm : b ∈ (ws ++ nws w nb).map (·.1)) : TI ps ws c w bs (i + 1) nb where
  inc := h.inc
  sub := fun x hx => by
    rw [take1 hb]
    exact List.mem_append_left _ (h.sub x hx)
  new := h.new
  all := fun x hx => by
    rw [take1 hb] at hx
    rcases List.mem_append.mp hx with z | z
    · exact h.all x z
    · rw [List.mem_singleton.mp z]
      rw [List.map_append, nws_keys] at hm
      exact List.mem_append.mp hm
theorem TI.add {ps : List (Nat × Nat)} {ws : List (Nat × List Nat)} {c : Nat} {w bs nb : List Nat} {i b : Nat} (h : TI ps ws c w bs i nb) (hs : bs.Pairwise (· ≤ ·)) (hb : bs[i]? = some b) (hm : b ∉ (ws ++ nws w nb).map (·.1)) : TI ps ws c w bs (i + 1) (nb ++ [b]) where
  inc := by
    rw [List.pairwise_append]
    refine ⟨h.inc, by simp, fun x hx y hy => ?_⟩
    rw [List.mem_singleton.mp hy]
    have hx2 := h.sub x hx
    obtain ⟨j, hj⟩ := List.mem_iff_getElem?.mp hx2
    have jl := (List.getElem?_eq_some_iff.mp hj).1
    rw [List.length_take] at jl
    have ji : j < i := by omega
    rw [List.getElem?_take_of_lt ji] at hj
    have le : x ≤ b := by
      obtain ⟨l1, e1⟩ := List.getElem?_eq_some_iff.mp hj
      obtain ⟨l2, e2⟩ := List.getElem?_eq_some_iff.mp hb
      have := List.pairwise_iff_getElem.mp hs j i l1 l2 ji
      rw [e1, e2] at this
      exact this
    have ne : x ≠ b := fun e => hm (by rw [List.map_append, nws_keys, ← e]; exact List.mem_append_right _ hx)
    omega
  sub := fun x hx => by
    rw [take1 hb]
    rcases List.mem_append.mp hx with z | z
    · exact List.mem_append_left _ (h.sub x z)
    · exact List.mem_append_right _ z
  new := fun x hx => by
    rcases List.mem_append.mp hx with z | z
    · exact h.new x z
    · rw [List.mem_singleton.mp z]
      intro q
      exact hm (by rw [List.map_append]; exact List.mem_append_left _ q)
  all := fun x hx => by
    rw [take1 hb] at hx
    rcases List.mem_append.mp hx with z | z
    · rcases h.all x z with y | y
      · exact .inl y
      · exact .inr (List.mem_append_left _ y)
    · exact .inr (List.mem_append_right _ z)
theorem nws_mem {w nb : List Nat} {e : Nat × List Nat} : e ∈ nws w nb ↔ e.1 ∈ nb ∧ e.2 = w ++ [e.1] := by
  unfold nws
  rw [List.mem_map]
  constructor
  · rintro ⟨b, hb, rfl⟩
    exact ⟨hb, rfl⟩
  · rintro ⟨h1, h2⟩
    exact ⟨e.1, h1, by rw [← h2]⟩
/-- the turn's end -/
theorem BI.turn {ps : List (Nat × Nat)} {st : Nat} {ws : List (Nat × List Nat)} {n : Nat} (h : BI ps st ws n) {c : Nat} {w bs nb : List Nat} (hc : ws[n]? = some (c, w)) (hbs : ∀ b, b ∈ bs ↔ (c, b) ∈ ps) (hlt : ∀ x ∈ ps, x.1 < 6 ∧ x.2 < 6) (t : TI ps ws c w bs bs.length nb) : BI ps st (ws ++ nws w nb) (n + 1) := by
  have all : ∀ b ∈ bs, b ∈ ws.map (·.1) ∨ b ∈ nb := fun b hb => t.all b (by rw [List.take_length]; exact hb)
  have sub : ∀ b ∈ nb, (c, b) ∈ ps := fun b hb => (hbs b).mp (by have := t.sub b hb; rw [List.take_length] at this; exact this)
  have hw := h.wk _ (List.mem_of_getElem? hc)
  have nl := (List.getElem?_eq_some_iff.mp hc).1
  have at_ : ∀ {j : Nat} {f : Nat × List Nat}, (ws ++ nws w nb)[j]? = some f → (j < ws.length ∧ ws[j]? = some f) ∨ (ws.length ≤ j ∧ (nws w nb)[j - ws.length]? = some f) := fun {j f} hf => by
    by_cases lt : j < ws.length
    · rw [List.getElem?_append_left lt] at hf
      exact .inl ⟨lt, hf⟩
    · rw [List.getElem?_append_right (by omega)] at hf
      exact .inr ⟨by omega, hf⟩
  constructor
  · rw [List.map_append, nws_keys]
    refine List.nodup_append.mpr ⟨h.nd, t.inc.imp (fun h => by omega), fun x hx y hy e => ?_⟩
    subst e
    exact t.new x hy hx
  · intro e he
    rcases List.mem_append.mp he with z | z
    · exact h.lt e z
    · exact (hlt _ (sub _ (nws_mem.mp z).1)).2
  · intro e he
    rcases List.mem_append.mp he with z | z
    · exact h.wk e z
    · obtain ⟨z1, z2⟩ := nws_mem.mp z
      rw [z2]
      exact hw.step (sub _ z1)
  · intro i j e f hij hi hj
    rcases at_ hi with ⟨i1, i2⟩ | ⟨i1, i2⟩ <;> rcases at_ hj with ⟨j1, j2⟩ | ⟨j1, j2⟩
    · exact h.ord i j e f hij i2 j2
    · rw [(nws_mem.mp (List.mem_of_getElem? j2)).2]
      exact h.low e (List.mem_of_getElem? i2) n _ (Nat.le_refl _) hc _
    · omega
    · rw [(nws_mem.mp (List.mem_of_getElem? j2)).2, (nws_mem.mp (List.mem_of_getElem? i2)).2]
      refine SS.last _ ?_
      unfold nws at i2 j2
      rw [List.getElem?_map] at i2 j2
      cases hi3 : nb[i - ws.length]? with
      | none => rw [hi3] at i2; cases i2
      | some x =>
        cases hj3 : nb[j - ws.length]? with
        | none => rw [hj3] at j2; cases j2
        | some y =>
          rw [hi3] at i2
          rw [hj3] at j2
          cases i2
          cases j2
          obtain ⟨l1, e1⟩ := List.getElem?_eq_some_iff.mp hi3
          obtain ⟨l2, e2⟩ := List.getElem?_eq_some_iff.mp hj3
          have := List.pairwise_iff_getElem.mp t.inc _ _ l1 l2 (by omega)
          rw [e1, e2] at this
          exact this
  · exact List.mem_append_left _ h.beg
  · rw [List.length_append]
    omega
  · intro i e hi
    rcases at_ hi with ⟨i1, i2⟩ | ⟨i1, i2⟩
    · exact h.len i e i2
    · rw [(nws_mem.mp (List.mem_of_getElem? i2)).2, List.length_append]
      have := h.len n _ hc
      simp only [List.length_singleton] at this ⊢
      omega
  · intro i e hi he b hb
    rcases at_ he with ⟨i1, i2⟩ | ⟨i1, i2⟩
    · by_cases lt : i < n
      · obtain ⟨v, hv, q⟩ := h.don i e lt i2 b hb
        exact ⟨v, List.mem_append_left _ hv, q⟩
      · have : i = n := by omega
        subst this
        rw [hc] at i2
        cases i2
        rcases all b ((hbs b).mpr hb) with z | z
        · obtain ⟨⟨b', v⟩, hv, rfl⟩ := List.mem_map.mp z
          exact ⟨v, List.mem_append_left _ hv, .inr (h.low _ hv i _ (Nat.le_refl _) hc _)⟩
        · exact ⟨w ++ [b], List.mem_append_right _ (nws_mem.mpr ⟨z, rfl⟩), .inl rfl⟩
    · omega
  · intro e he j f hj hf x
    have old : ∀ e ∈ ws, ∀ b, SS e.2 (w ++ [b]) := fun e he b => h.low e he n _ (Nat.le_refl _) hc b
    rcases List.mem_append.mp he with z | z
    · rcases at_ hf with ⟨j1, j2⟩ | ⟨j1, j2⟩
      · exact h.low e z j f (by omega) j2 x
      · rw [(nws_mem.mp (List.mem_of_getElem? j2)).2]
        exact (old e z _).trans (SS.snoc _ _)
    · rw [(nws_mem.mp z).2]
      rcases at_ hf with ⟨j1, j2⟩ | ⟨j1, j2⟩
      · exact (h.ord n j _ _ (by omega) hc j2).app _ _
      · rw [(nws_mem.mp (List.mem_of_getElem? j2)).2]
        exact .inl (by simp)
end CC
namespace CC
open PySem L2 TL
/-- words of a line, as data -/
def wd (row : List Nat) : PyData := .list ((row.map num).map PyData.str)
theorem dps_strs {K : PySem.W.Frag} {H : Hp} : ∀ {xs : List Str} {us : List V}, DpAll K H us (xs.map PyData.str) → us = xs.map V.str
  | [], _, h => by
    cases h
    rfl
  | x :: xs, _, h => by
    cases h with
    | cons h1 h2 =>
      rw [dp_str h1, dps_strs h2]
      rfl
theorem strs_dps {K : PySem.W.Frag} {H : Hp} : ∀ xs : List Str, DpAll K H (xs.map V.str) (xs.map PyData.str)
  | [] => .nil
  | x :: xs => .cons (.str x) (strs_dps xs)
theorem wd_at {K : PySem.W.Frag} {H : Hp} {v : V} {row : List Nat} (h : Dp K H v (wd row)) : ∃ l, v = .ref l ∧ SqL K H l ((row.map num).map V.str) := by
  obtain ⟨l, us, rfl, h1, h2⟩ := dp_l h
  rw [dps_strs h2] at h1
  exact ⟨l, rfl, h1⟩
theorem dps_wat {K : PySem.W.Frag} {H : Hp} {gs : List V} {ms : List (List Nat)} {i : Nat} {v : V} (h : DpAll K H gs (ms.map wd)) (e : gs[i]? = some v) : ∃ m, ms[i]? = some m ∧ Dp K H v (wd m) := by
  obtain ⟨d, h1, h2⟩ := dps_at h e
  rw [List.getElem?_map] at h1
  cases q : ms[i]? with
  | none => rw [q] at h1; cases h1
  | some m =>
    rw [q] at h1
    cases h1
    exact ⟨m, rfl, h2⟩
theorem word_at {row : List Nat} {i : Nat} {x : V} (h : ((row.map num).map V.str)[i]? = some x) : ∃ m, row[i]? = some m ∧ x = .str (num m) := by
  rw [List.getElem?_map, List.getElem?_map] at h
  cases z : row[i]? with
  | none =>
    rw [z] at h
    cases h
  | some m =>
    rw [z] at h
    exact ⟨m, rfl, (Option.some.inj h).symm⟩
theorem cut_butlast (xs : List V) (x : V) : cutV (xs ++ [x]) none (some (-1)) = xs := by
  unfold cutV
  have e : HT.sIx (xs ++ [x]).length (xs ++ [x]).length (some (-1)) = xs.length := by
    have := HT.clip_eq (-1) (xs ++ [x]).length (xs ++ [x]).length
    rw [if_pos (by decide)] at this
    have hl : (xs ++ [x]).length = xs.length + 1 := by simp
    omega
  rw [HT.sIx_none, e]
  simp
/-- a comprehension with two for's: the outer one over a list -/
theorem two_list {K : PySem.W.Frag} {a : Addr} {xs : List V} {g : TG} {tt : TT} {vs : List Nat} {σ : L2.St} {H1 : Hp} {D : Addr} {Qd : Hp → Prop} {B : L2.St → Hp → (Hp → Prop) → Prop} (Pv : Nat → Hp → Prop) (h0 : Pv 0 (upd H1 D (.lst []))) (hl : ∀ i H, i ≤ xs.length → Pv i H → SqL K H a xs)
    (hs : ∀ i x H, xs[i]? = some x → Pv i H → g x (wipe σ vs) H fun σ2 H2 => wipe σ2 vs = wipe σ vs ∧ tt σ2 H2 fun b H3 => if b = true then B σ2 H3 (Pv (i + 1)) else Pv (i + 1) H3) (hd : ∀ H, Pv xs.length H → Qd H) :
    ∃ W : Nat → Nat → Hp → Prop, (∃ m, W 0 m (upd H1 D (.lst []))) ∧ ∀ i m H, W i m H → ((Itl K a).stop i H ∧ Qd H) ∨ ((Itl K a).go i H ∧ ∃ Nx : Hp → Prop, (∀ H', Nx H' → ∃ m', m' < m ∧ W (i + 1) m' H') ∧ ∀ x H', (Itl K a).yld i H x H' → g x (wipe σ vs) H' fun σ2 H2 => wipe σ2 vs = wipe σ vs ∧ tt σ2 H2 fun b H3 =>
      if b = true then B σ2 H3 Nx else Nx H3) := by
  refine ⟨fun i m H => m = xs.length - i ∧ i ≤ xs.length ∧ Pv i H, ⟨xs.length, by simp, Nat.zero_le _, h0⟩, ?_⟩
  rintro i m H ⟨rfl, hi, p⟩
  have q := hl i H hi p
  by_cases lt : i < xs.length
  · refine .inr ⟨⟨xs, xs[i], q, by simp [lt]⟩, Pv (i + 1), fun H' p' => ⟨xs.length - (i + 1), by omega, rfl, lt, p'⟩, fun x H' y => ?_⟩
    obtain ⟨e, y⟩ := y
    subst e
    exact hs i x _ (y xs q) p
  · have e : i = xs.length := by omega
    subst e
    exact .inl ⟨⟨xs, q, Nat.le_refl _⟩, hd H p⟩
/-- its inner one over a list -/
theorem in_list {K : PySem.W.Frag} {a : Addr} {xs : List V} {H1 : Hp} {Qd : Hp → Prop} {B : V → Hp → (Hp → Prop) → Prop} (Pv : Nat → Hp → Prop) (h0 : Pv 0 H1) (hl : ∀ i H, i ≤ xs.length → Pv i H → SqL K H a xs) (hs : ∀ i x H, xs[i]? = some x → Pv i H → B x H (Pv (i + 1))) (hd : ∀ H, Pv xs.length H → Qd H) :
    ∃ W : Nat → Nat → Hp → Prop, (∃ m, W 0 m H1) ∧ ∀ i m H, W i m H → ((Itl K a).stop i H ∧ Qd H) ∨ ((Itl K a).go i H ∧ ∃ Nx : Hp → Prop, (∀ H', Nx H' → ∃ m', m' < m ∧ W (i + 1) m' H') ∧ ∀ x H', (Itl K a).yld i H x H' → B x H' Nx) := by
  refine ⟨fun i m H => m = xs.length - i ∧ i ≤ xs.length ∧ Pv i H, ⟨xs.length, by simp, Nat.zero_le _, h0⟩, ?_⟩
  rintro i m H ⟨rfl, hi, p⟩
  have q := hl i H hi p
  by_cases lt : i < xs.length
  · refine .inr ⟨⟨xs, xs[i], q, by simp [lt]⟩, Pv (i + 1), fun H' p' => ⟨xs.length - (i + 1), by omega, rfl, lt, p'⟩, fun x H' y => ?_⟩
    obtain ⟨e, y⟩ := y
    subst e
    exact hs i x _ (y xs q) p
  · have e : i = xs.length := by omega
    subst e
    exact .inl ⟨⟨xs, q, Nat.le_refl _⟩, hd H p⟩
def rIntS : List V → Hp → VK → Prop := fun xs H Q => ∃ a n, xs = [.str a] ∧ PySem.intText? a = some n ∧ a.length ≤ 640 ∧ Q (.int n) H
theorem call_intS {X : Cx} : CallR X (.type "int") rIntS := call_int_str
def rLenSq (K : PySem.W.Frag) : List V → Hp → VK → Prop := fun xs H Q => ∃ p ys, xs = [V.ref p] ∧ (SqL K H p ys ∨ SqT K H p ys) ∧ Q (V.int ((ys.length : Nat) : Int)) H
theorem call_lenSq {X : Cx} : CallR X (.builtin "len") (rLenSq X.K) := call_len_seq
def lcScT : Expr → Scope
  | .ListComp _ _ sc _ => sc
  | _ => { kind := .function, names := [], isGenerator := false, isCoroutine := false }
abbrev scRows5 : Scope := lcScT (retVal ((defBody sRowsOf).getD 5 (.Pass ⟨0, 0, 0, 0⟩)))
def spRowsOf (K : PySem.W.Frag) : Sp := fun vs H Q _ => ∃ (w : Nat) (rows : List (List Nat)), vs = [.int (w : Int), .str (textT rows)] ∧ 1 ≤ w ∧ w ≤ 6 ∧ (∀ r ∈ rows, RowOk w r) ∧ rows.length ≤ 400 ∧ NewF gd K H rows Q
section
variable {P : Program} {w : World} {K : PySem.W.Frag} {mg : Str → Option Value} {base : Heap} {kA : Addr}
abbrev nRow : List Str := ["width", "text", "parts", "lines", "part", "words", "word"]
theorem scRowsOf : FnScope nRow ["width", "text"] (defScope sRowsOf) := ⟨rfl, rfl, rfl, by decide +kernel, rfl, by decide +kernel, by decide +kernel⟩
theorem ok_rowsof {f : Addr} {fd : FuncData} {k : Nat} (F : Fun K "rows_of" "rows_of" sRowsOf f fd) (T : Glb K mg kA) (TT : GlbT mg) (cN : Cal P w K mg base "is_numeral" ["word"] spIsNum 1) : FnOk P w K mg base CX0 (k + 2) f fd ["width", "text"] (spRowsOf K) := by
  have GN := cN.ok (k + 1) (by omega)
  refine F.ok scRowsOf (fun vs H Q E h => ?_) (fun cdv A outer s H vs Q E hr h => ?_)
  · obtain ⟨w, rows, rfl, _⟩ := h
    rfl
  · obtain ⟨w, rows, rfl, w1, w6, ok, few, q⟩ := h
    obtain ⟨tm, hmr⟩ := TT.mr
    have n := scRowsOf.nd
    refine ⟨_, (pss_cons (ps_set (i := 2) n rfl (.inl rfl) (pe_split (pv 1) pe_str))
      (pss_cons (ps_setLc (i := 3) (own := [("part", 4)]) (g := gName 4) (tt := tYes) rfl n rfl rfl (sw_true rfl rfl rfl (by decide +kernel)) (pi_list (pe_slice sl_list (pv 2) po_none (po_some (pe_un un_neg pe_int)))) (blkOk_by (N := nRow) (sc := defScope sRowsOf) (by decide +kernel))
        (fun _ _ _ _ _ => (pg_name (i := 4) n rfl (.inl rfl))) (fun _ _ _ _ _ => pts_nil) (fun _ _ _ _ _ => (pe_split (pv 4) pe_str)))
      (pss_cons (ps_if (PW.pt (pw_or (pt_cmpR op_ne (pe_ix ix_list (pv 2) (pe_un un_neg pe_int) (fun _ _ => rfl)) pe_str (nomark _)) (pw_or1 (pt_cmpR op_gt (pe_callB call_len_seq (by rfl) T.len PySem.boot_len (pa_cons (pv 3) pa_nil)) (pe_glob (v := .int 400) rfl hmr ⟨_, rfl⟩) (nomark _))))) (pss_one (ps_ret pe_non)) pss_nil)
      (pss_cons (ps_if (pt_not (pt_val (pe_callB (cr_all rfl) (by rfl) T.all (by decide +kernel) (pa_cons (pe_lc (own := [("words", 5)]) (g := gName 5) (tt := tYes) (te := tOp rEq (tCB (rLenSq K) (tCons (tVar 5) tNil)) (tVar 0)) rfl n (pi_list (pv 3)) (blkOk_by (N := nRow) (sc := defScope sRowsOf) (by decide +kernel))
        (fun _ _ _ _ _ => (pg_name (i := 5) n rfl (.inl rfl))) (fun _ _ _ _ _ => pts_nil) (fun _ _ _ _ _ => (pe_cmpR op_eq (pe_callB call_lenSq (by rfl) T.len PySem.boot_len (pa_cons (pv 5) pa_nil)) (pv 0) (nomark _)))) pa_nil)))) (pss_one (ps_ret pe_non)) pss_nil)
      (pss_cons (ps_if (pt_not (pt_val (pe_callB (cr_all rfl) (by rfl) T.all (by decide +kernel) (pa_cons (pe_lc2 (own := [("words", 5), ("word", 6)]) (vs1 := [6]) (g := gName 5) (g1 := gName 6) (tt := tYes) (tt1 := tYes) (wi1 := iList K (tVar 5)) (te := tCall spIsNum [] E0 (tCons (tVar 6) tNil)) rfl n (pi_list (pv 3)) (blkOk_by (N := nRow) (sc := defScope sRowsOf) (by decide +kernel)) (by decide)
        (fun _ _ _ _ _ => (pg_name (i := 5) n rfl (.inl rfl))) (fun _ _ _ _ _ => pts_nil) (fun _ _ _ _ _ => (pi_list (pv 5))) (fun _ _ _ _ _ => (pg_name (i := 6) n rfl (.inl rfl))) (fun _ _ _ _ _ => pts_nil) (fun _ _ _ _ _ => (pe_call GN hr rfl cN.g cN.kp cN.b .nil pass0 (pa_cons (pv 6) pa_nil)))) pa_nil)))) (pss_one (ps_ret pe_non)) pss_nil)
      (pss_one (ps_ret (pe_lc (own := [("words", 5)]) (g := gName 5) (tt := tYes) (te := tCB (rTupOf K) (tCons (tLc (iList K (tVar 5)) (gName 6) tYes (tCB rIntS (tCons (tVar 6) tNil)) [6]) tNil)) rfl n (pi_list (pv 3)) (blkOk_by (N := nRow) (sc := defScope sRowsOf) (by decide +kernel))
        (fun _ _ _ _ _ => (pg_name (i := 5) n rfl (.inl rfl))) (fun _ _ _ _ _ => pts_nil) (fun _ _ _ _ _ => (pe_callTy call_tuple_of (by rfl) T.tup (by decide +kernel) (pa_cons (pe_lc (own := [("word", 6)]) (g := gName 6) (tt := tYes) rfl n (pi_list (pv 5)) (blkOk_by (N := nRow) (sc := relS scRows5 (defScope sRowsOf)) (by decide +kernel))
        (fun _ _ _ _ _ => (pg_name (i := 6) n rfl (.inl rfl))) (fun _ _ _ _ _ => pts_nil) (fun _ _ _ _ _ => (pe_callTy call_intS (by rfl) T.int (by decide +kernel) (pa_cons (pv 6) pa_nil)))) pa_nil))))))))))), ?_⟩
    have tlen := textT_len ok w6
    have rne : ∀ r ∈ rows, r ≠ [] := fun r hr e => by
      have := (ok r hr).1
      rw [e] at this
      simp at this
      omega
    refine ⟨_, rfl, ⟨_, rfl⟩, _, _, rfl, rfl, by decide +kernel, Nat.le_trans (show (textT rows).length + 2 ≤ 100000 by omega) (by decide), fun p3 n3 => ?_⟩
    rw [split_textT, List.map_append]
    have m3 : Same H (upd H p3 (.lst ((rows.map rowS).map V.str ++ [Str.empty].map V.str))) := same_new n3
    have h3 : (upd H p3 (.lst ((rows.map rowS).map V.str ++ [Str.empty].map V.str))) p3 = some (.lst ((rows.map rowS).map V.str ++ [V.str Str.empty])) := upd_same
    generalize upd H p3 (.lst ((rows.map rowS).map V.str ++ [Str.empty].map V.str)) = H3 at m3 h3
    -- lines
    refine ⟨_, rfl, _, rfl, _, rfl, p3, _, rfl, SqL.of h3, fun p4 n4 => ?_⟩
    rw [cut_butlast]
    have m4 : Same H3 (upd H3 p4 (.lst ((rows.map rowS).map V.str))) := same_new n4
    have h4 : (upd H3 p4 (.lst ((rows.map rowS).map V.str))) p4 = some (.lst ((rows.map rowS).map V.str)) := upd_same
    generalize upd H3 p4 (.lst ((rows.map rowS).map V.str)) = H4 at m4 h4
    refine ⟨p4, rfl, ⟨_, SqL.of h4⟩, fun D nD => ?_⟩
    refine lc_list (xs := (rows.map rowS).map V.str) (fun i H5 => MadeF wd K H4 D i H5 (rows.take i)) MadeF.start (fun i H5 _ z => SqL.of (z.old nD _ _ h4)) ?_ ?_
    · intro i v H5 hv p5
      obtain ⟨r, hr2, rfl⟩ : ∃ r, rows[i]? = some r ∧ v = .str (rowS r) := by
        rw [List.getElem?_map, List.getElem?_map] at hv
        cases z : rows[i]? with
        | none => rw [z] at hv; cases hv
        | some r => rw [z] at hv; exact ⟨r, rfl, (Option.some.inj hv).symm⟩
      have rm := List.mem_of_getElem? hr2
      have il := (List.getElem?_eq_some_iff.mp hr2).1
      have rl := rowS_len (ok r rm) w6
      refine ⟨rfl, yes_if ⟨_, rfl, ⟨_, rfl⟩, _, _, rfl, rfl, by decide +kernel, Nat.le_trans (show (rowS r).length + 2 ≤ 100000 by omega) (by decide), fun l nl => ?_⟩⟩
      rw [split_row (rne r rm), take1 hr2]
      obtain ⟨us5, _, hD5, _⟩ := id p5
      have lD : l ≠ D := (ne_of_none hD5 nl).symm
      exact p5.push (r := r) (by omega) (Nat.lt_succ_self _) (same_new nl) (.lst (.inl (.inl (by rw [wo_ne lD]; exact upd_same))) (strs_dps _))
    intro H5 p5
    rw [List.length_map, List.length_map, List.take_length] at p5
    have o5 := p5.old nD
    obtain ⟨ul, _, hD5, dl0, _⟩ := id p5
    have dl : DpAll K H5 ul (rows.map wd) := dps_same (wo_le D) _ _ dl0
    have ull : ul.length = rows.length := by rw [dps_len dl, List.length_map]
    have s05 : Same H H5 := m3.trans (m4.trans o5)
    have nD0 : H D = none := (m3.trans m4).free nD
    clear p5 dl0
    -- if parts[-1] != "" or len(lines) > 400
    refine ⟨_, rfl, _, rfl, p3, _, -1, _, rfl, rfl, SqL.of (o5 _ _ (m4 _ _ h3)), atI_last _ _, rfl, _, rfl, ?_⟩
    rw [show (!decide (V.str Str.empty = V.str (Str.ofString ""))) = false by decide +kernel]
    refine iteF ⟨_, rfl, D, _, rfl, .inl (SqL.of hD5), _, _, rfl, rfl, _, rfl, ?_⟩
    rw [show decide (((ul.length : Nat) : Int) > (400 : Int)) = false from decide_eq_false (by omega)]
    refine iteF ?_
    -- len(words) == width
    refine ⟨_, rfl, D, rfl, ⟨_, SqL.of hD5⟩, fun D2 nD2 => ?_⟩
    refine lc_list (xs := ul) (fun i H6 => Same H5 (wo H6 D2) ∧ H6 D2 = some (.lst ((List.replicate i true).map V.bl)) ∧ i ≤ 400) ⟨?_, upd_same, by omega⟩ (fun i H6 _ z => SqL.of (wo_le D2 _ _ (z.1 _ _ hD5))) ?_ ?_
    · rw [wo_upd]
      exact fun b o e => by rw [wo_ne (ne_of_none e nD2)]; exact e
    · rintro i v H6 hv ⟨e1, e2, e3⟩
      obtain ⟨r, hr2, dr⟩ := dps_wat dl hv
      have il := (List.getElem?_eq_some_iff.mp hr2).1
      obtain ⟨l, rfl, hl⟩ := wd_at (dp_same (e1.trans (wo_le D2)) _ _ dr)
      refine ⟨rfl, yes_if ⟨_, rfl, l, _, rfl, .inl hl, _, rfl, rfl, ?_⟩⟩
      have ew : decide (V.int (((((r.map num).map V.str).length : Nat)) : Int) = V.int (w : Int)) = true := decide_eq_true (by rw [List.length_map, List.length_map, (ok r (List.mem_of_getElem? hr2)).1])
      rw [ew]
      refine ⟨_, e2, small1000 (by simp; omega), ?_, ?_, by omega⟩
      · rw [wo_upd]
        exact e1
      · rw [upd_same, List.replicate_succ', List.map_append]
        rfl
    rintro H6 ⟨e1, e2, _⟩
    refine ⟨D2, _, rfl, SqL.of e2, _, rfl, ?_⟩
    rw [all_true]
    refine iteF ?_
    have s56 : Same H5 H6 := e1.trans (wo_le D2)
    clear e1 e2
    -- is_numeral(word)
    refine ⟨_, rfl, D, rfl, ⟨_, SqL.of (s56 _ _ hD5)⟩, fun D3 nD3 => ?_⟩
    refine two_list (xs := ul) (fun i H7 => Same H6 (wo H7 D3) ∧ (∃ m, H7 D3 = some (.lst ((List.replicate m true).map V.bl)) ∧ m ≤ 6 * i) ∧ i ≤ 400) ⟨?_, ⟨0, upd_same, by omega⟩, by omega⟩ (fun i H7 _ z => SqL.of (wo_le D3 _ _ (z.1 _ _ (s56 _ _ hD5)))) ?_ ?_
    · rw [wo_upd]
      exact fun b o e => by rw [wo_ne (ne_of_none e nD3)]; exact e
    · rintro i v H7 hv ⟨e1, ⟨m, e2, e3⟩, e4⟩
      obtain ⟨r, hr2, dr⟩ := dps_wat dl hv
      have il := (List.getElem?_eq_some_iff.mp hr2).1
      have rok := ok r (List.mem_of_getElem? hr2)
      obtain ⟨l, rfl, hl5⟩ := wd_at dr
      have wl : ((r.map num).map V.str).length = w := by rw [List.length_map, List.length_map, rok.1]
      refine ⟨rfl, yes_if ⟨_, rfl, l, rfl, ⟨_, same_l (s56.trans (e1.trans (wo_le D3))) hl5⟩, ?_⟩⟩
      refine in_list (xs := (r.map num).map V.str) (fun j H8 => Same H6 (wo H8 D3) ∧ (∃ m, H8 D3 = some (.lst ((List.replicate m true).map V.bl)) ∧ m ≤ 6 * i + j) ∧ j ≤ 6) ⟨e1, ⟨m, e2, by omega⟩, by omega⟩ (fun j H8 _ z => same_l (s56.trans (z.1.trans (wo_le D3))) hl5) ?_ ?_
      · rintro j y H8 hy ⟨f1, ⟨m', f2, f3⟩, f4⟩
        obtain ⟨c, hc, rfl⟩ := word_at hy
        have jl := (List.getElem?_eq_some_iff.mp hc).1
        have r1 := rok.1
        refine ⟨rfl, yes_if ⟨_, rfl, c, rfl, rok.2 c (List.mem_of_getElem? hc), _, f2, Nat.lt_of_lt_of_le (show _ < 10000 by rw [List.length_map, List.length_replicate]; omega) (by decide), ?_, ⟨m' + 1, ?_, by omega⟩, by omega⟩⟩
        · rw [wo_upd]
          exact f1
        · rw [upd_same, List.replicate_succ', List.map_append]
          rfl
      · rintro H8 ⟨f1, ⟨m', f2, f3⟩, _⟩
        rw [wl] at f3
        exact ⟨f1, ⟨m', f2, by omega⟩, by omega⟩
    rintro H7 ⟨e1, ⟨m, e2, e3⟩, _⟩
    refine ⟨D3, _, rfl, SqL.of e2, _, rfl, ?_⟩
    rw [all_true]
    refine iteF ?_
    have s57 : Same H5 H7 := s56.trans (e1.trans (wo_le D3))
    clear e1 e2
    -- the rows
    refine ⟨_, rfl, D, rfl, ⟨_, SqL.of (s57 _ _ hD5)⟩, fun D4 nD4 => ?_⟩
    refine lc_list (xs := ul) (fun i H8 => MadeF gd K H7 D4 i H8 (rows.take i)) MadeF.start (fun i H8 _ z => SqL.of (z.old nD4 _ _ (s57 _ _ hD5))) ?_ ?_
    · intro i v H8 hv p8
      obtain ⟨r, hr2, dr⟩ := dps_wat dl hv
      have il := (List.getElem?_eq_some_iff.mp hr2).1
      have rok := ok r (List.mem_of_getElem? hr2)
      obtain ⟨l, rfl, hl5⟩ := wd_at dr
      have o8 := p8.old nD4
      have wl : ((r.map num).map V.str).length = r.length := by rw [List.length_map, List.length_map]
      refine ⟨rfl, yes_if ⟨_, rfl, l, rfl, ⟨_, same_l (s57.trans o8) hl5⟩, fun D5 nD5 => ?_⟩⟩
      refine lc_list (xs := (r.map num).map V.str) (fun j H9 => Same H8 (wo H9 D5) ∧ H9 D5 = some (.lst (nms (r.take j)))) ⟨?_, upd_same⟩ (fun j H9 _ z => same_l (s57.trans (o8.trans (z.1.trans (wo_le D5)))) hl5) ?_ ?_
      · rw [wo_upd]
        exact fun b o e => by rw [wo_ne (ne_of_none e nD5)]; exact e
      · rintro j y H9 hy ⟨f1, f2⟩
        obtain ⟨c, hc, rfl⟩ := word_at hy
        have jl := (List.getElem?_eq_some_iff.mp hc).1
        have cv := rok.2 c (List.mem_of_getElem? hc)
        have r1 := rok.1
        refine ⟨rfl, yes_if ⟨_, rfl, _, _, rfl, num_int cv, Nat.le_trans (num_len cv) (by decide), _, f2, small1000 (by rw [nms_len, List.length_take]; omega), ?_, ?_⟩⟩
        · rw [wo_upd]
          exact f1
        · rw [upd_same, take1 hc, nms_app]
          rfl
      rintro H9 ⟨f1, f2⟩
      rw [wl, List.take_length] at f2
      have s89 : Same H8 H9 := f1.trans (wo_le D5)
      refine ⟨D5, _, rfl, .inl ⟨SqL.of f2, fun t nt => ?_⟩⟩
      obtain ⟨us8, _, hD8, _⟩ := id p8
      have tD : t ≠ D4 := (ne_of_none (s89 _ _ hD8) nt).symm
      rw [take1 hr2]
      exact p8.push (r := r) (by omega) (Nat.lt_succ_self _) (s89.trans (same_new nt)) (dp_gd (.inl (.inl (by rw [wo_ne tD]; exact upd_same))))
    intro H8 p8
    rw [ull, List.take_length] at p8
    exact p8.out nD4 (s05.trans s57) q
end
end CC
namespace CC
open PySem L2 TL
def flT0 (w : Nat) : List (Str × V) := putF "span" (.int (w : Int)) []
def fldT (w : Nat) (g : Addr) : List (Str × V) := putF "lines" (.ref g) (flT0 w)
theorem slN : ¬ (("span" : Str) = "lines") := by decide +kernel
theorem fldT_span (w : Nat) (g : Addr) : (fldT w g).lookup ("span" : Str) = some (.int (w : Int)) := by
  unfold fldT flT0
  rw [lookup_putF, if_neg slN, lookup_putF, if_pos rfl]
theorem fldT_lines (w : Nat) (g : Addr) : (fldT w g).lookup ("lines" : Str) = some (.ref g) := by
  unfold fldT
  rw [lookup_putF, if_pos rfl]
/-- a table stands at x -/
def TableAt (K : PySem.W.Frag) (C : Addr) (H : Hp) (x : Addr) (w : Nat) (rows : List (List Nat)) : Prop := ∃ dx g us, H x = some (.ins C dx (fldT w g)) ∧ H g = some (.tup us) ∧ DpAll K H us (rows.map gd)
theorem TableAt.same {K : PySem.W.Frag} {C : Addr} {H H' : Hp} {x : Addr} {w : Nat} {rows : List (List Nat)} (h : TableAt K C H x w rows) (e : Same H H') : TableAt K C H' x w rows := by
  obtain ⟨dx, g, us, h1, h2, h3⟩ := h
  exact ⟨dx, g, us, e _ _ h1, e _ _ h2, dps_same e _ _ h3⟩
structure TxtT (K : PySem.W.Frag) (mg : Str → Option Value) (C : Addr) : Prop where
  cl : Cls K C
  nS : NoAttr K C "span"
  nL : NoAttr K C "lines"
  mgC : mg "Table" = some (.ref C)
def spTInit (K : PySem.W.Frag) (C : Addr) : Sp := fun vs H Q _ => ∃ (x dx : Addr) (w : Nat) (p : Addr) (us : List V) (rows : List (List Nat)), vs = [.ref x, .int (w : Int), .ref p] ∧ H x = some (.ins C dx []) ∧ 1 ≤ w ∧ w ≤ 6 ∧ H p = some (.tup us) ∧ DpAll K (wo H x) us (rows.map gd) ∧
  (∀ r ∈ rows, RowOk w r) ∧ rows.length ≤ 400 ∧ ∀ H', (∀ b o, H b = some o → b ≠ x → H' b = some o) → H' x = some (.ins C dx (fldT w p)) → Q .non H'
def spTInitR (K : PySem.W.Frag) (C : Addr) : Sp := fun vs H Q E => ∃ ws rest, vs = ws ++ rest ∧ ws.length = 2 ∧ rest.length ≤ sizeLine ∧ ∀ p, H p = Option.none → spTInit K C (ws ++ [V.ref p]) (upd H p (.tup rest)) Q E
def spTRead (K : PySem.W.Frag) (C : Addr) : Sp := fun vs H Q _ => ∃ (w : Nat) (rows : List (List Nat)), vs = [.ref C, .int (w : Int), .str (textT rows)] ∧ 1 ≤ w ∧ w ≤ 6 ∧ (∀ r ∈ rows, RowOk w r) ∧ rows.length ≤ 400 ∧ ∀ (x : Addr) (H' : Hp), Same H H' → H x = none → TableAt K C H' x w rows → Q (.ref x) H'
structure MakeT (P : Program) (w : World) (K : PySem.W.Frag) (mg : Str → Option Value) (base : Heap) (C : Addr) (l : Nat) where
  fN : Addr
  M : Mk K C fN
  ok : ∀ k, l ≤ k → FnR P w K mg base CX0 k fN (spTInitR K C)
structure ReadT (P : Program) (w : World) (K : PySem.W.Frag) (mg : Str → Option Value) (base : Heap) (C : Addr) (l : Nat) where
  mc : Value
  pD : Addr
  fD : Addr
  rD : ClX.CRead K C mc
  cD : ClX.CMet K C mc "read" pD fD
  ok : ∀ k, l ≤ k → FnR P w K mg base CX0 k fD (spTRead K C)
section
variable {P : Program} {w : World} {K : PySem.W.Frag} {mg : Str → Option Value} {base : Heap} {kA : Addr}
abbrev nTI : List Str := ["self", "width", "rows", "row"]
theorem scTInit : FnScope nTI ((["self", "width"] : List Str) ++ ([("rows" : Str)] : List Str)) (defScope sTInit) := ⟨rfl, rfl, rfl, by decide +kernel, rfl, by decide +kernel, by decide +kernel⟩
theorem ok_tinit {f C : Addr} {fd : FuncData} {k : Nat} (F : Fun K "__init__" "Table.__init__" sTInit f fd) (T : Glb K mg kA) (TT : GlbT mg) (TC : TxtT K mg C) (cW : Cal P w K mg base "is_width" ["thing"] spIsWidth 2) (cR : Cal P w K mg base "is_row" ["width", "thing"] (spIsRow K) 2) :
    FnR P w K mg base CX0 (k + 3) f (spTInitR K C) := by
  have GW := cW.ok (k + 2) (by omega)
  have GR := cR.ok (k + 2) (by omega)
  obtain ⟨oc, od, kV, doc, pm, an, cdv, ct, osl, rfl, lk, hcd⟩ := F.ex
  refine StX.fn_star (ps := ["self", "width"]) (pv := "rows") lk hcd scTInit StX.cxUp_none (fun us rest hl => ?_) (fun A outer s H vs Q E hr h => ?_)
  · match us, hl with
    | [a, b], _ =>
      cases rest with
      | nil => rfl
      | cons c r => rfl
  · obtain ⟨x, dx, w, p, us, rows, rfl, hx, w1, w6, hp, dp, ok, few, q⟩ := h
    obtain ⟨tm, hmr⟩ := TT.mr
    have n := scTInit.nd
    refine ⟨_, PSs.nox (pss_cons (ps_if (pt_not (pt_val (pe_call GW hr rfl cW.g cW.kp cW.b .nil pass0 (pa_cons (pv 1) pa_nil)))) (pss_one ps_never) pss_nil)
      (pss_cons (ps_if (pt_cmpR op_gt (pe_callB call_len_seq (by rfl) T.len PySem.boot_len (pa_cons (pv 2) pa_nil)) (pe_glob (v := .int 400) rfl hmr ⟨_, rfl⟩) (nomark _)) (pss_one ps_never) pss_nil)
      (pss_cons (ps_if (pt_not (pt_val (pe_callB (cr_all rfl) (by rfl) T.all (by decide +kernel) (pa_cons (pe_lc (own := [("row", 3)]) (g := gName 3) (tt := tYes) (te := tCall (spIsRow K) [] E0 (tCons (tVar 1) (tCons (tVar 3) tNil))) rfl n (pi_tup (pv 2)) (blkOk_by (N := nTI) (sc := defScope sTInit) (by decide +kernel))
        (fun _ _ _ _ _ => (pg_name (i := 3) n rfl (.inl rfl))) (fun _ _ _ _ _ => pts_nil) (fun _ _ _ _ _ => (pe_call GR hr rfl cR.g cR.kp cR.b .nil pass0 (pa_cons (pv 1) (pa_cons (pv 3) pa_nil))))) pa_nil)))) (pss_one ps_never) pss_nil)
      (pss_cons (ps_fld (pv 0) (pv 1) rfl) (pss_one (ps_fld (pv 0) (pv 2) rfl)))))), ?_⟩
    have ul : us.length = rows.length := by rw [dps_len dp, List.length_map]
    refine ⟨_, rfl, w, rfl, w1, w6, _, rfl, iteF ?_⟩
    refine ⟨_, rfl, p, us, rfl, .inr (.inl (.inl hp)), _, _, rfl, rfl, _, rfl, ?_⟩
    rw [show decide (((us.length : Nat) : Int) > (400 : Int)) = false from decide_eq_false (by omega)]
    refine iteF ?_
    refine ⟨_, rfl, p, rfl, ⟨_, .inl (.inl hp)⟩, fun D nD => ?_⟩
    refine lc_tup (xs := us) (fun i H1 => Same H (wo H1 D) ∧ H1 D = some (.lst ((List.replicate i true).map V.bl)) ∧ i ≤ 400) ⟨?_, upd_same, by omega⟩ (fun i H1 _ z => .inl (.inl (wo_le D _ _ (z.1 _ _ hp)))) ?_ ?_
    · rw [wo_upd]
      exact fun b o e => by rw [wo_ne (ne_of_none e nD)]; exact e
    · rintro i v H1 hv ⟨e1, e2, e3⟩
      obtain ⟨r, hr2, dr⟩ := dps_gat dp hv
      have il := (List.getElem?_eq_some_iff.mp hr2).1
      obtain ⟨t, rfl, ht⟩ := gd_at dr
      have sx : Same (wo H x) H1 := (wo_le x).trans (e1.trans (wo_le D))
      refine ⟨rfl, yes_if ⟨_, rfl, _, rfl, w, t, r, rfl, same_t sx ht, ok r (List.mem_of_getElem? hr2), w6, fun H2 s2 => ?_⟩⟩
      refine ⟨_, s2 _ _ e2, small1000 (by simp; omega), ?_, ?_, by omega⟩
      · rw [wo_upd]
        exact e1.trans (wo_same s2)
      · rw [upd_same, List.replicate_succ', List.map_append]
        rfl
    rintro H1 ⟨e1, e2, _⟩
    refine ⟨D, _, rfl, SqL.of e2, _, rfl, ?_⟩
    rw [all_true]
    refine iteF ?_
    have m1 : Same H H1 := e1.trans (wo_le D)
    have hx1 := m1 _ _ hx
    refine ⟨_, rfl, _, rfl, x, C, dx, _, rfl, hx1, TC.cl, TC.nS, (by show 0 < 1000; decide), ?_⟩
    refine ⟨_, rfl, _, rfl, x, C, dx, _, rfl, upd_same, TC.cl, TC.nL, (by show 1 < 1000; decide), ?_⟩
    refine q _ (fun b o e hb => ?_) upd_same
    rw [upd_ne hb, upd_ne hb]
    exact m1 _ _ e
abbrev nTR : List Str := ["cls", "width", "text", "found"]
theorem scTRead : FnScope nTR ["cls", "width", "text"] (defScope sTRead) := ⟨rfl, rfl, rfl, by decide +kernel, rfl, by decide +kernel, by decide +kernel⟩
theorem ok_tread {f C : Addr} {fd : FuncData} {k : Nat} (F : Fun K "read" "Table.read" sTRead f fd) (T : Glb K mg kA) (m : MakeT P w K mg base C 3) (cW : Cal P w K mg base "is_width" ["thing"] spIsWidth 2) (cO : Cal P w K mg base "rows_of" ["width", "text"] (spRowsOf K) 2) : FnOk P w K mg base CX0 (k + 5) f fd ["cls", "width", "text"] (spTRead K C) := by
  have GW := cW.ok (k + 4) (by omega)
  have GO := cO.ok (k + 4) (by omega)
  have GN := m.ok (k + 3) (by omega)
  refine F.ok scTRead (fun vs H Q E h => ?_) (fun cdv A outer s H vs Q E hr h => ?_)
  · obtain ⟨w, rows, rfl, _⟩ := h
    rfl
  · obtain ⟨w, rows, rfl, w1, w6, ok, few, q⟩ := h
    have n := scTRead.nd
    refine ⟨_, pss_cons (ps_if (pt_not (pt_val (pe_call GW hr rfl cW.g cW.kp cW.b .nil pass0 (pa_cons (pv 1) pa_nil)))) (pss_one ps_never) pss_nil)
      (pss_cons (ps_if (pt_not (pt_val (pe_callB call_isi (by rfl) T.isi (by decide +kernel) (pa_cons (pv 2) (pa_cons (pe_bltn (v := .ty "str") (by rfl) T.str (by decide +kernel) rfl) pa_nil))))) (pss_one ps_never) pss_nil)
      (pss_cons (ps_set (i := 3) n rfl (.inl rfl) (pe_call GO hr rfl cO.g cO.kp cO.b .nil pass0 (pa_cons (pv 1) (pa_cons (pv 2) pa_nil))))
      (pss_cons (ps_if (pt_cmpR op_isN (pv 3) pe_non (nomark _)) (pss_one ps_never) pss_nil)
      (pss_one (ps_ret (pe_makeLS (i := 0) m.M GN hr rfl (.inl rfl) pass0 (pa_cons (pv 1) (StX.pa_star (pv 3) pa_nil)))))))), ?_⟩
    refine ⟨_, rfl, w, rfl, w1, w6, _, rfl, iteF ?_⟩
    refine ⟨_, rfl, _, _, _, _, true, rfl, .ty _, .base (.str _), kit_ty (by decide +kernel), _, rfl, iteF ?_⟩
    refine ⟨_, rfl, _, rfl, w, rows, rfl, w1, w6, ok, few, fun p us H1 s1 np hp dp => ?_⟩
    refine ⟨_, rfl, rfl, _, rfl, iteF ?_⟩
    have ul : us.length = rows.length := by rw [dps_len dp, List.length_map]
    refine ⟨rfl, _, rfl, _, rfl, p, us, rfl, .inr (SqL.of hp), fun x dx nx ndx ne => ?_⟩
    rw [List.append_nil]
    refine ⟨[.ref x, .int (w : Int)], us, rfl, rfl, Nat.le_of_lt (small1000 (by omega)), fun g ng => ?_⟩
    have gx : x ≠ g := fun z => by rw [← z, upd_same] at ng; cases ng
    have gdx : dx ≠ g := fun z => by rw [← z, upd_ne ne, upd_same] at ng; cases ng
    have ng1 : H1 g = none := by
      rw [upd_ne gx.symm, upd_ne gdx.symm] at ng
      exact ng
    have keep : ∀ b o, H1 b = some o → (upd (upd (upd H1 dx (.own x)) x (.ins C dx [])) g (.tup us)) b = some o := fun b o e => by
      rw [upd_ne (ne_of_none e ng1), upd_ne (ne_of_none e nx), upd_ne (ne_of_none e ndx)]
      exact e
    refine ⟨x, dx, w, g, us, rows, rfl, by rw [upd_ne gx]; exact upd_same, w1, w6, upd_same, dps_same ?_ _ _ dp, ok, few, fun H' k1 k2 => ⟨rfl, q x H' ?_ ?_ ⟨dx, g, us, k2, ?_, ?_⟩⟩⟩
    · exact fun b o e => by
        have e1 := wo_le p _ _ e
        rw [wo_ne (ne_of_none e1 nx)]
        exact keep b o e1
    · exact fun b o e => k1 b o (keep b o (s1 _ _ e)) (ne_of_none (s1 _ _ e) nx)
    · cases z : H x with
      | none => rfl
      | some o => rw [s1 _ _ z] at nx; cases nx
    · exact k1 g _ upd_same gx.symm
    · refine dps_same (fun b o e => ?_) _ _ dp
      have e1 := wo_le p _ _ e
      exact k1 b o (keep b o e1) (ne_of_none e1 nx)
end
end CC
namespace CC
open PySem L2 TL
/-- Table(width, *rows), the rows good ones -/
theorem mkT_go {K : PySem.W.Frag} {C : Addr} {H : Hp} {w : Nat} {us : List V} {rows : List (List Nat)} {x dx : Addr} {Q : VK} {E : XK} (w1 : 1 ≤ w) (w6 : w ≤ 6) (ok : ∀ r ∈ rows, RowOk w r) (few : rows.length ≤ 400) (dp : DpAll K H us (rows.map gd)) (nx : H x = none) (ndx : H dx = none) (ne : dx ≠ x)
    (q : ∀ H', Same H H' → TableAt K C H' x w rows → Q .non H') : spTInitR K C (V.ref x :: V.int (w : Int) :: (us ++ [])) (upd (upd H dx (.own x)) x (.ins C dx [])) Q E := by
  have ul : us.length = rows.length := by rw [dps_len dp, List.length_map]
  rw [List.append_nil]
  refine ⟨[.ref x, .int (w : Int)], us, rfl, rfl, Nat.le_of_lt (small1000 (by omega)), fun g ng => ?_⟩
  have gx : x ≠ g := fun z => by rw [← z, upd_same] at ng; cases ng
  have gdx : dx ≠ g := fun z => by rw [← z, upd_ne ne, upd_same] at ng; cases ng
  have ng1 : H g = none := by
    rw [upd_ne gx.symm, upd_ne gdx.symm] at ng
    exact ng
  have keep : ∀ b o, H b = some o → (upd (upd (upd H dx (.own x)) x (.ins C dx [])) g (.tup us)) b = some o := fun b o e => by
    rw [upd_ne (ne_of_none e ng1), upd_ne (ne_of_none e nx), upd_ne (ne_of_none e ndx)]
    exact e
  refine ⟨x, dx, w, g, us, rows, rfl, by rw [upd_ne gx]; exact upd_same, w1, w6, upd_same, dps_same ?_ _ _ dp, ok, few, fun H' k1 k2 => q H' ?_ ⟨dx, g, us, k2, ?_, ?_⟩⟩
  · exact fun b o e => by
      rw [wo_ne (ne_of_none e nx)]
      exact keep b o e
  · exact fun b o e => k1 b o (keep b o e) (ne_of_none e nx)
  · exact k1 g _ upd_same gx.symm
  · exact dps_same (fun b o e => k1 b o (keep b o e) (ne_of_none e nx)) _ _ dp
end CC
namespace CC
open PySem L2
/-- the heap without some objects -/
def wos (H : Hp) (l : List Addr) : Hp := fun b => if b ∈ l then none else H b
section
variable {H H' H2 : Hp} {l m : List Addr} {b s : Addr} {o : HO}
theorem wos_in (h : b ∉ l) : wos H l b = H b := if_neg h
theorem wos_at (h : wos H l b = some o) : b ∉ l ∧ H b = some o := by
  by_cases e : b ∈ l
  · unfold wos at h
    rw [if_pos e] at h
    cases h
  · exact ⟨e, (wos_in e).symm.trans h⟩
theorem wos_le (l : List Addr) : Same (wos H l) H := fun b o e => (wos_at e).2
theorem wos_mono (h : ∀ b ∈ l, b ∈ m) : Same (wos H m) (wos H l) := fun b o e => by
  obtain ⟨n, e⟩ := wos_at e
  rw [wos_in fun z => n (h b z)]
  exact e
/-- all that stands, but for l, stays -/
def Kp (l : List Addr) (H H' : Hp) : Prop := ∀ b o, H b = some o → b ∉ l → H' b = some o
theorem Kp.same (k : Kp l H H') : Same (wos H l) (wos H' l) := fun b o e => by
  obtain ⟨n, e⟩ := wos_at e
  rw [wos_in n]
  exact k b o e n
theorem Kp.to (k : Kp l H H') : Same (wos H l) H' := k.same.trans (wos_le l)
theorem Kp.trans (a : Kp l H H') (c : Kp l H' H2) : Kp l H H2 := fun b o e n => c b o (a b o e n) n
theorem Kp.up (k : Kp l H H') (h : ∀ b ∈ l, b ∈ m) : Kp m H H' := fun b o e n => k b o e fun z => n (h b z)
theorem Kp.of (e : Same H H') : Kp l H H' := fun b o q _ => e b o q
theorem Kp.upd (h : s ∈ l) : Kp l H (L2.upd H s o) := fun b u e n => by
  rw [upd_ne (a := s) (b := b) fun z => n (by rw [z]; exact h)]
  exact e
theorem Kp.new (h : H s = none) : Kp l H (L2.upd H s o) := .of (same_new h)
theorem Kp.ran (r : Ran H H' s) (h : s ∈ l) : Kp l H H' := fun b o e n => r.at_ e fun z => n (by rw [z]; exact h)
theorem Same.kp (e : Same H H') (k : Kp l H' H2) : Kp l H H2 := fun b o q n => k b o (e b o q) n
theorem wo_wos : wo H s = wos H [s] := by
  funext b
  by_cases e : b = s
  · subst e
    rw [wo_at]
    unfold wos
    rw [if_pos (List.mem_singleton.mpr rfl)]
  · rw [wo_ne e, wos_in (by simpa using e)]
end
end CC
namespace CC
open PySem L2 TL
/-- a property of an own class: a field's value -/
structure Prp (P : Program) (w : World) (K : PySem.W.Frag) (mg : Str → Option Value) (base : Heap) (C : Addr) (f fld : Str) where
  p : Addr
  g : Addr
  fd : FuncData
  hp : PropOf K C f p g
  ok : ∀ k, 1 ≤ k → FnOk P w K mg base CX0 k g fd ["self"] (getSp C fld)
  b : Binds K fd ["self"] []
end CC
namespace CC
open PySem L2 TL
/-! ### a log: its rules, its table, the tables that were -/
def fldL (b h p : Addr) : List (Str × V) := [("book", .ref b), ("held", .ref h), ("past", .ref p)]
theorem putF_at (f : Str) (v u : V) (r : List (Str × V)) : putF f v ((f, u) :: r) = (f, v) :: r := if_pos rfl
theorem putF_on {f g : Str} (n : ¬ g = f) (v u : V) (r : List (Str × V)) : putF f v ((g, u) :: r) = (g, u) :: putF f v r := if_neg n
theorem putF_len (f : Str) (v : V) : ∀ fs : List (Str × V), (putF f v fs).length ≤ fs.length + 1
  | [] => Nat.le_refl _
  | (g, x) :: r => by
    show (if g = f then (g, v) :: r else (g, x) :: putF f v r).length ≤ _
    split
    · exact Nat.le_succ _
    · exact Nat.succ_le_succ (putF_len f v r)
theorem n_bh : ¬ (("book" : Str) = "held") := by decide +kernel
theorem n_bp : ¬ (("book" : Str) = "past") := by decide +kernel
theorem n_hp : ¬ (("held" : Str) = "past") := by decide +kernel
theorem fldL_put (b h p : Addr) : putF "past" (.ref p) (putF "held" (.ref h) (putF "book" (.ref b) [])) = fldL b h p := by
  show putF "past" (.ref p) (putF "held" (.ref h) [("book", .ref b)]) = _
  rw [putF_on n_bh]
  show putF "past" (.ref p) [("book", .ref b), ("held", .ref h)] = _
  rw [putF_on n_bp, putF_on n_hp]
  rfl
theorem fldL_at (b h p : Addr) (m : Str) : (fldL b h p).lookup m = if m = "past" then some (.ref p) else if m = "held" then some (.ref h) else if m = "book" then some (.ref b) else none := by
  rw [← fldL_put, lookup_putF, lookup_putF, lookup_putF]
  rfl
theorem fldL_b (b h p : Addr) : (fldL b h p).lookup ("book" : Str) = some (.ref b) := by
  rw [fldL_at, if_neg n_bp, if_neg n_bh, if_pos rfl]
theorem fldL_h (b h p : Addr) : (fldL b h p).lookup ("held" : Str) = some (.ref h) := by
  rw [fldL_at, if_neg n_hp, if_pos rfl]
theorem fldL_p (b h p : Addr) : (fldL b h p).lookup ("past" : Str) = some (.ref p) := by
  rw [fldL_at, if_pos rfl]
theorem fldL_no (b h p : Addr) {m : Str} (h1 : ¬ m = "past") (h2 : ¬ m = "held") (h3 : ¬ m = "book") : (fldL b h p).lookup m = none := by
  rw [fldL_at, if_neg h1, if_neg h2, if_neg h3]
/-- a log at x: r its rules, t its table, q the list of the tables that were -/
structure LogAt (K : PySem.W.Frag) (C CR CT : Addr) (H : Hp) (x r q : Addr) (w : Nat) (rs : List R) (rows : List (List Nat)) (n : Nat) : Prop where
  at_ : ∃ dx t, H x = some (.ins C dx (fldL r t q)) ∧ TableAt K CT (wos H [x, q]) t w rows
  book : RulesAt K CR (wos H [x, q]) r w rs
  past : ∃ hs, H q = some (.lst hs) ∧ hs.length = n
theorem LogAt.ne {K : PySem.W.Frag} {C CR CT : Addr} {H : Hp} {x r q : Addr} {w n : Nat} {rs : List R} {rows : List (List Nat)} (h : LogAt K C CR CT H x r q w rs rows n) : x ≠ q := by
  obtain ⟨dx, t, h1, _⟩ := h.at_
  obtain ⟨hs, h2, _⟩ := h.past
  exact ne_of h1 h2 (by intro z; cases z)
theorem LogAt.keep {K : PySem.W.Frag} {C CR CT : Addr} {H H' : Hp} {x r q : Addr} {w n : Nat} {rs : List R} {rows : List (List Nat)} (h : LogAt K C CR CT H x r q w rs rows n) (e : Same H H') : LogAt K C CR CT H' x r q w rs rows n := by
  obtain ⟨⟨dx, t, h1, h2⟩, h3, ⟨hs, h4, h5⟩⟩ := h
  have k : Same (wos H [x, q]) (wos H' [x, q]) := (Kp.of e).same
  exact ⟨⟨dx, t, e _ _ h1, h2.same k⟩, h3.same k, ⟨hs, e _ _ h4, h5⟩⟩
/-- a change elsewhere, s say -/
theorem LogAt.kp {K : PySem.W.Frag} {C CR CT : Addr} {H H' : Hp} {x r q : Addr} {w n : Nat} {rs : List R} {rows : List (List Nat)} {l : List Addr} (k : Kp l H H') (nx : x ∉ l) (nq : q ∉ l) (at_ : ∃ dx t, H x = some (.ins C dx (fldL r t q)) ∧ TableAt K CT (wos H (x :: q :: l)) t w rows) (book : RulesAt K CR (wos H (x :: q :: l)) r w rs) (past : ∃ hs, H q = some (.lst hs) ∧ hs.length = n) : LogAt K C CR CT H' x r q w rs rows n := by
  obtain ⟨dx, t, h1, h2⟩ := at_
  obtain ⟨hs, h4, h5⟩ := past
  have k2 : Same (wos H (x :: q :: l)) (wos H' [x, q]) := fun b o e => by
    obtain ⟨nb, e⟩ := wos_at e
    rw [wos_in fun z => nb (by simp only [List.mem_cons, List.not_mem_nil, or_false] at z ⊢; rcases z with z | z; exact .inl z; exact .inr (.inl z))]
    exact k b o e fun z => nb (List.mem_cons_of_mem _ (List.mem_cons_of_mem _ z))
  exact ⟨⟨dx, t, k _ _ h1 nx, h2.same k2⟩, book.same k2, ⟨hs, k _ _ h4 nq, h5⟩⟩
structure TxtL (K : PySem.W.Frag) (mg : Str → Option Value) (C : Addr) : Prop where
  cl : Cls K C
  nB : NoAttr K C "book"
  nH : NoAttr K C "held"
  nP : NoAttr K C "past"
  mgC : mg "Log" = some (.ref C)
/-- a class of logs: Log, or one below it -/
structure TxtC (K : PySem.W.Frag) (C : Addr) : Prop where
  cl : Cls K C
  nB : NoAttr K C "book"
  nH : NoAttr K C "held"
  nP : NoAttr K C "past"
theorem TxtL.c {K : PySem.W.Frag} {mg : Str → Option Value} {C : Addr} (h : TxtL K mg C) : TxtC K C := ⟨h.cl, h.nB, h.nH, h.nP⟩
/-- a method of an own class, by its promise -/
structure MthG (P : Program) (w : World) (K : PySem.W.Frag) (mg : Str → Option Value) (base : Heap) (C : Addr) (n : Str) (ps : List Str) (sp : Sp) (l : Nat) where
  f : Addr
  fd : FuncData
  m : Meth K C n f
  ok : ∀ k, l ≤ k → FnOk P w K mg base CX0 k f fd ps sp
  b : Binds K fd ps []
/-- a property of an own class, by its promise, from a level on -/
structure PrpL (P : Program) (w : World) (K : PySem.W.Frag) (mg : Str → Option Value) (base : Heap) (C : Addr) (f : Str) (sp : Sp) (l : Nat) where
  p : Addr
  g : Addr
  fd : FuncData
  hp : PropOf K C f p g
  ok : ∀ k, l ≤ k → FnOk P w K mg base CX0 k g fd ["self"] sp
  b : Binds K fd ["self"] []
end CC
namespace CC
open PySem L2 TL
def spLChk (K : PySem.W.Frag) : Sp := fun vs H Q _ => ∃ (x p : Addr) (us : List V), vs = [.ref x, .ref p] ∧ (SqL K H p us ∨ SqT K H p us) ∧ us.length ≤ 400 ∧ Q .non H
def spLChg (K : PySem.W.Frag) (C : Addr) : Sp := fun vs H Q _ => ∃ (x dx r t q t' : Addr) (hs : List V), vs = [.ref x, .ref t'] ∧ H x = some (.ins C dx (fldL r t q)) ∧ H q = some (.lst hs) ∧ hs.length < 1000 ∧ Q .non (upd (upd H q (.lst (hs ++ [.ref t]))) x (.ins C dx (fldL r t' q)))
section
variable {P : Program} {w : World} {K : PySem.W.Frag} {mg : Str → Option Value} {base : Heap} {kA : Addr}
theorem scLChk : FnScope ["self", "rows"] ["self", "rows"] (defScope sLChk) := ⟨rfl, rfl, rfl, by decide +kernel, rfl, by decide +kernel, by decide +kernel⟩
theorem scLChg : FnScope ["self", "table"] ["self", "table"] (defScope sLChg) := ⟨rfl, rfl, rfl, by decide +kernel, rfl, by decide +kernel, by decide +kernel⟩
end
end CC
namespace CC
open PySem L2
section
variable {P : Program} {w : World} {K : PySem.W.Frag} {mg : Str → Option Value} {base : Heap} {kA : Addr}
theorem scPW : FnScope ["self"] ["self"] (defScope sPW) := ⟨rfl, rfl, rfl, by decide +kernel, rfl, by decide +kernel, by decide +kernel⟩
theorem scPR : FnScope ["self"] ["self"] (defScope sPR) := ⟨rfl, rfl, rfl, by decide +kernel, rfl, by decide +kernel, by decide +kernel⟩
theorem ok_pw {f C : Addr} {fd : FuncData} {k : Nat} (F : Fun K "width" "Rules.width" sPW f fd) (TC : Txt1 K mg C) : FnOk P w K mg base CX0 (k + 1) f fd ["self"] (getSp C "span") := by
  refine F.ok scPW (fun vs H Q E h => ?_) (fun cdv A outer s H vs Q E hr h => ?_)
  · obtain ⟨a, dx, fs, v, rfl, _⟩ := h
    rfl
  · obtain ⟨a, dx, fs, v, rfl, ea, l, q⟩ := h
    exact ⟨_, pss_one (ps_ret (pe_fld (pv 0) rfl)), _, rfl, a, C, dx, fs, v, rfl, ea, TC.cl, TC.nS, l, q⟩
theorem ok_pr {f C : Addr} {fd : FuncData} {k : Nat} (F : Fun K "rules" "Rules.rules" sPR f fd) (TC : Txt1 K mg C) : FnOk P w K mg base CX0 (k + 1) f fd ["self"] (getSp C "given") := by
  refine F.ok scPR (fun vs H Q E h => ?_) (fun cdv A outer s H vs Q E hr h => ?_)
  · obtain ⟨a, dx, fs, v, rfl, _⟩ := h
    rfl
  · obtain ⟨a, dx, fs, v, rfl, ea, l, q⟩ := h
    exact ⟨_, pss_one (ps_ret (pe_fld (pv 0) rfl)), _, rfl, a, C, dx, fs, v, rfl, ea, TC.cl, TC.nG, l, q⟩
end
end CC
namespace CC
open PySem L2 TL
/-- the log at x has changed: another table, the old one behind the others -/
def LogTo (K : PySem.W.Frag) (C CR CT : Addr) (H : Hp) (x r q : Addr) (w : Nat) (rs : List R) (rows : List (List Nat)) (n : Nat) (Q : VK) : Prop := ∀ H', Kp [x, q] H H' → LogAt K C CR CT H' x r q w rs rows n → Q .non H'
def spLAdd (K : PySem.W.Frag) (C CR CT : Addr) : Sp := fun vs H Q _ => ∃ (x r q tr : Addr) (w : Nat) (rs : List R) (rows : List (List Nat)) (row : List Nat) (n : Nat), vs = [.ref x, .ref tr] ∧ LogAt K C CR CT H x r q w rs rows n ∧ 1 ≤ w ∧ w ≤ 6 ∧ SqT K (wos H [x, q]) tr (nms row) ∧ RowOk w row ∧ (∀ x ∈ rows, RowOk w x) ∧ rows.length < 400 ∧ n < 1000 ∧
  LogTo K C CR CT H x r q w rs (rows ++ [row]) (n + 1) Q
/-- an own object and a list are no tuples -/
theorem wos2_T {H : Hp} {x q C dx : Addr} {fs : List (Str × V)} {hs : List V} (hx : H x = some (.ins C dx fs)) (hq : H q = some (.lst hs)) : SameT H (wos H [x, q]) := by
  have key : ∀ b o, H b = some o → o ≠ .ins C dx fs → o ≠ .lst hs → wos H [x, q] b = some o := fun b o e n1 n2 => by
    have bx : b ≠ x := fun z => by rw [z, hx] at e; exact n1 (Option.some.inj e).symm
    have bq : b ≠ q := fun z => by rw [z, hq] at e; exact n2 (Option.some.inj e).symm
    rw [wos_in (by simp [bx, bq])]
    exact e
  exact ⟨fun b xs e => key b _ e (by intro z; cases z) (by intro z; cases z), fun b o xs e => key b _ e (by intro z; cases z) (by intro z; cases z)⟩
/-- what change leaves -/
theorem changed {K : PySem.W.Frag} {C CR CT : Addr} {H H1 H2 : Hp} {x r q dx t t' : Addr} {w n : Nat} {rs : List R} {rows rows' : List (List Nat)} {hs : List V} {Q : VK} (L : LogAt K C CR CT H x r q w rs rows n) (s1 : Same H H1) (s2 : Same H1 H2) (hx : H x = some (.ins C dx (fldL r t q))) (hq : H q = some (.lst hs)) (hl : hs.length = n) (nt : H1 t' = none) (tt : TableAt K CT H2 t' w rows') (to : LogTo K C CR CT H x r q w rs rows' (n + 1) Q) : Q .non (upd (upd H2 q (.lst (hs ++ [.ref t]))) x (.ins C dx (fldL r t' q))) := by
  have xq := L.ne
  have s02 := s1.trans s2
  have key : Same (wos H2 [x, q]) (wos (upd (upd H2 q (.lst (hs ++ [.ref t]))) x (.ins C dx (fldL r t' q))) [x, q]) := fun b o e => by
    obtain ⟨n1, e⟩ := wos_at e
    have bx : b ≠ x := fun z => n1 (by simp [z])
    have bq : b ≠ q := fun z => n1 (by simp [z])
    rw [wos_in n1, upd_ne bx, upd_ne bq]
    exact e
  refine to _ (fun b o e n1 => ?_) ⟨⟨dx, t', upd_same, ?_⟩, L.book.same (((Kp.of s02).same).trans key), hs ++ [.ref t], ?_, by rw [List.length_append, hl]; rfl⟩
  · have bx : b ≠ x := fun z => n1 (by simp [z])
    have bq : b ≠ q := fun z => n1 (by simp [z])
    rw [upd_ne bx, upd_ne bq]
    exact s02 _ _ e
  · obtain ⟨dt, g, us, h1, h2, h3⟩ := tt
    have a1 : t' ≠ x := fun z => by rw [z, s1 _ _ hx] at nt; cases nt
    have a2 : t' ≠ q := fun z => by rw [z, s1 _ _ hq] at nt; cases nt
    have a3 : g ≠ x := ne_of h2 (s02 _ _ hx) (by intro z; cases z)
    have a4 : g ≠ q := ne_of h2 (s02 _ _ hq) (by intro z; cases z)
    refine TableAt.same ⟨dt, g, us, ?_, ?_, gds_T (wos2_T (s02 _ _ hx) (s02 _ _ hq)) h3⟩ key
    · rw [wos_in (by simp [a1, a2])]
      exact h1
    · rw [wos_in (by simp [a3, a4])]
      exact h2
  · rw [upd_ne xq.symm]
    exact upd_same
section
variable {P : Program} {w : World} {K : PySem.W.Frag} {mg : Str → Option Value} {base : Heap} {kA : Addr}
abbrev nLAdd : List Str := ["self", "row", "rows"]
theorem scLAdd : FnScope nLAdd ["self", "row"] (defScope sLAdd) := ⟨rfl, rfl, rfl, by decide +kernel, rfl, by decide +kernel, by decide +kernel⟩
theorem ok_ladd {f C CR CT : Addr} {fd : FuncData} {k : Nat} (F : Fun K "add" "Log.add" sLAdd f fd) (TL : TxtC K C) (TR : Txt1 K mg CR) (TT : TxtT K mg CT) (pW : Prp P w K mg base CR "width" "span") (pTR : Prp P w K mg base CT "rows" "lines") (mT : MakeT P w K mg base CT 3) (cR : Cal P w K mg base "is_row" ["width", "thing"] (spIsRow K) 2)
    (ck : MthG P w K mg base C "check" ["self", "rows"] (spLChk K) 1) (cg : MthG P w K mg base C "change" ["self", "table"] (spLChg K C) 1) : FnOk P w K mg base CX0 (k + 5) f fd ["self", "row"] (spLAdd K C CR CT) := by
  have GN := mT.ok (k + 3) (by omega)
  have GR := cR.ok (k + 4) (by omega)
  have GC := ck.ok (k + 4) (by omega)
  have GG := cg.ok (k + 4) (by omega)
  refine F.ok scLAdd (fun vs H Q E h => ?_) (fun cdv A outer s H vs Q E hr h => ?_)
  · obtain ⟨x, r, q, tr, m, rs, rows, row, n, rfl, _⟩ := h
    rfl
  · obtain ⟨x, r, pq, tr, m, rs, rows, row, n, rfl, L, w1, w6, htr, rok, ok, few, n1, to⟩ := h
    have nd := scLAdd.nd
    refine ⟨_, (pss_cons (ps_if (pt_not (pt_val (pe_call GR hr rfl cR.g cR.kp cR.b .nil pass0 (pa_cons (pe_prop (pe_fld (pv 0) rfl) TR.cl pW.hp (pW.ok (k + 3) (by omega)) hr pW.b .nil pass0 rfl) (pa_cons (pv 1) pa_nil))))) (pss_one ps_never) pss_nil)
      (pss_cons (ps_set (i := 2) nd rfl (.inl rfl) (pe_lst (StX.pa_star (pe_prop (pe_fld (pv 0) rfl) TT.cl pTR.hp (pTR.ok (k + 3) (by omega)) hr pTR.b .nil pass0 rfl) (pa_cons (pv 1) pa_nil))))
      (pss_cons (ps_expr (pe_meth (pv 0) TL.cl ck.m GC hr ck.b .nil pass0 (pa_cons (pv 2) pa_nil)))
      (pss_one (ps_expr (pe_meth (pv 0) TL.cl cg.m GG hr cg.b .nil pass0 (pa_cons (pe_makeRS mT.M GN hr rfl TT.mgC pass0 (pa_cons (pe_prop (pe_fld (pv 0) rfl) TR.cl pW.hp (pW.ok (k + 3) (by omega)) hr pW.b .nil pass0 rfl) (StX.pa_star (pv 2) pa_nil))) pa_nil))))))), ?_⟩
    obtain ⟨dx, t, hx, tt⟩ := L.at_
    obtain ⟨hs, hq, hl⟩ := L.past
    obtain ⟨dr, gr, ur, r1, r2, r3⟩ := L.book.same (wos_le _)
    obtain ⟨dt, g, us, t1, t2, t3⟩ := tt.same (wos_le _)
    have ul : us.length = rows.length := by rw [dps_len t3, List.length_map]
    have ht := same_t (wos_le _) htr
    refine ⟨_, rfl, x, C, dx, _, _, rfl, hx, TL.cl, TL.nB, fldL_b _ _ _, r, dr, _, rfl, r1, r, dr, _, _, rfl, r1, flds_span _ _, _, rfl, m, tr, row, rfl, ht, rok, w6, fun H1 s1 => ⟨_, rfl, iteF ?_⟩⟩
    refine ⟨_, rfl, x, C, dx, _, _, rfl, s1 _ _ hx, TL.cl, TL.nH, fldL_h _ _ _, t, dt, _, rfl, s1 _ _ t1, t, dt, _, _, rfl, s1 _ _ t1, fldT_lines _ _, g, us, rfl, .inl (.inl (.inl (s1 _ _ t2))), _, rfl, ?_, fun p np => ?_⟩
    · rw [List.length_append]
      exact Nat.le_of_lt (small1000 (by show us.length + 1 ≤ 1000; omega))
    have s2 : Same H1 (upd H1 p (.lst (us ++ [.ref tr]))) := same_new np
    have hp : (upd H1 p (.lst (us ++ [.ref tr]))) p = some (.lst (us ++ [.ref tr])) := upd_same
    generalize upd H1 p (.lst (us ++ [.ref tr])) = H2 at s2 hp
    have s02 := s1.trans s2
    refine ⟨_, rfl, x, dx, _, rfl, s02 _ _ hx, fldL_no _ _ _ (by decide +kernel) (by decide +kernel) (by decide +kernel), _, rfl, x, p, _, rfl, .inl (SqL.of hp), by rw [List.length_append]; show us.length + 1 ≤ 400; omega, ?_⟩
    refine ⟨_, rfl, x, dx, _, rfl, s02 _ _ hx, fldL_no _ _ _ (by decide +kernel) (by decide +kernel) (by decide +kernel), ?_⟩
    refine ⟨_, rfl, x, C, dx, _, _, rfl, s02 _ _ hx, TL.cl, TL.nB, fldL_b _ _ _, r, dr, _, rfl, s02 _ _ r1, r, dr, _, _, rfl, s02 _ _ r1, flds_span _ _, _, rfl, p, _, rfl, .inr (SqL.of hp), ?_⟩
    have dj : DpAll K H2 (us ++ [.ref tr]) ((rows ++ [row]).map gd) := by
      rw [List.map_append]
      exact dps_app (dps_same s02 _ _ t3) (dps_one (dp_gd (same_t s02 ht)))
    refine fun t' dz nz ndz ne => ?_
    refine mkT_go (K := K) (C := CT) w1 w6 (fun y hy => ?_) (by rw [List.length_append]; show rows.length + 1 ≤ 400; omega) dj nz ndz ne fun H3 s3 tt' => ⟨rfl, ?_⟩
    · rcases List.mem_append.mp hy with z | z
      · exact ok y z
      · rw [List.mem_singleton.mp z]
        exact rok
    have s03 := s02.trans s3
    exact ⟨x, dx, r, t, pq, t', hs, rfl, s03 _ _ hx, s03 _ _ hq, by omega, changed L s02 s3 hx hq hl nz tt' to⟩
end
end CC
/-! ### set comprehensions, by a kind of sets -/
namespace SC
open PySem PySem.Spec PyProof.Rows L2
abbrev bareS (w : World) : Obj := { cls := .type "set", dict := none, data := .set #[] 0 (.fresh 0 0 (!w.params.followText "set-order")) }
/-- what stands at the place of a set while it is filled, and what one more member makes of it -/
structure Fam (α : Type) where
  ob : Program → World → Addr → α → HO
  ini : α
  new : ∀ (P : Program) (w : World) (H : Hp) (h : Heap), ObjOk P w H (h.push (bareS w)) h.objs.size (ob P w h.objs.size ini)
  put : PySem.W.Frag → Around → Hp → α → V → α → Prop
  add : ∀ {X : Cx} {pins : List (Addr × Obj)} {σ : L2.St} {H : Hp} {s : Shared} {E : Value → Shared → Prop} {D : Addr} {a b : α} {y : V} {v : Value} {Q : Value → Shared → Prop}, Inv X pins σ H s → H D = some (ob X.prog X.w D a) → put X.K X.A H a y b → RelV y v →
    (∀ s', Inv X pins σ (upd H D (ob X.prog X.w D b)) s' → Q .none s') → wpAny (model X.prog X.w) X.A (call (.builtin "set.add") [.ref D, v]) Q E s
section
variable {X : Cx} {α : Type}
def tSF (F : Fam α) (P : Program) (w : World) (K : PySem.W.Frag) (A : Around) (wi : TI) (g : TG) (tt : TT) (te : TE) (vs : List Nat) : TE := fun σ H Q => wi σ H fun J H1 => ∀ D, H1 D = none → ∃ W : Nat → Nat → Hp → Prop, (∃ m, W 0 m (upd H1 D (F.ob P w D F.ini))) ∧
  ∀ i m H, W i m H → (J.stop i H ∧ Q (.ref D) H) ∨ (J.go i H ∧ ∃ Nx : Hp → Prop, (∀ H', Nx H' → ∃ m', m' < m ∧ W (i + 1) m' H') ∧ ∀ x H', J.yld i H x H' → g x (wipe σ vs) H' fun σ2 H2 => wipe σ2 vs = wipe σ vs ∧ tt σ2 H2 fun b H3 =>
    if b = true then te σ2 H3 fun y H4 => ∃ c c' : α, H4 D = some (F.ob P w D c) ∧ F.put K A H4 c y c' ∧ Nx (upd H4 D (F.ob P w D c')) else Nx H3)
theorem core (F : Fam α) {pins : List (Addr × Obj)} {s : Shared} {σ : L2.St} {H : Hp} {Q : VK} {elt tg iter : Expr} {ifs : List Expr} {scope : Scope} {own : List (PySem.Str × Nat)} {pos pos' : Pos} {wi : TI} {g : TG} {tt : TT} {te : TE} {Qf : Value → Shared → Prop} {use : Option (Value → Sem Unit)}
    (calm : X.calm = true) (nd : X.N.Nodup) (I0 : Inv X pins σ H s) (walk : PI X tg iter wi) (bo : BlkOk X.N X.env.scope scope own)
    (aim : ∀ s H C cl fp, PG (X.blk s H scope (compEnvC scope cl C X.env) fp) tg g) (tst : ∀ s H C cl fp, PTs (X.blk s H scope (compEnvC scope cl C X.env) fp) ifs tt)
    (val : ∀ s H C cl fp, PE (X.blk s H scope (compEnvC scope cl C X.env) fp) elt te) (plain : ∀ x, foldedSetIterable iter X.env x = pure x)
    (ask : tSF F X.prog X.w X.K X.A wi g tt te (own.map (·.2)) σ H Q)
    (out : ∀ D C s' m H', Inv X pins σ H' s' → Q (.ref D) H' → s'.heap.Ns C m → FpOk X pins H' C → compPost (model X.prog X.w) X.A X.xe use Qf (.ref D) C (.ok .next) s') :
    wpAny (model X.prog X.w) X.A (comprehension (.SetComp elt [⟨tg, iter, ifs, 0⟩] scope pos) scope X.env pos' (newSet (.type "set")) false (eval iter X.env) use) Qf X.xe s := by
  have clo : ∀ y ∈ scope.names, y.2 = .free → ∃ c, X.env.cells.lookup y.1 = some c := fun y my ey => by
    rcases bo.free y my ey with z | z
    · exact I0.ok.has _ (.inl z)
    · exact I0.ok.has _ (.inr z)
  refine wpAny_comprehension_free (use := use) rfl plain (closure_ok clo) bo.kind (fun y my ey => by rw [bo.uniq y my, ey]) (thn (walk.run pins s σ H _ I0 ask) fun v0 sa ha => thn ha fun v1 sb hb => ?_)
  obtain ⟨itA, fp, tn, J, Hb, rfl, Ib, Tn, stb, fpb, qb⟩ := hb
  refine PpSet.newSet_ok (newEnv_comp ?_)
  obtain ⟨D, eD⟩ : ∃ D, D = sb.heap.objs.size := ⟨_, rfl⟩
  have freeD : Hb D = none := Ib.hok.fresh (Nat.le_of_eq eD.symm)
  obtain ⟨W, ⟨m0, w0⟩, turn⟩ := qb D freeD
  obtain ⟨sc, esc⟩ : ∃ sc : Shared, sc = { sb with heap := sb.heap.push (bareS X.w) } := ⟨_, rfl⟩
  have Ic : Inv X pins σ (upd Hb D (F.ob X.prog X.w D F.ini)) sc := by
    rw [esc]
    refine Ib.laid (t' := sb.toks) (fun b o e => Heap.get?_push_of_some _ e) (Nat.le_of_eq eD.symm) ?_
    rw [eD]
    exact F.new _ _ _ _
  have hc : sc.heap = sb.heap.push (bareS X.w) := by rw [esc]
  have below : ∀ b ∈ fp, b < sb.heap.objs.size := fun b mb => by
    obtain ⟨o, e, _⟩ := Tn.obj _ _ stb b mb
    exact Heap.lt_size e
  have fpc : ∀ b ∈ fp, FpOk X pins (upd Hb D (F.ob X.prog X.w D F.ini)) b ∧ b < sc.heap.objs.size := fun b mb => by
    have lt := below b mb
    refine ⟨⟨?_, (fpb b mb).2⟩, by rw [hc, Heap.size_push]; exact Nat.lt_succ_of_lt lt⟩
    rw [upd_ne (by rw [eD]; exact Nat.ne_of_lt lt)]
    exact (fpb b mb).1
  have stc : tn 0 sc.heap := Tn.keep _ _ _ stb fun b _ o e => by rw [hc]; exact Heap.get?_push_of_some _ e
  have Id := block_start Ic bo nd fpc
  have hereG := aim sc (upd Hb D (F.ob X.prog X.w D F.ini)) sc.heap.objs.size (cellsFrom (sc.heap.objs.size + 1) scope.names (cloFrom X.env.cells scope.names [])) fp
  have hereT := tst sc (upd Hb D (F.ob X.prog X.w D F.ini)) sc.heap.objs.size (cellsFrom (sc.heap.objs.size + 1) scope.names (cloFrom X.env.cells scope.names [])) fp
  have hereE := val sc (upd Hb D (F.ob X.prog X.w D F.ini)) sc.heap.objs.size (cellsFrom (sc.heap.objs.size + 1) scope.names (cloFrom X.env.cells scope.names [])) fp
  rw [← eD, ← esc]
  have offH : ∀ b ∈ fp, (upd Hb D (F.ob X.prog X.w D F.ini)) b = none := fun b mb => (fpc b mb).1.1
  show codeAny _ _ (.compStart (.SetComp elt [⟨tg, iter, ifs, 0⟩] scope pos) 0 (.ref itA) (.ref D) (compEnvC scope (cellsFrom (sc.heap.objs.size + 1) scope.names (cloFrom X.env.cells scope.names [])) sc.heap.objs.size X.env)) _ { sc with heap := pushCells (sc.heap.push { cls := .type "dict", data := .dict #[] }) scope.names }
  generalize hce : compEnvC scope (cellsFrom (sc.heap.objs.size + 1) scope.names (cloFrom X.env.cells scope.names [])) sc.heap.objs.size X.env = ce at Id hereG hereT hereE ⊢
  have locs : ce.locals = sc.heap.objs.size := by subst hce; rfl
  generalize upd Hb D (F.ob X.prog X.w D F.ini) = Hc at Ic Id hereG hereT hereE w0 offH fpc
  generalize hsd : ({ sc with heap := pushCells (sc.heap.push { cls := .type "dict", data := .dict #[] }) scope.names } : Shared) = sd at Id ⊢
  have std : tn 0 sd.heap := Tn.keep _ _ _ stc fun b _ o e => by rw [← hsd]; exact pushCells_keeps _ _ _ _ (Heap.get?_push_of_some _ e)
  have own1 : ∀ {σ' : L2.St} {H' : Hp} {s' : Shared}, Inv (X.blk sc Hc scope ce fp) [] σ' H' s' → (∀ b ∈ fp, H' b = none) → ∀ b ∈ fp, FpOk (X.blk sc Hc scope ce fp) [] H' b := fun {_ H' _} Ie off b mb =>
    ⟨off b mb, (Ie.ok.exf b mb).1, Ie.ok.exfs b mb, .inl mb, fun x c e => (Ie.ok.exf b mb).2 x c e, fun p hp => absurd (show p ∈ ([] : List (Addr × Obj)) ++ [] from hp) (by simp)⟩
  have loop : codeAny (model X.prog X.w) X.A (.compLoop (.SetComp elt [⟨tg, iter, ifs, 0⟩] scope pos) 0 (.ref itA) (.ref D) ce) (compPost (model X.prog X.w) X.A X.xe use Qf (.ref D) sc.heap.objs.size) sd := by
    refine PpSet.compLoopS_any (fun k st => ∃ i He, Inv (X.blk sc Hc scope ce fp) [] (wipe σ (own.map (·.2))) He st ∧ tn i st.heap ∧ (∀ b ∈ fp, He b = none) ∧ W i k He) ?_ m0 ⟨0, Hc, Id, std, offH, w0⟩
    rintro k se ⟨i, He, Ie, ste, offe, we⟩
    rcases turn i k He we with ⟨atEnd, fin⟩ | ⟨onward, Nx, back, next⟩
    · refine thnF (Tn.done (X.blk sc Hc scope ce fp) rfl rfl rfl calm i [] se _ He (fun _ _ => False) Ie (own1 Ie offe) ste atEnd) fun r sf ⟨er, If⟩ => ?_
      subst er
      have Ig : Inv X pins σ He sf := Ic.call' (ch := fp) If.os If.base If.hok If.bare fun b mb => ⟨(fpc b mb).1.2.2.2.1, (fpc b mb).1.2.1, (fpc b mb).1.2.2.2.2.1, (fpc b mb).1.2.2.2.2.2⟩
      have noC : He sc.heap.objs.size = none := locs ▸ (show He ce.locals = none from If.free)
      obtain ⟨nm, nsf, _⟩ := If.loc
      have nsf : sf.heap.Ns sc.heap.objs.size nm := locs ▸ (show sf.heap.Ns ce.locals nm from nsf)
      exact out D sc.heap.objs.size sf nm He Ig fin nsf (Ic.fpOk (Nat.le_refl _) noC)
    · refine thnF (Tn.item (X.blk sc Hc scope ce fp) rfl rfl rfl calm i [] se _ He (fun _ _ => False) Ie (own1 Ie offe) ste onward) fun r sf ⟨u, er, hf⟩ => ?_
      subst er
      refine thnF hf fun _ sg ⟨x, Hg, Ig, rg, yg, stg, offg⟩ => ?_
      refine thnF (hereG.run _ sg _ Hg x u _ (Ig.pinned (own1 Ig offg) (Tn.obj _ _ stg)) rg (next x Hg yg)) fun _ sh ⟨σh, Hh, Ih, wh, qh⟩ => ?_
      refine thnF (hereT.run _ sh σh Hh _ Ih qh) fun b si ⟨Hi, Ii, qi⟩ => ?_
      have over : ∀ {st : Shared} {Ht : Hp}, Inv (X.blk sc Hc scope ce fp) ([] ++ pinsAt fp sg.heap) σh Ht st → Nx Ht → ∃ m, m < k ∧ ∃ i He, Inv (X.blk sc Hc scope ce fp) [] (wipe σ (own.map (·.2))) He st ∧ tn i st.heap ∧ (∀ b ∈ fp, He b = none) ∧ W i m He := fun {st Ht} It nx => by
        obtain ⟨m1, lt1, w1⟩ := back Ht nx
        have held : ∀ b ∈ fp, ∀ o, sg.heap.get? b = some o → st.heap.get? b = some o ∧ Ht b = none := fun b mb o e =>
          have z := It.pin (b, o) (List.mem_append_right _ (List.mem_append_right _ (mem_pinsAt mb e)))
          ⟨z.1, z.2.1⟩
        have ln : (wipe σ (own.map (·.2))).length = σh.length := by rw [← wh, wipe_length]
        refine ⟨m1, lt1, i + 1, Ht, (It.unpinned (pins := [])).weak ln (fun j v e => ?_), Tn.keep _ _ _ stg fun b mb o e => (held b mb o e).1, fun b mb => ?_, w1⟩
        · rw [← wh] at e
          exact (wipe_some e).1
        · obtain ⟨o, e, _⟩ := Tn.obj _ _ stg b mb
          exact (held b mb o e).2
      cases b with
      | false =>
        rw [if_neg (by decide)] at qi ⊢
        exact over Ii qi
      | true =>
        rw [if_pos rfl] at qi ⊢
        refine thnF (hereE.run _ si σh Hi _ Ii qi) fun z sj ⟨yv, Hj, Ij, rj, c, c', atD, pt, nx⟩ => ?_
        exact F.add (X := X.blk sc Hc scope ce fp) Ij atD pt rj fun sk Ik => over Ik nx
  exact PpSet.codeAny_compStart_set loop (Tn.self X.A 0 _ _ _ std loop)
/-- {elt for target in iter if ..} -/
theorem pe_setc (F : Fam α) {elt tg iter : Expr} {ifs : List Expr} {scope : Scope} {own : List (PySem.Str × Nat)} {pos : Pos} {wi : TI} {g : TG} {tt : TT} {te : TE} (calm : X.calm = true) (nd : X.N.Nodup) (walk : PI X tg iter wi) (bo : BlkOk X.N X.env.scope scope own)
    (aim : ∀ s H C cl fp, PG (X.blk s H scope (compEnvC scope cl C X.env) fp) tg g) (tst : ∀ s H C cl fp, PTs (X.blk s H scope (compEnvC scope cl C X.env) fp) ifs tt)
    (val : ∀ s H C cl fp, PE (X.blk s H scope (compEnvC scope cl C X.env) fp) elt te) (plain : ∀ x, foldedSetIterable iter X.env x = pure x := by intro _; rfl) :
    PE X (.SetComp elt [⟨tg, iter, ifs, 0⟩] scope pos) (tSF F X.prog X.w X.K X.A wi g tt te (own.map (·.2))) := by
  refine ⟨fun pins s σ H Q I0 ask => ?_⟩
  rw [PpSet.eval_SetComp]
  refine core F calm nd I0 walk bo aim tst val plain ask fun D C s1 m H1 I1 q hn fpC => ⟨m, hn, fun h2 sb => ?_⟩
  exact ⟨.ref D, H1, I1.turned (t' := s1.toks) (fun b o hb e => (sb.2 b hb).trans e) fpC.1 fpC.2.1 fpC.2.2.2.1 fpC.2.2.2.2.1 fpC.2.2.2.2.2, rfl, q⟩
end
/-- sets of ints -/
def famI : Fam ((Int → Bool) × Nat) where
  ob := fun _ w a c => SetO w a c.1 c.2
  ini := (fun _ => false, 0)
  new := fun P w H h => setO_new (setR_fresh w)
  put := fun _ _ _ c y c' => ∃ k : Int, y = .int k ∧ c.2 + 1 < scanBound ∧ c' = (fun j => c.1 j || decide (j = k), if c.1 k = true then c.2 else c.2 + 1)
  add := by
    intro X pins σ H s E D a b y v Q I hD pt rv q
    obtain ⟨k, rfl, room, rfl⟩ := pt
    obtain ⟨tk, rfl⟩ := rv
    refine setR_add (setO_get I hD) room fun h' sb new => q _ ?_
    have ⟨o, _, _, _, ho, _⟩ := new
    exact I.write (e := D) (t' := s.toks + 1) (by rw [hD]; trivial) (.inl rfl) (fun b u hb hu => (sb.2 b hb).trans hu) ⟨o, ho⟩ (setO_new new)
/-- {elt for target in iter if ..}, elt an int -/
def tSI (w : World) (wi : TI) (g : TG) (tt : TT) (te : TE) (vs : List Nat) : TE := fun σ H Q => wi σ H fun J H1 => ∀ D, H1 D = none → ∃ W : Nat → Nat → Hp → Prop, (∃ m, W 0 m (upd H1 D (SetO w D (fun _ => false) 0))) ∧
  ∀ i m H, W i m H → (J.stop i H ∧ Q (.ref D) H) ∨ (J.go i H ∧ ∃ Nx : Hp → Prop, (∀ H', Nx H' → ∃ m', m' < m ∧ W (i + 1) m' H') ∧ ∀ x H', J.yld i H x H' → g x (wipe σ vs) H' fun σ2 H2 => wipe σ2 vs = wipe σ vs ∧ tt σ2 H2 fun b H3 =>
    if b = true then te σ2 H3 fun y H4 => ∃ c c' : (Int → Bool) × Nat, H4 D = some (SetO w D c.1 c.2) ∧ (∃ k : Int, y = .int k ∧ c.2 + 1 < scanBound ∧ c' = (fun j => c.1 j || decide (j = k), if c.1 k = true then c.2 else c.2 + 1)) ∧ Nx (upd H4 D (SetO w D c'.1 c'.2)) else Nx H3)
theorem pe_setI {X : Cx} {elt tg iter : Expr} {ifs : List Expr} {scope : Scope} {own : List (PySem.Str × Nat)} {pos : Pos} {wi : TI} {g : TG} {tt : TT} {te : TE} (calm : X.calm = true) (nd : X.N.Nodup) (walk : PI X tg iter wi) (bo : BlkOk X.N X.env.scope scope own)
    (aim : ∀ s H C cl fp, PG (X.blk s H scope (compEnvC scope cl C X.env) fp) tg g) (tst : ∀ s H C cl fp, PTs (X.blk s H scope (compEnvC scope cl C X.env) fp) ifs tt)
    (val : ∀ s H C cl fp, PE (X.blk s H scope (compEnvC scope cl C X.env) fp) elt te) (plain : ∀ x, foldedSetIterable iter X.env x = pure x := by intro _; rfl) :
    PE X (.SetComp elt [⟨tg, iter, ifs, 0⟩] scope pos) (tSI X.w wi g tt te (own.map (·.2))) := ⟨fun pins s σ H Q I h => (pe_setc famI calm nd walk bo aim tst val plain).run pins s σ H Q I h⟩
end SC
namespace CC
open PySem L2 TL
/-- the different ones, in the order in which they come -/
def firsts : List Nat → List Nat
  | l => l.foldl (fun acc x => if x ∈ acc then acc else acc ++ [x]) []
def dn (l : List Nat) : Nat := (firsts l).length
def colN (rows : List (List Nat)) (c : Nat) : List Nat := rows.map fun r => r.getD c 0
theorem firsts_snoc (l : List Nat) (x : Nat) : firsts (l ++ [x]) = if x ∈ firsts l then firsts l else firsts l ++ [x] := by
  unfold firsts
  rw [List.foldl_append]
  rfl
theorem firsts_mem : ∀ (n : Nat) (l : List Nat), l.length = n → ∀ y, y ∈ firsts l ↔ y ∈ l
  | 0, l, h, y => by
    rw [List.length_eq_zero_iff.mp h]
    simp [firsts]
  | n + 1, l, h, y => by
    have ne : l ≠ [] := fun e => by rw [e] at h; cases h
    obtain ⟨u, x, rfl⟩ : ∃ u x, l = u ++ [x] := ⟨_, _, (List.dropLast_concat_getLast ne).symm⟩
    have hu : u.length = n := by
      rw [List.length_append, List.length_singleton] at h
      omega
    have ih := firsts_mem n u hu
    rw [firsts_snoc, List.mem_append, List.mem_singleton]
    by_cases e : x ∈ firsts u
    · rw [if_pos e, ih y]
      constructor
      · exact .inl
      · rintro (z | rfl)
        · exact z
        · exact (ih _).mp e
    · rw [if_neg e, List.mem_append, List.mem_singleton, ih y]
theorem mem_firsts {l : List Nat} {y : Nat} : y ∈ firsts l ↔ y ∈ l := firsts_mem _ l rfl y
theorem dn_snoc (l : List Nat) (x : Nat) : dn (l ++ [x]) = if x ∈ l then dn l else dn l + 1 := by
  unfold dn
  rw [firsts_snoc]
  by_cases e : x ∈ l
  · rw [if_pos e, if_pos (mem_firsts.mpr e)]
  · rw [if_neg e, if_neg (fun z => e (mem_firsts.mp z)), List.length_append, List.length_singleton]
theorem dn_le (l : List Nat) : ∀ n, dn (l.take n) ≤ n
  | 0 => by simp [dn, firsts]
  | n + 1 => by
    cases h : l[n]? with
    | none =>
      rw [List.take_of_length_le (by have := List.getElem?_eq_none_iff.mp h; omega), ← List.take_of_length_le (i := n) (l := l) (by have := List.getElem?_eq_none_iff.mp h; omega)]
      exact Nat.le_succ_of_le (dn_le l n)
    | some x =>
      rw [List.take_succ, h]
      show dn (l.take n ++ [x]) ≤ _
      rw [dn_snoc]
      have := dn_le l n
      split <;> omega
/-- the members of a set of such numbers -/
def memI (l : List Nat) : Int → Bool := fun k => decide (∃ n ∈ l, (n : Int) = k)
theorem memI_at (l : List Nat) (x : Nat) : memI l (x : Int) = decide (x ∈ l) := by
  unfold memI
  rw [Bool.eq_iff_iff, decide_eq_true_eq, decide_eq_true_eq]
  constructor
  · rintro ⟨n, hn, e⟩
    have : n = x := by omega
    exact this ▸ hn
  · exact fun h => ⟨x, h, rfl⟩
theorem memI_snoc (l : List Nat) (x : Nat) : (fun j => memI l j || decide (j = (x : Int))) = memI (l ++ [x]) := by
  funext j
  unfold memI
  rw [Bool.eq_iff_iff, Bool.or_eq_true, decide_eq_true_eq, decide_eq_true_eq, decide_eq_true_eq]
  constructor
  · rintro (⟨n, hn, e⟩ | e)
    · exact ⟨n, List.mem_append_left _ hn, e⟩
    · exact ⟨x, List.mem_append_right _ (List.mem_singleton.mpr rfl), e.symm⟩
  · rintro ⟨n, hn, e⟩
    rcases List.mem_append.mp hn with z | z
    · exact .inl ⟨n, z, e⟩
    · rw [List.mem_singleton.mp z] at e
      exact .inr e.symm
theorem colN_take {rows : List (List Nat)} {c i : Nat} {r : List Nat} (h : rows[i]? = some r) : colN (rows.take (i + 1)) c = colN (rows.take i) c ++ [r.getD c 0] := by
  unfold colN
  rw [take1 h, List.map_append]
  rfl
/-- over a tuple -/
theorem si_tup {w : World} {K : PySem.W.Frag} {a : Addr} {xs : List V} {g : TG} {tt : TT} {te : TE} {vs : List Nat} {σ : L2.St} {H1 : Hp} {D : Addr} {Qd : Hp → Prop} (Pv : Nat → Hp → Prop) (h0 : Pv 0 (upd H1 D (SetO w D (fun _ => false) 0))) (hl : ∀ i H, i ≤ xs.length → Pv i H → SqT K H a xs)
    (hs : ∀ i x H, xs[i]? = some x → Pv i H → g x (wipe σ vs) H fun σ2 H2 => wipe σ2 vs = wipe σ vs ∧ tt σ2 H2 fun b H3 => if b = true then te σ2 H3 fun y H4 => ∃ c c' : (Int → Bool) × Nat, H4 D = some (SetO w D c.1 c.2) ∧ (∃ k : Int, y = .int k ∧ c.2 + 1 < scanBound ∧ c' = (fun j => c.1 j || decide (j = k), if c.1 k = true then c.2 else c.2 + 1)) ∧ Pv (i + 1) (upd H4 D (SetO w D c'.1 c'.2)) else Pv (i + 1) H3) (hd : ∀ H, Pv xs.length H → Qd H) :
    ∃ W : Nat → Nat → Hp → Prop, (∃ m, W 0 m (upd H1 D (SetO w D (fun _ => false) 0))) ∧ ∀ i m H, W i m H → ((Itt K a).stop i H ∧ Qd H) ∨ ((Itt K a).go i H ∧ ∃ Nx : Hp → Prop, (∀ H', Nx H' → ∃ m', m' < m ∧ W (i + 1) m' H') ∧ ∀ x H', (Itt K a).yld i H x H' → g x (wipe σ vs) H' fun σ2 H2 => wipe σ2 vs = wipe σ vs ∧ tt σ2 H2 fun b H3 =>
      if b = true then te σ2 H3 fun y H4 => ∃ c c' : (Int → Bool) × Nat, H4 D = some (SetO w D c.1 c.2) ∧ (∃ k : Int, y = .int k ∧ c.2 + 1 < scanBound ∧ c' = (fun j => c.1 j || decide (j = k), if c.1 k = true then c.2 else c.2 + 1)) ∧ Nx (upd H4 D (SetO w D c'.1 c'.2)) else Nx H3) := by
  refine ⟨fun i m H => m = xs.length - i ∧ i ≤ xs.length ∧ Pv i H, ⟨xs.length, by simp, Nat.zero_le _, h0⟩, ?_⟩
  rintro i m H ⟨rfl, hi, p⟩
  have q := hl i H hi p
  by_cases lt : i < xs.length
  · refine .inr ⟨⟨xs, xs[i], q, by simp [lt]⟩, Pv (i + 1), fun H' p' => ⟨xs.length - (i + 1), by omega, rfl, lt, p'⟩, fun x H' y => ?_⟩
    obtain ⟨e, y⟩ := y
    subst e
    exact hs i x _ (y xs q) p
  · have e : i = xs.length := by omega
    subst e
    exact .inl ⟨⟨xs, q, Nat.le_refl _⟩, hd H p⟩
/-- len of a set of ints -/
def rLenI (w : World) : List V → Hp → VK → Prop := fun xs H Q => ∃ (a : Addr) (S : Int → Bool) (n : Nat), xs = [.ref a] ∧ H a = some (SetO w a S n) ∧ n ≤ 1000 ∧ Q (.int (n : Int)) H
theorem call_lenI {X : Cx} : CallR X (.builtin "len") (rLenI X.w) := by
  intro pins s σ H xs us Q I r h
  obtain ⟨a, S, n, rfl, ha, hn, q⟩ := h
  rw [Vals.ref1 r]
  obtain ⟨o, es, ep, t, ho, hex, hd, _, _, _, hb, hf, e, _⟩ := setO_get I ha
  exact PySem.call_len_set ho hex hd hf (by rw [e]; omega) ⟨.int (n : Int), H, I.tok _, ⟨_, by rw [e]⟩, q⟩
end CC
namespace CC
open PySem L2
/-! ### steps down -/
def down (r : R) : Nat × Nat := if r.k then (r.a, r.b) else (r.b, r.a)
theorem kd_eq (k : Bool) : decide (V.str (kd k) = V.str "settles") = k := by
  cases k <;> decide +kernel
section
variable {P : Program} {w : World} {K : PySem.W.Frag} {mg : Str → Option Value} {base : Heap} {kA : Addr}
end
end CC
namespace CC
/-- what law and document say of a rule and rows -/
def HoldsR (rows : List (List Nat)) (r : R) : Prop :=
  if r.k then ∀ x ∈ rows, ∀ y ∈ rows, y.getD r.a 0 = x.getD r.a 0 → y.getD r.b 0 = x.getD r.b 0
  else ∀ x ∈ rows, ∃ y ∈ rows, y.getD r.b 0 = x.getD r.a 0
theorem firsts_nodup : ∀ (n : Nat) (l : List Nat), l.length = n → (firsts l).Nodup
  | 0, l, h => by
    rw [List.length_eq_zero_iff.mp h]
    simp [firsts]
  | n + 1, l, h => by
    have ne : l ≠ [] := fun e => by rw [e] at h; cases h
    obtain ⟨u, x, rfl⟩ : ∃ u x, l = u ++ [x] := ⟨_, _, (List.dropLast_concat_getLast ne).symm⟩
    have hu : u.length = n := by
      rw [List.length_append, List.length_singleton] at h
      omega
    have ih := firsts_nodup n u hu
    rw [firsts_snoc]
    by_cases e : x ∈ firsts u
    · rw [if_pos e]
      exact ih
    · rw [if_neg e]
      refine List.nodup_append.mpr ⟨ih, by simp, fun y hy z hz ez => ?_⟩
      rw [List.mem_singleton.mp hz] at ez
      exact e (ez ▸ hy)
theorem nodup_firsts (l : List Nat) : (firsts l).Nodup := firsts_nodup _ l rfl
theorem sub_len : ∀ {u v : List Nat}, u.Nodup → (∀ x ∈ u, x ∈ v) → u.length ≤ v.length
  | [], _, _, _ => Nat.zero_le _
  | x :: u, v, h, s => by
    obtain ⟨h1, h2⟩ := List.nodup_cons.mp h
    have hx := s x List.mem_cons_self
    have := sub_len (u := u) (v := v.erase x) h2 fun y hy => (List.mem_erase_of_ne (a := y) (b := x) fun e => h1 (by rw [← e]; exact hy)).mpr (s y (List.mem_cons_of_mem _ hy))
    have l := List.length_erase_of_mem hx
    have : 0 < v.length := List.length_pos_of_mem hx
    rw [List.length_cons]
    omega
end CC
namespace CC
open PySem L2 TL
theorem iteT' {p q : Prop} {b : Bool} (h : b = true) (x : p) : if b = true then p else q := by
  rw [if_pos h]
  exact x
theorem iteF' {p q : Prop} {b : Bool} (h : b = false) (x : q) : if b = true then p else q := by
  rw [if_neg (by rw [h]; decide)]
  exact x
end CC
/-! the walk over a set that set - set takes -/
namespace SD
open PySem PySem.Spec PyProof.Rows L2
section
variable {P : Program} {w : World} {A : Around} {E : Value → Shared → Prop} {s : Shared} {a : Addr} {o : Obj} {es : Array (Int × Value)} {ep : Nat} {t : SetTable}
theorem walk_any {Q : Array (Int × Value) → Shared → Prop} (ho : s.heap.get? a = some o) (hd : o.data = .set es ep t) (hf : t.fits es.size = true) (hl : w.params.followText "set-order" = true ∨ t.led = true)
    (h : ∀ out d, out.toList.Perm es.toList → Q out { s with drawn := d }) : wpAny (model P w) A (setWalk a) Q E s := by
  have stay : ∀ out : Array (Int × Value), out.toList.Perm es.toList → Q out s := fun out q => h out s.drawn q
  unfold setWalk
  refine wpAny_bind (wpAny_setState_of ho hd hf ?_)
  dsimp only
  refine wpAny_bind (wpAny_byText ?_)
  by_cases bt : w.params.followText "set-order" = true
  · refine wp_if_pos bt ?_
    refine wpAny_bind (wpAny_askSetting ?_)
    exact wpAny_pure (stay _ (pick_perm _ _))
  · refine wp_if_neg bt ?_
    have led := hl.resolve_left bt
    split
    · refine wpAny_bind (drawOrder_at _ _ _ _ (by simp) fun ys d q => ?_)
      exact wpAny_pure (h _ d (by simpa using q))
    · refine wpAny_bind (m := (if (!t.led && decide (es.size > 1)) = true then unsupported "set:maker-not-led" else pure ())) (wp_if_neg (by rw [led]; simp) (wpAny_pure ?_))
      exact wpAny_pure (stay _ (List.Perm.refl _))
theorem forIn_pure {α : Type} {f : α → Option Bool × Unit → Sem (ForInStep (Option Bool × Unit))} : ∀ {l : List α}, (∀ e ∈ l, f e (none, ()) = pure (.yield (none, ()))) → (forIn l (none, ()) f : Sem (Option Bool × Unit)) = pure (none, ())
  | [], _ => rfl
  | e :: l, h => by
    rw [List.forIn_cons, h e List.mem_cons_self, pure_bind]
    exact forIn_pure fun x hx => h x (List.mem_cons_of_mem _ hx)
theorem forIn_still {M : Model} {F : Addr → Option Bool × Unit → Sem (ForInStep (Option Bool × Unit))} : ∀ {sets : List Addr} {Q : Option Bool × Unit → Shared → Prop}, (∀ a ∈ sets, ∀ Q' : ForInStep (Option Bool × Unit) → Shared → Prop, Q' (.yield (none, ())) s → wpAny M A (F a (none, ())) Q' E s) → Q (none, ()) s → wpAny M A (forIn sets (none, ()) F) Q E s
  | [], _, _, h => wpAny_pure h
  | a :: l, Q, hs, h => by
    rw [List.forIn_cons]
    exact wpAny_bind (hs a List.mem_cons_self _ (forIn_still (fun b hb => hs b (List.mem_cons_of_mem _ hb)) h))
theorem quiet_sets {Q : Bool → Shared → Prop} {sets : List Addr} (hs : ∀ a ∈ sets, ∃ S n, SetR w s.heap a S n) (h : Q true s) : wpAny (model P w) A (setsQuiet sets) Q E s := by
  unfold setsQuiet
  refine wpAny_bind (forIn_still (fun a ha Q' h' => ?_) (wpAny_pure h))
  obtain ⟨S, n, o, es, ep, t, ho, hex, hd, g, nd, m, hb, hf, hn, hr, hl⟩ := hs a ha
  refine wpAny_bind (wpAny_setEntries_of ho hd hf ?_)
  rw [← Array.forIn_toList, forIn_pure fun e he => ?_]
  · exact wpAny_bind (wpAny_pure (wpAny_pure h'))
  · obtain ⟨k, tk, e2, _⟩ := g e he
    obtain ⟨e1, v⟩ := e
    dsimp only at e2
    subst e2
    rfl
/-- what a walk gives: the members, each once -/
def Outs (S : Int → Bool) (out : Array (Int × Value)) : Prop := (∀ e ∈ out.toList, GoodE e) ∧ (out.toList.map keyOf).Nodup ∧ ∀ k, S k = true ↔ k ∈ out.toList.map keyOf
theorem Outs.perm {S : Int → Bool} {out es : Array (Int × Value)} (h : Outs S es) (p : out.toList.Perm es.toList) : Outs S out :=
  ⟨fun e he => h.1 e (p.mem_iff.mp he), (p.map keyOf).nodup_iff.mpr h.2.1, fun k => (h.2.2 k).trans (p.map keyOf).mem_iff.symm⟩
theorem walk_unseen {b r : Addr} {S Sb Sr : Int → Bool} {n nb nr : Nat} {Q : Array (Int × Value) → Shared → Prop} (Ra : SetR w s.heap a S n) (Rb : SetR w s.heap b Sb nb) (Rr : SetR w s.heap r Sr nr)
    (h : ∀ out h' d, Outs S out → Heap.SameBut r s.heap h' → SetR w h' r Sr nr → Q out { s with heap := h', drawn := d }) : wpAny (model P w) A (setWalkUnseen a [b, r] (some r)) Q E s := by
  obtain ⟨o, es, ep, t, ho, hex, hd, g, nd, m, hb, hf, hn, hr, hl⟩ := id Ra
  have oe : Outs S es := ⟨g, nd, m⟩
  unfold setWalkUnseen
  refine wpAny_bind (wpAny_setState_of ho hd hf ?_)
  dsimp only
  refine wpAny_bind (wpAny_byText ?_)
  split
  · exact walk_any ho hd hf hl fun out d p => h out s.heap d (oe.perm p) (Heap.SameBut.refl _ _) Rr
  · rename_i nb
    refine wpAny_bind (quiet_sets (fun c hc => ?_) ?_)
    · have e' : c = a ∨ c = b ∨ c = r := by simpa using hc
      rcases e' with rfl | rfl | rfl
      · exact ⟨_, _, Ra⟩
      · exact ⟨_, _, Rb⟩
      · exact ⟨_, _, Rr⟩
    refine wp_if_neg (by decide) ?_
    refine wpAny_bind (wpAny_rule ?_)
    obtain ⟨o2, es2, ep2, t2, ho2, hex2, hd2, g2, nd2, m2, hb2, hf2, hn2, hr2, hl2⟩ := id Rr
    refine wpAny_bind (wpAny_setState_of ho2 hd2 hf2 ?_)
    try dsimp only
    split
    · refine wpAny_bind (wpAny_storeSet_of ho2 hd2 ?_ (fits_of_scanBound hb2))
      refine wpAny_pure (h es _ s.drawn oe (Heap.SameBut.update _ _ _) ?_)
      refine ⟨_, es2, ep2 + 1, _, store_at ho2 hd2, hex2, rfl, g2, nd2, m2, hb2, hf2, hn2, hr2, ?_⟩
      by_cases bt : w.params.followText "set-order" = true
      · exact .inl bt
      · refine .inr ?_
        show (t2.led && t.led) = true
        rw [hl.resolve_left bt, hl2.resolve_left bt]
        rfl
    · exact wpAny_pure (h es s.heap s.drawn oe (Heap.SameBut.refl _ _) Rr)
end
end SD
namespace SD
open PySem PySem.Spec PyProof.Rows L2
section
variable {P : Program} {w : World} {A : Around} {E : Value → Shared → Prop} {s : Shared} {a : Addr}
theorem sub_set : isSubtype (.type "set") (.type "set") = pure true := by rw [isSubtype_type]; kernel_rfl
theorem type_set {S : Int → Bool} {n : Nat} (R : SetR w s.heap a S n) : s.TypeIs (.ref a) "set" := by
  obtain ⟨o, es, ep, t, ho, hex, _⟩ := R
  exact ⟨o, ho, hex.1⟩
theorem any_set {S : Int → Bool} {n : Nat} {Q : Bool → Shared → Prop} (R : SetR w s.heap a S n) (h : Q true s) : wpAny (model P w) A (Builtin.Frozenset.isAnySet (.ref a)) Q E s := by
  unfold Builtin.Frozenset.isAnySet
  refine wpAny_bind (wpAny_isInstance (T := "set") (b := true) (type_set R) sub_set ?_)
  exact wpAny_pure h
theorem size_set {S : Int → Bool} {n : Nat} {Q : Nat → Shared → Prop} (R : SetR w s.heap a S n) (h : Q n s) : wpAny (model P w) A (Builtin.Frozenset.sizeOf a) Q E s := by
  obtain ⟨o, es, ep, t, ho, hex, hd, g, nd, m, hb, hf, hn, hr, hl⟩ := R
  unfold Builtin.Frozenset.sizeOf
  refine wpAny_bind (wpAny_setEntries_of ho hd hf (wpAny_pure ?_))
  rw [hn]
  exact h
theorem base_set {S : Int → Bool} {n : Nat} {Q : Value → Shared → Prop} (R : SetR w s.heap a S n) (h : Q (.type "set") s) : wpAny (model P w) A (Builtin.Frozenset.baseOf a) Q E s := by
  unfold Builtin.Frozenset.baseOf
  exact wpAny_bind (wpAny_isInstance (T := "set") (b := true) (type_set R) sub_set (wpAny_pure h))
theorem SetR.cong {h : Heap} {S S' : Int → Bool} {n : Nat} (R : SetR w h a S n) (e : ∀ k, S k = S' k) : SetR w h a S' n := by
  have : S = S' := funext e
  rw [← this]
  exact R
theorem forIn_sub {M : Model} {r : Addr} {Sb : Int → Bool} {F : Int × Value → PUnit → Sem (ForInStep PUnit)} {B : Heap → Prop} (hB : ∀ h h', B h → Heap.SameBut r h h' → B h')
    (hF : ∀ (e : Int × Value) (s : Shared) (S0 : Int → Bool) (n0 : Nat) (Q' : ForInStep PUnit → Shared → Prop), GoodE e → B s.heap → SetR w s.heap r S0 n0 → n0 + 1 < scanBound →
      (∀ h' n1, Heap.SameBut r s.heap h' → n1 ≤ n0 + 1 → SetR w h' r (fun k => S0 k || (decide (k = keyOf e) && !Sb k)) n1 → Q' (.yield PUnit.unit) { s with heap := h' }) → wpAny M A (F e PUnit.unit) Q' E s) :
    ∀ (l : List (Int × Value)) (s : Shared) (S0 : Int → Bool) (n0 : Nat) (Q : PUnit → Shared → Prop), (∀ e ∈ l, GoodE e) → B s.heap → SetR w s.heap r S0 n0 → n0 + l.length < scanBound →
      (∀ h' n1, Heap.SameBut r s.heap h' → n1 ≤ n0 + l.length → SetR w h' r (fun k => S0 k || (decide (k ∈ l.map keyOf) && !Sb k)) n1 → Q PUnit.unit { s with heap := h' }) → wpAny M A (forIn l PUnit.unit F) Q E s
  | [], s, S0, n0, Q, _, _, R, _, h => by
    refine wpAny_pure (h s.heap n0 (Heap.SameBut.refl _ _) (Nat.le_refl _) (SetR.cong R fun k => ?_))
    simp
  | e :: l, s, S0, n0, Q, hg, hb, R, hn, h => by
    rw [List.length_cons] at hn
    rw [List.forIn_cons]
    refine wpAny_bind (hF e s S0 n0 _ (hg e List.mem_cons_self) hb R (by omega) fun h1 n1 sb1 le1 R1 => ?_)
    refine forIn_sub hB hF l _ _ n1 Q (fun x hx => hg x (List.mem_cons_of_mem _ hx)) (hB _ _ hb sb1) R1 (by omega) fun h2 n2 sb2 le2 R2 => ?_
    refine h h2 n2 (sb1.trans sb2) (by rw [List.length_cons]; omega) (SetR.cong R2 fun k => ?_)
    cases S0 k <;> cases Sb k <;> by_cases z1 : k = keyOf e <;> by_cases z2 : k ∈ l.map keyOf <;> simp [z1, z2]
theorem diff_any {b : Addr} {S Sb : Int → Bool} {n nb : Nat} {nm : String} {Q : Value → Shared → Prop} (Ra : SetR w s.heap a S n) (Rb : SetR w s.heap b Sb nb) (small : n / 4 ≤ nb)
    (h : ∀ h' d n1, (∀ c o, s.heap.get? c = some o → h'.get? c = some o) → n1 ≤ n → SetR w h' s.heap.objs.size (fun k => S k && !Sb k) n1 → Q (.ref s.heap.objs.size) { s with heap := h', drawn := d }) :
    wpAny (model P w) A (Builtin.Frozenset.difference nm a (.ref b)) Q E s := by
  unfold Builtin.Frozenset.difference
  refine wpAny_bind (any_set Rb ?_)
  simp only [Bool.not_true, Bool.false_eq_true, if_false, Bool.false_and, if_true]
  refine wpAny_bind (wpAny_of_eq (a := b) rfl ?_)
  refine wpAny_bind (size_set Rb ?_)
  refine wpAny_bind (size_set Ra ?_)
  refine wp_if_neg (by omega) ?_
  refine wpAny_bind (base_set Ra ?_)
  refine wpAny_bind (PpSet.newSet_ok ?_)
  refine wpAny_bind (wpAny_of_eq (a := s.heap.objs.size) rfl ?_)
  have kp : ∀ c o, s.heap.get? c = some o → (s.heap.push { cls := .type "set", dict := none, data := .set #[] 0 (.fresh 0 0 (!w.params.followText "set-order")) }).get? c = some o := fun c o e => Heap.get?_push_of_some _ e
  have ar : a ≠ s.heap.objs.size := Nat.ne_of_lt Ra.lt
  have br : b ≠ s.heap.objs.size := Nat.ne_of_lt Rb.lt
  have Ra1 := Ra.at (h' := s.heap.push { cls := .type "set", dict := none, data := .set #[] 0 (.fresh 0 0 (!w.params.followText "set-order")) }) fun o e => kp _ o e
  have Rb1 := Rb.at (h' := s.heap.push { cls := .type "set", dict := none, data := .set #[] 0 (.fresh 0 0 (!w.params.followText "set-order")) }) fun o e => kp _ o e
  have Rr := setR_fresh (h := s.heap) w
  generalize s.heap.push { cls := .type "set", dict := none, data := .set #[] 0 (.fresh 0 0 (!w.params.followText "set-order")) } = h0 at kp Ra1 Rb1 Rr
  obtain ⟨o, es, ep, t, ho, hex, hd, g, nd, m, hb, hf, hn, hr, hl⟩ := (show SetR w _ a S n from Ra1)
  refine wpAny_bind ?_
  unfold setEpoch
  refine wpAny_bind (wpAny_setState_of ho hd hf (wpAny_pure ?_))
  refine wpAny_bind (wpAny_holding ?_)
  refine wpAny_bind (walk_unseen Ra1 Rb1 Rr fun out h1 d oo sb1 Rr1 => ?_)
  have ol : out.toList.length = n := by
    have p : (out.toList.map keyOf).Perm (es.toList.map keyOf) := (List.perm_ext_iff_of_nodup oo.2.1 nd).mpr fun k => (oo.2.2 k).symm.trans (m k)
    have := p.length_eq
    rw [List.length_map, List.length_map, Array.length_toList, Array.length_toList] at this
    rw [Array.length_toList, this, hn]
  refine wpAny_bind ?_
  rw [← Array.forIn_toList]
  refine forIn_sub (r := s.heap.objs.size) (Sb := Sb) (B := fun hh => hh.get? a = some o ∧ SetR w hh b Sb nb) (fun x y hx sb => ⟨(sb.2 a ar).trans hx.1, hx.2.at fun o e => (sb.2 b br).trans e⟩) ?_ out.toList _ (fun _ => false) 0 _ oo.1 ⟨(sb1.2 a ar).trans ho, Rb1.at fun o e => (sb1.2 b br).trans e⟩ Rr1 (by rw [ol]; omega) fun h2 n1 sb2 le2 R2 => ?_
  · intro e s' S0 n0 Q' ge hB Rr0 room hQ
    obtain ⟨k, tk, e2, e1⟩ := ge
    obtain ⟨eh, ev⟩ := e
    dsimp only at e1 e2
    subst e1
    subst e2
    have ek : keyOf (hashInt k, Value.int k tk) = k := rfl
    rw [ek] at hQ
    have same : ∀ h', Heap.SameBut s.heap.objs.size s'.heap h' → h'.get? a = some o := fun h' sb => (sb.2 a ar).trans hB.1
    refine wpAny_bind (wpAny_holding ?_)
    refine wpAny_bind (wpAny_setFind_of (knd := intKind P w) (k := k) (intKind_is P w k tk) rfl (SetR.setOf hB.2) fun rr hrr => ?_)
    refine wpAny_bind (wpAny_pure ?_)
    have tail : ∀ {h' : Heap}, Heap.SameBut s.heap.objs.size s'.heap h' → Q' (.yield PUnit.unit) { s' with heap := h' } → wpAny (model P w) A (do Builtin.Frozenset.unchanged nm a ep; pure (ForInStep.yield PUnit.unit)) Q' E { s' with heap := h' } := fun {h'} sb q => by
      unfold Builtin.Frozenset.unchanged setEpoch
      refine wpAny_bind (wpAny_bind (wpAny_bind (wpAny_setState_of (same h' sb) hd hf (wpAny_pure ?_))))
      exact wp_if_neg (by simp) (wpAny_pure (wpAny_pure q))
    cases z : Sb k with
    | true =>
      rw [z] at hrr
      refine wp_if_neg (by rw [hrr]; decide) (wpAny_pure ?_)
      refine tail (Heap.SameBut.refl _ _) (hQ _ n0 (Heap.SameBut.refl _ _) (by omega) (SetR.cong Rr0 fun j => ?_))
      by_cases zj : j = k
      · subst zj
        rw [z]
        simp
      · rw [decide_eq_false zj]
        simp
    | false =>
      rw [z] at hrr
      refine wp_if_pos (by rw [hrr]; decide) ?_
      refine wpAny_bind (setR_add_hashed Rr0 room fun h' sb R' => wpAny_pure ?_)
      refine tail sb (hQ _ _ sb (by split <;> omega) (SetR.cong R' fun j => ?_))
      by_cases zj : j = k
      · subst zj
        rw [z]
        simp
      · rw [decide_eq_false zj]
        simp
  · refine wpAny_pure (wpAny_pure (h h2 d n1 (fun c oc ec => ?_) (by omega) (SetR.cong R2 fun k => ?_)))
    · have cr : c ≠ s.heap.objs.size := Nat.ne_of_lt (Heap.lt_size ec)
      exact (sb2.2 c cr).trans ((sb1.2 c cr).trans (kp c oc ec))
    · have := oo.2.2 k
      by_cases z : k ∈ out.toList.map keyOf
      · rw [this.mpr z, decide_eq_true z]
        simp
      · have sk : S k = false := by
          cases y : S k with
          | false => rfl
          | true => exact (z (this.mp y)).elim
        rw [sk, decide_eq_false z]
        simp
end
end SD
/-! ### set - set by a copy: the first from 8 to 15 elements, the other fewer than a fourth -/
namespace SD
open PySem PySem.Spec PyProof.Rows L2
theorem range_all {α : Type} : ∀ l : List α, (List.range l.length).filterMap (fun i => l[i]?) = l
  | [] => rfl
  | x :: l => by
    rw [List.length_cons, List.range_succ_eq_map, List.filterMap_cons]
    simp only [List.getElem?_cons_zero]
    rw [List.filterMap_map]
    congr 1
    have : ((fun i => (x :: l)[i]?) ∘ Nat.succ) = fun i => l[i]? := by
      funext i
      simp
    rw [this]
    exact range_all l
theorem order_perm {es : Array (Int × Value)} {order : Array Nat} (h : order.toList.Perm (List.range es.size)) : (order.filterMap (es[·]?)).toList.Perm es.toList := by
  rw [Array.toList_filterMap]
  have e : (fun i : Nat => es[i]?) = fun i : Nat => es.toList[i]? := by
    funext i
    rw [Array.getElem?_toList]
  rw [e]
  have := h.filterMap (fun i : Nat => es.toList[i]?)
  rw [show es.size = es.toList.length from rfl, range_all] at this
  exact this
theorem laid_ok {M f mv : Nat} {led plain : Bool} {hs : Array Int} (hM : MaskOk M) (hn : hs.size ≤ M) : ∃ t order, SetTable.laid M f mv led plain hs = some (t, order) ∧ order.toList.Perm (List.range hs.size) ∧ Ris t.place.toList ∧ t.place.size = hs.size ∧ t.mask = M ∧ t.led = led ∧ t.dummies = #[] := by
  obtain ⟨wanted, hw⟩ : ∃ wanted, SetTable.sizeAbove wanted - 1 = M := by
    rcases hM with rfl | rfl | rfl
    · exact ⟨0, by decide⟩
    · exact ⟨16, by decide⟩
    · exact ⟨64, by decide⟩
  obtain ⟨t', order, e, hp, T, em, el, epl, ed⟩ := relaid_ok ⟨0, #[], #[], f, led, mv, plain⟩ (hs := hs) (wanted := wanted) hw hM hn
  rw [relaid_eq, hw] at e
  obtain ⟨owner, e1, e2⟩ := Option.bind_eq_some_iff.mp e
  have e3 := Prod.mk.inj (Option.some.inj e2)
  have sz : t'.place.size = hs.size := by
    have h1 := T.sz
    rw [List.length_map] at h1
    rw [h1, hp.length_eq, List.length_range]
  have ri := T.ris
  rw [← e3.1] at sz ri
  refine ⟨{ mask := M, place := ((liveOf M owner).map (·.1)).toArray, dummies := #[], finger := f, led := led, moves := mv, plain := plain }, order, ?_, hp, ri, sz, rfl, rfl, rfl⟩
  show (SetTable.layClean M hs >>= fun owner => _) = _
  rw [e1, ← e3.2]
  rfl
/-- a set of ints whose table has 32 places, few of them of discarded ones -/
def SetD (w : World) (h : Heap) (a : Addr) (S : Int → Bool) (n d : Nat) : Prop :=
  ∃ o es ep t, h.get? a = some o ∧ o.ExactSet ∧ o.data = .set es ep t ∧ (∀ e ∈ es.toList, GoodE e) ∧ (es.toList.map keyOf).Nodup ∧ (∀ k, S k = true ↔ k ∈ es.toList.map keyOf) ∧
    es.size < scanBound ∧ t.fits es.size = true ∧ es.size = n ∧ Ris t.place.toList ∧ (w.params.followText "set-order" = true ∨ t.led = true) ∧ t.mask = 31 ∧ t.dummies.size ≤ d
theorem SetD.R {w : World} {h : Heap} {a : Addr} {S : Int → Bool} {n d : Nat} (D : SetD w h a S n d) : SetR w h a S n := by
  obtain ⟨o, es, ep, t, h1, h2, h3, h4, h5, h6, h7, h8, h9, h10, h11, _⟩ := D
  exact ⟨o, es, ep, t, h1, h2, h3, h4, h5, h6, h7, h8, h9, h10, h11⟩
theorem SetD.cong {w : World} {h : Heap} {a : Addr} {S S' : Int → Bool} {n d : Nat} (R : SetD w h a S n d) (e : ∀ k, S k = S' k) : SetD w h a S' n d := by
  have : S = S' := funext e
  rw [← this]
  exact R
theorem setMerge_eq (s o : Addr) (each : Sem Unit) : setMerge s o each = (do
    if s == o then return
    let (eo, epoch, to) ← setState o
    if eo.isEmpty then return
    setRoomFor s eo.size
    let (_, _, ts) ← setState s
    match ts.road to with
    | .slotForSlot => storeSet s eo { to with finger := ts.finger, led := ts.led && to.led, moves := ts.moves, plain := ts.plain && to.plain }
    | .clean =>
      let (es, t) ← (do
        let some (t, order) := SetTable.laid ts.mask ts.finger ts.moves (led := ts.led && to.led) (plain := ts.plain && to.plain) (eo.map (·.1)) | unsupported "internal:set-table-without-room"
        let es' := order.filterMap (eo[·]?)
        if es'.size != eo.size then unsupported "internal:set-table-lost-an-element"
        pure (es', t) : Sem (Array (Int × Value) × SetTable))
      storeSet s es t
    | .oneByOne =>
      for (h, x) in ← setWalkUnseen o [s] (some s) do
        let _ ← holding [x] (setAddHashed s x h)
        each
        if (← setState o).2.1 != epoch then unsupported "set.changed-during-merge") := by rfl
section
variable {P : Program} {w : World} {A : Around} {E : Value → Shared → Prop} {s : Shared} {a : Addr}
theorem road_free {ts to : SetTable} (h : ts.place = #[]) (d : ts.dummies = #[]) : ts.road to = .slotForSlot ∧ ts.mask = to.mask ∧ to.dummies = #[] ∨ ts.road to = .clean := by
  unfold SetTable.road SetTable.fill
  rw [h, d]
  by_cases e : (ts.mask == to.mask && to.dummies.isEmpty) = true
  · refine .inl ⟨by simp [e], ?_⟩
    rw [Bool.and_eq_true, beq_iff_eq] at e
    exact ⟨e.1, by simpa using e.2⟩
  · exact .inr (by simp [e])
/-- an empty set takes over another one's elements -/
theorem merge_into {r : Addr} {S : Int → Bool} {n : Nat} {o : Obj} {ep : Nat} {t : SetTable} {each : Sem Unit} {Q : Unit → Shared → Prop} (Ra : SetR w s.heap a S n) (ne : r ≠ a) (n8 : 8 ≤ n) (n15 : n ≤ 15)
    (ho : s.heap.get? r = some o) (hex : o.ExactSet) (hd : o.data = .set #[] ep t) (hm : t.mask = 7) (hp : t.place = #[]) (hdm : t.dummies = #[]) (hl : w.params.followText "set-order" = true ∨ t.led = true)
    (h : ∀ h', Heap.SameBut r s.heap h' → SetD w h' r S n 0 → Q () { s with heap := h' }) : wpAny (model P w) A (setMerge r a each) Q E s := by
  obtain ⟨oa, es, epa, ta, hoa, hexa, hda, g, nd, m, hb, hf, hn, hr, hla⟩ := id Ra
  have hft : t.fits (#[] : Array (Int × Value)).size = true := by
    unfold SetTable.fits SetTable.fill
    rw [hp, hdm, hm]
    rfl
  rw [setMerge_eq]
  refine wp_if_neg (by simpa using ne) ?_
  refine wpAny_bind (wpAny_setState_of hoa hda hf ?_)
  dsimp only
  refine wp_if_neg (by rw [Array.isEmpty_iff_size_eq_zero]; omega) ?_
  refine wpAny_bind ?_
  unfold setRoomFor
  refine wpAny_bind (wpAny_setState_of ho hd hft ?_)
  have rf : t.roomFor es.size = some (es.size * 2) := by
    unfold SetTable.roomFor SetTable.fill
    rw [hp, hdm, hm]
    rw [if_pos (by show (0 + 0 + es.size) * 5 ≥ 7 * 3; omega)]
    simp
  dsimp only
  rw [rf]
  dsimp only
  have sa : SetTable.sizeAbove (es.size * 2) = 32 := by
    have : ∀ n : Fin 16, 8 ≤ n.1 → SetTable.sizeAbove (n.1 * 2) = 32 := by decide
    exact this ⟨es.size, by omega⟩ (by show 8 ≤ es.size; omega)
  rw [setRelay_eq]
  refine wpAny_bind (wpAny_setState_of ho hd hft ?_)
  dsimp only
  refine wp_if_neg (by rw [sa, sizeLine_eq]; omega) ?_
  try refine wpAny_bind (wpAny_pure ?_)
  obtain ⟨t', order, e, hpm, T, em, el, epl, ed⟩ := relaid_ok t (hs := (#[] : Array (Int × Value)).map (·.1)) (wanted := es.size * 2) (M := 31) (by rw [sa]) (.inr (.inl rfl)) (by simp)
  rw [e]
  dsimp only
  have o0 : order = #[] := by
    have := hpm.length_eq
    simp at this
    exact this
  subst o0
  refine wpAny_bind ?_
  refine wp_if_neg (by simp) ?_
  try refine wpAny_bind (wpAny_pure ?_)
  refine wpAny_pure ?_
  dsimp only
  refine wpAny_storeSet_of ho hd ?_ (by simp)
  have tp : t'.place = #[] := by
    have := T.sz
    simp at this
    exact this
  have ho1 := store_at (es' := (#[] : Array Nat).filterMap (fun i : Nat => (#[] : Array (Int × Value))[i]?)) (t' := t') ho hd
  have sb1 : Heap.SameBut r s.heap (s.heap.update r (Obj.putSet ((#[] : Array Nat).filterMap (fun i : Nat => (#[] : Array (Int × Value))[i]?)) t')) := Heap.SameBut.update ..
  generalize s.heap.update r (Obj.putSet ((#[] : Array Nat).filterMap (fun i : Nat => (#[] : Array (Int × Value))[i]?)) t') = h1 at ho1 sb1
  have hf1 : t'.fits ((#[] : Array Nat).filterMap (fun i : Nat => (#[] : Array (Int × Value))[i]?)).size = true := by
    unfold SetTable.fits SetTable.fill
    rw [tp, ed, em]
    rfl
  refine wpAny_bind (wpAny_setState_of (s := { s with heap := h1 }) ho1 rfl hf1 ?_)
  dsimp only
  have led' : w.params.followText "set-order" = true ∨ (t'.led && ta.led) = true := by
    rcases hl with z | z
    · exact .inl z
    · rcases hla with y | y
      · exact .inl y
      · exact .inr (by rw [el, z, y]; rfl)
  have fin : ∀ (es2 : Array (Int × Value)) (t2 : SetTable), es2.toList.Perm es.toList → t2.fits es2.size = true → Ris t2.place.toList → (w.params.followText "set-order" = true ∨ t2.led = true) → t2.mask = 31 → t2.dummies = #[] → wpAny (model P w) A (storeSet r es2 t2) Q E { s with heap := h1 } := by
    intro es2 t2 p2 f2 r2 l2 m2 d2
    have sz2 : es2.size = es.size := by
      have := p2.length_eq
      rwa [Array.length_toList, Array.length_toList] at this
    refine wpAny_storeSet_of (s := { s with heap := h1 }) ho1 rfl ?_ (by rw [sz2]; exact fits_of_scanBound hb)
    refine h _ (sb1.trans (Heap.SameBut.update ..)) ?_
    refine ⟨_, es2, _, t2, store_at ho1 rfl, hex, rfl, fun e he => g e (p2.mem_iff.mp he), (p2.map keyOf).nodup_iff.mpr nd, fun k => (m k).trans (p2.map keyOf).mem_iff.symm, by rw [sz2]; exact hb, f2, by rw [sz2]; exact hn, r2, l2, m2, by rw [d2]; exact Nat.le_refl _⟩
  rcases road_free (to := ta) tp ed with ⟨rd, rm, rdm⟩ | rd
  · rw [rd]
    dsimp only
    exact fin es _ (List.Perm.refl _) hf hr led' (by show ta.mask = 31; rw [← rm, em]) rdm
  · rw [rd]
    dsimp only
    obtain ⟨t2, order, e2, hp2, ri2, sz2, m2, l2, d2⟩ := laid_ok (M := 31) (f := t'.finger) (mv := t'.moves) (led := t'.led && ta.led) (plain := t'.plain && ta.plain) (hs := es.map (·.1)) (.inr (.inl rfl)) (by rw [Array.size_map]; omega)
    rw [em, e2]
    rw [Array.size_map] at hp2 sz2
    have pm := order_perm hp2
    have szE : (order.filterMap (es[·]?)).size = es.size := by
      have := pm.length_eq
      rwa [Array.length_toList, Array.length_toList] at this
    try refine wpAny_bind (wpAny_pure ?_)
    dsimp only
    refine wpAny_bind ?_
    refine wp_if_neg (by rw [szE]; simp) ?_
    try refine wpAny_bind (wpAny_pure ?_)
    refine wpAny_pure ?_
    dsimp only
    refine fin _ t2 pm ?_ ri2 (by rw [l2]; exact led') m2 d2
    unfold SetTable.fits SetTable.fill
    rw [sz2, szE, m2, d2]
    simp
    omega
theorem erase_list {α : Type} (xs : Array α) (p : Nat) : (SetTable.eraseAt xs p).toList = xs.toList.eraseIdx p := by
  unfold SetTable.eraseAt
  rw [Array.toList_append, Array.toList_extract, Array.toList_extract, List.eraseIdx_eq_take_drop_succ]
  congr 1
  simp
  exact List.take_of_length_le (by rw [List.length_drop, Array.length_toList]; exact Nat.le_refl _)
theorem erase_size {α : Type} (xs : Array α) {p : Nat} (h : p < xs.size) : (SetTable.eraseAt xs p).size = xs.size - 1 := by
  rw [← Array.length_toList, erase_list, List.length_eraseIdx, if_pos (by rw [Array.length_toList]; exact h), Array.length_toList]
theorem insert_size {α : Type} (xs : Array α) (p : Nat) (x : α) : (SetTable.insertAt xs p x).size = xs.size + 1 := by
  unfold SetTable.insertAt
  rw [Array.size_append, Array.size_push, Array.size_extract, Array.size_extract]
  omega
theorem mem_out {L : List (Int × Value)} {i : Nat} {k : Int} (nd : (L.map keyOf).Nodup) (hi : i < L.length) (e : keyOf L[i] = k) {j : Int} : j ∈ (L.eraseIdx i).map keyOf ↔ j ∈ L.map keyOf ∧ j ≠ k := by
  have sp : L = L.take i ++ L[i] :: L.drop (i + 1) := by rw [List.getElem_cons_drop, List.take_append_drop]
  rw [List.eraseIdx_eq_take_drop_succ]
  have nd' := nd
  rw [sp, List.map_append, List.map_cons, e] at nd'
  have h1 := List.nodup_append.mp nd'
  have h2 := List.nodup_cons.mp h1.2.1
  constructor
  · intro h
    rw [List.map_append] at h
    refine ⟨?_, fun z => ?_⟩
    · rw [sp, List.map_append, List.map_cons]
      rcases List.mem_append.mp h with y | y
      · exact List.mem_append_left _ y
      · exact List.mem_append_right _ (List.mem_cons_of_mem _ y)
    · subst z
      rcases List.mem_append.mp h with y | y
      · exact h1.2.2 _ y _ List.mem_cons_self rfl
      · exact h2.1 y
  · rintro ⟨h, z⟩
    rw [sp, List.map_append, List.map_cons, e] at h
    rw [List.map_append]
    rcases List.mem_append.mp h with y | y
    · exact List.mem_append_left _ y
    · rcases List.mem_cons.mp y with y | y
      · exact (z y).elim
      · exact List.mem_append_right _ y
theorem disc_at {r : Addr} {S : Int → Bool} {n d : Nat} {k : Int} {tk : Tok} {Q : Bool → Shared → Prop} (D : SetD w s.heap r S n d)
    (hQ : ∀ b h' n', Heap.SameBut r s.heap h' → n' ≤ n → SetD w h' r (fun j => S j && !decide (j = k)) n' (d + 1) → Q b { s with heap := h' }) :
    wpAny (model P w) A (setDiscardHashed r (.int k tk) ((intKind P w).hash k)) Q E s := by
  obtain ⟨o, es, ep, t, ho, hex, hd, g, nd, hm, hb, hf, hn, hr, hl, mk, dm⟩ := id D
  have hkey : (intKind P w).is k (.int k tk) = true := intKind_is P w k tk
  have hsc : (Value.int k tk).scannable = true := rfl
  have hel : ElemsOf (intKind P w) es.toList := good_elems g
  unfold setDiscardHashed setFind setFindIn
  refine wpAny_bind (wpAny_bind (wpAny_setState_of ho hd hf ?_))
  dsimp only
  rw [byScan_of hsc hb hel]
  simp only [↓reduceIte]
  refine wpAny_bind (wpAny_rule ?_)
  refine wpAny_bind (wpAny_setScan_of hkey ho hd hf hel ?_)
  cases hfi : List.findIdx? (fun e => (intKind P w).is k e.2) es.toList with
  | none =>
    dsimp only
    have hnk : k ∉ es.toList.map keyOf := fun z => by
      obtain ⟨e, he, q⟩ := (good_mem (P := P) (w := w) g k).1 z
      have c := List.findIdx?_eq_none_iff.mp hfi e he
      rw [q] at c
      cases c
    have hSk : S k = false := by
      cases q : S k with
      | false => rfl
      | true => exact absurd ((hm k).1 q) hnk
    refine wpAny_pure (wpAny_pure (hQ false s.heap n (Heap.SameBut.refl _ _) (Nat.le_refl _) ?_))
    have D' : SetD w s.heap r S n (d + 1) := ⟨o, es, ep, t, ho, hex, hd, g, nd, hm, hb, hf, hn, hr, hl, mk, Nat.le_succ_of_le dm⟩
    refine D'.cong fun j => ?_
    by_cases e : j = k
    · subst e
      rw [hSk]
      rfl
    · rw [decide_eq_false e]
      simp
  | some i =>
    dsimp only
    obtain ⟨hj, pj, _⟩ := List.findIdx?_eq_some_iff_getElem.mp hfi
    refine wpAny_pure ?_
    rw [Nat.zero_add]
    refine wpAny_bind (wpAny_setState_of ho hd hf ?_)
    dsimp only
    have hi : i < es.size := by rwa [Array.length_toList] at hj
    have ek : keyOf es.toList[i] = k := by
      obtain ⟨k', tk', e2, _⟩ := g _ (List.getElem_mem hj)
      have z : k' = k := by
        have := (good_mem (P := P) (w := w) (l := [es.toList[i]]) (fun e he => by rw [List.mem_singleton.mp he]; exact g _ (List.getElem_mem hj)) k).2 ⟨es.toList[i], List.mem_singleton.mpr rfl, pj⟩
        rw [List.map_cons, List.map_nil, List.mem_singleton] at this
        unfold keyOf at this
        rw [e2] at this
        exact this.symm
      unfold keyOf
      rw [e2]
      exact z
    have fs : t.place.size = es.size ∧ t.fill ≤ t.mask := by
      unfold SetTable.fits at hf
      simpa using hf
    have pl : t.place[i]? = some (t.place[i]'(by omega)) := Array.getElem?_eq_getElem (by omega)
    refine wpAny_bind (wpAny_storeSet_of ho hd ?_ (by rw [erase_size es hi]; have := fits_of_scanBound hb; omega))
    refine wpAny_bind (wpAny_point ?_)
    refine wpAny_pure (hQ true _ (n - 1) (Heap.SameBut.update ..) (Nat.sub_le _ _) ?_)
    refine ⟨_, _, _, _, store_at ho hd, hex, rfl, ?_, ?_, ?_, ?_, ?_, ?_, ?_, ?_, ?_, ?_⟩
    · intro e he
      rw [erase_list] at he
      exact g e ((List.eraseIdx_sublist _ _).subset he)
    · rw [erase_list]
      exact nd.sublist ((List.eraseIdx_sublist _ _).map keyOf)
    · intro j
      rw [erase_list, mem_out nd hj ek, ← hm j]
      simp
    · rw [erase_size es hi]
      omega
    · unfold SetTable.fits SetTable.fill SetTable.drop
      rw [pl]
      dsimp only
      rw [erase_size es hi, erase_size t.place (by omega), insert_size]
      have f2 := fs.2
      unfold SetTable.fill at f2
      simp
      omega
    · rw [erase_size es hi, hn]
    · unfold SetTable.drop
      rw [pl]
      dsimp only
      rw [erase_list]
      exact List.Pairwise.sublist (List.eraseIdx_sublist _ _) hr
    · unfold SetTable.drop
      rw [pl]
      exact hl
    · unfold SetTable.drop
      rw [pl]
      exact mk
    · unfold SetTable.drop
      rw [pl]
      dsimp only
      rw [insert_size]
      omega
end
end SD
namespace SD
open PySem PySem.Spec PyProof.Rows L2
theorem entry_sub : entryFor table "set.__sub__" = some Builtin.«frozenset.__sub__» :=
  entryFor_alias (id' := "frozenset.__sub__") (by kernel_rfl) (by first | rfl | decide +kernel | (unfold String.splitOn; simp +decide [String.splitOnAux])) (by decide +kernel) (by kernel_rfl)
/-- how many are left out of a set: none exactly if all are in the other -/
theorem none_left {w : World} {h : Heap} {r : Addr} {S : Int → Bool} {n : Nat} (R : SetR w h r S n) : n = 0 ↔ ∀ k, S k = false := by
  obtain ⟨o, es, ep, t, ho, hex, hd, g, nd, m, hb, hf, hn, hr, hl⟩ := R
  constructor
  · intro e k
    cases z : S k with
    | false => rfl
    | true =>
      have q := (m k).mp z
      have : es.toList = [] := List.length_eq_zero_iff.mp (by rw [Array.length_toList]; omega)
      rw [this] at q
      cases q
  · intro e
    rw [← hn, ← Array.length_toList]
    cases z : es.toList with
    | nil => rfl
    | cons x l =>
      have := (m (keyOf x)).mpr (by rw [z]; simp)
      rw [e] at this
      cases this
theorem inv_drawn {X : Cx} {pins : List (Addr × Obj)} {σ : L2.St} {H : Hp} {s : Shared} (I : Inv X pins σ H s) (d : Drawn) : Inv X pins σ H { s with drawn := d } :=
  I.step (h' := s.heap) (H' := H) (g' := s.gens) (t' := s.toks) (d' := d) (ch := []) (fun _ z => nomatch z) (fun b o _ _ _ e _ => e) (fun b o _ _ _ e _ => ⟨o.slots, e⟩) (fun _ _ _ _ n => n) (fun b o _ e => ⟨o, e⟩) (fun _ _ e => e) (fun _ _ _ e => e) (fun b ps e => ⟨#[], by rw [e]; simp⟩) (fun m h => h) I.hok I.bare
end SD
namespace SD
open PySem PySem.Spec PyProof.Rows L2
section
variable {P : Program} {w : World} {A : Around} {E : Value → Shared → Prop} {s : Shared} {a : Addr}
theorem walk_unseen1 {b r : Addr} {Sb Sr : Int → Bool} {nb nr : Nat} {Q : Array (Int × Value) → Shared → Prop} (Rb : SetR w s.heap b Sb nb) (Rr : SetR w s.heap r Sr nr)
    (h : ∀ out d, Outs Sb out → Q out { s with drawn := d }) : wpAny (model P w) A (setWalkUnseen b [r] none) Q E s := by
  obtain ⟨o, es, ep, t, ho, hex, hd, g, nd, m, hb, hf, hn, hr, hl⟩ := id Rb
  have oe : Outs Sb es := ⟨g, nd, m⟩
  unfold setWalkUnseen
  refine wpAny_bind (wpAny_setState_of ho hd hf ?_)
  dsimp only
  refine wpAny_bind (wpAny_byText ?_)
  split
  · exact walk_any ho hd hf hl fun out d p => h out d (oe.perm p)
  · refine wpAny_bind (quiet_sets (fun c hc => ?_) ?_)
    · have e' : c = b ∨ c = r := by simpa using hc
      rcases e' with rfl | rfl
      · exact ⟨_, _, Rb⟩
      · exact ⟨_, _, Rr⟩
    refine wp_if_neg (by decide) ?_
    refine wpAny_bind (wpAny_rule ?_)
    exact wpAny_pure (h es s.drawn oe)
theorem SetD.at {h h' : Heap} {S : Int → Bool} {n d : Nat} (R : SetD w h a S n d) (k : ∀ o, h.get? a = some o → h'.get? a = some o) : SetD w h' a S n d := by
  obtain ⟨o, es, ep, t, ho, r⟩ := R
  exact ⟨o, es, ep, t, k o ho, r⟩
theorem forIn_disc {M : Model} {r : Addr} {F : Int × Value → PUnit → Sem (ForInStep PUnit)} {B : Heap → Prop} (hB : ∀ h h', B h → Heap.SameBut r h h' → B h')
    (hF : ∀ (e : Int × Value) (s : Shared) (S0 : Int → Bool) (n0 d0 : Nat) (Q' : ForInStep PUnit → Shared → Prop), GoodE e → B s.heap → SetD w s.heap r S0 n0 d0 →
      (∀ h' n1, Heap.SameBut r s.heap h' → n1 ≤ n0 → SetD w h' r (fun k => S0 k && !decide (k = keyOf e)) n1 (d0 + 1) → Q' (.yield PUnit.unit) { s with heap := h' }) → wpAny M A (F e PUnit.unit) Q' E s) :
    ∀ (l : List (Int × Value)) (s : Shared) (S0 : Int → Bool) (n0 d0 : Nat) (Q : PUnit → Shared → Prop), (∀ e ∈ l, GoodE e) → B s.heap → SetD w s.heap r S0 n0 d0 →
      (∀ h' n1, Heap.SameBut r s.heap h' → n1 ≤ n0 → SetD w h' r (fun k => S0 k && !decide (k ∈ l.map keyOf)) n1 (d0 + l.length) → Q PUnit.unit { s with heap := h' }) → wpAny M A (forIn l PUnit.unit F) Q E s
  | [], s, S0, n0, d0, Q, _, _, R, h => by
    refine wpAny_pure (h s.heap n0 (Heap.SameBut.refl _ _) (Nat.le_refl _) (SetD.cong R fun k => ?_))
    simp
  | e :: l, s, S0, n0, d0, Q, hg, hb, R, h => by
    rw [List.forIn_cons]
    refine wpAny_bind (hF e s S0 n0 d0 _ (hg e List.mem_cons_self) hb R fun h1 n1 sb1 le1 R1 => ?_)
    refine forIn_disc hB hF l _ _ n1 (d0 + 1) Q (fun x hx => hg x (List.mem_cons_of_mem _ hx)) (hB _ _ hb sb1) R1 fun h2 n2 sb2 le2 R2 => ?_
    refine h h2 n2 (sb1.trans sb2) (by omega) ?_
    rw [List.length_cons, show d0 + (l.length + 1) = d0 + 1 + l.length by omega]
    refine SetD.cong R2 fun k => ?_
    cases S0 k <;> by_cases z1 : k = keyOf e <;> by_cases z2 : k ∈ l.map keyOf <;> simp [z1, z2]
theorem diff_copy {b : Addr} {S Sb : Int → Bool} {n nb : Nat} {nm : String} {Q : Value → Shared → Prop} (Ra : SetR w s.heap a S n) (Rb : SetR w s.heap b Sb nb) (big : nb < n / 4) (n8 : 8 ≤ n) (n15 : n ≤ 15)
    (h : ∀ h' d n1, (∀ c o, s.heap.get? c = some o → h'.get? c = some o) → n1 ≤ n → SetR w h' s.heap.objs.size (fun k => S k && !Sb k) n1 → Q (.ref s.heap.objs.size) { s with heap := h', drawn := d }) :
    wpAny (model P w) A (Builtin.Frozenset.difference nm a (.ref b)) Q E s := by
  unfold Builtin.Frozenset.difference
  refine wpAny_bind (any_set Rb ?_)
  simp only [Bool.not_true, Bool.false_eq_true, if_false, Bool.false_and, if_true]
  refine wpAny_bind (wpAny_of_eq (a := b) rfl ?_)
  refine wpAny_bind (size_set Rb ?_)
  refine wpAny_bind (size_set Ra ?_)
  refine wp_if_pos (by omega) ?_
  refine wpAny_bind (wpAny_rule ?_)
  refine wpAny_bind ?_
  unfold Builtin.Frozenset.copyOf
  refine wpAny_bind (base_set Ra ?_)
  refine wpAny_bind (PpSet.newSet_ok ?_)
  refine wpAny_bind (wpAny_of_eq (a := s.heap.objs.size) rfl ?_)
  have kp : ∀ c o, s.heap.get? c = some o → (s.heap.push { cls := .type "set", dict := none, data := .set #[] 0 (.fresh 0 0 (!w.params.followText "set-order")) }).get? c = some o := fun c o e => Heap.get?_push_of_some _ e
  have hr0 : (s.heap.push { cls := .type "set", dict := none, data := .set #[] 0 (.fresh 0 0 (!w.params.followText "set-order")) }).get? s.heap.objs.size = some { cls := .type "set", dict := none, data := .set #[] 0 (.fresh 0 0 (!w.params.followText "set-order")) } := by
    obtain ⟨o, es, ep, t, ho, hex, hd, _⟩ := setR_fresh (h := s.heap) w
    first | exact Heap.get?_push_self _ _ | simp [Heap.get?, Heap.push]
  have ar : a ≠ s.heap.objs.size := Nat.ne_of_lt Ra.lt
  have br : b ≠ s.heap.objs.size := Nat.ne_of_lt Rb.lt
  have Ra1 := Ra.at (h' := s.heap.push { cls := .type "set", dict := none, data := .set #[] 0 (.fresh 0 0 (!w.params.followText "set-order")) }) fun o e => kp _ o e
  have Rb1 := Rb.at (h' := s.heap.push { cls := .type "set", dict := none, data := .set #[] 0 (.fresh 0 0 (!w.params.followText "set-order")) }) fun o e => kp _ o e
  generalize s.heap.push { cls := .type "set", dict := none, data := .set #[] 0 (.fresh 0 0 (!w.params.followText "set-order")) } = h0 at kp Ra1 Rb1 hr0
  refine wpAny_bind (merge_into (s := { s with heap := h0 }) Ra1 ar.symm n8 n15 hr0 ⟨rfl, rfl, rfl⟩ rfl rfl rfl rfl ?_ fun h1 sb1 D1 => ?_)
  · show _ ∨ (!w.params.followText "set-order") = true
    cases w.params.followText "set-order"
    · exact .inr rfl
    · exact .inl rfl
  refine wpAny_pure ?_
  refine wpAny_bind (wpAny_of_eq (a := s.heap.objs.size) rfl ?_)
  have Rb2 : SetR w h1 b Sb nb := Rb1.at fun o e => (sb1.2 b br).trans e
  refine wpAny_bind (wpAny_holding ?_)
  unfold Builtin.Frozenset.differenceUpdate
  refine wp_if_neg (by simpa using br) ?_
  refine wpAny_bind (any_set (s := { s with heap := h1 }) Rb2 ?_)
  simp only [if_true]
  refine wpAny_bind (wpAny_of_eq (a := b) rfl ?_)
  refine wpAny_bind (size_set (s := { s with heap := h1 }) Rb2 ?_)
  refine wpAny_bind (size_set (s := { s with heap := h1 }) D1.R ?_)
  refine wp_if_neg (by omega) ?_
  obtain ⟨ob, eb, epb, tb, hob, hexb, hdb, gb, ndb, mb, hbb, hfb, hnb, hrb, hlb⟩ := id Rb2
  refine wpAny_bind ?_
  unfold setEpoch
  refine wpAny_bind (wpAny_setState_of (s := { s with heap := h1 }) hob hdb hfb (wpAny_pure ?_))
  refine wpAny_bind (wpAny_holding ?_)
  refine wpAny_bind (walk_unseen1 (s := { s with heap := h1 }) Rb2 D1.R fun out d oo => ?_)
  have ol : out.toList.length = nb := by
    have p : (out.toList.map keyOf).Perm (eb.toList.map keyOf) := (List.perm_ext_iff_of_nodup oo.2.1 ndb).mpr fun k => (oo.2.2 k).symm.trans (mb k)
    have := p.length_eq
    rw [List.length_map, List.length_map, Array.length_toList, Array.length_toList] at this
    rw [Array.length_toList, this, hnb]
  refine wpAny_bind ?_
  rw [← Array.forIn_toList]
  refine forIn_disc (r := s.heap.objs.size) (B := fun hh => hh.get? b = some ob) (fun x y hx sb => (sb.2 b br).trans hx) ?_ out.toList _ S n 0 _ oo.1 hob D1 fun h2 n1 sb2 le2 D2 => ?_
  · intro e s' S0 n0 d0 Q' ge hB D0 hQ
    obtain ⟨k, tk, e2, e1⟩ := ge
    obtain ⟨eh, ev⟩ := e
    dsimp only at e1 e2
    subst e1
    subst e2
    have ek : keyOf (hashInt k, Value.int k tk) = k := rfl
    rw [ek] at hQ
    refine wpAny_bind (wpAny_holding ?_)
    refine disc_at D0 fun bb h' n' sb le D' => ?_
    unfold Builtin.Frozenset.unchanged setEpoch
    refine wpAny_bind (wpAny_bind (wpAny_bind (wpAny_setState_of (s := { s' with heap := h' }) ((sb.2 b br).trans hB) hdb hfb (wpAny_pure ?_))))
    exact wp_if_neg (by simp) (wpAny_pure (wpAny_pure (hQ h' n' sb le D')))
  · refine wpAny_pure ?_
    obtain ⟨o, es, ep, t, ho, hex, hd, g, nd, m, hb, hf, hn, hr, hl, mk, dm⟩ := id D2
    unfold setTidy
    refine wpAny_bind (wpAny_setState_of (s := { s with heap := h2, drawn := d }) ho hd hf ?_)
    dsimp only
    refine wp_if_neg ?_ (wpAny_pure (wpAny_pure ?_))
    · unfold SetTable.tooManyDummies
      rw [mk]
      simp
      omega
    refine h h2 d n1 (fun c oc ec => ?_) le2 (SetR.cong D2.R fun k => ?_)
    · have cr : c ≠ s.heap.objs.size := Nat.ne_of_lt (Heap.lt_size ec)
      exact (sb2.2 c cr).trans ((sb1.2 c cr).trans (kp c oc ec))
    · have := oo.2.2 k
      by_cases z : k ∈ out.toList.map keyOf
      · rw [this.mpr z, decide_eq_true z]
      · have sk : Sb k = false := by
          cases y : Sb k with
          | false => rfl
          | true => exact (z (this.mp y)).elim
        rw [sk, decide_eq_false z]
end
/-- set - set, of ints, the first not more than four times as large, or with at most 15 and the other not empty -/
def rSubJ (w : World) : R2 := fun x y H Q => ∃ (a b : Addr) (S Sb : Int → Bool) (n nb : Nat), x = .ref a ∧ y = .ref b ∧ H a = some (SetO w a S n) ∧ H b = some (SetO w b Sb nb) ∧ (n / 4 ≤ nb ∨ 1 ≤ nb ∧ n ≤ 15) ∧
  ∀ (p : Addr) (n1 : Nat), H p = none → n1 ≤ n → (n1 = 0 ↔ ∀ k, (S k && !Sb k) = false) → Q (.ref p) (upd H p (SetO w p (fun k => S k && !Sb k) n1))
theorem op_subJ {X : Cx} : OpR X (binaryOp .Sub) (rSubJ X.w) := by
  intro pins s σ H x y v u Q I rx ry h
  obtain ⟨a, b, S, Sb, n, nb, rfl, rfl, ha, hb, few, q⟩ := h
  cases rx
  cases ry
  have Ra := setO_get I ha
  have Rb := setO_get I hb
  refine wpAny_binaryOp_same (type_set Ra) (type_set Rb) F.fills_set_sub F.slot_set_sub ?_
  refine wpAny_call_entry F.slot_set_sub (type_set Ra) entry_sub ?_ (F.args_set_sub_2 _ _)
  refine wpAny_bind (m := Builtin.Frozenset.slot1 "__sub__" ⟨[.ref a, .ref b], []⟩) (wpAny_of_eq (a := (Value.ref a, Value.ref b)) rfl ?_)
  refine wpAny_bind (wpAny_bind (any_set Ra (any_set Rb ?_)))
  refine wp_if_neg (by decide) ?_
  refine wpAny_bind (wpAny_of_eq (a := a) rfl ?_)
  have fin : ∀ h' d n1, (∀ c o, s.heap.get? c = some o → h'.get? c = some o) → n1 ≤ n → SetR X.w h' s.heap.objs.size (fun k => S k && !Sb k) n1 → _ := fun h' d n1 kp le R' => by
    have J : Inv X pins σ (upd H s.heap.objs.size (SetO X.w s.heap.objs.size (fun k => S k && !Sb k) n1)) { s with heap := h' } := I.laid (t' := s.toks) kp (Nat.le_refl _) (setO_new R')
    exact (⟨.ref s.heap.objs.size, _, inv_drawn J d, rfl, q _ n1 (I.hok.fresh (Nat.le_refl _)) le (none_left R')⟩ : ∃ z H', Inv X pins σ H' { s with heap := h', drawn := d } ∧ RelV z (.ref s.heap.objs.size) ∧ Q z H')
  by_cases sm : n / 4 ≤ nb
  · refine wpAny_bind (diff_any Ra Rb sm fun h' d n1 kp le R' => ?_)
    exact wpAny_pure ⟨_, rfl, (by simp), fin h' d n1 kp le R'⟩
  · have f2 := few.resolve_left sm
    refine wpAny_bind (diff_copy Ra Rb (by omega) (by omega) f2.2 fun h' d n1 kp le R' => ?_)
    exact wpAny_pure ⟨_, rfl, (by simp), fin h' d n1 kp le R'⟩
end SD
namespace SC
open PySem PySem.Spec PyProof.Rows L2
theorem addT {P : Program} {w : World} {A : Around} {E : Value → Shared → Prop} {s : Shared} {a : Addr} {L : List (Addr × List Int)} {es : Array (Int × Value)} {ep : Nat} {t : SetTable} (R : SetTR P w s.heap a L es ep t) {x : Addr} {k : List Int} (hx : IsT P w s.heap k x) (hu : A.units + 64 < cLine) (hfew : L.length + 1 < 64) {Q : Value → Shared → Prop}
    (hQ : ∀ h' tk L' es' ep' t', Heap.SameBut a s.heap h' → SetTR P w h' a L' es' ep' t' → (k ∈ L.map (·.2) → L' = L) → (k ∉ L.map (·.2) → L'.Perm ((x, k) :: L)) → Q .none { s with heap := h', toks := tk }) :
    wpAny (model P w) A (call (.builtin "set.add") [.ref a, .ref x]) Q E s := by
  obtain ⟨o, ho, hex, hd⟩ := R.ob
  refine wpAny_call_entry F.slot_set_add ⟨o, ho, hex.1⟩ F.entry_set_add ?_ (F.args_set_add_2 _ _)
  unfold Builtin.«set.add» Builtin.Frozenset.oneOther
  simp only [List.isEmpty_nil, bind_assoc]
  unfold Builtin.Frozenset.addrOf setAdd
  refine wpAny_bind (wpAny_pure ?_)
  try dsimp only
  refine wpAny_bind (wpAny_pure ?_)
  try dsimp only
  refine wpAny_bind ?_
  refine wpAny_holding ?_
  refine wpAny_bind (wpAny_pyHash_tuple (by show A.units + 1 < _; omega) hx ?_)
  refine add_at (s := { s with toks := s.toks + (k.length + 1) }) R hx (by show A.units + 1 < _; omega) hfew fun b h' L' es' ep' t' sb R' c1 c2 => ?_
  show wpAny _ _ (ret Value.none) _ _ _
  exact wpAny_pure ⟨_, rfl, hQ h' _ L' es' ep' t' sb R' c1 c2⟩
/-- what stands at the place of a set while it is filled, and what one more member makes of it -/
structure FamP (α κ : Type) where
  ob : Program → World → Addr → α → HO
  ini : α
  new : ∀ (P : Program) (w : World) (H : Hp) (h : Heap), ObjOk P w H (h.push (bareS w)) h.objs.size (ob P w h.objs.size ini)
  pre : PySem.W.Frag → Around → Hp → α → V → κ → Prop
  post : α → V → κ → α → Prop
  add : ∀ {X : Cx} {pins : List (Addr × Obj)} {σ : L2.St} {H : Hp} {s : Shared} {E : Value → Shared → Prop} {D : Addr} {a : α} {y : V} {z : κ} {v : Value} {Q : Value → Shared → Prop}, Inv X pins σ H s → H D = some (ob X.prog X.w D a) → pre X.K X.A H a y z → RelV y v →
    (∀ b s', post a y z b → Inv X pins σ (upd H D (ob X.prog X.w D b)) s' → Q .none s') → wpAny (model X.prog X.w) X.A (call (.builtin "set.add") [.ref D, v]) Q E s
section
variable {X : Cx} {α κ : Type}
def tSP (F : FamP α κ) (P : Program) (w : World) (K : PySem.W.Frag) (A : Around) (wi : TI) (g : TG) (tt : TT) (te : TE) (vs : List Nat) : TE := fun σ H Q => wi σ H fun J H1 => ∀ D, H1 D = none → ∃ W : Nat → Nat → Hp → Prop, (∃ m, W 0 m (upd H1 D (F.ob P w D F.ini))) ∧
  ∀ i m H, W i m H → (J.stop i H ∧ Q (.ref D) H) ∨ (J.go i H ∧ ∃ Nx : Hp → Prop, (∀ H', Nx H' → ∃ m', m' < m ∧ W (i + 1) m' H') ∧ ∀ x H', J.yld i H x H' → g x (wipe σ vs) H' fun σ2 H2 => wipe σ2 vs = wipe σ vs ∧ tt σ2 H2 fun b H3 =>
    if b = true then te σ2 H3 fun y H4 => ∃ (c : α) (z : κ), H4 D = some (F.ob P w D c) ∧ F.pre K A H4 c y z ∧ ∀ c', F.post c y z c' → Nx (upd H4 D (F.ob P w D c')) else Nx H3)
theorem coreP (F : FamP α κ) {pins : List (Addr × Obj)} {s : Shared} {σ : L2.St} {H : Hp} {Q : VK} {elt tg iter : Expr} {ifs : List Expr} {scope : Scope} {own : List (PySem.Str × Nat)} {pos pos' : Pos} {wi : TI} {g : TG} {tt : TT} {te : TE} {Qf : Value → Shared → Prop} {use : Option (Value → Sem Unit)}
    (calm : X.calm = true) (nd : X.N.Nodup) (I0 : Inv X pins σ H s) (walk : PI X tg iter wi) (bo : BlkOk X.N X.env.scope scope own)
    (aim : ∀ s H C cl fp, PG (X.blk s H scope (compEnvC scope cl C X.env) fp) tg g) (tst : ∀ s H C cl fp, PTs (X.blk s H scope (compEnvC scope cl C X.env) fp) ifs tt)
    (val : ∀ s H C cl fp, PE (X.blk s H scope (compEnvC scope cl C X.env) fp) elt te) (plain : ∀ x, foldedSetIterable iter X.env x = pure x)
    (ask : tSP F X.prog X.w X.K X.A wi g tt te (own.map (·.2)) σ H Q)
    (out : ∀ D C s' m H', Inv X pins σ H' s' → Q (.ref D) H' → s'.heap.Ns C m → FpOk X pins H' C → compPost (model X.prog X.w) X.A X.xe use Qf (.ref D) C (.ok .next) s') :
    wpAny (model X.prog X.w) X.A (comprehension (.SetComp elt [⟨tg, iter, ifs, 0⟩] scope pos) scope X.env pos' (newSet (.type "set")) false (eval iter X.env) use) Qf X.xe s := by
  have clo : ∀ y ∈ scope.names, y.2 = .free → ∃ c, X.env.cells.lookup y.1 = some c := fun y my ey => by
    rcases bo.free y my ey with z | z
    · exact I0.ok.has _ (.inl z)
    · exact I0.ok.has _ (.inr z)
  refine wpAny_comprehension_free (use := use) rfl plain (closure_ok clo) bo.kind (fun y my ey => by rw [bo.uniq y my, ey]) (thn (walk.run pins s σ H _ I0 ask) fun v0 sa ha => thn ha fun v1 sb hb => ?_)
  obtain ⟨itA, fp, tn, J, Hb, rfl, Ib, Tn, stb, fpb, qb⟩ := hb
  refine PpSet.newSet_ok (newEnv_comp ?_)
  obtain ⟨D, eD⟩ : ∃ D, D = sb.heap.objs.size := ⟨_, rfl⟩
  have freeD : Hb D = none := Ib.hok.fresh (Nat.le_of_eq eD.symm)
  obtain ⟨W, ⟨m0, w0⟩, turn⟩ := qb D freeD
  obtain ⟨sc, esc⟩ : ∃ sc : Shared, sc = { sb with heap := sb.heap.push (bareS X.w) } := ⟨_, rfl⟩
  have Ic : Inv X pins σ (upd Hb D (F.ob X.prog X.w D F.ini)) sc := by
    rw [esc]
    refine Ib.laid (t' := sb.toks) (fun b o e => Heap.get?_push_of_some _ e) (Nat.le_of_eq eD.symm) ?_
    rw [eD]
    exact F.new _ _ _ _
  have hc : sc.heap = sb.heap.push (bareS X.w) := by rw [esc]
  have below : ∀ b ∈ fp, b < sb.heap.objs.size := fun b mb => by
    obtain ⟨o, e, _⟩ := Tn.obj _ _ stb b mb
    exact Heap.lt_size e
  have fpc : ∀ b ∈ fp, FpOk X pins (upd Hb D (F.ob X.prog X.w D F.ini)) b ∧ b < sc.heap.objs.size := fun b mb => by
    have lt := below b mb
    refine ⟨⟨?_, (fpb b mb).2⟩, by rw [hc, Heap.size_push]; exact Nat.lt_succ_of_lt lt⟩
    rw [upd_ne (by rw [eD]; exact Nat.ne_of_lt lt)]
    exact (fpb b mb).1
  have stc : tn 0 sc.heap := Tn.keep _ _ _ stb fun b _ o e => by rw [hc]; exact Heap.get?_push_of_some _ e
  have Id := block_start Ic bo nd fpc
  have hereG := aim sc (upd Hb D (F.ob X.prog X.w D F.ini)) sc.heap.objs.size (cellsFrom (sc.heap.objs.size + 1) scope.names (cloFrom X.env.cells scope.names [])) fp
  have hereT := tst sc (upd Hb D (F.ob X.prog X.w D F.ini)) sc.heap.objs.size (cellsFrom (sc.heap.objs.size + 1) scope.names (cloFrom X.env.cells scope.names [])) fp
  have hereE := val sc (upd Hb D (F.ob X.prog X.w D F.ini)) sc.heap.objs.size (cellsFrom (sc.heap.objs.size + 1) scope.names (cloFrom X.env.cells scope.names [])) fp
  rw [← eD, ← esc]
  have offH : ∀ b ∈ fp, (upd Hb D (F.ob X.prog X.w D F.ini)) b = none := fun b mb => (fpc b mb).1.1
  show codeAny _ _ (.compStart (.SetComp elt [⟨tg, iter, ifs, 0⟩] scope pos) 0 (.ref itA) (.ref D) (compEnvC scope (cellsFrom (sc.heap.objs.size + 1) scope.names (cloFrom X.env.cells scope.names [])) sc.heap.objs.size X.env)) _ { sc with heap := pushCells (sc.heap.push { cls := .type "dict", data := .dict #[] }) scope.names }
  generalize hce : compEnvC scope (cellsFrom (sc.heap.objs.size + 1) scope.names (cloFrom X.env.cells scope.names [])) sc.heap.objs.size X.env = ce at Id hereG hereT hereE ⊢
  have locs : ce.locals = sc.heap.objs.size := by subst hce; rfl
  generalize upd Hb D (F.ob X.prog X.w D F.ini) = Hc at Ic Id hereG hereT hereE w0 offH fpc
  generalize hsd : ({ sc with heap := pushCells (sc.heap.push { cls := .type "dict", data := .dict #[] }) scope.names } : Shared) = sd at Id ⊢
  have std : tn 0 sd.heap := Tn.keep _ _ _ stc fun b _ o e => by rw [← hsd]; exact pushCells_keeps _ _ _ _ (Heap.get?_push_of_some _ e)
  have own1 : ∀ {σ' : L2.St} {H' : Hp} {s' : Shared}, Inv (X.blk sc Hc scope ce fp) [] σ' H' s' → (∀ b ∈ fp, H' b = none) → ∀ b ∈ fp, FpOk (X.blk sc Hc scope ce fp) [] H' b := fun {_ H' _} Ie off b mb =>
    ⟨off b mb, (Ie.ok.exf b mb).1, Ie.ok.exfs b mb, .inl mb, fun x c e => (Ie.ok.exf b mb).2 x c e, fun p hp => absurd (show p ∈ ([] : List (Addr × Obj)) ++ [] from hp) (by simp)⟩
  have loop : codeAny (model X.prog X.w) X.A (.compLoop (.SetComp elt [⟨tg, iter, ifs, 0⟩] scope pos) 0 (.ref itA) (.ref D) ce) (compPost (model X.prog X.w) X.A X.xe use Qf (.ref D) sc.heap.objs.size) sd := by
    refine PpSet.compLoopS_any (fun k st => ∃ i He, Inv (X.blk sc Hc scope ce fp) [] (wipe σ (own.map (·.2))) He st ∧ tn i st.heap ∧ (∀ b ∈ fp, He b = none) ∧ W i k He) ?_ m0 ⟨0, Hc, Id, std, offH, w0⟩
    rintro k se ⟨i, He, Ie, ste, offe, we⟩
    rcases turn i k He we with ⟨atEnd, fin⟩ | ⟨onward, Nx, back, next⟩
    · refine thnF (Tn.done (X.blk sc Hc scope ce fp) rfl rfl rfl calm i [] se _ He (fun _ _ => False) Ie (own1 Ie offe) ste atEnd) fun r sf ⟨er, If⟩ => ?_
      subst er
      have Ig : Inv X pins σ He sf := Ic.call' (ch := fp) If.os If.base If.hok If.bare fun b mb => ⟨(fpc b mb).1.2.2.2.1, (fpc b mb).1.2.1, (fpc b mb).1.2.2.2.2.1, (fpc b mb).1.2.2.2.2.2⟩
      have noC : He sc.heap.objs.size = none := locs ▸ (show He ce.locals = none from If.free)
      obtain ⟨nm, nsf, _⟩ := If.loc
      have nsf : sf.heap.Ns sc.heap.objs.size nm := locs ▸ (show sf.heap.Ns ce.locals nm from nsf)
      exact out D sc.heap.objs.size sf nm He Ig fin nsf (Ic.fpOk (Nat.le_refl _) noC)
    · refine thnF (Tn.item (X.blk sc Hc scope ce fp) rfl rfl rfl calm i [] se _ He (fun _ _ => False) Ie (own1 Ie offe) ste onward) fun r sf ⟨u, er, hf⟩ => ?_
      subst er
      refine thnF hf fun _ sg ⟨x, Hg, Ig, rg, yg, stg, offg⟩ => ?_
      refine thnF (hereG.run _ sg _ Hg x u _ (Ig.pinned (own1 Ig offg) (Tn.obj _ _ stg)) rg (next x Hg yg)) fun _ sh ⟨σh, Hh, Ih, wh, qh⟩ => ?_
      refine thnF (hereT.run _ sh σh Hh _ Ih qh) fun b si ⟨Hi, Ii, qi⟩ => ?_
      have over : ∀ {st : Shared} {Ht : Hp}, Inv (X.blk sc Hc scope ce fp) ([] ++ pinsAt fp sg.heap) σh Ht st → Nx Ht → ∃ m, m < k ∧ ∃ i He, Inv (X.blk sc Hc scope ce fp) [] (wipe σ (own.map (·.2))) He st ∧ tn i st.heap ∧ (∀ b ∈ fp, He b = none) ∧ W i m He := fun {st Ht} It nx => by
        obtain ⟨m1, lt1, w1⟩ := back Ht nx
        have held : ∀ b ∈ fp, ∀ o, sg.heap.get? b = some o → st.heap.get? b = some o ∧ Ht b = none := fun b mb o e =>
          have z := It.pin (b, o) (List.mem_append_right _ (List.mem_append_right _ (mem_pinsAt mb e)))
          ⟨z.1, z.2.1⟩
        have ln : (wipe σ (own.map (·.2))).length = σh.length := by rw [← wh, wipe_length]
        refine ⟨m1, lt1, i + 1, Ht, (It.unpinned (pins := [])).weak ln (fun j v e => ?_), Tn.keep _ _ _ stg fun b mb o e => (held b mb o e).1, fun b mb => ?_, w1⟩
        · rw [← wh] at e
          exact (wipe_some e).1
        · obtain ⟨o, e, _⟩ := Tn.obj _ _ stg b mb
          exact (held b mb o e).2
      cases b with
      | false =>
        rw [if_neg (by decide)] at qi ⊢
        exact over Ii qi
      | true =>
        rw [if_pos rfl] at qi ⊢
        refine thnF (hereE.run _ si σh Hi _ Ii qi) fun z sj ⟨yv, Hj, Ij, rj, c, zz, atD, pt, nx⟩ => ?_
        exact F.add (X := X.blk sc Hc scope ce fp) Ij atD pt rj fun c' sk pc Ik => over Ik (nx c' pc)
  exact PpSet.codeAny_compStart_set loop (Tn.self X.A 0 _ _ _ std loop)
/-- {elt for target in iter if ..} -/
theorem pe_setP (F : FamP α κ) {elt tg iter : Expr} {ifs : List Expr} {scope : Scope} {own : List (PySem.Str × Nat)} {pos : Pos} {wi : TI} {g : TG} {tt : TT} {te : TE} (calm : X.calm = true) (nd : X.N.Nodup) (walk : PI X tg iter wi) (bo : BlkOk X.N X.env.scope scope own)
    (aim : ∀ s H C cl fp, PG (X.blk s H scope (compEnvC scope cl C X.env) fp) tg g) (tst : ∀ s H C cl fp, PTs (X.blk s H scope (compEnvC scope cl C X.env) fp) ifs tt)
    (val : ∀ s H C cl fp, PE (X.blk s H scope (compEnvC scope cl C X.env) fp) elt te) (plain : ∀ x, foldedSetIterable iter X.env x = pure x := by intro _; rfl) :
    PE X (.SetComp elt [⟨tg, iter, ifs, 0⟩] scope pos) (tSP F X.prog X.w X.K X.A wi g tt te (own.map (·.2))) := by
  refine ⟨fun pins s σ H Q I0 ask => ?_⟩
  rw [PpSet.eval_SetComp]
  refine coreP F calm nd I0 walk bo aim tst val plain ask fun D C s1 m H1 I1 q hn fpC => ⟨m, hn, fun h2 sb => ?_⟩
  exact ⟨.ref D, H1, I1.turned (t' := s1.toks) (fun b o hb e => (sb.2 b hb).trans e) fpC.1 fpC.2.1 fpC.2.2.2.1 fpC.2.2.2.2.1 fpC.2.2.2.2.2, rfl, q⟩
end
/-- sets of tuples of ints, the tuples by their places -/
def famT : FamP (List (Addr × List Int)) (List Int) where
  ob := fun P w a L => SetTO P w a L
  ini := []
  new := fun P w H h => setTO_new (setTR_fresh (Heap.get?_push_size _ rfl)).t0
  pre := fun K A H L y k => ∃ x : Addr, y = .ref x ∧ SqT K H x (k.map V.int) ∧ (∀ p ∈ L, SqT K H p.1 (p.2.map V.int)) ∧ A.units + 64 < cLine ∧ L.length + 1 < 64
  post := fun L y k L' => ∃ x : Addr, y = .ref x ∧ (k ∈ L.map (·.2) → L' = L) ∧ (k ∉ L.map (·.2) → L'.Perm ((x, k) :: L))
  add := by
    intro X pins σ H s E D a y k v Q I hD pt rv q
    obtain ⟨x, rfl, hx, ht, hu, few⟩ := pt
    cases rv
    have R0 : SetT0 X.prog X.w s.heap D a := (I.hok D _ hD).1
    obtain ⟨es, ep, t, R⟩ := R0.full fun p hp => I.isT (ht p hp)
    refine addT R (I.isT hx) hu few fun h' tk L' es' ep' t' sb R' c1 c2 => q L' _ ⟨x, rfl, c1, c2⟩ ?_
    obtain ⟨o', ho', _⟩ := R'.ob
    exact I.write (e := D) (t' := tk) (by rw [hD]; trivial) (.inl rfl) (fun b u hb hu => (sb.2 b hb).trans hu) ⟨o', ho'⟩ (setTO_new R'.t0)
/-- len of a set of tuples -/
def rLenT (P : Program) (w : World) : List V → Hp → VK → Prop := fun xs H Q => ∃ (a : Addr) (L : List (Addr × List Int)), xs = [.ref a] ∧ H a = some (SetTO P w a L) ∧ Q (.int (L.length : Int)) H
theorem call_lenT {X : Cx} : CallR X (.builtin "len") (rLenT X.prog X.w) := by
  intro pins s σ H xs us Q I r h
  obtain ⟨a, L, rfl, ha, q⟩ := h
  rw [Vals.ref1 r]
  have R0 : SetT0 X.prog X.w s.heap a L := (I.hok a _ ha).1
  obtain ⟨es, ep, t, ⟨o, ho, hex, hd⟩, rows, tab, nd, pl, led, room, few⟩ := R0.ex
  have sz : es.size = L.length := by
    rw [← Array.length_toList, rows]
    simp [rowsOf]
  have hf : t.fits es.size = true := by
    have h1 := tab.sz
    rw [List.length_map] at h1
    unfold SetTable.fits SetTable.fill
    rw [tab.dm, Bool.and_eq_true, beq_iff_eq, decide_eq_true_eq]
    show t.place.size = es.size ∧ t.place.size + 0 ≤ t.mask
    omega
  exact PySem.call_len_set ho hex hd hf (by rw [sz]; omega) ⟨.int (L.length : Int), H, I.tok _, ⟨_, by rw [sz]⟩, q⟩
end SC
namespace CC
open PySem L2 TL
/-- {row[c] for row in rows} -/
theorem si_col {w : World} {K : PySem.W.Frag} {g : Addr} {us : List V} {rows : List (List Nat)} {m c cs : Nat} {σ : L2.St} {H : Hp} {D : Addr} {Qd : Hp → Prop} (hg : SqT K H g us) (dp : DpAll K H us (rows.map gd)) (ok : ∀ r ∈ rows, RowOk m r) (few : rows.length ≤ 400) (cm : c < m) (nD : H D = none)
    (hw : ∀ x : V, wipe ((wipe σ [5]).set 5 (some x)) [5] = wipe σ [5]) (hx : ∀ x : V, ((wipe σ [5]).set 5 (some x))[5]? = some (some x)) (hc : ∀ x : V, ((wipe σ [5]).set 5 (some x))[cs]? = some (some (.int (c : Int))))
    (q : ∀ H2, Same H (wo H2 D) → H2 D = some (SetO w D (memI (colN rows c)) (dn (colN rows c))) → Qd H2) :
    ∃ W : Nat → Nat → Hp → Prop, (∃ m, W 0 m (upd H D (SetO w D (fun _ => false) 0))) ∧ ∀ i m H, W i m H → ((Itt K g).stop i H ∧ Qd H) ∨ ((Itt K g).go i H ∧ ∃ Nx : Hp → Prop, (∀ H', Nx H' → ∃ m', m' < m ∧ W (i + 1) m' H') ∧ ∀ x H', (Itt K g).yld i H x H' → gName 5 x (wipe σ [5]) H' fun σ2 H2 => wipe σ2 [5] = wipe σ [5] ∧ tYes σ2 H2 fun b H3 =>
      if b = true then tOp (rIxT K) (tVar 5) (tVar cs) σ2 H3 fun y H4 => ∃ c c' : (Int → Bool) × Nat, H4 D = some (SetO w D c.1 c.2) ∧ (∃ k : Int, y = .int k ∧ c.2 + 1 < scanBound ∧ c' = (fun j => c.1 j || decide (j = k), if c.1 k = true then c.2 else c.2 + 1)) ∧ Nx (upd H4 D (SetO w D c'.1 c'.2)) else Nx H3) := by
  have ul : us.length = rows.length := by rw [dps_len dp, List.length_map]
  have cut : ∀ j, dn (colN (rows.take j) c) ≤ j := fun j => by
    have e : colN (rows.take j) c = (colN rows c).take j := by
      unfold colN
      rw [List.map_take]
    rw [e]
    exact dn_le _ j
  refine si_tup (xs := us) (fun j H2 => Same H (wo H2 D) ∧ H2 D = some (SetO w D (memI (colN (rows.take j) c)) (dn (colN (rows.take j) c))) ∧ j ≤ 400) ⟨?_, ?_, by omega⟩ (fun j H2 _ z => same_t (z.1.trans (wo_le D)) hg) ?_ ?_
  · rw [wo_upd]
    exact fun b o e => by rw [wo_ne (ne_of_none e nD)]; exact e
  · rw [upd_same]
    have e : memI (colN (rows.take 0) c) = fun _ => false := by
      funext k
      simp [memI, colN]
    have e' : dn (colN (rows.take 0) c) = 0 := by simp [dn, firsts, colN]
    rw [e, e']
  · rintro j v H2 hv ⟨f1, f2, f3⟩
    obtain ⟨r, hr2, dr⟩ := dps_gat dp hv
    have jl := (List.getElem?_eq_some_iff.mp hr2).1
    have rok := ok r (List.mem_of_getElem? hr2)
    obtain ⟨t, rfl, ht⟩ := gd_at dr
    have s2 : Same H H2 := f1.trans (wo_le D)
    have gx : (nms r)[c]? = some (.int ((r.getD c 0 : Nat) : Int)) := by
      rw [nms, List.getElem?_map, List.getD_eq_getElem?_getD, List.getElem?_eq_getElem (by rw [rok.1]; exact cm)]
      rfl
    have room : dn (colN (rows.take j) c) + 1 < scanBound := by
      have := cut j
      unfold scanBound
      omega
    refine ⟨hw _, yes_if ⟨_, hx _, _, hc _, t, _, _, _, rfl, rfl, same_t s2 ht, atI_nat gx, (memI (colN (rows.take j) c), dn (colN (rows.take j) c)), _, f2, ⟨_, rfl, room, rfl⟩, ?_, ?_, by omega⟩⟩
    · rw [wo_upd]
      exact f1
    · rw [upd_same]
      show some (SetO w D (fun j' => memI (colN (rows.take j) c) j' || decide (j' = ((r.getD c 0 : Nat) : Int))) (if memI (colN (rows.take j) c) ((r.getD c 0 : Nat) : Int) = true then dn (colN (rows.take j) c) else dn (colN (rows.take j) c) + 1)) = _
      rw [memI_snoc, colN_take hr2, dn_snoc, memI_at]
      by_cases e : r.getD c 0 ∈ colN (rows.take j) c
      · rw [decide_eq_true e, if_pos rfl, if_pos e]
      · rw [decide_eq_false e, if_neg (by decide), if_neg e]
  · rintro H2 ⟨f1, f2, _⟩
    rw [ul, List.take_length] at f2
    exact q H2 f1 f2
end CC
namespace CC
open PySem L2 TL
/-- a set comprehension over a tuple, by a family of sets -/
theorem sp_tup {α κ : Type} (F : SC.FamP α κ) {P : Program} {w : World} {A : Around} {K : PySem.W.Frag} {a : Addr} {xs : List V} {g : TG} {tt : TT} {te : TE} {vs : List Nat} {σ : L2.St} {H1 : Hp} {D : Addr} {Qd : Hp → Prop} (Pv : Nat → Hp → Prop) (h0 : Pv 0 (upd H1 D (F.ob P w D F.ini))) (hl : ∀ i H, i ≤ xs.length → Pv i H → SqT K H a xs)
    (hs : ∀ i x H, xs[i]? = some x → Pv i H → g x (wipe σ vs) H fun σ2 H2 => wipe σ2 vs = wipe σ vs ∧ tt σ2 H2 fun b H3 => if b = true then te σ2 H3 fun y H4 => ∃ (c : α) (z : κ), H4 D = some (F.ob P w D c) ∧ F.pre K A H4 c y z ∧ ∀ c', F.post c y z c' → Pv (i + 1) (upd H4 D (F.ob P w D c')) else Pv (i + 1) H3) (hd : ∀ H, Pv xs.length H → Qd H) :
    ∃ W : Nat → Nat → Hp → Prop, (∃ m, W 0 m (upd H1 D (F.ob P w D F.ini))) ∧ ∀ i m H, W i m H → ((Itt K a).stop i H ∧ Qd H) ∨ ((Itt K a).go i H ∧ ∃ Nx : Hp → Prop, (∀ H', Nx H' → ∃ m', m' < m ∧ W (i + 1) m' H') ∧ ∀ x H', (Itt K a).yld i H x H' → g x (wipe σ vs) H' fun σ2 H2 => wipe σ2 vs = wipe σ vs ∧ tt σ2 H2 fun b H3 =>
      if b = true then te σ2 H3 fun y H4 => ∃ (c : α) (z : κ), H4 D = some (F.ob P w D c) ∧ F.pre K A H4 c y z ∧ ∀ c', F.post c y z c' → Nx (upd H4 D (F.ob P w D c')) else Nx H3) := by
  refine ⟨fun i m H => m = xs.length - i ∧ i ≤ xs.length ∧ Pv i H, ⟨xs.length, by simp, Nat.zero_le _, h0⟩, ?_⟩
  rintro i m H ⟨rfl, hi, p⟩
  have q := hl i H hi p
  by_cases lt : i < xs.length
  · refine .inr ⟨⟨xs, xs[i], q, by simp [lt]⟩, Pv (i + 1), fun H' p' => ⟨xs.length - (i + 1), by omega, rfl, lt, p'⟩, fun x H' y => ?_⟩
    obtain ⟨e, y⟩ := y
    subst e
    exact hs i x _ (y xs q) p
  · have e : i = xs.length := by omega
    subst e
    exact .inl ⟨⟨xs, q, Nat.le_refl _⟩, hd H p⟩
end CC
namespace CC
open PySem L2 TL
theorem updS_T {P : Program} {w : World} {H : Hp} {l : Addr} {L : List (Addr × List Int)} {o : HO} (h : H l = some (SetTO P w l L)) : SameT H (upd H l o) := by
  constructor
  · intro b xs e
    rw [upd_ne (ne_of e h (by intro z; cases z))]
    exact e
  · intro b o xs e
    rw [upd_ne (ne_of e h (by intro z; cases z))]
    exact e
def pr2 (a b : Nat) (r : List Nat) : List Int := [((r.getD a 0 : Nat) : Int), ((r.getD b 0 : Nat) : Int)]
/-- {(row[a], row[b]) for row in rows} -/
theorem sp_pairs {P : Program} {w : World} {A : Around} {K : PySem.W.Frag} {g : Addr} {us : List V} {rows : List (List Nat)} {m a b ca cb : Nat} {σ : L2.St} {H : Hp} {D : Addr} {Qd : Hp → Prop} (hg : SqT K H g us) (dp : DpAll K H us (rows.map gd)) (ok : ∀ r ∈ rows, RowOk m r) (few : rows.length ≤ 60) (am : a < m) (bm : b < m) (nD : H D = none) (hu : A.units + 64 < cLine)
    (hw : ∀ x : V, wipe ((wipe σ [5]).set 5 (some x)) [5] = wipe σ [5]) (hx : ∀ x : V, ((wipe σ [5]).set 5 (some x))[5]? = some (some x)) (hca : ∀ x : V, ((wipe σ [5]).set 5 (some x))[ca]? = some (some (.int (a : Int)))) (hcb : ∀ x : V, ((wipe σ [5]).set 5 (some x))[cb]? = some (some (.int (b : Int))))
    (q : ∀ H2 (L : List (Addr × List Int)), Same H (wo H2 D) → H2 D = some (SetTO P w D L) → (L.map (·.2)).Nodup → (∀ k, k ∈ L.map (·.2) ↔ k ∈ rows.map (pr2 a b)) → Qd H2) :
    ∃ W : Nat → Nat → Hp → Prop, (∃ m, W 0 m (upd H D (SC.famT.ob P w D SC.famT.ini))) ∧ ∀ i m H, W i m H → ((Itt K g).stop i H ∧ Qd H) ∨ ((Itt K g).go i H ∧ ∃ Nx : Hp → Prop, (∀ H', Nx H' → ∃ m', m' < m ∧ W (i + 1) m' H') ∧ ∀ x H', (Itt K g).yld i H x H' → gName 5 x (wipe σ [5]) H' fun σ2 H2 => wipe σ2 [5] = wipe σ [5] ∧ tYes σ2 H2 fun b H3 =>
      if b = true then tTup (tCons (tOp (rIxT K) (tVar 5) (tVar ca)) (tCons (tOp (rIxT K) (tVar 5) (tVar cb)) tNil)) σ2 H3 fun y H4 => ∃ (c : List (Addr × List Int)) (z : List Int), H4 D = some (SC.famT.ob P w D c) ∧ SC.famT.pre K A H4 c y z ∧ ∀ c', SC.famT.post c y z c' → Nx (upd H4 D (SC.famT.ob P w D c')) else Nx H3) := by
  have ul : us.length = rows.length := by rw [dps_len dp, List.length_map]
  refine sp_tup SC.famT (xs := us) (fun j H2 => Same H (wo H2 D) ∧ ∃ L : List (Addr × List Int), H2 D = some (SetTO P w D L) ∧ (∀ p ∈ L, SqT K H2 p.1 (p.2.map V.int)) ∧ (L.map (·.2)).Nodup ∧ (∀ k, k ∈ L.map (·.2) ↔ k ∈ (rows.take j).map (pr2 a b)) ∧ L.length ≤ j) ⟨?_, [], upd_same, (fun p hp => by cases hp), List.nodup_nil, (fun k => by simp), Nat.le_refl _⟩ (fun j H2 _ z => same_t (z.1.trans (wo_le D)) hg) ?_ ?_
  · rw [wo_upd]
    exact fun b o e => by rw [wo_ne (ne_of_none e nD)]; exact e
  · rintro j v H2 hv ⟨f1, L, f2, f3, f4, f5, f6⟩
    obtain ⟨r, hr2, dr⟩ := dps_gat dp hv
    have jl := (List.getElem?_eq_some_iff.mp hr2).1
    have rok := ok r (List.mem_of_getElem? hr2)
    obtain ⟨t, rfl, ht⟩ := gd_at dr
    have s2 : Same H H2 := f1.trans (wo_le D)
    have gx : ∀ c, c < m → (nms r)[c]? = some (.int ((r.getD c 0 : Nat) : Int)) := fun c cm => by
      rw [nms, List.getElem?_map, List.getD_eq_getElem?_getD, List.getElem?_eq_getElem (by rw [rok.1]; exact cm)]
      rfl
    refine ⟨hw _, yes_if ⟨_, hx _, _, hca _, t, _, _, _, rfl, rfl, same_t s2 ht, atI_nat (gx a am), _, hx _, _, hcb _, t, _, _, _, rfl, rfl, same_t s2 ht, atI_nat (gx b bm), (by show 2 ≤ sizeLine; decide), fun t2 n2 => ?_⟩⟩
    have s3 : Same H2 (upd H2 t2 (.tup [.int ((r.getD a 0 : Nat) : Int), .int ((r.getD b 0 : Nat) : Int)])) := same_new n2
    have h3 : (upd H2 t2 (.tup [.int ((r.getD a 0 : Nat) : Int), .int ((r.getD b 0 : Nat) : Int)])) t2 = some (.tup ((pr2 a b r).map V.int)) := upd_same
    generalize upd H2 t2 (.tup [.int ((r.getD a 0 : Nat) : Int), .int ((r.getD b 0 : Nat) : Int)]) = H3 at s3 h3
    refine ⟨L, pr2 a b r, s3 _ _ f2, ⟨t2, rfl, .inl (.inl h3), fun p hp => same_t s3 (f3 p hp), hu, by omega⟩, ?_⟩
    rintro c' ⟨x, ex, c1, c2⟩
    cases ex
    have uT : SameT H3 (upd H3 D (SetTO P w D c')) := updS_T (s3 _ _ f2)
    refine ⟨?_, c', upd_same, ?_⟩
    · rw [wo_upd]
      exact f1.trans (wo_same s3)
    have tk : ∀ k, k ∈ (rows.take (j + 1)).map (pr2 a b) ↔ k ∈ (rows.take j).map (pr2 a b) ∨ k = pr2 a b r := fun k => by
      rw [take1 hr2, List.map_append, List.mem_append]
      simp
    by_cases e : pr2 a b r ∈ L.map (·.2)
    · rw [c1 e]
      refine ⟨fun p hp => sqt_T (c1 e ▸ uT) (same_t s3 (f3 p hp)), f4, fun k => ?_, by omega⟩
      rw [tk, ← f5]
      exact ⟨.inl, fun z => z.elim id fun z => z ▸ e⟩
    · have pm := c2 e
      refine ⟨fun p hp => ?_, ?_, fun k => ?_, ?_⟩
      · rcases List.mem_cons.mp (pm.mem_iff.mp hp) with z | z
        · rw [z]
          exact sqt_T uT (.inl (.inl h3))
        · exact sqt_T uT (same_t s3 (f3 p z))
      · exact (pm.map (·.2)).nodup_iff.mpr (List.nodup_cons.mpr ⟨e, f4⟩)
      · rw [tk, ← f5, (pm.map (·.2)).mem_iff, List.map_cons, List.mem_cons]
        exact ⟨fun z => z.elim .inr .inl, fun z => z.elim .inr .inl⟩
      · rw [pm.length_eq, List.length_cons]
        omega
  · rintro H2 ⟨f1, L, f2, f3, f4, f5, f6⟩
    rw [ul, List.take_length] at f5
    exact q H2 L f1 f2 f4 f5
/-! as many pairs as values: the column settles the other one -/
theorem subL_len : ∀ {α : Type} [BEq α] [LawfulBEq α] {u v : List α}, u.Nodup → (∀ x ∈ u, x ∈ v) → u.length ≤ v.length
  | _, _, _, [], _, _, _ => Nat.zero_le _
  | _, _, _, x :: u, v, h, s => by
    obtain ⟨h1, h2⟩ := List.nodup_cons.mp h
    have hx := s x List.mem_cons_self
    have := subL_len (u := u) (v := v.erase x) h2 fun y hy => (List.mem_erase_of_ne (a := y) (b := x) fun e => h1 (by rw [← e]; exact hy)).mpr (s y (List.mem_cons_of_mem _ hy))
    have l := List.length_erase_of_mem hx
    have : 0 < v.length := List.length_pos_of_mem hx
    rw [List.length_cons]
    omega
theorem pairs_iff {rows : List (List Nat)} {a b : Nat} {Ps : List (List Int)} (nd : Ps.Nodup) (mem : ∀ k, k ∈ Ps ↔ k ∈ rows.map (pr2 a b)) : Ps.length = dn (colN rows a) ↔ HoldsR rows ⟨true, a, b⟩ := by
  have hd : ∀ r : List Nat, ((pr2 a b r).headD 0).toNat = r.getD a 0 := fun r => rfl
  have inP : ∀ r ∈ rows, pr2 a b r ∈ Ps := fun r hr => (mem _).mpr (List.mem_map.mpr ⟨r, hr, rfl⟩)
  have cover : (firsts (colN rows a)).length ≤ (Ps.map fun p => (p.headD 0).toNat).length := sub_len (nodup_firsts _) fun v hv => by
    obtain ⟨r, hr, rfl⟩ := List.mem_map.mp (mem_firsts.mp hv)
    exact List.mem_map.mpr ⟨_, inP r hr, hd r⟩
  rw [List.length_map] at cover
  show _ ↔ ∀ x ∈ rows, ∀ y ∈ rows, y.getD a 0 = x.getD a 0 → y.getD b 0 = x.getD b 0
  constructor
  · intro h x hx y hy e
    refine Decidable.byContradiction fun ne => ?_
    have np : pr2 a b x ≠ pr2 a b y := fun z => by
      unfold pr2 at z
      injection z with _ z
      injection z with z _
      omega
    have := sub_len (v := (Ps.erase (pr2 a b y)).map fun p => (p.headD 0).toNat) (nodup_firsts (colN rows a)) fun v hv => by
      obtain ⟨r, hr, rfl⟩ := List.mem_map.mp (mem_firsts.mp hv)
      by_cases q : pr2 a b r = pr2 a b y
      · refine List.mem_map.mpr ⟨_, (List.mem_erase_of_ne np).mpr (inP x hx), ?_⟩
        rw [hd, ← e, ← hd y, ← q, hd]
      · exact List.mem_map.mpr ⟨_, (List.mem_erase_of_ne q).mpr (inP r hr), hd r⟩
    rw [List.length_map, List.length_erase_of_mem (inP y hy)] at this
    have p := List.length_pos_of_mem (inP y hy)
    unfold dn at h
    omega
  · intro h
    refine Nat.le_antisymm ?_ cover
    have := subL_len (v := (firsts (colN rows a)).map fun v => ((rows.find? fun s => s.getD a 0 == v).map (pr2 a b)).getD []) nd fun k hk => by
      obtain ⟨r, hr, rfl⟩ := List.mem_map.mp ((mem k).mp hk)
      refine List.mem_map.mpr ⟨r.getD a 0, mem_firsts.mpr (List.mem_map.mpr ⟨r, hr, rfl⟩), ?_⟩
      cases e : rows.find? (fun s => s.getD a 0 == r.getD a 0) with
      | none =>
        have := List.find?_eq_none.mp e r hr
        simp at this
      | some z =>
        have e0 := List.find?_some e
        have e1 : z.getD a 0 = r.getD a 0 := eq_of_beq e0
        have e2 := h r hr z (List.mem_of_find?_eq_some e) e1
        show pr2 a b z = pr2 a b r
        unfold pr2
        rw [e1, e2]
    rw [List.length_map] at this
    exact this
end CC
namespace CC
open PySem L2 TL
def spHo (K : PySem.W.Frag) : Sp := fun vs H Q _ => ∃ (g : Addr) (us : List V) (m : Nat) (rows : List (List Nat)) (v : V) (r : R), vs = [.ref g, v] ∧ SqT K H g us ∧ DpAll K H us (rows.map gd) ∧ (∀ x ∈ rows, RowOk m x) ∧ rows.length ≤ 15 ∧ Dp K H v r.d ∧ r.ok m ∧ ∀ (t : Bool) H', Same H H' → (t = true ↔ HoldsR rows r) → Q (.bl t) H'
theorem dn_pos {l : List Nat} {x : Nat} (h : x ∈ l) : 1 ≤ dn l := List.length_pos_of_mem (mem_firsts.mpr h)
theorem dn_len (l : List Nat) : dn l ≤ l.length := by
  have := dn_le l l.length
  rwa [List.take_length] at this
theorem within_iff {rows : List (List Nat)} {a b : Nat} : (∀ k, (memI (colN rows a) k && !memI (colN rows b) k) = false) ↔ HoldsR rows ⟨false, a, b⟩ := by
  show _ ↔ ∀ x ∈ rows, ∃ y ∈ rows, y.getD b 0 = x.getD a 0
  constructor
  · intro h x hx
    have z := h ((x.getD a 0 : Nat) : Int)
    have hm : x.getD a 0 ∈ colN rows a := List.mem_map.mpr ⟨x, hx, rfl⟩
    rw [memI_at, memI_at, decide_eq_true hm, Bool.true_and, Bool.not_eq_false', decide_eq_true_iff] at z
    obtain ⟨y, hy, e⟩ := List.mem_map.mp z
    exact ⟨y, hy, e⟩
  · intro h k
    cases z : memI (colN rows a) k with
    | false => rfl
    | true =>
      obtain ⟨n, hn, rfl⟩ := of_decide_eq_true z
      obtain ⟨x, hx, rfl⟩ := List.mem_map.mp hn
      obtain ⟨y, hy, e⟩ := h x hx
      have hm : x.getD a 0 ∈ colN rows b := List.mem_map.mpr ⟨y, hy, e⟩
      rw [memI_at, decide_eq_true hm]
      rfl
section
variable {P : Program} {w : World} {K : PySem.W.Frag} {mg : Str → Option Value} {base : Heap} {kA : Addr}
abbrev nHp : List Str := ["rows", "rule", "kind", "a", "b", "row"]
theorem scHo : FnScope nHp ["rows", "rule"] (defScope sHo) := ⟨rfl, rfl, rfl, by decide +kernel, rfl, by decide +kernel, by decide +kernel⟩
theorem ok_ho {f : Addr} {fd : FuncData} {k : Nat} (F : Fun K "holds" "holds" sHo f fd) (T : Glb K mg kA) : FnOk P w K mg base CX0 (k + 1) f fd ["rows", "rule"] (spHo K) := by
  refine F.ok scHo (fun vs H Q E h => ?_) (fun cdv A outer s H vs Q E hr h => ?_)
  · obtain ⟨g, us, m, rows, v, r, rfl, _⟩ := h
    rfl
  · obtain ⟨g, us, m, rows, v, r, rfl, hg, dp, ok, few, dr, hr2, q⟩ := h
    have n := scHo.nd
    refine ⟨_, (pss_cons (ps_asg (pv 1) (pg_tup rfl (pgs_cons (pg_name (i := 2) n rfl (.inl rfl)) (pgs_cons (pg_name (i := 3) n rfl (.inr rfl)) (pgs_cons (pg_name (i := 4) n rfl (.inr rfl)) pgs_nil)))))
      (pss_cons (ps_if (pt_cmpR op_eq (pv 2) pe_str (nomark _))
        (pss_one (ps_ret (pe_cmpR op_eq (pe_callB (r := rLenI w) call_lenI (by rfl) T.len PySem.boot_len (pa_cons (pe_op (r := SD.rSubJ w) SD.op_subJ
          (SC.pe_setI (own := [("row", 5)]) (g := gName 5) (tt := tYes) (te := tOp (rIxT K) (tVar 5) (tVar 3)) rfl n (pi_tup (pv 0)) (blkOk_by (N := nHp) (sc := defScope sHo) (by decide +kernel)) (fun _ _ _ _ _ => (pg_name (i := 5) n rfl (.inl rfl))) (fun _ _ _ _ _ => pts_nil) (fun _ _ _ _ _ => (pe_ix ix_tup (pv 5) (pv 3) (fun _ _ => rfl))))
          (SC.pe_setI (own := [("row", 5)]) (g := gName 5) (tt := tYes) (te := tOp (rIxT K) (tVar 5) (tVar 4)) rfl n (pi_tup (pv 0)) (blkOk_by (N := nHp) (sc := defScope sHo) (by decide +kernel)) (fun _ _ _ _ _ => (pg_name (i := 5) n rfl (.inl rfl))) (fun _ _ _ _ _ => pts_nil) (fun _ _ _ _ _ => (pe_ix ix_tup (pv 5) (pv 4) (fun _ _ => rfl))))) pa_nil)) pe_int (nomark _))))
        pss_nil)
      (pss_one (ps_ret (pe_cmpR op_eq (pe_callB (r := SC.rLenT P w) SC.call_lenT (by rfl) T.len PySem.boot_len (pa_cons (SC.pe_setP SC.famT (own := [("row", 5)]) (g := gName 5) (tt := tYes) (te := tTup (tCons (tOp (rIxT K) (tVar 5) (tVar 3)) (tCons (tOp (rIxT K) (tVar 5) (tVar 4)) tNil))) rfl n (pi_tup (pv 0)) (blkOk_by (N := nHp) (sc := defScope sHo) (by decide +kernel)) (fun _ _ _ _ _ => (pg_name (i := 5) n rfl (.inl rfl))) (fun _ _ _ _ _ => pts_nil) (fun _ _ _ _ _ => (pe_tup (pa_cons (pe_ix ix_tup (pv 5) (pv 3) (fun _ _ => rfl)) (pa_cons (pe_ix ix_tup (pv 5) (pv 4) (fun _ _ => rfl)) pa_nil))))) pa_nil))
        (pe_callB (r := rLenI w) call_lenI (by rfl) T.len PySem.boot_len (pa_cons (SC.pe_setI (own := [("row", 5)]) (g := gName 5) (tt := tYes) (te := tOp (rIxT K) (tVar 5) (tVar 3)) rfl n (pi_tup (pv 0)) (blkOk_by (N := nHp) (sc := defScope sHo) (by decide +kernel)) (fun _ _ _ _ _ => (pg_name (i := 5) n rfl (.inl rfl))) (fun _ _ _ _ _ => pts_nil) (fun _ _ _ _ _ => (pe_ix ix_tup (pv 5) (pv 3) (fun _ _ => rfl)))) pa_nil)) (nomark _)))))), ?_⟩
    obtain ⟨kk, a, b⟩ := r
    obtain ⟨tr, rfl, ht⟩ := dp_r dr
    have aw : a < m := hr2.1
    have bw : b < m := hr2.2.1
    refine ⟨_, rfl, tr, _, rfl, ht, rfl, _, _, rfl, _, _, rfl, _, _, rfl, rfl, ?_⟩
    cases kk with
    | false =>
      refine ⟨_, rfl, rfl, _, rfl, iteT' (decide_eq_true rfl) ?_⟩
      refine ⟨_, rfl, g, rfl, ⟨_, hg⟩, fun D nD => si_col (m := m) (c := a) (cs := 3) hg dp ok (by omega) aw nD (fun _ => rfl) (fun _ => rfl) (fun _ => rfl) fun H1 e1 e2 => ?_⟩
      have s1 : Same H H1 := e1.trans (wo_le D)
      refine ⟨_, rfl, g, rfl, ⟨_, same_t s1 hg⟩, fun D2 nD2 => si_col (m := m) (c := b) (cs := 4) (same_t s1 hg) (dps_same s1 _ _ dp) ok (by omega) bw nD2 (fun _ => rfl) (fun _ => rfl) (fun _ => rfl) fun H2 f1 f2 => ?_⟩
      have s2 : Same H1 H2 := f1.trans (wo_le D2)
      have la : dn (colN rows a) ≤ 15 := Nat.le_trans (dn_len _) (by unfold colN; rw [List.length_map]; exact few)
      have sm : dn (colN rows a) / 4 ≤ dn (colN rows b) ∨ 1 ≤ dn (colN rows b) ∧ dn (colN rows a) ≤ 15 := by
        cases rows with
        | nil => exact .inl (by simp [colN, dn, firsts])
        | cons x rows =>
          have hm : x.getD b 0 ∈ colN (x :: rows) b := List.mem_map.mpr ⟨x, List.mem_cons_self, rfl⟩
          exact .inr ⟨dn_pos hm, la⟩
      refine ⟨D, D2, _, _, _, _, rfl, rfl, s2 _ _ e2, f2, sm, fun p n1 np le iff => ?_⟩
      refine ⟨p, _, n1, rfl, upd_same, by omega, rfl, ?_⟩
      refine q _ _ (s1.trans (s2.trans (same_new np))) ?_
      rw [decide_eq_true_iff, ← within_iff, ← iff]
      exact ⟨fun h => by injection h with h; omega, fun h => by rw [h]; rfl⟩
    | true =>
      refine ⟨_, rfl, rfl, _, rfl, iteF' (decide_eq_false (show ¬ V.str (kd true) = V.str "within" by decide +kernel)) ?_⟩
      have hu64 : (A.deeper (PyProof.Rows.envOfC (Str.ofString "holds") (defScope sHo) s.heap.objs.size f cdv)).units + 64 < cLine := by
        have := hr.un
        omega
      refine ⟨_, rfl, g, rfl, ⟨_, hg⟩, fun D nD => sp_pairs (m := m) (a := a) (b := b) (ca := 3) (cb := 4) hg dp ok (by omega) aw bw nD hu64 (fun _ => rfl) (fun _ => rfl) (fun _ => rfl) (fun _ => rfl) fun H1 L e1 e2 nd mem => ?_⟩
      have s1 : Same H H1 := e1.trans (wo_le D)
      refine ⟨D, L, rfl, e2, ?_⟩
      refine ⟨_, rfl, g, rfl, ⟨_, same_t s1 hg⟩, fun D2 nD2 => si_col (m := m) (c := a) (cs := 3) (same_t s1 hg) (dps_same s1 _ _ dp) ok (by omega) aw nD2 (fun _ => rfl) (fun _ => rfl) (fun _ => rfl) fun H2 f1 f2 => ?_⟩
      have s2 : Same H1 H2 := f1.trans (wo_le D2)
      have la : dn (colN rows a) ≤ 15 := Nat.le_trans (dn_len _) (by unfold colN; rw [List.length_map]; exact few)
      refine ⟨D2, _, _, rfl, f2, by omega, rfl, ?_⟩
      refine q _ _ (s1.trans s2) ?_
      rw [decide_eq_true_iff, ← pairs_iff nd mem, List.length_map]
      exact ⟨fun h => by injection h with h; omega, fun h => by rw [h]⟩
end
end CC
namespace CC
open PySem L2 TL
/-! ### holds, of a list or a tuple of rows, few of them different -/
def iSeq (K : PySem.W.Frag) (tl : TE) : L2.TI := fun σ H R => tl σ H fun x H1 => ∃ a, x = .ref a ∧ (((∃ xs, SqL K H1 a xs) ∧ R (Itl K a) H1) ∨ ((∃ xs, SqT K H1 a xs) ∧ R (Itt K a) H1))
theorem pi_seq {X : Cx} {tg l : Expr} {tl : TE} (hl : PE X l tl) : PI X tg l (iSeq X.K tl) := by
  refine ⟨fun pins s σ H R I h => ?_⟩
  refine thn (hl.run pins s σ H _ I h) fun v s1 ⟨x, H1, I1, r1, q1⟩ => ?_
  obtain ⟨a, e, q1⟩ := q1
  subst e
  cases r1
  rcases q1 with ⟨⟨xs, hq⟩, q⟩ | ⟨⟨xs, hq⟩, q⟩
  · obtain ⟨its, rv, p, hz⟩ := I1.list hq
    refine wpAny_pyIter_list p.isList ?_
    refine ⟨s1.heap.objs.size, [s1.heap.objs.size], _, _, H1, rfl, I1.kept (t' := s1.toks) fun b o e => Heap.get?_push_of_some _ e, L2.turn_list a _, ⟨_, Heap.get?_push_size _ rfl, rfl, rfl⟩, fun b hb => ?_, q⟩
    have e : b = s1.heap.objs.size := by simpa using hb
    subst e
    exact I1.fpOk (Nat.le_refl _) (I1.hok.fresh (Nat.le_refl _))
  · obtain ⟨its, rv, p, hz⟩ := I1.tuple hq
    refine wpAny_pyIter_tuple (show s1.heap.IsTuple a its.toArray from p) ?_
    refine ⟨s1.heap.objs.size, [s1.heap.objs.size], _, _, H1, rfl, I1.kept (t' := s1.toks) fun b o e => Heap.get?_push_of_some _ e, L2.turn_tuple a _, ⟨_, Heap.get?_push_size _ rfl, rfl, rfl⟩, fun b hb => ?_, q⟩
    have e : b = s1.heap.objs.size := by simpa using hb
    subst e
    exact I1.fpOk (Nat.le_refl _) (I1.hok.fresh (Nat.le_refl _))
/-- an iterator over what stands, as long as S holds -/
structure WalkJ (J : It) (S : Hp → Prop) (xs : List V) : Prop where
  go : ∀ i H, i < xs.length → S H → J.go i H
  stop : ∀ H, S H → J.stop xs.length H
  yld : ∀ i H x H', i < xs.length → S H → J.yld i H x H' → H = H' ∧ xs[i]? = some x
theorem walkL {K : PySem.W.Frag} {a : Addr} {xs : List V} : WalkJ (Itl K a) (fun H => SqL K H a xs) xs :=
  ⟨fun i H lt q => ⟨xs, xs[i], q, by simp [lt]⟩, fun H q => ⟨xs, q, Nat.le_refl _⟩, fun i H x H' lt q y => by
    obtain ⟨e, y⟩ := y
    subst e
    exact ⟨rfl, y xs q⟩⟩
theorem walkT {K : PySem.W.Frag} {a : Addr} {xs : List V} : WalkJ (Itt K a) (fun H => SqT K H a xs) xs :=
  ⟨fun i H lt q => ⟨xs, xs[i], q, by simp [lt]⟩, fun H q => ⟨xs, q, Nat.le_refl _⟩, fun i H x H' lt q y => by
    obtain ⟨e, y⟩ := y
    subst e
    exact ⟨rfl, y xs q⟩⟩
/-- a list or a tuple -/
def SqE (K : PySem.W.Frag) (H : Hp) (a : Addr) (xs : List V) : Prop := SqL K H a xs ∨ SqT K H a xs
theorem SqE.same {K : PySem.W.Frag} {H H' : Hp} {a : Addr} {xs : List V} (e : Same H H') (h : SqE K H a xs) : SqE K H' a xs := h.elim (fun z => .inl (same_l e z)) fun z => .inr (same_t e z)
/-- few different rows -/
def Fw (rows : List (List Nat)) : Prop := ∃ B : List (List Nat), B.length ≤ 15 ∧ ∀ r ∈ rows, r ∈ B
theorem Fw.of_len {rows : List (List Nat)} (h : rows.length ≤ 15) : Fw rows := ⟨rows, h, fun _ h => h⟩
theorem Fw.dn {rows : List (List Nat)} (h : Fw rows) (a : Nat) : CC.dn (colN rows a) ≤ 15 := by
  obtain ⟨B, l, h⟩ := h
  have := sub_len (nodup_firsts (colN rows a)) (v := B.map fun r => r.getD a 0) fun v hv => by
    obtain ⟨r, hr, rfl⟩ := List.mem_map.mp (mem_firsts.mp hv)
    exact List.mem_map.mpr ⟨r, h r hr, rfl⟩
  rw [List.length_map] at this
  exact Nat.le_trans this l
theorem si_J {w : World} {J : It} {S : Hp → Prop} {xs : List V} {g : TG} {tt : TT} {te : TE} {vs : List Nat} {σ : L2.St} {H1 : Hp} {D : Addr} {Qd : Hp → Prop} (wk : WalkJ J S xs) (Pv : Nat → Hp → Prop) (h0 : Pv 0 (upd H1 D (SetO w D (fun _ => false) 0))) (hl : ∀ i H, i ≤ xs.length → Pv i H → S H)
    (hs : ∀ i x H, xs[i]? = some x → Pv i H → g x (wipe σ vs) H fun σ2 H2 => wipe σ2 vs = wipe σ vs ∧ tt σ2 H2 fun b H3 => if b = true then te σ2 H3 fun y H4 => ∃ c c' : (Int → Bool) × Nat, H4 D = some (SetO w D c.1 c.2) ∧ (∃ k : Int, y = .int k ∧ c.2 + 1 < scanBound ∧ c' = (fun j => c.1 j || decide (j = k), if c.1 k = true then c.2 else c.2 + 1)) ∧ Pv (i + 1) (upd H4 D (SetO w D c'.1 c'.2)) else Pv (i + 1) H3) (hd : ∀ H, Pv xs.length H → Qd H) :
    ∃ W : Nat → Nat → Hp → Prop, (∃ m, W 0 m (upd H1 D (SetO w D (fun _ => false) 0))) ∧ ∀ i m H, W i m H → (J.stop i H ∧ Qd H) ∨ (J.go i H ∧ ∃ Nx : Hp → Prop, (∀ H', Nx H' → ∃ m', m' < m ∧ W (i + 1) m' H') ∧ ∀ x H', J.yld i H x H' → g x (wipe σ vs) H' fun σ2 H2 => wipe σ2 vs = wipe σ vs ∧ tt σ2 H2 fun b H3 =>
      if b = true then te σ2 H3 fun y H4 => ∃ c c' : (Int → Bool) × Nat, H4 D = some (SetO w D c.1 c.2) ∧ (∃ k : Int, y = .int k ∧ c.2 + 1 < scanBound ∧ c' = (fun j => c.1 j || decide (j = k), if c.1 k = true then c.2 else c.2 + 1)) ∧ Nx (upd H4 D (SetO w D c'.1 c'.2)) else Nx H3) := by
  refine ⟨fun i m H => m = xs.length - i ∧ i ≤ xs.length ∧ Pv i H, ⟨xs.length, by simp, Nat.zero_le _, h0⟩, ?_⟩
  rintro i m H ⟨rfl, hi, p⟩
  have q := hl i H hi p
  by_cases lt : i < xs.length
  · refine .inr ⟨wk.go i H lt q, Pv (i + 1), fun H' p' => ⟨xs.length - (i + 1), by omega, rfl, lt, p'⟩, fun x H' y => ?_⟩
    obtain ⟨e, y2⟩ := wk.yld i H x H' lt q y
    subst e
    exact hs i x _ y2 p
  · have e : i = xs.length := by omega
    subst e
    exact .inl ⟨wk.stop H q, hd H p⟩
theorem sp_J {α κ : Type} (F : SC.FamP α κ) {P : Program} {w : World} {A : Around} {K : PySem.W.Frag} {J : It} {S : Hp → Prop} {xs : List V} {g : TG} {tt : TT} {te : TE} {vs : List Nat} {σ : L2.St} {H1 : Hp} {D : Addr} {Qd : Hp → Prop} (wk : WalkJ J S xs) (Pv : Nat → Hp → Prop) (h0 : Pv 0 (upd H1 D (F.ob P w D F.ini))) (hl : ∀ i H, i ≤ xs.length → Pv i H → S H)
    (hs : ∀ i x H, xs[i]? = some x → Pv i H → g x (wipe σ vs) H fun σ2 H2 => wipe σ2 vs = wipe σ vs ∧ tt σ2 H2 fun b H3 => if b = true then te σ2 H3 fun y H4 => ∃ (c : α) (z : κ), H4 D = some (F.ob P w D c) ∧ F.pre K A H4 c y z ∧ ∀ c', F.post c y z c' → Pv (i + 1) (upd H4 D (F.ob P w D c')) else Pv (i + 1) H3) (hd : ∀ H, Pv xs.length H → Qd H) :
    ∃ W : Nat → Nat → Hp → Prop, (∃ m, W 0 m (upd H1 D (F.ob P w D F.ini))) ∧ ∀ i m H, W i m H → (J.stop i H ∧ Qd H) ∨ (J.go i H ∧ ∃ Nx : Hp → Prop, (∀ H', Nx H' → ∃ m', m' < m ∧ W (i + 1) m' H') ∧ ∀ x H', J.yld i H x H' → g x (wipe σ vs) H' fun σ2 H2 => wipe σ2 vs = wipe σ vs ∧ tt σ2 H2 fun b H3 =>
      if b = true then te σ2 H3 fun y H4 => ∃ (c : α) (z : κ), H4 D = some (F.ob P w D c) ∧ F.pre K A H4 c y z ∧ ∀ c', F.post c y z c' → Nx (upd H4 D (F.ob P w D c')) else Nx H3) := by
  refine ⟨fun i m H => m = xs.length - i ∧ i ≤ xs.length ∧ Pv i H, ⟨xs.length, by simp, Nat.zero_le _, h0⟩, ?_⟩
  rintro i m H ⟨rfl, hi, p⟩
  have q := hl i H hi p
  by_cases lt : i < xs.length
  · refine .inr ⟨wk.go i H lt q, Pv (i + 1), fun H' p' => ⟨xs.length - (i + 1), by omega, rfl, lt, p'⟩, fun x H' y => ?_⟩
    obtain ⟨e, y2⟩ := wk.yld i H x H' lt q y
    subst e
    exact hs i x _ y2 p
  · have e : i = xs.length := by omega
    subst e
    exact .inl ⟨wk.stop H q, hd H p⟩
theorem si_colJ {w : World} {K : PySem.W.Frag} {J : It} {S : Hp → Prop} {us : List V} {rows : List (List Nat)} {m c cs : Nat} {σ : L2.St} {H : Hp} {D : Addr} {Qd : Hp → Prop} (wk : WalkJ J S us) (hg : ∀ H2, Same H H2 → S H2) (dp : DpAll K H us (rows.map gd)) (ok : ∀ r ∈ rows, RowOk m r) (few : rows.length ≤ 401) (cm : c < m) (nD : H D = none)
    (hw : ∀ x : V, wipe ((wipe σ [5]).set 5 (some x)) [5] = wipe σ [5]) (hx : ∀ x : V, ((wipe σ [5]).set 5 (some x))[5]? = some (some x)) (hc : ∀ x : V, ((wipe σ [5]).set 5 (some x))[cs]? = some (some (.int (c : Int))))
    (q : ∀ H2, Same H (wo H2 D) → H2 D = some (SetO w D (memI (colN rows c)) (dn (colN rows c))) → Qd H2) :
    ∃ W : Nat → Nat → Hp → Prop, (∃ m, W 0 m (upd H D (SetO w D (fun _ => false) 0))) ∧ ∀ i m H, W i m H → (J.stop i H ∧ Qd H) ∨ (J.go i H ∧ ∃ Nx : Hp → Prop, (∀ H', Nx H' → ∃ m', m' < m ∧ W (i + 1) m' H') ∧ ∀ x H', J.yld i H x H' → gName 5 x (wipe σ [5]) H' fun σ2 H2 => wipe σ2 [5] = wipe σ [5] ∧ tYes σ2 H2 fun b H3 =>
      if b = true then tOp (rIxT K) (tVar 5) (tVar cs) σ2 H3 fun y H4 => ∃ c c' : (Int → Bool) × Nat, H4 D = some (SetO w D c.1 c.2) ∧ (∃ k : Int, y = .int k ∧ c.2 + 1 < scanBound ∧ c' = (fun j => c.1 j || decide (j = k), if c.1 k = true then c.2 else c.2 + 1)) ∧ Nx (upd H4 D (SetO w D c'.1 c'.2)) else Nx H3) := by
  have ul : us.length = rows.length := by rw [dps_len dp, List.length_map]
  have cut : ∀ j, dn (colN (rows.take j) c) ≤ j := fun j => by
    have e : colN (rows.take j) c = (colN rows c).take j := by
      unfold colN
      rw [List.map_take]
    rw [e]
    exact dn_le _ j
  refine si_J wk (fun j H2 => Same H (wo H2 D) ∧ H2 D = some (SetO w D (memI (colN (rows.take j) c)) (dn (colN (rows.take j) c))) ∧ j ≤ 401) ⟨?_, ?_, by omega⟩ (fun j H2 _ z => hg _ (z.1.trans (wo_le D))) ?_ ?_
  · rw [wo_upd]
    exact fun b o e => by rw [wo_ne (ne_of_none e nD)]; exact e
  · rw [upd_same]
    have e : memI (colN (rows.take 0) c) = fun _ => false := by
      funext k
      simp [memI, colN]
    have e' : dn (colN (rows.take 0) c) = 0 := by simp [dn, firsts, colN]
    rw [e, e']
  · rintro j v H2 hv ⟨f1, f2, f3⟩
    obtain ⟨r, hr2, dr⟩ := dps_gat dp hv
    have jl := (List.getElem?_eq_some_iff.mp hr2).1
    have rok := ok r (List.mem_of_getElem? hr2)
    obtain ⟨t, rfl, ht⟩ := gd_at dr
    have s2 : Same H H2 := f1.trans (wo_le D)
    have gx : (nms r)[c]? = some (.int ((r.getD c 0 : Nat) : Int)) := by
      rw [nms, List.getElem?_map, List.getD_eq_getElem?_getD, List.getElem?_eq_getElem (by rw [rok.1]; exact cm)]
      rfl
    have room : dn (colN (rows.take j) c) + 1 < scanBound := by
      have := cut j
      unfold scanBound
      omega
    refine ⟨hw _, yes_if ⟨_, hx _, _, hc _, t, _, _, _, rfl, rfl, same_t s2 ht, atI_nat gx, (memI (colN (rows.take j) c), dn (colN (rows.take j) c)), _, f2, ⟨_, rfl, room, rfl⟩, ?_, ?_, by omega⟩⟩
    · rw [wo_upd]
      exact f1
    · rw [upd_same]
      show some (SetO w D (fun j' => memI (colN (rows.take j) c) j' || decide (j' = ((r.getD c 0 : Nat) : Int))) (if memI (colN (rows.take j) c) ((r.getD c 0 : Nat) : Int) = true then dn (colN (rows.take j) c) else dn (colN (rows.take j) c) + 1)) = _
      rw [memI_snoc, colN_take hr2, dn_snoc, memI_at]
      by_cases e : r.getD c 0 ∈ colN (rows.take j) c
      · rw [decide_eq_true e, if_pos rfl, if_pos e]
      · rw [decide_eq_false e, if_neg (by decide), if_neg e]
  · rintro H2 ⟨f1, f2, _⟩
    rw [ul, List.take_length] at f2
    exact q H2 f1 f2
theorem sp_pairsJ {P : Program} {w : World} {A : Around} {K : PySem.W.Frag} {J : It} {S : Hp → Prop} {us : List V} {rows : List (List Nat)} {m a b ca cb : Nat} {σ : L2.St} {H : Hp} {D : Addr} {Qd : Hp → Prop} (wk : WalkJ J S us) (hg : ∀ H2, Same H H2 → S H2) (dp : DpAll K H us (rows.map gd)) (ok : ∀ r ∈ rows, RowOk m r) (fw : Fw rows) (am : a < m) (bm : b < m) (nD : H D = none) (hu : A.units + 64 < cLine)
    (hw : ∀ x : V, wipe ((wipe σ [5]).set 5 (some x)) [5] = wipe σ [5]) (hx : ∀ x : V, ((wipe σ [5]).set 5 (some x))[5]? = some (some x)) (hca : ∀ x : V, ((wipe σ [5]).set 5 (some x))[ca]? = some (some (.int (a : Int)))) (hcb : ∀ x : V, ((wipe σ [5]).set 5 (some x))[cb]? = some (some (.int (b : Int))))
    (q : ∀ H2 (L : List (Addr × List Int)), Same H (wo H2 D) → H2 D = some (SetTO P w D L) → (L.map (·.2)).Nodup → (∀ k, k ∈ L.map (·.2) ↔ k ∈ rows.map (pr2 a b)) → Qd H2) :
    ∃ W : Nat → Nat → Hp → Prop, (∃ m, W 0 m (upd H D (SC.famT.ob P w D SC.famT.ini))) ∧ ∀ i m H, W i m H → (J.stop i H ∧ Qd H) ∨ (J.go i H ∧ ∃ Nx : Hp → Prop, (∀ H', Nx H' → ∃ m', m' < m ∧ W (i + 1) m' H') ∧ ∀ x H', J.yld i H x H' → gName 5 x (wipe σ [5]) H' fun σ2 H2 => wipe σ2 [5] = wipe σ [5] ∧ tYes σ2 H2 fun b H3 =>
      if b = true then tTup (tCons (tOp (rIxT K) (tVar 5) (tVar ca)) (tCons (tOp (rIxT K) (tVar 5) (tVar cb)) tNil)) σ2 H3 fun y H4 => ∃ (c : List (Addr × List Int)) (z : List Int), H4 D = some (SC.famT.ob P w D c) ∧ SC.famT.pre K A H4 c y z ∧ ∀ c', SC.famT.post c y z c' → Nx (upd H4 D (SC.famT.ob P w D c')) else Nx H3) := by
  have ul : us.length = rows.length := by rw [dps_len dp, List.length_map]
  have fwl : ∀ L : List (Addr × List Int), (L.map (·.2)).Nodup → (∀ k ∈ L.map (·.2), k ∈ rows.map (pr2 a b)) → L.length ≤ 15 := fun L nd h => by
    obtain ⟨B, lB, hB⟩ := fw
    have := subL_len nd (v := B.map (pr2 a b)) fun k hk => by
      obtain ⟨r, hr, e⟩ := List.mem_map.mp (h k hk)
      exact List.mem_map.mpr ⟨r, hB r hr, e⟩
    rw [List.length_map, List.length_map] at this
    omega
  refine sp_J (A := A) (K := K) SC.famT wk (fun j H2 => Same H (wo H2 D) ∧ ∃ L : List (Addr × List Int), H2 D = some (SetTO P w D L) ∧ (∀ p ∈ L, SqT K H2 p.1 (p.2.map V.int)) ∧ (L.map (·.2)).Nodup ∧ (∀ k, k ∈ L.map (·.2) ↔ k ∈ (rows.take j).map (pr2 a b))  ∧ L.length ≤ 15) ⟨?_, [], upd_same, (fun p hp => by cases hp), List.nodup_nil, (fun k => by simp), Nat.zero_le _⟩ (fun j H2 _ z => hg _ (z.1.trans (wo_le D))) ?_ ?_
  · rw [wo_upd]
    exact fun b o e => by rw [wo_ne (ne_of_none e nD)]; exact e
  · rintro j v H2 hv ⟨f1, L, f2, f3, f4, f5, f6⟩
    obtain ⟨r, hr2, dr⟩ := dps_gat dp hv
    have jl := (List.getElem?_eq_some_iff.mp hr2).1
    have rok := ok r (List.mem_of_getElem? hr2)
    obtain ⟨t, rfl, ht⟩ := gd_at dr
    have s2 : Same H H2 := f1.trans (wo_le D)
    have gx : ∀ c, c < m → (nms r)[c]? = some (.int ((r.getD c 0 : Nat) : Int)) := fun c cm => by
      rw [nms, List.getElem?_map, List.getD_eq_getElem?_getD, List.getElem?_eq_getElem (by rw [rok.1]; exact cm)]
      rfl
    refine ⟨hw _, yes_if ⟨_, hx _, _, hca _, t, _, _, _, rfl, rfl, same_t s2 ht, atI_nat (gx a am), _, hx _, _, hcb _, t, _, _, _, rfl, rfl, same_t s2 ht, atI_nat (gx b bm), (by show 2 ≤ sizeLine; decide), fun t2 n2 => ?_⟩⟩
    have s3 : Same H2 (upd H2 t2 (.tup [.int ((r.getD a 0 : Nat) : Int), .int ((r.getD b 0 : Nat) : Int)])) := same_new n2
    have h3 : (upd H2 t2 (.tup [.int ((r.getD a 0 : Nat) : Int), .int ((r.getD b 0 : Nat) : Int)])) t2 = some (.tup ((pr2 a b r).map V.int)) := upd_same
    generalize upd H2 t2 (.tup [.int ((r.getD a 0 : Nat) : Int), .int ((r.getD b 0 : Nat) : Int)]) = H3 at s3 h3
    refine ⟨L, pr2 a b r, s3 _ _ f2, ⟨t2, rfl, .inl (.inl h3), fun p hp => same_t s3 (f3 p hp), hu, by omega⟩, ?_⟩
    rintro c' ⟨x, ex, c1, c2⟩
    cases ex
    have uT : SameT H3 (upd H3 D (SetTO P w D c')) := updS_T (s3 _ _ f2)
    refine ⟨?_, c', upd_same, ?_⟩
    · rw [wo_upd]
      exact f1.trans (wo_same s3)
    have tk : ∀ k, k ∈ (rows.take (j + 1)).map (pr2 a b) ↔ k ∈ (rows.take j).map (pr2 a b) ∨ k = pr2 a b r := fun k => by
      rw [take1 hr2, List.map_append, List.mem_append]
      simp
    by_cases e : pr2 a b r ∈ L.map (·.2)
    · rw [c1 e]
      refine ⟨fun p hp => sqt_T (c1 e ▸ uT) (same_t s3 (f3 p hp)), f4, fun k => ?_, by omega⟩
      rw [tk, ← f5]
      exact ⟨.inl, fun z => z.elim id fun z => z ▸ e⟩
    · have pm := c2 e
      refine ⟨fun p hp => ?_, ?_, fun k => ?_, ?_⟩
      · rcases List.mem_cons.mp (pm.mem_iff.mp hp) with z | z
        · rw [z]
          exact sqt_T uT (.inl (.inl h3))
        · exact sqt_T uT (same_t s3 (f3 p z))
      · exact (pm.map (·.2)).nodup_iff.mpr (List.nodup_cons.mpr ⟨e, f4⟩)
      · rw [tk, ← f5, (pm.map (·.2)).mem_iff, List.map_cons, List.mem_cons]
        exact ⟨fun z => z.elim .inr .inl, fun z => z.elim .inr .inl⟩
      · exact fwl c' ((pm.map (·.2)).nodup_iff.mpr (List.nodup_cons.mpr ⟨e, f4⟩)) fun k hk => by
          rw [(pm.map (·.2)).mem_iff, List.map_cons, List.mem_cons] at hk
          rcases hk with rfl | hk
          · exact List.mem_map.mpr ⟨r, List.mem_of_getElem? hr2, rfl⟩
          · obtain ⟨z, hz, e⟩ := List.mem_map.mp ((f5 k).mp hk)
            exact List.mem_map.mpr ⟨z, List.mem_of_mem_take hz, e⟩
  · rintro H2 ⟨f1, L, f2, f3, f4, f5, f6⟩
    rw [ul, List.take_length] at f5
    exact q H2 L f1 f2 f4 f5
def spHoM (K : PySem.W.Frag) : Sp := fun vs H Q _ => ∃ (g : Addr) (us : List V) (m : Nat) (rows : List (List Nat)) (v : V) (r : R), vs = [.ref g, v] ∧ SqE K H g us ∧ DpAll K H us (rows.map gd) ∧ (∀ x ∈ rows, RowOk m x) ∧ Fw rows ∧ rows.length ≤ 401 ∧ Dp K H v r.d ∧ r.ok m ∧ ∀ (t : Bool) H', Same H H' → (t = true ↔ HoldsR rows r) → Q (.bl t) H'
section
variable {P : Program} {w : World} {K : PySem.W.Frag} {mg : Str → Option Value} {base : Heap} {kA : Addr}
theorem ok_hoM {f : Addr} {fd : FuncData} {k : Nat} (F : Fun K "holds" "holds" sHo f fd) (T : Glb K mg kA) : FnOk P w K mg base CX0 (k + 1) f fd ["rows", "rule"] (spHoM K) := by
  refine F.ok scHo (fun vs H Q E h => ?_) (fun cdv A outer s H vs Q E hr h => ?_)
  · obtain ⟨g, us, m, rows, v, r, rfl, _⟩ := h
    rfl
  · obtain ⟨g, us, m, rows, v, r, rfl, hg, dp, ok, fw, few, dr, hr2, q⟩ := h
    have n := scHo.nd
    refine ⟨_, (pss_cons (ps_asg (pv 1) (pg_tup rfl (pgs_cons (pg_name (i := 2) n rfl (.inl rfl)) (pgs_cons (pg_name (i := 3) n rfl (.inr rfl)) (pgs_cons (pg_name (i := 4) n rfl (.inr rfl)) pgs_nil)))))
      (pss_cons (ps_if (pt_cmpR op_eq (pv 2) pe_str (nomark _))
        (pss_one (ps_ret (pe_cmpR op_eq (pe_callB (r := rLenI w) call_lenI (by rfl) T.len PySem.boot_len (pa_cons (pe_op (r := SD.rSubJ w) SD.op_subJ
          (SC.pe_setI (own := [("row", 5)]) (g := gName 5) (tt := tYes) (te := tOp (rIxT K) (tVar 5) (tVar 3)) rfl n (show PI _ _ _ (iSeq K _) from pi_seq (pv 0)) (blkOk_by (N := nHp) (sc := defScope sHo) (by decide +kernel)) (fun _ _ _ _ _ => (pg_name (i := 5) n rfl (.inl rfl))) (fun _ _ _ _ _ => pts_nil) (fun _ _ _ _ _ => (pe_ix ix_tup (pv 5) (pv 3) (fun _ _ => rfl))))
          (SC.pe_setI (own := [("row", 5)]) (g := gName 5) (tt := tYes) (te := tOp (rIxT K) (tVar 5) (tVar 4)) rfl n (show PI _ _ _ (iSeq K _) from pi_seq (pv 0)) (blkOk_by (N := nHp) (sc := defScope sHo) (by decide +kernel)) (fun _ _ _ _ _ => (pg_name (i := 5) n rfl (.inl rfl))) (fun _ _ _ _ _ => pts_nil) (fun _ _ _ _ _ => (pe_ix ix_tup (pv 5) (pv 4) (fun _ _ => rfl))))) pa_nil)) pe_int (nomark _))))
        pss_nil)
      (pss_one (ps_ret (pe_cmpR op_eq (pe_callB (r := SC.rLenT P w) SC.call_lenT (by rfl) T.len PySem.boot_len (pa_cons (SC.pe_setP SC.famT (own := [("row", 5)]) (g := gName 5) (tt := tYes) (te := tTup (tCons (tOp (rIxT K) (tVar 5) (tVar 3)) (tCons (tOp (rIxT K) (tVar 5) (tVar 4)) tNil))) rfl n (show PI _ _ _ (iSeq K _) from pi_seq (pv 0)) (blkOk_by (N := nHp) (sc := defScope sHo) (by decide +kernel)) (fun _ _ _ _ _ => (pg_name (i := 5) n rfl (.inl rfl))) (fun _ _ _ _ _ => pts_nil) (fun _ _ _ _ _ => (pe_tup (pa_cons (pe_ix ix_tup (pv 5) (pv 3) (fun _ _ => rfl)) (pa_cons (pe_ix ix_tup (pv 5) (pv 4) (fun _ _ => rfl)) pa_nil))))) pa_nil))
        (pe_callB (r := rLenI w) call_lenI (by rfl) T.len PySem.boot_len (pa_cons (SC.pe_setI (own := [("row", 5)]) (g := gName 5) (tt := tYes) (te := tOp (rIxT K) (tVar 5) (tVar 3)) rfl n (show PI _ _ _ (iSeq K _) from pi_seq (pv 0)) (blkOk_by (N := nHp) (sc := defScope sHo) (by decide +kernel)) (fun _ _ _ _ _ => (pg_name (i := 5) n rfl (.inl rfl))) (fun _ _ _ _ _ => pts_nil) (fun _ _ _ _ _ => (pe_ix ix_tup (pv 5) (pv 3) (fun _ _ => rfl)))) pa_nil)) (nomark _)))))), ?_⟩
    rcases hg with hg | hg
    · obtain ⟨kk, a, b⟩ := r
      obtain ⟨tr, rfl, ht⟩ := dp_r dr
      have aw : a < m := hr2.1
      have bw : b < m := hr2.2.1
      refine ⟨_, rfl, tr, _, rfl, ht, rfl, _, _, rfl, _, _, rfl, _, _, rfl, rfl, ?_⟩
      cases kk with
      | false =>
        refine ⟨_, rfl, rfl, _, rfl, iteT' (decide_eq_true rfl) ?_⟩
        refine ⟨_, rfl, g, rfl, .inl ⟨⟨_, hg⟩, fun D nD => si_colJ (m := m) (c := a) (cs := 3) walkL (fun H2 e => same_l e hg) dp ok (by omega) aw nD (fun _ => rfl) (fun _ => rfl) (fun _ => rfl) fun H1 e1 e2 => ?_⟩⟩
        have s1 : Same H H1 := e1.trans (wo_le D)
        refine ⟨_, rfl, g, rfl, .inl ⟨⟨_, same_l s1 hg⟩, fun D2 nD2 => si_colJ (m := m) (c := b) (cs := 4) walkL (fun H2 e => same_l (s1.trans e) hg) (dps_same s1 _ _ dp) ok (by omega) bw nD2 (fun _ => rfl) (fun _ => rfl) (fun _ => rfl) fun H2 f1 f2 => ?_⟩⟩
        have s2 : Same H1 H2 := f1.trans (wo_le D2)
        have la : dn (colN rows a) ≤ 15 := fw.dn a
        have sm : dn (colN rows a) / 4 ≤ dn (colN rows b) ∨ 1 ≤ dn (colN rows b) ∧ dn (colN rows a) ≤ 15 := by
          cases rows with
          | nil => exact .inl (by simp [colN, dn, firsts])
          | cons x rows =>
            have hm : x.getD b 0 ∈ colN (x :: rows) b := List.mem_map.mpr ⟨x, List.mem_cons_self, rfl⟩
            exact .inr ⟨dn_pos hm, la⟩
        refine ⟨D, D2, _, _, _, _, rfl, rfl, s2 _ _ e2, f2, sm, fun p n1 np le iff => ?_⟩
        refine ⟨p, _, n1, rfl, upd_same, by omega, rfl, ?_⟩
        refine q _ _ (s1.trans (s2.trans (same_new np))) ?_
        rw [decide_eq_true_iff, ← within_iff, ← iff]
        exact ⟨fun h => by injection h with h; omega, fun h => by rw [h]; rfl⟩
      | true =>
        refine ⟨_, rfl, rfl, _, rfl, iteF' (decide_eq_false (show ¬ V.str (kd true) = V.str "within" by decide +kernel)) ?_⟩
        have hu64 : (A.deeper (PyProof.Rows.envOfC (Str.ofString "holds") (defScope sHo) s.heap.objs.size f cdv)).units + 64 < cLine := by
          have := hr.un
          omega
        refine ⟨_, rfl, g, rfl, .inl ⟨⟨_, hg⟩, fun D nD => sp_pairsJ (m := m) (a := a) (b := b) (ca := 3) (cb := 4) walkL (fun H2 e => same_l e hg) dp ok fw aw bw nD hu64 (fun _ => rfl) (fun _ => rfl) (fun _ => rfl) (fun _ => rfl) fun H1 L e1 e2 nd mem => ?_⟩⟩
        have s1 : Same H H1 := e1.trans (wo_le D)
        refine ⟨D, L, rfl, e2, ?_⟩
        refine ⟨_, rfl, g, rfl, .inl ⟨⟨_, same_l s1 hg⟩, fun D2 nD2 => si_colJ (m := m) (c := a) (cs := 3) walkL (fun H2 e => same_l (s1.trans e) hg) (dps_same s1 _ _ dp) ok (by omega) aw nD2 (fun _ => rfl) (fun _ => rfl) (fun _ => rfl) fun H2 f1 f2 => ?_⟩⟩
        have s2 : Same H1 H2 := f1.trans (wo_le D2)
        have la : dn (colN rows a) ≤ 15 := fw.dn a
        refine ⟨D2, _, _, rfl, f2, by omega, rfl, ?_⟩
        refine q _ _ (s1.trans s2) ?_
        rw [decide_eq_true_iff, ← pairs_iff nd mem, List.length_map]
        exact ⟨fun h => by injection h with h; omega, fun h => by rw [h]⟩
    · obtain ⟨kk, a, b⟩ := r
      obtain ⟨tr, rfl, ht⟩ := dp_r dr
      have aw : a < m := hr2.1
      have bw : b < m := hr2.2.1
      refine ⟨_, rfl, tr, _, rfl, ht, rfl, _, _, rfl, _, _, rfl, _, _, rfl, rfl, ?_⟩
      cases kk with
      | false =>
        refine ⟨_, rfl, rfl, _, rfl, iteT' (decide_eq_true rfl) ?_⟩
        refine ⟨_, rfl, g, rfl, .inr ⟨⟨_, hg⟩, fun D nD => si_colJ (m := m) (c := a) (cs := 3) walkT (fun H2 e => same_t e hg) dp ok (by omega) aw nD (fun _ => rfl) (fun _ => rfl) (fun _ => rfl) fun H1 e1 e2 => ?_⟩⟩
        have s1 : Same H H1 := e1.trans (wo_le D)
        refine ⟨_, rfl, g, rfl, .inr ⟨⟨_, same_t s1 hg⟩, fun D2 nD2 => si_colJ (m := m) (c := b) (cs := 4) walkT (fun H2 e => same_t (s1.trans e) hg) (dps_same s1 _ _ dp) ok (by omega) bw nD2 (fun _ => rfl) (fun _ => rfl) (fun _ => rfl) fun H2 f1 f2 => ?_⟩⟩
        have s2 : Same H1 H2 := f1.trans (wo_le D2)
        have la : dn (colN rows a) ≤ 15 := fw.dn a
        have sm : dn (colN rows a) / 4 ≤ dn (colN rows b) ∨ 1 ≤ dn (colN rows b) ∧ dn (colN rows a) ≤ 15 := by
          cases rows with
          | nil => exact .inl (by simp [colN, dn, firsts])
          | cons x rows =>
            have hm : x.getD b 0 ∈ colN (x :: rows) b := List.mem_map.mpr ⟨x, List.mem_cons_self, rfl⟩
            exact .inr ⟨dn_pos hm, la⟩
        refine ⟨D, D2, _, _, _, _, rfl, rfl, s2 _ _ e2, f2, sm, fun p n1 np le iff => ?_⟩
        refine ⟨p, _, n1, rfl, upd_same, by omega, rfl, ?_⟩
        refine q _ _ (s1.trans (s2.trans (same_new np))) ?_
        rw [decide_eq_true_iff, ← within_iff, ← iff]
        exact ⟨fun h => by injection h with h; omega, fun h => by rw [h]; rfl⟩
      | true =>
        refine ⟨_, rfl, rfl, _, rfl, iteF' (decide_eq_false (show ¬ V.str (kd true) = V.str "within" by decide +kernel)) ?_⟩
        have hu64 : (A.deeper (PyProof.Rows.envOfC (Str.ofString "holds") (defScope sHo) s.heap.objs.size f cdv)).units + 64 < cLine := by
          have := hr.un
          omega
        refine ⟨_, rfl, g, rfl, .inr ⟨⟨_, hg⟩, fun D nD => sp_pairsJ (m := m) (a := a) (b := b) (ca := 3) (cb := 4) walkT (fun H2 e => same_t e hg) dp ok fw aw bw nD hu64 (fun _ => rfl) (fun _ => rfl) (fun _ => rfl) (fun _ => rfl) fun H1 L e1 e2 nd mem => ?_⟩⟩
        have s1 : Same H H1 := e1.trans (wo_le D)
        refine ⟨D, L, rfl, e2, ?_⟩
        refine ⟨_, rfl, g, rfl, .inr ⟨⟨_, same_t s1 hg⟩, fun D2 nD2 => si_colJ (m := m) (c := a) (cs := 3) walkT (fun H2 e => same_t (s1.trans e) hg) (dps_same s1 _ _ dp) ok (by omega) aw nD2 (fun _ => rfl) (fun _ => rfl) (fun _ => rfl) fun H2 f1 f2 => ?_⟩⟩
        have s2 : Same H1 H2 := f1.trans (wo_le D2)
        have la : dn (colN rows a) ≤ 15 := fw.dn a
        refine ⟨D2, _, _, rfl, f2, by omega, rfl, ?_⟩
        refine q _ _ (s1.trans s2) ?_
        rw [decide_eq_true_iff, ← pairs_iff nd mem, List.length_map]
        exact ⟨fun h => by injection h with h; omega, fun h => by rw [h]⟩
end
end CC
namespace CC
open PySem L2 TL
section
variable {P : Program} {w : World} {K : PySem.W.Frag} {mg : Str → Option Value} {base : Heap} {kA : Addr}
theorem scTW : FnScope ["self"] ["self"] (defScope sTW) := ⟨rfl, rfl, rfl, by decide +kernel, rfl, by decide +kernel, by decide +kernel⟩
theorem ok_tw {f C : Addr} {fd : FuncData} {k : Nat} (F : Fun K "width" "Table.width" sTW f fd) (TC : TxtT K mg C) : FnOk P w K mg base CX0 (k + 1) f fd ["self"] (getSp C "span") := by
  refine F.ok scTW (fun vs H Q E h => ?_) (fun cdv A outer s H vs Q E hr h => ?_)
  · obtain ⟨a, dx, fs, v, rfl, _⟩ := h
    rfl
  · obtain ⟨a, dx, fs, v, rfl, ea, l, q⟩ := h
    exact ⟨_, pss_one (ps_ret (pe_fld (pv 0) rfl)), _, rfl, a, C, dx, fs, v, rfl, ea, TC.cl, TC.nS, l, q⟩
end
end CC
namespace CC
open PySem L2 TL
section
variable {P : Program} {w : World} {K : PySem.W.Frag} {mg : Str → Option Value} {base : Heap} {kA : Addr}
theorem scTRo : FnScope ["self"] ["self"] (defScope sTR) := ⟨rfl, rfl, rfl, by decide +kernel, rfl, by decide +kernel, by decide +kernel⟩
theorem ok_trows {f C : Addr} {fd : FuncData} {k : Nat} (F : Fun K "rows" "Table.rows" sTR f fd) (TC : TxtT K mg C) : FnOk P w K mg base CX0 (k + 1) f fd ["self"] (getSp C "lines") := by
  refine F.ok scTRo (fun vs H Q E h => ?_) (fun cdv A outer s H vs Q E hr h => ?_)
  · obtain ⟨a, dx, fs, v, rfl, _⟩ := h
    rfl
  · obtain ⟨a, dx, fs, v, rfl, ea, l, q⟩ := h
    exact ⟨_, pss_one (ps_ret (pe_fld (pv 0) rfl)), _, rfl, a, C, dx, fs, v, rfl, ea, TC.cl, TC.nL, l, q⟩
end
end CC
namespace CC
open PySem L2 TL
abbrev sLAss : Stmt := inClass (tp 48) 10
/-- a method that may raise -/
structure MthX (P : Program) (w : World) (K : PySem.W.Frag) (mg : Str → Option Value) (base : Heap) (C : Addr) (n : Str) (ps : List Str) (sp : Sp) (l : Nat) where
  f : Addr
  fd : FuncData
  m : Meth K C n f
  ok : ∀ k, l ≤ k → FnOk P w K mg base (L2.CX P w) k f fd ps sp
  b : Binds K fd ps []
/-- which exception check raises, if any -/
abbrev Ck := Nat → List R → List (List Nat) → Option Addr
/-- check(rows), rows a tuple of rows -/
def spCk (K : PySem.W.Frag) (C CR CT : Addr) (ck : Ck) : Sp := fun vs H Q E => ∃ (x r q g : Addr) (w : Nat) (rs : List R) (rows0 rows : List (List Nat)) (n : Nat) (us : List V), vs = [.ref x, .ref g] ∧ LogAt K C CR CT H x r q w rs rows0 n ∧ SqT K H g us ∧ DpAll K H us (rows.map gd) ∧ (∀ s ∈ rows, RowOk w s) ∧ rows.length ≤ 15 ∧ (∀ r ∈ rs, r.ok w) ∧ rs.length ≤ 60 ∧
  (∀ c, ck w rs rows = some c → ∀ H', Same H H' → E (.ref c) none H') ∧ (ck w rs rows = none → ∀ H', Same H H' → Q .non H')
/-- log.assign_table(t), t a table of the log's width -/
def spLAss (K : PySem.W.Frag) (C CR CT : Addr) (ck : Ck) : Sp := fun vs H Q E => ∃ (x r q t : Addr) (w : Nat) (rs : List R) (rows0 rows : List (List Nat)) (n : Nat), vs = [.ref x, .ref t] ∧ LogAt K C CR CT H x r q w rs rows0 n ∧ TableAt K CT H t w rows ∧ (∀ s ∈ rows, RowOk w s) ∧ rows.length ≤ 15 ∧ (∀ r ∈ rs, r.ok w) ∧ rs.length ≤ 60 ∧ n < 1000 ∧
  (∀ c, ck w rs rows = some c → ∀ H', Same H H' → E (.ref c) none H') ∧ (ck w rs rows = none → LogTo K C CR CT H x r q w rs rows (n + 1) Q)
/-- what change leaves, where the table was there before -/
theorem changedT {K : PySem.W.Frag} {C CR CT : Addr} {H H2 : Hp} {x r q dx t t' : Addr} {w n : Nat} {rs : List R} {rows rows' : List (List Nat)} {hs : List V} {Q : VK} (L : LogAt K C CR CT H x r q w rs rows n) (s02 : Same H H2) (hx : H x = some (.ins C dx (fldL r t q))) (hq : H q = some (.lst hs)) (hl : hs.length = n) (tt : TableAt K CT H t' w rows') (ne : t' ≠ x) (to : LogTo K C CR CT H x r q w rs rows' (n + 1) Q) : Q .non (upd (upd H2 q (.lst (hs ++ [.ref t]))) x (.ins C dx (fldL r t' q))) := by
  have xq := L.ne
  have key : Same (wos H2 [x, q]) (wos (upd (upd H2 q (.lst (hs ++ [.ref t]))) x (.ins C dx (fldL r t' q))) [x, q]) := fun b o e => by
    obtain ⟨n1, e⟩ := wos_at e
    have bx : b ≠ x := fun z => n1 (by simp [z])
    have bq : b ≠ q := fun z => n1 (by simp [z])
    rw [wos_in n1, upd_ne bx, upd_ne bq]
    exact e
  refine to _ (fun b o e n1 => ?_) ⟨⟨dx, t', upd_same, ?_⟩, L.book.same (((Kp.of s02).same).trans key), hs ++ [.ref t], ?_, by rw [List.length_append, hl]; rfl⟩
  · have bx : b ≠ x := fun z => n1 (by simp [z])
    have bq : b ≠ q := fun z => n1 (by simp [z])
    rw [upd_ne bx, upd_ne bq]
    exact s02 _ _ e
  · obtain ⟨dt, g, us, h1, h2, h3⟩ := tt.same s02
    have a2 : t' ≠ q := ne_of h1 (s02 _ _ hq) (by intro z; cases z)
    have a3 : g ≠ x := ne_of h2 (s02 _ _ hx) (by intro z; cases z)
    have a4 : g ≠ q := ne_of h2 (s02 _ _ hq) (by intro z; cases z)
    refine TableAt.same ⟨dt, g, us, ?_, ?_, gds_T (wos2_T (s02 _ _ hx) (s02 _ _ hq)) h3⟩ key
    · rw [wos_in (by simp [ne, a2])]
      exact h1
    · rw [wos_in (by simp [a3, a4])]
      exact h2
  · rw [upd_ne xq.symm]
    exact upd_same
section
variable {P : Program} {w : World} {K : PySem.W.Frag} {mg : Str → Option Value} {base : Heap} {kA : Addr}
theorem scLAss : FnScope ["self", "table"] ["self", "table"] (defScope sLAss) := ⟨rfl, rfl, rfl, by decide +kernel, rfl, by decide +kernel, by decide +kernel⟩
theorem ok_lass {f C CR CT : Addr} {fd : FuncData} {k l : Nat} {ck : Ck} (F : Fun K "assign_table" "Log.assign_table" sLAss f fd) (T : Glb K mg kA) (TL : TxtC K C) (TR : Txt1 K mg CR) (TT : TxtT K mg CT) (ic : C8.InsC K CT) (pW : Prp P w K mg base CR "width" "span") (pTW : Prp P w K mg base CT "width" "span") (pTR : Prp P w K mg base CT "rows" "lines")
    (cc : MthX P w K mg base C "check" ["self", "rows"] (spCk K C CR CT ck) l) (cg : MthG P w K mg base C "change" ["self", "table"] (spLChg K C) 1) : FnOk P w K mg base (L2.CX P w) (k + l + 3) f fd ["self", "table"] (spLAss K C CR CT ck) := by
  have GC := cc.ok (k + l + 2) (by omega)
  have GG := cg.ok (k + l + 2) (by omega)
  refine F.okX scLAss (fun vs H Q E h => ?_) (fun cdv A outer s H vs Q E hr h => ?_)
  · obtain ⟨x, r, q, t, m, rs, rows0, rows, n, rfl, _⟩ := h
    rfl
  · obtain ⟨x, r, pq, t', m, rs, rows0, rows, n, rfl, L, tt, ok, few, rok, r60, n1, eE, to⟩ := h
    have nd := scLAss.nd
    refine ⟨_, (pss_cons (ps_if (pt_not (pt_val (pe_callB (C8.call_isC ic) (by rfl) T.isi (by decide +kernel) (pa_cons (pv 1) (pa_cons (pe_glob (v := .ref CT) rfl TT.mgC rfl) pa_nil))))) (pss_one ps_never) pss_nil)
      (pss_cons (ps_if (pt_cmpR op_ne (pe_prop (pv 1) TT.cl pTW.hp (pTW.ok (k + l + 1) (by omega)) hr pTW.b .nil pass0 rfl) (pe_prop (pe_fld (pv 0) rfl) TR.cl pW.hp (pW.ok (k + l + 1) (by omega)) hr pW.b .nil pass0 rfl) (nomark _)) (pss_one ps_never) pss_nil)
      (pss_cons (ps_expr (pe_meth (pv 0) TL.cl cc.m GC hr cc.b .nil (passes_call (takes_of rfl rfl rfl rfl) (fun _ _ _ _ h => h)) (pa_cons (pe_prop (pv 1) TT.cl pTR.hp (pTR.ok (k + l + 1) (by omega)) hr pTR.b .nil pass0 rfl) pa_nil)))
      (pss_one (ps_expr (pe_meth (pv 0) TL.cl cg.m GG hr cg.b .nil pass0 (pa_cons (pv 1) pa_nil))))))), ?_⟩
    obtain ⟨dx, t, hx, _⟩ := L.at_
    obtain ⟨hs, hq, hl⟩ := L.past
    obtain ⟨dr, gr, ur, r1, r2, r3⟩ := L.book.same (wos_le _)
    obtain ⟨dt, g, us, t1, t2, t3⟩ := id tt
    refine ⟨_, rfl, t', dt, _, rfl, t1, _, rfl, iteF ?_⟩
    refine ⟨_, rfl, t', dt, _, rfl, t1, t', dt, _, _, rfl, t1, fldT_span _ _, _, rfl, x, C, dx, _, _, rfl, hx, TL.cl, TL.nB, fldL_b _ _ _, r, dr, _, rfl, r1, r, dr, _, _, rfl, r1, flds_span _ _, rfl, _, rfl, iteF' (by rw [decide_eq_true rfl]; rfl) ?_⟩
    refine ⟨_, rfl, x, dx, _, rfl, hx, fldL_no _ _ _ (by decide +kernel) (by decide +kernel) (by decide +kernel), _, rfl, t', dt, _, rfl, t1, t', dt, _, _, rfl, t1, fldT_lines _ _, ?_⟩
    refine ⟨x, r, pq, g, m, rs, rows0, rows, n, us, rfl, L, .inl (.inl t2), t3, ok, few, rok, r60, eE, fun e H1 s1 => ?_⟩
    refine ⟨_, rfl, x, dx, _, rfl, s1 _ _ hx, fldL_no _ _ _ (by decide +kernel) (by decide +kernel) (by decide +kernel), _, rfl, ?_⟩
    refine ⟨x, dx, r, t, pq, t', hs, rfl, s1 _ _ hx, s1 _ _ hq, by omega, ?_⟩
    refine changedT L s1 hx hq hl tt (fun z => ?_) (to e)
    rw [z, hx] at t1
    cases t1
end
end CC
/-! a layer above the hand layer: defs that are called where nothing is being shown (no repr of a container is under way) -/
namespace GD
open PySem PySem.Spec PyProof.Rows L2
abbrev Calm (A : Around) : Prop := A.guards = some []
/-- a def's promise, where nothing is being shown -/
structure FnG (P : Program) (w : World) (K : PySem.W.Frag) (mg : Str → Option Value) (base : Heap) (CX : CXT) (k : Nat) (f : Addr) (fd : FuncData) (ps : List Str) (sp : Sp) : Prop where
  few : ∀ vs H Q E, sp vs H Q E → vs.length = ps.length
  goes : ∀ (A : Around) (out : List Env) (s : Shared) (H : Hp) (args : Args) (us : List Value) (vs : List V) (Q : VK) (E : XK), Calm A → Room k A → Env0 P w K mg base A out s H → BindsTo s fd args (ps.zip us) → Vals vs us → sp vs H Q E → codeAny (model P w) A (.call (.ref f) args) (CR CX out P w H s Q E) s
section
variable {P : Program} {w : World} {K : PySem.W.Frag} {mg : Str → Option Value} {base : Heap} {CX : CXT} {k : Nat} {f : Addr} {fd : FuncData} {ps : List Str} {sp : Sp}
theorem FnG.of (F : FnOk P w K mg base CX k f fd ps sp) : FnG P w K mg base CX k f fd ps sp := ⟨F.len, fun A out s H args us vs Q E _ hr e0 hb r h => F.run A out s H args us vs Q E hr e0 hb r h⟩
/-- the rule for a def by its body -/
theorem fun_okG {x q : Str} {st : Stmt} {N : List Str} (F : Fun K x q st f fd) (S : FnScope N ps (defScope st)) (few : ∀ vs H Q E, sp vs H Q E → vs.length = ps.length)
    (body : ∀ (cd : Value) (A : Around) (out : List Env) (s : Shared) (H : Hp) (vs : List V) (Q : VK) (E : XK), Calm (A.deeper (envOfC q (defScope st) s.heap.objs.size f cd)) → Room k (A.deeper (envOfC q (defScope st) s.heap.objs.size f cd)) → sp vs H Q E →
      ∃ t, PSs (cxOf CX0 P w K mg base N q (defScope st) f cd A out s H E).nox (defBody st) t ∧ t { nx := fun _ H' => Q .non H', rt := Q } (start N vs) H) : FnG P w K mg base CX0 (k + 1) f fd ps sp := by
  obtain ⟨oc, od, kV, doc, pm, an, cd, ct, osl, rfl, look, hcd⟩ := F.ex
  constructor
  · exact few
  intro A out s H args us vs Q E calm room e0 bound rel wish
  have keep : ∀ b o, base.get? b = some o → s.heap.get? b = some o := fun b o e => (e0.bs b o e).1
  have inK := e0.mod.kin.keeps keep
  have noL := e0.mod.nolimit.keeps keep
  have size := few _ _ _ _ wish
  refine codeAny_call_function room.depth (inK _ _ look) rfl S.co S.gen rfl (PySem.W.codeRec_of inK hcd) (bound _ _ _ _ ?_)
  refine wpAny_newFunctionEnv_cells S.kind (fun y hy => ?_) fun env he s1 x => ?_
  · rcases S.par y.1 (List.of_mem_zip hy).1 with z | z
    · exact .inl z
    · exact .inr ⟨z, PySem.W.cellsFrom_some _ _ _ (.inl z)⟩
  subst he
  refine ⟨noL.keeps x.toInCall.keep, codeAny_func ?_⟩
  obtain ⟨t, d, r⟩ := body cd A out s H vs Q E calm (room.deeper _) wish
  have J := inv_start (CX := CX0) (E := E) S room.hd e0 size rel x
  refine wpAny_mono (d.nox.run [] s1 (start N vs) H _ J r) (fun fl s2 z => ?_) fun _ _ z => z
  cases fl with
  | brk => exact z.elim fun _ z => z.elim fun _ z => z.2.elim
  | cont => exact z.elim fun _ z => z.elim fun _ z => z.2.elim
  | next =>
    obtain ⟨τ, H2, J2, q⟩ := z
    exact ⟨.non, H2, J2.os, J2.bare, J2.base, J2.hok, rfl, q⟩
  | ret u =>
    obtain ⟨v, τ, H2, J2, rv, q⟩ := z
    exact ⟨v, H2, J2.os, J2.bare, J2.base, J2.hok, rv, q⟩
end
section
variable {X : Cx} {CX : CXT} {k : Nat} {f : Addr} {fd : FuncData} {ps : List Str} {sp : Sp} {E : XK} {x : Str} {p pos : Pos} {e : Expr} {es : List Expr} {t : TA}
theorem pe_callG (F : FnG X.prog X.w X.K X.mg X.base CX k f fd ps sp) (calm : Calm X.A) (room : Room k X.A) (gl : Gl X x) (at_ : X.mg x = some (.ref f)) (kp : PySem.W.keepIn X.K (.ref f) = true) (b : Binds X.K fd ps []) (hx : Passes CX X E) (ha : PA X (e :: es) t)
    (hd : (x == ("__debug__" : Str)) = false := by decide) (h1 : starEach (e :: es) X.env = (false, eval e X.env) :: starEach es X.env := by rfl) (h2 : (backTo pos (starEach es X.env)).any (·.1) = false := by rfl) : PE X (.Call (.Name x p) (e :: es) [] pos) (tCall sp [] E t) := by
  constructor
  intro pins s σ H Q I h
  refine wpAny_Call_Name_kw (ld_glob I gl at_ (PySem.W.callWith_K (h₀ := X.base) I.ok.mod.kin kp (thn (ha.run pos pins s σ H _ I h) fun us s1 z => ?_) h1 h2) hd)
  obtain ⟨vs, H1, I1, r, q⟩ := z
  refine ⟨I1.kIn, ?_⟩
  rw [List.append_nil] at q
  have hl : us.length = ps.length := by
    rw [← r.length]
    exact F.few _ _ _ _ q
  have hb := b s1 us I1.kIn (by rw [List.append_nil]; exact hl)
  rw [List.append_nil] at hb
  refine wpAny_call (codeAny_mono (F.goes X.A X.stack s1 H1 ⟨us, []⟩ us vs Q E calm room I1.env0 hb r q) fun fin s2 z => ?_)
  match fin, z with
  | .error err, z => exact hx pins σ H1 s1 err s2 I1 z
  | .ok (.ret u), z => exact I1.after z
  | .ok .next, z => exact z.elim
  | .ok .brk, z => exact z.elim
  | .ok .cont, z => exact z.elim
/-- repr(x), x data -/
theorem call_reprD (calm : Calm X.A) (hu : X.A.units + 66 < cLine) : CallR X (.builtin "repr") (fun xs H Q => ∃ v d, xs = [v] ∧ Dp X.K H v d ∧ d.showable = true ∧ d.hasDict = false ∧ d.depth ≤ 64 ∧ d.shown.length ≤ sizeLine ∧ Q (.str d.shown) H) := by
  intro pins s σ H xs us Q I r h
  obtain ⟨v, d, rfl, hd, h1, h2, h3, h4, q⟩ := h
  obtain ⟨u, rfl, rv⟩ := vals1 r
  obtain ⟨as, rd⟩ := Dp.reads I d v u hd rv
  cases hd with
  | non =>
    cases rv
    exact PySem.P.repr_of_none ⟨.str _, H, I.tok _, ⟨_, rfl⟩, q⟩
  | bl b =>
    cases rv
    exact PySem.P.repr_of_bool ⟨.str _, H, I.tok _, ⟨_, rfl⟩, q⟩
  | int i =>
    obtain ⟨t, rfl⟩ := rv
    exact PySem.P.repr_of_int (by simpa [PyData.showable] using h1) ⟨.str _, H, I.tok _, ⟨_, rfl⟩, q⟩
  | str x =>
    obtain ⟨t, rfl⟩ := rv
    exact PySem.P.repr_of_str ⟨.str _, H, I.tok _, ⟨_, rfl⟩, q⟩ h4
  | lst hs ha =>
    cases rv
    exact repr_of_reads' rd h1 (PyData.noDict_hsm h2) calm (by omega) (fun _ _ e => e) (fun h' u tk hk => ⟨.str _, H, I.kept hk, ⟨_, rfl⟩, q⟩) h4
  | tup hs ha =>
    cases rv
    exact repr_of_reads' rd h1 (PyData.noDict_hsm h2) calm (by omega) (fun _ _ e => e) (fun h' u tk hk => ⟨.str _, H, I.kept hk, ⟨_, rfl⟩, q⟩) h4
end
/-- the law's call, at the heap behind the top -/
theorem law_callG {P : Program} {w : World} {K : PySem.W.Frag} {mg mb : Str → Option Value} {CX : CXT} {k : Nat} {fa a : Addr} {fd : FuncData} {x : Str} {sp : Sp} {s : Shared} {vs : List Value} {ns : List Int}
    (inK : K.In s.heap) (nsM : s.heap.Ns mainGlobals mg) (nsB : s.heap.Ns builtinsNs mb) (boot : ∀ x : Str, x ≠ "__name__" → mb x = bootBuiltins x) (noL : s.heap.NoLimit) (gens : s.gens = #[])
    (ha : s.heap.get? a = some { cls := .type "list", data := .seq vs.toArray }) (hin : IntsAre vs ns) (few : ns.length ≤ sizeLine) (room : Room k callerA)
    (F : ∀ base : Heap, K.In base → base.Ns mainGlobals mg → FnG P w K mg base CX k fa fd [x] sp) (bind : ∀ (s : Shared) (u : Value), BindsTo s fd ⟨[u], []⟩ [(x, u)])
    (wish : ∀ H : Hp, Only H → SqL K H a (ns.map V.int) → sp [.ref a] H (fun v _ => v = .bl true) fun _ _ _ => False) (noX : ∀ H e s', CX [] H s (fun _ _ _ => False) e s' → False) :
    codeAny (model P w) callerA (.call (.ref fa) ⟨[.ref a], []⟩) (fun r s' => r = .ok (.ret (.bool true)) ∧ OldK s.heap s'.heap ∧ s'.os = s.os ∧ AllBare s'.gens) s := by
  have go : ∀ H : Hp, Only H → SqL K H a (ns.map V.int) → HOk P w H s.heap → (∀ b, b ≠ a → H b = none) → (K.lookup a = none ∨ H a = none) →
      codeAny (model P w) callerA (.call (.ref fa) ⟨[.ref a], []⟩) (fun r s' => r = .ok (.ret (.bool true)) ∧ OldK s.heap s'.heap ∧ s'.os = s.os ∧ AllBare s'.gens) s := by
    intro H only sq hok off way
    have up : ∀ {b : Addr} {o : Obj}, s.heap.get? b = some o → H b = none → (hidT s.heap H).get? b = some o := fun e n => hidT_get e n
    have notA : ∀ {b : Addr} {o : Obj} {es : Array DictEntry} {n : Nat}, s.heap.get? b = some o → o.data = .dict es n → H b = none := fun {b o es n} e d => by
      by_cases z : b = a
      · rw [z, ha] at e
        cases e
        cases (show Data.seq vs.toArray _ = Data.dict es n from d)
      · exact off b z
    have lift : ∀ {b : Addr} {m : Str → Option Value}, s.heap.Ns b m → (hidT s.heap H).Ns b m := fun ⟨o, es, n, e, d, r⟩ => ⟨o, es, n, up e (notA e d), d, r⟩
    have inB : K.In (hidT s.heap H) := fun b o e => up (inK b o e) (by
      by_cases z : b = a
      · rcases way with z2 | z2
        · rw [z, z2] at e
          cases e
        · rw [z]
          exact z2
      · exact off b z)
    obtain ⟨mc, l1, l2⟩ := noL
    have e0 : Env0 P w K mg (hidT s.heap H) callerA [] s H := ⟨rfl, ⟨inB, lift nsM, ⟨mb, lift nsB, boot⟩, ⟨mc, lift l1, l2⟩⟩, fun _ _ e => of_hidT e, Nat.le_of_eq (hidT_size _ _), trivial, fun b z => (nomatch (show b ∈ ([] : List Addr) from z)), hok, .of_eq gens⟩
    refine codeAny_mono ((F _ inB (lift nsM)).goes callerA [] s H ⟨[.ref a], []⟩ [.ref a] [.ref a] _ _ rfl room e0 (bind s (.ref a)) (.cons rfl .nil) (wish H only sq)) fun fin s2 z => ?_
    match fin, z with
    | .error err, z => exact (noX H err s2 z).elim
    | .ok .next, z => exact z.elim
    | .ok .brk, z => exact z.elim
    | .ok .cont, z => exact z.elim
    | .ok (.ret u), ⟨v, H2, os, bare, un, hok2, rel, ev⟩ =>
      cases (show v = V.bl true from ev)
      cases (show u = Value.bool true from rel)
      refine ⟨rfl, OldK.of_keep fun b o e => ?_, os, bare⟩
      rcases only b with z | ⟨ob, xs, z⟩
      · exact un.keep b o e z (fun y => nomatch (show b ∈ ([] : List Addr) from y)) (fun y => nomatch y)
      · obtain ⟨e1, _⟩ := hok b _ z
        obtain ⟨e2, _⟩ := hok2 b _ (un.frzs b ob _ z)
        rw [e1] at e
        cases e
        exact e2
  have rel := vals_ints hin
  have lenV := hin.length
  cases look : K.lookup a with
  | some o =>
    have e := inK a o look
    rw [ha] at e
    cases e
    refine go (fun _ => none) (fun _ => .inl rfl) (.inr ⟨_, vs.toArray, _, look, rfl, rfl, rfl, ?_, ?_⟩) (fun b u z => nomatch (show (none : Option HO) = some u from z)) (fun _ _ => rfl) (.inr rfl)
    · rw [List.size_toArray, lenV]
      exact few
    · simpa using rel
  | none =>
    have one : (fun b => if b = a then some (HO.frz { cls := .type "list", data := .seq vs.toArray } (.lst (ns.map V.int))) else none) a = some (HO.frz { cls := .type "list", data := .seq vs.toArray } (.lst (ns.map V.int))) := if_pos rfl
    refine go (fun b => if b = a then some (.frz { cls := .type "list", data := .seq vs.toArray } (.lst (ns.map V.int))) else none) (fun b => ?_) (.inl (.inr ⟨_, one⟩)) (fun b u z => ?_) (fun b hb => if_neg hb) (.inl look)
    · by_cases hb : b = a
      · rw [hb]
        exact .inr ⟨_, _, one⟩
      · exact .inl (if_neg hb)
    · by_cases hb : b = a
      · subst hb
        have z2 := one.symm.trans z
        cases z2
        exact ⟨ha, by rw [List.length_map]; exact few, vs, _, rel, ha⟩
      · have z2 := (if_neg hb).symm.trans z
        cases z2
end GD
/-! the end of a law whose defs make lambdas, where nothing is being shown -/
namespace GD
open PySem PySem.Spec PyProof.Rows L2
abbrev tab0 : Obj := { cls := .none, data := .fields #[] }
theorem law_callGT {P : Program} {w : World} {K : PySem.W.Frag} {mg mb : Str → Option Value} {CX : CXT} {k : Nat} {fa a : Addr} {cs : List (Addr × Addr)} {fd : FuncData} {x : Str} {sp : Sp} {s : Shared} {vs : List Value} {ns : List Int}
    (inK : K.In s.heap) (nsM : s.heap.Ns mainGlobals mg) (nsB : s.heap.Ns builtinsNs mb) (boot : ∀ x : Str, x ≠ "__name__" → mb x = bootBuiltins x) (noL : s.heap.NoLimit) (gens : s.gens = #[])
    (tabs : ∀ p ∈ cs, PySem.W.CodeHd s.heap p.1 p.2 ∧ s.heap.get? p.2 = some tab0) (offK : ∀ p ∈ cs, K.lookup p.2 = none)
    (blt : ∃ (bm : Addr) (ob : Obj), mg "__builtins__" = some (.ref bm) ∧ bm ≠ builtinsNs ∧ s.heap.get? bm = some ob ∧ ob.cls = .type "module" ∧ ob.dict = some builtinsNs ∧ ob.data = .plain)
    (ha : s.heap.get? a = some { cls := .type "list", data := .seq vs.toArray }) (hin : IntsAre vs ns) (few : ns.length ≤ sizeLine) (room : Room k callerA)
    (F : ∀ base : Heap, K.In base → base.Ns mainGlobals mg → (∀ p ∈ cs, LamX.TabB base mg p.1 p.2) → FnG P w K mg base CX k fa fd [x] sp) (bind : ∀ (s : Shared) (u : Value), BindsTo s fd ⟨[u], []⟩ [(x, u)])
    (wish : ∀ H : Hp, (∀ p ∈ cs, H p.2 = some (.tbl #[])) → SqL K H a (ns.map V.int) → sp [.ref a] H (fun v _ => v = .bl true) fun _ _ _ => False) (noX : ∀ H e s', CX [] H s (fun _ _ _ => False) e s' → False) :
    codeAny (model P w) callerA (.call (.ref fa) ⟨[.ref a], []⟩) (fun r s' => r = .ok (.ret (.bool true)) ∧ OldK s.heap s'.heap ∧ s'.os = s.os ∧ AllBare s'.gens) s := by
  let tb : Addr → Prop := fun b => ∃ p ∈ cs, p.2 = b
  have tbd : ∀ b, Decidable (tb b) := fun b => Classical.propDecidable _
  have tbo : ∀ {b : Addr}, tb b → s.heap.get? b = some tab0 := fun {b} ⟨p, hp, e⟩ => by
    rw [← e]
    exact (tabs p hp).2
  have atb : ¬ tb a := fun z => by
    have e := tbo z
    rw [ha] at e
    have e2 := congrArg Obj.data (Option.some.inj e)
    cases (show Data.seq vs.toArray _ = Data.fields #[] from e2)
  have go : ∀ H : Hp, (∀ b, tb b → H b = some (.tbl #[])) → (∀ b, b ≠ a → ¬ tb b → H b = none) → (H a = none ∨ ∃ ob xs, H a = some (.frz ob (.lst xs))) → SqL K H a (ns.map V.int) → HOk P w H s.heap → (K.lookup a = none ∨ H a = none) →
      codeAny (model P w) callerA (.call (.ref fa) ⟨[.ref a], []⟩) (fun r s' => r = .ok (.ret (.bool true)) ∧ OldK s.heap s'.heap ∧ s'.os = s.os ∧ AllBare s'.gens) s := by
    intro H tbH off onA sq hok way
    have up : ∀ {b : Addr} {o : Obj}, s.heap.get? b = some o → H b = none → (hidT s.heap H).get? b = some o := fun e n => hidT_get e n
    have plain : ∀ {b : Addr} {o : Obj}, s.heap.get? b = some o → (∀ us n, o.data ≠ .seq us n) → o.data ≠ .fields #[] → H b = none := fun {b o} e n1 n2 => by
      by_cases za : b = a
      · rw [za, ha] at e
        cases e
        exact absurd rfl (n1 _ _)
      · refine off b za fun z => ?_
        rw [tbo z] at e
        cases e
        exact n2 rfl
    have lift : ∀ {b : Addr} {m : Str → Option Value}, s.heap.Ns b m → (hidT s.heap H).Ns b m := fun ⟨o, es, n, e, d, r⟩ => ⟨o, es, n, up e (plain e (fun us n z => by rw [d] at z; cases z) (fun z => by rw [d] at z; cases z)), d, r⟩
    have inB : K.In (hidT s.heap H) := fun b o e => up (inK b o e) (by
      by_cases za : b = a
      · rcases way with z2 | z2
        · rw [za, z2] at e
          cases e
        · rw [za]
          exact z2
      · refine off b za fun ⟨p, hp, z⟩ => ?_
        rw [← z, offK p hp] at e
        cases e)
    have TB : ∀ p ∈ cs, LamX.TabB (hidT s.heap H) mg p.1 p.2 := fun p hp => by
      obtain ⟨cd, tp⟩ := tabs p hp
      refine ⟨?_, ?_, fun z => ?_⟩
      · obtain ⟨o, us, f1, f2, f3, f4, f5, f6, f7, e1, g1, g2, g3, rest⟩ := cd
        refine ⟨o, us, f1, f2, f3, f4, f5, f6, f7, up e1 (plain e1 (fun us n z => by rw [g2] at z; cases z) (fun z => ?_)), g1, g2, g3, rest⟩
        rw [g2] at z
        cases z
        simp at g3
      · obtain ⟨bm, ob, b1, b2, b3, b4, b5, b6⟩ := blt
        refine ⟨bm, ob, b1, b2, fun z => ?_, fun z => ?_, up b3 (plain b3 (fun us n z => by rw [b6] at z; cases z) (fun z => by rw [b6] at z; cases z)), b4, b5, b6⟩
        · obtain ⟨o, es, ep, e, d, _⟩ := nsM
          rw [z, e] at b3
          cases b3
          rw [d] at b6
          cases b6
        · rw [z, tp] at b3
          cases b3
          cases b6
      · obtain ⟨o, es, ep, e, d, _⟩ := nsM
        rw [z, tp] at e
        cases e
        cases d
    obtain ⟨mc, l1, l2⟩ := noL
    have e0 : Env0 P w K mg (hidT s.heap H) callerA [] s H := ⟨rfl, ⟨inB, lift nsM, ⟨mb, lift nsB, boot⟩, ⟨mc, lift l1, l2⟩⟩, fun _ _ e => of_hidT e, Nat.le_of_eq (hidT_size _ _), trivial, fun b z => (nomatch (show b ∈ ([] : List Addr) from z)), hok, .of_eq gens⟩
    refine codeAny_mono ((F _ inB (lift nsM) TB).goes callerA [] s H ⟨[.ref a], []⟩ [.ref a] [.ref a] _ _ rfl room e0 (bind s (.ref a)) (.cons rfl .nil) (wish H (fun p hp => tbH _ ⟨p, hp, rfl⟩) sq)) fun fin s2 z => ?_
    match fin, z with
    | .error err, z => exact (noX H err s2 z).elim
    | .ok .next, z => exact z.elim
    | .ok .brk, z => exact z.elim
    | .ok .cont, z => exact z.elim
    | .ok (.ret u), ⟨v, H2, os, bare, un, hok2, rel, ev⟩ =>
      cases (show v = V.bl true from ev)
      cases (show u = Value.bool true from rel)
      have kept : ∀ b o, ¬ tb b → s.heap.get? b = some o → s2.heap.get? b = some o := fun b o nb e => by
        have free : H b = none → s2.heap.get? b = some o := fun n => un.keep b o e n (fun y => nomatch (show b ∈ ([] : List Addr) from y)) (fun y => nomatch y)
        by_cases za : b = a
        · rcases onA with z | ⟨ob, xs, z⟩
          · exact free (by rw [za]; exact z)
          · obtain ⟨e1, _⟩ := hok a _ z
            obtain ⟨e2, _⟩ := hok2 a _ (un.frzs a ob _ z)
            rw [za, e1] at e
            cases e
            rw [za]
            exact e2
        · exact free (off b za nb)
      have grew : ∀ b, tb b → ∃ more : Array Value, s2.heap.get? b = some { cls := .none, data := .fields more } := fun b hb => by
        obtain ⟨more, z⟩ := un.tbls b #[] (tbH b hb)
        exact ⟨_, hok2 b _ z⟩
      refine ⟨rfl, ⟨fun b o e => ?_, fun b o e => ?_⟩, os, bare⟩
      · by_cases hb : tb b
        · obtain ⟨more, hm⟩ := grew b hb
          have t0 := tbo hb
          rw [t0] at e
          cases e
          obtain ⟨p, hp, ep⟩ := hb
          rw [← ep] at hm t0 ⊢
          exact .inr (.inl ⟨((tabs p hp).1.tab t0).isCodeTable, rfl, #[], more, rfl, by rw [Array.empty_append]; exact hm⟩)
        · exact .inl (kept b o hb e)
      · by_cases hb : tb b
        · obtain ⟨more, hm⟩ := grew b hb
          exact ⟨_, hm⟩
        · exact ⟨o, kept b o hb e⟩
  have rel := vals_ints hin
  have lenV := hin.length
  cases look : K.lookup a with
  | some o =>
    have e := inK a o look
    rw [ha] at e
    cases e
    refine go (fun b => @ite _ (tb b) (tbd b) (some (.tbl #[])) none) (fun b hb => if_pos hb) (fun b _ hb => if_neg hb) (.inl (if_neg atb)) (.inr ⟨_, vs.toArray, _, look, rfl, rfl, rfl, ?_, ?_⟩) (fun b u z => ?_) (.inr (if_neg atb))
    · rw [List.size_toArray, lenV]
      exact few
    · simpa using rel
    · by_cases hb : tb b
      · have z2 := (if_pos hb).symm.trans z
        cases z2
        exact tbo hb
      · have z2 := (if_neg hb).symm.trans z
        cases z2
  | none =>
    have one : (fun b => if b = a then some (HO.frz { cls := .type "list", data := .seq vs.toArray } (.lst (ns.map V.int))) else @ite _ (tb b) (tbd b) (some (.tbl #[])) none) a = some (HO.frz { cls := .type "list", data := .seq vs.toArray } (.lst (ns.map V.int))) := if_pos rfl
    refine go (fun b => if b = a then some (.frz { cls := .type "list", data := .seq vs.toArray } (.lst (ns.map V.int))) else @ite _ (tb b) (tbd b) (some (.tbl #[])) none) (fun b hb => ?_) (fun b na hb => ?_) (.inr ⟨_, _, one⟩) (.inl (.inr ⟨_, one⟩)) (fun b u z => ?_) (.inl look)
    · exact (if_neg fun z => atb (by rw [← z]; exact hb)).trans (if_pos hb)
    · exact (if_neg na).trans (if_neg hb)
    · by_cases za : b = a
      · subst za
        have z2 := one.symm.trans z
        cases z2
        exact ⟨ha, by rw [List.length_map]; exact few, vs, _, rel, ha⟩
      · by_cases hb : tb b
        · have z2 := ((if_neg za).trans (if_pos hb)).symm.trans z
          cases z2
          exact tbo hb
        · have z2 := ((if_neg za).trans (if_neg hb)).symm.trans z
          cases z2
end GD
namespace GD
open PySem PySem.Spec PyProof.Rows L2
/-- a def of the top whose code object is at c -/
structure FunC (K : PySem.W.Frag) (x q : Str) (st : Stmt) (f : Addr) (fd : FuncData) (c : Addr) : Prop where
  ex : ∃ (oc : Value) (od : Option Addr) (kV doc pm : Value) (an : Option Addr) (ct : Value) (osl : Array (Option Value)),
    fd = PySem.W.fnOf x q (defArgs st) (defBody st) (defScope st) .none kV doc pm an (.ref c) ct ∧ K.lookup f = some ⟨oc, od, .func fd, osl⟩ ∧ PySem.W.codeIn K (.ref c) q = true
  kp : PySem.W.keepIn K (.ref f) = true
section
variable {P : Program} {w : World} {K : PySem.W.Frag} {mg : Str → Option Value} {base : Heap} {k : Nat} {f c : Addr} {fd : FuncData} {ps : List Str} {sp : Sp}
theorem fun_okGC {x q : Str} {st : Stmt} {N : List Str} (F : FunC K x q st f fd c) (S : FnScope N ps (defScope st)) (few : ∀ vs H Q E, sp vs H Q E → vs.length = ps.length)
    (body : ∀ (A : Around) (out : List Env) (s : Shared) (H : Hp) (vs : List V) (Q : VK) (E : XK), Calm (A.deeper (envOfC q (defScope st) s.heap.objs.size f (.ref c))) → Room k (A.deeper (envOfC q (defScope st) s.heap.objs.size f (.ref c))) → sp vs H Q E →
      ∃ t, PSs (cxOf CX0 P w K mg base N q (defScope st) f (.ref c) A out s H E).nox (defBody st) t ∧ t { nx := fun _ H' => Q .non H', rt := Q } (start N vs) H) : FnG P w K mg base CX0 (k + 1) f fd ps sp := by
  obtain ⟨oc, od, kV, doc, pm, an, ct, osl, rfl, look, hcd⟩ := F.ex
  constructor
  · exact few
  intro A out s H args us vs Q E calm room e0 bound rel wish
  have keep : ∀ b o, base.get? b = some o → s.heap.get? b = some o := fun b o e => (e0.bs b o e).1
  have inK := e0.mod.kin.keeps keep
  have noL := e0.mod.nolimit.keeps keep
  have size := few _ _ _ _ wish
  refine codeAny_call_function room.depth (inK _ _ look) rfl S.co S.gen rfl (PySem.W.codeRec_of inK hcd) (bound _ _ _ _ ?_)
  refine wpAny_newFunctionEnv_cells S.kind (fun y hy => ?_) fun env he s1 x => ?_
  · rcases S.par y.1 (List.of_mem_zip hy).1 with z | z
    · exact .inl z
    · exact .inr ⟨z, PySem.W.cellsFrom_some _ _ _ (.inl z)⟩
  subst he
  refine ⟨noL.keeps x.toInCall.keep, codeAny_func ?_⟩
  obtain ⟨t, d, r⟩ := body A out s H vs Q E calm (room.deeper _) wish
  have J := inv_start (CX := CX0) (E := E) S room.hd e0 size rel x
  refine wpAny_mono (d.nox.run [] s1 (start N vs) H _ J r) (fun fl s2 z => ?_) fun _ _ z => z
  cases fl with
  | brk => exact z.elim fun _ z => z.elim fun _ z => z.2.elim
  | cont => exact z.elim fun _ z => z.elim fun _ z => z.2.elim
  | next =>
    obtain ⟨τ, H2, J2, q⟩ := z
    exact ⟨.non, H2, J2.os, J2.bare, J2.base, J2.hok, rfl, q⟩
  | ret u =>
    obtain ⟨v, τ, H2, J2, rv, q⟩ := z
    exact ⟨v, H2, J2.os, J2.bare, J2.base, J2.hok, rv, q⟩
end
end GD
namespace CC
open PySem L2 LamX
/-! the heap without its tables of code objects -/
def isTb : HO → Bool
  | .tbl _ => true
  | _ => false
def nt (H : Hp) : Hp := fun b => (H b).filter fun o => !isTb o
section
variable {H H' : Hp} {K : PySem.W.Frag} {b a : Addr} {o : HO} {xs : List V}
theorem nt_at (e : nt H b = some o) : H b = some o ∧ isTb o = false := by
  unfold nt at e
  rw [Option.filter_eq_some_iff] at e
  exact ⟨e.1, by simpa using e.2⟩
theorem nt_of (e : H b = some o) (n : isTb o = false) : nt H b = some o := by
  unfold nt
  rw [Option.filter_eq_some_iff]
  exact ⟨e, by rw [n]; rfl⟩
theorem nt_le : Same (nt H) H := fun b o e => (nt_at e).1
theorem tb_no (n : isTb o = false) (ps : Array Value) : o ≠ .tbl ps := fun z => by
  rw [z] at n
  cases n
theorem ext_nt (e : ExtN H H') : Same (nt H) (nt H') := fun b o q => by
  obtain ⟨q, n⟩ := nt_at q
  exact nt_of (e b o q (tb_no n)) n
theorem sql_nt (h : SqL K H a xs) : SqL K (nt H) a xs := by
  rcases h with (h | ⟨o, h⟩) | h
  · exact .inl (.inl (nt_of h rfl))
  · exact .inl (.inr ⟨o, nt_of h rfl⟩)
  · exact .inr h
theorem sqt_nt (h : SqT K H a xs) : SqT K (nt H) a xs := by
  rcases h with (h | ⟨o, h⟩) | h
  · exact .inl (.inl (nt_of h rfl))
  · exact .inl (.inr ⟨o, nt_of h rfl⟩)
  · exact .inr h
theorem nt_T : SameT H (nt H) := ⟨fun b xs h => nt_of h rfl, fun b o xs h => nt_of h rfl⟩
theorem TableAt.nt {C x : Addr} {w : Nat} {rows : List (List Nat)} (h : TableAt K C H x w rows) : TableAt K C (nt H) x w rows := by
  obtain ⟨dx, g, us, h1, h2, h3⟩ := h
  exact ⟨dx, g, us, nt_of h1 rfl, nt_of h2 rfl, gds_T nt_T h3⟩
theorem TableAt.ext {C x : Addr} {w : Nat} {rows : List (List Nat)} (h : TableAt K C H x w rows) (e : ExtN H H') : TableAt K C H' x w rows := (h.nt.same (ext_nt e)).same nt_le
/-- what stands before a lambda's body: a raise leaves it -/
theorem takes_lam {X : Cx} {A : Around} {outer : List Env} {s : Shared} {E : XK} {scope : Scope} {f c' : Addr} : Takes (lamCx X A outer s H E scope f c') (fun cls d _ H' => E cls d H') := takes_of rfl rfl rfl rfl
end
end CC
namespace CC
open PySem L2 LamX
section
variable {H H' : Hp} {K : PySem.W.Frag}
mutual
theorem dp_nt : ∀ (d : PyData) (v : V), Dp K H v d → Dp K (nt H) v d
  | .none, _, h => by cases h; exact .non
  | .bool b, _, h => by cases h; exact .bl b
  | .int i, _, h => by cases h; exact .int i
  | .str x, _, h => by cases h; exact .str x
  | .list ds, _, h => by
    cases h with
    | lst hs ha => exact .lst (sql_nt hs) (dps_nt ds _ ha)
  | .tuple ds, _, h => by
    cases h with
    | tup hs ha => exact .tup (sqt_nt hs) (dps_nt ds _ ha)
  | .dict _, _, h => by cases h
theorem dps_nt : ∀ (ds : List PyData) (vs : List V), DpAll K H vs ds → DpAll K (nt H) vs ds
  | [], _, h => by cases h; exact .nil
  | d :: ds, _, h => by
    cases h with
    | cons h1 h2 => exact .cons (dp_nt d _ h1) (dps_nt ds _ h2)
end
theorem dps_ext (e : ExtN H H') (ds : List PyData) (vs : List V) (h : DpAll K H vs ds) : DpAll K H' vs ds := dps_same ((ext_nt e).trans nt_le) ds vs (dps_nt ds vs h)
theorem ext_lst {b : Addr} {xs : List V} (e : ExtN H H') (h : H b = some (.lst xs)) : H' b = some (.lst xs) := e _ _ h (tb_no rfl)
theorem ext_tup {b : Addr} {xs : List V} (e : ExtN H H') (h : H b = some (.tup xs)) : H' b = some (.tup xs) := e _ _ h (tb_no rfl)
end
end CC
namespace CC
open PySem L2 TL LamX PyProof.Rows
theorem new_view' {H : Hp} {p : Addr} {o : HO} (h : H p = none) : Same H (wo (upd H p o) p) := fun b u e => by
  rw [wo_ne (ne_of_none e h), upd_ne (ne_of_none e h)]
  exact e
/-- what a law with lambdas keeps: its script, the source, the tables of code objects -/
structure W3 (K : PySem.W.Frag) (Ts : List (Addr × Str)) (H : Hp) (a p : Addr) (ns : List Int) : Prop where
  scr : SqL K (wo H p) a (ns.map V.int)
  src : Src H p
  tab : Tabs Ts H
section
variable {K : PySem.W.Frag} {Ts : List (Addr × Str)} {H H' : Hp} {a p l t : Addr} {ns : List Int} {w v : Nat} {rows : List (List Nat)}
theorem tabs_ran (t : Tabs Ts H) (s : Src H p) (r : Ran H H' p) : Tabs Ts H' := fun q hq => by
  obtain ⟨o, ho, i1, i2, i3, eo, _⟩ := s
  rw [eo] at ho
  obtain ⟨ps, h1, h2, h3⟩ := t q hq
  refine ⟨ps, r.at_ h1 (fun z => by rw [z, ho] at h1; cases h1), h2, fun pos cv hc => ?_⟩
  obtain ⟨c, e1, e2⟩ := h3 pos cv hc
  exact ⟨c, e1, r.at_ e2 (fun z => by rw [z, ho] at e2; unfold CodeO at e2; cases e2)⟩
theorem W3.grow (z : W3 K Ts H a p ns) (e : Same H H') : W3 K Ts H' a p ns := by
  obtain ⟨o, h1, h2⟩ := z.src
  exact ⟨same_l (wo_same e) z.scr, ⟨o, e _ _ h1, h2⟩, z.tab.ext e⟩
theorem W3.run (z : W3 K Ts H a p ns) (r : Ran H H' p) : W3 K Ts H' a p ns := ⟨same_l r.same z.scr, r.src, tabs_ran z.tab z.src r⟩
theorem W3.ext (z : W3 K Ts H a p ns) (e : ExtN H H') (t : Tabs Ts H') : W3 K Ts H' a p ns := by
  obtain ⟨o, h1, h2⟩ := z.src
  obtain ⟨i1, i2, i3, eo, _⟩ := id h2
  refine ⟨same_l (fun b u q => ?_) (sql_nt z.scr), ⟨o, e _ _ h1 (fun ps q => by rw [eo] at q; cases q), h2⟩, t⟩
  obtain ⟨q, n⟩ := nt_at q
  have bp : b ≠ p := fun y => by
    rw [y, wo_at] at q
    cases q
  rw [wo_ne bp] at q ⊢
  exact e _ _ q (tb_no n)
/-- a draw leaves a list of rules -/
theorem RulesAt.run {C r : Addr} {rs : List R} (h : RulesAt K C H r w rs) (s : Src H p) (e : Ran H H' p) : RulesAt K C H' r w rs := by
  obtain ⟨o, hp, z1, z2, z3, rfl, _⟩ := id s
  obtain ⟨dr, gr, ur, r1, r2, r3⟩ := h
  exact ⟨dr, gr, ur, e.at_ r1 (ne_of r1 hp (by intro z; cases z)), (e.T s).tup _ _ r2, rds_T (e.T s) r3⟩
theorem TableAt.run {C r : Addr} (h : TableAt K C H r w rows) (s : Src H p) (e : Ran H H' p) : TableAt K C H' r w rows := by
  obtain ⟨o, hp, z1, z2, z3, rfl, _⟩ := id s
  obtain ⟨dr, gr, ur, r1, r2, r3⟩ := h
  exact ⟨dr, gr, ur, e.at_ r1 (ne_of r1 hp (by intro z; cases z)), (e.T s).tup _ _ r2, gds_T (e.T s) r3⟩
end
end CC
namespace CC
open PySem L2 TL LamX
/-! ### logs of all four classes: with a limit, with the tables that were -/
def lmF : Option Nat → List (Str × V)
  | none => []
  | some m => [("limit", .int (m : Int))]
def fldM (lm : Option Nat) (b h p : Addr) : List (Str × V) := fldL b h p ++ lmF lm
theorem lk_app (a b : List (Str × V)) (m : Str) : (a ++ b).lookup m = match a.lookup m with | some v => some v | none => b.lookup m := by
  induction a with
  | nil => rfl
  | cons x a ih =>
    obtain ⟨y, v⟩ := x
    show ((y, v) :: (a ++ b)).lookup m = _
    rw [List.lookup_cons, List.lookup_cons]
    split
    · rfl
    · exact ih
section
variable (lm : Option Nat) (b h p t : Addr)
theorem fldM_b : (fldM lm b h p).lookup ("book" : Str) = some (.ref b) := by
  unfold fldM
  rw [lk_app, fldL_b]
theorem fldM_h : (fldM lm b h p).lookup ("held" : Str) = some (.ref h) := by
  unfold fldM
  rw [lk_app, fldL_h]
theorem fldM_p : (fldM lm b h p).lookup ("past" : Str) = some (.ref p) := by
  unfold fldM
  rw [lk_app, fldL_p]
theorem fldM_l (m : Nat) : (fldM (some m) b h p).lookup ("limit" : Str) = some (.int (m : Int)) := by
  unfold fldM
  rw [lk_app, fldL_no _ _ _ (by decide +kernel) (by decide +kernel) (by decide +kernel)]
  show ([(("limit" : Str), V.int (m : Int))] : List (Str × V)).lookup ("limit" : Str) = _
  rw [List.lookup_cons, beq_self_eq_true]
theorem fldM_no {m : Str} (h1 : ¬ m = "past") (h2 : ¬ m = "held") (h3 : ¬ m = "book") (h4 : ¬ m = "limit") : (fldM lm b h p).lookup m = none := by
  unfold fldM
  rw [lk_app, fldL_no _ _ _ h1 h2 h3]
  cases lm with
  | none => rfl
  | some k =>
    show ([(("limit" : Str), V.int (k : Int))] : List (Str × V)).lookup m = none
    rw [List.lookup_cons, show (m == ("limit" : Str)) = false from beq_eq_false_iff_ne.mpr h4]
    rfl
theorem fldM_held : putF "held" (.ref t) (fldM lm b h p) = fldM lm b t p := by
  show putF "held" (.ref t) (("book", .ref b) :: ("held", .ref h) :: ("past", .ref p) :: lmF lm) = _
  rw [putF_on n_bh, putF_at]
  rfl
theorem fldM_len : (fldM lm b h p).length < 1000 := by
  cases lm with
  | none => exact (by decide : 3 < 1000)
  | some k => exact (by decide : 4 < 1000)
end
/-- the tables that were, by their rows -/
inductive TabsL (K : PySem.W.Frag) (CT : Addr) (H : Hp) (w : Nat) : List V → List (List (List Nat)) → Prop
  | nil : TabsL K CT H w [] []
  | cons {t : Addr} {rows : List (List Nat)} {us : List V} {ps : List (List (List Nat))} : TableAt K CT H t w rows → TabsL K CT H w us ps → TabsL K CT H w (.ref t :: us) (rows :: ps)
section
variable {K : PySem.W.Frag} {CT t : Addr} {H H' : Hp} {w : Nat} {us : List V} {ps : List (List (List Nat))} {rows : List (List Nat)}
theorem TabsL.map (f : ∀ t rows, TableAt K CT H t w rows → TableAt K CT H' t w rows) (h : TabsL K CT H w us ps) : TabsL K CT H' w us ps := by
  induction h with
  | nil => exact .nil
  | cons a _ ih => exact .cons (f _ _ a) ih
theorem TabsL.same (e : Same H H') (h : TabsL K CT H w us ps) : TabsL K CT H' w us ps := h.map fun _ _ a => a.same e
theorem TabsL.len (h : TabsL K CT H w us ps) : us.length = ps.length := by
  induction h with
  | nil => rfl
  | cons _ _ ih => rw [List.length_cons, List.length_cons, ih]
theorem TabsL.snoc (h : TabsL K CT H w us ps) (a : TableAt K CT H t w rows) : TabsL K CT H w (us ++ [.ref t]) (ps ++ [rows]) := by
  induction h with
  | nil => exact .cons a .nil
  | cons b _ ih => exact .cons b ih
theorem TabsL.last (h : TabsL K CT H w us (ps ++ [rows])) : ∃ vs t, us = vs ++ [.ref t] ∧ TabsL K CT H w vs ps ∧ TableAt K CT H t w rows := by
  induction ps generalizing us with
  | nil =>
    cases h with
    | cons a b =>
      cases b
      exact ⟨[], _, rfl, .nil, a⟩
  | cons p ps ih =>
    cases h with
    | cons a b =>
      obtain ⟨vs, t, rfl, h1, h2⟩ := ih b
      exact ⟨_ :: vs, t, rfl, .cons a h1, h2⟩
end
structure LgAt (K : PySem.W.Frag) (C CR CT : Addr) (lm : Option Nat) (H : Hp) (x r q : Addr) (w : Nat) (rs : List R) (rows : List (List Nat)) (ps : List (List (List Nat))) : Prop where
  at_ : ∃ dx t, H x = some (.ins C dx (fldM lm r t q)) ∧ TableAt K CT (wos H [x, q]) t w rows
  book : RulesAt K CR (wos H [x, q]) r w rs
  past : ∃ hs, H q = some (.lst hs) ∧ TabsL K CT (wos H [x, q]) w hs ps
section
variable {K : PySem.W.Frag} {C CR CT : Addr} {lm : Option Nat} {H H' H2 : Hp} {x r q : Addr} {w : Nat} {rs : List R} {rows rows' : List (List Nat)} {ps ps' : List (List (List Nat))}
theorem LgAt.ne (h : LgAt K C CR CT lm H x r q w rs rows ps) : x ≠ q := by
  obtain ⟨dx, t, h1, _⟩ := h.at_
  obtain ⟨hs, h2, _⟩ := h.past
  exact ne_of h1 h2 (by intro z; cases z)
theorem LgAt.keep (h : LgAt K C CR CT lm H x r q w rs rows ps) (e : Same H H') : LgAt K C CR CT lm H' x r q w rs rows ps := by
  obtain ⟨⟨dx, t, h1, h2⟩, h3, ⟨hs, h4, h5⟩⟩ := h
  have k : Same (wos H [x, q]) (wos H' [x, q]) := (Kp.of e).same
  exact ⟨⟨dx, t, e _ _ h1, h2.same k⟩, h3.same k, ⟨hs, e _ _ h4, h5.same k⟩⟩
/-- a draw leaves a log as it is -/
theorem LgAt.ran {p : Addr} (L : LgAt K C CR CT lm H x r q w rs rows ps) (src : Src H p) (qp : q ≠ p) (e : Ran H H' p) : LgAt K C CR CT lm H' x r q w rs rows ps := by
  obtain ⟨o, hp, z1, z2, z3, rfl, _⟩ := id src
  have T := e.T src
  have key : ∀ b o, wos H [x, q] b = some o → o ≠ .lst [.int z1, .int z2, .int z3] → wos H' [x, q] b = some o := fun b o eb no => by
    obtain ⟨nb, eb⟩ := wos_at eb
    rw [wos_in nb]
    exact e.at_ eb fun z => no (by rw [z, hp] at eb; exact (Option.some.inj eb).symm)
  have TT : SameT (wos H [x, q]) (wos H' [x, q]) := ⟨fun b xs e => key b _ e (by intro z; cases z), fun b o xs e => key b _ e (by intro z; cases z)⟩
  have tab : ∀ t rows, TableAt K CT (wos H [x, q]) t w rows → TableAt K CT (wos H' [x, q]) t w rows := fun t rows ⟨dt, gt, ut, t1, t2, t3⟩ => ⟨dt, gt, ut, key _ _ t1 (by intro z; cases z), key _ _ t2 (by intro z; cases z), gds_T TT t3⟩
  obtain ⟨⟨dx, t, h1, h2⟩, ⟨dr, gr, ur, r1, r2, r3⟩, ⟨hs, h4, h5⟩⟩ := L
  exact ⟨⟨dx, t, e.at_ h1 (ne_of h1 hp (by intro z; cases z)), tab _ _ h2⟩, ⟨dr, gr, ur, key _ _ r1 (by intro z; cases z), key _ _ r2 (by intro z; cases z), rds_T TT r3⟩, ⟨hs, e.at_ h4 qp, h5.map tab⟩⟩
/-- a change of the log leaves tuples -/
theorem LgAt.T (L : LgAt K C CR CT lm H x r q w rs rows ps) (k : Kp [x, q] H H') : SameT H H' := by
  obtain ⟨⟨dx, t, h1, _⟩, _, ⟨hs, h4, _⟩⟩ := L
  have T := wos2_T h1 h4
  exact T.trans (same_T k.to)
theorem LgAt.out (L : LgAt K C CR CT lm H x r q w rs rows ps) {b : Addr} {o : HO} (e : H b = some o) (n1 : ∀ C dx t, o ≠ .ins C dx (fldM lm r t q)) (n2 : ∀ hs, o ≠ .lst hs) : b ∉ [x, q] := by
  obtain ⟨dx, t, hx, _⟩ := L.at_
  obtain ⟨hs, hq, _⟩ := L.past
  intro z
  simp only [List.mem_cons, List.not_mem_nil, or_false] at z
  rcases z with z | z
  · rw [z, hx] at e
    exact n1 _ _ _ (Option.some.inj e).symm
  · rw [z, hq] at e
    exact n2 _ (Option.some.inj e).symm
theorem fldT_ne {m : Nat} {g r t q : Addr} : fldT m g ≠ fldM lm r t q := fun z => by
  have := congrArg (fun l => List.lookup ("book" : Str) l) z
  have e : (fldT m g).lookup ("book" : Str) = none := by
    unfold fldT flT0
    rw [lookup_putF, if_neg (by decide +kernel), lookup_putF, if_neg (by decide +kernel)]
    rfl
  simp only [fldM_b, e] at this
  cases this
theorem flds_ne {m : Nat} {g r t q : Addr} : flds m g ≠ fldM lm r t q := fun z => by
  have := congrArg (fun l => List.lookup ("book" : Str) l) z
  rw [flds_no _ _ (by decide +kernel) (by decide +kernel)] at this
  simp only [fldM_b] at this
  cases this
/-- a table beside a log stands when the log changes -/
theorem LgAt.tab {t : Addr} {v : Nat} {rows2 : List (List Nat)} (L : LgAt K C CR CT lm H x r q w rs rows ps) (h : TableAt K CT H t v rows2) : TableAt K CT (wos H [x, q]) t v rows2 := by
  obtain ⟨dt, g, us, h1, h2, h3⟩ := h
  obtain ⟨dx, t0, hx, _⟩ := L.at_
  obtain ⟨hs, hq, _⟩ := L.past
  refine ⟨dt, g, us, ?_, ?_, gds_T (wos2_T hx hq) h3⟩
  · rw [wos_in (L.out h1 (fun _ _ _ z => fldT_ne (by injection z)) (fun _ z => by cases z))]
    exact h1
  · rw [wos_in (L.out h2 (fun _ _ _ z => by cases z) (fun _ z => by cases z))]
    exact h2
theorem LgAt.rul {t : Addr} {v : Nat} {ts : List R} (L : LgAt K C CR CT lm H x r q w rs rows ps) (h : RulesAt K CR H t v ts) : RulesAt K CR (wos H [x, q]) t v ts := by
  obtain ⟨dt, g, us, h1, h2, h3⟩ := h
  obtain ⟨dx, t0, hx, _⟩ := L.at_
  obtain ⟨hs, hq, _⟩ := L.past
  refine ⟨dt, g, us, ?_, ?_, rds_T (wos2_T hx hq) h3⟩
  · rw [wos_in (L.out h1 (fun _ _ _ z => flds_ne (by injection z)) (fun _ z => by cases z))]
    exact h1
  · rw [wos_in (L.out h2 (fun _ _ _ z => by cases z) (fun _ z => by cases z))]
    exact h2
/-- two logs, apart -/
theorem LgAt.apart {C2 CR2 CT2 x2 r2 q2 : Addr} {lm2 : Option Nat} {w2 : Nat} {rs2 : List R} {rows2 : List (List Nat)} {ps2 : List (List (List Nat))} (L : LgAt K C CR CT lm H x r q w rs rows ps) (L2 : LgAt K C2 CR2 CT2 lm2 H x2 r2 q2 w2 rs2 rows2 ps2) (nx : x ≠ x2) (nq : q ≠ q2) : LgAt K C CR CT lm (wos H [x2, q2]) x r q w rs rows ps := by
  obtain ⟨dx, t, h1, h2⟩ := L.at_
  obtain ⟨hs, h4, h5⟩ := L.past
  have xq : x ≠ q2 := by
    obtain ⟨_, z, _⟩ := L2.past
    exact ne_of h1 z (by intro z; cases z)
  have qx : q ≠ x2 := by
    obtain ⟨_, _, z, _⟩ := L2.at_
    exact ne_of h4 z (by intro z; cases z)
  have c : ∀ b o, wos H [x, q] b = some o → b ∉ [x2, q2] → wos (wos H [x2, q2]) [x, q] b = some o := fun b o e n => by
    obtain ⟨nb, e⟩ := wos_at e
    rw [wos_in nb, wos_in n]
    exact e
  have TT : SameT (wos H [x, q]) (wos (wos H [x2, q2]) [x, q]) := ⟨fun b xs e => c b _ e (L2.out (wos_le _ _ _ e) (fun _ _ _ z => by cases z) (fun _ z => by cases z)), fun b o xs e => c b _ e (L2.out (wos_le _ _ _ e) (fun _ _ _ z => by cases z) (fun _ z => by cases z))⟩
  have tab : ∀ t rows, TableAt K CT (wos H [x, q]) t w rows → TableAt K CT (wos (wos H [x2, q2]) [x, q]) t w rows := fun t rows ⟨dt, gt, ut, t1, t2, t3⟩ =>
    ⟨dt, gt, ut, c _ _ t1 (L2.out (wos_le _ _ _ t1) (fun _ _ _ z => fldT_ne (by injection z)) (fun _ z => by cases z)), TT.tup _ _ t2, gds_T TT t3⟩
  obtain ⟨dr, gr, ur, r1, r2', r3⟩ := L.book
  refine ⟨⟨dx, t, ?_, tab _ _ h2⟩, ⟨dr, gr, ur, c _ _ r1 (L2.out (wos_le _ _ _ r1) (fun _ _ _ z => flds_ne (by injection z)) (fun _ z => by cases z)), TT.tup _ _ r2', rds_T TT r3⟩, ⟨hs, ?_, h5.map tab⟩⟩
  · rw [wos_in (by simp [nx, xq])]
    exact h1
  · rw [wos_in (by simp [nq, qx])]
    exact h4
/-- a change of one log leaves the other one -/
theorem LgAt.beside {C2 CR2 CT2 x2 r2 q2 : Addr} {lm2 : Option Nat} {w2 : Nat} {rs2 : List R} {rows2 : List (List Nat)} {ps2 : List (List (List Nat))} (L : LgAt K C CR CT lm H x r q w rs rows ps) (L2 : LgAt K C2 CR2 CT2 lm2 H x2 r2 q2 w2 rs2 rows2 ps2) (nx : x ≠ x2) (nq : q ≠ q2) (k : Kp [x2, q2] H H') : LgAt K C CR CT lm H' x r q w rs rows ps :=
  (L.apart L2 nx nq).keep k.to
theorem LgAt.ext (L : LgAt K C CR CT lm H x r q w rs rows ps) (e : ExtN H H') : LgAt K C CR CT lm H' x r q w rs rows ps := by
  obtain ⟨⟨dx, t, h1, h2⟩, h3, ⟨hs, h4, h5⟩⟩ := L
  have k : ExtN (wos H [x, q]) (wos H' [x, q]) := fun b o h n => by
    obtain ⟨nb, h⟩ := wos_at h
    rw [wos_in nb]
    exact e b o h n
  have rul : RulesAt K CR (wos H' [x, q]) r w rs := by
    obtain ⟨dx, g, us, h1, h2, h3⟩ := h3
    exact ⟨dx, g, us, k _ _ h1 (tb_no rfl), ext_tup k h2, dps_ext k _ _ h3⟩
  exact ⟨⟨dx, t, e _ _ h1 (tb_no rfl), h2.ext k⟩, rul, ⟨hs, ext_lst e h4, h5.map fun _ _ a => a.ext k⟩⟩
/-- a change of a log leaves the tables of code objects -/
theorem LgAt.tabs {Ts : List (Addr × Str)} (L : LgAt K C CR CT lm H x r q w rs rows ps) (t : Tabs Ts H) (k : Kp [x, q] H H') : Tabs Ts H' := fun p hp => by
  obtain ⟨qs, h1, h2, h3⟩ := t p hp
  refine ⟨qs, k _ _ h1 (L.out h1 (fun _ _ _ z => by cases z) (fun _ z => by cases z)), h2, fun pos cv hc => ?_⟩
  obtain ⟨c, e1, e2⟩ := h3 pos cv hc
  exact ⟨c, e1, k _ _ e2 (L.out e2 (fun _ _ _ z => by unfold CodeO at z; cases z) (fun _ z => by unfold CodeO at z; cases z))⟩
/-- the script, the source and the tables of code objects, beside a log -/
theorem LgAt.w3 {Ts : List (Addr × Str)} {a p : Addr} {ns : List Int} (L : LgAt K C CR CT lm H x r q w rs rows ps) (W : W3 K Ts H a p ns) (qp : q ≠ p) (qa : SqL K (wos (wo H p) [x, q]) a (ns.map V.int)) (k : Kp [x, q] H H') : W3 K Ts H' a p ns := by
  obtain ⟨o, s1, s2⟩ := W.src
  have xp : x ≠ p := by
    obtain ⟨dx, t, hx, _⟩ := L.at_
    obtain ⟨z1, z2, z3, rfl, _⟩ := s2
    exact ne_of hx s1 (by intro z; cases z)
  refine ⟨same_l (fun b u e => ?_) qa, ⟨o, k _ _ s1 (by simp [xp.symm, qp.symm]), s2⟩, L.tabs W.tab k⟩
  obtain ⟨n1, e⟩ := wos_at e
  have bp : b ≠ p := fun z => by rw [z, wo_at] at e; cases e
  rw [wo_ne bp] at e ⊢
  exact k _ _ e n1
end
/-- which exception check raises, if any: by the limit, the width, the rules and the rows -/
abbrev CkM := Option Nat → Nat → List R → List (List Nat) → Option Addr
/-- the log at x has changed -/
def LgTo (K : PySem.W.Frag) (C CR CT : Addr) (lm : Option Nat) (H : Hp) (x r q : Addr) (w : Nat) (rs : List R) (rows : List (List Nat)) (ps : List (List (List Nat))) (Q : VK) : Prop := ∀ H', Kp [x, q] H H' → LgAt K C CR CT lm H' x r q w rs rows ps → Q .non H'
/-- what change leaves, where the table may have been there before -/
theorem changedM {K : PySem.W.Frag} {C CR CT : Addr} {lm : Option Nat} {H H2 : Hp} {x r q dx t t' : Addr} {w : Nat} {rs : List R} {rows rows' : List (List Nat)} {ps : List (List (List Nat))} {hs : List V} {Q : VK} (L : LgAt K C CR CT lm H x r q w rs rows ps) (s02 : Same H H2) (hx : H x = some (.ins C dx (fldM lm r t q))) (hq : H q = some (.lst hs)) (tt : TableAt K CT H2 t' w rows') (to : LgTo K C CR CT lm H x r q w rs rows' (ps ++ [rows]) Q) : Q .non (upd (upd H2 q (.lst (hs ++ [.ref t]))) x (.ins C dx (fldM lm r t' q))) := by
  have xq := L.ne
  have L2 := L.keep s02
  have key : Same (wos H2 [x, q]) (wos (upd (upd H2 q (.lst (hs ++ [.ref t]))) x (.ins C dx (fldM lm r t' q))) [x, q]) := fun b o e => by
    obtain ⟨n1, e⟩ := wos_at e
    have bx : b ≠ x := fun z => n1 (by simp [z])
    have bq : b ≠ q := fun z => n1 (by simp [z])
    rw [wos_in n1, upd_ne bx, upd_ne bq]
    exact e
  obtain ⟨dx0, t0, hx0, tt0⟩ := L2.at_
  obtain ⟨hs0, hq0, ht0⟩ := L2.past
  have e1 := s02 _ _ hx
  have e2 := s02 _ _ hq
  rw [e2] at hq0
  cases hq0
  have et : t0 = t := by
    rw [e1] at hx0
    have z := congrArg (fun o => match o with | some (HO.ins _ _ fs) => fs.lookup ("held" : Str) | _ => none) hx0
    simp only [fldM_h] at z
    cases z
    rfl
  subst et
  refine to _ (fun b o e n1 => ?_) ⟨⟨dx, t', upd_same, (L2.tab tt).same key⟩, L2.book.same key, hs ++ [.ref t0], ?_, (ht0.snoc tt0).same key⟩
  · have bx : b ≠ x := fun z => n1 (by simp [z])
    have bq : b ≠ q := fun z => n1 (by simp [z])
    rw [upd_ne bx, upd_ne bq]
    exact s02 _ _ e
  · rw [upd_ne xq.symm]
    exact upd_same
/-- a class of logs -/
structure TxtM (K : PySem.W.Frag) (C : Addr) : Prop where
  cl : Cls K C
  nB : NoAttr K C "book"
  nH : NoAttr K C "held"
  nP : NoAttr K C "past"
  nL : NoAttr K C "limit"
theorem TxtM.c {K : PySem.W.Frag} {C : Addr} (h : TxtM K C) : TxtC K C := ⟨h.cl, h.nB, h.nH, h.nP⟩
end CC
namespace CC
open PySem L2 TL
noncomputable def holdsB (rows : List (List Nat)) (r : R) : Bool := @decide (HoldsR rows r) (Classical.propDecidable _)
theorem holdsB_iff {rows : List (List Nat)} {r : R} : holdsB rows r = true ↔ HoldsR rows r := @decide_eq_true_iff _ (Classical.propDecidable _)
theorem holdsB_of {rows : List (List Nat)} {r : R} {t : Bool} (h : t = true ↔ HoldsR rows r) : holdsB rows r = t := by
  rw [Bool.eq_iff_iff, holdsB_iff]
  exact h.symm
/-- the rules that do not hold -/
noncomputable def brkL (rows : List (List Nat)) (rs : List R) : List R := rs.filter fun r => !holdsB rows r
theorem brkL_len (rows : List (List Nat)) (rs : List R) : (brkL rows rs).length ≤ rs.length := List.length_filter_le _ _
theorem holds_nil (r : R) : HoldsR [] r := by
  obtain ⟨k, a, b⟩ := r
  cases k with
  | false => exact fun x hx => nomatch hx
  | true => exact fun x hx => nomatch hx
def spBrk (K : PySem.W.Frag) (CR : Addr) : Sp := fun vs H Q _ => ∃ (r g : Addr) (us : List V) (m : Nat) (rs : List R) (rows : List (List Nat)), vs = [.ref r, .ref g] ∧ RulesAt K CR H r m rs ∧ SqT K H g us ∧ DpAll K H us (rows.map gd) ∧ (∀ x ∈ rows, RowOk m x) ∧ rows.length ≤ 15 ∧ (∀ r ∈ rs, r.ok m) ∧ rs.length ≤ 60 ∧ NewF R.d K H (brkL rows rs) Q
section
variable {P : Program} {w : World} {K : PySem.W.Frag} {mg : Str → Option Value} {base : Heap} {kA : Addr}
abbrev nBrk : List Str := ["rules", "rows", "rule"]
theorem scBrk : FnScope nBrk ["rules", "rows"] (defScope sBrk) := ⟨rfl, rfl, rfl, by decide +kernel, rfl, by decide +kernel, by decide +kernel⟩
theorem ok_brk {f CR : Addr} {fd : FuncData} {k : Nat} (F : Fun K "rules_broken" "rules_broken" sBrk f fd) (TC : Txt1 K mg CR) (pR : Prp P w K mg base CR "rules" "given") (cH : Cal P w K mg base "holds" ["rows", "rule"] (spHo K) 1) : FnOk P w K mg base CX0 (k + 3) f fd ["rules", "rows"] (spBrk K CR) := by
  have GH := cH.ok (k + 2) (by omega)
  refine F.ok scBrk (fun vs H Q E h => ?_) (fun cdv A outer s H vs Q E hr h => ?_)
  · obtain ⟨r, g, us, m, rs, rows, rfl, _⟩ := h
    rfl
  · obtain ⟨x, g, us, m, rs, rows, rfl, ⟨dx, gg, ur, h1, h2, h3⟩, hg, dp, ok, few, rok, r60, q⟩ := h
    have n := scBrk.nd
    refine ⟨_, (pss_one (ps_ret (pe_lc (own := [("rule", 2)]) (g := gName 2) (tt := tNot (tB (tCall (spHo K) [] E0 (tCons (tVar 1) (tCons (tVar 2) tNil))))) rfl n (pi_tup (pe_prop (pv 0) TC.cl pR.hp (pR.ok (k + 1) (by omega)) hr pR.b .nil pass0 rfl)) (blkOk_by (N := nBrk) (sc := defScope sBrk) (by decide +kernel))
      (fun _ _ _ _ _ => (pg_name (i := 2) n rfl (.inl rfl))) (fun _ _ _ _ _ => pts_one (pt_not (pt_val (pe_call GH hr rfl cH.g cH.kp cH.b .nil pass0 (pa_cons (pv 1) (pa_cons (pv 2) pa_nil)))))) (fun _ _ _ _ _ => (pv 2))))), ?_⟩
    have ul : ur.length = rs.length := by rw [dps_len h3, List.length_map]
    refine ⟨_, rfl, x, dx, _, rfl, h1, x, dx, _, _, rfl, h1, flds_given _ _, gg, rfl, ⟨_, .inl (.inl h2)⟩, fun D nD => ?_⟩
    refine lc_tup (xs := ur) (fun i H1 => MadeF R.d K H D i H1 (brkL rows (rs.take i))) MadeF.start (fun i H1 _ z => .inl (.inl (z.old nD _ _ h2))) ?_ ?_
    · rintro i v H1 hv mo
      obtain ⟨r, hr2, dr⟩ := dps_rat h3 hv
      have il : i < rs.length := (List.getElem?_eq_some_iff.mp hr2).1
      have o := mo.old nD
      refine ⟨rfl, _, rfl, _, rfl, g, us, m, rows, v, r, rfl, same_t o hg, dps_same o _ _ dp, ok, few, dp_same o _ _ dr, rok r (List.mem_of_getElem? hr2), fun t H2 s2 ht => ⟨_, rfl, ?_⟩⟩
      obtain ⟨uo, _, hDo, _⟩ := id mo
      have e : brkL rows (rs.take (i + 1)) = brkL rows (rs.take i) ++ [r].filter fun r => !holdsB rows r := by
        unfold brkL
        rw [SG.take_one hr2, List.filter_append]
      rw [e]
      have hb := holdsB_of ht
      cases t with
      | true =>
        rw [List.filter_cons_of_neg (by rw [hb]; decide), List.filter_nil, List.append_nil]
        exact iteF (mo.keep s2 (by omega) rfl)
      | false =>
        rw [List.filter_cons_of_pos (by rw [hb]; rfl), List.filter_nil]
        refine iteT ⟨_, rfl, ?_⟩
        exact mo.push (r := r) (m := i + 1) (by omega) (Nat.lt_succ_self _) s2 (rd_T (((same_T o).trans (same_T s2)).trans (wo_T (s2 _ _ hDo))) dr)
    rintro H1 mo
    rw [ul, List.take_length] at mo
    exact mo.out nD (Same.refl _) q
end
end CC
/-! a method whose first statement is super().m(..) -/
namespace SUP
open PySem PySem.Spec PySem.Calls PySem.W PyProof.Rows L2
section
variable {P : Program} {w : World} {K : PySem.W.Frag} {mg : Str → Option Value} {base : Heap} {N ps : List Str} {qual : Str} {scope : Scope} {f cc D : Addr} {cd : Value} {A : Around} {outer : List Env} {s : Shared} {H : Hp} {E : XK} {us : List Value} {vs : List V}
end
end SUP
namespace CC
open PySem L2 TL
section
variable {P : Program} {w : World} {K : PySem.W.Frag} {mg : Str → Option Value} {base : Heap} {kA : Addr}
end
end CC
namespace CC
open PySem L2 TL
/-! ### rules_broken and check -/
def spBrkM (K : PySem.W.Frag) (CR : Addr) : Sp := fun vs H Q _ => ∃ (r g : Addr) (us : List V) (m : Nat) (rs : List R) (rows : List (List Nat)), vs = [.ref r, .ref g] ∧ RulesAt K CR H r m rs ∧ SqE K H g us ∧ DpAll K H us (rows.map gd) ∧ (∀ x ∈ rows, RowOk m x) ∧ Fw rows ∧ rows.length ≤ 401 ∧ (∀ r ∈ rs, r.ok m) ∧ rs.length ≤ 60 ∧ NewF R.d K H (brkL rows rs) Q
/-- check(rows): lb: whether there is a limit; ck: which exception it raises -/
def spCkM (K : PySem.W.Frag) (C CR CT : Addr) (lb : Bool) (ck : CkM) : Sp := fun vs H Q E => ∃ (lm : Option Nat) (x r q g : Addr) (w : Nat) (rs : List R) (rows0 rows : List (List Nat)) (ps : List (List (List Nat))) (us : List V), lm.isSome = lb ∧ vs = [.ref x, .ref g] ∧ LgAt K C CR CT lm H x r q w rs rows0 ps ∧ SqE K H g us ∧ DpAll K H us (rows.map gd) ∧ (∀ s ∈ rows, RowOk w s) ∧ Fw rows ∧ rows.length ≤ 401 ∧ (∀ r ∈ rs, r.ok w) ∧ rs.length ≤ 60 ∧
  (∀ c, ck lm w rs rows = some c → ∀ H', Same H H' → E (.ref c) none H') ∧ (ck lm w rs rows = none → ∀ H', Same H H' → Q .non H')
/-- more than 400 rows -/
def ckA (c5 : Addr) : CkM := fun _ _ _ rows => if 400 < rows.length then some c5 else none
/-- more than the limit -/
def ckMo (c5 : Addr) : CkM := fun lm _ _ rows => match lm with
  | some m => if m < rows.length then some c5 else none
  | none => none
/-- a broken rule that settles -/
noncomputable def ckBr (c7 : Addr) : CkM := fun _ _ rs rows => if (brkL rows rs).any (·.k) = true then some c7 else none
/-- one behind the other -/
def ckTh (a b : CkM) : CkM := fun lm w rs rows => match a lm w rs rows with
  | some c => some c
  | none => b lm w rs rows
/-- it lets nothing through with more than 400 rows -/
def CkOk (ck : CkM) : Prop := ∀ lm w rs rows, ck lm w rs rows = none → rows.length ≤ 400
theorem ckA_ok (c : Addr) : CkOk (ckA c) := fun lm w rs rows h => by
  unfold ckA at h
  split at h
  · cases h
  · omega
section
variable {P : Program} {w : World} {K : PySem.W.Frag} {mg : Str → Option Value} {base : Heap} {kA : Addr}
theorem ok_brkM {f CR : Addr} {fd : FuncData} {k : Nat} (F : Fun K "rules_broken" "rules_broken" sBrk f fd) (TC : Txt1 K mg CR) (pR : Prp P w K mg base CR "rules" "given") (cH : Cal P w K mg base "holds" ["rows", "rule"] (spHoM K) 1) : FnOk P w K mg base CX0 (k + 3) f fd ["rules", "rows"] (spBrkM K CR) := by
  have GH := cH.ok (k + 2) (by omega)
  refine F.ok scBrk (fun vs H Q E h => ?_) (fun cdv A outer s H vs Q E hr h => ?_)
  · obtain ⟨r, g, us, m, rs, rows, rfl, _⟩ := h
    rfl
  · obtain ⟨x, g, us, m, rs, rows, rfl, ⟨dx, gg, ur, h1, h2, h3⟩, hg, dp, ok, fw, few, rok, r60, q⟩ := h
    have n := scBrk.nd
    refine ⟨_, (pss_one (ps_ret (pe_lc (own := [("rule", 2)]) (g := gName 2) (tt := tNot (tB (tCall (spHoM K) [] E0 (tCons (tVar 1) (tCons (tVar 2) tNil))))) rfl n (pi_tup (pe_prop (pv 0) TC.cl pR.hp (pR.ok (k + 1) (by omega)) hr pR.b .nil pass0 rfl)) (blkOk_by (N := nBrk) (sc := defScope sBrk) (by decide +kernel))
      (fun _ _ _ _ _ => (pg_name (i := 2) n rfl (.inl rfl))) (fun _ _ _ _ _ => pts_one (pt_not (pt_val (pe_call GH hr rfl cH.g cH.kp cH.b .nil pass0 (pa_cons (pv 1) (pa_cons (pv 2) pa_nil)))))) (fun _ _ _ _ _ => (pv 2))))), ?_⟩
    have ul : ur.length = rs.length := by rw [dps_len h3, List.length_map]
    refine ⟨_, rfl, x, dx, _, rfl, h1, x, dx, _, _, rfl, h1, flds_given _ _, gg, rfl, ⟨_, .inl (.inl h2)⟩, fun D nD => ?_⟩
    refine lc_tup (xs := ur) (fun i H1 => MadeF R.d K H D i H1 (brkL rows (rs.take i))) MadeF.start (fun i H1 _ z => .inl (.inl (z.old nD _ _ h2))) ?_ ?_
    · rintro i v H1 hv mo
      obtain ⟨r, hr2, dr⟩ := dps_rat h3 hv
      have il : i < rs.length := (List.getElem?_eq_some_iff.mp hr2).1
      have o := mo.old nD
      refine ⟨rfl, _, rfl, _, rfl, g, us, m, rows, v, r, rfl, hg.same o, dps_same o _ _ dp, ok, fw, few, dp_same o _ _ dr, rok r (List.mem_of_getElem? hr2), fun t H2 s2 ht => ⟨_, rfl, ?_⟩⟩
      obtain ⟨uo, _, hDo, _⟩ := id mo
      have e : brkL rows (rs.take (i + 1)) = brkL rows (rs.take i) ++ [r].filter fun r => !holdsB rows r := by
        unfold brkL
        rw [SG.take_one hr2, List.filter_append]
      rw [e]
      have hb := holdsB_of ht
      cases t with
      | true =>
        rw [List.filter_cons_of_neg (by rw [hb]; decide), List.filter_nil, List.append_nil]
        exact iteF (mo.keep s2 (by omega) rfl)
      | false =>
        rw [List.filter_cons_of_pos (by rw [hb]; rfl), List.filter_nil]
        refine iteT ⟨_, rfl, ?_⟩
        exact mo.push (r := r) (m := i + 1) (by omega) (Nat.lt_succ_self _) s2 (rd_T (((same_T o).trans (same_T s2)).trans (wo_T (s2 _ _ hDo))) dr)
    rintro H1 mo
    rw [ul, List.take_length] at mo
    exact mo.out nD (Same.refl _) q
theorem ok_lchkM {f C CR CT c5 : Addr} {lb : Bool} {fd : FuncData} {k : Nat} (F : Fun K "check" "Log.check" sLChk f fd) (T : Glb K mg kA) (TT : GlbT mg) (e5 : ExcK K mg "TooMuch" c5) : FnOk P w K mg base (L2.CX P w) (k + 1) f fd ["self", "rows"] (spCkM K C CR CT lb (ckA c5)) := by
  refine F.okX scLChk (fun vs H Q E h => ?_) (fun cdv A outer s H vs Q E hr h => ?_)
  · obtain ⟨lm, x, r, q, g, m, rs, rows0, rows, ps, us, _, rfl, _⟩ := h
    rfl
  · obtain ⟨lm, x, r, pq, g, m, rs, rows0, rows, ps, us, _, rfl, L, hg, dp, ok, fw, few, rok, r60, eE, q⟩ := h
    obtain ⟨tm, hmr⟩ := TT.mr
    refine ⟨_, (pss_one (ps_if (pt_cmpR op_gt (pe_callB call_len_seq (by rfl) T.len PySem.boot_len (pa_cons (pv 1) pa_nil)) (pe_glob (v := .int 400) rfl hmr ⟨_, rfl⟩) (nomark _)) (pss_one (ps_raise rfl (takes_of rfl rfl rfl rfl) (pmk_own PySem.F.excBase_ValueError e5.x e5.g e5.k (raises_own e5.b e5.t) rfl))) pss_nil)), ?_⟩
    have ul : us.length = rows.length := by rw [dps_len dp, List.length_map]
    refine ⟨_, rfl, g, us, rfl, hg, _, _, rfl, rfl, _, rfl, ?_⟩
    by_cases e : 400 < rows.length
    · rw [show decide (((us.length : Nat) : Int) > (400 : Int)) = true from decide_eq_true (by omega)]
      exact iteT (eE c5 (by unfold ckA; rw [if_pos e]) _ (Same.refl _))
    · rw [show decide (((us.length : Nat) : Int) > (400 : Int)) = false from decide_eq_false (by omega)]
      exact iteF (q (by unfold ckA; rw [if_neg e]) _ (Same.refl _))
def spChgM (K : PySem.W.Frag) (C : Addr) : Sp := fun vs H Q _ => ∃ (lm : Option Nat) (x dx r t q t' : Addr) (hs : List V), vs = [.ref x, .ref t'] ∧ H x = some (.ins C dx (fldM lm r t q)) ∧ H q = some (.lst hs) ∧ hs.length < 1000 ∧ Q .non (upd (upd H q (.lst (hs ++ [.ref t]))) x (.ins C dx (fldM lm r t' q)))
theorem ok_lchgM {f C : Addr} {fd : FuncData} {k : Nat} (F : Fun K "change" "Log.change" sLChg f fd) (TL : TxtM K C) : FnOk P w K mg base CX0 (k + 1) f fd ["self", "table"] (spChgM K C) := by
  refine F.ok scLChg (fun vs H Q E h => ?_) (fun cdv A outer s H vs Q E hr h => ?_)
  · obtain ⟨lm, x, dx, r, t, q, t', hs, rfl, _⟩ := h
    rfl
  · obtain ⟨lm, x, dx, r, t, pq, t', hs, rfl, hx, hq, hl, q⟩ := h
    refine ⟨_, (pss_cons (ps_expr (pe_bm PySem.F.plainAttrs_list PySem.F.slot_list_append PySem.F.type_list_append mt_append (pe_fld (pv 0) rfl) (pa_cons (pe_fld (pv 0) rfl) pa_nil)))
      (pss_one (ps_fld (pv 0) (pv 1) rfl))), ?_⟩
    have xq : x ≠ pq := ne_of hx hq (by intro z; cases z)
    refine ⟨_, rfl, x, C, dx, _, _, rfl, hx, TL.cl, TL.nP, fldM_p _ _ _ _, .inl ⟨rfl, _, SqL.of hq⟩, ?_⟩
    refine ⟨_, rfl, x, C, dx, _, _, rfl, hx, TL.cl, TL.nH, fldM_h _ _ _ _, ?_⟩
    refine ⟨pq, hs, _, rfl, rfl, hq, small1000 (Nat.le_of_lt hl), ?_⟩
    have hx1 : (upd H pq (.lst (hs ++ [.ref t]))) x = some (.ins C dx (fldM lm r t pq)) := by
      rw [upd_ne xq]
      exact hx
    refine ⟨_, rfl, _, rfl, x, C, dx, _, rfl, hx1, TL.cl, TL.nH, fldM_len _ _ _ _, ?_⟩
    rw [fldM_held]
    exact q
end
end CC
namespace CC
open PySem L2 TL
/-! ### what is no width and no text (k05/Ro, Rd, Ir have the same) -/
theorem fn_or {P : Program} {w : World} {K : PySem.W.Frag} {mg : Str → Option Value} {base : Heap} {CX : CXT} {k : Nat} {f : Addr} {fd : FuncData} {ps : List Str} {sp sp' : Sp} (F : FnOk P w K mg base CX k f fd ps sp) (G : FnOk P w K mg base CX k f fd ps sp') :
    FnOk P w K mg base CX k f fd ps (fun vs H Q E => sp vs H Q E ∨ sp' vs H Q E) :=
  ⟨fun vs H Q E h => h.elim (F.len vs H Q E) (G.len vs H Q E), fun A outer s H args us vs Q E hr e0 b r h => h.elim (F.run A outer s H args us vs Q E hr e0 b r) (G.run A outer s H args us vs Q E hr e0 b r)⟩
def noInts : List String := ["NoneType", "bool", "str", "tuple", "list", "dict"]
def noStrs : List String := ["NoneType", "bool", "int", "tuple", "list", "dict"]
def NoInt (K : PySem.W.Frag) (H : Hp) (v : V) : Prop := ∃ n, TyX K H v (.type n) ∧ n ∈ noInts
def NoStr (K : PySem.W.Frag) (H : Hp) (v : V) : Prop := ∃ n, TyX K H v (.type n) ∧ n ∈ noStrs
def spIsIntX (K : PySem.W.Frag) : Sp := fun vs H Q E => spIsInt vs H Q E ∨ ∃ v, vs = [v] ∧ NoInt K H v ∧ Q (.bl false) H
def Cal.imp {P : Program} {w : World} {K : PySem.W.Frag} {mg : Str → Option Value} {base : Heap} {x : Str} {ps : List Str} {sp sp' : Sp} {l : Nat} (c : Cal P w K mg base x ps sp l) (h : ∀ vs H Q E, sp' vs H Q E → sp vs H Q E) : Cal P w K mg base x ps sp' l :=
  ⟨c.f, c.fd, fun k hk => (c.ok k hk).imp h, c.kp, c.b, c.g⟩
section
variable {P : Program} {w : World} {K : PySem.W.Frag} {mg : Str → Option Value} {base : Heap} {kA : Addr}
theorem ok_isintX {f : Addr} {fd : FuncData} {k : Nat} (F : Fun K "is_an_integer" "is_an_integer" sIsInt f fd) (T : Glb K mg kA) : FnOk P w K mg base CX0 (k + 1) f fd ["thing"] (spIsIntX K) := by
  refine fn_or (ok_isint F T) ?_
  refine F.ok scIsInt (fun vs H Q E h => ?_) (fun cdv A outer s H vs Q E hr h => ?_)
  · obtain ⟨v, rfl, _⟩ := h
    rfl
  · obtain ⟨v, rfl, ⟨n, ty, hn⟩, q⟩ := h
    refine ⟨_, pss_one (ps_ret (pe_and (pe_callB call_isi (by rfl) T.isi (by decide +kernel) (pa_cons (pv 0) (pa_cons (pe_bltn (v := .ty "int") (by rfl) T.int (by decide +kernel) rfl) pa_nil)))
      (pe_one (pe_not (pe_callB call_isi (by rfl) T.isi (by decide +kernel) (pa_cons (pv 0) (pa_cons (pe_bltn (v := .ty "bool") (by rfl) T.bool (by decide +kernel) rfl) pa_nil))))))), ?_⟩
    by_cases hb : n = "bool"
    · subst hb
      refine ⟨_, rfl, _, _, _, _, true, rfl, .ty _, ty, kit_ty (by decide +kernel), _, rfl, iteT ?_⟩
      exact ⟨_, rfl, _, _, _, _, true, rfl, .ty _, ty, kit_ty (by decide +kernel), _, rfl, q⟩
    · have kb : kitB n "int" = some false := by
        simp only [noInts, List.mem_cons, List.not_mem_nil, or_false] at hn
        rcases hn with rfl | rfl | rfl | rfl | rfl | rfl <;> first | exact (hb rfl).elim | decide +kernel
      exact ⟨_, rfl, _, _, _, _, false, rfl, .ty _, ty, kit_ty kb, _, rfl, iteF q⟩
end
theorem ty_same {K : PySem.W.Frag} {H H' : Hp} {v : V} {t : Value} (e : Same H H') (h : TyX K H v t) : TyX K H' v t := by
  cases h with
  | base b =>
    refine .base ?_
    cases b with
    | non => exact .non
    | bl x => exact .bl x
    | int i => exact .int i
    | str x => exact .str x
    | flt x => exact .flt x
    | lst z => exact .lst (e _ _ z)
    | frz z => exact .frz (e _ _ z)
    | tup z => exact .tup (e _ _ z)
    | dK z => exact .dK (e _ _ z)
    | dT z => exact .dT (e _ _ z)
    | ins z a b c d f => exact .ins (e _ _ z) a b c d f
  | byt b => exact .byt b
  | set z => exact .set (e _ _ z)
  | kList z c => exact .kList z c
  | kTuple z c => exact .kTuple z c
  | kDict z c => exact .kDict z c
  | fTuple z => exact .fTuple (e _ _ z)
  | fDict z => exact .fDict (e _ _ z)
theorem NoStr.same {K : PySem.W.Frag} {H H' : Hp} {v : V} (h : NoStr K H v) (e : Same H H') : NoStr K H' v := by
  obtain ⟨n, ty, hn⟩ := h
  exact ⟨n, ty_same e ty, hn⟩
end CC
namespace CC
open PySem L2 TL
/-! ### add -/
/-- what is known of the width, the rules and the rows of a log -/
structure LgOk (w : Nat) (rs : List R) (rows : List (List Nat)) : Prop where
  w1 : 1 ≤ w
  w6 : w ≤ 6
  rok : ∀ r ∈ rs, r.ok w
  r60 : rs.length ≤ 60
  ok : ∀ s ∈ rows, RowOk w s
  few : rows.length ≤ 400
/-- is_row: of rows, and of values of which NR says that they are none -/
abbrev NoR := Hp → Nat → V → Prop
def spIsRowG (K : PySem.W.Frag) (NR : NoR) : Sp := fun vs H Q E => spIsRow K vs H Q E ∨ ∃ (w : Nat) (v : V), vs = [.int (w : Int), v] ∧ NR H w v ∧ ∀ H', Same H H' → Q (.bl false) H'
def spAddM (K : PySem.W.Frag) (C CR CT : Addr) (lb : Bool) (ck : CkM) (NR : NoR) (c1 : Addr) : Sp := fun vs H Q E => ∃ (lm : Option Nat) (x r q : Addr) (w : Nat) (rs : List R) (rows : List (List Nat)) (ps : List (List (List Nat))) (v : V), lm.isSome = lb ∧ vs = [.ref x, v] ∧ LgAt K C CR CT lm H x r q w rs rows ps ∧ LgOk w rs rows ∧ ps.length < 1000 ∧
  ((∃ (tr : Addr) (row : List Nat), v = .ref tr ∧ SqT K H tr (nms row) ∧ RowOk w row ∧ Fw (rows ++ [row]) ∧ (∀ c, ck lm w rs (rows ++ [row]) = some c → ∀ H', Same H H' → E (.ref c) none H') ∧ (ck lm w rs (rows ++ [row]) = none → LgTo K C CR CT lm H x r q w rs (rows ++ [row]) (ps ++ [rows]) Q)) ∨
   (NR H w v ∧ ∀ H', Same H H' → E (.ref c1) none H'))
section
variable {P : Program} {w : World} {K : PySem.W.Frag} {mg : Str → Option Value} {base : Heap} {kA : Addr}
theorem ok_laddM {f C CR CT c1 : Addr} {lb : Bool} {ck : CkM} {NR : NoR} {fd : FuncData} {k l : Nat} (hck : CkOk ck) (F : Fun K "add" "Log.add" sLAdd f fd) (TL : TxtM K C) (TR : Txt1 K mg CR) (TT : TxtT K mg CT) (e1 : ExcK K mg "NoRow" c1) (pW : Prp P w K mg base CR "width" "span") (pTR : Prp P w K mg base CT "rows" "lines") (mT : MakeT P w K mg base CT 3) (cR : Cal P w K mg base "is_row" ["width", "thing"] (spIsRowG K NR) 2)
    (cc : MthX P w K mg base C "check" ["self", "rows"] (spCkM K C CR CT lb ck) l) (cg : MthG P w K mg base C "change" ["self", "table"] (spChgM K C) 1) : FnOk P w K mg base (L2.CX P w) (k + l + 5) f fd ["self", "row"] (spAddM K C CR CT lb ck NR c1) := by
  have GN := mT.ok (k + l + 3) (by omega)
  have GR := cR.ok (k + l + 4) (by omega)
  have GC := cc.ok (k + l + 4) (by omega)
  have GG := cg.ok (k + l + 4) (by omega)
  refine F.okX scLAdd (fun vs H Q E h => ?_) (fun cdv A outer s H vs Q E hr h => ?_)
  · obtain ⟨lm, x, r, q, m, rs, rows, ps, v, _, rfl, _⟩ := h
    rfl
  · obtain ⟨lm, x, r, pq, m, rs, rows, ps, v, hlb, rfl, L, ok, p1, hv⟩ := h
    have nd := scLAdd.nd
    refine ⟨_, (pss_cons (ps_if (pt_not (pt_val (pe_call GR hr rfl cR.g cR.kp cR.b .nil pass0 (pa_cons (pe_prop (pe_fld (pv 0) rfl) TR.cl pW.hp (pW.ok (k + l + 3) (by omega)) hr pW.b .nil pass0 rfl) (pa_cons (pv 1) pa_nil))))) (pss_one (ps_raise rfl (takes_of rfl rfl rfl rfl) (pmk_own PySem.F.excBase_ValueError e1.x e1.g e1.k (raises_own e1.b e1.t) rfl))) pss_nil)
      (pss_cons (ps_set (i := 2) nd rfl (.inl rfl) (pe_lst (StX.pa_star (pe_prop (pe_fld (pv 0) rfl) TT.cl pTR.hp (pTR.ok (k + l + 3) (by omega)) hr pTR.b .nil pass0 rfl) (pa_cons (pv 1) pa_nil))))
      (pss_cons (ps_expr (pe_meth (pv 0) TL.cl cc.m GC hr cc.b .nil (passes_call (takes_of rfl rfl rfl rfl) (fun _ _ _ _ h => h)) (pa_cons (pv 2) pa_nil)))
      (pss_one (ps_expr (pe_meth (pv 0) TL.cl cg.m GG hr cg.b .nil pass0 (pa_cons (pe_makeRS mT.M GN hr rfl TT.mgC pass0 (pa_cons (pe_prop (pe_fld (pv 0) rfl) TR.cl pW.hp (pW.ok (k + l + 3) (by omega)) hr pW.b .nil pass0 rfl) (StX.pa_star (pv 2) pa_nil))) pa_nil))))))), ?_⟩
    obtain ⟨dx, t, hx, tt⟩ := L.at_
    obtain ⟨hs, hq, hl⟩ := L.past
    obtain ⟨dr, gr, ur, r1, r2, r3⟩ := L.book.same (wos_le _)
    obtain ⟨dt, g, us, t1, t2, t3⟩ := tt.same (wos_le _)
    have ul : us.length = rows.length := by rw [dps_len t3, List.length_map]
    have few := ok.few
    have hln := hl.len
    refine ⟨_, rfl, x, C, dx, _, _, rfl, hx, TL.cl, TL.nB, fldM_b _ _ _ _, r, dr, _, rfl, r1, r, dr, _, _, rfl, r1, flds_span _ _, _, rfl, ?_⟩
    rcases hv with ⟨tr, row, rfl, ht, rok, fw, eE, to⟩ | ⟨nr, eE⟩
    · refine .inl ⟨m, tr, row, rfl, ht, rok, ok.w6, fun H1 s1 => ⟨_, rfl, iteF ?_⟩⟩
      refine ⟨_, rfl, x, C, dx, _, _, rfl, s1 _ _ hx, TL.cl, TL.nH, fldM_h _ _ _ _, t, dt, _, rfl, s1 _ _ t1, t, dt, _, _, rfl, s1 _ _ t1, fldT_lines _ _, g, us, rfl, .inl (.inl (.inl (s1 _ _ t2))), _, rfl, ?_, fun p np => ?_⟩
      · rw [List.length_append]
        exact Nat.le_of_lt (small1000 (by show us.length + 1 ≤ 1000; omega))
      have s2 : Same H1 (upd H1 p (.lst (us ++ [.ref tr]))) := same_new np
      have hp : (upd H1 p (.lst (us ++ [.ref tr]))) p = some (.lst (us ++ [.ref tr])) := upd_same
      generalize upd H1 p (.lst (us ++ [.ref tr])) = H2 at s2 hp
      have s02 := s1.trans s2
      have dj : DpAll K H2 (us ++ [.ref tr]) ((rows ++ [row]).map gd) := by
        rw [List.map_append]
        exact dps_app (dps_same s02 _ _ t3) (dps_one (dp_gd (same_t s02 ht)))
      have okj : ∀ y ∈ rows ++ [row], RowOk m y := fun y hy => by
        rcases List.mem_append.mp hy with z | z
        · exact ok.ok y z
        · rw [List.mem_singleton.mp z]
          exact rok
      refine ⟨_, rfl, x, dx, _, rfl, s02 _ _ hx, fldM_no _ _ _ _ (by decide +kernel) (by decide +kernel) (by decide +kernel) (by decide +kernel), _, rfl, lm, x, r, pq, p, m, rs, rows, rows ++ [row], ps, _, hlb, rfl, L.keep s02, .inl (SqL.of hp), dj, okj, fw, (by rw [List.length_append]; show rows.length + 1 ≤ 401; omega), ok.rok, ok.r60, fun c hc H3 s3 => eE c hc _ (s02.trans s3), fun hc H3 s3 => ?_⟩
      have few2 := hck _ _ _ _ hc
      have s03 := s02.trans s3
      refine ⟨_, rfl, x, dx, _, rfl, s03 _ _ hx, fldM_no _ _ _ _ (by decide +kernel) (by decide +kernel) (by decide +kernel) (by decide +kernel), ?_⟩
      refine ⟨_, rfl, x, C, dx, _, _, rfl, s03 _ _ hx, TL.cl, TL.nB, fldM_b _ _ _ _, r, dr, _, rfl, s03 _ _ r1, r, dr, _, _, rfl, s03 _ _ r1, flds_span _ _, _, rfl, p, _, rfl, .inr (SqL.of (s3 _ _ hp)), ?_⟩
      refine fun t' dz nz ndz ne => ?_
      refine mkT_go (K := K) (C := CT) ok.w1 ok.w6 okj few2 (dps_same s3 _ _ dj) nz ndz ne fun H4 s4 tt' => ⟨rfl, ?_⟩
      have s04 := s03.trans s4
      exact ⟨lm, x, dx, r, t, pq, t', hs, rfl, s04 _ _ hx, s04 _ _ hq, by omega, changedM L s04 hx hq tt' (to hc)⟩
    · exact .inr ⟨m, v, rfl, nr, fun H1 s1 => ⟨_, rfl, iteT (eE _ s1)⟩⟩
/-- add of a class below Log: super().add(row) -/
theorem pass_add {C CR CT c1 D f f2 cda cc : Addr} {lb : Bool} {ck : CkM} {NR : NoR} {Q : VK} {E : XK} {H : Hp} {vs : List V} (h : spAddM K C CR CT lb ck NR c1 vs H Q E) : ∃ (x dx : Addr) (fs : List (Str × V)) (v : V), vs = [.ref x, v] ∧ H x = some (.ins C dx fs) ∧ fs.lookup ("add" : Str) = none ∧ spAddM K C CR CT lb ck NR c1 vs H (fun _ H3 => Q .non H3) E := by
  obtain ⟨lm, x, r, pq, m, rs, rows, ps, v, hlb, rfl, L, ok, p1, hv⟩ := h
  obtain ⟨dx, t, hx, _⟩ := L.at_
  refine ⟨x, dx, _, v, rfl, hx, fldM_no _ _ _ _ (by decide +kernel) (by decide +kernel) (by decide +kernel) (by decide +kernel), lm, x, r, pq, m, rs, rows, ps, v, hlb, rfl, L, ok, p1, ?_⟩
  rcases hv with ⟨tr, row, rfl, ht, rok, fw, eE, to⟩ | bad
  · exact .inl ⟨tr, row, rfl, ht, rok, fw, eE, fun e H' k L' => to e H' k L'⟩
  · exact .inr bad
end
end CC
/-! rows as data: equal, in, shaped; the last of several equal rows taken out -/
namespace RW
open PySem L2 CC
theorem eqv_nums : ∀ m l : List Nat, PyData.eqvAll (m.map fun (n : Nat) => PyData.int (n : Int)) (l.map fun (n : Nat) => PyData.int (n : Int)) = decide (m = l)
  | [], [] => by simp [PyData.eqvAll]
  | [], _ :: _ => by simp [PyData.eqvAll]
  | _ :: _, [] => by simp [PyData.eqvAll]
  | a :: m, b :: l => by
    have ih := eqv_nums m l
    simp only [List.map_cons, PyData.eqvAll, PyData.eqv, ih]
    by_cases e : a = b
    · subst e
      simp
    · simp only [List.cons.injEq, e, false_and, decide_false, Bool.and_eq_false_imp, beq_iff_eq]
      intro z
      exact absurd (by omega) e
theorem gd_eqv (m l : List Nat) : PyData.eqv (gd m) (gd l) = decide (m = l) := by
  show PyData.eqvAll _ _ = _
  exact eqv_nums m l
theorem gds_any (ms : List (List Nat)) (m : List Nat) : ((ms.map gd).any fun z => PyData.eqv z (gd m)) = decide (m ∈ ms) := by
  induction ms with
  | nil => simp
  | cons x ms ih =>
    rw [List.map_cons, List.any_cons, ih, gd_eqv]
    by_cases h : x = m
    · simp [h]
    · have : ¬ m = x := fun z => h z.symm
      simp [h, this]
theorem nums_lay (m : List Nat) : PyData.canLayAll0 (m.map fun (n : Nat) => PyData.int (n : Int)) = true ∧ PyData.depthAll (m.map fun (n : Nat) => PyData.int (n : Int)) = 0 := by
  induction m with
  | nil => simp [PyData.canLayAll0, PyData.depthAll]
  | cons x m ih => simp [PyData.canLayAll0, PyData.depthAll, PyData.canLay0, PyData.depth, ih.1, ih.2]
theorem gd_shp (m : List Nat) : SeqAt.shaped (gd m) = true := by
  show ((gd m).canLay0 && decide ((gd m).depth ≤ 64)) = true
  simp [gd, PyData.canLay0, PyData.depth, (nums_lay m).1, (nums_lay m).2]
theorem gdl_lay (ms : List (List Nat)) : PyData.canLayAll0 (ms.map gd) = true ∧ PyData.depthAll (ms.map gd) ≤ 1 := by
  induction ms with
  | nil => simp [PyData.canLayAll0, PyData.depthAll]
  | cons m ms ih =>
    have g := nums_lay m
    simp only [List.map_cons, PyData.canLayAll0, PyData.depthAll, gd, PyData.canLay0, PyData.depth, g.1, g.2, Bool.true_and]
    refine ⟨ih.1, ?_⟩
    have := ih.2
    unfold gd at this
    omega
theorem gdl_shp (ms : List (List Nat)) : SeqAt.shaped (.list (ms.map gd)) = true := by
  have h := gdl_lay ms
  show ((PyData.list (ms.map gd)).canLay0 && decide ((PyData.list (ms.map gd)).depth ≤ 64)) = true
  simp only [PyData.canLay0, PyData.depth, h.1, Bool.true_and]
  exact decide_eq_true (by have := h.2; omega)
/-- the rows without the last one that is equal to this one -/
def dropR (rows : List (List Nat)) (row : List Nat) : List (List Nat) := (rows.reverse.erase row).reverse
theorem dropR_len {rows : List (List Nat)} {row : List Nat} (h : row ∈ rows) : (dropR rows row).length + 1 = rows.length := by
  unfold dropR
  have hm : row ∈ rows.reverse := List.mem_reverse.mpr h
  have := List.length_pos_of_mem h
  rw [List.length_reverse, List.length_erase_of_mem hm, List.length_reverse]
  omega
theorem dropR_mem {rows : List (List Nat)} {row x : List Nat} (h : x ∈ dropR rows row) : x ∈ rows := by
  unfold dropR at h
  exact List.mem_reverse.mp (List.mem_of_mem_erase (List.mem_reverse.mp h))
theorem dropR_at {rows : List (List Nat)} {row : List Nat} {p : Nat} (h : rows[p]? = some row) (last : ∀ j, p < j → rows[j]? ≠ some row) : rows.eraseIdx p = dropR rows row := by
  have pl := (List.getElem?_eq_some_iff.mp h).1
  have hp : rows[p] = row := (List.getElem?_eq_some_iff.mp h).2
  have e : rows = rows.take p ++ row :: rows.drop (p + 1) := by
    rw [← hp, ← List.drop_eq_getElem_cons pl, List.take_append_drop]
  have nb : row ∉ rows.drop (p + 1) := fun z => by
    obtain ⟨i, hi⟩ := List.mem_iff_getElem?.mp z
    rw [List.getElem?_drop] at hi
    exact last _ (by omega) hi
  have ta : (rows.take p).length = p := by rw [List.length_take]; omega
  have e1 : rows.eraseIdx p = rows.take p ++ rows.drop (p + 1) := List.eraseIdx_eq_take_drop_succ ..
  rw [e1]
  generalize rows.take p = a at e
  generalize rows.drop (p + 1) = b at e nb
  subst e
  unfold dropR
  rw [List.reverse_append, List.reverse_cons, List.append_assoc, List.erase_append_right _ (by simpa using nb)]
  simp
theorem cut_step {rows : List (List Nat)} {i p : Nat} {x : List Nat} (h : rows[i]? = some x) : (rows.take (i + 1)).eraseIdx p = (rows.take i).eraseIdx p ++ (if i = p then [] else [x]) := by
  have il := (List.getElem?_eq_some_iff.mp h).1
  have ta : (rows.take i).length = i := by rw [List.length_take]; omega
  rw [List.take_succ, h]
  show (rows.take i ++ [x]).eraseIdx p = _
  by_cases e : i = p
  · subst e
    rw [if_pos rfl, List.append_nil, List.eraseIdx_append_of_length_le (by omega), ta, Nat.sub_self, List.eraseIdx_of_length_le (l := rows.take i) (by omega)]
    simp
  · rw [if_neg e]
    by_cases lt : p < i
    · rw [List.eraseIdx_append_of_lt_length (by omega)]
    · rw [List.eraseIdx_append_of_length_le (by omega), List.eraseIdx_of_length_le (l := rows.take i) (by omega), List.eraseIdx_of_length_le (l := [x]) (by simp; omega)]
/-- the places of a row among the first i -/
structure Plc (rows : List (List Nat)) (row : List Nat) (i : Nat) (ns : List Nat) : Prop where
  is : ∀ j ∈ ns, j < i ∧ rows[j]? = some row
  all : ∀ j, j < i → rows[j]? = some row → j ∈ ns
  up : ns.Pairwise (· < ·)
theorem Plc.nil {rows : List (List Nat)} {row : List Nat} : Plc rows row 0 [] := ⟨(fun j hj => nomatch hj), (fun j hj => absurd hj (Nat.not_lt_zero _)), List.Pairwise.nil⟩
theorem Plc.yes {rows : List (List Nat)} {row : List Nat} {i : Nat} {ns : List Nat} (h : Plc rows row i ns) (e : rows[i]? = some row) : Plc rows row (i + 1) (ns ++ [i]) := by
  refine ⟨fun j hj => ?_, fun j hj ej => ?_, List.pairwise_append.mpr ⟨h.up, by simp, fun a ha b hb => ?_⟩⟩
  · rcases List.mem_append.mp hj with z | z
    · exact ⟨Nat.lt_succ_of_lt (h.is j z).1, (h.is j z).2⟩
    · rw [List.mem_singleton.mp z]
      exact ⟨Nat.lt_succ_self _, e⟩
  · by_cases z : j = i
    · rw [z]
      exact List.mem_append_right _ (List.mem_singleton.mpr rfl)
    · exact List.mem_append_left _ (h.all j (by omega) ej)
  · rw [List.mem_singleton.mp hb]
    exact (h.is a ha).1
theorem Plc.no {rows : List (List Nat)} {row : List Nat} {i : Nat} {ns : List Nat} (h : Plc rows row i ns) (e : rows[i]? ≠ some row) : Plc rows row (i + 1) ns := by
  refine ⟨fun j hj => ⟨Nat.lt_succ_of_lt (h.is j hj).1, (h.is j hj).2⟩, fun j hj ej => ?_, h.up⟩
  by_cases z : j = i
  · rw [z] at ej
    exact absurd ej e
  · exact h.all j (by omega) ej
theorem Plc.len {rows : List (List Nat)} {row : List Nat} {i : Nat} {ns : List Nat} (h : Plc rows row i ns) (hi : i ≤ 400) : ns.length ≤ 400 := by
  have nd : ns.Nodup := h.up.imp fun z => Nat.ne_of_lt z
  have := SG.sub_len (r := List.range i) nd fun x hx => List.mem_range.mpr (h.is x hx).1
  rw [List.length_range] at this
  omega
/-- the last of them -/
theorem Plc.last {rows : List (List Nat)} {row : List Nat} {ns : List Nat} (h : Plc rows row rows.length ns) (hm : row ∈ rows) : ∃ ms p, ns = ms ++ [p] ∧ rows.eraseIdx p = dropR rows row := by
  obtain ⟨i, hi⟩ := List.mem_iff_getElem?.mp hm
  have im := h.all i (List.getElem?_eq_some_iff.mp hi).1 hi
  have ne : ns ≠ [] := fun z => by rw [z] at im; cases im
  obtain ⟨ms, p, rfl⟩ : ∃ u x, ns = u ++ [x] := ⟨_, _, (List.dropLast_concat_getLast ne).symm⟩
  refine ⟨ms, p, rfl, dropR_at (h.is p (by simp)).2 fun j hj ej => ?_⟩
  have jm := h.all j (List.getElem?_eq_some_iff.mp ej).1 ej
  rcases List.mem_append.mp jm with z | z
  · have := (List.pairwise_append.mp h.up).2.2 j z p (by simp)
    omega
  · rw [List.mem_singleton.mp z] at hj
    omega
end RW
namespace RW
open PySem L2 CC
theorem dps_rev {K : PySem.W.Frag} {H : Hp} : ∀ {ds : List PyData} {vs : List V}, DpAll K H vs ds → DpAll K H vs.reverse ds.reverse
  | [], _, h => by
    cases h
    exact .nil
  | d :: ds, _, h => by
    cases h with
    | cons h1 h2 =>
      rw [List.reverse_cons, List.reverse_cons]
      exact dps_app (dps_rev h2) (dps_one h1)
theorem first_at {row : List Nat} : ∀ {B : List (List Nat)}, row ∈ B → ∃ j, B[j]? = some row ∧ (∀ m, m < j → B[m]? ≠ some row) ∧ B.eraseIdx j = B.erase row
  | [], h => nomatch h
  | x :: B, h => by
    by_cases e : x = row
    · subst e
      exact ⟨0, rfl, fun m hm => absurd hm (Nat.not_lt_zero _), by simp⟩
    · obtain ⟨j, h1, h2, h3⟩ := first_at (B := B) (by
        rcases List.mem_cons.mp h with z | z
        · exact absurd z.symm e
        · exact z)
      refine ⟨j + 1, by simpa using h1, fun m hm => ?_, ?_⟩
      · cases m with
        | zero => simpa using e
        | succ m => simpa using h2 m (by omega)
      · rw [List.eraseIdx_cons_succ, h3, List.erase_cons_tail (by simpa using e)]
end RW
namespace CC
open PySem L2 TL
def spLir (K : PySem.W.Frag) : Sp := fun vs H Q _ => ∃ (m : Nat) (t : Addr) (row : List Nat), vs = [.int (m : Int), .ref t] ∧ SqT K H t (nms row) ∧ RowOk m row ∧ m ≤ 6 ∧ ∀ H', Same H H' → Q (.bl true) H'
def spDdu (K : PySem.W.Frag) : Sp := fun vs H Q _ => ∃ (m : Nat) (l t : Addr) (us : List V) (rows : List (List Nat)) (row : List Nat), vs = [.int (m : Int), .ref l, .ref t] ∧ m ≤ 6 ∧ SqL K H l us ∧ DpAll K H us (rows.map gd) ∧ rows.length ≤ 400 ∧ SqT K H t (nms row) ∧ RowOk m row ∧ row ∈ rows ∧
  ∀ (p p2 : Addr) (v : V) (us' : List V) (H' : Hp), Same H H' → H p2 = none → SqL K H' p [v, .ref p2] → H' p2 = some (.lst us') → DpAll K H' us' ((RW.dropR rows row).map gd) → Q (.ref p) H'
section
variable {P : Program} {w : World} {K : PySem.W.Frag} {mg : Str → Option Value} {base : Heap} {kA : Addr}
abbrev nLir : List Str := ["_law_many", "_law_thing", "_law_one"]
theorem scLir : FnScope nLir ["_law_many", "_law_thing"] (defScope sLir) := ⟨rfl, rfl, rfl, by decide +kernel, rfl, by decide +kernel, by decide +kernel⟩
theorem ok_lir {f : Addr} {fd : FuncData} {k : Nat} (F : Fun K "_law_is_row" "_law_is_row" sLir f fd) (T : Glb K mg kA) : FnOk P w K mg base CX0 (k + 1) f fd ["_law_many", "_law_thing"] (spLir K) := by
  refine F.ok scLir (fun vs H Q E h => ?_) (fun cdv A outer s H vs Q E hr h => ?_)
  · obtain ⟨m, t, row, rfl, _⟩ := h
    rfl
  · obtain ⟨m, t, row, rfl, ht, ⟨rl, rv⟩, w6, q⟩ := h
    have n := scLir.nd
    have hu64 : (A.deeper (PyProof.Rows.envOfC (Str.ofString "_law_is_row") (defScope sLir) s.heap.objs.size f cdv)).units + 64 < cLine := by
      have := hr.un
      omega
    refine ⟨_, (pss_cons (ps_if (PW.pt (pw_or (pt_not (pt_val (pe_callB call_isi (by rfl) T.isi (by decide +kernel) (pa_cons (pv 1) (pa_cons (pe_bltn (v := .ty "tuple") (by rfl) T.tup (by decide +kernel) rfl) pa_nil))))) (pw_or1 (pt_cmpR op_ne (pe_callB call_len_seq (by rfl) T.len PySem.boot_len (pa_cons (pv 1) pa_nil)) (pv 0) (nomark _))))) (pss_one (ps_ret pe_bl)) pss_nil)
      (pss_one (ps_ret (pe_cmpR (op_eqD hu64) (pe_lc (own := [("_law_one", 2)]) (g := gName 2) (tt := tOr (tNot (tB (tCB (rIsi K) (tCons (tVar 2) (tCons (tC (.ty "int")) tNil))))) (tOr (tB (tCB (rIsi K) (tCons (tVar 2) (tCons (tC (.ty "bool")) tNil)))) (tNot (tTest (tChain (rI0 fun i j => .bl (decide (i ≤ j))) (rI0 fun i j => .bl (decide (i < j))) (tC (.int 0)) (tVar 2) (tC (.int 10000))))))) (te := tC (.int 1)) rfl n (pi_tup (pv 1)) (blkOk_by (N := nLir) (sc := defScope sLir) (by decide +kernel))
        (fun _ _ _ _ _ => (pg_name (i := 2) n rfl (.inl rfl))) (fun _ _ _ _ _ => pts_one (PW.pt (pw_or (pt_not (pt_val (pe_callB call_isi (by rfl) T.isi (by decide +kernel) (pa_cons (pv 2) (pa_cons (pe_bltn (v := .ty "int") (by rfl) T.int (by decide +kernel) rfl) pa_nil))))) (pw_or (pt_val (pe_callB call_isi (by rfl) T.isi (by decide +kernel) (pa_cons (pv 2) (pa_cons (pe_bltn (v := .ty "bool") (by rfl) T.bool (by decide +kernel) rfl) pa_nil)))) (pw_or1 (pt_not (pt_chain op_le op_lt pe_int (pv 2) pe_int))))))) (fun _ _ _ _ _ => pe_int)) (pe_lst pa_nil) (nomark _))))), ?_⟩
    refine ⟨_, rfl, _, _, _, _, true, rfl, .ty _, ty_tup ht, kit_ty (by decide +kernel), _, rfl, iteF ?_⟩
    refine ⟨_, rfl, t, _, rfl, .inr ht, _, rfl, rfl, _, rfl, ?_⟩
    rw [show (!decide (V.int (((nms row).length : Nat) : Int) = V.int (m : Int))) = false by rw [nms_len, rl]; simp]
    refine iteF ?_
    refine ⟨_, rfl, t, rfl, ⟨_, ht⟩, fun D nD => ?_⟩
    refine lc_tup (xs := nms row) (fun i H1 => Same H (wo H1 D) ∧ H1 D = some (.lst [])) ⟨?_, upd_same⟩ (fun i H1 _ z => same_t (z.1.trans (wo_le D)) ht) ?_ ?_
    · rw [wo_upd]
      exact fun b o e => by rw [wo_ne (ne_of_none e nD)]; exact e
    · rintro i v H1 hv ⟨e1, e2⟩
      obtain ⟨y, hy, rfl⟩ := nms_at hv
      have yv := rv y (List.mem_of_getElem? hy)
      have c1 : decide ((0 : Int) ≤ (y : Int)) = true := decide_eq_true (by omega)
      have c2 : decide ((y : Int) < (10000 : Int)) = true := decide_eq_true (by omega)
      refine ⟨rfl, _, rfl, _, _, _, _, true, rfl, .ty _, .base (.int _), kit_ty (by decide +kernel), _, rfl, iteF ?_⟩
      refine ⟨_, rfl, _, _, _, _, false, rfl, .ty _, .base (.int _), kit_ty (by decide +kernel), _, rfl, iteF ?_⟩
      refine ⟨_, rfl, _, _, rfl, rfl, _, rfl, ?_⟩
      rw [c1]
      refine iteT ⟨_, _, rfl, rfl, _, rfl, ?_⟩
      rw [c2]
      exact iteF ⟨e1, e2⟩
    rintro H1 ⟨e1, e2⟩
    refine ⟨Nat.zero_le _, fun p np => ?_⟩
    have s2 : Same H1 (upd H1 p (.lst [])) := same_new np
    refine ⟨.list [], .list [], .lst (SqL.of (s2 _ _ e2)) .nil, .lst (SqL.of upd_same) .nil, RW.gdl_shp [], RW.gdl_shp [], ?_⟩
    rw [show PyData.eqv (.list []) (.list []) = true by simp [PyData.eqv, PyData.eqvAll]]
    exact q _ ((e1.trans (wo_le D)).trans s2)
abbrev nDdu : List Str := ["_law_many", "_law_listed", "_law_row_here", "_law_back", "_law_at"]
theorem scDdu : FnScope nDdu ["_law_many", "_law_listed", "_law_row_here"] (defScope sDdu) := ⟨rfl, rfl, rfl, by decide +kernel, rfl, by decide +kernel, by decide +kernel⟩
theorem ok_ddu {f : Addr} {fd : FuncData} {k : Nat} (F : Fun K "_law_drop_due" "_law_drop_due" sDdu f fd) (cI : Cal P w K mg base "_law_is_row" ["_law_many", "_law_thing"] (spLir K) 1) : FnOk P w K mg base CX0 (k + 2) f fd ["_law_many", "_law_listed", "_law_row_here"] (spDdu K) := by
  have GI := cI.ok (k + 1) (by omega)
  refine F.ok scDdu (fun vs H Q E h => ?_) (fun cdv A outer s H vs Q E hr h => ?_)
  · obtain ⟨m, l, t, us, rows, row, rfl, _⟩ := h
    rfl
  · obtain ⟨m, l, t, us, rows, row, rfl, w6, hl, dl, few, ht, rok, hm, q⟩ := h
    have n := scDdu.nd
    have hu65 : (A.deeper (PyProof.Rows.envOfC (Str.ofString "_law_drop_due") (defScope sDdu) s.heap.objs.size f cdv)).units + 65 < cLine := by
      have := hr.un
      omega
    refine ⟨_, (pss_cons (ps_if (pt_not (pt_val (pe_call GI hr rfl cI.g cI.kp cI.b .nil pass0 (pa_cons (pv 0) (pa_cons (pv 2) pa_nil))))) (pss_one (ps_ret (pe_lst (pa_cons (pe_lst (pa_cons pe_str pa_nil)) (pa_cons (pv 1) pa_nil))))) pss_nil)
      (pss_cons (ps_if (pt_cmpR (op_notInD hu65) (pv 2) (pv 1) (by rfl)) (pss_one (ps_ret (pe_lst (pa_cons (pe_lst (pa_cons pe_str pa_nil)) (pa_cons (pv 1) pa_nil))))) pss_nil)
      (pss_cons (ps_set (i := 3) n rfl (.inl rfl) (pe_revL (pv 1)))
      (pss_cons (ps_set (i := 4) n rfl (.inl rfl) (pe_bm PySem.F.plainAttrs_list PySem.F.slot_list_index PySem.F.type_list_index (mt_indexD hu65) (pv 3) (pa_cons (pv 2) pa_nil)))
      (pss_one (ps_ret (pe_lst (pa_cons (pe_lst (pa_cons pe_str (pa_cons pe_non pa_nil))) (pa_cons (pe_revL (pe_op op_cat (pe_slice sl_list (pv 3) po_none (po_some (pv 4))) (pe_slice sl_list (pv 3) (po_some (pe_op op_add (pv 4) pe_int)) po_none))) pa_nil))))))))), ?_⟩
    have ul : us.length = rows.length := by rw [dps_len dl, List.length_map]
    refine ⟨_, rfl, _, rfl, m, t, row, rfl, ht, rok, w6, fun H1 s1 => ⟨_, rfl, iteF ?_⟩⟩
    have hl1 := same_l s1 hl
    have dl1 := dps_same s1 _ _ dl
    have ht1 := same_t s1 ht
    refine ⟨_, rfl, _, rfl, gd row, rows.map gd, dp_gd ht1, .lst hl1 dl1, RW.gd_shp _, RW.gdl_shp _, _, rfl, ?_⟩
    rw [RW.gds_any, decide_eq_true hm]
    refine iteF ?_
    refine ⟨_, rfl, l, us, rfl, hl1, fun pb npb => ?_⟩
    have s2 : Same H1 (upd H1 pb (.lst us.reverse)) := same_new npb
    have hpb : (upd H1 pb (.lst us.reverse)) pb = some (.lst us.reverse) := upd_same
    generalize upd H1 pb (.lst us.reverse) = H2 at s2 hpb
    have dr : DpAll K H2 us.reverse (rows.reverse.map gd) := by
      rw [List.map_reverse]
      exact RW.dps_rev (dps_same s2 _ _ dl1)
    obtain ⟨j, j1, j2, j3⟩ := RW.first_at (B := rows.reverse) (List.mem_reverse.mpr hm)
    have jl := (List.getElem?_eq_some_iff.mp j1).1
    rw [List.length_reverse] at jl
    refine ⟨_, rfl, .inl ⟨rfl, _, SqL.of hpb⟩, _, rfl, pb, _, gd row, rows.reverse.map gd, j, gd row, rfl, rfl, .lst (SqL.of hpb) dr, dp_gd (same_t s2 ht1), RW.gdl_shp _, RW.gd_shp _, by rw [List.getElem?_map, j1]; rfl, by rw [RW.gd_eqv, decide_eq_true rfl], fun i z hi hz => ?_, ?_⟩
    · rw [List.getElem?_map] at hz
      cases y : rows.reverse[i]? with
      | none => rw [y] at hz; cases hz
      | some y' =>
        rw [y] at hz
        cases hz
        rw [RW.gd_eqv]
        exact decide_eq_false fun e => j2 i hi (by rw [y, e])
    refine ⟨(by show 2 ≤ sizeLine; decide), fun p1 np1 => ?_⟩
    have s3 : Same H2 (upd H2 p1 (.lst [.str "told", .non])) := same_new np1
    generalize upd H2 p1 (.lst [.str "told", .non]) = H3 at s3
    have hpb3 := s3 _ _ hpb
    refine ⟨_, rfl, _, rfl, _, rfl, pb, _, rfl, SqL.of hpb3, fun p2 np2 => ?_⟩
    rw [show cutV us.reverse none (some (j : Int)) = us.reverse.take j from cut_to _ _]
    have s4 : Same H3 (upd H3 p2 (.lst (us.reverse.take j))) := same_new np2
    have hp2 : (upd H3 p2 (.lst (us.reverse.take j))) p2 = some (.lst (us.reverse.take j)) := upd_same
    generalize upd H3 p2 (.lst (us.reverse.take j)) = H4 at s4 hp2
    refine ⟨_, rfl, _, rfl, _, _, rfl, rfl, _, rfl, pb, _, rfl, SqL.of (s4 _ _ hpb3), fun p3 np3 => ?_⟩
    rw [show cutV us.reverse (some ((j : Int) + 1)) none = us.reverse.drop (j + 1) from by rw [show ((j : Int) + 1) = ((j + 1 : Nat) : Int) by omega]; exact cut_from _ _]
    have s5 : Same H4 (upd H4 p3 (.lst (us.reverse.drop (j + 1)))) := same_new np3
    have hp3 : (upd H4 p3 (.lst (us.reverse.drop (j + 1)))) p3 = some (.lst (us.reverse.drop (j + 1))) := upd_same
    generalize upd H4 p3 (.lst (us.reverse.drop (j + 1))) = H5 at s5 hp3
    refine ⟨p2, p3, _, _, rfl, rfl, s5 _ _ hp2, hp3, ?_, fun p4 np4 => ?_⟩
    · rw [List.length_take, List.length_drop, List.length_reverse]
      exact Nat.le_of_lt (small1000 (by omega))
    have s6 : Same H5 (upd H5 p4 (.lst (us.reverse.take j ++ us.reverse.drop (j + 1)))) := same_new np4
    have hp4 : (upd H5 p4 (.lst (us.reverse.take j ++ us.reverse.drop (j + 1)))) p4 = some (.lst (us.reverse.take j ++ us.reverse.drop (j + 1))) := upd_same
    generalize upd H5 p4 (.lst (us.reverse.take j ++ us.reverse.drop (j + 1))) = H6 at s6 hp4
    refine ⟨p4, _, rfl, SqL.of hp4, fun p5 np5 => ?_⟩
    have s7 : Same H6 (upd H6 p5 (.lst (us.reverse.take j ++ us.reverse.drop (j + 1)).reverse)) := same_new np5
    have hp5 : (upd H6 p5 (.lst (us.reverse.take j ++ us.reverse.drop (j + 1)).reverse)) p5 = some (.lst (us.reverse.take j ++ us.reverse.drop (j + 1)).reverse) := upd_same
    generalize upd H6 p5 (.lst (us.reverse.take j ++ us.reverse.drop (j + 1)).reverse) = H7 at s7 hp5
    refine ⟨(by show 2 ≤ sizeLine; decide), fun p6 np6 => ?_⟩
    have s8 : Same H7 (upd H7 p6 (.lst [.ref p1, .ref p5])) := same_new np6
    have s28 : Same H2 (upd H7 p6 (.lst [.ref p1, .ref p5])) := s3.trans (s4.trans (s5.trans (s6.trans (s7.trans s8))))
    refine q p6 p5 (.ref p1) _ _ (s1.trans (s2.trans s28)) ((s1.trans (s2.trans (s3.trans (s4.trans (s5.trans s6))))).free np5) (SqL.of upd_same) (s8 _ _ hp5) ?_
    have dr8 := dps_same s28 _ _ dr
    have e : (RW.dropR rows row).map gd = ((rows.reverse.map gd).take j ++ (rows.reverse.map gd).drop (j + 1)).reverse := by
      unfold RW.dropR
      rw [← j3, List.eraseIdx_eq_take_drop_succ, List.map_reverse, List.map_append, List.map_take, List.map_drop]
    rw [e]
    exact RW.dps_rev (dps_app (dps_take _ dr8) (dps_drop _ dr8))
end
end CC
namespace CC
open PySem L2 TL
section
variable {P : Program} {w : World} {K : PySem.W.Frag} {mg : Str → Option Value} {base : Heap} {kA : Addr}
theorem scLInit : FnScope ["self", "rules"] ["self", "rules"] (defScope sLInit) := ⟨rfl, rfl, rfl, by decide +kernel, rfl, by decide +kernel, by decide +kernel⟩
end
end CC
/-! C.m(..), m a plain def of the class at C -/
namespace CFU
open PySem PySem.Spec PySem.Calls PyProof.Rows L2 ClX
structure CFun (K : PySem.W.Frag) (C : Addr) (mc : Value) (m : Str) (g : Addr) : Prop where
  at_ : PySem.W.findCls K (.ref C) mc m = some (.val (.ref g))
  ty : PySem.W.typeIn K (.ref g) = some (.type "function")
  kp : PySem.W.keepIn K (.ref g) = true
section
variable {X : Cx} {CX : CXT} {k : Nat} {C g : Addr} {mc : Value} {sp : Sp} {E : XK} {o e : Expr} {es : List Expr} {m : Str} {pos apos : Pos} {ta : TE} {t : TA} {pl : Sem Bool}
end
end CFU
namespace CC
open PySem L2 TL
/-! ### how a log is made -/
/-- isinstance(x, C): an instance of C, or a value of which NI says that it is none -/
def rIsG (C : Addr) (NI : Hp → V → Prop) : List V → Hp → VK → Prop := fun xs H Q => (∃ a dx fs, xs = [.ref a, .ref C] ∧ H a = some (.ins C dx fs) ∧ Q (.bl true) H) ∨ ∃ y, xs = [y, .ref C] ∧ NI H y ∧ Q (.bl false) H
def IsG (K : PySem.W.Frag) (C : Addr) (NI : Hp → V → Prop) : Prop := ∀ {X : Cx}, X.K = K → CallR X (.builtin "isinstance") (rIsG C NI)
theorem isG_plain {K : PySem.W.Frag} {C : Addr} (ic : C8.InsC K C) (no : NoIns K C) : IsG K C (OC.OddV K) := by
  intro X e
  subst e
  intro pins s σ H xs us Q I r h
  exact call_isCX ic no pins s σ H xs us Q I r h
theorem fldM_put (b h p : Addr) : putF "past" (.ref p) (putF "held" (.ref h) (putF "book" (.ref b) [])) = fldM none b h p := by
  rw [fldL_put]
  unfold fldM lmF
  rw [List.append_nil]
/-- Log(v) -/
def spLInitM (K : PySem.W.Frag) (C CR CT c3 : Addr) (NI : Hp → V → Prop) : Sp := fun vs H Q E => ∃ (x dx : Addr) (v : V), vs = [.ref x, v] ∧ H x = some (.ins C dx []) ∧
  ((∃ (r : Addr) (w : Nat) (rs : List R), v = .ref r ∧ RulesAt K CR (wo H x) r w rs ∧ 1 ≤ w ∧ w ≤ 6 ∧ ∀ (H' : Hp) (q : Addr), (∀ b o, H b = some o → b ≠ x → H' b = some o) → H q = none → LgAt K C CR CT none H' x r q w rs [] [] → Q .non H') ∨
   (NI H v ∧ E (.ref c3) none H))
section
variable {P : Program} {w : World} {K : PySem.W.Frag} {mg : Str → Option Value} {base : Heap} {kA : Addr}
theorem ok_linitM {f C CR CT c3 : Addr} {NI : Hp → V → Prop} {fd : FuncData} {k : Nat} (F : Fun K "__init__" "Log.__init__" sLInit f fd) (T : Glb K mg kA) (TL : TxtM K C) (TR : Txt1 K mg CR) (TT : TxtT K mg CT) (e3 : ExcK K mg "NotRules" c3) (hci : IsG K CR NI) (pW : Prp P w K mg base CR "width" "span") (mT : MakeT P w K mg base CT 3) : FnOk P w K mg base (L2.CX P w) (k + 5) f fd ["self", "rules"] (spLInitM K C CR CT c3 NI) := by
  have GN := mT.ok (k + 3) (by omega)
  refine F.okX scLInit (fun vs H Q E h => ?_) (fun cdv A outer s H vs Q E hr h => ?_)
  · obtain ⟨x, dx, v, rfl, _⟩ := h
    rfl
  · obtain ⟨x, dx, v, rfl, hx, hv⟩ := h
    refine ⟨_, (pss_cons (ps_if (pt_not (pt_val (pe_callB (hci rfl) (by rfl) T.isi (by decide +kernel) (pa_cons (pv 1) (pa_cons (pe_glob (v := .ref CR) rfl TR.mgC rfl) pa_nil))))) (pss_one (ps_raise rfl (takes_of rfl rfl rfl rfl) (pmk_own PySem.F.excBase_ValueError e3.x e3.g e3.k (raises_own e3.b e3.t) rfl))) pss_nil)
      (pss_cons (ps_fld (pv 0) (pv 1) rfl)
      (pss_cons (ps_fld (pv 0) (StX.pe_makeR mT.M GN hr rfl TT.mgC pass0 (pa_cons (pe_prop (pv 1) TR.cl pW.hp (pW.ok (k + 3) (by omega)) hr pW.b .nil pass0 rfl) pa_nil)) rfl)
      (pss_one (ps_fld (pv 0) (pe_lst pa_nil) rfl))))), ?_⟩
    rcases hv.symm with ⟨ni, eE⟩ | ⟨r, m, rs, rfl, bk, w1, w6, q⟩
    · exact ⟨_, rfl, .inr ⟨v, rfl, ni, _, rfl, iteT eE⟩⟩
    obtain ⟨dr, g, us, r1, r2, r3⟩ := id bk
    have rx : r ≠ x := fun z => by rw [z, wo_at] at r1; cases r1
    have gx : g ≠ x := fun z => by rw [z, wo_at] at r2; cases r2
    have r1' := wo_le x _ _ r1
    refine ⟨_, rfl, .inl ⟨r, dr, _, rfl, r1', _, rfl, iteF ?_⟩⟩
    refine ⟨_, rfl, _, rfl, x, C, dx, _, rfl, hx, TL.cl, TL.nB, (by show 0 < 1000; decide), ?_⟩
    have h1x : (upd H x (.ins C dx (putF "book" (.ref r) []))) x = some (.ins C dx (putF "book" (.ref r) [])) := upd_same
    have k1 : Same (wo H x) (wo (upd H x (.ins C dx (putF "book" (.ref r) []))) x) := by
      rw [wo_upd]
      exact Same.refl _
    generalize upd H x (.ins C dx (putF "book" (.ref r) [])) = H1 at h1x k1
    have r11 := wo_le x _ _ (k1 _ _ r1)
    refine ⟨_, rfl, r, dr, _, rfl, r11, r, dr, _, _, rfl, r11, flds_span _ _, ?_⟩
    refine fun t dz nt ndz ne => ?_
    refine mkT_go (K := K) (C := CT) (H := H1) (us := []) (rows := []) w1 w6 (fun r hr => nomatch hr) (Nat.zero_le _) .nil nt ndz ne fun H2 s2 tt => ⟨rfl, ?_⟩
    have h2x := s2 _ _ h1x
    refine ⟨_, rfl, x, C, dx, _, rfl, h2x, TL.cl, TL.nH, (by show 1 < 1000; decide), ?_⟩
    have h3x : (upd H2 x (.ins C dx (putF "held" (.ref t) (putF "book" (.ref r) [])))) x = some (.ins C dx (putF "held" (.ref t) (putF "book" (.ref r) []))) := upd_same
    have k3 : Same (wo H2 x) (wo (upd H2 x (.ins C dx (putF "held" (.ref t) (putF "book" (.ref r) [])))) x) := by
      rw [wo_upd]
      exact Same.refl _
    have tx : TableAt K CT (wo H2 x) t m [] := by
      obtain ⟨dt, gt, ut, t1, t2, t3⟩ := tt
      have a1 : t ≠ x := fun z => by rw [z, h1x] at nt; cases nt
      have a2 : gt ≠ x := ne_of t2 h2x (by intro z; cases z)
      refine ⟨dt, gt, ut, by rw [wo_ne a1]; exact t1, by rw [wo_ne a2]; exact t2, ?_⟩
      cases t3
      exact .nil
    generalize upd H2 x (.ins C dx (putF "held" (.ref t) (putF "book" (.ref r) []))) = H3 at h3x k3
    refine ⟨Nat.zero_le _, fun p np => ?_⟩
    have px : p ≠ x := fun z => by rw [z, h3x] at np; cases np
    have h4x : (upd H3 p (.lst [])) x = some (.ins C dx (putF "held" (.ref t) (putF "book" (.ref r) []))) := by
      rw [upd_ne px.symm]
      exact h3x
    refine ⟨_, rfl, x, C, dx, _, rfl, h4x, TL.cl, TL.nP, (Nat.lt_of_le_of_lt (putF_len _ _ _) (by show 2 < 1000; decide)), ?_⟩
    rw [fldM_put]
    have s03 : Same (wo H x) (wo H3 x) := (k1.trans (wo_same s2)).trans k3
    have key : ∀ b o, wo H3 x b = some o → wos (upd (upd H3 p (.lst [])) x (.ins C dx (fldM none r t p))) [x, p] b = some o := fun b o e => by
      have bx : b ≠ x := fun z => by rw [z, wo_at] at e; cases e
      rw [wo_ne bx] at e
      have bp : b ≠ p := ne_of_none e np
      rw [wos_in (by simp [bx, bp]), upd_ne bx, upd_ne bp]
      exact e
    refine q _ p (fun b o e hb => ?_) ?_ ⟨⟨dx, t, upd_same, tx.same (k3.trans key)⟩, bk.same (s03.trans key), [], ?_, .nil⟩
    · have := s03 b o (by rw [wo_ne hb]; exact e)
      exact wos_le _ _ _ (key b o this)
    · cases z : H p with
      | none => rfl
      | some o =>
        have := wo_le x _ _ (s03 p o (by rw [wo_ne px]; exact z))
        rw [np] at this
        cases this
    · rw [upd_ne px]
      exact upd_same
/-- the limit behind the other fields -/
theorem LgAt.limit {C CR CT x r q dx t : Addr} {H : Hp} {w m : Nat} {rs : List R} {rows : List (List Nat)} {ps : List (List (List Nat))} (L : LgAt K C CR CT none H x r q w rs rows ps) (hx : H x = some (.ins C dx (fldM none r t q))) : LgAt K C CR CT (some m) (upd H x (.ins C dx (fldM (some m) r t q))) x r q w rs rows ps := by
  obtain ⟨⟨dx0, t0, h1, h2⟩, h3, ⟨hs, h4, h5⟩⟩ := id L
  have et : t0 = t := by
    rw [hx] at h1
    have z := congrArg (fun o => match o with | some (HO.ins _ _ fs) => fs.lookup ("held" : Str) | _ => none) h1
    simp only [fldM_h] at z
    cases z
    rfl
  subst et
  have k : Same (wos H [x, q]) (wos (upd H x (.ins C dx (fldM (some m) r t0 q))) [x, q]) := fun b o e => by
    obtain ⟨nb, e⟩ := wos_at e
    rw [wos_in nb, upd_ne (fun z => nb (by simp [z]))]
    exact e
  exact ⟨⟨dx, t0, upd_same, h2.same k⟩, h3.same k, ⟨hs, by rw [upd_ne L.ne.symm]; exact h4, h5.same k⟩⟩
end
end CC
namespace CC
open PySem L2 TL LamX
/-! ### what is no instance of a class, by its type -/
def NTy (K : PySem.W.Frag) (C : Addr) (H : Hp) (y : V) : Prop := ∃ t, TyX K H y t ∧ PySem.W.kitOne K t (.ref C) = some false
theorem isG_ty {K : PySem.W.Frag} {C : Addr} (ic : C8.InsC K C) : IsG K C (NTy K C) := by
  intro X e
  subst e
  intro pins s σ H xs us Q I r h
  rcases h with h | ⟨y, rfl, ⟨t, ty, hk⟩, q⟩
  · exact C8.call_isC ic pins s σ H xs us Q I r h
  · exact call_isi pins s σ H _ us Q I r ⟨y, .ref C, _, _, false, rfl, .own C, ty, hk, q⟩
section
variable {K : PySem.W.Frag} {C D : Addr} {H H' : Hp} {y : V}
theorem NTy.of (no : NoIns K C) (h : OC.OddV K H y) : NTy K C H y := by
  obtain ⟨n, ty, hn⟩ := h
  exact ⟨_, ty, no.kit n hn⟩
theorem NTy.ins {a dx : Addr} {fs : List (Str × V)} (ic : C8.InsC K D) (e : H a = some (.ins D dx fs)) (hk : PySem.W.kitOne K (.ref D) (.ref C) = some false) : NTy K C H (.ref a) :=
  ⟨_, .base (.ins e ic.cl ic.ha ic.hn ic.htk ic.hm), hk⟩
theorem NTy.same (h : NTy K C H y) (e : Same H H') : NTy K C H' y := by
  obtain ⟨t, ty, hk⟩ := h
  exact ⟨t, ty_same e ty, hk⟩
/-- beside the tables of code objects -/
theorem NTy.ext (h : NTy K C (nt H) y) (e : ExtN H H') : NTy K C (nt H') y := h.same (ext_nt e)
theorem NTy.le (h : NTy K C (nt H) y) : NTy K C H y := h.same nt_le
end
end CC
/-! set(l) of a list of numbers; len of a set of tuples, which are different -/
namespace SLI
open PySem PySem.Spec PyProof.Rows L2 CC
theorem its_nms {ns : List Nat} {us : List Value} (r : Vals (nms ns) us) (i : Nat) (v : Value) (h : us[i]? = some v) : ∃ x t, ns[i]? = some x ∧ v = Value.int (x : Int) t := by
  induction ns generalizing us i with
  | nil =>
    cases r
    simp at h
  | cons y ys ih =>
    cases r with
    | cons r t =>
      obtain ⟨tk, rfl⟩ := r
      cases i with
      | zero =>
        simp at h
        exact ⟨y, tk, rfl, h.symm⟩
      | succ i => exact ih t i (by simpa using h)
theorem take1' {ns : List Nat} {i x : Nat} (h : ns[i]? = some x) : ns.take (i + 1) = ns.take i ++ [x] := by
  rw [List.take_succ, h]
  rfl
section
variable {P : Program} {w : World} {A : Around} {s : Shared}
theorem fills_num {ns : List Nat} {its : Array Value} (e : ∀ (i : Nat) v, its[i]? = some v → ∃ x t, ns[i]? = some x ∧ v = Value.int (x : Int) t) (few : ns.length ≤ 400) :
    SG.Fills P w A s.heap.objs.size s.heap its.size (fun i v => its[i]? = some v) fun i h => (∀ b o, s.heap.get? b = some o → h.get? b = some o) ∧ SetR w h s.heap.objs.size (memI (ns.take i)) (dn (ns.take i)) := by
  have nw : s.heap.get? s.heap.objs.size = none := by
    cases z : s.heap.get? s.heap.objs.size with
    | none => rfl
    | some o => exact absurd (Heap.lt_size z) (Nat.lt_irrefl _)
  constructor
  · rintro i h h' ⟨k0, S⟩ kp
    exact ⟨fun b o q => kp b o (.inr ⟨o, q⟩) (k0 b o q), S.at fun o g => kp _ _ (.inl rfl) g⟩
  · rintro i v s' Q E' lt pv ⟨k0, S⟩ q
    obtain ⟨x, t, hx, rfl⟩ := e i v pv
    have il : i < ns.length := (List.getElem?_eq_some_iff.mp hx).1
    have room : dn (ns.take i) + 1 < scanBound := by
      have := dn_le ns i
      unfold scanBound
      omega
    unfold setAdd
    refine wpAny_holding (wpAny_bind ((intKind P w).pyHash (k := (x : Int)) (intKind_is _ _ _ _) ?_))
    refine setR_add_hashed (s := { s' with toks := s'.toks + 1 }) S room fun h' sb S' => ?_
    refine q h' _ (Nat.le_add_right _ _) sb ⟨fun b o g => (sb.2 b fun y => by rw [y, nw] at g; cases g).trans (k0 b o g), ?_⟩
    rw [take1' hx, dn_snoc, ← memI_snoc]
    rw [memI_at] at S'
    by_cases z : x ∈ ns.take i
    · rw [decide_eq_true z, if_pos rfl] at S'
      rw [if_pos z]
      exact S'
    · rw [decide_eq_false z, if_neg (by decide)] at S'
      rw [if_neg z]
      exact S'
end
section
variable {X : Cx}
def rSetOfI (K : PySem.W.Frag) (w : World) : List V → Hp → VK → Prop := fun xs H Q => ∃ (l : Addr) (ns : List Nat), xs = [V.ref l] ∧ SqL K H l (nms ns) ∧ ns.length ≤ 400 ∧ ∀ p, H p = none → Q (.ref p) (upd H p (SetO w p (memI ns) (dn ns)))
theorem cr_setOfI (hc : X.calm = true) : CallR X (.type "set") (rSetOfI X.K X.w) := by
  intro pins s σ H xs us Q I r h
  obtain ⟨l, ns, rfl, hl, few, q⟩ := h
  rw [Vals.ref1 r]
  obtain ⟨its, rv, pl, hz⟩ := I.list hl
  have hn : H s.heap.objs.size = none := I.hok.fresh (Nat.le_refl _)
  have n : its.toArray.size = ns.length := by
    have z := rv.length
    rw [nms_len] at z
    rw [List.size_toArray]
    exact z.symm
  refine SG.make (I.ok.hd hc) (.inl pl.isList) (fills_num (ns := ns) (fun i v hv => its_nms rv i v (by simpa using hv)) few) (fun h g kp => ⟨kp, ?_⟩) fun h' tk ⟨_, S⟩ kp => ?_
  · have z := setR_new_at (w := X.w) (ns := []) g
    rw [List.take_zero, show dn [] = 0 by simp [dn, firsts]]
    exact z.congr fun k => by simp [memI]
  · rw [n, List.take_length] at S
    exact ⟨.ref s.heap.objs.size, _, I.laid (t' := tk) kp (Nat.le_refl _) (setO_new S), rfl, q _ hn⟩
/-- len of a set of tuples; they are different -/
def rLenN (P : Program) (w : World) : List V → Hp → VK → Prop := fun xs H Q => ∃ (a : Addr) (L : List (Addr × List Int)), xs = [.ref a] ∧ H a = some (SetTO P w a L) ∧ ((L.map (·.2)).Nodup → Q (.int (L.length : Int)) H)
theorem call_lenN : CallR X (.builtin "len") (rLenN X.prog X.w) := by
  intro pins s σ H xs us Q I r h
  obtain ⟨a, L, rfl, ha, q⟩ := h
  have R0 : SetT0 X.prog X.w s.heap a L := (I.hok a _ ha).1
  have nd : (L.map (·.2)).Nodup := by
    obtain ⟨es, ep, t, ⟨o, ho, hex, hd⟩, rows, tab, nd, _⟩ := R0.ex
    exact nd
  exact SC.call_lenT pins s σ H _ us Q I r ⟨a, L, rfl, ha, q nd⟩
end
end SLI
namespace CC
open PySem L2 TL
def spIh (K : PySem.W.Frag) : Sp := fun vs H Q _ => ∃ (g : Addr) (us : List V) (m : Nat) (rows : List (List Nat)) (v : V) (r : R), vs = [.ref g, v] ∧ SqL K H g us ∧ DpAll K H us (rows.map gd) ∧ (∀ x ∈ rows, RowOk m x) ∧ rows.length ≤ 60 ∧ Dp K H v r.d ∧ r.ok m ∧ ∀ (t : Bool) H', Same H H' → (t = true ↔ HoldsR rows r) → Q (.bl t) H'
theorem row_ix {w : Nat} {x : List Nat} {c : Nat} (h : RowOk w x) (hc : c < w) : (nms x)[c]? = some (.int ((x.getD c 0 : Nat) : Int)) := by
  rw [nms, List.getElem?_map, List.getD_eq_getElem?_getD, List.getElem?_eq_getElem (by rw [h.1]; exact hc)]
  rfl
theorem dps_two {K : PySem.W.Frag} {H : Hp} : ∀ {ps : List (Nat × Nat)} {us : List V}, DpAll K H us (ps.map prd) → ∃ ks : List (Addr × List Int), us = ks.map (fun p => V.ref p.1) ∧ ks.map (·.2) = ps.map (fun p => [(p.1 : Int), (p.2 : Int)]) ∧ ∀ p ∈ ks, SqT K H p.1 (p.2.map V.int)
  | [], _, h => by
    cases h
    exact ⟨[], rfl, rfl, fun p hp => nomatch hp⟩
  | p :: ps, _, h => by
    cases h with
    | cons h1 h2 =>
      obtain ⟨t, rfl, ht⟩ := dp_p h1
      obtain ⟨ks, e1, e2, e3⟩ := dps_two h2
      refine ⟨(t, [(p.1 : Int), (p.2 : Int)]) :: ks, by rw [e1]; rfl, by rw [List.map_cons, e2]; rfl, fun q hq => ?_⟩
      rcases List.mem_cons.mp hq with z | z
      · rw [z]
        exact ht
      · exact e3 q z
theorem ints_in (ns : List Int) (k : Int) : inV (.int k) (ns.map V.int) = decide (k ∈ ns) := by
  induction ns with
  | nil => simp [inV]
  | cons m ns ih =>
    have e : inV (.int k) ((m :: ns).map V.int) = ((m == k) || inV (.int k) (ns.map V.int)) := rfl
    rw [e, ih]
    by_cases h : m = k
    · subst h
      simp
    · have h2 : ¬ k = m := fun z => h z.symm
      simp [h, h2]
theorem ints_flat (ns : List Int) : (ns.map V.int).all flatV = true := by
  rw [List.all_eq_true]
  intro v hv
  obtain ⟨n, _, rfl⟩ := List.mem_map.mp hv
  rfl
theorem one_nil (L : List Nat) : PyData.eqv (.list (L.map fun (n : Nat) => PyData.int (n : Int))) (.list []) = L.isEmpty := by
  cases L with
  | nil => simp [PyData.eqv, PyData.eqvAll]
  | cons x L => simp [PyData.eqv, PyData.eqvAll]
theorem nums_shp (L : List Nat) : SeqAt.shaped (.list (L.map fun (n : Nat) => PyData.int (n : Int))) = true := by
  have h := RW.nums_lay L
  show ((PyData.list _).canLay0 && decide ((PyData.list _).depth ≤ 64)) = true
  simp [PyData.canLay0, PyData.depth, h.1, h.2]
section
variable {P : Program} {w : World} {K : PySem.W.Frag} {mg : Str → Option Value} {base : Heap} {kA : Addr}
abbrev nIh : List Str := ["_law_listed", "_law_rule", "_law_kind", "_law_a", "_law_b", "_law_values", "_law_row_here"]
theorem scIh : FnScope nIh ["_law_listed", "_law_rule"] (defScope sIh) := ⟨rfl, rfl, rfl, by decide +kernel, rfl, by decide +kernel, by decide +kernel⟩
/-- [row[c] for row in listed] -/
theorem li_col {g D : Addr} {us : List V} {rows : List (List Nat)} {m c cs : Nat} {σ : L2.St} {H : Hp} {N : Hp → Prop} (hg : SqL K H g us) (dp : DpAll K H us (rows.map gd)) (ok : ∀ r ∈ rows, RowOk m r) (few : rows.length ≤ 400) (cm : c < m) (nD : H D = none)
    (hw : ∀ x : V, wipe ((wipe σ [6]).set 6 (some x)) [6] = wipe σ [6]) (hx : ∀ x : V, ((wipe σ [6]).set 6 (some x))[6]? = some (some x)) (hc : ∀ x : V, ((wipe σ [6]).set 6 (some x))[cs]? = some (some (.int (c : Int))))
    (q : ∀ H2, Same H (wo H2 D) → H2 D = some (.lst (nms (colN rows c))) → N H2) :
    ∃ W : Nat → Nat → Hp → Prop, (∃ m, W 0 m (upd H D (.lst []))) ∧ ∀ i m H, W i m H → ((Itl K g).stop i H ∧ N H) ∨ ((Itl K g).go i H ∧ ∃ Nx : Hp → Prop, (∀ H', Nx H' → ∃ m', m' < m ∧ W (i + 1) m' H') ∧ ∀ x H', (Itl K g).yld i H x H' → gName 6 x (wipe σ [6]) H' fun τ H2 => wipe τ [6] = wipe σ [6] ∧ tYes τ H2 fun b H3 =>
      if b = true then tOp (rIxT K) (tVar 6) (tVar cs) τ H3 fun y H4 => ∃ acc, H4 D = some (.lst acc) ∧ acc.length < sizeLine ∧ Nx (upd H4 D (.lst (acc ++ [y]))) else Nx H3) := by
  have ul : us.length = rows.length := by rw [dps_len dp, List.length_map]
  refine lc_list (xs := us) (fun j H2 => Same H (wo H2 D) ∧ H2 D = some (.lst (nms (colN (rows.take j) c)))) ⟨?_, upd_same⟩ (fun j H2 _ z => same_l (z.1.trans (wo_le D)) hg) ?_ ?_
  · rw [wo_upd]
    exact fun b o e => by rw [wo_ne (ne_of_none e nD)]; exact e
  · rintro j v H2 hv ⟨f1, f2⟩
    obtain ⟨r, hr2, dr⟩ := dps_gat dp hv
    have jl := (List.getElem?_eq_some_iff.mp hr2).1
    have rok := ok r (List.mem_of_getElem? hr2)
    obtain ⟨t, rfl, ht⟩ := gd_at (dp_same (f1.trans (wo_le D)) _ _ dr)
    refine ⟨hw _, yes_if ⟨_, hx _, _, hc _, t, _, _, _, rfl, rfl, ht, atI_nat (row_ix rok cm), _, f2, small1000 (by rw [nms_len]; unfold colN; rw [List.length_map, List.length_take]; omega), ?_, ?_⟩⟩
    · rw [wo_upd]
      exact f1
    · rw [upd_same, colN_take hr2, nms_app]
      rfl
  · rintro H2 ⟨f1, f2⟩
    rw [ul, List.take_length] at f2
    exact q H2 f1 f2
theorem ok_ih {f : Addr} {fd : FuncData} {k : Nat} (F : Fun K "_law_is_held" "_law_is_held" sIh f fd) (T : Glb K mg kA) : FnOk P w K mg base CX0 (k + 1) f fd ["_law_listed", "_law_rule"] (spIh K) := by
  refine F.ok scIh (fun vs H Q E h => ?_) (fun cdv A outer s H vs Q E hr h => ?_)
  · obtain ⟨g, us, m, rows, v, r, rfl, _⟩ := h
    rfl
  · obtain ⟨g, us, m, rows, v, r, rfl, hg, dp, ok, few, dr, hr2, q⟩ := h
    have n := scIh.nd
    have hu64 : (A.deeper (PyProof.Rows.envOfC (Str.ofString "_law_is_held") (defScope sIh) s.heap.objs.size f cdv)).units + 64 < cLine := by
      have := hr.un
      omega
    refine ⟨_, (pss_cons (ps_asg (pv 1) (pg_tup rfl (pgs_cons (pg_name (i := 2) n rfl (.inl rfl)) (pgs_cons (pg_name (i := 3) n rfl (.inr rfl)) (pgs_cons (pg_name (i := 4) n rfl (.inr rfl)) pgs_nil)))))
      (pss_cons (ps_if (pt_cmpR op_eq (pv 2) pe_str (nomark _))
        (pss_one (ps_ret (pe_cmpR op_eq (pe_callB (r := SLI.rLenN P w) SLI.call_lenN (by rfl) T.len PySem.boot_len (pa_cons (pe_callTy (T := "set") (r := rSetOfT K P w) (cr_setOfT rfl hu64) (by rfl) T.set (by decide +kernel) (pa_cons (pe_lc (own := [("_law_row_here", 6)]) (g := gName 6) (tt := tYes) (te := tTup (tCons (tOp (rIxT K) (tVar 6) (tVar 3)) (tCons (tOp (rIxT K) (tVar 6) (tVar 4)) tNil))) rfl n (pi_list (pv 0)) (blkOk_by (N := nIh) (sc := defScope sIh) (by decide +kernel))
          (fun _ _ _ _ _ => (pg_name (i := 6) n rfl (.inl rfl))) (fun _ _ _ _ _ => pts_nil) (fun _ _ _ _ _ => (pe_tup (pa_cons (pe_ix ix_tup (pv 6) (pv 3) (fun _ _ => rfl)) (pa_cons (pe_ix ix_tup (pv 6) (pv 4) (fun _ _ => rfl)) pa_nil))))) pa_nil)) pa_nil))
          (pe_callB (r := rLenI w) call_lenI (by rfl) T.len PySem.boot_len (pa_cons (pe_callTy (T := "set") (r := SLI.rSetOfI K w) (SLI.cr_setOfI rfl) (by rfl) T.set (by decide +kernel) (pa_cons (pe_lc (own := [("_law_row_here", 6)]) (g := gName 6) (tt := tYes) (te := tOp (rIxT K) (tVar 6) (tVar 3)) rfl n (pi_list (pv 0)) (blkOk_by (N := nIh) (sc := defScope sIh) (by decide +kernel))
          (fun _ _ _ _ _ => (pg_name (i := 6) n rfl (.inl rfl))) (fun _ _ _ _ _ => pts_nil) (fun _ _ _ _ _ => (pe_ix ix_tup (pv 6) (pv 3) (fun _ _ => rfl)))) pa_nil)) pa_nil)) (nomark _))))
        pss_nil)
      (pss_cons (ps_set (i := 5) n rfl (.inr rfl) (pe_callB (r := rSortedSet w) (cr_sortedSet rfl) (by rfl) T.srt (by decide +kernel) (pa_cons (pe_callTy (T := "set") (r := SLI.rSetOfI K w) (SLI.cr_setOfI rfl) (by rfl) T.set (by decide +kernel) (pa_cons (pe_lc (own := [("_law_row_here", 6)]) (g := gName 6) (tt := tYes) (te := tOp (rIxT K) (tVar 6) (tVar 4)) rfl n (pi_list (pv 0)) (blkOk_by (N := nIh) (sc := defScope sIh) (by decide +kernel))
          (fun _ _ _ _ _ => (pg_name (i := 6) n rfl (.inl rfl))) (fun _ _ _ _ _ => pts_nil) (fun _ _ _ _ _ => (pe_ix ix_tup (pv 6) (pv 4) (fun _ _ => rfl)))) pa_nil)) pa_nil)))
      (pss_one (ps_ret (pe_cmpR (op_eqD hu64) (pe_lc (own := [("_law_row_here", 6)]) (g := gName 6) (tt := tTest (tOp (rIn K true) (tOp (rIxT K) (tVar 6) (tVar 3)) (tVar 5))) (te := tC (.int 1)) rfl n (pi_list (pv 0)) (blkOk_by (N := nIh) (sc := defScope sIh) (by decide +kernel))
          (fun _ _ _ _ _ => (pg_name (i := 6) n rfl (.inl rfl))) (fun _ _ _ _ _ => pts_one (pt_cmpR op_notIn_seq (pe_ix ix_tup (pv 6) (pv 3) (fun _ _ => rfl)) (pv 5) (by rfl))) (fun _ _ _ _ _ => pe_int)) (pe_lst pa_nil) (nomark _))))))), ?_⟩
    obtain ⟨kk, a, b⟩ := r
    obtain ⟨tr, rfl, ht⟩ := dp_r dr
    have ul : us.length = rows.length := by rw [dps_len dp, List.length_map]
    have aw : a < m := hr2.1
    have bw : b < m := hr2.2.1
    refine ⟨_, rfl, tr, _, rfl, ht, rfl, _, _, rfl, _, _, rfl, _, _, rfl, rfl, ?_⟩
    cases kk with
    | true =>
      refine ⟨_, rfl, rfl, _, rfl, iteT' (decide_eq_true rfl) ?_⟩
      refine ⟨_, rfl, g, rfl, ⟨_, hg⟩, fun D nD => ?_⟩
      refine lc_list (xs := us) (fun i H1 => MadeF prd K H D i H1 ((rows.take i).map fun r => (r.getD a 0, r.getD b 0))) MadeF.start (fun i H1 _ z => same_l (z.old nD) hg) ?_ ?_
      · rintro i v H1 hv mo
        obtain ⟨x, hx, dx⟩ := dps_gat dp hv
        have xo := ok x (List.mem_of_getElem? hx)
        have il := (List.getElem?_eq_some_iff.mp hx).1
        have o := mo.old nD
        obtain ⟨tx, rfl, htx⟩ := gd_at (dp_same o _ _ dx)
        refine ⟨rfl, yes_if ⟨_, rfl, _, rfl, tx, _, _, _, rfl, rfl, htx, atI_nat (row_ix xo aw), _, rfl, _, rfl, tx, _, _, _, rfl, rfl, htx, atI_nat (row_ix xo bw), (by show 2 ≤ sizeLine; decide), fun t2 n2 => ?_⟩⟩
        rw [SG.take_one hx, List.map_append]
        exact mo.push (r := (x.getD a 0, x.getD b 0)) (by omega) (Nat.lt_succ_self _) (same_new n2) (p_dp (mo.tup n2))
      rintro H1 mo
      have s1 := mo.old nD
      rw [ul, List.take_length] at mo
      obtain ⟨uo, _, hDo, dDo, _⟩ := mo
      obtain ⟨ks, k1, k2, k3⟩ := dps_two (dps_same (wo_le D) _ _ dDo)
      have kl : ks.length = rows.length := by
        have := congrArg List.length k2
        rw [List.length_map, List.length_map, List.length_map] at this
        exact this
      refine ⟨D, ks, rfl, SqL.of (by rw [← k1]; exact hDo), k3, by omega, fun sa L nsa m1 m2 => ?_⟩
      have s2 : Same H1 (upd H1 sa (SetTO P w sa L)) := same_new nsa
      refine ⟨sa, L, rfl, upd_same, fun nd => ?_⟩
      generalize upd H1 sa (SetTO P w sa L) = H2 at s2
      have s02 := s1.trans s2
      have mem : ∀ z, z ∈ L.map (·.2) ↔ z ∈ rows.map (pr2 a b) := fun z => by
        have e : rows.map (pr2 a b) = ks.map (·.2) := by
          rw [k2, List.map_map]
          rfl
        rw [e]
        constructor
        · intro h
          obtain ⟨p, hp, rfl⟩ := List.mem_map.mp h
          exact List.mem_map.mpr ⟨p, m1 p hp, rfl⟩
        · intro h
          obtain ⟨p, hp, rfl⟩ := List.mem_map.mp h
          exact m2 p hp
      refine ⟨_, rfl, g, rfl, ⟨_, same_l s02 hg⟩, fun D2 nD2 => li_col (m := m) (c := a) (cs := 3) (same_l s02 hg) (dps_same s02 _ _ dp) ok (by omega) aw nD2 (fun _ => rfl) (fun _ => rfl) (fun _ => rfl) fun H3 f1 f2 => ?_⟩
      have s3 : Same H2 H3 := f1.trans (wo_le D2)
      have cl : (colN rows a).length = rows.length := by unfold colN; rw [List.length_map]
      refine ⟨D2, colN rows a, rfl, SqL.of f2, by omega, fun sb nsb => ?_⟩
      have dl : dn (colN rows a) ≤ rows.length := by
        have := dn_le (colN rows a) (colN rows a).length
        rw [List.take_length] at this
        omega
      refine ⟨sb, _, _, rfl, upd_same, by omega, rfl, ?_⟩
      refine q _ _ (s02.trans (s3.trans (same_new nsb))) ?_
      rw [decide_eq_true_iff, ← pairs_iff nd mem, List.length_map]
      exact ⟨fun h => by injection h with h; omega, fun h => by rw [h]⟩
    | false =>
      refine ⟨_, rfl, rfl, _, rfl, iteF' (decide_eq_false (show ¬ V.str (kd false) = V.str "settles" by decide +kernel)) ?_⟩
      refine ⟨_, rfl, g, rfl, ⟨_, hg⟩, fun D nD => li_col (m := m) (c := b) (cs := 4) hg dp ok (by omega) bw nD (fun _ => rfl) (fun _ => rfl) (fun _ => rfl) fun H1 f1 f2 => ?_⟩
      have s1 : Same H H1 := f1.trans (wo_le D)
      have cl : (colN rows b).length = rows.length := by unfold colN; rw [List.length_map]
      have dl : dn (colN rows b) ≤ rows.length := by
        have := dn_le (colN rows b) (colN rows b).length
        rw [List.take_length] at this
        omega
      refine ⟨D, colN rows b, rfl, SqL.of f2, by omega, fun sb nsb => ?_⟩
      have s2 : Same H1 (upd H1 sb (SetO w sb (memI (colN rows b)) (dn (colN rows b)))) := same_new nsb
      refine ⟨sb, _, _, rfl, upd_same, by omega, fun ns pv _ mem _ npv => ?_⟩
      generalize upd H1 sb (SetO w sb (memI (colN rows b)) (dn (colN rows b))) = H2 at s2 npv
      have s3 : Same H2 (upd H2 pv (.lst (ns.map V.int))) := same_new npv
      have hpv : (upd H2 pv (.lst (ns.map V.int))) pv = some (.lst (ns.map V.int)) := upd_same
      generalize upd H2 pv (.lst (ns.map V.int)) = H3 at s3 hpv
      have s03 := s1.trans (s2.trans s3)
      refine ⟨_, rfl, g, rfl, ⟨_, same_l s03 hg⟩, fun D2 nD2 => ?_⟩
      refine lc_list (xs := us) (fun i H' => ∃ L : List Nat, Same H3 (wo H' D2) ∧ H' D2 = some (.lst (nms L)) ∧ (L = [] ↔ ∀ y ∈ rows.take i, y.getD a 0 ∈ colN rows b) ∧ L.length ≤ i) ⟨[], ?_, upd_same, by simp, Nat.le_refl _⟩ (fun i H' _ ⟨_, z, _⟩ => same_l (s03.trans (z.trans (wo_le D2))) hg) ?_ ?_
      · rw [wo_upd]
        exact fun b o e => by rw [wo_ne (ne_of_none e nD2)]; exact e
      · rintro i v H' hv ⟨L, e1, e2, e3, e4⟩
        obtain ⟨x, hx, dx⟩ := dps_gat dp hv
        have xo := ok x (List.mem_of_getElem? hx)
        have il := (List.getElem?_eq_some_iff.mp hx).1
        have o := s03.trans (e1.trans (wo_le D2))
        obtain ⟨tx, rfl, htx⟩ := gd_at (dp_same o _ _ dx)
        refine ⟨rfl, _, rfl, _, rfl, tx, _, _, _, rfl, rfl, htx, atI_nat (row_ix xo aw), _, rfl, pv, _, rfl, .inl (SqL.of (wo_le D2 _ _ (e1 _ _ hpv))), rfl, ints_flat _, _, rfl, ?_⟩
        rw [ints_in]
        have em : ((x.getD a 0 : Nat) : Int) ∈ ns ↔ x.getD a 0 ∈ colN rows b := by
          rw [mem, memI_at, decide_eq_true_iff]
        have st : (∀ y ∈ rows.take (i + 1), y.getD a 0 ∈ colN rows b) ↔ (∀ y ∈ rows.take i, y.getD a 0 ∈ colN rows b) ∧ x.getD a 0 ∈ colN rows b := by
          rw [SG.take_one hx]
          constructor
          · exact fun h => ⟨fun y hy => h y (List.mem_append_left _ hy), h x (by simp)⟩
          · rintro ⟨h1, h2⟩ y hy
            rcases List.mem_append.mp hy with z | z
            · exact h1 y z
            · rw [List.mem_singleton.mp z]
              exact h2
        by_cases e : x.getD a 0 ∈ colN rows b
        · rw [decide_eq_true (em.mpr e)]
          refine iteF ⟨L, e1, e2, ?_, by omega⟩
          rw [st, e3]
          exact ⟨fun h => ⟨h, e⟩, fun h => h.1⟩
        · rw [decide_eq_false fun z => e (em.mp z)]
          refine iteT ⟨_, e2, small1000 (by rw [nms_len]; omega), L ++ [1], ?_, ?_, ?_, by rw [List.length_append]; show L.length + 1 ≤ _; omega⟩
          · rw [wo_upd]
            exact e1
          · rw [upd_same, nms_app]
            rfl
          · rw [st]
            exact ⟨fun h => by simp at h, fun h => (e h.2).elim⟩
      rintro H4 ⟨L, e1, e2, e3, _⟩
      rw [ul, List.take_length] at e3
      have s4 : Same H3 H4 := e1.trans (wo_le D2)
      refine ⟨Nat.zero_le _, fun t nt => ?_⟩
      have s5 : Same H4 (upd H4 t (.lst [])) := same_new nt
      refine ⟨.list (L.map fun (n : Nat) => PyData.int (n : Int)), .list [], .lst (SqL.of (s5 _ _ e2)) (dps_nms L), .lst (SqL.of upd_same) .nil, nums_shp _, nums_shp [], ?_⟩
      refine q _ _ (s03.trans (s4.trans s5)) ?_
      rw [one_nil, List.isEmpty_iff, e3]
      show _ ↔ ∀ x ∈ rows, ∃ y ∈ rows, y.getD b 0 = x.getD a 0
      constructor
      · intro h x hx
        obtain ⟨y, hy, e⟩ := List.mem_map.mp (h x hx)
        exact ⟨y, hy, e⟩
      · intro h x hx
        obtain ⟨y, hy, e⟩ := h x hx
        exact List.mem_map.mpr ⟨y, hy, e⟩
end
end CC
namespace CC
open PySem L2 TL LamX
/-! ### values that are no rows -/
/-- no integer, by its type -/
def NoIntT (K : PySem.W.Frag) (H : Hp) (v : V) : Prop := (∃ b, v = .bl b) ∨ ∃ t, TyX K H v t ∧ PySem.W.kitOne K t (.type "int") = some false
/-- no value of a row -/
def ElB (K : PySem.W.Frag) (H : Hp) (v : V) : Prop := NoIntT K H v ∨ ∃ z : Int, v = .int z ∧ ¬ (0 ≤ z ∧ z ≤ 9999)
def OddE (K : PySem.W.Frag) (H : Hp) (v : V) : Prop := ElB K H v ∨ ∃ n : Nat, v = .int (n : Int) ∧ n ≤ 9999
def NoTupT (K : PySem.W.Frag) (H : Hp) (v : V) : Prop := ∃ t, TyX K H v t ∧ PySem.W.kitOne K t (.type "tuple") = some false
/-- no row of the width -/
def OddR (K : PySem.W.Frag) (H : Hp) (w : Nat) (v : V) : Prop := NoTupT K H v ∨ ∃ (a : Addr) (vs : List V), v = .ref a ∧ SqT K H a vs ∧ (vs.length ≠ w ∨ (vs.length = w ∧ (∀ u ∈ vs, OddE K H u) ∧ ∃ u ∈ vs, ElB K H u))
def spIsIntT (K : PySem.W.Frag) : Sp := fun vs H Q E => spIsInt vs H Q E ∨ ∃ v, vs = [v] ∧ NoIntT K H v ∧ Q (.bl false) H
section
variable {K : PySem.W.Frag} {H H' : Hp} {v : V} {w : Nat}
/-- the same, whatever the value is -/
theorem ty_extT {t : Value} (e : ExtN H H') (h : TyX K H v t) : TyX K H' v t := by
  have g : ∀ {a : Addr} {o : HO}, isTb o = false → H a = some o → H' a = some o := fun hb z => e _ _ z (tb_no hb)
  cases h with
  | base b =>
    refine .base ?_
    cases b with
    | non => exact .non
    | bl x => exact .bl x
    | int i => exact .int i
    | str x => exact .str x
    | flt x => exact .flt x
    | lst z => exact .lst (g rfl z)
    | frz z => exact .frz (g rfl z)
    | tup z => exact .tup (g rfl z)
    | dK z => exact .dK (g rfl z)
    | dT z => exact .dT (g rfl z)
    | ins z a b c d f => exact .ins (g rfl z) a b c d f
  | byt b => exact .byt b
  | set z => exact .set (g rfl z)
  | kList z c => exact .kList z c
  | kTuple z c => exact .kTuple z c
  | kDict z c => exact .kDict z c
  | fTuple z => exact .fTuple (g rfl z)
  | fDict z => exact .fDict (g rfl z)
theorem NoIntT.ext (h : NoIntT K H v) (e : ExtN H H') : NoIntT K H' v := h.imp id fun ⟨t, a, b⟩ => ⟨t, ty_extT e a, b⟩
theorem ElB.ext (h : ElB K H v) (e : ExtN H H') : ElB K H' v := h.imp (·.ext e) id
theorem OddE.ext (h : OddE K H v) (e : ExtN H H') : OddE K H' v := h.imp (·.ext e) id
theorem sqt_extT {a : Addr} {xs : List V} (e : ExtN H H') (h : SqT K H a xs) : SqT K H' a xs := by
  rcases h with (h | ⟨o, h⟩) | h
  · exact .inl (.inl (e _ _ h (tb_no rfl)))
  · exact .inl (.inr ⟨o, e _ _ h (tb_no rfl)⟩)
  · exact .inr h
theorem OddR.ext (h : OddR K H w v) (e : ExtN H H') : OddR K H' w v := by
  rcases h with ⟨t, a, b⟩ | ⟨a, vs, rfl, ht, hv⟩
  · exact .inl ⟨t, ty_extT e a, b⟩
  · refine .inr ⟨a, vs, rfl, sqt_extT e ht, hv.imp id fun ⟨h1, h2, u, hu, h3⟩ => ⟨h1, fun u hu => (h2 u hu).ext e, u, hu, h3.ext e⟩⟩
theorem OddR.same (h : OddR K H w v) (e : Same H H') : OddR K H' w v := h.ext (ExtN.of e)
/-- a draw changes a list of three numbers only -/
theorem ty_ran {p : Addr} {t : Value} (s : Src H p) (r : Ran H H' p) (h : TyX K H v t) : TyX K H' v t := by
  have g : ∀ {a : Addr} {o : HO}, (∀ xs, o ≠ .lst xs) → H a = some o → H' a = some o := fun hb z => r.at_ z fun y => by
    obtain ⟨o2, h2, _, _, _, rfl, _⟩ := s
    rw [y, h2] at z
    exact hb _ (Option.some.inj z).symm
  cases h with
  | base b =>
    refine .base ?_
    cases b with
    | non => exact .non
    | bl x => exact .bl x
    | int i => exact .int i
    | str x => exact .str x
    | flt x => exact .flt x
    | @lst a xs z =>
      by_cases y : a = p
      · obtain ⟨o2, h2, _, _, _, rfl, _⟩ := r.src
        rw [y]
        exact .lst h2
      · exact .lst (r.at_ z y)
    | frz z => exact .frz (g (by intro _ y; cases y) z)
    | tup z => exact .tup (g (by intro _ y; cases y) z)
    | dK z => exact .dK (g (by intro _ y; cases y) z)
    | dT z => exact .dT (g (by intro _ y; cases y) z)
    | ins z a b c d f => exact .ins (g (by intro _ y; cases y) z) a b c d f
  | byt b => exact .byt b
  | set z => exact .set (g (by intro _ y; cases y) z)
  | kList z c => exact .kList z c
  | kTuple z c => exact .kTuple z c
  | kDict z c => exact .kDict z c
  | fTuple z => exact .fTuple (g (by intro _ y; cases y) z)
  | fDict z => exact .fDict (g (by intro _ y; cases y) z)
theorem OddR.ran {p : Addr} (h : OddR K H w v) (s : Src H p) (r : Ran H H' p) : OddR K H' w v := by
  have i : ∀ {u}, NoIntT K H u → NoIntT K H' u := fun h => h.imp id fun ⟨t, a, b⟩ => ⟨t, ty_ran s r a, b⟩
  have b : ∀ {u}, ElB K H u → ElB K H' u := fun h => h.imp i id
  rcases h with ⟨t, a, b⟩ | ⟨a, vs, rfl, ht, hv⟩
  · exact .inl ⟨t, ty_ran s r a, b⟩
  · exact .inr ⟨a, vs, rfl, sqt_T (r.T s) ht, hv.imp id fun ⟨h1, h2, u, hu, h3⟩ => ⟨h1, fun u hu => (h2 u hu).imp b id, u, hu, b h3⟩⟩
end
section
variable {P : Program} {w : World} {K : PySem.W.Frag} {mg : Str → Option Value} {base : Heap} {kA : Addr}
theorem ok_isintT {f : Addr} {fd : FuncData} {k : Nat} (F : Fun K "is_an_integer" "is_an_integer" sIsInt f fd) (T : Glb K mg kA) : FnOk P w K mg base CX0 (k + 1) f fd ["thing"] (spIsIntT K) := by
  refine fn_or (ok_isint F T) ?_
  refine F.ok scIsInt (fun vs H Q E h => ?_) (fun cdv A outer s H vs Q E hr h => ?_)
  · obtain ⟨v, rfl, _⟩ := h
    rfl
  · obtain ⟨v, rfl, hv, q⟩ := h
    refine ⟨_, pss_one (ps_ret (pe_and (pe_callB call_isi (by rfl) T.isi (by decide +kernel) (pa_cons (pv 0) (pa_cons (pe_bltn (v := .ty "int") (by rfl) T.int (by decide +kernel) rfl) pa_nil)))
      (pe_one (pe_not (pe_callB call_isi (by rfl) T.isi (by decide +kernel) (pa_cons (pv 0) (pa_cons (pe_bltn (v := .ty "bool") (by rfl) T.bool (by decide +kernel) rfl) pa_nil))))))), ?_⟩
    rcases hv with ⟨b, rfl⟩ | ⟨t, ty, hk⟩
    · refine ⟨_, rfl, _, _, _, _, true, rfl, .ty _, .base (.bl b), kit_ty (by decide +kernel), _, rfl, iteT ?_⟩
      exact ⟨_, rfl, _, _, _, _, true, rfl, .ty _, .base (.bl b), kit_ty (by decide +kernel), _, rfl, q⟩
    · exact ⟨_, rfl, _, _, _, _, false, rfl, .ty _, ty, hk, _, rfl, iteF q⟩
/-- is_row of what is no row -/
def spIsRowO (K : PySem.W.Frag) : Sp := fun vs H Q _ => ∃ (w : Nat) (v : V), vs = [.int (w : Int), v] ∧ w ≤ 6 ∧ OddR K H w v ∧ ∀ H', Same H H' → Q (.bl false) H'
theorem ok_isrowO {f : Addr} {fd : FuncData} {k : Nat} (F : Fun K "is_row" "is_row" sIsRow f fd) (T : Glb K mg kA) (TT : GlbT mg) (cI : Cal P w K mg base "is_an_integer" ["thing"] (spIsIntT K) 1) : FnOk P w K mg base CX0 (k + 2) f fd ["width", "thing"] (spIsRowO K) := by
  have GI := cI.ok (k + 1) (by omega)
  refine F.ok scIsRow (fun vs H Q E h => ?_) (fun cdv A outer s H vs Q E hr h => ?_)
  · obtain ⟨w, v, rfl, _⟩ := h
    rfl
  · obtain ⟨w, v, rfl, w6, hv, q⟩ := h
    obtain ⟨tl, hlv⟩ := TT.lv
    have n := scIsRow.nd
    refine ⟨_, (pss_cons (ps_if (PW.pt (pw_or (pt_not (pt_val (pe_callB call_isi (by rfl) T.isi (by decide +kernel) (pa_cons (pv 1) (pa_cons (pe_bltn (v := .ty "tuple") (by rfl) T.tup (by decide +kernel) rfl) pa_nil))))) (pw_or1 (pt_cmpR op_ne (pe_callB call_len_seq (by rfl) T.len PySem.boot_len (pa_cons (pv 1) pa_nil)) (pv 0) (nomark _))))) (pss_one (ps_ret pe_bl)) pss_nil)
      (pss_one (ps_ret (pe_callB (cr_all rfl) (by rfl) T.all (by decide +kernel) (pa_cons (pe_lc (own := [("part", 2)]) (g := gName 2) (tt := tYes) rfl n (pi_tup (pv 1)) (blkOk_by (N := nIRow) (sc := defScope sIsRow) (by decide +kernel))
        (fun _ _ _ _ _ => (pg_name (i := 2) n rfl (.inl rfl))) (fun _ _ _ _ _ => pts_nil) (fun _ _ _ _ _ => (pe_and (pe_call GI hr rfl cI.g cI.kp cI.b .nil pass0 (pa_cons (pv 2) pa_nil)) (pe_one (pe_chain op_le op_le pe_int (pv 2) (pe_glob (v := .int 9999) rfl hlv ⟨_, rfl⟩)))))) pa_nil))))), ?_⟩
    rcases hv with ⟨t, ty, hk⟩ | ⟨t, us, rfl, ht, hl⟩
    · exact ⟨_, rfl, _, _, _, _, false, rfl, .ty _, ty, hk, _, rfl, iteT (q _ (Same.refl _))⟩
    refine ⟨_, rfl, _, _, _, _, true, rfl, .ty _, ty_tup ht, kit_ty (by decide +kernel), _, rfl, iteF ?_⟩
    refine ⟨_, rfl, t, _, rfl, .inr ht, _, rfl, rfl, _, rfl, ?_⟩
    rcases hl with hl | ⟨hl, hE, ub, hub, hbad⟩
    · rw [show (!decide (V.int ((us.length : Nat) : Int) = V.int (w : Int))) = true by rw [decide_eq_false (fun z => hl (by injection z with z; omega))]; rfl]
      exact iteT (q _ (Same.refl _))
    rw [show (!decide (V.int ((us.length : Nat) : Int) = V.int (w : Int))) = false by rw [hl]; simp]
    refine iteF ?_
    refine ⟨_, rfl, t, rfl, ⟨_, ht⟩, fun D nD => ?_⟩
    refine lc_tup (xs := us) (fun i H1 => Same H (wo H1 D) ∧ ∃ bs : List Bool, H1 D = some (.lst (bs.map V.bl)) ∧ bs.length = i ∧ i ≤ us.length ∧ ∀ j u, j < i → us[j]? = some u → ElB K H u → bs.all id = false) ⟨?_, [], upd_same, rfl, Nat.zero_le _, fun j u h => absurd h (Nat.not_lt_zero _)⟩ (fun i H1 _ z => same_t (z.1.trans (wo_le D)) ht) ?_ ?_
    · rw [wo_upd]
      exact fun b o e => by rw [wo_ne (ne_of_none e nD)]; exact e
    · rintro i v H1 hv ⟨e1, bs, e2, e3, e3b, e4⟩
      have il := (List.getElem?_eq_some_iff.mp hv).1
      have sH : Same H H1 := e1.trans (wo_le D)
      have push : ∀ b : Bool, (ElB K H v → b = false) → ∃ acc, H1 D = some (.lst acc) ∧ acc.length < sizeLine ∧ Same H (wo (upd H1 D (.lst (acc ++ [V.bl b]))) D) ∧ ∃ bs : List Bool, (upd H1 D (.lst (acc ++ [V.bl b]))) D = some (.lst (bs.map V.bl)) ∧ bs.length = i + 1 ∧ i + 1 ≤ us.length ∧ ∀ j u, j < i + 1 → us[j]? = some u → ElB K H u → bs.all id = false := fun b hb => by
        refine ⟨_, e2, small1000 (by rw [List.length_map]; omega), ?_, bs ++ [b], ?_, by rw [List.length_append, e3]; rfl, by omega, fun j u hj hu hbu => ?_⟩
        · rw [wo_upd]
          exact e1
        · rw [upd_same, List.map_append]
          rfl
        · rw [List.all_append]
          by_cases z : j = i
          · subst z
            rw [hv] at hu
            cases hu
            rw [hb hbu]
            simp
          · rw [e4 j u (by omega) hu hbu]
            rfl
      refine ⟨rfl, yes_if ⟨_, rfl, ?_⟩⟩
      rcases hE v (List.mem_of_getElem? hv) with (no | ⟨z, rfl, hz⟩) | ⟨y, rfl, y9⟩
      · exact .inr ⟨v, rfl, no.ext (ExtN.of sH), _, rfl, iteF (push false fun _ => rfl)⟩
      · refine .inl ⟨z, rfl, _, rfl, iteT ?_⟩
        refine ⟨_, rfl, _, _, rfl, rfl, _, rfl, ?_⟩
        by_cases h1 : (0 : Int) ≤ z
        · refine iteT' (decide_eq_true h1) ⟨_, _, rfl, rfl, ?_⟩
          dsimp only
          rw [decide_eq_false (show ¬ z ≤ (9999 : Int) from fun h => hz ⟨h1, h⟩)]
          exact push false fun _ => rfl
        · exact iteF' (decide_eq_false h1) (push false fun _ => rfl)
      · refine .inl ⟨_, rfl, _, rfl, iteT ?_⟩
        refine ⟨_, rfl, _, _, rfl, rfl, _, rfl, ?_⟩
        refine iteT' (decide_eq_true (by omega)) ⟨_, _, rfl, rfl, ?_⟩
        dsimp only
        rw [decide_eq_true (show ((y : Nat) : Int) ≤ (9999 : Int) by omega)]
        refine push true fun hb => ?_
        rcases hb with (⟨b, z⟩ | ⟨t', ty', hk'⟩) | ⟨z, e, hz⟩
        · cases z
        · cases ty' with
          | base b => cases b; rw [kit_ty (by decide +kernel : kitB "int" "int" = some true)] at hk'; cases hk'
        · cases e
          exact absurd ⟨by omega, by omega⟩ hz
    rintro H1 ⟨e1, bs, e2, e3, _, e4⟩
    refine ⟨D, _, rfl, SqL.of e2, ?_⟩
    obtain ⟨j, hj, hju⟩ := List.getElem_of_mem hub
    rw [e4 j ub hj (by rw [List.getElem?_eq_getElem hj, hju]) hbad]
    exact q H1 (e1.trans (wo_le D))
/-- is_row of any value -/
theorem ok_isrowG {f : Addr} {fd : FuncData} {k : Nat} (F : Fun K "is_row" "is_row" sIsRow f fd) (T : Glb K mg kA) (TT : GlbT mg) (cI : Cal P w K mg base "is_an_integer" ["thing"] (spIsIntT K) 1) : FnOk P w K mg base CX0 (k + 2) f fd ["width", "thing"] (spIsRowG K fun H w v => w ≤ 6 ∧ OddR K H w v) :=
  (fn_or (ok_isrow F T TT (cI.imp fun _ _ _ _ h => .inl h)) (ok_isrowO F T TT cI)).imp fun vs H Q E h => h.imp id fun ⟨w, v, e, ⟨w6, o⟩, q⟩ => ⟨w, v, e, w6, o, q⟩
/-- what the law asks of a row -/
def spLirO (K : PySem.W.Frag) : Sp := fun vs H Q _ => ∃ (w : Nat) (v : V), vs = [.int (w : Int), v] ∧ w ≤ 6 ∧ OddR K H w v ∧ ∀ H', Same H H' → Q (.bl false) H'
theorem ok_lirO {f : Addr} {fd : FuncData} {k : Nat} (F : Fun K "_law_is_row" "_law_is_row" sLir f fd) (T : Glb K mg kA) : FnOk P w K mg base CX0 (k + 1) f fd ["_law_many", "_law_thing"] (spLirO K) := by
  refine F.ok scLir (fun vs H Q E h => ?_) (fun cdv A outer s H vs Q E hr h => ?_)
  · obtain ⟨m, t, rfl, _⟩ := h
    rfl
  · obtain ⟨w, v, rfl, w6, hv, q⟩ := h
    have n := scLir.nd
    have hu64 : (A.deeper (PyProof.Rows.envOfC (Str.ofString "_law_is_row") (defScope sLir) s.heap.objs.size f cdv)).units + 64 < cLine := by
      have := hr.un
      omega
    refine ⟨_, (pss_cons (ps_if (PW.pt (pw_or (pt_not (pt_val (pe_callB call_isi (by rfl) T.isi (by decide +kernel) (pa_cons (pv 1) (pa_cons (pe_bltn (v := .ty "tuple") (by rfl) T.tup (by decide +kernel) rfl) pa_nil))))) (pw_or1 (pt_cmpR op_ne (pe_callB call_len_seq (by rfl) T.len PySem.boot_len (pa_cons (pv 1) pa_nil)) (pv 0) (nomark _))))) (pss_one (ps_ret pe_bl)) pss_nil)
      (pss_one (ps_ret (pe_cmpR (op_eqD hu64) (pe_lc (own := [("_law_one", 2)]) (g := gName 2) (tt := tOr (tNot (tB (tCB (rIsi K) (tCons (tVar 2) (tCons (tC (.ty "int")) tNil))))) (tOr (tB (tCB (rIsi K) (tCons (tVar 2) (tCons (tC (.ty "bool")) tNil)))) (tNot (tTest (tChain (rI0 fun i j => .bl (decide (i ≤ j))) (rI0 fun i j => .bl (decide (i < j))) (tC (.int 0)) (tVar 2) (tC (.int 10000))))))) (te := tC (.int 1)) rfl n (pi_tup (pv 1)) (blkOk_by (N := nLir) (sc := defScope sLir) (by decide +kernel))
        (fun _ _ _ _ _ => (pg_name (i := 2) n rfl (.inl rfl))) (fun _ _ _ _ _ => pts_one (PW.pt (pw_or (pt_not (pt_val (pe_callB call_isi (by rfl) T.isi (by decide +kernel) (pa_cons (pv 2) (pa_cons (pe_bltn (v := .ty "int") (by rfl) T.int (by decide +kernel) rfl) pa_nil))))) (pw_or (pt_val (pe_callB call_isi (by rfl) T.isi (by decide +kernel) (pa_cons (pv 2) (pa_cons (pe_bltn (v := .ty "bool") (by rfl) T.bool (by decide +kernel) rfl) pa_nil)))) (pw_or1 (pt_not (pt_chain op_le op_lt pe_int (pv 2) pe_int))))))) (fun _ _ _ _ _ => pe_int)) (pe_lst pa_nil) (nomark _))))), ?_⟩
    rcases hv with ⟨t, ty, hk⟩ | ⟨t, us, rfl, ht, hl⟩
    · exact ⟨_, rfl, _, _, _, _, false, rfl, .ty _, ty, hk, _, rfl, iteT (q _ (Same.refl _))⟩
    refine ⟨_, rfl, _, _, _, _, true, rfl, .ty _, ty_tup ht, kit_ty (by decide +kernel), _, rfl, iteF ?_⟩
    refine ⟨_, rfl, t, _, rfl, .inr ht, _, rfl, rfl, _, rfl, ?_⟩
    rcases hl with hl | ⟨hl, hE, ub, hub, hbad⟩
    · rw [show (!decide (V.int ((us.length : Nat) : Int) = V.int (w : Int))) = true by rw [decide_eq_false (fun z => hl (by injection z with z; omega))]; rfl]
      exact iteT (q _ (Same.refl _))
    rw [show (!decide (V.int ((us.length : Nat) : Int) = V.int (w : Int))) = false by rw [hl]; simp]
    refine iteF ?_
    refine ⟨_, rfl, t, rfl, ⟨_, ht⟩, fun D nD => ?_⟩
    refine lc_tup (xs := us) (fun i H1 => Same H (wo H1 D) ∧ ∃ ns : List Nat, H1 D = some (.lst (nms ns)) ∧ ns.length ≤ i ∧ i ≤ us.length ∧ (∀ n ∈ ns, n = 1) ∧ ∀ j u, j < i → us[j]? = some u → ElB K H u → ns ≠ []) ⟨?_, [], upd_same, Nat.le_refl _, Nat.zero_le _, (fun n hn => nomatch hn), fun j u h => absurd h (Nat.not_lt_zero _)⟩ (fun i H1 _ z => same_t (z.1.trans (wo_le D)) ht) ?_ ?_
    · rw [wo_upd]
      exact fun b o e => by rw [wo_ne (ne_of_none e nD)]; exact e
    · rintro i v H1 hv ⟨e1, ns, e2, e3, e3b, e5, e4⟩
      have il := (List.getElem?_eq_some_iff.mp hv).1
      have sH : Same H H1 := e1.trans (wo_le D)
      have push : ∃ acc, H1 D = some (.lst acc) ∧ acc.length < sizeLine ∧ Same H (wo (upd H1 D (.lst (acc ++ [V.int 1]))) D) ∧ ∃ ns : List Nat, (upd H1 D (.lst (acc ++ [V.int 1]))) D = some (.lst (nms ns)) ∧ ns.length ≤ i + 1 ∧ i + 1 ≤ us.length ∧ (∀ n ∈ ns, n = 1) ∧ ∀ j u, j < i + 1 → us[j]? = some u → ElB K H u → ns ≠ [] := by
        refine ⟨_, e2, small1000 (by rw [nms_len]; omega), ?_, ns ++ [1], ?_, by rw [List.length_append]; show ns.length + 1 ≤ i + 1; omega, by omega, (fun n hn => by
          rcases List.mem_append.mp hn with z | z
          · exact e5 n z
          · exact List.mem_singleton.mp z), fun j u _ _ _ => by simp⟩
        · rw [wo_upd]
          exact e1
        · rw [upd_same, nms_app]
          rfl
      have skip : ¬ ElB K H v → (Same H (wo H1 D) ∧ ∃ ns : List Nat, H1 D = some (.lst (nms ns)) ∧ ns.length ≤ i + 1 ∧ i + 1 ≤ us.length ∧ (∀ n ∈ ns, n = 1) ∧ ∀ j u, j < i + 1 → us[j]? = some u → ElB K H u → ns ≠ []) := fun nb => by
        refine ⟨e1, ns, e2, by omega, by omega, e5, fun j u hj hu hbu => ?_⟩
        by_cases z : j = i
        · subst z
          rw [hv] at hu
          cases hu
          exact absurd hbu nb
        · exact e4 j u (by omega) hu hbu
      refine ⟨rfl, _, rfl, ?_⟩
      rcases hE v (List.mem_of_getElem? hv) with (no | ⟨z, rfl, hz⟩) | ⟨y, rfl, y9⟩
      · rcases no.ext (ExtN.of sH) with ⟨b, rfl⟩ | ⟨t', ty', hk'⟩
        · refine ⟨_, _, _, _, true, rfl, .ty _, .base (.bl b), kit_ty (by decide +kernel), _, rfl, iteF ?_⟩
          exact ⟨_, rfl, _, _, _, _, true, rfl, .ty _, .base (.bl b), kit_ty (by decide +kernel), _, rfl, iteT push⟩
        · exact ⟨_, _, _, _, false, rfl, .ty _, ty', hk', _, rfl, iteT push⟩
      · refine ⟨_, _, _, _, true, rfl, .ty _, .base (.int _), kit_ty (by decide +kernel), _, rfl, iteF ?_⟩
        refine ⟨_, rfl, _, _, _, _, false, rfl, .ty _, .base (.int _), kit_ty (by decide +kernel), _, rfl, iteF ?_⟩
        refine ⟨_, rfl, _, _, rfl, rfl, _, rfl, ?_⟩
        by_cases h1 : (0 : Int) ≤ z
        · rw [decide_eq_true h1]
          refine iteT ⟨_, _, rfl, rfl, _, rfl, ?_⟩
          rw [decide_eq_false (show ¬ z < (10000 : Int) from fun h => hz ⟨h1, by omega⟩)]
          exact iteT push
        · rw [decide_eq_false h1]
          exact iteF ⟨_, rfl, iteT push⟩
      · refine ⟨_, _, _, _, true, rfl, .ty _, .base (.int _), kit_ty (by decide +kernel), _, rfl, iteF ?_⟩
        refine ⟨_, rfl, _, _, _, _, false, rfl, .ty _, .base (.int _), kit_ty (by decide +kernel), _, rfl, iteF ?_⟩
        refine ⟨_, rfl, _, _, rfl, rfl, _, rfl, ?_⟩
        rw [decide_eq_true (show (0 : Int) ≤ ((y : Nat) : Int) by omega)]
        refine iteT ⟨_, _, rfl, rfl, _, rfl, ?_⟩
        rw [decide_eq_true (show ((y : Nat) : Int) < (10000 : Int) by omega)]
        refine iteF (skip fun hb => ?_)
        rcases hb with (⟨b, z⟩ | ⟨t', ty', hk'⟩) | ⟨z, e, hz⟩
        · cases z
        · cases ty' with
          | base b => cases b; rw [kit_ty (by decide +kernel : kitB "int" "int" = some true)] at hk'; cases hk'
        · cases e
          exact absurd ⟨by omega, by omega⟩ hz
    rintro H1 ⟨e1, ns, e2, _, _, _, e4⟩
    obtain ⟨j, hj, hju⟩ := List.getElem_of_mem hub
    have ne := e4 j ub hj (by rw [List.getElem?_eq_getElem hj, hju]) hbad
    refine ⟨Nat.zero_le _, fun p np => ?_⟩
    have s2 : Same H1 (upd H1 p (.lst [])) := same_new np
    refine ⟨.list (ns.map fun (n : Nat) => PyData.int (n : Int)), .list [], .lst (SqL.of (s2 _ _ e2)) (dps_nms _), .lst (SqL.of upd_same) .nil, nums_shp _, nums_shp [], ?_⟩
    rw [one_nil, show ns.isEmpty = false by cases ns with | nil => exact absurd rfl ne | cons _ _ => rfl]
    exact q _ ((e1.trans (wo_le D)).trans s2)
end
end CC
namespace CC
open PySem L2 TL
section
variable {P : Program} {w : World} {K : PySem.W.Frag} {mg : Str → Option Value} {base : Heap} {kA : Addr}
theorem sclRlM : FnScope ["self"] ["self"] (defScope slRlM) := ⟨rfl, rfl, rfl, by decide +kernel, rfl, by decide +kernel, by decide +kernel⟩
theorem ok_lRlM {f C : Addr} {fd : FuncData} {k : Nat} (F : Fun K "rules" "Log.rules" slRlM f fd) (TL : TxtM K C) : FnOk P w K mg base CX0 (k + 1) f fd ["self"] (getSp C "book") := by
  refine F.ok sclRlM (fun vs H Q E h => ?_) (fun cdv A outer s H vs Q E hr h => ?_)
  · obtain ⟨a, dx, fs, v, rfl, _⟩ := h
    rfl
  · obtain ⟨a, dx, fs, v, rfl, ea, l, q⟩ := h
    exact ⟨_, pss_one (ps_ret (pe_fld (pv 0) rfl)), _, rfl, a, C, dx, fs, v, rfl, ea, TL.cl, TL.nB, l, q⟩
end
end CC
namespace CC
open PySem L2 TL
section
variable {P : Program} {w : World} {K : PySem.W.Frag} {mg : Str → Option Value} {base : Heap} {kA : Addr}
theorem sclTbM : FnScope ["self"] ["self"] (defScope slTbM) := ⟨rfl, rfl, rfl, by decide +kernel, rfl, by decide +kernel, by decide +kernel⟩
theorem ok_lTbM {f C : Addr} {fd : FuncData} {k : Nat} (F : Fun K "table" "Log.table" slTbM f fd) (TL : TxtM K C) : FnOk P w K mg base CX0 (k + 1) f fd ["self"] (getSp C "held") := by
  refine F.ok sclTbM (fun vs H Q E h => ?_) (fun cdv A outer s H vs Q E hr h => ?_)
  · obtain ⟨a, dx, fs, v, rfl, _⟩ := h
    rfl
  · obtain ⟨a, dx, fs, v, rfl, ea, l, q⟩ := h
    exact ⟨_, pss_one (ps_ret (pe_fld (pv 0) rfl)), _, rfl, a, C, dx, fs, v, rfl, ea, TL.cl, TL.nH, l, q⟩
end
end CC
namespace CC
open PySem L2 TL
/-- broken of a log -/
def spBrP (K : PySem.W.Frag) (C CR CT : Addr) : Sp := fun vs H Q _ => ∃ (lm : Option Nat) (x r q : Addr) (w : Nat) (rs : List R) (rows : List (List Nat)) (ps : List (List (List Nat))), vs = [.ref x] ∧ LgAt K C CR CT lm H x r q w rs rows ps ∧ (∀ x ∈ rows, RowOk w x) ∧ Fw rows ∧ rows.length ≤ 401 ∧ (∀ r ∈ rs, r.ok w) ∧ rs.length ≤ 60 ∧
  ∀ (z : Addr) (us : List V) (H' : Hp), Same H H' → H z = none → H' z = some (.tup us) → DpAll K (wo H' z) us ((brkL rows rs).map R.d) → Q (.ref z) H'
section
variable {P : Program} {w : World} {K : PySem.W.Frag} {mg : Str → Option Value} {base : Heap} {kA : Addr}
theorem sclBrM : FnScope ["self"] ["self"] (defScope slBrM) := ⟨rfl, rfl, rfl, by decide +kernel, rfl, by decide +kernel, by decide +kernel⟩
theorem ok_lBrM {f C CR CT : Addr} {fd : FuncData} {k : Nat} (F : Fun K "broken" "Log.broken" slBrM f fd) (T : Glb K mg kA) (TL : TxtM K C) (TT : TxtT K mg CT) (pTR : Prp P w K mg base CT "rows" "lines") (cB : Cal P w K mg base "rules_broken" ["rules", "rows"] (spBrkM K CR) 3) : FnOk P w K mg base CX0 (k + 4) f fd ["self"] (spBrP K C CR CT) := by
  have GB := cB.ok (k + 3) (by omega)
  refine F.ok sclBrM (fun vs H Q E h => ?_) (fun cdv A outer s H vs Q E hr h => ?_)
  · obtain ⟨lm, x, r, q, m, rs, rows, ps, rfl, _⟩ := h
    rfl
  · obtain ⟨lm, x, r, pq, m, rs, rows, ps, rfl, ⟨⟨dx, t, hx, tt⟩, bk, _⟩, ok, fw, few, rok, r60, q⟩ := h
    refine ⟨_, (pss_one (ps_ret (pe_callTy (r := rTupOf K) call_tuple_of (by rfl) T.tup (by decide +kernel) (pa_cons (pe_call GB hr rfl cB.g cB.kp cB.b .nil pass0 (pa_cons (pe_fld (pv 0) rfl) (pa_cons (pe_prop (pe_fld (pv 0) rfl) TT.cl pTR.hp (pTR.ok (k + 2) (by omega)) hr pTR.b .nil pass0 rfl) pa_nil))) pa_nil)))), ?_⟩
    obtain ⟨dt, g, us, t1, t2, t3⟩ := tt.same (wos_le _)
    refine ⟨_, rfl, x, C, dx, _, _, rfl, hx, TL.cl, TL.nB, fldM_b _ _ _ _, _, rfl, x, C, dx, _, _, rfl, hx, TL.cl, TL.nH, fldM_h _ _ _ _, t, dt, _, rfl, t1, t, dt, _, _, rfl, t1, fldT_lines _ _, ?_⟩
    refine ⟨r, g, us, m, rs, rows, rfl, bk.same (wos_le _), .inr (.inl (.inl t2)), t3, ok, fw, few, rok, r60, fun p up H1 s1 np hp dp => ?_⟩
    refine ⟨p, up, rfl, .inl ⟨SqL.of hp, fun z nz => ?_⟩⟩
    refine q z up _ (s1.trans (same_new nz)) (s1.free nz) upd_same ?_
    rw [wo_upd]
    have pz : p ≠ z := ne_of_none hp nz
    exact dps_same (fun b o e => by
      have e1 := wo_le p _ _ e
      rw [wo_ne (ne_of_none e1 nz)]
      exact e1) _ _ dp
end
end CC
namespace CC
open PySem L2 TL
/-- how many rows a log has -/
def spLnP (K : PySem.W.Frag) (C CR CT : Addr) : Sp := fun vs H Q _ => ∃ (lm : Option Nat) (x r q : Addr) (w : Nat) (rs : List R) (rows : List (List Nat)) (ps : List (List (List Nat))), vs = [.ref x] ∧ LgAt K C CR CT lm H x r q w rs rows ps ∧ Q (.int (rows.length : Int)) H
section
variable {P : Program} {w : World} {K : PySem.W.Frag} {mg : Str → Option Value} {base : Heap} {kA : Addr}
theorem sclLnM : FnScope ["self"] ["self"] (defScope slLnM) := ⟨rfl, rfl, rfl, by decide +kernel, rfl, by decide +kernel, by decide +kernel⟩
theorem ok_lLnM {f C CR CT : Addr} {fd : FuncData} {k : Nat} (F : Fun K "__len__" "Log.__len__" slLnM f fd) (T : Glb K mg kA) (TL : TxtM K C) (TT : TxtT K mg CT) (pTR : Prp P w K mg base CT "rows" "lines") : FnOk P w K mg base CX0 (k + 3) f fd ["self"] (spLnP K C CR CT) := by
  refine F.ok sclLnM (fun vs H Q E h => ?_) (fun cdv A outer s H vs Q E hr h => ?_)
  · obtain ⟨lm, x, r, q, m, rs, rows, ps, rfl, _⟩ := h
    rfl
  · obtain ⟨lm, x, r, pq, m, rs, rows, ps, rfl, L, q⟩ := h
    obtain ⟨dx, t, hx, tt⟩ := L.at_
    refine ⟨_, (pss_one (ps_ret (pe_callB call_len_seq (by rfl) T.len PySem.boot_len (pa_cons (pe_prop (pe_fld (pv 0) rfl) TT.cl pTR.hp (pTR.ok (k + 1) (by omega)) hr pTR.b .nil pass0 rfl) pa_nil)))), ?_⟩
    obtain ⟨dt, g, us, t1, t2, t3⟩ := tt.same (wos_le _)
    refine ⟨_, rfl, x, C, dx, _, _, rfl, hx, TL.cl, TL.nH, fldM_h _ _ _ _, t, dt, _, rfl, t1, t, dt, _, _, rfl, t1, fldT_lines _ _, g, us, rfl, .inr (.inl (.inl t2)), ?_⟩
    rw [show us.length = rows.length by rw [dps_len t3, List.length_map]]
    exact q
end
end CC
namespace CC
open PySem L2 TL
/-- what repr tells of a log -/
def reprL (nm : Str) (n : Nat) : Str := Str.empty ++ nm ++ num n ++ " rows)"
def spRpP (K : PySem.W.Frag) (C CR CT : Addr) (nm : Str) : Sp := fun vs H Q _ => ∃ (lm : Option Nat) (x r q : Addr) (w : Nat) (rs : List R) (rows : List (List Nat)) (ps : List (List (List Nat))), vs = [.ref x] ∧ LgAt K C CR CT lm H x r q w rs rows ps ∧ rows.length ≤ 1000 ∧ Q (.str (reprL nm rows.length)) H
theorem reprL_len {nm : Str} {n : Nat} (h : n ≤ 9999) (hn : nm.length ≤ 20) : (Str.empty ++ nm).length ≤ 24 ∧ (Str.empty ++ nm ++ num n).length ≤ 24 ∧ (reprL nm n).length ≤ 30 := by
  have a := num_len h
  have e : (Str.empty ++ nm).length = nm.length := by rw [Str.length_append]; exact Nat.zero_add _
  have b : (Str.empty ++ nm ++ num n).length = nm.length + (num n).length := by rw [Str.length_append, e]
  have c : (" rows)" : Str).length = 6 := by decide +kernel
  refine ⟨by omega, by omega, ?_⟩
  unfold reprL
  rw [Str.length_append, b, c]
  omega
section
variable {P : Program} {w : World} {K : PySem.W.Frag} {mg : Str → Option Value} {base : Heap} {kA : Addr}
theorem sclRpM : FnScope ["self"] ["self"] (defScope slRpM) := ⟨rfl, rfl, rfl, by decide +kernel, rfl, by decide +kernel, by decide +kernel⟩
theorem ok_lRpM {f C CR CT : Addr} {fd : FuncData} {k : Nat} (F : Fun K "__repr__" "Log.__repr__" slRpM f fd) (T : Glb K mg kA) (TL : TxtM K C) (TT : TxtT K mg CT) (pTR : Prp P w K mg base CT "rows" "lines") : FnOk P w K mg base CX0 (k + 3) f fd ["self"] (spRpP K C CR CT "Log(") := by
  refine F.ok sclRpM (fun vs H Q E h => ?_) (fun cdv A outer s H vs Q E hr h => ?_)
  · obtain ⟨lm, x, r, q, m, rs, rows, ps, rfl, _⟩ := h
    rfl
  · obtain ⟨lm, x, r, pq, m, rs, rows, ps, rfl, L, few, q⟩ := h
    obtain ⟨dx, t, hx, tt⟩ := L.at_
    refine ⟨_, (pss_one (ps_ret (pe_joined (.cons pe_str (.cons (pe_fmt (pe_callB call_len_seq (by rfl) T.len PySem.boot_len (pa_cons (pe_prop (pe_fld (pv 0) rfl) TT.cl pTR.hp (pTR.ok (k + 1) (by omega)) hr pTR.b .nil pass0 rfl) pa_nil))) (.cons pe_str .nil)))))), ?_⟩
    obtain ⟨dt, g, us, t1, t2, t3⟩ := tt.same (wos_le _)
    obtain ⟨l1, l2, l3⟩ := reprL_len (nm := "Log(") (Nat.le_trans few (by decide)) (by decide +kernel)
    have big : ∀ {n : Nat}, n ≤ 30 → n ≤ sizeLine := fun h => Nat.le_trans h (by decide)
    refine ⟨_, rfl, big (by omega), ?_⟩
    refine ⟨_, rfl, x, C, dx, _, _, rfl, hx, TL.cl, TL.nH, fldM_h _ _ _ _, t, dt, _, rfl, t1, t, dt, _, _, rfl, t1, fldT_lines _ _, g, us, rfl, .inr (.inl (.inl t2)), ?_⟩
    rw [show us.length = rows.length by rw [dps_len t3, List.length_map]]
    exact .inr ⟨_, rfl, Nat.lt_of_le_of_lt (Nat.log2_le_self _) (Nat.lt_of_le_of_lt few (by decide)), _, rfl, big (Nat.le_trans l2 (by decide)), _, rfl, big l3, q⟩
end
end CC
namespace CC
open PySem L2 TL
/-- how many changes there are -/
def spCgP (K : PySem.W.Frag) (C CR CT : Addr) : Sp := fun vs H Q _ => ∃ (lm : Option Nat) (x r q : Addr) (w : Nat) (rs : List R) (rows : List (List Nat)) (ps : List (List (List Nat))), vs = [.ref x] ∧ LgAt K C CR CT lm H x r q w rs rows ps ∧ Q (.int (ps.length : Int)) H
section
variable {P : Program} {w : World} {K : PySem.W.Frag} {mg : Str → Option Value} {base : Heap} {kA : Addr}
theorem sclCgM : FnScope ["self"] ["self"] (defScope slCgM) := ⟨rfl, rfl, rfl, by decide +kernel, rfl, by decide +kernel, by decide +kernel⟩
theorem ok_lCgM {f C CR CT : Addr} {fd : FuncData} {k : Nat} (F : Fun K "changes" "Log.changes" slCgM f fd) (T : Glb K mg kA) (TL : TxtM K C) : FnOk P w K mg base CX0 (k + 1) f fd ["self"] (spCgP K C CR CT) := by
  refine F.ok sclCgM (fun vs H Q E h => ?_) (fun cdv A outer s H vs Q E hr h => ?_)
  · obtain ⟨lm, x, r, q, m, rs, rows, ps, rfl, _⟩ := h
    rfl
  · obtain ⟨lm, x, r, pq, m, rs, rows, ps, rfl, L, q⟩ := h
    obtain ⟨dx, t, hx, _⟩ := L.at_
    obtain ⟨hs, hq, hl⟩ := L.past
    refine ⟨_, (pss_one (ps_ret (pe_callB call_len_seq (by rfl) T.len PySem.boot_len (pa_cons (pe_fld (pv 0) rfl) pa_nil)))), ?_⟩
    refine ⟨_, rfl, x, C, dx, _, _, rfl, hx, TL.cl, TL.nP, fldM_p _ _ _ _, pq, hs, rfl, .inl (SqL.of hq), ?_⟩
    rw [hl.len]
    exact q
end
end CC
namespace CC
open PySem L2 TL
section
variable {P : Program} {w : World} {K : PySem.W.Frag} {mg : Str → Option Value} {base : Heap} {kA : Addr}
end
end CC
/-! repr(x) by the own __repr__ -/
namespace OC
open PySem PySem.Spec PySem.Calls PySem.W PyProof.Rows L2
section
variable {X : Cx} {CX : CXT} {k : Nat} {sp : Sp} {E : XK} {C : Addr}
def rReprO (C : Addr) (sp : Sp) (E : XK) : List V → Hp → VK → Prop := fun xs H Q => ∃ a dx fs, xs = [.ref a] ∧ H a = some (.ins C dx fs) ∧ sp [.ref a] H (fun v H' => ∃ t : Str, v = .str t ∧ Q (.str t) H') E
theorem call_reprO {g : Addr} (hs : PySem.W.findIn X.K (.ref C) "__repr__" = some (some (.ref g))) (hf : PySem.W.isFn X.K (.ref g) = true) (F : FnR X.prog X.w X.K X.mg X.base CX k g sp) (hr : Room (k + 1) X.A) (hx : Passes CX X E) : CallR X (.builtin "repr") (rReprO C sp E) := by
  intro pins s σ H xs us Q I r h
  obtain ⟨a, dx, fs, rfl, ha, q⟩ := h
  rw [Vals.ref1 r]
  obtain ⟨mA, J, _⟩ := ins_get I.hok ha
  obtain ⟨od, J, _⟩ := J.look
  obtain ⟨m, hF⟩ := I.fr
  have hu := hr.in1.un
  refine PySem.W.repr_K (by omega) hF I.ok.mod.kin J hs hf ?_
  refine wpAny_mono (wpAny_call (SlX.run_at (us := [.ref a]) (ws := [.ref a]) F hr.in1 I.env0.in1 hx I (.cons rfl .nil) q)) (fun w s' z => ?_) fun _ _ x => x
  obtain ⟨z', H', I', rz, t, rfl, qz⟩ := z
  obtain ⟨tk, rfl⟩ := (show ∃ tk, w = Value.str t tk from rz)
  exact ⟨.str t, H', I', ⟨_, rfl⟩, qz⟩
end
end OC
namespace CC
open PySem L2 TL
def rJoin (K : PySem.W.Frag) : V → List V → Hp → VK → Prop := fun x xs H Q => ∃ a p, ∃ ys : List Str, x = .str a ∧ xs = [.ref p] ∧ (SqL K H p (ys.map V.str) ∨ SqT K H p (ys.map V.str)) ∧ (ys.map (·.length)).sum + ys.length * a.length ≤ 16777216 ∧ Q (.str (Txt.join a ys)) H
theorem pe_joinK {X : Cx} {o e : Expr} {to te : TE} {apos pos : Pos} (ho : PE X o to) (he : PE X e te) (hs : starEach [e] X.env = [(false, eval e X.env)] := by rfl) (hbase : attributeBase o "join" X.env (eval o X.env) = eval o X.env := by rfl) (hline : (apos.endLine == pos.line) = true := by rfl) :
    PE X (.Call (.Attribute o "join" apos) [e] [] pos) (tM1 (rJoin X.K) to te) := pe_join ho he hs hbase hline
def rAddSt : R2 := fun x y H Q => ∃ i j, x = .str i ∧ y = .str j ∧ i.length + j.length ≤ sizeLine ∧ Q (.str (i ++ j)) H
theorem op_addSt {X : Cx} : OpR X (binaryOp .Add) rAddSt := op_add_str
theorem sum_le {k : Nat} : ∀ l : List Nat, (∀ x ∈ l, x ≤ k) → l.sum ≤ k * l.length
  | [], _ => by simp
  | x :: l, h => by
    have h1 := h x List.mem_cons_self
    have h2 := sum_le l fun y hy => h y (List.mem_cons_of_mem _ hy)
    rw [List.sum_cons, List.length_cons, Nat.mul_succ]
    omega
section
variable {P : Program} {w : World} {K : PySem.W.Frag} {mg : Str → Option Value} {base : Heap} {kA : Addr}
def rStrI : List V → Hp → VK → Prop := fun xs H Q => ∃ n : Nat, xs = [.int (n : Int)] ∧ n ≤ 9999 ∧ Q (.str (num n)) H
theorem call_strI {X : Cx} : CallR X (.type "str") rStrI := by
  intro pins s σ H xs us Q I r h
  obtain ⟨n, rfl, hn, q⟩ := h
  exact call_str_int pins s σ H _ us Q I r ⟨_, rfl, small10k hn, q⟩
end
end CC
namespace CC
open PySem L2 TL
def spTTx (K : PySem.W.Frag) : Sp := fun vs H Q _ => ∃ (g : Addr) (us : List V) (w : Nat) (rows : List (List Nat)), vs = [.ref g] ∧ SqL K H g us ∧ DpAll K H us (rows.map gd) ∧ w ≤ 6 ∧ (∀ r ∈ rows, RowOk w r) ∧ rows.length ≤ 400 ∧ ∀ H', Same H H' → Q (.str (textT rows)) H'
section
variable {P : Program} {w : World} {K : PySem.W.Frag} {mg : Str → Option Value} {base : Heap} {kA : Addr}
abbrev scTx5 : Scope := lcScT (joinArg (retVal ((defBody sTTx).getD 0 (.Pass ⟨0, 0, 0, 0⟩))))
abbrev nTTx : List Str := ["_law_listed", "_law_row_here", "_law_value"]
theorem scTTx : FnScope nTTx ["_law_listed"] (defScope sTTx) := ⟨rfl, rfl, rfl, by decide +kernel, rfl, by decide +kernel, by decide +kernel⟩
theorem ok_ttx {f : Addr} {fd : FuncData} {k : Nat} (F : Fun K "_law_text" "_law_text" sTTx f fd) (T : Glb K mg kA) : FnOk P w K mg base CX0 (k + 1) f fd ["_law_listed"] (spTTx K) := by
  refine F.ok scTTx (fun vs H Q E h => ?_) (fun cdv A outer s H vs Q E hr h => ?_)
  · obtain ⟨g, us, w, rows, rfl, _⟩ := h
    rfl
  · obtain ⟨g, us, w, rows, rfl, hg, dp, w6, ok, few, q⟩ := h
    have n := scTTx.nd
    refine ⟨_, (pss_one (ps_ret (pe_join pe_str (pe_lc (own := [("_law_row_here", 1)]) (g := gName 1) (tt := tYes) (te := tOp rAddSt (tM1 (rJoin K) (tC (.str " ")) (tLc (iTup K (tVar 1)) (gName 2) tYes (tCB rStrI (tCons (tVar 2) tNil)) [2])) (tC (.str "\n"))) rfl n (pi_list (pv 0)) (blkOk_by (N := nTTx) (sc := defScope sTTx) (by decide +kernel))
      (fun _ _ _ _ _ => (pg_name (i := 1) n rfl (.inl rfl))) (fun _ _ _ _ _ => pts_nil) (fun _ _ _ _ _ => (pe_op op_addSt (pe_joinK pe_str (pe_lc (own := [("_law_value", 2)]) (g := gName 2) (tt := tYes) rfl n (pi_tup (pv 1)) (blkOk_by (N := nTTx) (sc := relS scTx5 (defScope sTTx)) (by decide +kernel))
        (fun _ _ _ _ _ => (pg_name (i := 2) n rfl (.inl rfl))) (fun _ _ _ _ _ => pts_nil) (fun _ _ _ _ _ => (pe_callTy call_strI (by rfl) T.str (by decide +kernel) (pa_cons (pv 2) pa_nil))))) pe_str)))))), ?_⟩
    have ul : us.length = rows.length := by rw [dps_len dp, List.length_map]
    refine ⟨⟨_, rfl⟩, _, rfl, g, rfl, ⟨_, hg⟩, fun D nD => ?_⟩
    refine lc_list (xs := us) (fun i H1 => Same H (wo H1 D) ∧ H1 D = some (.lst (((rows.take i).map fun r => rowS r ++ "\n").map V.str))) ⟨?_, upd_same⟩ (fun i H1 _ z => same_l (z.1.trans (wo_le D)) hg) ?_ ?_
    · rw [wo_upd]
      exact fun b o e => by rw [wo_ne (ne_of_none e nD)]; exact e
    · rintro i v H1 hv ⟨e1, e2⟩
      obtain ⟨r, hr2, dr⟩ := dps_gat dp hv
      have il := (List.getElem?_eq_some_iff.mp hr2).1
      have rok := ok r (List.mem_of_getElem? hr2)
      have s1 : Same H H1 := e1.trans (wo_le D)
      obtain ⟨t, rfl, ht⟩ := gd_at (dp_same s1 _ _ dr)
      have rl := rowS_len rok w6
      have r1 := rok.1
      refine ⟨rfl, yes_if ⟨⟨_, rfl⟩, _, rfl, t, rfl, ⟨_, ht⟩, fun D2 nD2 => ?_⟩⟩
      refine lc_tup (xs := nms r) (fun j H2 => Same H1 (wo H2 D2) ∧ H2 D2 = some (.lst (((r.take j).map num).map V.str))) ⟨?_, upd_same⟩ (fun j H2 _ z => same_t (z.1.trans (wo_le D2)) ht) ?_ ?_
      · rw [wo_upd]
        exact fun b o e => by rw [wo_ne (ne_of_none e nD2)]; exact e
      · rintro j y H2 hy ⟨f1, f2⟩
        obtain ⟨c, hc, rfl⟩ := nms_get? hy
        have jl := (List.getElem?_eq_some_iff.mp hc).1
        refine ⟨rfl, yes_if ⟨_, rfl, c, rfl, rok.2 c (List.mem_of_getElem? hc), _, f2, small1000 (by rw [List.length_map, List.length_map, List.length_take]; omega), ?_, ?_⟩⟩
        · rw [wo_upd]
          exact f1
        · rw [upd_same, take1 hc, List.map_append, List.map_append]
          rfl
      rintro H2 ⟨f1, f2⟩
      rw [nms_len, List.take_length] at f2
      have s2 : Same H1 H2 := f1.trans (wo_le D2)
      have sm : ((r.map num).map (·.length)).sum ≤ 4 * ((r.map num).map (·.length)).length := sum_le _ fun x hx => by
        obtain ⟨y, hy, rfl⟩ := List.mem_map.mp hx
        obtain ⟨c, hc, rfl⟩ := List.mem_map.mp hy
        exact num_len (rok.2 c hc)
      rw [List.length_map, List.length_map] at sm
      refine ⟨_, D2, r.map num, rfl, rfl, .inl (SqL.of f2), ?_, ?_⟩
      · have e0 : ((" " : Str)).length = 1 := by decide +kernel
        show ((r.map num).map (·.length)).sum + (r.map num).length * ((" " : Str)).length ≤ 16777216
        rw [e0, List.length_map]
        omega
      refine ⟨_, _, rfl, rfl, ?_, ?_⟩
      · have e0 : (("\n" : Str)).length = 1 := by decide +kernel
        show (rowS r).length + (("\n" : Str)).length ≤ sizeLine
        rw [e0]
        exact Nat.le_trans (Nat.add_le_add_right rl 1) (by decide)
      refine ⟨_, s2 _ _ e2, small1000 (by rw [List.length_map, List.length_map, List.length_take]; omega), ?_, ?_⟩
      · rw [wo_upd]
        exact e1.trans (wo_same s2)
      · rw [upd_same, take1 hr2, List.map_append, List.map_append]
        rfl
    rintro H1 ⟨e1, e2⟩
    rw [ul, List.take_length] at e2
    have s1 : Same H H1 := e1.trans (wo_le D)
    have sm : ((rows.map fun r => rowS r ++ "\n").map (·.length)).sum ≤ 31 * ((rows.map fun r => rowS r ++ "\n").map (·.length)).length := sum_le _ fun x hx => by
      obtain ⟨y, hy, rfl⟩ := List.mem_map.mp hx
      obtain ⟨r, hr, rfl⟩ := List.mem_map.mp hy
      have rl := rowS_len (ok r hr) w6
      rw [len_tl] at rl
      rw [len_tl, tl_app, List.length_append]
      have e : (tl ("\n" : Str)).length = 1 := by decide +kernel
      omega
    rw [List.length_map, List.length_map] at sm
    refine ⟨_, D, rows.map (fun r => rowS r ++ "\n"), rfl, rfl, .inl (SqL.of e2), ?_, q H1 s1⟩
    have e0 : (Str.ofString "").length = 0 := by decide +kernel
    rw [e0, Nat.mul_zero]
    omega
end
end CC
namespace CC
open PySem L2
/-! ### the dict of ways -/
def Ents (H : Hp) : List (Key × V) → List (Nat × List Nat) → Prop
  | [], [] => True
  | (k, v) :: r, (c, w) :: s => k = Sum.inl (c : Int) ∧ (∃ t, v = .ref t ∧ H t = some (.tup (nms w))) ∧ Ents H r s
  | [], _ :: _ => False
  | _ :: _, [] => False
theorem Ents.mono {H H' : Hp} (e : ∀ t xs, H t = some (.tup xs) → H' t = some (.tup xs)) : ∀ {kvs : List (Key × V)} {ws : List (Nat × List Nat)}, Ents H kvs ws → Ents H' kvs ws
  | [], [], _ => trivial
  | [], _ :: _, h => False.elim h
  | _ :: _, [], h => False.elim h
  | (k, v) :: r, (c, w) :: s, ⟨h1, ⟨t, h2, h3⟩, h4⟩ => ⟨h1, ⟨t, h2, e _ _ h3⟩, Ents.mono e h4⟩
theorem Ents.len {H : Hp} : ∀ {kvs : List (Key × V)} {ws : List (Nat × List Nat)}, Ents H kvs ws → kvs.length = ws.length
  | [], [], _ => rfl
  | [], _ :: _, h => False.elim h
  | _ :: _, [], h => False.elim h
  | (k, v) :: r, (c, w) :: s, ⟨_, _, h⟩ => congrArg (· + 1) (Ents.len h)
theorem Ents.app {H : Hp} : ∀ {kvs kvs2 : List (Key × V)} {ws ws2 : List (Nat × List Nat)}, Ents H kvs ws → Ents H kvs2 ws2 → Ents H (kvs ++ kvs2) (ws ++ ws2)
  | [], _, [], _, _, h => h
  | [], _, _ :: _, _, h, _ => False.elim h
  | _ :: _, _, [], _, h, _ => False.elim h
  | (k, v) :: r, _, (c, w) :: s, _, ⟨h1, h2, h3⟩, h => ⟨h1, h2, Ents.app h3 h⟩
theorem Ents.keys {H : Hp} : ∀ {kvs : List (Key × V)} {ws : List (Nat × List Nat)}, Ents H kvs ws → (kvs.map fun kv => kV kv.1) = nms (ws.map (·.1))
  | [], [], _ => rfl
  | [], _ :: _, h => False.elim h
  | _ :: _, [], h => False.elim h
  | (k, v) :: r, (c, w) :: s, ⟨h1, _, h⟩ => by
    subst h1
    rw [List.map_cons, Ents.keys h]
    rfl
theorem Ents.none {H : Hp} {c : Nat} : ∀ {kvs : List (Key × V)} {ws : List (Nat × List Nat)}, Ents H kvs ws → c ∉ ws.map (·.1) → valV kvs (Sum.inl (c : Int)) = none
  | [], [], _, _ => rfl
  | [], _ :: _, h, _ => False.elim h
  | _ :: _, [], h, _ => False.elim h
  | (k, v) :: r, (d, w) :: s, ⟨h1, _, h⟩, n => by
    subst h1
    rw [List.map_cons, List.mem_cons, not_or] at n
    rw [valV_neg (fun e => n.1 (by have := Sum.inl.inj e; simp only at this ⊢; omega))]
    exact Ents.none h n.2
theorem Ents.some {H : Hp} {c : Nat} {u : List Nat} : ∀ {kvs : List (Key × V)} {ws : List (Nat × List Nat)}, Ents H kvs ws → (ws.map (·.1)).Nodup → (c, u) ∈ ws → ∃ t, valV kvs (Sum.inl (c : Int)) = some (.ref t) ∧ H t = some (.tup (nms u))
  | [], [], _, _, h => nomatch h
  | [], _ :: _, h, _, _ => False.elim h
  | _ :: _, [], h, _, _ => False.elim h
  | (k, v) :: r, (d, w) :: s, ⟨h1, ⟨t, h2, h3⟩, h⟩, nd, m => by
    subst h1 h2
    rw [List.map_cons, List.nodup_cons] at nd
    rcases List.mem_cons.mp m with e | m
    · cases e
      exact ⟨t, valV_pos rfl, h3⟩
    · have ne : ¬ (c = d) := fun e => nd.1 (List.mem_map.mpr ⟨(c, u), m, e⟩)
      obtain ⟨t2, e2, h2⟩ := Ents.some h nd.2 m
      exact ⟨t2, (valV_neg (fun e => ne (by have := Sum.inl.inj e; omega))).trans e2, h2⟩
def spFw (K : PySem.W.Frag) : Sp := fun vs H Q _ => ∃ (a : Addr) (us : List V) (ps : List (Nat × Nat)) (st : Nat), vs = [.ref a, .int (st : Int)] ∧ SqL K H a us ∧ DpAll K H us (ps.map prd) ∧ (∀ x ∈ ps, x.1 < 6 ∧ x.2 < 6) ∧ st < 6 ∧ ps.length ≤ 1000 ∧
  ∀ (D : Addr) (kvs : List (Key × V)) (ws : List (Nat × List Nat)) (H' : Hp), Same H H' → H D = none → H' D = some (.dK kvs) → Ents H' kvs ws → FW ps st ws → Q (.ref D) H'
/-- a sorted list of such numbers -/
theorem nats_of {ns : List Nat} {ns' : List Int} (h : ns'.Perm (ns.map fun (n : Nat) => (n : Int))) : ∃ ms : List Nat, ns' = ms.map (fun (n : Nat) => (n : Int)) ∧ ms.Perm ns := by
  refine ⟨ns'.map Int.toNat, ?_, ?_⟩
  · rw [List.map_map]
    have : ∀ x ∈ ns', ((fun (n : Nat) => (n : Int)) ∘ Int.toNat) x = x := fun x hx => by
      obtain ⟨n, _, rfl⟩ := List.mem_map.mp (h.mem_iff.mp hx)
      simp
    rw [List.map_congr_left this]
    simp
  · have := h.map Int.toNat
    rw [List.map_map] at this
    have e : (Int.toNat ∘ fun (n : Nat) => (n : Int)) = id := by
      funext n
      simp
    rw [e, List.map_id] at this
    exact this
theorem nms_ints (ns : List Nat) : nms ns = (ns.map fun (n : Nat) => (n : Int)).map V.int := by
  unfold nms
  rw [List.map_map]
  rfl
section
variable {P : Program} {w : World} {K : PySem.W.Frag} {mg : Str → Option Value} {base : Heap} {kA : Addr}
end
end CC
namespace CC
open PySem L2
abbrev sReached : Stmt := tp 32
theorem wk_of {ps : List (Nat × Nat)} {a b : Nat} (h : Rch ps a b) : ∃ w, Wk ps a b w := by
  induction h with
  | refl => exact ⟨_, .one⟩
  | step _ h ih =>
    obtain ⟨w, hw⟩ := ih
    exact ⟨_, hw.step h⟩
theorem rch_of {ps : List (Nat × Nat)} {a b : Nat} {w : List Nat} (h : Wk ps a b w) : Rch ps a b := by
  induction h with
  | one => exact .refl
  | step _ h ih => exact ih.step h
theorem FW.keys {ps : List (Nat × Nat)} {st : Nat} {ws : List (Nat × List Nat)} (h : FW ps st ws) (c : Nat) : c ∈ ws.map (·.1) ↔ Rch ps st c := by
  constructor
  · intro z
    obtain ⟨e, he, rfl⟩ := List.mem_map.mp z
    exact rch_of (h.wk e he)
  · intro z
    obtain ⟨w, hw⟩ := wk_of z
    obtain ⟨v, hv, _⟩ := h.fst c w hw
    exact List.mem_map.mpr ⟨_, hv, rfl⟩
def spReached (K : PySem.W.Frag) : Sp := fun vs H Q _ => ∃ (a : Addr) (us : List V) (ps : List (Nat × Nat)) (st : Nat), vs = [.ref a, .int (st : Int)] ∧ SqL K H a us ∧ DpAll K H us (ps.map prd) ∧ (∀ x ∈ ps, x.1 < 6 ∧ x.2 < 6) ∧ st < 6 ∧ ps.length ≤ 1000 ∧
  ∀ (p : Addr) (fs : List Nat) (H' : Hp), Same H H' → H p = none → H' p = some (.lst (nms fs)) → (∀ c, c ∈ fs ↔ Rch ps st c) → fs.Pairwise (· < ·) → Q (.ref p) H'
section
variable {P : Program} {w : World} {K : PySem.W.Frag} {mg : Str → Option Value} {base : Heap} {kA : Addr}
theorem scReached : FnScope ["pairs", "start"] ["pairs", "start"] (defScope sReached) := ⟨rfl, rfl, rfl, by decide +kernel, rfl, by decide +kernel, by decide +kernel⟩
theorem ok_reached {f : Addr} {fd : FuncData} {k : Nat} (F : Fun K "reached" "reached" sReached f fd) (T : Glb K mg kA) (cF : Cal P w K mg base "first_ways" ["pairs", "start"] (spFw K) 1) : FnOk P w K mg base CX0 (k + 2) f fd ["pairs", "start"] (spReached K) := by
  have GF := cF.ok (k + 1) (by omega)
  refine F.ok scReached (fun vs H Q E h => ?_) (fun cdv A outer s H vs Q E hr h => ?_)
  · obtain ⟨a, us, ps, st, rfl, _⟩ := h
    rfl
  · obtain ⟨a, us, ps, st, rfl, ha, dp, hps, hst, hpl, q⟩ := h
    refine ⟨_, pss_one (ps_ret (pe_callB cr_sortedI (by rfl) T.srt (by decide +kernel) (pa_cons (pe_callTy (call_listD rfl) (by rfl) T.lst (by decide +kernel) (pa_cons (pe_call GF hr rfl cF.g cF.kp cF.b .nil pass0 (pa_cons (pv 0) (pa_cons (pv 1) pa_nil))) pa_nil)) pa_nil))), ?_⟩
    refine ⟨_, rfl, _, rfl, a, us, ps, st, rfl, ha, dp, hps, hst, hpl, fun D kvs ws H1 s1 nD hD en fw => ?_⟩
    refine ⟨D, kvs, rfl, .inl hD, fun p np => ?_⟩
    rw [en.keys, nms_ints]
    have s2 : Same H1 (upd H1 p (.lst (((ws.map (·.1)).map fun (n : Nat) => (n : Int)).map V.int))) := same_new np
    have h2 : (upd H1 p (.lst (((ws.map (·.1)).map fun (n : Nat) => (n : Int)).map V.int))) p = some (.lst (((ws.map (·.1)).map fun (n : Nat) => (n : Int)).map V.int)) := upd_same
    generalize upd H1 p (.lst (((ws.map (·.1)).map fun (n : Nat) => (n : Int)).map V.int)) = H2 at s2 h2
    refine ⟨p, _, rfl, SqL.of h2, fun ns' p2 pm st2 n2 => ?_⟩
    obtain ⟨ms, rfl, pm2⟩ := nats_of pm
    rw [← nms_ints]
    refine q p2 ms _ ((s1.trans s2).trans (same_new n2)) ((s1.trans s2).free n2) upd_same (fun c => ?_) ?_
    · rw [pm2.mem_iff]
      exact fw.keys c
    · have nd : ms.Nodup := pm2.nodup_iff.mpr fw.nd
      have le : ms.Pairwise (· ≤ ·) := by
        rw [List.pairwise_map] at st2
        exact st2.imp fun h => by omega
      exact (le.and nd).imp fun h => by omega
end
end CC
namespace CC
open PySem L2
/-! ### what follows -/
inductive RT (S : Nat → Nat → Prop) (a : Nat) : Nat → Prop
  | refl : RT S a a
  | step {b c : Nat} : RT S a b → S b c → RT S a c
theorem RT.trans {S : Nat → Nat → Prop} {a b c : Nat} (h1 : RT S a b) (h2 : RT S b c) : RT S a c := by
  induction h2 with
  | refl => exact h1
  | step _ h ih => exact ih.step h
section
variable {P : Program} {w : World} {K : PySem.W.Frag} {mg : Str → Option Value} {base : Heap} {kA : Addr}
end
end CC
namespace CC
open PySem L2
section
variable {P : Program} {w : World} {K : PySem.W.Frag} {mg : Str → Option Value} {base : Heap} {kA : Addr}
end
end CC
namespace CC
open PySem L2 TL
def lineP (r : R) : Str := num r.a ++ " " ++ kd r.k ++ " " ++ num r.b ++ "\n"
theorem lineP_eq (r : R) : lineP r = lineS r ++ "\n" := by
  refine ext_tl ?_
  unfold lineP lineS
  simp only [tl_app]
  rw [show tl Str.empty = [] by rfl, List.nil_append]
theorem lens2_all : ((allR 6).all fun r => decide ((num r.a).length ≤ 20) && decide ((num r.a ++ " ").length ≤ 20) && decide ((num r.a ++ " " ++ kd r.k).length ≤ 20) && decide ((num r.a ++ " " ++ kd r.k ++ " ").length ≤ 20) && decide ((num r.a ++ " " ++ kd r.k ++ " " ++ num r.b).length ≤ 20) && decide ((num r.b).length ≤ 20) && decide ((kd r.k).length ≤ 20)) = true := by decide +kernel
end CC
namespace CC
open PySem L2 TL
def spWd (K : PySem.W.Frag) : Sp := fun vs H Q _ => ∃ (g : Addr) (us : List V) (rs : List R), vs = [.ref g] ∧ SqT K H g us ∧ DpAll K H us (rs.map R.d) ∧ (∀ r ∈ rs, r.ok 6) ∧ rs.length ≤ 60 ∧ ∀ H', Same H H' → Q (.str (textS rs)) H'
section
variable {P : Program} {w : World} {K : PySem.W.Frag} {mg : Str → Option Value} {base : Heap} {kA : Addr}
abbrev nWd : List Str := ["_law_given_here", "_law_kind", "_law_a", "_law_b"]
theorem scWd : FnScope nWd ["_law_given_here"] (defScope sWd) := ⟨rfl, rfl, rfl, by decide +kernel, rfl, by decide +kernel, by decide +kernel⟩
theorem ok_wd {f : Addr} {fd : FuncData} {k : Nat} (F : Fun K "_law_words" "_law_words" sWd f fd) (T : Glb K mg kA) : FnOk P w K mg base CX0 (k + 1) f fd ["_law_given_here"] (spWd K) := by
  refine F.ok scWd (fun vs H Q E h => ?_) (fun cdv A outer s H vs Q E hr h => ?_)
  · obtain ⟨g, us, rs, rfl, _⟩ := h
    rfl
  · obtain ⟨g, us, rs, rfl, hg, dp, ho6, rl, q⟩ := h
    have n := scWd.nd
    refine ⟨_, (pss_one (ps_ret (pe_join pe_str (pe_lc (own := [("_law_kind", 1), ("_law_a", 2), ("_law_b", 3)]) (g := g3 K 1 2 3) (tt := tYes) rfl n (pi_tup (pv 0)) (blkOk_by (N := nWd) (sc := defScope sWd) (by decide +kernel))
        (fun _ _ _ _ _ => (pg_tup rfl (pgs_cons (pg_name (i := 1) n rfl (.inl rfl)) (pgs_cons (pg_name (i := 2) n rfl (.inl rfl)) (pgs_cons (pg_name (i := 3) n rfl (.inl rfl)) pgs_nil))))) (fun _ _ _ _ _ => pts_nil) (fun _ _ _ _ _ => (pe_op op_add_str (pe_op op_add_str (pe_op op_add_str (pe_op op_add_str (pe_op op_add_str (pe_callTy call_str_int (by rfl) T.str (by decide +kernel) (pa_cons (pv 2) pa_nil)) pe_str) (pv 1)) pe_str) (pe_callTy call_str_int (by rfl) T.str (by decide +kernel) (pa_cons (pv 3) pa_nil))) pe_str)))))), ?_⟩
    have ul : us.length = rs.length := by rw [dps_len dp, List.length_map]
    refine ⟨⟨_, rfl⟩, _, rfl, g, rfl, ⟨_, hg⟩, fun D nD => ?_⟩
    refine lc_tup (xs := us) (fun i H1 => Same H (wo H1 D) ∧ H1 D = some (.lst (((rs.take i).map fun r => lineS r ++ "\n").map V.str))) ⟨?_, upd_same⟩ (fun i H1 _ z => same_t (z.1.trans (wo_le D)) hg) ?_ ?_
    · rw [wo_upd]
      exact fun b o e => by rw [wo_ne (ne_of_none e nD)]; exact e
    · rintro i v H1 hv ⟨e1, e2⟩
      obtain ⟨r, hr2, dr⟩ := dps_rat dp hv
      have il : i < rs.length := (List.getElem?_eq_some_iff.mp hr2).1
      obtain ⟨t, rfl, ht⟩ := dp_r (dp_same (e1.trans (wo_le D)) _ _ dr)
      have ok := ho6 r (List.mem_of_getElem? hr2)
      have hl := List.all_eq_true.mp lens2_all r (mem_allR.mpr ok)
      simp only [Bool.and_eq_true, decide_eq_true_eq] at hl
      obtain ⟨⟨⟨⟨⟨⟨l1, l2⟩, l3⟩, l4⟩, l5⟩, l6⟩, l7⟩ := hl
      have big : ∀ {a b : Nat}, a ≤ 20 → b ≤ 20 → a + b ≤ sizeLine := fun h1 h2 => Nat.le_trans (Nat.add_le_add h1 h2) (by decide)
      have s1 : (" " : Str).length ≤ 20 := by decide +kernel
      have s2 : ("\n" : Str).length ≤ 20 := by decide +kernel
      refine ⟨t, _, rfl, ht, rfl, _, _, rfl, _, _, rfl, _, _, rfl, rfl, rfl, yes_if ?_⟩
      refine ⟨_, rfl, _, rfl, small6 ok.1, _, _, rfl, rfl, big l1 s1, _, rfl, _, _, rfl, rfl, big l2 l7, _, _, rfl, rfl, big l3 s1, _, rfl, _, rfl, small6 ok.2.1, _, _, rfl, rfl, big l4 l6, _, _, rfl, rfl, big l5 s2, ?_⟩
      refine ⟨_, e2, small1000 (by rw [List.length_map, List.length_map, List.length_take]; omega), ?_, ?_⟩
      · rw [wo_upd]
        exact e1
      · rw [upd_same, SG.take_one hr2, List.map_append, List.map_append]
        show some (HO.lst (_ ++ [V.str (lineP r)])) = some (HO.lst (_ ++ [V.str (lineS r ++ "\n")]))
        rw [lineP_eq]
    rintro H1 ⟨e1, e2⟩
    rw [ul, List.take_length] at e2
    have s1 : Same H H1 := e1.trans (wo_le D)
    refine ⟨_, D, rs.map (fun r => lineS r ++ "\n"), rfl, rfl, .inl (SqL.of e2), ?_, ?_⟩
    · have z : ∀ l : List Nat, (∀ x ∈ l, x ≤ 21) → l.sum ≤ 21 * l.length := by
        intro l
        induction l with
        | nil => intro _; simp
        | cons x l ih =>
          intro h
          have h1 := h x List.mem_cons_self
          have h2 := ih fun y hy => h y (List.mem_cons_of_mem _ hy)
          rw [List.sum_cons, List.length_cons]
          omega
      have z1 := z (((rs.map fun r => lineS r ++ "\n")).map (·.length)) fun x hx => by
        obtain ⟨y, hy, rfl⟩ := List.mem_map.mp hx
        obtain ⟨r, hr2, rfl⟩ := List.mem_map.mp hy
        have := (line_of6 (ho6 r hr2)).1
        rw [len_tl] at this
        rw [len_tl, tl_app, List.length_append]
        have e : (tl ("\n" : Str)).length = 1 := by decide +kernel
        omega
      have e0 : (Str.ofString "").length = 0 := by decide +kernel
      rw [List.length_map, List.length_map] at z1
      rw [e0, Nat.mul_zero]
      omega
    · exact q H1 s1
end
end CC
namespace CC
open PySem L2 TL
/-! ### what a log of a kind must show -/
abbrev nLdu : List Str := ["_law_kind", "_law_many", "_law_given_here", "_law_cap", "_law_listed", "_law_changes", "_law_name", "_law_found", "_law_rule"]
def kindN : Nat → Str
  | 0 => "Log"
  | 1 => "Strict"
  | 2 => "Short"
  | _ => "StrictShort"
def nameD (kd n : Nat) : Str := kindN kd ++ "(" ++ num n ++ " rows)"
/-- what is shown, as data -/
noncomputable def seenD (kd many cap : Nat) (rs : List R) (rows : List (List Nat)) (changes : Nat) : List PyData := [.str (textT rows), .int (many : Int), .int (changes : Int), .int (rows.length : Int), .str (nameD kd rows.length), .str (textS rs), .tuple ((brkL rows rs).map R.d)] ++ (if 2 ≤ kd then [.int (cap : Int)] else [])
def spLdu (K : PySem.W.Frag) : Sp := fun vs H Q _ => ∃ (kd many cap changes : Nat) (gv g : Addr) (ur us : List V) (rs : List R) (rows : List (List Nat)), vs = [.int (kd : Int), .int (many : Int), .ref gv, .int (cap : Int), .ref g, .int (changes : Int)] ∧ kd < 4 ∧ many ≤ 6 ∧ SqT K H gv ur ∧ DpAll K H ur (rs.map R.d) ∧ (∀ r ∈ rs, r.ok many) ∧ rs.length ≤ 60 ∧ SqL K H g us ∧ DpAll K H us (rows.map gd) ∧ (∀ x ∈ rows, RowOk many x) ∧ rows.length ≤ 60 ∧ ∀ (p : Addr) (H' : Hp), Same H H' → Dp K H' (.ref p) (.list (seenD kd many cap rs rows changes)) → Q (.ref p) H'
section
variable {P : Program} {w : World} {K : PySem.W.Frag} {mg : Str → Option Value} {base : Heap} {kA : Addr}
theorem scLdu : FnScope nLdu ["_law_kind", "_law_many", "_law_given_here", "_law_cap", "_law_listed", "_law_changes"] (defScope sLdu) := ⟨rfl, rfl, rfl, by decide +kernel, rfl, by decide +kernel, by decide +kernel⟩
theorem kind_at {kd : Nat} (h : kd < 4) : atI [V.str "Log", V.str "Strict", V.str "Short", V.str "StrictShort"] (kd : Int) = some (V.str (kindN kd)) := by
  match kd, h with
  | 0, _ => rfl
  | 1, _ => rfl
  | 2, _ => rfl
  | 3, _ => rfl
theorem kindN_len (kd : Nat) : (kindN kd).length ≤ 20 := by
  unfold kindN
  split <;> decide +kernel
theorem nameD_lens {kd n : Nat} (h : n ≤ 9999) : (kindN kd).length + ("(" : Str).length ≤ sizeLine ∧ (kindN kd ++ "(").length + (num n).length ≤ sizeLine ∧ (kindN kd ++ "(" ++ num n).length + (" rows)" : Str).length ≤ sizeLine := by
  have a := kindN_len kd
  have b := num_len h
  have c : ("(" : Str).length = 1 := by decide +kernel
  have d : (" rows)" : Str).length = 6 := by decide +kernel
  have z : 100 ≤ sizeLine := by decide
  have e1 : (kindN kd ++ "(").length = (kindN kd).length + 1 := by rw [Str.length_append, c]
  have e2 : (kindN kd ++ "(" ++ num n).length = (kindN kd).length + 1 + (num n).length := by rw [Str.length_append, e1]
  omega
theorem ok_ldu {f : Addr} {fd : FuncData} {k : Nat} (F : Fun K "_law_due" "_law_due" sLdu f fd) (T : Glb K mg kA) (cI : Cal P w K mg base "_law_is_held" ["_law_listed", "_law_rule"] (spIh K) 1) (cT : Cal P w K mg base "_law_text" ["_law_listed"] (spTTx K) 1) (cW : Cal P w K mg base "_law_words" ["_law_given_here"] (spWd K) 1) : FnOk P w K mg base CX0 (k + 2) f fd ["_law_kind", "_law_many", "_law_given_here", "_law_cap", "_law_listed", "_law_changes"] (spLdu K) := by
  have GI := cI.ok (k + 1) (by omega)
  have GT := cT.ok (k + 1) (by omega)
  have GW := cW.ok (k + 1) (by omega)
  refine F.ok scLdu (fun vs H Q E h => ?_) (fun cdv A outer s H vs Q E hr h => ?_)
  · obtain ⟨kd, many, cap, changes, gv, g, ur, us, rs, rows, rfl, _⟩ := h
    rfl
  · obtain ⟨kd, many, cap, changes, gv, g, ur, us, rs, rows, rfl, k4, m6, hv, dv, rok, r60, hg, dp, ok, few, q⟩ := h
    have n := scLdu.nd
    refine ⟨_, (pss_cons (ps_set (i := 6) n rfl (.inl rfl) (pe_op op_add_str (pe_op op_add_str (pe_op op_add_str (pe_ix ix_list (pe_lst (pa_cons pe_str (pa_cons pe_str (pa_cons pe_str (pa_cons pe_str pa_nil))))) (pv 0) (fun _ _ => rfl)) pe_str) (pe_callTy call_str_int (by rfl) T.str (by decide +kernel) (pa_cons (pe_callB call_len_seq (by rfl) T.len PySem.boot_len (pa_cons (pv 4) pa_nil)) pa_nil))) pe_str))
      (pss_cons (ps_set (i := 7) n rfl (.inl rfl) (pe_lst (pa_cons (pe_call GT hr rfl cT.g cT.kp cT.b .nil pass0 (pa_cons (pv 4) pa_nil)) (pa_cons (pv 1) (pa_cons (pv 5) (pa_cons (pe_callB call_len_seq (by rfl) T.len PySem.boot_len (pa_cons (pv 4) pa_nil)) (pa_cons (pv 6) (pa_cons (pe_call GW hr rfl cW.g cW.kp cW.b .nil pass0 (pa_cons (pv 2) pa_nil)) pa_nil))))))))
      (pss_cons (ps_expr (pe_bm PySem.F.plainAttrs_list PySem.F.slot_list_append PySem.F.type_list_append mt_append (pv 7) (pa_cons (pe_callTy (r := rTupOf K) call_tuple_of (by rfl) T.tup (by decide +kernel) (pa_cons (pe_lc (own := [("_law_rule", 8)]) (g := gName 8) (tt := tNot (tB (tCall (spIh K) [] E0 (tCons (tVar 4) (tCons (tVar 8) tNil))))) rfl n (pi_tup (pv 2)) (blkOk_by (N := nLdu) (sc := defScope sLdu) (by decide +kernel))
        (fun _ _ _ _ _ => (pg_name (i := 8) n rfl (.inl rfl))) (fun _ _ _ _ _ => pts_one (pt_not (pt_val (pe_call GI hr rfl cI.g cI.kp cI.b .nil pass0 (pa_cons (pv 4) (pa_cons (pv 8) pa_nil)))))) (fun _ _ _ _ _ => (pv 8))) pa_nil)) pa_nil)))
      (pss_one (ps_ret (pe_ifExp (pt_cmpR op_ge (pv 0) pe_int (nomark _)) (pe_op op_cat (pv 7) (pe_lst (pa_cons (pv 3) pa_nil))) (pv 7))))))), ?_⟩
    have ul : us.length = rows.length := by rw [dps_len dp, List.length_map]
    have rl : ur.length = rs.length := by rw [dps_len dv, List.length_map]
    obtain ⟨l1, l2, l3⟩ := nameD_lens (kd := kd) (n := rows.length) (by omega)
    have sml : ∀ {n : Nat}, n ≤ 60 → ((n : Nat) : Int).natAbs.log2 < 1920 := fun {n} h => Nat.lt_of_le_of_lt (Nat.log2_le_self _) (show n < 1920 by omega)
    -- the name
    refine ⟨(by show 4 ≤ sizeLine; decide), fun p0 n0 => ?_⟩
    have s1 : Same H (upd H p0 (.lst [V.str "Log", V.str "Strict", V.str "Short", V.str "StrictShort"])) := same_new n0
    refine ⟨_, rfl, p0, _, _, _, rfl, rfl, SqL.of upd_same, kind_at k4, _, _, rfl, rfl, l1, ?_⟩
    generalize upd H p0 (.lst [V.str "Log", V.str "Strict", V.str "Short", V.str "StrictShort"]) = H1 at s1
    refine ⟨_, rfl, g, us, rfl, .inl (same_l s1 hg), _, rfl, sml (by omega), _, _, rfl, rfl, ?_, ?_⟩
    · rw [ul]
      exact l2
    refine ⟨_, _, rfl, rfl, ?_, ?_⟩
    · rw [ul]
      exact l3
    -- the list
    refine ⟨_, rfl, g, us, many, rows, rfl, same_l s1 hg, dps_same s1 _ _ dp, m6, ok, (by omega), fun H2 s2 => ?_⟩
    have s02 := s1.trans s2
    refine ⟨_, rfl, _, rfl, _, rfl, g, us, rfl, .inl (same_l s02 hg), _, rfl, _, rfl, gv, ur, rs, rfl, same_t s02 hv, dps_same s02 _ _ dv, (fun r hr => ⟨Nat.lt_of_lt_of_le (rok r hr).1 m6, Nat.lt_of_lt_of_le (rok r hr).2.1 m6, (rok r hr).2.2⟩), r60, fun H3 s3 => ⟨(by show 6 ≤ sizeLine; decide), fun p np => ?_⟩⟩
    have s03 := s02.trans s3
    have Hp0 : H p = none := s03.free np
    have s04 : Same H (upd H3 p (.lst [.str (textT rows), .int (many : Int), .int (changes : Int), .int (us.length : Int), .str (kindN kd ++ "(" ++ Str.ofString (toString ((us.length : Nat) : Int)) ++ " rows)"), .str (textS rs)])) := s03.trans (same_new np)
    have hp4 : (upd H3 p (.lst [.str (textT rows), .int (many : Int), .int (changes : Int), .int (us.length : Int), .str (kindN kd ++ "(" ++ Str.ofString (toString ((us.length : Nat) : Int)) ++ " rows)"), .str (textS rs)])) p = some (.lst [.str (textT rows), .int (many : Int), .int (changes : Int), .int (us.length : Int), .str (kindN kd ++ "(" ++ Str.ofString (toString ((us.length : Nat) : Int)) ++ " rows)"), .str (textS rs)]) := upd_same
    generalize upd H3 p (.lst [.str (textT rows), .int (many : Int), .int (changes : Int), .int (us.length : Int), .str (kindN kd ++ "(" ++ Str.ofString (toString ((us.length : Nat) : Int)) ++ " rows)"), .str (textS rs)]) = H4 at s04 hp4
    refine ⟨_, rfl, .inl ⟨rfl, _, SqL.of hp4⟩, _, rfl, gv, rfl, ⟨_, same_t s04 hv⟩, fun D nD => ?_⟩
    refine lc_tup (xs := ur) (fun i H1 => MadeF R.d K H4 D i H1 (brkL rows (rs.take i))) MadeF.start (fun i H1 _ z => same_t (s04.trans (z.old nD)) hv) ?_ ?_
    · rintro i v H1 hv2 mo
      obtain ⟨r, hr2, dr⟩ := dps_rat dv hv2
      have il : i < rs.length := (List.getElem?_eq_some_iff.mp hr2).1
      have o := s04.trans (mo.old nD)
      refine ⟨rfl, _, rfl, _, rfl, g, us, many, rows, v, r, rfl, same_l o hg, dps_same o _ _ dp, ok, few, dp_same o _ _ dr, rok r (List.mem_of_getElem? hr2), fun t H2 s2 ht => ⟨_, rfl, ?_⟩⟩
      obtain ⟨uo, _, hDo, _⟩ := id mo
      have e : brkL rows (rs.take (i + 1)) = brkL rows (rs.take i) ++ [r].filter fun r => !holdsB rows r := by
        unfold brkL
        rw [SG.take_one hr2, List.filter_append]
      rw [e]
      have hb := holdsB_of ht
      cases t with
      | true =>
        rw [List.filter_cons_of_neg (by rw [hb]; decide), List.filter_nil, List.append_nil]
        exact iteF (mo.keep s2 (by omega) rfl)
      | false =>
        rw [List.filter_cons_of_pos (by rw [hb]; rfl), List.filter_nil]
        refine iteT ⟨_, rfl, ?_⟩
        exact mo.push (r := r) (m := i + 1) (by omega) (Nat.lt_succ_self _) s2 (rd_T (((same_T o).trans (same_T s2)).trans (wo_T (s2 _ _ hDo))) dr)
    rintro H5 mo
    rw [rl, List.take_length] at mo
    have s05 := s04.trans (mo.old nD)
    have hp5 := mo.old nD _ _ hp4
    obtain ⟨up, _, hD5, dp5, _⟩ := mo
    refine ⟨D, up, rfl, .inl ⟨SqL.of hD5, fun z nz => ?_⟩⟩
    have s06 := s05.trans (same_new (o := .tup up) nz)
    have zp : z ≠ p := fun e => by rw [e, hp5] at nz; cases nz
    have hz6 : (upd H5 z (.tup up)) z = some (.tup up) := upd_same
    have hp6 : (upd H5 z (.tup up)) p = _ := (upd_ne zp.symm).trans hp5
    have T6 : SameT (wo H5 D) (upd H5 z (.tup up)) := (same_T (wo_le D)).trans (same_T (same_new nz))
    generalize upd H5 z (.tup up) = H6 at s06 hz6 hp6 T6
    refine ⟨p, _, _, rfl, rfl, hp6, (by show 6 < sizeLine; decide), ?_⟩
    have T7 : SameT (wo H5 D) (upd H6 p (.lst ([V.str (textT rows), V.int (many : Int), V.int (changes : Int), V.int (us.length : Int), V.str (kindN kd ++ "(" ++ Str.ofString (toString ((us.length : Nat) : Int)) ++ " rows)"), V.str (textS rs)] ++ [V.ref z]))) := T6.trans (upd_T hp6)
    have s07 : Same H (upd H6 p (.lst ([V.str (textT rows), V.int (many : Int), V.int (changes : Int), V.int (us.length : Int), V.str (kindN kd ++ "(" ++ Str.ofString (toString ((us.length : Nat) : Int)) ++ " rows)"), V.str (textS rs)] ++ [V.ref z]))) := same_mut s06 Hp0
    have hp7 : (upd H6 p (.lst ([V.str (textT rows), V.int (many : Int), V.int (changes : Int), V.int (us.length : Int), V.str (kindN kd ++ "(" ++ Str.ofString (toString ((us.length : Nat) : Int)) ++ " rows)"), V.str (textS rs)] ++ [V.ref z]))) p = some (.lst ([V.str (textT rows), V.int (many : Int), V.int (changes : Int), V.int (us.length : Int), V.str (kindN kd ++ "(" ++ Str.ofString (toString ((us.length : Nat) : Int)) ++ " rows)"), V.str (textS rs)] ++ [V.ref z])) := upd_same
    have hz7 : (upd H6 p (.lst ([V.str (textT rows), V.int (many : Int), V.int (changes : Int), V.int (us.length : Int), V.str (kindN kd ++ "(" ++ Str.ofString (toString ((us.length : Nat) : Int)) ++ " rows)"), V.str (textS rs)] ++ [V.ref z]))) z = some (.tup up) := (upd_ne zp).trans hz6
    have d7 := rds_T T7 dp5
    generalize upd H6 p (.lst ([V.str (textT rows), V.int (many : Int), V.int (changes : Int), V.int (us.length : Int), V.str (kindN kd ++ "(" ++ Str.ofString (toString ((us.length : Nat) : Int)) ++ " rows)"), V.str (textS rs)] ++ [V.ref z])) = H7 at T7 s07 hp7 hz7 d7
    have el : (us.length : Int) = (rows.length : Int) := by rw [ul]
    have D7 : ∀ H8, Same H7 H8 → DpAll K H8 ([V.str (textT rows), V.int (many : Int), V.int (changes : Int), V.int (us.length : Int), V.str (kindN kd ++ "(" ++ Str.ofString (toString ((us.length : Nat) : Int)) ++ " rows)"), V.str (textS rs)] ++ [V.ref z]) [.str (textT rows), .int (many : Int), .int (changes : Int), .int (rows.length : Int), .str (nameD kd rows.length), .str (textS rs), .tuple ((brkL rows rs).map R.d)] := fun H8 s8 => by
      rw [ul]
      exact .cons (.str _) (.cons (.int _) (.cons (.int _) (.cons (.int _) (.cons (.str _) (.cons (.str _) (.cons (.tup (.inl (.inl (s8 _ _ hz7))) (dps_same s8 _ _ d7)) .nil))))))
    refine ⟨_, rfl, _, _, rfl, rfl, _, rfl, ?_⟩
    by_cases e2 : 2 ≤ kd
    · refine iteT' (decide_eq_true (by omega)) ⟨_, rfl, _, rfl, (by show 1 ≤ sizeLine; decide), fun p2 n2 => ?_⟩
      have s8 : Same H7 (upd H7 p2 (.lst [V.int (cap : Int)])) := same_new n2
      refine ⟨p, p2, _, _, rfl, rfl, s8 _ _ hp7, upd_same, (by show 7 + 1 ≤ sizeLine; decide), fun p3 n3 => ?_⟩
      have s9 := s8.trans (same_new (o := .lst (([V.str (textT rows), V.int (many : Int), V.int (changes : Int), V.int (us.length : Int), V.str (kindN kd ++ "(" ++ Str.ofString (toString ((us.length : Nat) : Int)) ++ " rows)"), V.str (textS rs)] ++ [V.ref z]) ++ [V.int (cap : Int)])) n3)
      refine q p3 _ (s07.trans s9) (.lst (SqL.of upd_same) ?_)
      unfold seenD
      rw [if_pos e2]
      exact dps_app (D7 _ s9) (.cons (.int _) .nil)
    · refine iteF' (decide_eq_false (by omega)) ⟨_, rfl, ?_⟩
      refine q p _ s07 (.lst (SqL.of hp7) ?_)
      unfold seenD
      rw [if_neg e2, List.append_nil]
      exact D7 _ (Same.refl _)
end
end CC
namespace CC
open PySem L2 TL
/-! ### what a class of logs of a kind shows (a law's text keeps only the methods that the law reaches, so add, drop, undo and assign_table are not among it) -/
structure LogS (P : Program) (w : World) (K : PySem.W.Frag) (mg : Str → Option Value) (base : Heap) (CR CT : Addr) (kd : Nat) where
  C : Addr
  TM : TxtM K C
  pR : Prp P w K mg base C "rules" "book"
  pT : Prp P w K mg base C "table" "held"
  pB : PrpL P w K mg base C "broken" (spBrP K C CR CT) 4
  pC : PrpL P w K mg base C "changes" (spCgP K C CR CT) 1
  fL : Addr
  hL : PySem.W.findIn K (.ref C) "__len__" = some (some (.ref fL))
  iL : PySem.W.isFn K (.ref fL) = true
  lenO : ∀ k, 3 ≤ k → FnR P w K mg base CX0 k fL (spLnP K C CR CT)
  fP : Addr
  hP : PySem.W.findIn K (.ref C) "__repr__" = some (some (.ref fP))
  iP : PySem.W.isFn K (.ref fP) = true
  reprO : ∀ k, 3 ≤ k → FnR P w K mg base CX0 k fP (spRpP K C CR CT (kindN kd ++ "("))
  pM : 2 ≤ kd → Prp P w K mg base C "most" "limit"
theorem reprL_name (kd n : Nat) : reprL (kindN kd ++ "(") n = nameD kd n := by
  unfold reprL nameD
  have e : Str.empty ++ (kindN kd ++ "(") = kindN kd ++ "(" := by
    unfold kindN
    split <;> decide +kernel
  rw [e]
end CC
namespace CC
open PySem L2 TL
def lbOf (kd : Nat) : Bool := decide (2 ≤ kd)
def lmOf (kd cap : Nat) : Option Nat := if 2 ≤ kd then some cap else none
theorem lmOf_lb (kd cap : Nat) : (lmOf kd cap).isSome = lbOf kd := by
  unfold lmOf lbOf
  split
  · rename_i h
    rw [decide_eq_true h]
    rfl
  · rename_i h
    rw [decide_eq_false h]
    rfl
theorem pe_ex {X : Cx} {ι : Sort _} {e : Expr} {t : ι → TE} (h : ∀ i, PE X e (t i)) : PE X e (fun σ H Q => ∃ i, t i σ H Q) :=
  ⟨fun pins s σ H Q I ⟨i, q⟩ => (h i).run pins s σ H Q I q⟩
end CC
namespace CC
open PySem L2 TL
/-! ### how a log of any class is made -/
/-- which exception check of a log of a kind raises -/
noncomputable def ckOf (c5 c7 : Addr) : Nat → CkM
  | 0 => ckA c5
  | 1 => ckTh (ckA c5) (ckBr c7)
  | 2 => ckTh (ckA c5) (ckMo c5)
  | _ => ckTh (ckTh (ckA c5) (ckMo c5)) (ckBr c7)
theorem pass0Y {X : Cx} : Passes (L2.CX X.prog X.w) X E0 := fun _ _ _ _ _ _ _ h => by
  obtain ⟨_, _, _, _, _, _, _, _, _, _, _, _, z⟩ := h
  exact z.elim
/-- how logs are made -/
structure MakeC (P : Program) (w : World) (K : PySem.W.Frag) (mg : Str → Option Value) (base : Heap) (x : Str) (C : Addr) (ps : List Str) (sp : Sp) (l : Nat) where
  f : Addr
  fd : FuncData
  M : Mk K C f
  ok : ∀ k, l ≤ k → FnOk P w K mg base (L2.CX P w) k f fd ps sp
  g : mg x = some (.ref C)
structure MakeP (P : Program) (w : World) (K : PySem.W.Frag) (mg : Str → Option Value) (base : Heap) (x : Str) (C : Addr) (ps : List Str) (sp : Sp) (l : Nat) extends MakeC P w K mg base x C ps sp l where
  b : Binds K fd ps []
section
variable {P : Program} {w : World} {K : PySem.W.Frag} {mg : Str → Option Value} {base : Heap} {kA : Addr}
theorem made_go {C CR CT x dx : Addr} {lm : Option Nat} {H : Hp} {r : Addr} {m : Nat} {rs : List R} {Q : VK} (nx : H x = none) (ndx : H dx = none) (ne : dx ≠ x) (bk : RulesAt K CR H r m rs) (q : ∀ (x q : Addr) (H' : Hp), Same H H' → H x = none → H q = none → LgAt K C CR CT lm H' x r q m rs [] [] → Q (.ref x) H') :
    (upd (upd H dx (.own x)) x (.ins C dx [])) x = some (.ins C dx []) ∧ RulesAt K CR (wo (upd (upd H dx (.own x)) x (.ins C dx [])) x) r m rs ∧ ∀ (H' : Hp) (q' : Addr), (∀ b o, (upd (upd H dx (.own x)) x (.ins C dx [])) b = some o → b ≠ x → H' b = some o) → (upd (upd H dx (.own x)) x (.ins C dx [])) q' = none → LgAt K C CR CT lm H' x r q' m rs [] [] → V.non = V.non ∧ Q (.ref x) H' := by
  have s1 : Same H (upd (upd H dx (.own x)) x (.ins C dx [])) := fun b o e => by
    rw [upd_ne (ne_of_none e nx), upd_ne (ne_of_none e ndx)]
    exact e
  refine ⟨upd_same, bk.same fun b o e => ?_, fun H' q' k1 nq L => ⟨rfl, ?_⟩⟩
  · rw [wo_ne (ne_of_none e nx)]
    exact s1 _ _ e
  · exact q x q' H' (fun b o e => k1 b o (s1 _ _ e) (ne_of_none e nx)) nx (s1.free nq) L
end
end CC
namespace CC
open PySem L2 TL
/-! ### what a log of a kind says to rows -/
abbrev nFit : List Str := ["_law_kind", "_law_given_here", "_law_cap", "_law_listed", "_law_lost", "_law_rule"]
noncomputable def lostN (rows : List (List Nat)) (rs : List R) : List Nat := ((brkL rows rs).filter (·.k)).map fun _ => 1
theorem lostN_snoc (rows : List (List Nat)) (rs : List R) (r : R) : lostN rows (rs ++ [r]) = if (r.k && !holdsB rows r) = true then lostN rows rs ++ [1] else lostN rows rs := by
  unfold lostN brkL
  rw [List.filter_append, List.filter_append, List.map_append]
  cases a : holdsB rows r <;> cases b : r.k <;> simp [List.filter_cons, a, b]
theorem lostN_le (rows : List (List Nat)) (rs : List R) : (lostN rows rs).length ≤ rs.length := by
  unfold lostN
  rw [List.length_map]
  exact Nat.le_trans (List.length_filter_le _ _) (brkL_len rows rs)
theorem lostN_any (rows : List (List Nat)) (rs : List R) : (lostN rows rs).isEmpty = !(brkL rows rs).any (·.k) := by
  unfold lostN
  rw [List.isEmpty_map]
  induction brkL rows rs with
  | nil => rfl
  | cons r l ih =>
    rw [List.any_cons, List.filter_cons]
    cases r.k with
    | true => rfl
    | false => simpa using ih
noncomputable def fitW (kd cap : Nat) (rs : List R) (rows : List (List Nat)) : Str := if (if 2 ≤ kd then cap else 400) < rows.length then "TooMuch" else if kd % 2 = 1 ∧ (brkL rows rs).any (·.k) = true then "Broken" else "told"
def spFit (K : PySem.W.Frag) : Sp := fun vs H Q _ => ∃ (kd cap m : Nat) (gv g : Addr) (ur us : List V) (rs : List R) (rows : List (List Nat)), vs = [.int (kd : Int), .ref gv, .int (cap : Int), .ref g] ∧ SqT K H gv ur ∧ DpAll K H ur (rs.map R.d) ∧ (∀ r ∈ rs, r.ok m) ∧ rs.length ≤ 60 ∧ SqL K H g us ∧ DpAll K H us (rows.map gd) ∧ (∀ x ∈ rows, RowOk m x) ∧ rows.length ≤ 60 ∧ ∀ H', Same H H' → Q (.str (fitW kd cap rs rows)) H'
section
variable {P : Program} {w : World} {K : PySem.W.Frag} {mg : Str → Option Value} {base : Heap} {kA : Addr}
theorem scFit : FnScope nFit ["_law_kind", "_law_given_here", "_law_cap", "_law_listed"] (defScope sFit) := ⟨rfl, rfl, rfl, by decide +kernel, rfl, by decide +kernel, by decide +kernel⟩
theorem ok_fit {f : Addr} {fd : FuncData} {k : Nat} (F : Fun K "_law_fit" "_law_fit" sFit f fd) (T : Glb K mg kA) (cI : Cal P w K mg base "_law_is_held" ["_law_listed", "_law_rule"] (spIh K) 1) : FnOk P w K mg base CX0 (k + 2) f fd ["_law_kind", "_law_given_here", "_law_cap", "_law_listed"] (spFit K) := by
  have GI := cI.ok (k + 1) (by omega)
  refine F.ok scFit (fun vs H Q E h => ?_) (fun cdv A outer s H vs Q E hr h => ?_)
  · obtain ⟨kd, cap, m, gv, g, ur, us, rs, rows, rfl, _⟩ := h
    rfl
  · obtain ⟨kd, cap, m, gv, g, ur, us, rs, rows, rfl, hv, dv, rok, r60, hg, dp, ok, few, q⟩ := h
    have n := scFit.nd
    have hu64 : (A.deeper (PyProof.Rows.envOfC (Str.ofString "_law_fit") (defScope sFit) s.heap.objs.size f cdv)).units + 64 < cLine := by
      have := hr.un
      omega
    refine ⟨_, (pss_cons (ps_if (pt_cmpR op_gt (pe_callB call_len_seq (by rfl) T.len PySem.boot_len (pa_cons (pv 3) pa_nil)) (pe_ifExp (pt_cmpR op_ge (pv 0) pe_int (nomark _)) (pv 2) pe_int) (nomark _)) (pss_one (ps_ret pe_str)) pss_nil)
      (pss_cons (ps_setLc (i := 4) (own := [("_law_rule", 5)]) (g := gName 5) (tt := tAnd (tTest (tOp rEq (tOp (rIxT K) (tVar 5) (tC (.int 0))) (tC (.str "settles")))) (tNot (tB (tCall (spIh K) [] E0 (tCons (tVar 3) (tCons (tVar 5) tNil)))))) (te := tC (.int 1)) rfl n rfl rfl (sw_true rfl rfl rfl (by decide +kernel)) (pi_tup (pv 1)) (blkOk_by (N := nFit) (sc := defScope sFit) (by decide +kernel))
        (fun _ _ _ _ _ => (pg_name (i := 5) n rfl (.inl rfl))) (fun _ _ _ _ _ => pts_one (PW.pt (pw_and (pt_cmpR op_eq (pe_ix ix_tup (pv 5) pe_int (fun _ _ => rfl)) pe_str (nomark _)) (pw_and1 (pt_not (pt_val (pe_call GI hr rfl cI.g cI.kp cI.b .nil pass0 (pa_cons (pv 3) (pa_cons (pv 5) pa_nil))))))))) (fun _ _ _ _ _ => pe_int))
      (pss_one (ps_ret (pe_ifExp (PW.pt (pw_and (pt_cmpR op_eq (pe_op op_mod (pv 0) pe_int) pe_int (nomark _)) (pw_and1 (pt_cmpR (op_neD hu64) (pv 4) (pe_lst pa_nil) (nomark _))))) pe_str pe_str))))), ?_⟩
    have ul : us.length = rows.length := by rw [dps_len dp, List.length_map]
    have rl : ur.length = rs.length := by rw [dps_len dv, List.length_map]
    refine ⟨_, rfl, g, us, rfl, .inl hg, ?_⟩
    have q0 : ∀ lim : Nat, (if 2 ≤ kd then cap else 400) = lim → (lim < rows.length → ∀ H', Same H H' → Q (.str "TooMuch") H') ∧ (¬ lim < rows.length → ∀ H', Same H H' → Q (.str (if kd % 2 = 1 ∧ (brkL rows rs).any (·.k) = true then "Broken" else "told")) H') := fun lim e => by
      unfold fitW at q
      rw [e] at q
      exact ⟨fun z => by rw [if_pos z] at q; exact q, fun z => by rw [if_neg z] at q; exact q⟩
    refine ⟨_, rfl, _, _, rfl, rfl, _, rfl, ?_⟩
    by_cases e2 : 2 ≤ kd
    · obtain ⟨q1, q2⟩ := q0 cap (if_pos e2)
      refine iteT' (decide_eq_true (by omega)) ⟨_, rfl, _, _, rfl, rfl, _, rfl, ?_⟩
      by_cases e : cap < rows.length
      · exact iteT' (decide_eq_true (by omega)) (q1 e _ (Same.refl _))
      · refine iteF' (decide_eq_false (by omega)) ?_
        replace q := q2 e
        refine ⟨_, rfl, gv, rfl, ⟨_, hv⟩, fun D nD => ?_⟩
        refine lc_tup (xs := ur) (fun i H1 => Same H (wo H1 D) ∧ H1 D = some (.lst (nms (lostN rows (rs.take i))))) ⟨?_, upd_same⟩ (fun i H1 _ z => same_t (z.1.trans (wo_le D)) hv) ?_ ?_
        · rw [wo_upd]
          exact fun b o e => by rw [wo_ne (ne_of_none e nD)]; exact e
        · rintro i v H1 hv2 ⟨f1, f2⟩
          obtain ⟨r, hr2, dr⟩ := dps_rat dv hv2
          have il := (List.getElem?_eq_some_iff.mp hr2).1
          have s1 := f1.trans (wo_le D)
          have dr1 := dp_same s1 _ _ dr
          obtain ⟨tr, rfl, htr⟩ := dp_r dr1
          have ln : (lostN rows (rs.take i)).length ≤ 60 := Nat.le_trans (lostN_le _ _) (by rw [List.length_take]; omega)
          refine ⟨rfl, ?_⟩
          refine ⟨_, rfl, tr, _, _, _, rfl, rfl, htr, rfl, rfl, _, rfl, ?_⟩
          have ek : decide (V.str (CC.kd r.k) = V.str (Str.ofString "settles")) = r.k := by cases r.k <;> decide +kernel
          have tk := lostN_snoc rows (rs.take i) r
          cases hk : r.k with
          | false =>
            refine iteF' (by decide +kernel) ?_
            refine iteF' rfl ⟨f1, ?_⟩
            rw [f2, SG.take_one hr2, tk, hk]
            rfl
          | true =>
            refine iteT' (by decide +kernel) ?_
            refine ⟨_, rfl, _, rfl, g, us, m, rows, _, r, rfl, same_l s1 hg, dps_same s1 _ _ dp, ok, few, dr1, rok r (List.mem_of_getElem? hr2), fun t H2 s2 ht => ⟨_, rfl, ?_⟩⟩
            have hb := holdsB_of ht
            rw [hk, hb] at tk
            cases t with
            | true =>
              refine iteF' rfl ⟨fun b o e => ?_, ?_⟩
              · have e1 := f1 _ _ e
                have nb : b ≠ D := fun z => by
                  rw [z, wo_at] at e1
                  cases e1
                rw [wo_ne nb]
                exact s2 _ _ (wo_le D _ _ e1)
              · rw [s2 _ _ f2, SG.take_one hr2, tk]
                rfl
            | false =>
              refine iteT' rfl ⟨_, s2 _ _ f2, small1000 (by rw [nms_len]; omega), ?_, ?_⟩
              · rw [wo_upd]
                exact f1.trans (wo_same s2)
              · rw [upd_same, SG.take_one hr2, tk]
                show _ = some (HO.lst (nms (_ ++ [1])))
                rw [nms_app]
                rfl
        rintro H2 ⟨f1, f2⟩
        rw [rl, List.take_length] at f2
        have s2 : Same H H2 := f1.trans (wo_le D)
        refine ⟨_, rfl, _, _, rfl, rfl, (show (0 : Int) < 2 by decide), rfl, _, rfl, ?_⟩
        have em : decide (V.int ((kd : Int) % 2) = V.int 1) = decide (kd % 2 = 1) := by
          rw [decide_eq_decide]
          exact ⟨fun h => by injection h with h; omega, fun h => by rw [show (kd : Int) % 2 = 1 by omega]⟩
        by_cases e3 : kd % 2 = 1
        · refine iteT' (em.trans (decide_eq_true e3)) ?_
          refine ⟨_, rfl, Nat.zero_le _, fun t nt => ?_⟩
          have s3 : Same H2 (upd H2 t (.lst [])) := same_new nt
          refine ⟨.list ((lostN rows rs).map fun (n : Nat) => PyData.int (n : Int)), .list [], .lst (SqL.of (s3 _ _ f2)) (dps_nms _), .lst (SqL.of upd_same) .nil, nums_shp _, nums_shp [], _, rfl, ?_⟩
          have el : (!PyData.eqv (.list ((lostN rows rs).map fun (n : Nat) => PyData.int (n : Int))) (.list [])) = (brkL rows rs).any (·.k) := by rw [one_nil, lostN_any, Bool.not_not]
          rw [el]
          cases e4 : (brkL rows rs).any (·.k) with
          | true =>
            rw [if_pos ⟨e3, e4⟩] at q
            exact iteT' rfl (q _ (s2.trans s3))
          | false =>
            rw [if_neg (fun z => by rw [e4] at z; cases z.2)] at q
            exact iteF' rfl (q _ (s2.trans s3))
        · rw [if_neg (fun z => e3 z.1)] at q
          refine iteF' (em.trans (decide_eq_false e3)) ?_
          exact iteF' rfl (q _ s2)
    · obtain ⟨q1, q2⟩ := q0 400 (if_neg e2)
      refine iteF' (decide_eq_false (by omega)) ⟨_, _, rfl, rfl, _, rfl, ?_⟩
      by_cases e : 400 < rows.length
      · exact iteT' (decide_eq_true (by omega)) (q1 e _ (Same.refl _))
      · refine iteF' (decide_eq_false (by omega)) ?_
        replace q := q2 e
        refine ⟨_, rfl, gv, rfl, ⟨_, hv⟩, fun D nD => ?_⟩
        refine lc_tup (xs := ur) (fun i H1 => Same H (wo H1 D) ∧ H1 D = some (.lst (nms (lostN rows (rs.take i))))) ⟨?_, upd_same⟩ (fun i H1 _ z => same_t (z.1.trans (wo_le D)) hv) ?_ ?_
        · rw [wo_upd]
          exact fun b o e => by rw [wo_ne (ne_of_none e nD)]; exact e
        · rintro i v H1 hv2 ⟨f1, f2⟩
          obtain ⟨r, hr2, dr⟩ := dps_rat dv hv2
          have il := (List.getElem?_eq_some_iff.mp hr2).1
          have s1 := f1.trans (wo_le D)
          have dr1 := dp_same s1 _ _ dr
          obtain ⟨tr, rfl, htr⟩ := dp_r dr1
          have ln : (lostN rows (rs.take i)).length ≤ 60 := Nat.le_trans (lostN_le _ _) (by rw [List.length_take]; omega)
          refine ⟨rfl, ?_⟩
          refine ⟨_, rfl, tr, _, _, _, rfl, rfl, htr, rfl, rfl, _, rfl, ?_⟩
          have ek : decide (V.str (CC.kd r.k) = V.str (Str.ofString "settles")) = r.k := by cases r.k <;> decide +kernel
          have tk := lostN_snoc rows (rs.take i) r
          cases hk : r.k with
          | false =>
            refine iteF' (by decide +kernel) ?_
            refine iteF' rfl ⟨f1, ?_⟩
            rw [f2, SG.take_one hr2, tk, hk]
            rfl
          | true =>
            refine iteT' (by decide +kernel) ?_
            refine ⟨_, rfl, _, rfl, g, us, m, rows, _, r, rfl, same_l s1 hg, dps_same s1 _ _ dp, ok, few, dr1, rok r (List.mem_of_getElem? hr2), fun t H2 s2 ht => ⟨_, rfl, ?_⟩⟩
            have hb := holdsB_of ht
            rw [hk, hb] at tk
            cases t with
            | true =>
              refine iteF' rfl ⟨fun b o e => ?_, ?_⟩
              · have e1 := f1 _ _ e
                have nb : b ≠ D := fun z => by
                  rw [z, wo_at] at e1
                  cases e1
                rw [wo_ne nb]
                exact s2 _ _ (wo_le D _ _ e1)
              · rw [s2 _ _ f2, SG.take_one hr2, tk]
                rfl
            | false =>
              refine iteT' rfl ⟨_, s2 _ _ f2, small1000 (by rw [nms_len]; omega), ?_, ?_⟩
              · rw [wo_upd]
                exact f1.trans (wo_same s2)
              · rw [upd_same, SG.take_one hr2, tk]
                show _ = some (HO.lst (nms (_ ++ [1])))
                rw [nms_app]
                rfl
        rintro H2 ⟨f1, f2⟩
        rw [rl, List.take_length] at f2
        have s2 : Same H H2 := f1.trans (wo_le D)
        refine ⟨_, rfl, _, _, rfl, rfl, (show (0 : Int) < 2 by decide), rfl, _, rfl, ?_⟩
        have em : decide (V.int ((kd : Int) % 2) = V.int 1) = decide (kd % 2 = 1) := by
          rw [decide_eq_decide]
          exact ⟨fun h => by injection h with h; omega, fun h => by rw [show (kd : Int) % 2 = 1 by omega]⟩
        by_cases e3 : kd % 2 = 1
        · refine iteT' (em.trans (decide_eq_true e3)) ?_
          refine ⟨_, rfl, Nat.zero_le _, fun t nt => ?_⟩
          have s3 : Same H2 (upd H2 t (.lst [])) := same_new nt
          refine ⟨.list ((lostN rows rs).map fun (n : Nat) => PyData.int (n : Int)), .list [], .lst (SqL.of (s3 _ _ f2)) (dps_nms _), .lst (SqL.of upd_same) .nil, nums_shp _, nums_shp [], _, rfl, ?_⟩
          have el : (!PyData.eqv (.list ((lostN rows rs).map fun (n : Nat) => PyData.int (n : Int))) (.list [])) = (brkL rows rs).any (·.k) := by rw [one_nil, lostN_any, Bool.not_not]
          rw [el]
          cases e4 : (brkL rows rs).any (·.k) with
          | true =>
            rw [if_pos ⟨e3, e4⟩] at q
            exact iteT' rfl (q _ (s2.trans s3))
          | false =>
            rw [if_neg (fun z => by rw [e4] at z; cases z.2)] at q
            exact iteF' rfl (q _ (s2.trans s3))
        · rw [if_neg (fun z => e3 z.1)] at q
          refine iteF' (em.trans (decide_eq_false e3)) ?_
          exact iteF' rfl (q _ s2)
end
end CC
/-! data that may be shown and compared: weight at most m, depth at most n -/
namespace GD
open PySem L2
structure SD (m n : Nat) (d : PyData) : Prop where
  lay : d.canLay0 = true
  shw : d.showable = true
  lvs : d.leavesShort 13 = true
  dep : d.depth ≤ n
  wt : d.weight ≤ m
theorem SD.up {m n m' n' : Nat} {d : PyData} (h : SD m n d) (h1 : m ≤ m') (h2 : n ≤ n') : SD m' n' d := ⟨h.lay, h.shw, h.lvs, Nat.le_trans h.dep h2, Nat.le_trans h.wt h1⟩
theorem SD.non : SD 0 0 .none := ⟨by simp [PyData.canLay0], by simp [PyData.showable], by simp [PyData.leavesShort], by simp [PyData.depth], by simp [PyData.weight]⟩
theorem SD.bl (b : Bool) : SD 0 0 (.bool b) := ⟨by simp [PyData.canLay0], by simp [PyData.showable], by simp [PyData.leavesShort], by simp [PyData.depth], by simp [PyData.weight]⟩
theorem SD.nat {n : Nat} (hn : n < 1000000) : SD 20 0 (.int (n : Int)) := by
  have hl : n.log2 < 20 := by
    by_cases z : n = 0
    · subst z; decide
    · exact (Nat.log2_lt z).mpr (by omega)
  have hl2 : (n : Int).natAbs.log2 < 1920 := by
    rw [Int.natAbs_natCast]
    omega
  refine ⟨by simp [PyData.canLay0], ?_, ?_, by simp [PyData.depth], ?_⟩
  · unfold PyData.showable
    exact decide_eq_true hl2
  · unfold PyData.leavesShort
    refine decide_eq_true ?_
    show (Str.ofString (toString (n : Int))).length ≤ 13
    have e := int_text_length_le10 (a := (n : Int)) (k := 6) (by decide) (by rw [Int.natAbs_natCast]; exact hn)
    rw [ofString_length]
    omega
  · unfold PyData.weight
    rw [Int.natAbs_natCast]
    split <;> omega
theorem SD.int {i : Int} (h0 : 0 ≤ i) (h1 : i < 1000000) : SD 20 0 (.int i) := by
  obtain ⟨n, rfl⟩ : ∃ n : Nat, i = (n : Int) := ⟨i.toNat, by omega⟩
  exact SD.nat (by omega)
theorem SD.str {x : Str} {m : Nat} (h : PyData.strOk x = true) (hl : x.length ≤ m) (hc : ∀ c ∈ x.cps.toList, c < 16 ^ 8) : SD m 0 (.str x) := by
  refine ⟨by simp [PyData.canLay0, h], by simp [PyData.showable], ?_, by simp [PyData.depth], ?_⟩
  · simpa only [PyData.leavesShort, List.all_eq_true, decide_eq_true_eq] using hc
  · simp only [PyData.weight]
    exact hl
theorem SD.all {m n : Nat} : ∀ {ds : List PyData}, (∀ d ∈ ds, SD m n d) → PyData.canLayAll0 ds = true ∧ PyData.showableAll ds = true ∧ PyData.leavesShortAll 13 ds = true ∧ PyData.depthAll ds ≤ n ∧ PyData.weightAll ds ≤ ds.length * (m + 1)
  | [], _ => by simp [PyData.canLayAll0, PyData.showableAll, PyData.leavesShortAll, PyData.depthAll, PyData.weightAll]
  | d :: ds, h => by
    have h1 := h d List.mem_cons_self
    obtain ⟨a1, a2, a3, a4, a5⟩ := SD.all (ds := ds) fun e he => h e (List.mem_cons_of_mem _ he)
    have := h1.dep
    have := h1.wt
    refine ⟨?_, ?_, ?_, ?_, ?_⟩
    · simp [PyData.canLayAll0, h1.lay, a1]
    · simp [PyData.showableAll, h1.shw, a2]
    · simp [PyData.leavesShortAll, h1.lvs, a3]
    · simp only [PyData.depthAll]; omega
    · simp only [PyData.weightAll, List.length_cons, Nat.add_mul]; omega
theorem SD.list {m n k : Nat} {ds : List PyData} (h : ∀ d ∈ ds, SD m n d) (hk : ds.length ≤ k) : SD (k * (m + 1)) (n + 1) (.list ds) := by
  obtain ⟨a1, a2, a3, a4, a5⟩ := SD.all h
  have : ds.length * (m + 1) ≤ k * (m + 1) := Nat.mul_le_mul_right _ hk
  refine ⟨by simp [PyData.canLay0, a1], by simp [PyData.showable, a2], by simp [PyData.leavesShort, a3], ?_, ?_⟩
  · simp only [PyData.depth]; omega
  · simp only [PyData.weight]; omega
theorem SD.tuple {m n k : Nat} {ds : List PyData} (h : ∀ d ∈ ds, SD m n d) (hk : ds.length ≤ k) : SD (k * (m + 1)) (n + 1) (.tuple ds) := by
  obtain ⟨a1, a2, a3, a4, a5⟩ := SD.all h
  have : ds.length * (m + 1) ≤ k * (m + 1) := Nat.mul_le_mul_right _ hk
  refine ⟨by simp [PyData.canLay0, a1], by simp [PyData.showable, a2], by simp [PyData.leavesShort, a3], ?_, ?_⟩
  · simp only [PyData.depth]; omega
  · simp only [PyData.weight]; omega
theorem SD.shaped {m n : Nat} {d : PyData} (h : SD m n d) (hn : n ≤ 64) : SeqAt.shaped d = true := by
  show (d.canLay0 && decide (d.depth ≤ 64)) = true
  rw [h.lay, Bool.true_and]
  exact decide_eq_true (Nat.le_trans h.dep hn)
theorem SD.fits {m n : Nat} {d : PyData} (h : SD m n d) (hm : m ≤ 2 ^ 20) : d.shown.length ≤ sizeLine := PyData.shown_fits (B := 13) (by decide) (by decide) h.lvs (Nat.le_trans h.wt hm)
theorem SD.nodict {m n : Nat} {d : PyData} (h : SD m n d) : d.hasDict = false := PyData.hasDict_of_canLay d h.lay
end GD
namespace GD
open PySem L2 CC
/-- a def that keeps a promise where nothing is being shown -/
structure CalG (P : Program) (w : World) (K : PySem.W.Frag) (mg : Str → Option Value) (base : Heap) (x : Str) (ps : List Str) (sp : Sp) (l : Nat) where
  f : Addr
  fd : FuncData
  ok : ∀ k, l ≤ k → FnG P w K mg base CX0 k f fd ps sp
  kp : PySem.W.keepIn K (.ref f) = true
  b : Binds K fd ps []
  g : mg x = some (.ref f)
def calG {P : Program} {w : World} {K : PySem.W.Frag} {mg : Str → Option Value} {base : Heap} {x : Str} {st : Stmt} {ps : List Str} {sp : Sp} {l : Nat} (d : Df K mg x st ps) (h : ∀ k, FnG P w K mg base CX0 (k + l) d.f d.fd ps sp) : CalG P w K mg base x ps sp l :=
  ⟨d.f, d.fd, fun k hk => (Nat.sub_add_cancel hk) ▸ h (k - l), d.F.kp, d.b, d.g⟩
/-- two values that are the same data -/
def spEqD (K : PySem.W.Frag) : Sp := fun vs H Q _ => ∃ (v u : V) (d : PyData), vs = [v, u] ∧ Dp K H v d ∧ Dp K H u d ∧ SD 1000000 64 d ∧ Q (.bl true) H
theorem hu66 {k : Nat} {A : Around} (hr : Room k A) : A.units + 66 < cLine := by
  have := hr.un
  omega
end GD
namespace CC
open PySem L2 TL
def spRTxt (K : PySem.W.Frag) (C : Addr) : Sp := fun vs H Q _ => ∃ (x : Addr) (w : Nat) (rs : List R), vs = [.ref x] ∧ RulesAt K C H x w rs ∧ (∀ r ∈ rs, r.ok 6) ∧ rs.length ≤ 60 ∧ ∀ H', Same H H' → Q (.str (textS rs)) H'
def tLn (K : PySem.W.Frag) : TE := fun σ H Q => tJs [tFmt (tCall (spLine K) [] E0 (tCons (tVar 1) tNil)), tC (.str "\n")] Str.empty σ H fun out H1 => Q (V.str out) H1
theorem lineE_all : ((allR 6).all fun r => decide ((Str.empty ++ lineS r).length ≤ 20) && decide ((Str.empty ++ lineS r ++ "\n").length ≤ 21) && decide ((lineS r).length ≤ 20) && ((Str.empty ++ lineS r ++ "\n") == (lineS r ++ "\n"))) = true := by decide +kernel
theorem textS_fits {rs : List R} (ok : ∀ r ∈ rs, r.ok 6) (few : rs.length ≤ 60) : ((rs.map fun r => lineS r ++ "\n").map (·.length)).sum ≤ 2000 := by
  have z : ∀ l : List Nat, (∀ x ∈ l, x ≤ 21) → l.sum ≤ 21 * l.length := by
    intro l
    induction l with
    | nil => intro _; simp
    | cons x l ih =>
      intro h
      have h1 := h x List.mem_cons_self
      have h2 := ih fun y hy => h y (List.mem_cons_of_mem _ hy)
      rw [List.sum_cons, List.length_cons]
      omega
  have := z ((rs.map fun r => lineS r ++ "\n").map (·.length)) fun x hx => by
    obtain ⟨y, hy, rfl⟩ := List.mem_map.mp hx
    obtain ⟨r, hr, rfl⟩ := List.mem_map.mp hy
    have hl := List.all_eq_true.mp lineE_all r (mem_allR.mpr (ok r hr))
    simp only [Bool.and_eq_true, decide_eq_true_eq] at hl
    rw [← eq_of_beq hl.2]
    exact hl.1.1.2
  rw [List.length_map, List.length_map] at this
  omega
section
variable {P : Program} {w : World} {K : PySem.W.Frag} {mg : Str → Option Value} {base : Heap} {kA : Addr}
abbrev nRx : List Str := ["self", "rule"]
theorem scRTxt : FnScope nRx ["self"] (defScope sRTxt) := ⟨rfl, rfl, rfl, by decide +kernel, rfl, by decide +kernel, by decide +kernel⟩
theorem ok_rtxt {f C : Addr} {fd : FuncData} {k : Nat} (F : Fun K "text" "Rules.text" sRTxt f fd) (TC : Txt1 K mg C) (cL : Cal P w K mg base "line_of" ["rule"] (spLine K) 1) : FnOk P w K mg base CX0 (k + 2) f fd ["self"] (spRTxt K C) := by
  have GL := cL.ok (k + 1) (by omega)
  refine F.ok scRTxt (fun vs H Q E h => ?_) (fun cdv A outer s H vs Q E hr h => ?_)
  · obtain ⟨x, m, rs, rfl, _⟩ := h
    rfl
  · obtain ⟨x, m, rs, rfl, ⟨dx, g, us, h1, h2, h3⟩, ok, few, q⟩ := h
    have n := scRTxt.nd
    have ul : us.length = rs.length := by rw [dps_len h3, List.length_map]
    refine ⟨_, (pss_one (ps_ret (pe_join pe_str (pe_lc (own := [("rule", 1)]) (g := gName 1) (tt := tYes) (te := tLn K) rfl n (pi_tup (pe_fld (pv 0) rfl)) (blkOk_by (N := nRx) (sc := defScope sRTxt) (by decide +kernel))
      (fun _ _ _ _ _ => (pg_name (i := 1) n rfl (.inl rfl))) (fun _ _ _ _ _ => pts_nil) (fun _ _ _ _ _ => (pe_joined (.cons (pe_fmt (pe_call GL hr rfl cL.g cL.kp cL.b .nil pass0 (pa_cons (pv 1) pa_nil))) (.cons pe_str .nil)))))))), ?_⟩
    refine ⟨⟨_, rfl⟩, _, rfl, x, C, dx, _, _, rfl, h1, TC.cl, TC.nG, flds_given _ _, g, rfl, ⟨_, .inl (.inl h2)⟩, fun D nD => ?_⟩
    refine lc_tup (xs := us) (fun i H1 => Same H (wo H1 D) ∧ H1 D = some (.lst (((rs.take i).map fun r => lineS r ++ "\n").map V.str))) ⟨?_, upd_same⟩ (fun i H1 _ z => .inl (.inl (wo_le D _ _ (z.1 _ _ h2)))) ?_ ?_
    · rw [wo_upd]
      exact fun b o e => by rw [wo_ne (ne_of_none e nD)]; exact e
    · rintro i v H1 hv ⟨e1, e2⟩
      obtain ⟨r, hr2, dr⟩ := dps_rat h3 hv
      have il : i < rs.length := (List.getElem?_eq_some_iff.mp hr2).1
      have rk := ok r (List.mem_of_getElem? hr2)
      have hl := List.all_eq_true.mp lineE_all r (mem_allR.mpr rk)
      simp only [Bool.and_eq_true, decide_eq_true_eq] at hl
      obtain ⟨⟨⟨l1, l2⟩, l3⟩, l4⟩ := hl
      have l4 := eq_of_beq l4
      have big : ∀ {n : Nat}, n ≤ 21 → n ≤ sizeLine := fun h => Nat.le_trans h (by decide)
      refine ⟨rfl, yes_if ⟨_, rfl, v, r, rfl, dp_same (e1.trans (wo_le D)) _ _ dr, rk, .inl ⟨_, rfl, big (by omega), _, rfl, big (by omega), _, rfl, big l2, ?_⟩⟩⟩
      refine ⟨_, e2, small1000 (by rw [List.length_map, List.length_map, List.length_take]; omega), ?_, ?_⟩
      · rw [wo_upd]
        exact e1
      · rw [upd_same, SG.take_one hr2, List.map_append, List.map_append]
        show some (HO.lst (_ ++ [V.str (Str.empty ++ lineS r ++ "\n")])) = some (HO.lst (_ ++ [V.str (lineS r ++ "\n")]))
        rw [l4]
    rintro H1 ⟨e1, e2⟩
    rw [ul, List.take_length] at e2
    refine ⟨_, D, rs.map (fun r => lineS r ++ "\n"), rfl, rfl, .inl (SqL.of e2), ?_, ?_⟩
    · have := textS_fits ok few
      have e0 : (Str.ofString "").length = 0 := by decide +kernel
      rw [e0, Nat.mul_zero]
      omega
    · exact q H1 (e1.trans (wo_le D))
end
end CC
namespace CC
open PySem L2
theorem sd_r {w : Nat} {r : R} (hw : w ≤ 6) (h : r.ok w) : GD.SD 63 1 r.d := by
  refine GD.SD.tuple (m := 20) (n := 0) (k := 3) (fun d hd => ?_) (by show 3 ≤ 3; decide)
  have h1 := h.1
  have h2 := h.2.1
  rcases List.mem_cons.mp hd with rfl | hd
  · cases r.k
    · exact GD.SD.str (by decide +kernel) (by decide +kernel) (by decide +kernel)
    · exact GD.SD.str (by decide +kernel) (by decide +kernel) (by decide +kernel)
  · rcases List.mem_cons.mp hd with rfl | hd
    · exact GD.SD.nat (by omega)
    · rcases List.mem_cons.mp hd with rfl | hd
      · exact GD.SD.nat (by omega)
      · cases hd
theorem RulesAt.ran {K : PySem.W.Frag} {C : Addr} {H H' : Hp} {x s : Addr} {w : Nat} {rs : List R} (h : RulesAt K C H x w rs) (hs : Src H s) (r : Ran H H' s) (T : SameT H H') : RulesAt K C H' x w rs := by
  obtain ⟨o, hs1, a, b, c, rfl, _⟩ := hs
  obtain ⟨dx, g, us, h1, h2, h3⟩ := h
  exact ⟨dx, g, us, r.at_ h1 (ne_of h1 hs1 (by intro z; cases z)), r.at_ h2 (ne_of h2 hs1 (by intro z; cases z)), rds_T T h3⟩
end CC
namespace CC
open PySem L2 TL
theorem text_small : ((allR 6).all fun r => (tl (lineS r)).all fun c => decide (c < 128)) = true := by decide +kernel
theorem sd_text {rs : List R} (ok : ∀ r ∈ rs, r.ok 6) (few : rs.length ≤ 60) : GD.SD 2000 0 (.str (textS rs)) := by
  have low : ∀ c ∈ tl (textS rs), c < 128 := fun c hc => by
    rw [tl_text] at hc
    obtain ⟨l, hl, hc⟩ := List.mem_flatten.mp hc
    obtain ⟨r, hr, rfl⟩ := List.mem_map.mp hl
    rcases List.mem_append.mp hc with z | z
    · have := List.all_eq_true.mp (List.all_eq_true.mp text_small r (mem_allR.mpr (ok r hr))) c z
      exact of_decide_eq_true this
    · rw [List.mem_singleton.mp z]
      decide
  refine GD.SD.str ?_ ?_ fun c hc => Nat.lt_trans (low c hc) (by decide)
  · unfold PyData.strOk
    rw [← Array.all_toList, List.all_eq_true]
    exact fun c hc => decide_eq_true (Nat.lt_trans (low c hc) (by decide))
  · have e : (textS rs).length = ((rs.map fun r => lineS r ++ "\n").map (·.length)).sum := by
      rw [len_tl, tl_text, List.length_flatten, List.map_map, List.map_map]
      congr 1
      refine List.map_congr_left fun r _ => ?_
      show (tl (lineS r) ++ [10]).length = (lineS r ++ "\n").length
      rw [len_tl, tl_app, List.length_append, List.length_append]
      rfl
    rw [e]
    exact textS_fits ok few
end CC
namespace CC
open PySem L2 TL
theorem sd_textT {w : Nat} {rows : List (List Nat)} (w6 : w ≤ 6) (ok : ∀ r ∈ rows, RowOk w r) (few : rows.length ≤ 400) : GD.SD 12400 0 (.str (textT rows)) := by
  have low : ∀ c ∈ tl (textT rows), c < 128 := fun c hc => by
    rw [textT_eq, tl_lines] at hc
    obtain ⟨l, hl, hc⟩ := List.mem_flatten.mp hc
    obtain ⟨y, hy, rfl⟩ := List.mem_map.mp hl
    obtain ⟨r, hr, rfl⟩ := List.mem_map.mp hy
    rcases List.mem_append.mp hc with z | z
    · unfold rowS at z
      rw [join_eq, tl_join] at z
      rcases joinL_in z with y | ⟨p, hp, y⟩
      · rw [show tl (" " : Str) = [32] by decide +kernel] at y
        rw [List.mem_singleton.mp y]
        decide
      · obtain ⟨q, hq, rfl⟩ := List.mem_map.mp hp
        obtain ⟨n, _, rfl⟩ := List.mem_map.mp hq
        rw [tl_n] at y
        have := numL_digits n c y
        omega
    · rw [List.mem_singleton.mp z]
      decide
  refine GD.SD.str ?_ ?_ fun c hc => Nat.lt_trans (low c hc) (by decide)
  · unfold PyData.strOk
    rw [← Array.all_toList, List.all_eq_true]
    exact fun c hc => decide_eq_true (Nat.lt_trans (low c hc) (by decide))
  · have := textT_len ok w6
    omega
end CC
namespace CC
open PySem L2 TL
/-! ### the data that the log laws compare is small -/
theorem tl_kindN (kd : Nat) : ∀ c ∈ tl (kindN kd), c < 128 := by
  unfold kindN
  split <;> decide +kernel
theorem sd_name {kd n : Nat} (h : n ≤ 9999) : GD.SD 200 0 (.str (nameD kd n)) := by
  have low : ∀ c ∈ tl (nameD kd n), c < 128 := fun c hc => by
    unfold nameD at hc
    rw [tl_app, tl_app, tl_app] at hc
    rcases List.mem_append.mp hc with z | z
    · rcases List.mem_append.mp z with z | z
      · rcases List.mem_append.mp z with z | z
        · exact tl_kindN kd c z
        · rw [show tl ("(" : Str) = [40] by decide +kernel] at z
          rw [List.mem_singleton.mp z]
          decide
      · have := numL_digits n c (by rw [tl_n] at z; exact z)
        omega
    · exact of_decide_eq_true (List.all_eq_true.mp (show (tl (" rows)" : Str)).all (fun c => decide (c < 128)) = true by decide +kernel) c z)
  refine GD.SD.str ?_ ?_ fun c hc => Nat.lt_trans (low c hc) (by decide)
  · unfold PyData.strOk
    rw [← Array.all_toList, List.all_eq_true]
    exact fun c hc => decide_eq_true (Nat.lt_trans (low c hc) (by decide))
  · unfold nameD
    rw [Str.length_append, Str.length_append, Str.length_append]
    have a := kindN_len kd
    have b := num_len h
    have c : ("(" : Str).length = 1 := by decide +kernel
    have d : (" rows)" : Str).length = 6 := by decide +kernel
    omega
theorem sd_seen {kd many cap ch : Nat} {rs : List R} {rows : List (List Nat)} (m6 : many ≤ 6) (rok : ∀ r ∈ rs, r.ok many) (r60 : rs.length ≤ 60) (ok : ∀ s ∈ rows, RowOk many s) (few : rows.length ≤ 400) (c4 : cap ≤ 400) (ch4 : ch ≤ 9999) : GD.SD 1000000 64 (.list (seenD kd many cap rs rows ch)) := by
  have rok6 : ∀ r ∈ rs, r.ok 6 := fun r hr => (rok r hr).up m6
  refine (GD.SD.list (m := 12400) (n := 2) (k := 8) (fun d hd => ?_) (by unfold seenD; split <;> (first | exact Nat.le_refl 8 | exact (by decide : 7 ≤ 8)))).up (by decide) (by decide)
  unfold seenD at hd
  rcases List.mem_append.mp hd with hd | hd
  · rcases List.mem_cons.mp hd with rfl | hd
    · exact (sd_textT m6 ok few).up (by decide) (by decide)
    rcases List.mem_cons.mp hd with rfl | hd
    · exact (GD.SD.nat (by omega)).up (by decide) (by decide)
    rcases List.mem_cons.mp hd with rfl | hd
    · exact (GD.SD.nat (by omega)).up (by decide) (by decide)
    rcases List.mem_cons.mp hd with rfl | hd
    · exact (GD.SD.nat (by omega)).up (by decide) (by decide)
    rcases List.mem_cons.mp hd with rfl | hd
    · exact (sd_name (by omega)).up (by decide) (by decide)
    rcases List.mem_cons.mp hd with rfl | hd
    · exact (sd_text rok6 r60).up (by decide) (by decide)
    rcases List.mem_cons.mp hd with rfl | hd
    · refine (GD.SD.tuple (m := 63) (n := 1) (k := 60) (fun d hd => ?_) ?_).up (by decide) (by decide)
      · obtain ⟨r, hr, rfl⟩ := List.mem_map.mp hd
        exact sd_r m6 (rok r (List.mem_filter.mp hr).1)
      · rw [List.length_map]
        exact Nat.le_trans (brkL_len rows rs) r60
    · cases hd
  · split at hd
    · rw [List.mem_singleton.mp hd]
      exact (GD.SD.nat (by omega)).up (by decide) (by decide)
    · cases hd
theorem sd_word (x : Str) (h : (tl x).all (fun c => decide (c < 128)) = true) (hl : x.length ≤ 100) : GD.SD 1000000 64 (.list [.str x]) := by
  have low : ∀ c ∈ tl x, c < 128 := fun c hc => of_decide_eq_true (List.all_eq_true.mp h c hc)
  refine (GD.SD.list (m := 100) (n := 0) (k := 1) (fun d hd => ?_) (by show 1 ≤ 1; decide)).up (by decide) (by decide)
  rw [List.mem_singleton.mp hd]
  refine GD.SD.str ?_ hl fun c hc => Nat.lt_trans (low c hc) (by decide)
  unfold PyData.strOk
  rw [← Array.all_toList, List.all_eq_true]
  exact fun c hc => decide_eq_true (Nat.lt_trans (low c hc) (by decide))
theorem sd_toldN : GD.SD 1000000 64 (.list [.str "told", .none]) := by
  refine (GD.SD.list (m := 100) (n := 0) (k := 2) (fun d hd => ?_) (by show 2 ≤ 2; decide)).up (by decide) (by decide)
  rcases List.mem_cons.mp hd with rfl | hd
  · exact GD.SD.str (by decide +kernel) (by decide +kernel) (by decide +kernel)
  · rw [List.mem_singleton.mp hd]
    exact GD.SD.non.up (by decide) (by decide)
/-! ### what a log says to rows, by check and by the law -/
theorem fit_ck {c5 c7 : Addr} {kd cap m : Nat} {rs : List R} {rows : List (List Nat)} (k4 : kd < 4) (c4 : cap ≤ 400) : match ckOf c5 c7 kd (lmOf kd cap) m rs rows with
    | none => fitW kd cap rs rows = "told"
    | some c => (c = c5 ∧ fitW kd cap rs rows = "TooMuch") ∨ (c = c7 ∧ fitW kd cap rs rows = "Broken") := by
  have k4' : kd = 0 ∨ kd = 1 ∨ kd = 2 ∨ kd = 3 := by omega
  rcases k4' with rfl | rfl | rfl | rfl
  · by_cases a : 400 < rows.length
    · simp [ckOf, ckA, fitW, a]
    · simp [ckOf, ckA, fitW, a]
  · by_cases a : 400 < rows.length
    · simp [ckOf, ckTh, ckA, ckBr, fitW, a]
    · by_cases b : (brkL rows rs).any (·.k) = true
      · simp [ckOf, ckTh, ckA, ckBr, fitW, a, b]
      · simp [ckOf, ckTh, ckA, ckBr, fitW, a, b]
  · by_cases a : 400 < rows.length
    · have b : cap < rows.length := by omega
      simp [ckOf, ckTh, ckA, ckMo, lmOf, fitW, a, b]
    · by_cases b : cap < rows.length
      · simp [ckOf, ckTh, ckA, ckMo, lmOf, fitW, a, b]
      · simp [ckOf, ckTh, ckA, ckMo, lmOf, fitW, a, b]
  · by_cases a : 400 < rows.length
    · have b : cap < rows.length := by omega
      simp [ckOf, ckTh, ckA, ckMo, ckBr, lmOf, fitW, a, b]
    · by_cases b : cap < rows.length
      · simp [ckOf, ckTh, ckA, ckMo, ckBr, lmOf, fitW, a, b]
      · by_cases d : (brkL rows rs).any (·.k) = true
        · simp [ckOf, ckTh, ckA, ckMo, ckBr, lmOf, fitW, a, b, d]
        · simp [ckOf, ckTh, ckA, ckMo, ckBr, lmOf, fitW, a, b, d]
end CC
namespace CC
open PySem L2 TL LamX PyProof.Rows
/-! ### what is told, by a word -/
def tlV (s : Str) : List V := if s = "told" then [.str "told", .non] else [.str s]
def tlD (s : Str) : PyData := if s = "told" then .list [.str "told", .none] else .list [.str s]
theorem tl_dp {K : PySem.W.Frag} {H : Hp} {p : Addr} {s : Str} (h : H p = some (.lst (tlV s))) : Dp K H (.ref p) (tlD s) := by
  unfold tlV at h
  unfold tlD
  split at h
  · rw [if_pos ‹_›]
    exact .lst (SqL.of h) (.cons (.str _) (.cons .non .nil))
  · rw [if_neg ‹_›]
    exact .lst (SqL.of h) (.cons (.str _) .nil)
theorem tlV_no {s : Str} (h : s ≠ "told") : tlV s = [.str s] := if_neg h
theorem tlV_told : tlV "told" = [.str "told", .non] := if_pos rfl
theorem tlV0 (s : Str) : ∃ v, atI (tlV s) 0 = some v ∧ v = .str s := by
  unfold tlV
  split
  · rename_i h
    exact ⟨_, rfl, by rw [h]⟩
  · exact ⟨_, rfl, rfl⟩
theorem sd_tl {x : Str} (h : (tl x).all (fun c => decide (c < 128)) = true) (h3 : x.length ≤ 100) : GD.SD 1000000 64 (tlD x) := by
  unfold tlD
  split
  · exact sd_toldN
  · exact sd_word x h h3
end CC
namespace CC
open PySem L2 TL LamX
/-! ### what add and drop must say, of any value -/
/-- a row, or a value that is none -/
def RowV (K : PySem.W.Frag) (H : Hp) (m : Nat) (v : V) : Option (List Nat) → Prop
  | none => OddR K H m v
  | some r => ∃ t, v = .ref t ∧ SqT K H t (nms r) ∧ RowOk m r
theorem RowV.ext {K : PySem.W.Frag} {H H' : Hp} {m : Nat} {v : V} {o : Option (List Nat)} (h : RowV K H m v o) (e : ExtN H H') : RowV K H' m v o := by
  cases o with
  | none => exact OddR.ext h e
  | some r =>
    obtain ⟨t, a, b, c⟩ := h
    exact ⟨t, a, sqt_extT e b, c⟩
theorem RowV.same {K : PySem.W.Frag} {H H' : Hp} {m : Nat} {v : V} {o : Option (List Nat)} (h : RowV K H m v o) (e : Same H H') : RowV K H' m v o := h.ext (ExtN.of e)
theorem RowV.ran {K : PySem.W.Frag} {H H' : Hp} {m : Nat} {v : V} {o : Option (List Nat)} {p : Addr} (h : RowV K H m v o) (s : Src H p) (e : Ran H H' p) : RowV K H' m v o := by
  cases o with
  | none => exact OddR.ran h s e
  | some r =>
    obtain ⟨t, a, b, c⟩ := h
    exact ⟨t, a, sqt_T (e.T s) b, c⟩
noncomputable def addW (kd cap : Nat) (rs : List R) (rows : List (List Nat)) : Option (List Nat) → Str × List (List Nat)
  | none => ("NoRow", rows)
  | some r => if fitW kd cap rs (rows ++ [r]) = "told" then ("told", rows ++ [r]) else (fitW kd cap rs (rows ++ [r]), rows)
def dropW (rows : List (List Nat)) : Option (List Nat) → Str × List (List Nat)
  | none => ("NoRow", rows)
  | some r => if r ∈ rows then ("told", RW.dropR rows r) else ("NotThere", rows)
def DueAt (K : PySem.W.Frag) (H0 H' : Hp) (p l : Addr) (z : Str × List (List Nat)) : Prop := ∃ (p1 p2 : Addr) (us : List V), H' p = some (.lst [.ref p1, .ref p2]) ∧ H' p1 = some (.lst (tlV z.1)) ∧ H' p2 = some (.lst us) ∧ DpAll K H' us (z.2.map gd) ∧ (p2 = l ∨ H0 p2 = none) ∧ H0 p = none ∧ H0 p1 = none
/-- a list of one word beside the rows as they are -/
theorem due_word {K : PySem.W.Frag} {H0 H : Hp} {l : Addr} {us : List V} {rows : List (List Nat)} {x : Str} (s : Same H0 H) (hl : H0 l = some (.lst us)) (dl : DpAll K H0 us (rows.map gd)) (hx : x ≠ "told") {p1 : Addr} (n1 : H p1 = none) {p : Addr} (n2 : upd H p1 (.lst [.str x]) p = none) :
    Same H0 (upd (upd H p1 (.lst [.str x])) p (.lst [.ref p1, .ref l])) ∧ DueAt K H0 (upd (upd H p1 (.lst [.str x])) p (.lst [.ref p1, .ref l])) p l (x, rows) := by
  have s1 := s.trans (same_new (o := .lst [.str x]) n1)
  have s2 := s1.trans (same_new (o := .lst [.ref p1, .ref l]) n2)
  refine ⟨s2, p1, l, us, upd_same, ?_, s2 _ _ hl, dps_same s2 _ _ dl, .inl rfl, s1.free n2, s.free n1⟩
  rw [tlV_no hx]
  exact (same_new (o := .lst [.ref p1, .ref l]) n2) _ _ upd_same
def spLirG (K : PySem.W.Frag) : Sp := fun vs H Q E => spLir K vs H Q E ∨ spLirO K vs H Q E
theorem ok_lirG {P : Program} {w : World} {K : PySem.W.Frag} {mg : Str → Option Value} {base : Heap} {kA f : Addr} {fd : FuncData} {k : Nat} (F : Fun K "_law_is_row" "_law_is_row" sLir f fd) (T : Glb K mg kA) : FnOk P w K mg base CX0 (k + 1) f fd ["_law_many", "_law_thing"] (spLirG K) := fn_or (ok_lir F T) (ok_lirO F T)
abbrev nAdu : List Str := ["_law_kind", "_law_many", "_law_given_here", "_law_cap", "_law_listed", "_law_row_here", "_law_word"]
def spAdu (K : PySem.W.Frag) : Sp := fun vs H Q _ => ∃ (kd m cap : Nat) (gv l : Addr) (v : V) (ur us : List V) (rs : List R) (rows : List (List Nat)) (o : Option (List Nat)), vs = [.int (kd : Int), .int (m : Int), .ref gv, .int (cap : Int), .ref l, v] ∧ m ≤ 6 ∧ SqT K H gv ur ∧ DpAll K H ur (rs.map R.d) ∧ (∀ r ∈ rs, r.ok m) ∧ rs.length ≤ 60 ∧ H l = some (.lst us) ∧ DpAll K H us (rows.map gd) ∧ (∀ x ∈ rows, RowOk m x) ∧ rows.length ≤ 50 ∧ RowV K H m v o ∧
  ∀ (p : Addr) (H' : Hp), Same H H' → DueAt K H H' p l (addW kd cap rs rows o) → Q (.ref p) H'
def spDduG (K : PySem.W.Frag) : Sp := fun vs H Q _ => ∃ (m : Nat) (l : Addr) (v : V) (us : List V) (rows : List (List Nat)) (o : Option (List Nat)), vs = [.int (m : Int), .ref l, v] ∧ m ≤ 6 ∧ H l = some (.lst us) ∧ DpAll K H us (rows.map gd) ∧ rows.length ≤ 400 ∧ RowV K H m v o ∧
  ∀ (p : Addr) (H' : Hp), Same H H' → DueAt K H H' p l (dropW rows o) → Q (.ref p) H'
section
variable {P : Program} {w : World} {K : PySem.W.Frag} {mg : Str → Option Value} {base : Heap} {kA : Addr}
theorem scAdu : FnScope nAdu ["_law_kind", "_law_many", "_law_given_here", "_law_cap", "_law_listed", "_law_row_here"] (defScope sAdu) := ⟨rfl, rfl, rfl, by decide +kernel, rfl, by decide +kernel, by decide +kernel⟩
theorem ok_adu {f : Addr} {fd : FuncData} {k : Nat} (F : Fun K "_law_add_due" "_law_add_due" sAdu f fd) (cI : Cal P w K mg base "_law_is_row" ["_law_many", "_law_thing"] (spLirG K) 1) (cF : Cal P w K mg base "_law_fit" ["_law_kind", "_law_given_here", "_law_cap", "_law_listed"] (spFit K) 2) : FnOk P w K mg base CX0 (k + 3) f fd ["_law_kind", "_law_many", "_law_given_here", "_law_cap", "_law_listed", "_law_row_here"] (spAdu K) := by
  have GI := cI.ok (k + 2) (by omega)
  have GF := cF.ok (k + 2) (by omega)
  refine F.ok scAdu (fun vs H Q E h => ?_) (fun cdv A outer s H vs Q E hr h => ?_)
  · obtain ⟨kd, m, cap, gv, l, v, ur, us, rs, rows, o, rfl, _⟩ := h
    rfl
  · obtain ⟨kd, m, cap, gv, l, v, ur, us, rs, rows, o, rfl, m6, hv, dv, rok, r60, hl, dl, ok, few, ho, q⟩ := h
    have n := scAdu.nd
    refine ⟨_, (pss_cons (ps_if (pt_not (pt_val (pe_call GI hr rfl cI.g cI.kp cI.b .nil pass0 (pa_cons (pv 1) (pa_cons (pv 5) pa_nil))))) (pss_one (ps_ret (pe_lst (pa_cons (pe_lst (pa_cons pe_str pa_nil)) (pa_cons (pv 4) pa_nil))))) pss_nil)
      (pss_cons (ps_set (i := 6) n rfl (.inl rfl) (pe_call GF hr rfl cF.g cF.kp cF.b .nil pass0 (pa_cons (pv 0) (pa_cons (pv 2) (pa_cons (pv 3) (pa_cons (pe_op op_cat (pv 4) (pe_lst (pa_cons (pv 5) pa_nil))) pa_nil))))))
      (pss_one (ps_ret (pe_ifExp (pt_cmpR op_eq (pv 6) pe_str (nomark _)) (pe_lst (pa_cons (pe_lst (pa_cons pe_str (pa_cons pe_non pa_nil))) (pa_cons (pe_op op_cat (pv 4) (pe_lst (pa_cons (pv 5) pa_nil))) pa_nil))) (pe_lst (pa_cons (pe_lst (pa_cons (pv 6) pa_nil)) (pa_cons (pv 4) pa_nil)))))))), ?_⟩
    have ul : us.length = rows.length := by rw [dps_len dl, List.length_map]
    refine ⟨_, rfl, _, rfl, ?_⟩
    cases o with
    | none =>
      refine .inr ⟨m, v, rfl, m6, ho, fun H1 s1 => ⟨_, rfl, iteT ⟨(by show 1 ≤ sizeLine; decide), fun p1 n1 => ⟨_, rfl, (by show 2 ≤ sizeLine; decide), fun p n2 => ?_⟩⟩⟩⟩
      obtain ⟨a, b⟩ := due_word (K := K) (x := "NoRow") s1 hl dl (by decide +kernel) n1 n2
      exact q p _ a b
    | some r =>
      obtain ⟨t, rfl, ht, hr2⟩ := ho
      refine .inl ⟨m, t, r, rfl, ht, hr2, m6, fun H1 s1 => ⟨_, rfl, iteF ?_⟩⟩
      have hl1 := s1 _ _ hl
      refine ⟨_, rfl, _, rfl, _, rfl, _, rfl, _, rfl, (by show 1 ≤ sizeLine; decide), fun b nb => ?_⟩
      have s2 : Same H1 (upd H1 b (.lst [.ref t])) := same_new nb
      have hb : (upd H1 b (.lst [.ref t])) b = some (.lst [.ref t]) := upd_same
      generalize upd H1 b (.lst [.ref t]) = H2 at s2 hb
      refine ⟨l, b, _, _, rfl, rfl, s2 _ _ hl1, hb, Nat.le_of_lt (small1000 (by show us.length + 1 ≤ 1000; omega)), fun c nc => ?_⟩
      have s3 : Same H2 (upd H2 c (.lst (us ++ [.ref t]))) := same_new nc
      have hc : (upd H2 c (.lst (us ++ [.ref t]))) c = some (.lst (us ++ [.ref t])) := upd_same
      generalize upd H2 c (.lst (us ++ [.ref t])) = H3 at s3 hc
      have s03 := s1.trans (s2.trans s3)
      have dj : ∀ H', Same H H' → DpAll K H' (us ++ [.ref t]) ((rows ++ [r]).map gd) := fun H' e => by
        rw [List.map_append]
        exact dps_app (dps_same e _ _ dl) (dps_one (dp_gd (same_t e ht)))
      have okj : ∀ y ∈ rows ++ [r], RowOk m y := fun y hy => by
        rcases List.mem_append.mp hy with z | z
        · exact ok y z
        · rw [List.mem_singleton.mp z]
          exact hr2
      refine ⟨kd, cap, m, gv, c, ur, _, rs, rows ++ [r], rfl, same_t s03 hv, dps_same s03 _ _ dv, rok, r60, SqL.of hc, dj _ s03, okj, (by rw [List.length_append]; show rows.length + 1 ≤ 60; omega), fun H4 s4 => ?_⟩
      have s04 := s03.trans s4
      refine ⟨_, rfl, rfl, _, rfl, ?_⟩
      rw [show addW kd cap rs rows (some r) = if fitW kd cap rs (rows ++ [r]) = "told" then (("told" : Str), rows ++ [r]) else (fitW kd cap rs (rows ++ [r]), rows) from rfl] at q
      by_cases e : fitW kd cap rs (rows ++ [r]) = "told"
      · rw [if_pos e] at q
        refine iteT' (decide_eq_true (by rw [e])) ⟨(by show 2 ≤ sizeLine; decide), fun p1 n1 => ?_⟩
        have s5 : Same H4 (upd H4 p1 (.lst [.str "told", .non])) := same_new n1
        have hp1 : (upd H4 p1 (.lst [.str "told", .non])) p1 = some (.lst [.str "told", .non]) := upd_same
        generalize upd H4 p1 (.lst [.str "told", .non]) = H5 at s5 hp1
        refine ⟨_, rfl, _, rfl, (by show 1 ≤ sizeLine; decide), fun b2 nb2 => ?_⟩
        have s6 : Same H5 (upd H5 b2 (.lst [.ref t])) := same_new nb2
        have hb2 : (upd H5 b2 (.lst [.ref t])) b2 = some (.lst [.ref t]) := upd_same
        generalize upd H5 b2 (.lst [.ref t]) = H6 at s6 hb2
        have s06 := s04.trans (s5.trans s6)
        refine ⟨l, b2, _, _, rfl, rfl, s06 _ _ hl, hb2, Nat.le_of_lt (small1000 (by show us.length + 1 ≤ 1000; omega)), fun c2 nc2 => ?_⟩
        have s7 : Same H6 (upd H6 c2 (.lst (us ++ [.ref t]))) := same_new nc2
        have hc2 : (upd H6 c2 (.lst (us ++ [.ref t]))) c2 = some (.lst (us ++ [.ref t])) := upd_same
        generalize upd H6 c2 (.lst (us ++ [.ref t])) = H7 at s7 hc2
        have s07 := s06.trans s7
        refine ⟨(by show 2 ≤ sizeLine; decide), fun p n2 => ?_⟩
        have s8 := s07.trans (same_new (o := .lst [.ref p1, .ref c2]) n2)
        refine q p _ s8 ⟨p1, c2, _, upd_same, ?_, (same_new n2) _ _ hc2, dj _ s8, .inr (s06.free nc2), s07.free n2, s04.free n1⟩
        rw [tlV_told]
        exact (same_new n2) _ _ (s7 _ _ (s6 _ _ hp1))
      · rw [if_neg e] at q
        refine iteF' (decide_eq_false (fun z => e (by injection z))) ⟨_, rfl, (by show 1 ≤ sizeLine; decide), fun p1 n1 => ⟨_, rfl, (by show 2 ≤ sizeLine; decide), fun p n2 => ?_⟩⟩
        obtain ⟨a, b⟩ := due_word (K := K) (x := fitW kd cap rs (rows ++ [r])) s04 hl dl e n1 n2
        exact q p _ a b
theorem ok_dduG {f : Addr} {fd : FuncData} {k : Nat} (F : Fun K "_law_drop_due" "_law_drop_due" sDdu f fd) (cI : Cal P w K mg base "_law_is_row" ["_law_many", "_law_thing"] (spLirG K) 1) : FnOk P w K mg base CX0 (k + 2) f fd ["_law_many", "_law_listed", "_law_row_here"] (spDduG K) := by
  have GI := cI.ok (k + 1) (by omega)
  refine F.ok scDdu (fun vs H Q E h => ?_) (fun cdv A outer s H vs Q E hr h => ?_)
  · obtain ⟨m, l, v, us, rows, o, rfl, _⟩ := h
    rfl
  · obtain ⟨m, l, v, us, rows, o, rfl, w6, hl0, dl, few, ho, q⟩ := h
    have hl := SqL.of (K := K) hl0
    have n := scDdu.nd
    have hu65 : (A.deeper (PyProof.Rows.envOfC (Str.ofString "_law_drop_due") (defScope sDdu) s.heap.objs.size f cdv)).units + 65 < cLine := by
      have := hr.un
      omega
    refine ⟨_, (pss_cons (ps_if (pt_not (pt_val (pe_call GI hr rfl cI.g cI.kp cI.b .nil pass0 (pa_cons (pv 0) (pa_cons (pv 2) pa_nil))))) (pss_one (ps_ret (pe_lst (pa_cons (pe_lst (pa_cons pe_str pa_nil)) (pa_cons (pv 1) pa_nil))))) pss_nil)
      (pss_cons (ps_if (pt_cmpR (op_notInD hu65) (pv 2) (pv 1) (by rfl)) (pss_one (ps_ret (pe_lst (pa_cons (pe_lst (pa_cons pe_str pa_nil)) (pa_cons (pv 1) pa_nil))))) pss_nil)
      (pss_cons (ps_set (i := 3) n rfl (.inl rfl) (pe_revL (pv 1)))
      (pss_cons (ps_set (i := 4) n rfl (.inl rfl) (pe_bm PySem.F.plainAttrs_list PySem.F.slot_list_index PySem.F.type_list_index (mt_indexD hu65) (pv 3) (pa_cons (pv 2) pa_nil)))
      (pss_one (ps_ret (pe_lst (pa_cons (pe_lst (pa_cons pe_str (pa_cons pe_non pa_nil))) (pa_cons (pe_revL (pe_op op_cat (pe_slice sl_list (pv 3) po_none (po_some (pv 4))) (pe_slice sl_list (pv 3) (po_some (pe_op op_add (pv 4) pe_int)) po_none))) pa_nil))))))))), ?_⟩
    have ul : us.length = rows.length := by rw [dps_len dl, List.length_map]
    refine ⟨_, rfl, _, rfl, ?_⟩
    cases o with
    | none =>
      refine .inr ⟨m, v, rfl, w6, ho, fun H1 s1 => ⟨_, rfl, iteT ⟨(by show 1 ≤ sizeLine; decide), fun p1 n1 => ⟨_, rfl, (by show 2 ≤ sizeLine; decide), fun p n2 => ?_⟩⟩⟩⟩
      obtain ⟨a, b⟩ := due_word (K := K) (x := "NoRow") s1 hl0 dl (by decide +kernel) n1 n2
      exact q p _ a b
    | some row =>
    obtain ⟨t, rfl, ht, rok⟩ := ho
    refine .inl ⟨m, t, row, rfl, ht, rok, w6, fun H1 s1 => ⟨_, rfl, iteF ?_⟩⟩
    have hl1 := same_l s1 hl
    have dl1 := dps_same s1 _ _ dl
    have ht1 := same_t s1 ht
    refine ⟨_, rfl, _, rfl, gd row, rows.map gd, dp_gd ht1, .lst hl1 dl1, RW.gd_shp _, RW.gdl_shp _, _, rfl, ?_⟩
    rw [RW.gds_any]
    rw [show dropW rows (some row) = if row ∈ rows then (("told" : Str), RW.dropR rows row) else (("NotThere" : Str), rows) from rfl] at q
    by_cases hm : row ∈ rows
    case neg =>
      rw [if_neg hm] at q
      rw [decide_eq_false hm]
      refine iteT ⟨(by show 1 ≤ sizeLine; decide), fun p1 n1 => ⟨_, rfl, (by show 2 ≤ sizeLine; decide), fun p n2 => ?_⟩⟩
      obtain ⟨a, b⟩ := due_word (K := K) (x := "NotThere") s1 hl0 dl (by decide +kernel) n1 n2
      exact q p _ a b
    rw [if_pos hm] at q
    rw [decide_eq_true hm]
    refine iteF ?_
    refine ⟨_, rfl, l, us, rfl, hl1, fun pb npb => ?_⟩
    have s2 : Same H1 (upd H1 pb (.lst us.reverse)) := same_new npb
    have hpb : (upd H1 pb (.lst us.reverse)) pb = some (.lst us.reverse) := upd_same
    generalize upd H1 pb (.lst us.reverse) = H2 at s2 hpb
    have dr : DpAll K H2 us.reverse (rows.reverse.map gd) := by
      rw [List.map_reverse]
      exact RW.dps_rev (dps_same s2 _ _ dl1)
    obtain ⟨j, j1, j2, j3⟩ := RW.first_at (B := rows.reverse) (List.mem_reverse.mpr hm)
    have jl := (List.getElem?_eq_some_iff.mp j1).1
    rw [List.length_reverse] at jl
    refine ⟨_, rfl, .inl ⟨rfl, _, SqL.of hpb⟩, _, rfl, pb, _, gd row, rows.reverse.map gd, j, gd row, rfl, rfl, .lst (SqL.of hpb) dr, dp_gd (same_t s2 ht1), RW.gdl_shp _, RW.gd_shp _, by rw [List.getElem?_map, j1]; rfl, by rw [RW.gd_eqv, decide_eq_true rfl], fun i z hi hz => ?_, ?_⟩
    · rw [List.getElem?_map] at hz
      cases y : rows.reverse[i]? with
      | none => rw [y] at hz; cases hz
      | some y' =>
        rw [y] at hz
        cases hz
        rw [RW.gd_eqv]
        exact decide_eq_false fun e => j2 i hi (by rw [y, e])
    refine ⟨(by show 2 ≤ sizeLine; decide), fun p1 np1 => ?_⟩
    have s3 : Same H2 (upd H2 p1 (.lst [.str "told", .non])) := same_new np1
    have hp1 : (upd H2 p1 (.lst [.str "told", .non])) p1 = some (.lst [.str "told", .non]) := upd_same
    generalize upd H2 p1 (.lst [.str "told", .non]) = H3 at s3 hp1
    have hpb3 := s3 _ _ hpb
    refine ⟨_, rfl, _, rfl, _, rfl, pb, _, rfl, SqL.of hpb3, fun p2 np2 => ?_⟩
    rw [show cutV us.reverse none (some (j : Int)) = us.reverse.take j from cut_to _ _]
    have s4 : Same H3 (upd H3 p2 (.lst (us.reverse.take j))) := same_new np2
    have hp2 : (upd H3 p2 (.lst (us.reverse.take j))) p2 = some (.lst (us.reverse.take j)) := upd_same
    generalize upd H3 p2 (.lst (us.reverse.take j)) = H4 at s4 hp2
    refine ⟨_, rfl, _, rfl, _, _, rfl, rfl, _, rfl, pb, _, rfl, SqL.of (s4 _ _ hpb3), fun p3 np3 => ?_⟩
    rw [show cutV us.reverse (some ((j : Int) + 1)) none = us.reverse.drop (j + 1) from by rw [show ((j : Int) + 1) = ((j + 1 : Nat) : Int) by omega]; exact cut_from _ _]
    have s5 : Same H4 (upd H4 p3 (.lst (us.reverse.drop (j + 1)))) := same_new np3
    have hp3 : (upd H4 p3 (.lst (us.reverse.drop (j + 1)))) p3 = some (.lst (us.reverse.drop (j + 1))) := upd_same
    generalize upd H4 p3 (.lst (us.reverse.drop (j + 1))) = H5 at s5 hp3
    refine ⟨p2, p3, _, _, rfl, rfl, s5 _ _ hp2, hp3, ?_, fun p4 np4 => ?_⟩
    · rw [List.length_take, List.length_drop, List.length_reverse]
      exact Nat.le_of_lt (small1000 (by omega))
    have s6 : Same H5 (upd H5 p4 (.lst (us.reverse.take j ++ us.reverse.drop (j + 1)))) := same_new np4
    have hp4 : (upd H5 p4 (.lst (us.reverse.take j ++ us.reverse.drop (j + 1)))) p4 = some (.lst (us.reverse.take j ++ us.reverse.drop (j + 1))) := upd_same
    generalize upd H5 p4 (.lst (us.reverse.take j ++ us.reverse.drop (j + 1))) = H6 at s6 hp4
    refine ⟨p4, _, rfl, SqL.of hp4, fun p5 np5 => ?_⟩
    have s7 : Same H6 (upd H6 p5 (.lst (us.reverse.take j ++ us.reverse.drop (j + 1)).reverse)) := same_new np5
    have hp5 : (upd H6 p5 (.lst (us.reverse.take j ++ us.reverse.drop (j + 1)).reverse)) p5 = some (.lst (us.reverse.take j ++ us.reverse.drop (j + 1)).reverse) := upd_same
    generalize upd H6 p5 (.lst (us.reverse.take j ++ us.reverse.drop (j + 1)).reverse) = H7 at s7 hp5
    have s27 : Same H2 H7 := s3.trans (s4.trans (s5.trans (s6.trans s7)))
    have s02 := s1.trans s2
    refine ⟨(by show 2 ≤ sizeLine; decide), fun p6 np6 => ?_⟩
    have s8 : Same H7 (upd H7 p6 (.lst [.ref p1, .ref p5])) := same_new np6
    have s28 : Same H2 (upd H7 p6 (.lst [.ref p1, .ref p5])) := s27.trans s8
    have dr8 := dps_same s28 _ _ dr
    have e : (RW.dropR rows row).map gd = ((rows.reverse.map gd).take j ++ (rows.reverse.map gd).drop (j + 1)).reverse := by
      unfold RW.dropR
      rw [← j3, List.eraseIdx_eq_take_drop_succ, List.map_reverse, List.map_append, List.map_take, List.map_drop]
    refine q p6 _ (s02.trans s28) ⟨p1, p5, _, upd_same, ?_, s8 _ _ hp5, ?_, .inr ((s02.trans (s3.trans (s4.trans (s5.trans s6)))).free np5), (s02.trans s27).free np6, s02.free np1⟩
    · rw [tlV_told]
      exact (s4.trans (s5.trans (s6.trans (s7.trans s8)))) _ _ hp1
    · show DpAll K _ _ ((RW.dropR rows row).map gd)
      rw [e]
      exact RW.dps_rev (dps_app (dps_take _ dr8) (dps_drop _ dr8))
end
end CC
namespace CC
open PySem L2 TL
/-! ### assign_table -/
/-- log.assign_table(v): NotTable where NT, UnlikeWidths, what check raises -/
def spAsgM (K : PySem.W.Frag) (C CR CT : Addr) (lb : Bool) (ck : CkM) (NT : Hp → V → Prop) (c2 c4 : Addr) : Sp := fun vs H Q E => ∃ (lm : Option Nat) (x r q : Addr) (w : Nat) (rs : List R) (rows : List (List Nat)) (ps : List (List (List Nat))) (v : V), lm.isSome = lb ∧ vs = [.ref x, v] ∧ LgAt K C CR CT lm H x r q w rs rows ps ∧ LgOk w rs rows ∧ ps.length < 1000 ∧
  ((∃ (t : Addr) (w2 : Nat) (rows2 : List (List Nat)), v = .ref t ∧ TableAt K CT H t w2 rows2 ∧ (w2 ≠ w → ∀ H', Same H H' → E (.ref c4) none H') ∧
     (w2 = w → (∀ s ∈ rows2, RowOk w s) ∧ Fw rows2 ∧ rows2.length ≤ 401 ∧ (∀ c, ck lm w rs rows2 = some c → ∀ H', Same H H' → E (.ref c) none H') ∧ (ck lm w rs rows2 = none → LgTo K C CR CT lm H x r q w rs rows2 (ps ++ [rows]) Q))) ∨
   (NT H v ∧ E (.ref c2) none H))
section
variable {P : Program} {w : World} {K : PySem.W.Frag} {mg : Str → Option Value} {base : Heap} {kA : Addr}
theorem pass_asg {C CR CT c2 c4 : Addr} {lb : Bool} {ck : CkM} {NT : Hp → V → Prop} {vs : List V} {H : Hp} {Q : VK} {E : XK} (h : spAsgM K C CR CT lb ck NT c2 c4 vs H Q E) : ∃ (x dx : Addr) (fs : List (Str × V)) (v : V), vs = [.ref x, v] ∧ H x = some (.ins C dx fs) ∧ fs.lookup ("assign_table" : Str) = none ∧ spAsgM K C CR CT lb ck NT c2 c4 [.ref x, v] H (fun _ => Q .non) E := by
  obtain ⟨lm, x, r, q, m, rs, rows, ps, v, hlb, rfl, L, ok, p1, hv⟩ := h
  obtain ⟨dx, t, hx, tt⟩ := id L.at_
  refine ⟨x, dx, _, v, rfl, hx, fldM_no _ _ _ _ (by decide +kernel) (by decide +kernel) (by decide +kernel) (by decide +kernel), lm, x, r, q, m, rs, rows, ps, v, hlb, rfl, L, ok, p1, ?_⟩
  rcases hv with ⟨t, w2, rows2, e, tt, h1, h2⟩ | z
  · refine .inl ⟨t, w2, rows2, e, tt, h1, fun e2 => ?_⟩
    obtain ⟨a, b, c, d, to⟩ := h2 e2
    exact ⟨a, b, c, d, fun z H' k1 L' => to z H' k1 L'⟩
  · exact .inr z
theorem sclAsg : FnScope ["self", "table"] ["self", "table"] (defScope slAsg) := ⟨rfl, rfl, rfl, by decide +kernel, rfl, by decide +kernel, by decide +kernel⟩
theorem ok_lasg {f C CR CT c2 c4 : Addr} {fd : FuncData} {k l : Nat} {lb : Bool} {ck : CkM} {NT : Hp → V → Prop} (F : Fun K "assign_table" "Log.assign_table" slAsg f fd) (T : Glb K mg kA) (TL : TxtM K C) (TR : Txt1 K mg CR) (TT : TxtT K mg CT) (e2 : ExcK K mg "NotTable" c2) (e4 : ExcK K mg "UnlikeWidths" c4) (hci : IsG K CT NT) (pW : Prp P w K mg base CR "width" "span") (pTW : Prp P w K mg base CT "width" "span") (pTR : Prp P w K mg base CT "rows" "lines")
    (cc : MthX P w K mg base C "check" ["self", "rows"] (spCkM K C CR CT lb ck) l) (cg : MthG P w K mg base C "change" ["self", "table"] (spChgM K C) 1) : FnOk P w K mg base (L2.CX P w) (k + l + 3) f fd ["self", "table"] (spAsgM K C CR CT lb ck NT c2 c4) := by
  have GC := cc.ok (k + l + 2) (by omega)
  have GG := cg.ok (k + l + 2) (by omega)
  refine F.okX sclAsg (fun vs H Q E h => ?_) (fun cdv A outer s H vs Q E hr h => ?_)
  · obtain ⟨lm, x, r, q, m, rs, rows, ps, v, _, rfl, _⟩ := h
    rfl
  · obtain ⟨lm, x, r, pq, m, rs, rows, ps, v, hlb, rfl, L, ok, p1, hv⟩ := h
    have nd := sclAsg.nd
    refine ⟨_, (pss_cons (ps_if (pt_not (pt_val (pe_callB (hci rfl) (by rfl) T.isi (by decide +kernel) (pa_cons (pv 1) (pa_cons (pe_glob (v := .ref CT) rfl TT.mgC rfl) pa_nil))))) (pss_one (ps_raise rfl (takes_of rfl rfl rfl rfl) (pmk_own PySem.F.excBase_ValueError e2.x e2.g e2.k (raises_own e2.b e2.t) rfl))) pss_nil)
      (pss_cons (ps_if (pt_cmpR op_ne (pe_prop (pv 1) TT.cl pTW.hp (pTW.ok (k + l + 1) (by omega)) hr pTW.b .nil pass0 rfl) (pe_prop (pe_fld (pv 0) rfl) TR.cl pW.hp (pW.ok (k + l + 1) (by omega)) hr pW.b .nil pass0 rfl) (nomark _)) (pss_one (ps_raise rfl (takes_of rfl rfl rfl rfl) (pmk_own PySem.F.excBase_ValueError e4.x e4.g e4.k (raises_own e4.b e4.t) rfl))) pss_nil)
      (pss_cons (ps_expr (pe_meth (pv 0) TL.cl cc.m GC hr cc.b .nil (passes_call (takes_of rfl rfl rfl rfl) (fun _ _ _ _ h => h)) (pa_cons (pe_prop (pv 1) TT.cl pTR.hp (pTR.ok (k + l + 1) (by omega)) hr pTR.b .nil pass0 rfl) pa_nil)))
      (pss_one (ps_expr (pe_meth (pv 0) TL.cl cg.m GG hr cg.b .nil pass0 (pa_cons (pv 1) pa_nil))))))), ?_⟩
    rcases hv.symm with ⟨ni, eE⟩ | ⟨t', w2, rows2, rfl, tt, eU, go⟩
    · exact ⟨_, rfl, .inr ⟨v, rfl, ni, _, rfl, iteT eE⟩⟩
    obtain ⟨dx, t, hx, _⟩ := L.at_
    obtain ⟨hs, hq, hl⟩ := L.past
    have hln := hl.len
    obtain ⟨dr, gr, ur, r1, r2, r3⟩ := L.book.same (wos_le _)
    obtain ⟨dt, g, us, t1, t2, t3⟩ := id tt
    refine ⟨_, rfl, .inl ⟨t', dt, _, rfl, t1, _, rfl, iteF ?_⟩⟩
    refine ⟨_, rfl, t', dt, _, rfl, t1, t', dt, _, _, rfl, t1, fldT_span _ _, _, rfl, x, C, dx, _, _, rfl, hx, TL.cl, TL.nB, fldM_b _ _ _ _, r, dr, _, rfl, r1, r, dr, _, _, rfl, r1, flds_span _ _, rfl, _, rfl, ?_⟩
    by_cases ew : w2 = m
    case neg => exact iteT' (by rw [decide_eq_false (fun z => ew (by injection z with z; omega))]; rfl) (eU ew _ (Same.refl _))
    subst ew
    obtain ⟨ok2, fw, few, eE, to⟩ := go rfl
    refine iteF' (by rw [decide_eq_true rfl]; rfl) ?_
    refine ⟨_, rfl, x, dx, _, rfl, hx, fldM_no _ _ _ _ (by decide +kernel) (by decide +kernel) (by decide +kernel) (by decide +kernel), _, rfl, t', dt, _, rfl, t1, t', dt, _, _, rfl, t1, fldT_lines _ _, ?_⟩
    refine ⟨lm, x, r, pq, g, w2, rs, rows, rows2, ps, us, hlb, rfl, L, .inr (.inl (.inl t2)), t3, ok2, fw, few, ok.rok, ok.r60, eE, fun e H1 s1 => ?_⟩
    refine ⟨_, rfl, x, dx, _, rfl, s1 _ _ hx, fldM_no _ _ _ _ (by decide +kernel) (by decide +kernel) (by decide +kernel) (by decide +kernel), _, rfl, ?_⟩
    exact ⟨lm, x, dx, r, t, pq, t', hs, rfl, s1 _ _ hx, s1 _ _ hq, by omega, changedM L s1 hx hq (tt.same s1) (to e)⟩
end
end CC
namespace CC
open PySem L2 TL LamX PyProof.Rows
/-- the exceptions that _law_said knows, in their order -/
abbrev nm9 : Nat → Str
  | 0 => "NoRow"
  | 1 => "NoNumber"
  | 2 => "NotTable"
  | 3 => "NotRules"
  | 4 => "UnlikeWidths"
  | 5 => "TooMuch"
  | 6 => "NotThere"
  | 7 => "Broken"
  | _ => "NothingDone"
structure Ex9 (K : PySem.W.Frag) (mg : Str → Option Value) (C : Nat → Addr) : Prop where
  g : ∀ i, i < 9 → mg (nm9 i) = some (.ref (C i))
  no : ∀ i, i < 9 → ∀ j, j < i → PySem.W.exmOne K (.ref (C i)) (.ref (C j)) = some false
  yes : ∀ i, i < 9 → PySem.W.exmOne K (.ref (C i)) (.ref (C i)) = some true
def e9 (C : Nat → Addr) (Q : VK) : XK := fun cls _ H' => ∃ i, i < 9 ∧ cls = .ref (C i) ∧ ∀ p, H' p = none → Q (.ref p) (upd H' p (.lst [.str (nm9 i)]))
def q9 (Q : VK) : VK := fun z H1 => ∀ p, H1 p = none → Q (.ref p) (upd H1 p (.lst [.str "told", z]))
/-- what is told of a lambda -/
def TS9 (C : Nat → Addr) : (XK → Hp → VK → Prop) → Hp → VK → Prop := fun tl H Q => ∀ Q' : VK, (∀ z H1, q9 Q z H1 → Q' z H1) → tl (e9 C Q) H Q'
abbrev nSa : List Str := ["_law_call_here"]
theorem scSaid : FnScope nSa ["_law_call_here"] (defScope sSaid) := ⟨rfl, rfl, rfl, by decide +kernel, rfl, by decide +kernel, by decide +kernel⟩
theorem said_gives {X : Cx} {q : Str} {g : Addr} {C : Nat → Addr} {cdg : Value} (x9 : Ex9 X.K X.mg C) : GivesTo X nSa "_law_said" (defScope sSaid) g cdg (defBody sSaid) "_law_call_here" q (TS9 C) := by
  intro f c' s H Q tl act hc h
  have n := scSaid.nd
  have RS : ∀ (i : Nat) {X : Cx} {k : Nat} {p1 p2 p3 : Pos}, PSs X [.Return (some (.List [.Constant (.str (nm9 i)) k p1] p2)) p3] _ := fun i {X k p1 p2 p3} => pss_one (ps_ret (pe_lst (pa_cons pe_str pa_nil)))
  refine ⟨_, pss_one (ps_try_many (X := (cxOf C8.CX0 X.prog X.w X.K X.mg X.base nSa "_law_said" (defScope sSaid) g cdg X.A X.stack s H C8.E0).nox)
      (tb := fun W D σ H => ∃ Ech : XK, (∀ cls d σ' H', Ech cls d H' → W cls d σ' H') ∧ σ[0]? = some (some (.ref f)) ∧ H c' = some (CodeO c' q) ∧ tl Ech H (fun z H1 => 2 ≤ sizeLine ∧ ∀ p, H1 p = none → D.rt (.ref p) (upd H1 p (.lst [.str "told", z]))))
      rfl rfl LamX.takes0 (fun W pn xe tk _ => ?_) (HdsOk.cons ⟨rfl, by decide, .inl (x9.g 0 (by decide))⟩ (fun a oe cls d pn _ _ => RS 0) (HdsOk.cons ⟨rfl, by decide, .inl (x9.g 1 (by decide))⟩ (fun a oe cls d pn _ _ => RS 1) (HdsOk.cons ⟨rfl, by decide, .inl (x9.g 2 (by decide))⟩ (fun a oe cls d pn _ _ => RS 2)
        (HdsOk.cons ⟨rfl, by decide, .inl (x9.g 3 (by decide))⟩ (fun a oe cls d pn _ _ => RS 3) (HdsOk.cons ⟨rfl, by decide, .inl (x9.g 4 (by decide))⟩ (fun a oe cls d pn _ _ => RS 4) (HdsOk.cons ⟨rfl, by decide, .inl (x9.g 5 (by decide))⟩ (fun a oe cls d pn _ _ => RS 5)
        (HdsOk.cons ⟨rfl, by decide, .inl (x9.g 6 (by decide))⟩ (fun a oe cls d pn _ _ => RS 6) (HdsOk.cons ⟨rfl, by decide, .inl (x9.g 7 (by decide))⟩ (fun a oe cls d pn _ _ => RS 7) (HdsOk.cons ⟨rfl, by decide, .inl (x9.g 8 (by decide))⟩ (fun a oe cls d pn _ _ => RS 8) .nil)))))))))), ?_⟩
  · refine ⟨fun pins s' σ H' D I h' => ?_⟩
    obtain ⟨Ech, hW, h1, h2, h3⟩ := h'
    exact (pss_one (ps_ret (pe_lst (pa_cons pe_str (pa_cons (act W pn xe Ech _ _ tk hW) pa_nil))))).run pins s' σ H' D I ⟨h1, h2, h3⟩
  · refine ⟨e9 C Q, fun cls d σ' H' he => ?_, rfl, hc, ?_⟩
    · obtain ⟨i, i9, rfl, he⟩ := he
      have N : ∀ j, j < i → PySem.W.exmOne X.K (.ref (C i)) (.ref (C j)) = some false := x9.no i i9
      have Y := x9.yes i i9
      have i9' : i = 0 ∨ i = 1 ∨ i = 2 ∨ i = 3 ∨ i = 4 ∨ i = 5 ∨ i = 6 ∨ i = 7 ∨ i = 8 := by omega
      rcases i9' with rfl | rfl | rfl | rfl | rfl | rfl | rfl | rfl | rfl
      · exact ⟨true, Y, fun _ a ha => ⟨(by show 1 ≤ sizeLine; decide), he⟩, fun z => nomatch z⟩
      · exact ⟨false, N 0 (by decide), (fun z => nomatch z), fun _ => ⟨true, Y, fun _ a ha => ⟨(by show 1 ≤ sizeLine; decide), he⟩, fun z => nomatch z⟩⟩
      · exact ⟨false, N 0 (by decide), (fun z => nomatch z), fun _ => ⟨false, N 1 (by decide), (fun z => nomatch z), fun _ => ⟨true, Y, fun _ a ha => ⟨(by show 1 ≤ sizeLine; decide), he⟩, fun z => nomatch z⟩⟩⟩
      · exact ⟨false, N 0 (by decide), (fun z => nomatch z), fun _ => ⟨false, N 1 (by decide), (fun z => nomatch z), fun _ => ⟨false, N 2 (by decide), (fun z => nomatch z), fun _ => ⟨true, Y, fun _ a ha => ⟨(by show 1 ≤ sizeLine; decide), he⟩, fun z => nomatch z⟩⟩⟩⟩
      · exact ⟨false, N 0 (by decide), (fun z => nomatch z), fun _ => ⟨false, N 1 (by decide), (fun z => nomatch z), fun _ => ⟨false, N 2 (by decide), (fun z => nomatch z), fun _ => ⟨false, N 3 (by decide), (fun z => nomatch z), fun _ => ⟨true, Y, fun _ a ha => ⟨(by show 1 ≤ sizeLine; decide), he⟩, fun z => nomatch z⟩⟩⟩⟩⟩
      · exact ⟨false, N 0 (by decide), (fun z => nomatch z), fun _ => ⟨false, N 1 (by decide), (fun z => nomatch z), fun _ => ⟨false, N 2 (by decide), (fun z => nomatch z), fun _ => ⟨false, N 3 (by decide), (fun z => nomatch z), fun _ => ⟨false, N 4 (by decide), (fun z => nomatch z), fun _ => ⟨true, Y, fun _ a ha => ⟨(by show 1 ≤ sizeLine; decide), he⟩, fun z => nomatch z⟩⟩⟩⟩⟩⟩
      · exact ⟨false, N 0 (by decide), (fun z => nomatch z), fun _ => ⟨false, N 1 (by decide), (fun z => nomatch z), fun _ => ⟨false, N 2 (by decide), (fun z => nomatch z), fun _ => ⟨false, N 3 (by decide), (fun z => nomatch z), fun _ => ⟨false, N 4 (by decide), (fun z => nomatch z), fun _ => ⟨false, N 5 (by decide), (fun z => nomatch z), fun _ => ⟨true, Y, fun _ a ha => ⟨(by show 1 ≤ sizeLine; decide), he⟩, fun z => nomatch z⟩⟩⟩⟩⟩⟩⟩
      · exact ⟨false, N 0 (by decide), (fun z => nomatch z), fun _ => ⟨false, N 1 (by decide), (fun z => nomatch z), fun _ => ⟨false, N 2 (by decide), (fun z => nomatch z), fun _ => ⟨false, N 3 (by decide), (fun z => nomatch z), fun _ => ⟨false, N 4 (by decide), (fun z => nomatch z), fun _ => ⟨false, N 5 (by decide), (fun z => nomatch z), fun _ => ⟨false, N 6 (by decide), (fun z => nomatch z), fun _ => ⟨true, Y, fun _ a ha => ⟨(by show 1 ≤ sizeLine; decide), he⟩, fun z => nomatch z⟩⟩⟩⟩⟩⟩⟩⟩
      · exact ⟨false, N 0 (by decide), (fun z => nomatch z), fun _ => ⟨false, N 1 (by decide), (fun z => nomatch z), fun _ => ⟨false, N 2 (by decide), (fun z => nomatch z), fun _ => ⟨false, N 3 (by decide), (fun z => nomatch z), fun _ => ⟨false, N 4 (by decide), (fun z => nomatch z), fun _ => ⟨false, N 5 (by decide), (fun z => nomatch z), fun _ => ⟨false, N 6 (by decide), (fun z => nomatch z), fun _ => ⟨false, N 7 (by decide), (fun z => nomatch z), fun _ => ⟨true, Y, fun _ a ha => ⟨(by show 1 ≤ sizeLine; decide), he⟩, fun z => nomatch z⟩⟩⟩⟩⟩⟩⟩⟩⟩
    · exact h _ fun z H1 hz => ⟨(by decide), hz⟩
end CC
namespace CC
open PySem L2 TL LamX PyProof.Rows
/-! ### what is told of assign_table -/
noncomputable def asgW (kd many cap v : Nat) (rs : List R) (rows : List (List Nat)) : Str := if v = many then fitW kd cap rs rows else "UnlikeWidths"
theorem fitW_in {kd cap : Nat} {rs : List R} {rows : List (List Nat)} : fitW kd cap rs rows = "TooMuch" ∨ fitW kd cap rs rows = "Broken" ∨ fitW kd cap rs rows = "told" := by
  unfold fitW
  generalize (if 2 ≤ kd then cap else 400) = lim
  split
  · exact .inl rfl
  · split
    · exact .inr (.inl rfl)
    · exact .inr (.inr rfl)
theorem sd_asg {kd many cap v : Nat} {rs : List R} {rows : List (List Nat)} : GD.SD 1000000 64 (tlD (asgW kd many cap v rs rows)) := by
  have a : GD.SD 1000000 64 (tlD "told") := by
    unfold tlD
    rw [if_pos rfl]
    exact sd_toldN
  have b : ∀ x : Str, x ≠ "told" → (tl x).all (fun c => decide (c < 128)) = true → x.length ≤ 100 → GD.SD 1000000 64 (tlD x) := fun x h h2 h3 => by
    unfold tlD
    rw [if_neg h]
    exact sd_word x h2 h3
  unfold asgW
  split
  · rcases fitW_in (kd := kd) (cap := cap) (rs := rs) (rows := rows) with e | e | e
    · rw [e]
      exact b _ (by decide +kernel) (by decide +kernel) (by decide +kernel)
    · rw [e]
      exact b _ (by decide +kernel) (by decide +kernel) (by decide +kernel)
    · rw [e]
      exact a
  · exact b _ (by decide +kernel) (by decide +kernel) (by decide +kernel)
section
variable {P : Program} {w : World} {K : PySem.W.Frag} {mg : Str → Option Value} {base : Heap} {CR CT c2 c4 c5 c7 : Addr} {l cap : Nat} {H : Hp} {x r q t : Addr} {m v : Nat} {rs : List R} {rows ls : List (List Nat)} {ps : List (List (List Nat))} {σ : L2.St} {i j kd : Nat} {C9 : Nat → Addr} {Q : VK}
end
end CC
namespace CC
open PySem L2 TL
/-! ### add and the call, of the classes below Log -/
section
variable {P : Program} {w : World} {K : PySem.W.Frag} {mg : Str → Option Value} {base : Heap} {kA : Addr}
theorem sclCll : FnScope ["self", "row"] ["self", "row"] (defScope slCll) := ⟨rfl, rfl, rfl, by decide +kernel, rfl, by decide +kernel, by decide +kernel⟩
theorem ok_lcll {f C CR CT c1 : Addr} {lb : Bool} {ck : CkM} {NR : NoR} {fd : FuncData} {k l : Nat} (F : Fun K "__call__" "Log.__call__" slCll f fd) (TL : TxtM K C) (la : MthX P w K mg base C "add" ["self", "row"] (spAddM K C CR CT lb ck NR c1) l) : FnOk P w K mg base (L2.CX P w) (k + l + 1) f fd ["self", "row"] (spAddM K C CR CT lb ck NR c1) := by
  have GA := la.ok (k + l) (by omega)
  refine F.okX sclCll (fun vs H Q E h => ?_) (fun cdv A outer s H vs Q E hr h => ?_)
  · obtain ⟨x, dx, fs, v, rfl, _⟩ := pass_add (D := C) (f := f) (f2 := f) (cda := f) (cc := f) h
    rfl
  · obtain ⟨x, dx, fs, v, rfl, hx, no, h'⟩ := pass_add (D := C) (f := f) (f2 := f) (cda := f) (cc := f) h
    refine ⟨_, (pss_one (ps_expr (pe_meth (pv 0) TL.cl la.m GA hr la.b .nil (passes_call (takes_of rfl rfl rfl rfl) (fun _ _ _ _ h => h)) (pa_cons (pv 1) pa_nil)))), ?_⟩
    exact ⟨_, rfl, x, dx, _, rfl, hx, no, _, rfl, h'⟩
end
end CC
namespace CC
open PySem L2
def tCallO2 (C : Addr) (sp : Sp) (E : XK) (tf : TE) (t : TA) : TE := fun σ H Q => tf σ H fun y H1 => ∃ a, y = V.ref a ∧ t σ H1 fun vs H2 => ((∃ dx vs, SlX.Slt H2 a C dx vs) ∨ ∃ dx fs, H2 a = some (.ins C dx fs)) ∧ sp (V.ref a :: vs) H2 Q E
theorem pe_callO2 {X : Cx} {CX : CXT} {k : Nat} {C g : Addr} {sp : Sp} {E : XK} {e fe : Expr} {es : List Expr} {tf : TE} {t : TA} {pos : Pos} (hf : PE X fe tf) (c : StX.CallO X.K C g) (F : FnR X.prog X.w X.K X.mg X.base CX k g sp) (hr : Room k X.A) (hx : Passes CX X E) (ha : PA X (e :: es) t)
    (ht : eval (.Call fe (e :: es) [] pos) X.env = (do callWith pos (← eval fe X.env) [] (backTo pos (starEach (e :: es) X.env)) (backToKw pos (keywordEach [] X.env))) := by rfl)
    (he : starEach (e :: es) X.env = (false, eval e X.env) :: starEach es X.env := by rfl) (hpl : (backTo pos (starEach es X.env)).any (·.1) = false := by rfl) : PE X (.Call fe (e :: es) [] pos) (tCallO2 C sp E tf t) :=
  StX.pe_callO hf c F hr hx ha ht he hpl
end CC
/-! enumerate(t) of a tuple -/
namespace ET
open PySem PySem.Spec PyProof.Rows L2
open AutoSeq1 (wpAny_loadPart')
abbrev oIt (t : Addr) : Obj := { cls := .type "tuple_iterator", data := .fields #[.ref t, .int 0 0] }
abbrev oEn (it : Addr) : Obj := { cls := .type "enumerate", data := .fields #[.none, .bool false, .ref it, rawInt 0, .none, .none] }
theorem new_tup (t : Addr) (xs : Array Value) (n : Nat) (dd : Option Addr) (so : Array (Option Value)) : Meets (Builtin.«enumerate.__new__» ⟨[.type "enumerate", .ref t], []⟩) (fun _ R s => s.heap.get? t = some { cls := .type "tuple", dict := dd, data := .seq xs n, slots := so } ∧
    R (.ok (.ret (.ref (s.heap.push (oIt t)).objs.size))) { s with heap := (s.heap.push (oIt t)).push (oEn s.heap.objs.size) }) :=
  .of_wp fun prog w A R s z => by
    obtain ⟨hp, g, d, tk, os⟩ := s
    obtain ⟨ht, q⟩ := z
    have sub := sub_enumerate
    have tT : Heap.IsTuple (Shared.heap ⟨hp, g, d, tk, os⟩) t xs := ⟨_, ht, rfl, n, rfl⟩
    wp_walk using wpAny_loadPart' ht
    refine wpAny_stack_any fun st => wpAny_pure ?_
    split
    · rename_i c _ _ _ _ _
      cases (c == Value.type "enumerate")
      · wp_walk using wpAny_loadPart' ht, wpAny_pyIter_tuple tT
        exact ⟨_, rfl, q⟩
      · wp_walk using wpAny_loadPart' ht, wpAny_pyIter_tuple tT
        exact ⟨_, rfl, q⟩
    · wp_walk using wpAny_loadPart' ht, wpAny_pyIter_tuple tT
      exact ⟨_, rfl, q⟩
section
variable {P : Program} {w : World} {A : Around} {E : Value → Shared → Prop} {s : Shared}
theorem call_tup {t : Addr} {xs : Array Value} {Q : Value → Shared → Prop} (hT : s.heap.IsTuple t xs) (q : ∀ h', IsEnum h' (s.heap.objs.size + 1) s.heap.objs.size 0 .none → h'.IsTupleIter s.heap.objs.size t 0 → (∀ b o, s.heap.get? b = some o → h'.get? b = some o) → Q (.ref (s.heap.objs.size + 1)) { s with heap := h' }) :
    wpAny (model P w) A (call (.type "enumerate") [.ref t]) Q E s := by
  obtain ⟨⟨c, dd, dt, so⟩, ho, hc, n, hd⟩ := hT
  simp only at hc hd
  subst hc hd
  refine callType_new F.called_enumerate (by decide) (F.typeCall_enumerate_1 _) (F.newCall_enumerate_1 _) (fun o => F.args_object_init_2 o _) F.entry_enumerate_new (new_tup t xs n dd so) ⟨ho, ?_⟩
  have z1 : (s.heap.push (oIt t)).objs.size = s.heap.objs.size + 1 := Heap.size_push ..
  have e1 : IsEnum ((s.heap.push (oIt t)).push (oEn s.heap.objs.size)) (s.heap.objs.size + 1) s.heap.objs.size 0 .none := by
    have z2 := Heap.get?_push_size (s.heap.push (oIt t)) (o := oEn s.heap.objs.size) rfl
    rw [z1] at z2
    exact z2
  show _ ∧ _
  rw [z1]
  exact ⟨⟨_, e1, rfl⟩, q _ e1 ⟨_, Heap.get?_push_of_some _ (Heap.get?_push_size _ rfl), rfl, rfl⟩ fun b o x => Heap.get?_push_of_some _ (Heap.get?_push_of_some _ x)⟩
end
/-- the tuple at a, each item in a new pair -/
def ItT (K : PySem.W.Frag) (a : Addr) : It :=
  ⟨fun i H => ∃ (xs : List V) (x : V), SqT K H a xs ∧ xs[i]? = some x, fun i H v H' => ∃ T x, v = .ref T ∧ H T = none ∧ H' = upd H T (.tup [.int (i : Nat), x]) ∧ (∀ xs, SqT K H a xs → xs[i]? = some x), fun i H => ∃ xs : List V, SqT K H a xs ∧ xs.length ≤ i⟩
theorem apart {h : Heap} {e it a : Addr} {i : Int} {j : Nat} {old : Value} {xs : Array Value} (he : IsEnum h e it i old) (hi : h.IsTupleIter it a j) (ha : h.IsTuple a xs) : e ≠ a ∧ a ≠ it := by
  obtain ⟨o, ho, hc, _⟩ := ha
  obtain ⟨o2, ho2, hc2, _⟩ := hi
  constructor
  · intro z
    rw [← z, he] at ho
    cases ho
    revert hc
    simp
  · intro z
    rw [z, ho2] at ho
    cases ho
    rw [hc2] at hc
    revert hc
    simp
theorem turn {P : Program} {w : World} {K : PySem.W.Frag} {elts : List Expr} {kk : Nat} {tpos : Pos} (a e it : Addr) :
    Turn P w K (.Tuple elts kk tpos) (ItT K a) [e, it] e (fun i h => (∃ old, IsEnum h e it ((i : Nat) : Int) old) ∧ h.IsTupleIter it a i ∧ e ≠ it) where
  mem := by simp
  obj := fun i h st b hb => by
    obtain ⟨⟨old, he⟩, ⟨o, ho, hc, hd⟩, _⟩ := st
    have z : b = e ∨ b = it := by simpa using hb
    rcases z with z | z
    · subst z
      exact ⟨_, he, fun u y => nomatch y⟩
    · subst z
      exact ⟨o, ho, fun u y => by rw [hd] at y; cases y⟩
  keep := fun i h h' st k => by
    obtain ⟨⟨old, he⟩, hi, ne⟩ := st
    exact ⟨⟨old, k e (by simp) _ he⟩, hi.at fun o q => k it (by simp) o q, ne⟩
  item := by
    intro X hP hw hK hc i pins s σ H E I hf st hg
    subst hP hw hK
    obtain ⟨⟨old, he⟩, hi, ne⟩ := st
    obtain ⟨xs, x, hq, hx⟩ := hg
    obtain ⟨its, rv, p, hz⟩ := I.tuple hq
    obtain ⟨u, hu, ru⟩ := rv.get hx
    have pT : s.heap.IsTuple a its.toArray := p
    obtain ⟨ea, ai⟩ := apart he hi pT
    have il : i < its.toArray.size := by
      rw [List.size_toArray]
      exact (List.getElem?_eq_some_iff.mp hu).1
    have hh : X.A.in1.handled = none := by simp [I.ok.hd hc]
    have el : e < s.heap.objs.size := Heap.lt_size he
    have tl : it < s.heap.objs.size := by obtain ⟨_, q, _⟩ := hi; exact Heap.lt_size q
    refine wpAny_pyNext_enum_itemD (Draws.tuple hh it a ai its.toArray) he ⟨hi, pT⟩ il ne (by simp only [List.mem_cons, List.not_mem_nil, or_false, not_or]; exact ⟨ne, ea⟩) fun y h' tk hy ho st' hT hsz hk => ?_
    have ey : y = u := by
      rw [show its.toArray[i]? = its[i]? by simp, hu] at hy
      exact (Option.some.inj hy).symm
    subst ey
    refine ⟨_, rfl, wpAny_letOwnedTupleGo_enum (s := { s with heap := h', toks := tk + 1 }) ho fun h2 he2 sb => ?_⟩
    have hT2 : h2.get? s.heap.objs.size = some { cls := .type "tuple", data := .seq #[.int i tk, y] } := (sb.2 _ (Nat.ne_of_gt el)).trans hT
    have new : ObjOk X.prog X.w (upd H s.heap.objs.size (.tup [.int (i : Nat), x])) h2 s.heap.objs.size (.tup [.int (i : Nat), x]) := ⟨by show 2 ≤ sizeLine; decide, [.int i tk, y], .cons ⟨_, rfl⟩ (.cons ru .nil), ⟨_, hT2, rfl, _, rfl⟩⟩
    have I1 : Inv X pins σ (upd H s.heap.objs.size (.tup [.int (i : Nat), x])) { s with heap := h2, toks := tk + 1 } :=
      I.turnedNew (ch := [e, it]) (fun b o hb q => (sb.2 b fun z => hb (by simp [z])).trans (hk b o (fun z => hb (by simp [z])) (fun z => hb (by simp [z])) q)) hf (Nat.le_refl _) new
    refine ⟨.ref s.heap.objs.size, _, I1, rfl, ⟨_, x, rfl, I.hok.fresh (Nat.le_refl _), rfl, fun ys hy => by rw [I.tuple_inj hy hq]; exact hx⟩, ⟨⟨y, ?_⟩, st'.1.at fun o q => (sb.2 it ne.symm).trans q, ne⟩, fun b hb => ?_⟩
    · rw [show ((i + 1 : Nat) : Int) = (i : Int) + 1 by omega]
      exact he2
    · have bl : b < s.heap.objs.size := by
        have z : b = e ∨ b = it := by simpa using hb
        rcases z with z | z
        · rw [z]; exact el
        · rw [z]; exact tl
      rw [upd_ne (Nat.ne_of_lt bl)]
      exact (hf b hb).1
  done := by
    intro X hP hw hK hc i pins s σ H E I hf st hg
    subst hP hw hK
    obtain ⟨⟨old, he⟩, hi, ne⟩ := st
    obtain ⟨xs, hq, hx⟩ := hg
    obtain ⟨its, rv, p, hz⟩ := I.tuple hq
    have pT : s.heap.IsTuple a its.toArray := p
    obtain ⟨ea, ai⟩ := apart he hi pT
    obtain ⟨f0, f1, f2, f3, f4, f5⟩ := hf it (by simp)
    have hh : X.A.in1.handled = none := by simp [I.ok.hd hc]
    have hT : s.TypeIs (.ref e) "enumerate" := ⟨_, he, rfl⟩
    have hl := rv.length
    unfold pyNext
    refine wpAny_bind (wpAny_attempt (wpAny_callSpecial?_slot (name := Str.ofString "__next__") hT F.slot_enumerate_next (wpAny_call_entry F.slot_enumerate_next hT F.entry_enumerate_next ?_ (F.args_enumerate_next_1 _))))
    show wpAny _ _ (field (.ref e) 2 >>= _) _ _ _
    refine wpAny_bind (wpAny_field he rfl (x := .ref it) rfl (wpAny_bind (wpAny_nextOf_tuple_end hh hi pT (by simp; omega) fun h' x eb hx' => ?_)))
    obtain ⟨o, ho, hc'⟩ := hx'
    refine wpAny_bind (wpAny_isInstance (T := "StopIteration") (b := true) ⟨o, ho, hc'⟩ isSubtype_stop ?_)
    exact wpAny_pure ⟨rfl, I.turned (t' := s.toks) (fun b o hb q => eb b o hb q) f0 f1 f3 f4 f5⟩
  self := fun A i s Q E st h => by
    obtain ⟨⟨_, he⟩, _⟩ := st
    exact wpAny_pyIter_enum he h
def iEnT (K : PySem.W.Frag) (ta : TA) : TI := fun σ H R => ta σ H fun vs H1 => ∃ a xs, vs = [.ref a] ∧ SqT K H1 a xs ∧ R (ItT K a) H1
theorem pi_enT {X : Cx} {e : Expr} {ta : TA} {p pos tpos : Pos} {elts : List Expr} {kk : Nat} (hg : Gl X "enumerate") (hm : X.mg "enumerate" = none) (ha : PA X [e] ta) (one : starEach [e] X.env = [(false, eval e X.env)] := by rfl) : PI X (.Tuple elts kk tpos) (.Call (.Name "enumerate" p) [e] [] pos) (iEnT X.K ta) := by
  refine ⟨fun pins s σ H R I h => ?_⟩
  refine Call_ (ld_blt I hg hm boot_enumerate (PyProof.Rows.callWith_type1 (thn (ha.run pos pins s σ H _ I h) fun us s1 ⟨vs, H1, I1, r1, q1⟩ => ?_) one rfl))
  obtain ⟨a, xs, ex, hq, q⟩ := q1
  subst ex
  rw [Vals.ref1 r1]
  obtain ⟨its, rv, p', hz⟩ := I1.tuple hq
  have pT : s1.heap.IsTuple a its.toArray := p'
  refine call_tup pT fun h' he hi hk => wpAny_pyIter_enum he ?_
  refine ⟨s1.heap.objs.size + 1, [s1.heap.objs.size + 1, s1.heap.objs.size], _, _, H1, rfl, I1.kept (t' := s1.toks) hk, turn a (s1.heap.objs.size + 1) s1.heap.objs.size, ⟨⟨.none, he⟩, hi, Nat.succ_ne_self _⟩, fun b hb => ?_, q⟩
  have z : b = s1.heap.objs.size + 1 ∨ b = s1.heap.objs.size := by simpa using hb
  have le : s1.heap.objs.size ≤ b := by
    rcases z with z | z
    · subst z
      exact Nat.le_succ _
    · exact Nat.le_of_eq z.symm
  exact I1.fpOk le (I1.hok.fresh le)
theorem lc_enT {K : PySem.W.Frag} {a : Addr} {xs : List V} {g : TG} {tt : TT} {te : TE} {vs : List Nat} {σ : L2.St} {H1 : Hp} {D : Addr} {N : Hp → Prop} (Pv : Nat → Hp → Prop) (h0 : Pv 0 (upd H1 D (.lst []))) (hl : ∀ i H, i ≤ xs.length → Pv i H → SqT K H a xs)
    (hs : ∀ i x t H, xs[i]? = some x → Pv i H → H t = none → g (.ref t) (wipe σ vs) (upd H t (.tup [.int (i : Nat), x])) fun τ H2 => wipe τ vs = wipe σ vs ∧ tt τ H2 fun b H3 => if b = true then te τ H3 fun y H4 => ∃ acc, H4 D = some (.lst acc) ∧ acc.length < sizeLine ∧ Pv (i + 1) (upd H4 D (.lst (acc ++ [y]))) else Pv (i + 1) H3)
    (hd : ∀ H, Pv xs.length H → N H) :
    ∃ W : Nat → Nat → Hp → Prop, (∃ m, W 0 m (upd H1 D (.lst []))) ∧ ∀ i m H, W i m H → ((ItT K a).stop i H ∧ N H) ∨ ((ItT K a).go i H ∧ ∃ Nx : Hp → Prop, (∀ H', Nx H' → ∃ m', m' < m ∧ W (i + 1) m' H') ∧ ∀ x H', (ItT K a).yld i H x H' →
      g x (wipe σ vs) H' fun τ H2 => wipe τ vs = wipe σ vs ∧ tt τ H2 fun b H3 => if b = true then te τ H3 fun y H4 => ∃ acc, H4 D = some (.lst acc) ∧ acc.length < sizeLine ∧ Nx (upd H4 D (.lst (acc ++ [y]))) else Nx H3) := by
  refine ⟨fun i m H => m = xs.length - i ∧ i ≤ xs.length ∧ Pv i H, ⟨xs.length, by simp, Nat.zero_le _, h0⟩, ?_⟩
  rintro i m H ⟨rfl, hi, p⟩
  have q := hl i H hi p
  by_cases lt : i < xs.length
  · refine .inr ⟨⟨xs, xs[i], q, by simp [lt]⟩, Pv (i + 1), fun H' p' => ⟨xs.length - (i + 1), by omega, rfl, lt, p'⟩, fun x H' y => ?_⟩
    obtain ⟨t, v, rfl, nt, rfl, hv⟩ := y
    exact hs i v t H (hv xs q) p nt
  · have e : i = xs.length := by omega
    subst e
    exact .inl ⟨⟨xs, q, Nat.le_refl _⟩, hd H p⟩
end ET
namespace CC
open PySem L2 TL
/-! ### drop -/
/-- log.drop(v): NoRow where NR, NotThere -/
def spDrpM (K : PySem.W.Frag) (C CR CT : Addr) (NR : NoR) (c1 c6 : Addr) : Sp := fun vs H Q E => ∃ (lm : Option Nat) (x r q : Addr) (w : Nat) (rs : List R) (rows : List (List Nat)) (ps : List (List (List Nat))) (v : V), vs = [.ref x, v] ∧ LgAt K C CR CT lm H x r q w rs rows ps ∧ LgOk w rs rows ∧ ps.length < 1000 ∧
  ((∃ (tr : Addr) (row : List Nat), v = .ref tr ∧ SqT K H tr (nms row) ∧ RowOk w row ∧ (¬ row ∈ rows → ∀ H', Same H H' → E (.ref c6) none H') ∧ (row ∈ rows → LgTo K C CR CT lm H x r q w rs (RW.dropR rows row) (ps ++ [rows]) Q)) ∨
   (NR H w v ∧ ∀ H', Same H H' → E (.ref c1) none H'))
section
variable {P : Program} {w : World} {K : PySem.W.Frag} {mg : Str → Option Value} {base : Heap} {kA : Addr}
theorem pass_drp {C CR CT c1 c6 : Addr} {NR : NoR} {vs : List V} {H : Hp} {Q : VK} {E : XK} (h : spDrpM K C CR CT NR c1 c6 vs H Q E) : ∃ (x dx : Addr) (fs : List (Str × V)) (v : V), vs = [.ref x, v] ∧ H x = some (.ins C dx fs) ∧ spDrpM K C CR CT NR c1 c6 [.ref x, v] H (fun _ => Q .non) E := by
  obtain ⟨lm, x, r, q, m, rs, rows, ps, v, rfl, L, ok, p1, hv⟩ := h
  obtain ⟨dx, t, hx, tt⟩ := id L.at_
  refine ⟨x, dx, _, v, rfl, hx, lm, x, r, q, m, rs, rows, ps, v, rfl, L, ok, p1, ?_⟩
  rcases hv with ⟨tr, row, e, ht, rok, eN, to⟩ | z
  · exact .inl ⟨tr, row, e, ht, rok, eN, fun z H' k1 L' => to z H' k1 L'⟩
  · exact .inr z
abbrev nlDrp : List Str := ["self", "row", "places", "rows", "place", "other"]
theorem sclDrp : FnScope nlDrp ["self", "row"] (defScope slDrp) := ⟨rfl, rfl, rfl, by decide +kernel, rfl, by decide +kernel, by decide +kernel⟩
theorem ok_ldrp {f C CR CT c1 c6 : Addr} {NR : NoR} {fd : FuncData} {k : Nat} (F : Fun K "drop" "Log.drop" slDrp f fd) (T : Glb K mg kA) (TL : TxtM K C) (TR : Txt1 K mg CR) (TT : TxtT K mg CT) (e1 : ExcK K mg "NoRow" c1) (e6 : ExcK K mg "NotThere" c6) (pW : Prp P w K mg base CR "width" "span") (pTR : Prp P w K mg base CT "rows" "lines") (mT : MakeT P w K mg base CT 3) (cR : Cal P w K mg base "is_row" ["width", "thing"] (spIsRowG K NR) 2)
    (cg : MthG P w K mg base C "change" ["self", "table"] (spChgM K C) 1) : FnOk P w K mg base (L2.CX P w) (k + 5) f fd ["self", "row"] (spDrpM K C CR CT NR c1 c6) := by
  have GN := mT.ok (k + 3) (by omega)
  have GR := cR.ok (k + 4) (by omega)
  have GG := cg.ok (k + 4) (by omega)
  refine F.okX sclDrp (fun vs H Q E h => ?_) (fun cdv A outer s H vs Q E hr h => ?_)
  · obtain ⟨x, dx, fs, v, rfl, _⟩ := pass_drp h
    rfl
  · obtain ⟨lm, x, r, pq, m, rs, rows, ps, v, rfl, L, ok, n1, hv⟩ := h
    have nd := sclDrp.nd
    have hu64 : (A.deeper (PyProof.Rows.envOfC (Str.ofString "Log.drop") (defScope slDrp) s.heap.objs.size f cdv)).units + 64 < cLine := by
      have := hr.un
      omega
    refine ⟨_, (pss_cons (ps_if (pt_not (pt_val (pe_call GR hr rfl cR.g cR.kp cR.b .nil pass0 (pa_cons (pe_prop (pe_fld (pv 0) rfl) TR.cl pW.hp (pW.ok (k + 3) (by omega)) hr pW.b .nil pass0 rfl) (pa_cons (pv 1) pa_nil))))) (pss_one (ps_raise rfl (takes_of rfl rfl rfl rfl) (pmk_own PySem.F.excBase_ValueError e1.x e1.g e1.k (raises_own e1.b e1.t) rfl))) pss_nil)
      (pss_cons (ps_set (i := 2) nd rfl (.inr rfl) (pe_lc (own := [("place", 4), ("other", 5)]) (g := g2 K 4 5) (tt := tTest (tOp (rEqD K) (tVar 5) (tVar 1))) (te := tVar 4) rfl nd (ET.pi_enT (by rfl) T.enu (pa_cons (pe_prop (pe_fld (pv 0) rfl) TT.cl pTR.hp (pTR.ok (k + 3) (by omega)) hr pTR.b .nil pass0 rfl) pa_nil)) (blkOk_by (N := nlDrp) (sc := defScope slDrp) (by decide +kernel))
        (fun _ _ _ _ _ => (pg_tup rfl (pgs_cons (pg_name (i := 4) nd rfl (.inl rfl)) (pgs_cons (pg_name (i := 5) nd rfl (.inl rfl)) pgs_nil)))) (fun _ _ _ _ _ => pts_one (pt_cmpR (op_eqD hu64) (pv 5) (pv 1) (nomark _))) (fun _ _ _ _ _ => (pv 4))))
      (pss_cons (ps_if (pt_not (pt_truth (pv 2) (by intro _; rfl))) (pss_one (ps_raise rfl (takes_of rfl rfl rfl rfl) (pmk_own PySem.F.excBase_ValueError e6.x e6.g e6.k (raises_own e6.b e6.t) rfl))) pss_nil)
      (pss_cons (ps_setLc (i := 3) (own := [("place", 4), ("other", 5)]) (g := g2 K 4 5) (tt := tTest (tOp rNe (tVar 4) (tOp (rIxL K) (tVar 2) (tUn (rU fun i => .int (-i)) (tC (.int 1)))))) (te := tVar 5) rfl nd rfl rfl (sw_true rfl rfl rfl (by decide +kernel)) (ET.pi_enT (by rfl) T.enu (pa_cons (pe_prop (pe_fld (pv 0) rfl) TT.cl pTR.hp (pTR.ok (k + 3) (by omega)) hr pTR.b .nil pass0 rfl) pa_nil)) (blkOk_by (N := nlDrp) (sc := defScope slDrp) (by decide +kernel))
        (fun _ _ _ _ _ => (pg_tup rfl (pgs_cons (pg_name (i := 4) nd rfl (.inl rfl)) (pgs_cons (pg_name (i := 5) nd rfl (.inl rfl)) pgs_nil)))) (fun _ _ _ _ _ => pts_one (pt_cmpR op_ne (pv 4) (pe_ix ix_list (pv 2) (pe_un un_neg pe_int) (fun _ _ => rfl)) (nomark _))) (fun _ _ _ _ _ => (pv 5)))
      (pss_one (ps_expr (pe_meth (pv 0) TL.cl cg.m GG hr cg.b .nil pass0 (pa_cons (pe_makeRS mT.M GN hr rfl TT.mgC pass0 (pa_cons (pe_prop (pe_fld (pv 0) rfl) TR.cl pW.hp (pW.ok (k + 3) (by omega)) hr pW.b .nil pass0 rfl) (StX.pa_star (pv 3) pa_nil))) pa_nil)))))))), ?_⟩
    obtain ⟨dx, t, hx, tt⟩ := L.at_
    obtain ⟨hs, hq, hl⟩ := L.past
    have hln := hl.len
    have few := ok.few
    obtain ⟨dr, gr, ur, r1, r2, r3⟩ := L.book.same (wos_le _)
    obtain ⟨dt, g, us, t1, t2, t3⟩ := tt.same (wos_le _)
    have ul : us.length = rows.length := by rw [dps_len t3, List.length_map]
    refine ⟨_, rfl, x, C, dx, _, _, rfl, hx, TL.cl, TL.nB, fldM_b _ _ _ _, r, dr, _, rfl, r1, r, dr, _, _, rfl, r1, flds_span _ _, _, rfl, ?_⟩
    rcases hv.symm with ⟨nr, eE⟩ | ⟨tr, row, rfl, ht, rok, eN, to⟩
    · exact .inr ⟨m, v, rfl, nr, fun H1 s1 => ⟨_, rfl, iteT (eE _ s1)⟩⟩
    refine .inl ⟨m, tr, row, rfl, ht, rok, ok.w6, fun H1 s1 => ⟨_, rfl, iteF ?_⟩⟩
    refine ⟨_, rfl, x, C, dx, _, _, rfl, s1 _ _ hx, TL.cl, TL.nH, fldM_h _ _ _ _, t, dt, _, rfl, s1 _ _ t1, t, dt, _, _, rfl, s1 _ _ t1, fldT_lines _ _, g, us, rfl, .inl (.inl (s1 _ _ t2)), fun D nD => ?_⟩
    refine ET.lc_enT (xs := us) (fun i H' => ∃ ns, Same H1 (wo H' D) ∧ H' D = some (.lst (nms ns)) ∧ RW.Plc rows row i ns ∧ i ≤ rows.length) ⟨[], ?_, upd_same, .nil, Nat.zero_le _⟩ (fun i H' _ ⟨_, z, _⟩ => .inl (.inl (wo_le D _ _ (z _ _ (s1 _ _ t2))))) ?_ ?_
    · rw [wo_upd]
      exact fun b o e => by rw [wo_ne (ne_of_none e nD)]; exact e
    · rintro i v t0 H' hv ⟨ns, e1, e2, pl, _⟩ nt0
      obtain ⟨y, hy, dy⟩ := dps_gat t3 hv
      have il := (List.getElem?_eq_some_iff.mp hy).1
      have o1 : Same H1 (upd H' t0 (.tup [.int (i : Nat), v])) := (e1.trans (wo_le D)).trans (same_new nt0)
      have D0 : D ≠ t0 := ne_of_none e2 nt0
      refine ⟨t0, _, rfl, .inl (.inl upd_same), rfl, _, _, rfl, _, _, rfl, rfl, rfl, ?_⟩
      refine ⟨_, rfl, _, rfl, gd y, gd row, dp_same (s1.trans o1) _ _ dy, dp_gd (same_t (s1.trans o1) ht), RW.gd_shp _, RW.gd_shp _, _, rfl, ?_⟩
      rw [RW.gd_eqv]
      have e3 : Same H1 (wo (upd H' t0 (.tup [.int (i : Nat), v])) D) := by
        rw [wo_upd_ne _ D0.symm]
        exact fun b o e => (same_new (by rw [wo_ne D0.symm]; exact nt0)) _ _ (e1 b o e)
      have e4 : (upd H' t0 (.tup [.int (i : Nat), v])) D = some (.lst (nms ns)) := by
        rw [upd_ne D0]
        exact e2
      by_cases e : y = row
      · subst e
        rw [decide_eq_true rfl]
        refine iteT ⟨_, rfl, _, e4, small1000 (by rw [nms_len]; have := pl.len (by omega); omega), ns ++ [i], ?_, ?_, pl.yes hy, by omega⟩
        · rw [wo_upd]
          exact e3
        · rw [upd_same, nms_app]
          rfl
      · rw [decide_eq_false e]
        exact iteF ⟨ns, e3, e4, pl.no (fun z => e (by rw [hy] at z; exact Option.some.inj z)), by omega⟩
    rintro H2 ⟨ns, e1, e2, pl, _⟩
    rw [ul] at pl
    have s2 : Same H1 H2 := e1.trans (wo_le D)
    have s02 := s1.trans s2
    by_cases hm : row ∈ rows
    case neg =>
      have en : ns = [] := by
        cases ns with
        | nil => rfl
        | cons j ns => exact absurd (List.mem_of_getElem? (pl.is j List.mem_cons_self).2) hm
      subst en
      exact ⟨_, rfl, false, .inl ⟨_, SqL.of e2, rfl⟩, iteT (eN hm _ s02)⟩
    obtain ⟨ms, p, rfl, er⟩ := pl.last hm
    have e2' : H2 D = some (.lst (nms ms ++ [.int (p : Int)])) := by
      rw [e2, nms_app]
      rfl
    refine ⟨_, rfl, true, .inl ⟨_, SqL.of e2', by simp⟩, iteF ?_⟩
    refine ⟨_, rfl, x, C, dx, _, _, rfl, s02 _ _ hx, TL.cl, TL.nH, fldM_h _ _ _ _, t, dt, _, rfl, s02 _ _ t1, t, dt, _, _, rfl, s02 _ _ t1, fldT_lines _ _, g, us, rfl, .inl (.inl (s02 _ _ t2)), fun D3 nD3 => ?_⟩
    refine ET.lc_enT (xs := us) (fun i H' => MadeF gd K H2 D3 i H' ((rows.take i).eraseIdx p)) MadeF.start (fun i H' _ z => .inl (.inl (z.old nD3 _ _ (s02 _ _ t2)))) ?_ ?_
    · rintro i v t0 H' hv mo nt0
      obtain ⟨y, hy, dy⟩ := dps_gat t3 hv
      have il := (List.getElem?_eq_some_iff.mp hy).1
      have o1 := mo.old nD3
      have sn : Same H' (upd H' t0 (.tup [.int (i : Nat), v])) := same_new nt0
      obtain ⟨uo, _, hDo, _⟩ := id mo
      refine ⟨t0, _, rfl, .inl (.inl upd_same), rfl, _, _, rfl, _, _, rfl, rfl, rfl, ?_⟩
      refine ⟨_, rfl, _, rfl, _, rfl, D, _, -1, _, rfl, rfl, SqL.of (sn _ _ (o1 _ _ e2')), atI_last _ _, rfl, _, rfl, ?_⟩
      rw [int_ne, RW.cut_step hy]
      by_cases e : i = p
      · rw [decide_eq_false (fun z => z e), if_pos e, List.append_nil]
        exact iteF (mo.keep sn (by omega) rfl)
      · rw [decide_eq_true e, if_neg e]
        refine iteT ⟨_, rfl, ?_⟩
        exact mo.push (r := y) (m := i + 1) (by omega) (Nat.lt_succ_self _) sn (gd_T ((same_T (s02.trans (o1.trans sn))).trans (wo_T (sn _ _ hDo))) dy)
    rintro H3 mo
    rw [ul, List.take_length, er] at mo
    have s3 := mo.old nD3
    obtain ⟨uo, _, hDo, dDo, _⟩ := mo
    have s03 := s02.trans s3
    have dj : DpAll K H3 uo ((RW.dropR rows row).map gd) := dps_same (wo_le D3) _ _ dDo
    refine ⟨_, rfl, x, dx, _, rfl, s03 _ _ hx, fldM_no _ _ _ _ (by decide +kernel) (by decide +kernel) (by decide +kernel) (by decide +kernel), ?_⟩
    refine ⟨_, rfl, x, C, dx, _, _, rfl, s03 _ _ hx, TL.cl, TL.nB, fldM_b _ _ _ _, r, dr, _, rfl, s03 _ _ r1, r, dr, _, _, rfl, s03 _ _ r1, flds_span _ _, _, rfl, D3, _, rfl, .inr (SqL.of hDo), ?_⟩
    refine fun t' dz nz ndz ne => ?_
    refine mkT_go (K := K) (C := CT) ok.w1 ok.w6 (fun y hy => ok.ok y (RW.dropR_mem hy)) (by have := RW.dropR_len hm; omega) dj nz ndz ne fun H4 s4 tt' => ⟨rfl, ?_⟩
    have s04 := s03.trans s4
    exact ⟨lm, x, dx, r, t, pq, t', hs, rfl, s04 _ _ hx, s04 _ _ hq, by omega, changedM L s04 hx hq tt' (to hm)⟩
end
end CC
/-! a method whose first statement is super().m() -/
namespace SUP
open PySem PySem.Spec PySem.Calls PySem.W PyProof.Rows L2
section
variable {P : Program} {w : World} {K : PySem.W.Frag} {mg : Str → Option Value} {base : Heap} {N ps : List Str} {qual : Str} {scope : Scope} {f cc D : Addr} {cd : Value} {A : Around} {outer : List Env} {s : Shared} {H : Hp} {E : XK} {us : List Value} {vs : List V}
end
end SUP
namespace CC
open PySem L2 TL
section
variable {P : Program} {w : World} {K : PySem.W.Frag} {mg : Str → Option Value} {base : Heap} {kA : Addr}
end
end CC
namespace CC
open PySem L2 TL LamX PyProof.Rows
/-! ### a class of logs with all that the log laws call -/
def NRO (K : PySem.W.Frag) : NoR := fun H w v => w ≤ 6 ∧ OddR K H w v
structure LogF (P : Program) (w : World) (K : PySem.W.Frag) (mg : Str → Option Value) (base : Heap) (CR CT : Addr) (C9 : Nat → Addr) (kd : Nat) extends LogS P w K mg base CR CT kd where
  asg : MthX P w K mg base C "assign_table" ["self", "table"] (spAsgM K C CR CT (lbOf kd) (ckOf (C9 5) (C9 7) kd) (NTy K CT) (C9 2) (C9 4)) 14
  add : MthX P w K mg base C "add" ["self", "row"] (spAddM K C CR CT (lbOf kd) (ckOf (C9 5) (C9 7) kd) (NRO K) (C9 0)) 14
  fC : Addr
  cC : StX.CallO K C fC
  call : ∀ k, 15 ≤ k → FnR P w K mg base (L2.CX P w) k fC (spAddM K C CR CT (lbOf kd) (ckOf (C9 5) (C9 7) kd) (NRO K) (C9 0))
  drp : MthX P w K mg base C "drop" ["self", "row"] (spDrpM K C CR CT (NRO K) (C9 0) (C9 6)) 14
/-- what a call leaves: what is told, the rows and the tables that were -/
def StepTo (K : PySem.W.Frag) (C CR CT : Addr) (lm : Option Nat) (H : Hp) (x r q : Addr) (m : Nat) (rs : List R) (z : Str × List (List Nat)) (ps' : List (List (List Nat))) (Q : VK) : Prop :=
  (z.1 ≠ "told" → ∀ H1, Same H H1 → ∀ p, H1 p = none → Q (.ref p) (upd H1 p (.lst (tlV z.1)))) ∧
  (z.1 = "told" → ∀ H1, Kp [x, q] H H1 → LgAt K C CR CT lm H1 x r q m rs z.2 ps' → ∀ p, H1 p = none → Q (.ref p) (upd H1 p (.lst (tlV z.1))))
theorem StepTo.bad {K : PySem.W.Frag} {C CR CT : Addr} {lm : Option Nat} {H : Hp} {x r q : Addr} {m : Nat} {rs : List R} {z : Str × List (List Nat)} {ps' : List (List (List Nat))} {Q : VK} (s : StepTo K C CR CT lm H x r q m rs z ps' Q) {i : Nat} (hi : i < 9) (C9 : Nat → Addr) (e : z.1 = nm9 i) (H1 : Hp) (s1 : Same H H1) (n : nm9 i ≠ "told") : e9 C9 Q (.ref (C9 i)) none H1 := by
  refine ⟨i, hi, rfl, fun p np => ?_⟩
  have := s.1 (by rw [e]; exact n) H1 s1 p np
  rw [e, tlV_no n] at this
  exact this
theorem StepTo.good {K : PySem.W.Frag} {C CR CT : Addr} {lm : Option Nat} {H : Hp} {x r q : Addr} {m : Nat} {rs : List R} {z : Str × List (List Nat)} {ps' : List (List (List Nat))} {Q Q' : VK} (s : StepTo K C CR CT lm H x r q m rs z ps' Q) (hq : ∀ v H1, q9 Q v H1 → Q' v H1) (e : z.1 = "told") : LgTo K C CR CT lm H x r q m rs z.2 ps' Q' := fun H1 k1 L1 => by
  refine hq _ _ fun p np => ?_
  have := s.2 e H1 k1 L1 p np
  rw [e, tlV_told] at this
  exact this
section
variable {P : Program} {w : World} {K : PySem.W.Frag} {mg : Str → Option Value} {base : Heap} {CR CT : Addr} {C9 : Nat → Addr} {cap : Nat} {H : Hp} {C x r q t : Addr} {m v : Nat} {rs : List R} {rows ls : List (List Nat)} {ps : List (List (List Nat))} {σ : L2.St} {i j kd : Nat} {Q Q' : VK} {u : V} {o : Option (List Nat)}
theorem ck_told {c5 c7 : Addr} (k4 : kd < 4) (cap4 : cap ≤ 400) (h : fitW kd cap rs rows = "told") : ckOf c5 c7 kd (lmOf kd cap) m rs rows = none := by
  have fc := fit_ck (c5 := c5) (c7 := c7) (m := m) (rs := rs) (rows := rows) k4 cap4
  cases e : ckOf c5 c7 kd (lmOf kd cap) m rs rows with
  | none => rfl
  | some c =>
    rw [e] at fc
    rcases fc with ⟨_, f⟩ | ⟨_, f⟩ <;> rw [h] at f <;> exact absurd f (by decide +kernel)
/-- what check says, told -/
theorem ck_step {z : List (List Nat)} {ps' : List (List (List Nat))} (k4 : kd < 4) (cap4 : cap ≤ 400) (s : StepTo K C CR CT (lmOf kd cap) H x r q m rs (if fitW kd cap rs ls = "told" then ("told", ls) else (fitW kd cap rs ls, z)) ps' Q) (hq : ∀ v H1, q9 Q v H1 → Q' v H1) :
    (∀ c, ckOf (C9 5) (C9 7) kd (lmOf kd cap) m rs ls = some c → ∀ H', Same H H' → e9 C9 Q (.ref c) none H') ∧ (ckOf (C9 5) (C9 7) kd (lmOf kd cap) m rs ls = none → LgTo K C CR CT (lmOf kd cap) H x r q m rs ls ps' Q') := by
  have fc := fit_ck (c5 := C9 5) (c7 := C9 7) (m := m) (rs := rs) (rows := ls) k4 cap4
  refine ⟨fun c hc H' s' => ?_, fun hc => ?_⟩
  · rw [hc] at fc
    rcases fc with ⟨e, f⟩ | ⟨e, f⟩
    · rw [if_neg (by rw [f]; decide +kernel)] at s
      rw [e]
      exact s.bad (i := 5) (by decide) C9 f H' s' (by decide +kernel)
    · rw [if_neg (by rw [f]; decide +kernel)] at s
      rw [e]
      exact s.bad (i := 7) (by decide) C9 f H' s' (by decide +kernel)
  · rw [hc] at fc
    rw [if_pos (show fitW kd cap rs ls = "told" from fc)] at s
    exact s.good hq rfl
theorem add_core (k4 : kd < 4) (cap4 : cap ≤ 400) (L : LgAt K C CR CT (lmOf kd cap) H x r q m rs rows ps) (ok : LgOk m rs rows) (p1 : ps.length < 1000) (hv : RowV K H m u o) (fw : ∀ r, o = some r → Fw (rows ++ [r]))
    (s : StepTo K C CR CT (lmOf kd cap) H x r q m rs (addW kd cap rs rows o) (ps ++ [rows]) Q) (hq : ∀ v H1, q9 Q v H1 → Q' v H1) : spAddM K C CR CT (lbOf kd) (ckOf (C9 5) (C9 7) kd) (NRO K) (C9 0) [.ref x, u] H Q' (e9 C9 Q) := by
  refine ⟨lmOf kd cap, x, r, q, m, rs, rows, ps, u, lmOf_lb kd cap, rfl, L, ok, p1, ?_⟩
  cases o with
  | none => exact .inr ⟨⟨ok.w6, hv⟩, fun H' s' => s.bad (i := 0) (by decide) C9 rfl H' s' (by decide +kernel)⟩
  | some row =>
    obtain ⟨t, rfl, ht, rok⟩ := hv
    obtain ⟨a, b⟩ := ck_step (C9 := C9) (Q' := Q') (m := m) k4 cap4 s hq
    exact .inl ⟨t, row, rfl, ht, rok, fw row rfl, a, b⟩
theorem ts9F_add (Lc : LogF P w K mg base CR CT C9 kd) (hx : σ[i]? = some (some (.ref x))) (ht : σ[j]? = some (some u)) (k4 : kd < 4) (cap4 : cap ≤ 400) (L : LgAt K Lc.C CR CT (lmOf kd cap) H x r q m rs rows ps) (ok : LgOk m rs rows) (p1 : ps.length < 1000) (hv : RowV K H m u o) (fw : ∀ r, o = some r → Fw (rows ++ [r]))
    (s : StepTo K Lc.C CR CT (lmOf kd cap) H x r q m rs (addW kd cap rs rows o) (ps ++ [rows]) Q) :
    TS9 C9 (fun E H' Q' => tMeth Lc.C "add" (spAddM K Lc.C CR CT (lbOf kd) (ckOf (C9 5) (C9 7) kd) (NRO K) (C9 0)) [] E (tVar i) (tCons (tVar j) tNil) σ H' Q') H Q := by
  intro Q' hq
  obtain ⟨dx, t1, hx1, _⟩ := id L.at_
  exact ⟨_, hx, x, dx, _, rfl, hx1, fldM_no _ _ _ _ (by decide +kernel) (by decide +kernel) (by decide +kernel) (by decide +kernel), _, ht, add_core k4 cap4 L ok p1 hv fw s hq⟩
theorem ts9F_call (Lc : LogF P w K mg base CR CT C9 kd) (hx : σ[i]? = some (some (.ref x))) (ht : σ[j]? = some (some u)) (k4 : kd < 4) (cap4 : cap ≤ 400) (L : LgAt K Lc.C CR CT (lmOf kd cap) H x r q m rs rows ps) (ok : LgOk m rs rows) (p1 : ps.length < 1000) (hv : RowV K H m u o) (fw : ∀ r, o = some r → Fw (rows ++ [r]))
    (s : StepTo K Lc.C CR CT (lmOf kd cap) H x r q m rs (addW kd cap rs rows o) (ps ++ [rows]) Q) :
    TS9 C9 (fun E H' Q' => tCallO2 Lc.C (spAddM K Lc.C CR CT (lbOf kd) (ckOf (C9 5) (C9 7) kd) (NRO K) (C9 0)) E (tVar i) (tCons (tVar j) tNil) σ H' Q') H Q := by
  intro Q' hq
  obtain ⟨dx, t1, hx1, _⟩ := id L.at_
  exact ⟨_, hx, x, rfl, _, ht, .inr ⟨dx, _, hx1⟩, add_core k4 cap4 L ok p1 hv fw s hq⟩
theorem ts9F_drop (Lc : LogF P w K mg base CR CT C9 kd) (hx : σ[i]? = some (some (.ref x))) (ht : σ[j]? = some (some u)) (L : LgAt K Lc.C CR CT (lmOf kd cap) H x r q m rs rows ps) (ok : LgOk m rs rows) (p1 : ps.length < 1000) (hv : RowV K H m u o)
    (s : StepTo K Lc.C CR CT (lmOf kd cap) H x r q m rs (dropW rows o) (ps ++ [rows]) Q) :
    TS9 C9 (fun E H' Q' => tMeth Lc.C "drop" (spDrpM K Lc.C CR CT (NRO K) (C9 0) (C9 6)) [] E (tVar i) (tCons (tVar j) tNil) σ H' Q') H Q := by
  intro Q' hq
  obtain ⟨dx, t1, hx1, _⟩ := id L.at_
  refine ⟨_, hx, x, dx, _, rfl, hx1, fldM_no _ _ _ _ (by decide +kernel) (by decide +kernel) (by decide +kernel) (by decide +kernel), _, ht, ?_⟩
  refine ⟨lmOf kd cap, x, r, q, m, rs, rows, ps, u, rfl, L, ok, p1, ?_⟩
  cases o with
  | none => exact .inr ⟨⟨ok.w6, hv⟩, fun H' s' => s.bad (i := 0) (by decide) C9 rfl H' s' (by decide +kernel)⟩
  | some row =>
    obtain ⟨t, rfl, ht2, rok⟩ := hv
    rw [show dropW rows (some row) = if row ∈ rows then (("told" : Str), RW.dropR rows row) else (("NotThere" : Str), rows) from rfl] at s
    refine .inl ⟨t, row, rfl, ht2, rok, fun hn H' s' => ?_, fun hm => ?_⟩
    · rw [if_neg hn] at s
      exact s.bad (i := 6) (by decide) C9 rfl H' s' (by decide +kernel)
    · rw [if_pos hm] at s
      exact s.good hq rfl
end
end CC
namespace CC
open PySem L2
section
variable {P : Program} {w : World} {K : PySem.W.Frag} {mg : Str → Option Value} {base : Heap}
theorem scSource : FnScope ["_law_cell_here"] ["_law_cell_here"] (defScope sSource) := ⟨rfl, rfl, rfl, by decide +kernel, rfl, by decide +kernel, by decide +kernel⟩
theorem ok_source {f : Addr} {fd : FuncData} {k : Nat} (F : Fun K "_law_source" "_law_source" sSource f fd) (mm : mg "max" = none) : FnOk P w K mg base CX0 (k + 1) f fd ["_law_cell_here"] spSource := by
  refine F.ok scSource (fun vs H Q E h => ?_) (fun cdv A outer s H vs Q E hr h => ?_)
  · obtain ⟨z, rfl, _⟩ := h
    rfl
  · obtain ⟨z, rfl, q⟩ := h
    refine ⟨_, pss_one (ps_ret (pe_lst (pa_cons (pe_callB (call_max2 rfl) (by rfl) mm (by decide +kernel) (pa_cons pe_int (pa_cons (pe_op op_sub (pv 0) (pe_op op_pow pe_int pe_int)) pa_nil))) (pa_cons (pe_op op_add (pe_op op_mod (pv 0) pe_int) pe_int) (pa_cons pe_int pa_nil))))), ?_⟩
    refine ⟨_, rfl, _, _, rfl, rfl, ⟨by decide, by decide, by decide⟩, _, _, rfl, rfl, _, _, rfl, _, rfl, _, _, rfl, rfl, (by show (0 : Int) < 2147483629; decide), _, _, rfl, rfl, (by show 3 ≤ sizeLine; decide), fun p hp => ?_⟩
    exact q p _ hp ⟨_, _, _, rfl, by omega, by omega⟩
theorem scDraw : FnScope ["_law_source_here", "_law_many", "_law_found", "_law_mixed"] ["_law_source_here", "_law_many"] (defScope sDraw) := ⟨rfl, rfl, rfl, by decide +kernel, rfl, by decide +kernel, by decide +kernel⟩
theorem ok_draw {f : Addr} {fd : FuncData} {k : Nat} (F : Fun K "_law_draw" "_law_draw" sDraw f fd) : FnOk P w K mg base CX0 (k + 1) f fd ["_law_source_here", "_law_many"] spDraw := by
  refine F.ok scDraw (fun vs H Q E h => ?_) (fun cdv A outer s H vs Q E hr h => ?_)
  · obtain ⟨a, m, o, rfl, _⟩ := h
    rfl
  · obtain ⟨a, m, o, rfl, ho, ⟨x, y, z, rfl, y0, y1⟩, m0, m1, q⟩ := h
    refine ⟨_, pss_cons (ps_if (pt_cmpR op_gt (pe_ix ix_list (pv 0) pe_int (fun _ _ => rfl)) pe_int (nomark _))
        (pss_cons (ps_set (i := 2) scDraw.nd rfl (.inl rfl) (pe_op op_mod (pe_ix ix_list (pv 0) pe_int (fun _ _ => rfl)) (pv 1)))
        (pss_cons (ps_asg (pe_op op_fdiv (pe_ix ix_list (pv 0) pe_int (fun _ _ => rfl)) (pv 1)) (pg_sub (pv 0) pe_int set_list))
        (pss_one (ps_ret (pv 2))))) pss_nil)
      (pss_cons (ps_asg (pe_op op_add (pe_ix ix_list (pv 0) pe_int (fun _ _ => rfl)) pe_int) (pg_sub (pv 0) pe_int set_list))
      (pss_cons (ps_asg (pe_op op_mod (pe_op op_add (pe_op op_add (pe_op op_mul (pe_ix ix_list (pv 0) pe_int (fun _ _ => rfl)) pe_int) (pe_op op_mul pe_int (pe_ix ix_list (pv 0) pe_int (fun _ _ => rfl)))) pe_int) pe_int) (pg_sub (pv 0) pe_int set_list))
      (pss_cons (ps_set (i := 3) scDraw.nd rfl (.inl rfl) (pe_op op_mod (pe_op op_add (pe_op op_add (pe_op op_mul (pe_ix ix_list (pv 0) pe_int (fun _ _ => rfl)) (pe_ix ix_list (pv 0) pe_int (fun _ _ => rfl))) (pe_op op_mul pe_int (pe_ix ix_list (pv 0) pe_int (fun _ _ => rfl)))) pe_int) pe_int))
      (pss_cons (ps_set (i := 3) scDraw.nd rfl (.inl rfl) (pe_op op_mod (pe_op op_add (pe_op op_mul (pv 3) (pv 3)) (pe_op op_mul pe_int (pv 3))) pe_int))
      (pss_one (ps_ret (pe_op op_mod (pe_op op_fdiv (pv 3) pe_int) (pv 1)))))))), ?_⟩
    have hA : SqL K H a [.int x, .int y, .int z] := SqL.of ho
    refine ⟨_, rfl, a, _, _, _, rfl, rfl, hA, rfl, _, _, rfl, rfl, _, rfl, ite2 (fun e => ?_) (fun e => ?_)⟩
    · refine ⟨_, rfl, a, _, _, _, rfl, rfl, hA, rfl, _, rfl, _, _, rfl, rfl, m0, ?_⟩
      refine ⟨_, rfl, a, _, _, _, rfl, rfl, hA, rfl, _, rfl, _, _, rfl, rfl, ⟨m0, by omega⟩, _, rfl, a, _, _, 0, rfl, rfl, ho, rfl, ?_⟩
      exact ⟨_, rfl, q _ _ (Int.emod_nonneg _ (by omega)) (Int.emod_lt_of_pos _ m0) ⟨_, _, _, rfl, y0, y1⟩⟩
    · refine ⟨_, rfl, a, _, _, _, rfl, rfl, hA, rfl, _, _, rfl, rfl, _, rfl, a, _, _, 2, rfl, rfl, ho, rfl, ?_⟩
      have h1 : (upd H a (.lst [.int x, .int y, .int (z + 1)])) a = some (.lst [.int x, .int y, .int (z + 1)]) := upd_same
      refine ⟨_, rfl, a, _, _, _, rfl, rfl, SqL.of h1, rfl, _, _, rfl, rfl, .inl ⟨by omega, by omega⟩, _, rfl, a, _, _, _, rfl, rfl, SqL.of h1, rfl, _, _, rfl, rfl, .inl ⟨by decide, by decide⟩, _, _, rfl, rfl, _, _, rfl, rfl, _, _, rfl, rfl, (by show (0 : Int) < 2147483647; decide), _, rfl, a, _, _, 1, rfl, rfl, h1, rfl, ?_⟩
      obtain ⟨y', hy⟩ : ∃ y' : Int, y' = (y * 48271 + 1009 * (z + 1) + 7) % 2147483647 := ⟨_, rfl⟩
      have b0 : 0 ≤ y' := by omega
      have b1 : y' < 2147483648 := by omega
      have h2 : (upd (upd H a (.lst [.int x, .int y, .int (z + 1)])) a (.lst [.int x, .int ((y * 48271 + 1009 * (z + 1) + 7) % 2147483647), .int (z + 1)])) a = some (.lst [.int x, .int y', .int (z + 1)]) := by
        rw [hy]
        exact upd_same
      refine ⟨_, rfl, a, _, _, _, rfl, rfl, SqL.of h2, rfl, _, rfl, a, _, _, _, rfl, rfl, SqL.of h2, rfl, _, _, rfl, rfl, .inl ⟨by omega, by omega⟩, _, rfl, a, _, _, _, rfl, rfl, SqL.of h2, rfl, _, _, rfl, rfl, .inl ⟨by decide, by decide⟩, _, _, rfl, rfl, _, _, rfl, rfl, _, _, rfl, rfl, (by show (0 : Int) < 2147483629; decide), ?_⟩
      obtain ⟨m2, hm⟩ : ∃ m2 : Int, m2 = (y' * y' + 69621 * y' + 11) % 2147483629 := ⟨_, rfl⟩
      have c0 : 0 ≤ (y' * y' + 69621 * y' + 11) % 2147483629 := Int.emod_nonneg _ (by decide)
      have c1 : (y' * y' + 69621 * y' + 11) % 2147483629 < 2147483629 := Int.emod_lt_of_pos _ (by decide)
      refine ⟨_, rfl, _, rfl, _, _, rfl, rfl, .inl ⟨Int.lt_of_lt_of_le (by decide) c0, Int.lt_trans c1 (by decide)⟩, _, rfl, _, _, rfl, rfl, .inl ⟨by decide, by decide⟩, _, _, rfl, rfl, _, _, rfl, rfl, (by show (0 : Int) < 2147483587; decide), ?_⟩
      refine ⟨_, rfl, _, _, rfl, rfl, ⟨by decide, by decide⟩, _, rfl, _, _, rfl, rfl, m0, ?_⟩
      rw [upd_upd]
      exact q _ _ (Int.emod_nonneg _ (by omega)) (Int.emod_lt_of_pos _ m0) ⟨x, y', z + 1, by rw [hy]; rfl, b0, b1⟩
end
end CC
namespace CC
open PySem L2 TL
section
variable {P : Program} {w : World} {K : PySem.W.Frag} {mg : Str → Option Value} {base : Heap} {kA : Addr}
theorem ok_draw2 {f : Addr} {fd : FuncData} {k : Nat} (F : Fun K "_law_draw" "_law_draw" sDraw f fd) : FnOk P w K mg base CX0 (k + 1) f fd ["_law_source_here", "_law_many"] spDraw2 := by
  have G : FnOk P w K mg base CX0 (k + 1) f fd ["_law_source_here", "_law_many"] spDraw := ok_draw F
  refine ⟨fun vs H Q E h => ?_, fun A outer s H args us vs Q E hr e0 hb r h => G.run A outer s H args us vs Q E hr e0 hb r ?_⟩
  · obtain ⟨s, m, rfl, _⟩ := h
    rfl
  · obtain ⟨a, m, rfl, ⟨o, h1, h2⟩, m0, m1, q⟩ := h
    refine ⟨a, m, o, rfl, h1, h2, by omega, by omega, fun r o' r0 r1 ho => ?_⟩
    have e : r = ((r.toNat : Nat) : Int) := by omega
    rw [e]
    exact q _ _ (by omega) (.one ho)
theorem scChoose : FnScope ["_law_source_here", "_law_values"] ["_law_source_here", "_law_values"] (defScope sChoose) := ⟨rfl, rfl, rfl, by decide +kernel, rfl, by decide +kernel, by decide +kernel⟩
theorem ok_choose {f : Addr} {fd : FuncData} {k : Nat} (F : Fun K "_law_choose" "_law_choose" sChoose f fd) (T : Glb K mg kA) (cD : Cal P w K mg base "_law_draw" ["_law_source_here", "_law_many"] spDraw2 1) :
    FnOk P w K mg base CX0 (k + 2) f fd ["_law_source_here", "_law_values"] (spChoose K) := by
  have GD := cD.ok (k + 1) (by omega)
  refine F.ok scChoose (fun vs H Q E h => ?_) (fun cdv A outer s H vs Q E hr h => ?_)
  · obtain ⟨s, v, rfl, _⟩ := h
    rfl
  · obtain ⟨sr, v, rfl, hs, h⟩ := h
    refine ⟨_, pss_one (ps_ret (pe_ix ix_seq (pv 1) (pe_call GD hr rfl cD.g cD.kp cD.b .nil pass0 (pa_cons (pv 0) (pa_cons (pe_callB call_len (by rfl) T.len PySem.boot_len (pa_cons (pv 1) pa_nil)) pa_nil))) (fun _ _ => rfl))), ?_⟩
    rcases h with ⟨a, xs, rfl, ha, l0, l1, q⟩ | ⟨z, rfl, l0, l1, q⟩
    · refine ⟨_, rfl, _, rfl, _, rfl, _, xs.length, rfl, .inl ⟨xs, same_l (wo_le sr) ha, rfl⟩, sr, xs.length, rfl, hs, l0, by omega, fun r H' hr2 rn => ?_⟩
      have e : xs[r]? = some xs[r] := List.getElem?_eq_getElem hr2
      exact .inl ⟨a, xs, _, _, rfl, rfl, same_l (rn.same.trans (wo_le sr)) ha, atI_nat e, q r _ H' e rn⟩
    · refine ⟨_, rfl, _, rfl, _, rfl, _, z.length, rfl, ⟨Nat.le_of_lt (small1000 (by omega)), rfl⟩, sr, z.length, rfl, hs, l0, by omega, fun r H' hr2 rn => ?_⟩
      rw [len_tl] at hr2
      have e : (tl z)[r]? = some (tl z)[r] := List.getElem?_eq_getElem hr2
      exact .inr (.inr ⟨z, _, _, rfl, rfl, Nat.le_of_lt (small1000 (by omega)), atI_nat e, q _ H' rn⟩)
end
end CC
namespace CC
open PySem L2 TL
/-- a list of rules beside a source -/
structure LsR (K : PySem.W.Frag) (H0 H : Hp) (s p : Addr) (rs : List R) : Prop where
  new : H0 p = none
  nes : p ≠ s
  lst : ∃ us, H p = some (.lst us) ∧ DpAll K H us (rs.map R.d)
section
variable {K : PySem.W.Frag} {H0 H H' : Hp} {s p q : Addr} {rs : List R}
theorem LsR.grow (a : LsR K H0 H s p rs) (e : Same H H') : LsR K H0 H' s p rs := by
  obtain ⟨us, h1, h2⟩ := a.lst
  exact ⟨a.new, a.nes, us, e _ _ h1, dps_same e _ _ h2⟩
theorem LsR.run (a : LsR K H0 H s p rs) (hs : Src H s) (e : Ran H H' s) : LsR K H0 H' s p rs := by
  obtain ⟨us, h1, h2⟩ := a.lst
  exact ⟨a.new, a.nes, us, e.at_ h1 a.nes, rds_T (e.T hs) h2⟩
theorem LsR.len (a : LsR K H0 H s p rs) {us : List V} (h : H p = some (.lst us)) : us.length = rs.length := by
  obtain ⟨vs, h1, h2⟩ := a.lst
  rw [h] at h1
  cases h1
  rw [dps_len h2, List.length_map]
theorem Ran.put' {H1 : Hp} {o : HO} (r : Ran H H1 s) (hp : H p = none) (n : p ≠ s) : Ran H (upd H1 p o) s := by
  refine ⟨fun b u e => ?_, ?_⟩
  · have hb : b ≠ s := fun z => by
      rw [z, wo_at] at e
      cases e
    have bp : b ≠ p := fun z => by
      rw [wo_ne hb, z, hp] at e
      cases e
    have := r.same b u e
    rw [wo_ne hb] at this ⊢
    rw [upd_ne bp]
    exact this
  · obtain ⟨o', h1, h2⟩ := r.src
    exact ⟨o', by rw [upd_ne (Ne.symm n)]; exact h1, h2⟩
/-- one more at its end -/
theorem LsR.push (a : LsR K H0 H s p rs) {v : V} {r : R} (d : Dp K H v r.d) : ∃ us, H p = some (.lst us) ∧ LsR K H0 (upd H p (.lst (us ++ [v]))) s p (rs ++ [r]) := by
  obtain ⟨us, h1, h2⟩ := a.lst
  refine ⟨us, h1, a.new, a.nes, us ++ [v], upd_same, ?_⟩
  rw [List.map_append]
  exact dps_app (rds_T (upd_T h1) h2) (dps_one (rd_T (upd_T h1) d))
/-- another list changes -/
theorem LsR.put (a : LsR K H0 H s p rs) {us : List V} {o : HO} (hq : H q = some (.lst us)) (n : p ≠ q) : LsR K H0 (upd H q o) s p rs := by
  obtain ⟨vs, h1, h2⟩ := a.lst
  exact ⟨a.new, a.nes, vs, by rw [upd_ne n]; exact h1, rds_T (upd_T hq) h2⟩
theorem LsR.data (a : LsR K H0 H s p rs) : Dp K H (.ref p) (.list (rs.map R.d)) := by
  obtain ⟨us, h1, h2⟩ := a.lst
  exact .lst (SqL.of h1) h2
end
end CC
namespace CC
open PySem L2
theorem cut_whole {xs : List V} {lo hi : Option Int} (h : HT.sIx xs.length 0 lo = 0 ∧ HT.sIx xs.length xs.length hi = xs.length) : cutV xs lo hi = xs := by
  unfold cutV
  rw [h.1, h.2]
  simp
/-- a part of a tuple, be it the whole or not -/
theorem sl_all {K : PySem.W.Frag} {H : Hp} {a : Addr} {xs : List V} {lo hi : Option Int} {Q : VK} (h : SqT K H a xs) (q : ∀ (t : Addr) (H' : Hp), Same H H' → SqT K H' t (cutV xs lo hi) → Q (.ref t) H') : rSlA K (.ref a) lo hi H Q :=
  ⟨a, xs, rfl, h, fun z => q a H (Same.refl _) (by rw [cut_whole z]; exact h), fun _ p np => q p _ (same_new np) (.inl (.inl upd_same))⟩
theorem cat_all {K : PySem.W.Frag} {H : Hp} {a b : Addr} {xs ys : List V} {Q : VK} (h : SqT K H a xs) (g : SqT K H b ys) (l : xs.length + ys.length ≤ sizeLine) (q : ∀ (t : Addr) (H' : Hp), Same H H' → SqT K H' t (xs ++ ys) → Q (.ref t) H') : rCatA K (.ref a) (.ref b) H Q :=
  ⟨a, b, xs, ys, rfl, rfl, h, g, l, fun z => q b H (Same.refl _) (by rw [z]; exact g), fun _ z => q a H (Same.refl _) (by rw [z, List.append_nil]; exact h), fun _ _ p np => q p _ (same_new np) (.inl (.inl upd_same))⟩
end CC
namespace CC
open PySem L2 TL
def spRwl (K : PySem.W.Frag) : Sp := fun vs H Q _ => ∃ (s l : Addr) (m : Nat) (us : List V) (rows : List (List Nat)), vs = [.ref s, .int (m : Int), .ref l] ∧ Src H s ∧ 2 ≤ m ∧ m ≤ 6 ∧ SqL K (wo H s) l us ∧ DpAll K H us (rows.map gd) ∧ (∀ r ∈ rows, RowOk m r) ∧ rows.length < 500 ∧ ∀ (t : Addr) (row : List Nat) (H' : Hp), Ran H H' s → SqT K H' t (nms row) → RowOk m row → Q (.ref t) H'
theorem gds_nil (F : List (List Nat)) : PyData.eqv (.list (F.map gd)) (.list []) = F.isEmpty := by
  cases F with
  | nil => simp [PyData.eqv, PyData.eqvAll]
  | cons x F => simp [PyData.eqv, PyData.eqvAll]
theorem rep_nms (k x : Nat) : (List.replicate k [V.int (x : Int)]).flatten = nms (List.replicate k x) := by
  induction k with
  | zero => rfl
  | succ k ih =>
    rw [List.replicate_succ, List.flatten_cons, ih, List.replicate_succ]
    rfl
section
variable {P : Program} {w : World} {K : PySem.W.Frag} {mg : Str → Option Value} {base : Heap} {kA : Addr}
abbrev nRwl : List Str := ["_law_source_here", "_law_many", "_law_listed", "_law_way", "_law_top", "_law_row_here", "_law_at", "_law_column"]
theorem scRwl : FnScope nRwl ["_law_source_here", "_law_many", "_law_listed"] (defScope sRwl) := ⟨rfl, rfl, rfl, by decide +kernel, rfl, by decide +kernel, by decide +kernel⟩
theorem ok_rwl {f : Addr} {fd : FuncData} {k : Nat} (F : Fun K "_law_row" "_law_row" sRwl f fd) (T : Glb K mg kA) (cD : Cal P w K mg base "_law_draw" ["_law_source_here", "_law_many"] spDraw2 1) (cC : Cal P w K mg base "_law_choose" ["_law_source_here", "_law_values"] (spChoose K) 2) : FnOk P w K mg base CX0 (k + 3) f fd ["_law_source_here", "_law_many", "_law_listed"] (spRwl K) := by
  have GD := cD.ok (k + 2) (by omega)
  have GC := cC.ok (k + 2) (by omega)
  refine F.ok scRwl (fun vs H Q E h => ?_) (fun cdv A outer sh H vs Q E hr h => ?_)
  · obtain ⟨s, l, m, us, rows, rfl, _⟩ := h
    rfl
  · obtain ⟨s, l, m, us, rows, rfl, src, w1, w6, hl, dl, ok, few, q⟩ := h
    have n := scRwl.nd
    have hu64 : (A.deeper (PyProof.Rows.envOfC (Str.ofString "_law_row") (defScope sRwl) sh.heap.objs.size f cdv)).units + 64 < cLine := by
      have := hr.un
      omega
    refine ⟨_, (pss_cons (ps_asg (pe_tup (pa_cons (pe_call GD hr rfl cD.g cD.kp cD.b .nil pass0 (pa_cons (pv 0) (pa_cons pe_int pa_nil))) (pa_cons (pe_ix ix_list (pe_lst (pa_cons pe_int (pa_cons pe_int (pa_cons pe_int pa_nil)))) (pe_call GD hr rfl cD.g cD.kp cD.b .nil pass0 (pa_cons (pv 0) (pa_cons pe_int pa_nil))) (fun _ _ => rfl)) pa_nil))) (pg_tup rfl (pgs_cons (pg_name (i := 3) n rfl (.inl rfl)) (pgs_cons (pg_name (i := 4) n rfl (.inr rfl)) pgs_nil))))
      (C8.pss_cut (ps_if (PW.pt (pw_or (pt_cmpR op_lt (pv 3) pe_int (nomark _)) (pw_or1 (PW.pt (pw_and (pt_cmpR (op_eqD hu64) (pv 2) (pe_lst pa_nil) (nomark _)) (pw_and1 (pt_cmpR op_lt (pv 3) pe_int (nomark _))))))))
        (pss_one (ps_ret (pe_op op_repT (pe_tup (pa_cons (pe_call GD hr rfl cD.g cD.kp cD.b .nil pass0 (pa_cons (pv 0) (pa_cons (pv 4) pa_nil))) pa_nil)) (pv 1))))
        pss_nil)
      (pss_cons (ps_if (pt_cmpR op_lt (pv 3) pe_int (nomark _))
        (pss_cons (ps_par (i := 5) (j := 6) (by rfl) n rfl rfl (by decide) rfl rfl (pa_cons (pe_call GC hr rfl cC.g cC.kp cC.b .nil pass0 (pa_cons (pv 0) (pa_cons (pv 2) pa_nil))) (pa_cons (pe_call GD hr rfl cD.g cD.kp cD.b .nil pass0 (pa_cons (pv 0) (pa_cons (pv 1) pa_nil))) pa_nil)) (by rfl))
        (pss_one (ps_ret (pe_ifExp (pt_cmpR op_lt (pv 3) pe_int (nomark _)) (pv 5) (pe_op op_catA (pe_op op_catA (pe_slice sl_tupA (pv 5) po_none (po_some (pv 6))) (pe_tup (pa_cons (pe_call GD hr rfl cD.g cD.kp cD.b .nil pass0 (pa_cons (pv 0) (pa_cons (pv 4) pa_nil))) pa_nil))) (pe_slice sl_tupA (pv 5) (po_some (pe_op op_add (pv 6) pe_int)) po_none))))))
        pss_nil)
      (pss_one (ps_ret (pe_callTy (r := rTupOf K) call_tuple_of (by rfl) T.tup (by decide +kernel) (pa_cons (pe_lc (own := [("_law_column", 7)]) (g := gName 7) (tt := tYes) (te := tCall spDraw2 [] E0 (tCons (tVar 0) (tCons (tVar 4) tNil))) rfl n (pi_range1 (by rfl) T.rng (pa_cons (pv 1) pa_nil)) (blkOk_by (N := nRwl) (sc := defScope sRwl) (by decide +kernel))
        (fun _ _ _ _ _ => (pg_name (i := 7) n rfl (.inl rfl))) (fun _ _ _ _ _ => pts_nil) (fun _ _ _ _ _ => (pe_call GD hr rfl cD.g cD.kp cD.b .nil pass0 (pa_cons (pv 0) (pa_cons (pv 4) pa_nil))))) pa_nil))))))), ?_⟩
    have ran0 : Ran H H s := ⟨Same.refl _, src⟩
    have ul : us.length = rows.length := by rw [dps_len dl, List.length_map]
    refine ⟨_, rfl, s, 6, rfl, src, by decide, by decide, fun wy H1 hwy r1 => ?_⟩
    refine ⟨(by show 3 ≤ sizeLine; decide), fun l3 n3 => ?_⟩
    have r1' := ran0.trans r1
    have s2 : Same H1 (upd H1 l3 (.lst [.int 2, .int 3, .int 10000])) := same_new n3
    have hl3 : (upd H1 l3 (.lst [.int 2, .int 3, .int 10000])) l3 = some (.lst [.int 2, .int 3, .int 10000]) := upd_same
    have ls3 : l3 ≠ s := r1'.ne n3
    generalize upd H1 l3 (.lst [.int 2, .int 3, .int 10000]) = H2 at s2 hl3
    have r2 := r1'.grow s2
    refine ⟨_, rfl, s, 3, rfl, r2.src, by decide, by decide, fun d3 H3 hd3 r3 => ?_⟩
    have r3' := r2.trans r3
    obtain ⟨tp, etp, tp1, tp2⟩ : ∃ tp : Nat, ([.int 2, .int 3, .int 10000] : List V)[d3]? = some (.int (tp : Int)) ∧ 0 < tp ∧ tp ≤ 10000 := by
      match d3, hd3 with
      | 0, _ => exact ⟨2, rfl, by decide, by decide⟩
      | 1, _ => exact ⟨3, rfl, by decide, by decide⟩
      | 2, _ => exact ⟨10000, rfl, by decide, by decide⟩
    refine ⟨l3, _, _, _, rfl, rfl, SqL.of (r3.at_ hl3 ls3), atI_nat etp, (by show 2 ≤ sizeLine; decide), fun pr npr => ?_⟩
    have s4 : Same H3 (upd H3 pr (.tup [.int (wy : Int), .int (tp : Int)])) := same_new npr
    have hpr : (upd H3 pr (.tup [.int (wy : Int), .int (tp : Int)])) pr = some (.tup [.int (wy : Int), .int (tp : Int)]) := upd_same
    generalize upd H3 pr (.tup [.int (wy : Int), .int (tp : Int)]) = H4 at s4 hpr
    have r4 := r3'.grow s4
    refine ⟨pr, _, rfl, .inl (.inl hpr), rfl, _, _, rfl, _, _, rfl, rfl, ?_⟩
    clear hpr s4 npr hl3 s2 n3
    -- (x,) * many
    have many : ∀ H5, Ran H H5 s → ∀ σ : L2.St, σ[0]? = some (some (.ref s)) → σ[1]? = some (some (.int (m : Int))) → σ[4]? = some (some (.int (tp : Int))) → tOp (rRepT K) (tTup (tCons (tCall spDraw2 [] E0 (tCons (tVar 0) (tCons (tVar 4) tNil))) tNil)) (tVar 1) σ H5 Q := fun H5 r5 σ e0 e1 e4 => by
      refine ⟨_, e0, _, e4, s, tp, rfl, r5.src, tp1, by omega, fun d H6 hd r6 => ⟨(by show 1 ≤ sizeLine; decide), fun t nt => ?_⟩⟩
      have r6' := r5.trans r6
      refine ⟨_, e1, t, _, [.int (d : Int)], rfl, rfl, .inl (.inl upd_same), by simp, by omega, by omega, (by show 1 ≤ 1000; decide), fun p np => ?_⟩
      rw [show ((m : Int)).toNat = m by omega, rep_nms]
      refine q p (List.replicate m d) _ ((r6'.grow (same_new nt)).grow (same_new np)) (.inl (.inl upd_same)) ⟨List.length_replicate, fun v hv => ?_⟩
      rw [List.eq_of_mem_replicate hv]
      omega
    let Mid : L2.St → Hp → Prop := fun σ H' => σ = [some (.ref s), some (.int (m : Int)), some (.ref l), some (.int (wy : Int)), some (.int (tp : Int)), none, none, none] ∧ Ran H H' s ∧ (wy < 5 → rows ≠ [])
    refine ⟨Mid, ?_, ?_⟩
    · refine ⟨_, rfl, _, _, rfl, rfl, _, rfl, ?_⟩
      by_cases e2 : wy < 2
      · refine iteT' (decide_eq_true (by omega)) (iteT ?_)
        exact many H4 r4 _ rfl rfl rfl
      · refine iteF' (decide_eq_false (by omega)) ?_
        refine ⟨_, rfl, Nat.zero_le _, fun p np => ?_⟩
        have s5 : Same H4 (upd H4 p (.lst [])) := same_new np
        have hl5 : SqL K (upd H4 p (.lst [])) l us := same_l (r4.same.trans ((wo_le s).trans s5)) hl
        have dl5 : DpAll K (upd H4 p (.lst [])) us (rows.map gd) := gds_T ((r4.T src).trans (same_T s5)) dl
        refine ⟨.list (rows.map gd), .list [], .lst hl5 dl5, .lst (SqL.of upd_same) .nil, RW.gdl_shp _, RW.gdl_shp [], _, rfl, ?_⟩
        rw [gds_nil]
        have r5 := r4.grow s5
        cases eR : rows.isEmpty with
        | false =>
          refine iteF (iteF ⟨rfl, r5, fun _ z => ?_⟩)
          rw [z] at eR
          cases eR
        | true =>
          refine iteT ⟨_, rfl, _, _, rfl, rfl, _, rfl, ?_⟩
          by_cases e5 : wy < 5
          · refine iteT' (decide_eq_true (by omega)) ?_
            exact many _ r5 _ rfl rfl rfl
          · refine iteF' (decide_eq_false (by omega)) ⟨rfl, r5, fun z => absurd z e5⟩
    rintro σ H5 ⟨rfl, r5, hne⟩
    refine ⟨_, rfl, _, _, rfl, rfl, _, rfl, ?_⟩
    by_cases e5 : wy < 5
    · refine iteT' (decide_eq_true (by omega)) ?_
      have rpos : 0 < us.length := by
        rw [ul]
        exact List.length_pos_iff.mpr (hne e5)
      refine ⟨_, rfl, _, rfl, s, _, rfl, r5.src, .inl ⟨l, us, rfl, same_l r5.same hl, rpos, by omega, fun i x H6 hx r6 => ?_⟩⟩
      have r6' := r5.trans r6
      obtain ⟨row, hrow, drow⟩ := dps_gat dl hx
      have rok := ok row (List.mem_of_getElem? hrow)
      obtain ⟨t, rfl, ht⟩ := gd_at (gd_T (r6'.T src) drow)
      refine ⟨_, rfl, _, rfl, s, m, rfl, r6'.src, by omega, by omega, fun a H7 ha r7 => ⟨_, _, rfl, ?_⟩⟩
      have r7' := r6'.trans r7
      have ht7 := sqt_T (r7.T r6'.src) ht
      refine ⟨_, rfl, _, _, rfl, rfl, _, rfl, ?_⟩
      by_cases e3 : wy < 3
      · refine iteT' (decide_eq_true (by omega)) ⟨_, rfl, q t row H7 r7' ht7 rok⟩
      · refine iteF' (decide_eq_false (by omega)) ?_
        refine ⟨_, rfl, _, rfl, _, rfl, sl_all ht7 fun t1 H8 s8 h1 => ?_⟩
        rw [show cutV (nms row) none (some (a : Int)) = nms (row.take a) from by rw [cut_to, nms, nms, List.map_take]] at h1
        have r8 := r7'.grow s8
        refine ⟨_, rfl, _, rfl, s, tp, rfl, r8.src, tp1, by omega, fun d H9 hd r9 => ⟨(by show 1 ≤ sizeLine; decide), fun t2 nt2 => ?_⟩⟩
        have r9' := r8.trans r9
        have s10 : Same H9 (upd H9 t2 (.tup [.int (d : Int)])) := same_new nt2
        have h2 : SqT K (upd H9 t2 (.tup [.int (d : Int)])) t2 (nms [d]) := .inl (.inl upd_same)
        have h1' := same_t s10 (sqt_T (r9.T r8.src) h1)
        have ht10 := same_t s10 (sqt_T (r9.T r8.src) (same_t s8 ht7))
        generalize upd H9 t2 (.tup [.int (d : Int)]) = H10 at s10 h2 h1' ht10
        have r10 := r9'.grow s10
        have la : (row.take a).length = a := by rw [List.length_take, rok.1]; omega
        refine cat_all h1' h2 (by rw [nms_len, nms_len, la]; exact Nat.le_of_lt (small1000 (by show a + 1 ≤ 1000; omega))) fun t3 H11 s11 h3 => ?_
        rw [← nms_app] at h3
        have r11 := r10.grow s11
        have ht11 := same_t s11 ht10
        refine ⟨_, rfl, _, rfl, _, _, rfl, rfl, _, rfl, ?_⟩
        dsimp only [tNoPart]
        refine sl_all ht11 fun t4 H12 s12 h4 => ?_
        rw [show cutV (nms row) (some ((a : Int) + 1)) none = nms (row.drop (a + 1)) from by rw [show ((a : Int) + 1) = ((a + 1 : Nat) : Int) by omega, cut_from, nms, nms, List.map_drop]] at h4
        have ld : (row.drop (a + 1)).length = m - (a + 1) := by rw [List.length_drop, rok.1]
        refine cat_all (same_t s12 h3) h4 (by rw [nms_len, nms_len, ld, List.length_append, la]; exact Nat.le_of_lt (small1000 (by show a + 1 + (m - (a + 1)) ≤ 1000; omega))) fun t5 H13 s13 h5 => ?_
        rw [← nms_app] at h5
        refine q t5 _ H13 ((r11.grow s12).grow s13) h5 ⟨?_, fun v hv => ?_⟩
        · rw [List.length_append, List.length_append, la, ld]
          show a + 1 + (m - (a + 1)) = m
          omega
        · rcases List.mem_append.mp hv with z | z
          · rcases List.mem_append.mp z with z | z
            · exact rok.2 v (List.mem_of_mem_take z)
            · rw [List.mem_singleton.mp z]
              omega
          · exact rok.2 v (List.mem_of_mem_drop z)
    · refine iteF' (decide_eq_false (by omega)) ?_
      refine ⟨_, rfl, _, rfl, by omega, by omega, fun D nD => ?_⟩
      refine lc_range (lo := 0) (n := ((m : Nat) : Int).toNat) (fun j H' => Ran H H' s ∧ H D = none ∧ D ≠ s ∧ (∃ r, H' D = some (.lst (nms r)) ∧ r.length = j ∧ ∀ x ∈ r, x ≤ 9999) ∧ j ≤ 6) ⟨r5.grow (same_new nD), r5.free nD, r5.ne nD, ⟨[], upd_same, rfl, (fun x hx => nomatch hx)⟩, by omega⟩ ?_ ?_
      · rintro j H7 hj ⟨r7, nD0, Ds, ⟨r, hD7, rl, rv⟩, j6⟩
        refine ⟨rfl, yes_if ⟨_, rfl, _, rfl, s, tp, rfl, r7.src, tp1, by omega, fun x H8 hx r8 => ?_⟩⟩
        have hD8 := r8.at_ hD7 Ds
        refine ⟨_, hD8, small1000 (by rw [nms_len]; omega), (r7.trans r8).put' nD0 Ds, nD0, Ds, ⟨r ++ [x], ?_, ?_, ?_⟩, by omega⟩
        · rw [upd_same, nms_app]
          rfl
        · rw [List.length_append, List.length_singleton, rl]
        · intro y hy
          rcases List.mem_append.mp hy with z | z
          · exact rv y z
          · rw [List.mem_singleton.mp z]
            omega
      rintro H7 ⟨r7, nD0, Ds, ⟨r, hD7, rl, rv⟩, _⟩
      rw [show ((m : Nat) : Int).toNat = m by omega] at rl
      refine ⟨D, _, rfl, .inl ⟨SqL.of hD7, fun z nz => ?_⟩⟩
      exact q z r _ (r7.grow (same_new nz)) (.inl (.inl upd_same)) ⟨rl, rv⟩
end
end CC
/-! tuple * int, the int 1 among them (the same tuple) -/
namespace RP1
open PySem PySem.Spec PyProof.Rows L2
theorem tuple_mul1 (l : Addr) (items : Array Value) (n : Nat) (dd : Option Addr) (sl : Array (Option Value)) (u : Tok) :
    Meets (Builtin.«tuple.__mul__» ⟨[.ref l, .int 1 u], []⟩) (fun _ R s => s.heap.get? l = some { cls := .type "tuple", dict := dd, data := .seq items n, slots := sl } ∧ R (.ok (.ret (Value.ref l))) { s with toks := s.toks }) :=
  .of_wp fun prog w A R s h => by
    obtain ⟨hp, g, d, tk, os⟩ := s
    obtain ⟨hl, h⟩ := h
    have f1 := AutoSeq1.idx_int
    wp_walk using wpAny_loadPart' hl
    repeat (first
      | (refine wpAny_ite_false (decide_eq_false (by decide)) ?_; wp_walk using wpAny_loadPart' hl)
      | (refine wpAny_ite_true (by rw [Bool.or_eq_true]; exact .inr rfl) ?_; wp_walk using wpAny_loadPart' hl))
    exact ⟨_, rfl, h⟩
def rRepA (K : PySem.W.Frag) : R2 := fun x y H Q => ∃ l k xs, x = .ref l ∧ y = .int k ∧ SqT K H l xs ∧ xs ≠ [] ∧ 1 ≤ k ∧ k ≤ 1000 ∧ xs.length ≤ 1000 ∧ ∀ p H', Same H H' → SqT K H' p (List.replicate k.toNat xs).flatten → Q (.ref p) H'
theorem op_repA {X : Cx} : OpR X (binaryOp .Mult) (rRepA X.K) := by
  intro pins s σ H x y v u Q I rx ry h
  obtain ⟨l, k, xs, rfl, rfl, hT, hne, h1, h2, hz, q⟩ := h
  by_cases e : k = 1
  case neg => exact op_repT pins s σ H _ _ v u Q I rx ry ⟨l, k, xs, rfl, rfl, hT, hne, by omega, h2, hz, fun p np => q p _ (CC.same_new np) (.inl (.inl upd_same))⟩
  subst e
  cases rx
  obtain ⟨t, rfl⟩ := ry
  obtain ⟨its, r, ⟨⟨cls, dd, data, sl⟩, ho, hc, n, hd⟩, hs⟩ := I.tuple hT
  simp only at hc hd
  subst hc hd
  refine wpAny_binaryOp_repeat_ref (T := "tuple") (U := "int") (by decide) ⟨_, ho, rfl⟩ (fun s' => typeIs_int s' 1 t) noFill_tuple_mul F.fills_int_mul F.slot_int_rmul repeat_tuple F.slot_int_index.lookup
    (call_meets F.slot_int_rmul (typeIs_int s 1 t) F.entry_int_rmul (F.args_int_rmul_2 _ _) (int_rmul_tuple 1 t l its.toArray n dd sl)
      ⟨ho, rfl, ⟨_, ho, rfl⟩, call_meets F.slot_tuple_mul ⟨_, ho, rfl⟩ F.entry_tuple_mul (F.args_tuple_mul_2 _ _) (tuple_mul1 l its.toArray n dd sl t) ⟨ho, ?_⟩⟩)
  refine ⟨.ref l, H, I, rfl, q l H (Same.refl H) ?_⟩
  have e : (List.replicate (1 : Int).toNat xs).flatten = xs := by simp
  rw [e]
  exact hT
end RP1
namespace CC
open PySem L2 TL
/-! ### _law_row, of tables with one column too -/
def spRw1 (K : PySem.W.Frag) : Sp := fun vs H Q _ => ∃ (s l : Addr) (m : Nat) (us : List V) (rows : List (List Nat)), vs = [.ref s, .int (m : Int), .ref l] ∧ Src H s ∧ 1 ≤ m ∧ m ≤ 6 ∧ SqL K (wo H s) l us ∧ DpAll K H us (rows.map gd) ∧ (∀ r ∈ rows, RowOk m r) ∧ rows.length < 500 ∧ ∀ (t : Addr) (row : List Nat) (H' : Hp), Ran H H' s → SqT K H' t (nms row) → RowOk m row → Q (.ref t) H'
section
variable {P : Program} {w : World} {K : PySem.W.Frag} {mg : Str → Option Value} {base : Heap} {kA : Addr}
theorem ok_rw1 {f : Addr} {fd : FuncData} {k : Nat} (F : Fun K "_law_row" "_law_row" sRwl f fd) (T : Glb K mg kA) (cD : Cal P w K mg base "_law_draw" ["_law_source_here", "_law_many"] spDraw2 1) (cC : Cal P w K mg base "_law_choose" ["_law_source_here", "_law_values"] (spChoose K) 2) : FnOk P w K mg base CX0 (k + 3) f fd ["_law_source_here", "_law_many", "_law_listed"] (spRw1 K) := by
  have GD := cD.ok (k + 2) (by omega)
  have GC := cC.ok (k + 2) (by omega)
  refine F.ok scRwl (fun vs H Q E h => ?_) (fun cdv A outer sh H vs Q E hr h => ?_)
  · obtain ⟨s, l, m, us, rows, rfl, _⟩ := h
    rfl
  · obtain ⟨s, l, m, us, rows, rfl, src, w1, w6, hl, dl, ok, few, q⟩ := h
    have n := scRwl.nd
    have hu64 : (A.deeper (PyProof.Rows.envOfC (Str.ofString "_law_row") (defScope sRwl) sh.heap.objs.size f cdv)).units + 64 < cLine := by
      have := hr.un
      omega
    refine ⟨_, (pss_cons (ps_asg (pe_tup (pa_cons (pe_call GD hr rfl cD.g cD.kp cD.b .nil pass0 (pa_cons (pv 0) (pa_cons pe_int pa_nil))) (pa_cons (pe_ix ix_list (pe_lst (pa_cons pe_int (pa_cons pe_int (pa_cons pe_int pa_nil)))) (pe_call GD hr rfl cD.g cD.kp cD.b .nil pass0 (pa_cons (pv 0) (pa_cons pe_int pa_nil))) (fun _ _ => rfl)) pa_nil))) (pg_tup rfl (pgs_cons (pg_name (i := 3) n rfl (.inl rfl)) (pgs_cons (pg_name (i := 4) n rfl (.inr rfl)) pgs_nil))))
      (C8.pss_cut (ps_if (PW.pt (pw_or (pt_cmpR op_lt (pv 3) pe_int (nomark _)) (pw_or1 (PW.pt (pw_and (pt_cmpR (op_eqD hu64) (pv 2) (pe_lst pa_nil) (nomark _)) (pw_and1 (pt_cmpR op_lt (pv 3) pe_int (nomark _))))))))
        (pss_one (ps_ret (pe_op (r := RP1.rRepA K) RP1.op_repA (pe_tup (pa_cons (pe_call GD hr rfl cD.g cD.kp cD.b .nil pass0 (pa_cons (pv 0) (pa_cons (pv 4) pa_nil))) pa_nil)) (pv 1))))
        pss_nil)
      (pss_cons (ps_if (pt_cmpR op_lt (pv 3) pe_int (nomark _))
        (pss_cons (ps_par (i := 5) (j := 6) (by rfl) n rfl rfl (by decide) rfl rfl (pa_cons (pe_call GC hr rfl cC.g cC.kp cC.b .nil pass0 (pa_cons (pv 0) (pa_cons (pv 2) pa_nil))) (pa_cons (pe_call GD hr rfl cD.g cD.kp cD.b .nil pass0 (pa_cons (pv 0) (pa_cons (pv 1) pa_nil))) pa_nil)) (by rfl))
        (pss_one (ps_ret (pe_ifExp (pt_cmpR op_lt (pv 3) pe_int (nomark _)) (pv 5) (pe_op op_catA (pe_op op_catA (pe_slice sl_tupA (pv 5) po_none (po_some (pv 6))) (pe_tup (pa_cons (pe_call GD hr rfl cD.g cD.kp cD.b .nil pass0 (pa_cons (pv 0) (pa_cons (pv 4) pa_nil))) pa_nil))) (pe_slice sl_tupA (pv 5) (po_some (pe_op op_add (pv 6) pe_int)) po_none))))))
        pss_nil)
      (pss_one (ps_ret (pe_callTy (r := rTupOf K) call_tuple_of (by rfl) T.tup (by decide +kernel) (pa_cons (pe_lc (own := [("_law_column", 7)]) (g := gName 7) (tt := tYes) (te := tCall spDraw2 [] E0 (tCons (tVar 0) (tCons (tVar 4) tNil))) rfl n (pi_range1 (by rfl) T.rng (pa_cons (pv 1) pa_nil)) (blkOk_by (N := nRwl) (sc := defScope sRwl) (by decide +kernel))
        (fun _ _ _ _ _ => (pg_name (i := 7) n rfl (.inl rfl))) (fun _ _ _ _ _ => pts_nil) (fun _ _ _ _ _ => (pe_call GD hr rfl cD.g cD.kp cD.b .nil pass0 (pa_cons (pv 0) (pa_cons (pv 4) pa_nil))))) pa_nil))))))), ?_⟩
    have ran0 : Ran H H s := ⟨Same.refl _, src⟩
    have ul : us.length = rows.length := by rw [dps_len dl, List.length_map]
    refine ⟨_, rfl, s, 6, rfl, src, by decide, by decide, fun wy H1 hwy r1 => ?_⟩
    refine ⟨(by show 3 ≤ sizeLine; decide), fun l3 n3 => ?_⟩
    have r1' := ran0.trans r1
    have s2 : Same H1 (upd H1 l3 (.lst [.int 2, .int 3, .int 10000])) := same_new n3
    have hl3 : (upd H1 l3 (.lst [.int 2, .int 3, .int 10000])) l3 = some (.lst [.int 2, .int 3, .int 10000]) := upd_same
    have ls3 : l3 ≠ s := r1'.ne n3
    generalize upd H1 l3 (.lst [.int 2, .int 3, .int 10000]) = H2 at s2 hl3
    have r2 := r1'.grow s2
    refine ⟨_, rfl, s, 3, rfl, r2.src, by decide, by decide, fun d3 H3 hd3 r3 => ?_⟩
    have r3' := r2.trans r3
    obtain ⟨tp, etp, tp1, tp2⟩ : ∃ tp : Nat, ([.int 2, .int 3, .int 10000] : List V)[d3]? = some (.int (tp : Int)) ∧ 0 < tp ∧ tp ≤ 10000 := by
      match d3, hd3 with
      | 0, _ => exact ⟨2, rfl, by decide, by decide⟩
      | 1, _ => exact ⟨3, rfl, by decide, by decide⟩
      | 2, _ => exact ⟨10000, rfl, by decide, by decide⟩
    refine ⟨l3, _, _, _, rfl, rfl, SqL.of (r3.at_ hl3 ls3), atI_nat etp, (by show 2 ≤ sizeLine; decide), fun pr npr => ?_⟩
    have s4 : Same H3 (upd H3 pr (.tup [.int (wy : Int), .int (tp : Int)])) := same_new npr
    have hpr : (upd H3 pr (.tup [.int (wy : Int), .int (tp : Int)])) pr = some (.tup [.int (wy : Int), .int (tp : Int)]) := upd_same
    generalize upd H3 pr (.tup [.int (wy : Int), .int (tp : Int)]) = H4 at s4 hpr
    have r4 := r3'.grow s4
    refine ⟨pr, _, rfl, .inl (.inl hpr), rfl, _, _, rfl, _, _, rfl, rfl, ?_⟩
    clear hpr s4 npr hl3 s2 n3
    -- (x,) * many
    have many : ∀ H5, Ran H H5 s → ∀ σ : L2.St, σ[0]? = some (some (.ref s)) → σ[1]? = some (some (.int (m : Int))) → σ[4]? = some (some (.int (tp : Int))) → tOp (RP1.rRepA K) (tTup (tCons (tCall spDraw2 [] E0 (tCons (tVar 0) (tCons (tVar 4) tNil))) tNil)) (tVar 1) σ H5 Q := fun H5 r5 σ e0 e1 e4 => by
      refine ⟨_, e0, _, e4, s, tp, rfl, r5.src, tp1, by omega, fun d H6 hd r6 => ⟨(by show 1 ≤ sizeLine; decide), fun t nt => ?_⟩⟩
      have r6' := r5.trans r6
      refine ⟨_, e1, t, _, [.int (d : Int)], rfl, rfl, .inl (.inl upd_same), by simp, by omega, by omega, (by show 1 ≤ 1000; decide), fun p H8 s8 h8 => ?_⟩
      rw [show ((m : Int)).toNat = m by omega, rep_nms] at h8
      refine q p (List.replicate m d) _ ((r6'.grow (same_new nt)).grow s8) h8 ⟨List.length_replicate, fun v hv => ?_⟩
      rw [List.eq_of_mem_replicate hv]
      omega
    let Mid : L2.St → Hp → Prop := fun σ H' => σ = [some (.ref s), some (.int (m : Int)), some (.ref l), some (.int (wy : Int)), some (.int (tp : Int)), none, none, none] ∧ Ran H H' s ∧ (wy < 5 → rows ≠ [])
    refine ⟨Mid, ?_, ?_⟩
    · refine ⟨_, rfl, _, _, rfl, rfl, _, rfl, ?_⟩
      by_cases e2 : wy < 2
      · refine iteT' (decide_eq_true (by omega)) (iteT ?_)
        exact many H4 r4 _ rfl rfl rfl
      · refine iteF' (decide_eq_false (by omega)) ?_
        refine ⟨_, rfl, Nat.zero_le _, fun p np => ?_⟩
        have s5 : Same H4 (upd H4 p (.lst [])) := same_new np
        have hl5 : SqL K (upd H4 p (.lst [])) l us := same_l (r4.same.trans ((wo_le s).trans s5)) hl
        have dl5 : DpAll K (upd H4 p (.lst [])) us (rows.map gd) := gds_T ((r4.T src).trans (same_T s5)) dl
        refine ⟨.list (rows.map gd), .list [], .lst hl5 dl5, .lst (SqL.of upd_same) .nil, RW.gdl_shp _, RW.gdl_shp [], _, rfl, ?_⟩
        rw [gds_nil]
        have r5 := r4.grow s5
        cases eR : rows.isEmpty with
        | false =>
          refine iteF (iteF ⟨rfl, r5, fun _ z => ?_⟩)
          rw [z] at eR
          cases eR
        | true =>
          refine iteT ⟨_, rfl, _, _, rfl, rfl, _, rfl, ?_⟩
          by_cases e5 : wy < 5
          · refine iteT' (decide_eq_true (by omega)) ?_
            exact many _ r5 _ rfl rfl rfl
          · refine iteF' (decide_eq_false (by omega)) ⟨rfl, r5, fun z => absurd z e5⟩
    rintro σ H5 ⟨rfl, r5, hne⟩
    refine ⟨_, rfl, _, _, rfl, rfl, _, rfl, ?_⟩
    by_cases e5 : wy < 5
    · refine iteT' (decide_eq_true (by omega)) ?_
      have rpos : 0 < us.length := by
        rw [ul]
        exact List.length_pos_iff.mpr (hne e5)
      refine ⟨_, rfl, _, rfl, s, _, rfl, r5.src, .inl ⟨l, us, rfl, same_l r5.same hl, rpos, by omega, fun i x H6 hx r6 => ?_⟩⟩
      have r6' := r5.trans r6
      obtain ⟨row, hrow, drow⟩ := dps_gat dl hx
      have rok := ok row (List.mem_of_getElem? hrow)
      obtain ⟨t, rfl, ht⟩ := gd_at (gd_T (r6'.T src) drow)
      refine ⟨_, rfl, _, rfl, s, m, rfl, r6'.src, by omega, by omega, fun a H7 ha r7 => ⟨_, _, rfl, ?_⟩⟩
      have r7' := r6'.trans r7
      have ht7 := sqt_T (r7.T r6'.src) ht
      refine ⟨_, rfl, _, _, rfl, rfl, _, rfl, ?_⟩
      by_cases e3 : wy < 3
      · refine iteT' (decide_eq_true (by omega)) ⟨_, rfl, q t row H7 r7' ht7 rok⟩
      · refine iteF' (decide_eq_false (by omega)) ?_
        refine ⟨_, rfl, _, rfl, _, rfl, sl_all ht7 fun t1 H8 s8 h1 => ?_⟩
        rw [show cutV (nms row) none (some (a : Int)) = nms (row.take a) from by rw [cut_to, nms, nms, List.map_take]] at h1
        have r8 := r7'.grow s8
        refine ⟨_, rfl, _, rfl, s, tp, rfl, r8.src, tp1, by omega, fun d H9 hd r9 => ⟨(by show 1 ≤ sizeLine; decide), fun t2 nt2 => ?_⟩⟩
        have r9' := r8.trans r9
        have s10 : Same H9 (upd H9 t2 (.tup [.int (d : Int)])) := same_new nt2
        have h2 : SqT K (upd H9 t2 (.tup [.int (d : Int)])) t2 (nms [d]) := .inl (.inl upd_same)
        have h1' := same_t s10 (sqt_T (r9.T r8.src) h1)
        have ht10 := same_t s10 (sqt_T (r9.T r8.src) (same_t s8 ht7))
        generalize upd H9 t2 (.tup [.int (d : Int)]) = H10 at s10 h2 h1' ht10
        have r10 := r9'.grow s10
        have la : (row.take a).length = a := by rw [List.length_take, rok.1]; omega
        refine cat_all h1' h2 (by rw [nms_len, nms_len, la]; exact Nat.le_of_lt (small1000 (by show a + 1 ≤ 1000; omega))) fun t3 H11 s11 h3 => ?_
        rw [← nms_app] at h3
        have r11 := r10.grow s11
        have ht11 := same_t s11 ht10
        refine ⟨_, rfl, _, rfl, _, _, rfl, rfl, _, rfl, ?_⟩
        dsimp only [tNoPart]
        refine sl_all ht11 fun t4 H12 s12 h4 => ?_
        rw [show cutV (nms row) (some ((a : Int) + 1)) none = nms (row.drop (a + 1)) from by rw [show ((a : Int) + 1) = ((a + 1 : Nat) : Int) by omega, cut_from, nms, nms, List.map_drop]] at h4
        have ld : (row.drop (a + 1)).length = m - (a + 1) := by rw [List.length_drop, rok.1]
        refine cat_all (same_t s12 h3) h4 (by rw [nms_len, nms_len, ld, List.length_append, la]; exact Nat.le_of_lt (small1000 (by show a + 1 + (m - (a + 1)) ≤ 1000; omega))) fun t5 H13 s13 h5 => ?_
        rw [← nms_app] at h5
        refine q t5 _ H13 ((r11.grow s12).grow s13) h5 ⟨?_, fun v hv => ?_⟩
        · rw [List.length_append, List.length_append, la, ld]
          show a + 1 + (m - (a + 1)) = m
          omega
        · rcases List.mem_append.mp hv with z | z
          · rcases List.mem_append.mp z with z | z
            · exact rok.2 v (List.mem_of_mem_take z)
            · rw [List.mem_singleton.mp z]
              omega
          · exact rok.2 v (List.mem_of_mem_drop z)
    · refine iteF' (decide_eq_false (by omega)) ?_
      refine ⟨_, rfl, _, rfl, by omega, by omega, fun D nD => ?_⟩
      refine lc_range (lo := 0) (n := ((m : Nat) : Int).toNat) (fun j H' => Ran H H' s ∧ H D = none ∧ D ≠ s ∧ (∃ r, H' D = some (.lst (nms r)) ∧ r.length = j ∧ ∀ x ∈ r, x ≤ 9999) ∧ j ≤ 6) ⟨r5.grow (same_new nD), r5.free nD, r5.ne nD, ⟨[], upd_same, rfl, (fun x hx => nomatch hx)⟩, by omega⟩ ?_ ?_
      · rintro j H7 hj ⟨r7, nD0, Ds, ⟨r, hD7, rl, rv⟩, j6⟩
        refine ⟨rfl, yes_if ⟨_, rfl, _, rfl, s, tp, rfl, r7.src, tp1, by omega, fun x H8 hx r8 => ?_⟩⟩
        have hD8 := r8.at_ hD7 Ds
        refine ⟨_, hD8, small1000 (by rw [nms_len]; omega), (r7.trans r8).put' nD0 Ds, nD0, Ds, ⟨r ++ [x], ?_, ?_, ?_⟩, by omega⟩
        · rw [upd_same, nms_app]
          rfl
        · rw [List.length_append, List.length_singleton, rl]
        · intro y hy
          rcases List.mem_append.mp hy with z | z
          · exact rv y z
          · rw [List.mem_singleton.mp z]
            omega
      rintro H7 ⟨r7, nD0, Ds, ⟨r, hD7, rl, rv⟩, _⟩
      rw [show ((m : Nat) : Int).toNat = m by omega] at rl
      refine ⟨D, _, rfl, .inl ⟨SqL.of hD7, fun z nz => ?_⟩⟩
      exact q z r _ (r7.grow (same_new nz)) (.inl (.inl upd_same)) ⟨rl, rv⟩
end
end CC
namespace CC
open PySem L2 TL LamX
/-! ### a value that is no row -/
section
variable {K : PySem.W.Frag} {H H' : Hp} {v : V} {w : Nat} {p a : Addr}
theorem ElB.ran (h : ElB K H v) (s : Src H p) (r : Ran H H' p) : ElB K H' v := h.imp (fun z => z.imp id fun ⟨t, a, b⟩ => ⟨t, ty_ran s r a, b⟩) id
theorem ElB.same (h : ElB K H v) (e : Same H H') : ElB K H' v := h.ext (ExtN.of e)
theorem elb_ty {n : String} (h : TyX K H v (.type n)) (k : kitB n "int" = some false) : ElB K H v := .inl (.inr ⟨_, h, kit_ty k⟩)
theorem odr_ty {n : String} (h : TyX K H v (.type n)) (k : kitB n "tuple" = some false) : OddR K H w v := .inl ⟨_, h, kit_ty k⟩
theorem odr_len {xs : List V} (h : SqT K H a xs) (l : xs.length ≠ w) : OddR K H w (.ref a) := .inr ⟨a, xs, rfl, h, .inl l⟩
theorem odr_el {xs : List V} (h : SqT K H a xs) (l : xs.length = w) (e : ∀ u ∈ xs, OddE K H u) (b : ∃ u ∈ xs, ElB K H u) : OddR K H w (.ref a) := .inr ⟨a, xs, rfl, h, .inr ⟨l, e, b⟩⟩
theorem nms_odd {row : List Nat} (h : ∀ x ∈ row, x ≤ 9999) : ∀ u ∈ nms row, OddE K H u := fun u hu => by
  obtain ⟨x, hx, rfl⟩ := List.mem_map.mp hu
  exact .inr ⟨x, rfl, h x hx⟩
theorem nms_butlast {row : List Nat} (h : 1 ≤ row.length) : cutV (nms row) none (some (-1)) = nms row.dropLast := by
  rcases List.eq_nil_or_concat row with rfl | ⟨r, x, rfl⟩
  · simp at h
  · rw [List.concat_eq_append, List.dropLast_concat, nms_app]
    exact cut_butlast (nms r) _
end
theorem rep_one (v : V) (m : Nat) : (List.replicate ((m : Int)).toNat [v]).flatten = List.replicate m v := by
  rw [Int.toNat_natCast]
  induction m with
  | zero => rfl
  | succ m ih => rw [List.replicate_succ, List.replicate_succ, List.flatten_cons, ih]; rfl
def rLs1 (K : PySem.W.Frag) : List V → Hp → VK → Prop := fun xs H Q => ∃ p ys, xs = [.ref p] ∧ (SqL K H p ys ∨ SqT K H p ys) ∧ ∀ l, H l = none → Q (.ref l) (upd H l (.lst ys))
theorem call_ls1 {X : Cx} : CallR X (.type "list") (rLs1 X.K) := call_list_of
/-- what is asked of an own class: that its instances are no tuples and no integers -/
structure NoTI (K : PySem.W.Frag) (C : Addr) : Prop where
  ic : C8.InsC K C
  kt : PySem.W.kitOne K (.ref C) (.type "tuple") = some false
  ki : PySem.W.kitOne K (.ref C) (.type "int") = some false
theorem NoTI.ty {K : PySem.W.Frag} {C a dx : Addr} {H : Hp} {fs : List (Str × V)} (n : NoTI K C) (e : H a = some (.ins C dx fs)) : TyX K H (.ref a) (.ref C) := .base (.ins e n.ic.cl n.ic.ha n.ic.hn n.ic.htk n.ic.hm)
theorem NoTI.elb {K : PySem.W.Frag} {C a dx : Addr} {H : Hp} {fs : List (Str × V)} (n : NoTI K C) (e : H a = some (.ins C dx fs)) : ElB K H (.ref a) := .inl (.inr ⟨_, n.ty e, n.ki⟩)
theorem NoTI.odr {K : PySem.W.Frag} {C a dx : Addr} {H : Hp} {fs : List (Str × V)} {w : Nat} (n : NoTI K C) (e : H a = some (.ins C dx fs)) : OddR K H w (.ref a) := .inl ⟨_, n.ty e, n.kt⟩
abbrev nOdd : List Str := ["_law_source_here", "_law_many", "_law_listed", "_law_row_here", "_law_at", "_law_made", "_law_asked", "_law_bad", "_law_some"]
def spOdd (K : PySem.W.Frag) : Sp := fun vs H Q _ => ∃ (s l : Addr) (m : Nat) (us : List V) (rows : List (List Nat)), vs = [.ref s, .int (m : Int), .ref l] ∧ Src H s ∧ 1 ≤ m ∧ m ≤ 6 ∧ SqL K (wo H s) l us ∧ DpAll K H us (rows.map gd) ∧ (∀ r ∈ rows, RowOk m r) ∧ rows.length < 500 ∧ ∀ (v : V) (H' : Hp), Ran H H' s → OddR K H' m v → Q v H'
section
variable {P : Program} {w : World} {K : PySem.W.Frag} {mg : Str → Option Value} {base : Heap} {kA : Addr}
theorem scOdd : FnScope nOdd ["_law_source_here", "_law_many", "_law_listed"] (defScope sOdd) := ⟨rfl, rfl, rfl, by decide +kernel, rfl, by decide +kernel, by decide +kernel⟩
theorem ok_odd {f CL CR CT c3 : Addr} {NI : Hp → V → Prop} {fd : FuncData} {k : Nat} (F : Fun K "_law_odd_row" "_law_odd_row" sOdd f fd) (T : Glb K mg kA) (TR : Txt1 K mg CR) (TT : TxtT K mg CT) (nL : NoTI K CL) (nR : NoTI K CR) (nT : NoTI K CT) (rd : ReadR P w K mg base CR 6) (rT : ReadT P w K mg base CT 5) (m0 : MakeP P w K mg base "Log" CL ["self", "rules"] (spLInitM K CL CR CT c3 NI) 8)
    (cY : Cal P w K mg base "_law_row" ["_law_source_here", "_law_many", "_law_listed"] (spRw1 K) 3) (cD : Cal P w K mg base "_law_draw" ["_law_source_here", "_law_many"] spDraw2 1) (cC : Cal P w K mg base "_law_choose" ["_law_source_here", "_law_values"] (spChoose K) 2) : FnOk P w K mg base CX0 (k + 10) f fd ["_law_source_here", "_law_many", "_law_listed"] (spOdd K) := by
  have GY := cY.ok (k + 9) (by omega)
  have GDr := cD.ok (k + 9) (by omega)
  have GC := cC.ok (k + 9) (by omega)
  have GR := rd.ok (k + 9) (by omega)
  have GT := rT.ok (k + 9) (by omega)
  have G0 := m0.ok (k + 8) (by omega)
  refine F.ok scOdd (fun vs H Q E h => ?_) (fun cdv A outer sh H vs Q E hr h => ?_)
  · obtain ⟨s, l, m, us, rows, rfl, _⟩ := h
    rfl
  · obtain ⟨s, l, m, us, rows, rfl, src, w1, w6, hl, dl, ok, few, q⟩ := h
    have n := scOdd.nd
    refine ⟨_, (pss_cons (ps_set (i := 3) n rfl (.inl rfl) (pe_call GY hr rfl cY.g cY.kp cY.b .nil pass0 (pa_cons (pv 0) (pa_cons (pv 1) (pa_cons (pv 2) pa_nil)))))
      (pss_cons (ps_set (i := 4) n rfl (.inl rfl) (pe_call GDr hr rfl cD.g cD.kp cD.b .nil pass0 (pa_cons (pv 0) (pa_cons (pv 1) pa_nil))))
      (pss_cons (ps_par (i := 5) (j := 6) (by rfl) n rfl rfl (by decide) rfl rfl (pa_cons (ClX.pe_cmeth (pe_glob (v := .ref CT) rfl TT.mgC rfl) rT.rD rT.cD GT hr pass0 (pa_cons (pv 1) (pa_cons pe_str pa_nil))) (pa_cons (ClX.pe_cmeth (pe_glob (v := .ref CR) rfl TR.mgC rfl) rd.rD rd.cD GR hr pass0 (pa_cons (pv 1) (pa_cons pe_str pa_nil))) pa_nil)) (by rfl))
      (pss_cons (ps_set (i := 7) n rfl (.inl rfl) (pe_call GC hr rfl cC.g cC.kp cC.b .nil pass0 (pa_cons (pv 0) (pa_cons (pe_lst (pa_cons (pe_un un_neg pe_int) (pa_cons pe_int (pa_cons pe_bl (pa_cons pe_bl (pa_cons pe_non (pa_cons pe_str (pa_cons (pe_tup (pa_cons pe_int pa_nil)) (pa_cons (pe_lst (pa_cons pe_int pa_nil)) (pa_cons (pe_op op_pow pe_int pe_int) (pa_cons pe_dnewK (pa_cons (pv 5) (pa_cons (pv 6) pa_nil))))))))))))) pa_nil))))
      (pss_cons (ps_set (i := 8) n rfl (.inl rfl) (pe_lst (pa_cons (pe_op op_catA (pe_op op_catA (pe_slice sl_tupA (pv 3) po_none (po_some (pv 4))) (pe_tup (pa_cons (pv 7) pa_nil))) (pe_slice sl_tupA (pv 3) (po_some (pe_op op_add (pv 4) pe_int)) po_none)) (pa_cons (pe_op op_catA (pv 3) (pe_slice sl_tupA (pv 3) po_none (po_some pe_int))) (pa_cons (pe_slice sl_tupA (pv 3) po_none (po_some (pe_un un_neg pe_int))) (pa_cons (pe_callTy (r := rLs1 K) call_ls1 (by rfl) T.lst (by decide +kernel) (pa_cons (pv 3) pa_nil)) (pa_cons (pe_tup (pa_cons (pv 3) pa_nil)) (pa_cons pe_non (pa_cons pe_int (pa_cons pe_str (pa_cons pe_dnewK (pa_cons pe_bl pa_nil))))))))))))
      (pss_cons (ps_set (i := 8) n rfl (.inl rfl) (pe_op op_cat (pv 8) (pe_lst (pa_cons (pv 5) (pa_cons (pv 6) (pa_cons (pe_lst (pa_cons (pv 5) pa_nil)) (pa_cons (pe_make m0.M G0 hr rfl m0.g m0.b .nil (E := E0) pass0Y (pa_cons (pv 6) pa_nil)) (pa_cons (pe_op (r := RP1.rRepA K) RP1.op_repA (pe_tup (pa_cons (pv 6) pa_nil)) (pv 1)) pa_nil))))))))
      (pss_one (ps_ret (pe_call GC hr rfl cC.g cC.kp cC.b .nil pass0 (pa_cons (pv 0) (pa_cons (pv 8) pa_nil))))))))))), ?_⟩
    have ran0 : Ran H H s := ⟨Same.refl _, src⟩
    refine ⟨_, rfl, _, rfl, _, rfl, s, l, m, us, rows, rfl, src, w1, w6, hl, dl, ok, few, fun tr row H1 r1 htr rok => ?_⟩
    refine ⟨_, rfl, _, rfl, s, m, rfl, r1.src, by omega, by omega, fun a H2 ha r2 => ?_⟩
    have htr := sqt_T (r2.T r1.src) htr
    have r02 := r1.trans r2
    refine ⟨rfl, _, rfl, m, [], rfl, w1, w6, (fun r hr => nomatch hr), Nat.zero_le _, fun tb H3 s3 ntb tt => ?_⟩
    refine ⟨rfl, _, rfl, m, [], rfl, w1, w6, (fun r hr => nomatch hr), .nil, fun ra H4 s4 nra Ra => ⟨_, _, rfl, ?_⟩⟩
    have htr := same_t (s3.trans s4) htr
    have tt := tt.same s4
    have r04 := r02.grow (s3.trans s4)
    clear s3 s4 ntb nra r1 r2 r02 dl hl
    obtain ⟨dt, gt, ut, t1, t2, t3⟩ := id tt
    obtain ⟨dr, gr, ur, a1, a2, a3⟩ := id Ra
    -- a value that is none of a row
    refine ⟨_, rfl, _, rfl, (by show 1 ≤ sizeLine; decide), fun t0 nt0 => ?_⟩
    have e1 : Same H4 (upd H4 t0 (.tup [.int 0])) := same_new nt0
    have ht0 : (upd H4 t0 (.tup [.int 0])) t0 = some (.tup [.int 0]) := upd_same
    generalize upd H4 t0 (.tup [.int 0]) = H5 at e1 ht0
    refine ⟨(by show 1 ≤ sizeLine; decide), fun l0 nl0 => ?_⟩
    have e2 : Same H5 (upd H5 l0 (.lst [.int 0])) := same_new nl0
    have hl0 : (upd H5 l0 (.lst [.int 0])) l0 = some (.lst [.int 0]) := upd_same
    generalize upd H5 l0 (.lst [.int 0]) = H6 at e2 hl0
    refine ⟨_, _, rfl, rfl, ⟨by decide, by decide, by decide⟩, fun d0 nd0 => ?_⟩
    have e3 : Same H6 (upd H6 d0 (.dK [])) := same_new nd0
    have hd0 : (upd H6 d0 (.dK [])) d0 = some (.dK []) := upd_same
    generalize upd H6 d0 (.dK []) = H7 at e3 hd0
    refine ⟨_, rfl, _, rfl, (by show 12 ≤ sizeLine; decide), fun lw nlw => ?_⟩
    have e4 : Same H7 (upd H7 lw (.lst [.int (-1), .int 10000, .bl true, .bl false, .non, .str "0", .ref t0, .ref l0, .int (10 ^ (12 : Int).toNat), .ref d0, .ref tb, .ref ra])) := same_new nlw
    have hlw : (upd H7 lw (.lst [.int (-1), .int 10000, .bl true, .bl false, .non, .str "0", .ref t0, .ref l0, .int (10 ^ (12 : Int).toNat), .ref d0, .ref tb, .ref ra])) lw = some (.lst [.int (-1), .int 10000, .bl true, .bl false, .non, .str "0", .ref t0, .ref l0, .int (10 ^ (12 : Int).toNat), .ref d0, .ref tb, .ref ra]) := upd_same
    generalize upd H7 lw (.lst [.int (-1), .int 10000, .bl true, .bl false, .non, .str "0", .ref t0, .ref l0, .int (10 ^ (12 : Int).toNat), .ref d0, .ref tb, .ref ra]) = H8 at e4 hlw
    have e14 := e1.trans (e2.trans (e3.trans e4))
    have r08 := r04.grow e14
    have lws : lw ≠ s := (r04.grow (e1.trans (e2.trans e3))).ne nlw
    refine ⟨s, .ref lw, rfl, r08.src, .inl ⟨lw, _, rfl, SqL.of (by rw [wo_ne lws]; exact hlw), (by show 0 < 12; decide), (by show 12 < 1000; decide), fun i bad H9 hi r9 => ?_⟩⟩
    have hbad : ElB K H9 bad := by
      refine ElB.ran ?_ r08.src r9
      match i, hi with
      | 0, h => simp at h; subst h; exact .inr ⟨_, rfl, by decide⟩
      | 1, h => simp at h; subst h; exact .inr ⟨_, rfl, by decide⟩
      | 2, h => simp at h; subst h; exact .inl (.inl ⟨_, rfl⟩)
      | 3, h => simp at h; subst h; exact .inl (.inl ⟨_, rfl⟩)
      | 4, h => simp at h; subst h; exact elb_ty (.base .non) (by decide +kernel)
      | 5, h => simp at h; subst h; exact elb_ty (.base (.str _)) (by decide +kernel)
      | 6, h => simp at h; subst h; exact elb_ty (.base (.tup ((e2.trans (e3.trans e4)) _ _ ht0))) (by decide +kernel)
      | 7, h => simp at h; subst h; exact elb_ty (.base (.lst ((e3.trans e4) _ _ hl0))) (by decide +kernel)
      | 8, h => simp at h; subst h; exact .inr ⟨_, rfl, by decide⟩
      | 9, h => simp at h; subst h; exact elb_ty (.base (.dK (e4 _ _ hd0))) (by decide +kernel)
      | 10, h => simp at h; subst h; exact nT.elb (e14 _ _ t1)
      | 11, h => simp at h; subst h; exact nR.elb (e14 _ _ a1)
      | _ + 12, h => simp at h
    have htr := sqt_T (r9.T r08.src) (same_t e14 htr)
    have tt := (tt.same e14).run r08.src r9
    have Ra := (Ra.same e14).run r08.src r9
    have r09 := r08.trans r9
    clear hi r9 r08 hlw lws e14 e4 e3 e2 e1 hd0 hl0 ht0 nlw nd0 nl0 nt0 r04 t1 t2 t3 a1 a2 a3
    have m9 : ∀ x ∈ row, x ≤ 9999 := rok.2
    have rl : row.length = m := rok.1
    -- ten values
    refine ⟨_, rfl, _, rfl, _, rfl, sl_all htr fun c1 G1 g1 h1 => ?_⟩
    rw [show cutV (nms row) none (some (a : Int)) = nms (row.take a) from by rw [cut_to, nms, nms, List.map_take]] at h1
    refine ⟨_, rfl, (by show 1 ≤ sizeLine; decide), fun c2 nc2 => ?_⟩
    have g2 : Same G1 (upd G1 c2 (.tup [bad])) := same_new nc2
    have h2 : SqT K (upd G1 c2 (.tup [bad])) c2 [bad] := .inl (.inl upd_same)
    generalize upd G1 c2 (.tup [bad]) = G2 at g2 h2
    have la : (row.take a).length = a := by rw [List.length_take, rl]; omega
    refine cat_all (same_t g2 h1) h2 (by rw [nms_len, la]; exact Nat.le_of_lt (small1000 (by show a + 1 ≤ 1000; omega))) fun c3 G3 g3 h3 => ?_
    have g03 := g1.trans (g2.trans g3)
    refine ⟨_, rfl, _, rfl, _, _, rfl, rfl, _, rfl, ?_⟩
    dsimp only [tNoPart]
    refine sl_all (same_t g03 htr) fun c4 G4 g4 h4 => ?_
    rw [show cutV (nms row) (some ((a : Int) + 1)) none = nms (row.drop (a + 1)) from by rw [show ((a : Int) + 1) = ((a + 1 : Nat) : Int) by omega, cut_from, nms, nms, List.map_drop]] at h4
    have ld : (row.drop (a + 1)).length = m - (a + 1) := by rw [List.length_drop, rl]
    refine cat_all (same_t g4 h3) h4 (by rw [List.length_append, nms_len, nms_len, ld, la]; exact Nat.le_of_lt (small1000 (by show a + 1 + (m - (a + 1)) ≤ 1000; omega))) fun c5 G5 g5 h5 => ?_
    have g05 := g03.trans (g4.trans g5)
    have o0 : OddR K G5 m (.ref c5) := by
      refine odr_el h5 ?_ (fun u hu => ?_) ⟨bad, by simp, hbad.same g05⟩
      · rw [List.length_append, List.length_append, nms_len, nms_len, la, ld]
        show a + 1 + (m - (a + 1)) = m
        omega
      · rcases List.mem_append.mp hu with z | z
        · rcases List.mem_append.mp z with z | z
          · exact nms_odd (fun x hx => m9 x (List.mem_of_mem_take hx)) u z
          · rw [List.mem_singleton.mp z]
            exact .inl (hbad.same g05)
        · exact nms_odd (fun x hx => m9 x (List.mem_of_mem_drop hx)) u z
    clear h1 h2 h3 h4 h5 g1 g2 g3 g03 g4 g5 nc2
    have htr5 := same_t g05 htr
    refine ⟨_, rfl, _, rfl, _, rfl, sl_all htr5 fun c6 G6 g6 h6 => ?_⟩
    rw [show cutV (nms row) none (some (1 : Int)) = nms (row.take 1) from by rw [show (1 : Int) = ((1 : Nat) : Int) from rfl, cut_to, nms, nms, List.map_take]] at h6
    have l1 : (row.take 1).length = 1 := by rw [List.length_take, rl]; omega
    refine cat_all (same_t g6 htr5) h6 (by rw [nms_len, nms_len, l1, rl]; exact Nat.le_of_lt (small1000 (by omega))) fun c7 G7 g7 h7 => ?_
    have g57 := g6.trans g7
    have o1 : OddR K G7 m (.ref c7) := odr_len h7 (by rw [List.length_append, nms_len, nms_len, l1, rl]; omega)
    have htr7 := same_t g57 htr5
    clear h6 h7 g6 g7
    refine ⟨_, rfl, _, rfl, _, rfl, sl_all htr7 fun c8 G8 g8 h8 => ?_⟩
    rw [nms_butlast (by omega)] at h8
    have o2 : OddR K G8 m (.ref c8) := odr_len h8 (by rw [nms_len, List.length_dropLast, rl]; omega)
    have htr8 := same_t g8 htr7
    refine ⟨_, rfl, tr, _, rfl, .inr htr8, fun c9 nc9 => ?_⟩
    have g9 : Same G8 (upd G8 c9 (.lst (nms row))) := same_new nc9
    have h9 : (upd G8 c9 (.lst (nms row))) c9 = some (.lst (nms row)) := upd_same
    generalize upd G8 c9 (.lst (nms row)) = G9 at g9 h9
    refine ⟨_, rfl, (by show 1 ≤ sizeLine; decide), fun c10 nc10 => ?_⟩
    have g10 : Same G9 (upd G9 c10 (.tup [.ref tr])) := same_new nc10
    have h10 : SqT K (upd G9 c10 (.tup [.ref tr])) c10 [.ref tr] := .inl (.inl upd_same)
    generalize upd G9 c10 (.tup [.ref tr]) = G10 at g10 h10
    have htr10 := same_t (g9.trans g10) htr8
    have btr : ElB K G10 (.ref tr) := elb_ty (ty_tup htr10) (by decide +kernel)
    have o4 : OddR K G10 m (.ref c10) := by
      by_cases e : m = 1
      · exact odr_el h10 (by rw [e]; rfl) (fun u hu => by rw [List.mem_singleton.mp hu]; exact .inl btr) ⟨_, List.mem_singleton.mpr rfl, btr⟩
      · exact odr_len h10 (fun z => e z.symm)
    refine fun c11 nc11 => ?_
    have g11 : Same G10 (upd G10 c11 (.dK [])) := same_new nc11
    have h11 : (upd G10 c11 (.dK [])) c11 = some (.dK []) := upd_same
    generalize upd G10 c11 (.dK []) = G11 at g11 h11
    refine ⟨(by show 10 ≤ sizeLine; decide), fun c12 nc12 => ?_⟩
    have g12 : Same G11 (upd G11 c12 (.lst [.ref c5, .ref c7, .ref c8, .ref c9, .ref c10, .non, .int 0, .str "0", .ref c11, .bl true])) := same_new nc12
    have h12 : (upd G11 c12 (.lst [.ref c5, .ref c7, .ref c8, .ref c9, .ref c10, .non, .int 0, .str "0", .ref c11, .bl true])) c12 = some (.lst [.ref c5, .ref c7, .ref c8, .ref c9, .ref c10, .non, .int 0, .str "0", .ref c11, .bl true]) := upd_same
    generalize upd G11 c12 (.lst [.ref c5, .ref c7, .ref c8, .ref c9, .ref c10, .non, .int 0, .str "0", .ref c11, .bl true]) = G12 at g12 h12
    have g812 := g9.trans (g10.trans (g11.trans g12))
    have g512 := g57.trans (g8.trans g812)
    have o0 := o0.same g512
    have o1 := o1.same (g8.trans g812)
    have o2 := o2.same g812
    have o4 := o4.same (g11.trans g12)
    have h9 := (g10.trans (g11.trans g12)) _ _ h9
    have h11 := g12 _ _ h11
    have r12 := r09.grow (g05.trans g512)
    have tt := tt.same (g05.trans g512)
    have Ra := Ra.same (g05.trans g512)
    clear g05 g57 g8 g9 g10 g11 g12 g812 g512 h10 htr htr5 htr7 htr8 htr10 btr h8 nc9 nc10 nc11 nc12 hbad r09
    -- five more
    refine ⟨_, rfl, _, rfl, _, rfl, _, rfl, (by show 1 ≤ sizeLine; decide), fun b1 nb1 => ?_⟩
    have g1 : Same G12 (upd G12 b1 (.lst [.ref tb])) := same_new nb1
    have hb1 : (upd G12 b1 (.lst [.ref tb])) b1 = some (.lst [.ref tb]) := upd_same
    generalize upd G12 b1 (.lst [.ref tb]) = K1 at g1 hb1
    have Ra1 := Ra.same g1
    refine ⟨_, rfl, fun x dx nx ndx ne => ?_⟩
    obtain ⟨a1, a2, a3⟩ := made_go (C := CL) (CR := CR) (CT := CT) (lm := none) (Q := fun v H' => ∀ q', v = .ref x → Same K1 H' → K1 q' = none → True) nx ndx ne Ra1 (fun _ _ _ _ _ _ _ _ _ _ _ => trivial)
    refine ⟨x, dx, _, rfl, a1, .inl ⟨ra, m, [], rfl, a2, w1, w6, fun K2 lq k1 nq Lg => ⟨rfl, ?_⟩⟩⟩
    have g2 : Same K1 K2 := fun b o e => k1 b o (by
      rw [upd_ne (ne_of_none e nx), upd_ne (ne_of_none e ndx)]
      exact e) (ne_of_none e nx)
    obtain ⟨dxl, tl, hxl, _⟩ := Lg.at_
    clear a1 a2 a3 k1 nq nx ndx
    refine ⟨_, rfl, (by show 1 ≤ sizeLine; decide), fun b2 nb2 => ?_⟩
    have g3 : Same K2 (upd K2 b2 (.tup [.ref ra])) := same_new nb2
    have hb2 : SqT K (upd K2 b2 (.tup [.ref ra])) b2 [.ref ra] := .inl (.inl upd_same)
    generalize upd K2 b2 (.tup [.ref ra]) = K3 at g3 hb2
    refine ⟨_, rfl, b2, _, [.ref ra], rfl, rfl, hb2, by simp, by omega, by omega, (by show 1 ≤ 1000; decide), fun b3 K4 g4 h4 => ?_⟩
    have e3 := rep_one (V.ref ra) m
    rw [e3] at h4
    have g14 := g1.trans (g2.trans (g3.trans g4))
    have tt4 := tt.same g14
    have Ra4 := Ra.same g14
    obtain ⟨dt, gt, ut, t1, t2, t3⟩ := id tt4
    obtain ⟨dr, gr, ur, a1, a2, a3⟩ := id Ra4
    have p0 : OddR K K4 m (.ref tb) := nT.odr t1
    have p1 : OddR K K4 m (.ref ra) := nR.odr a1
    have p2 : OddR K K4 m (.ref b1) := odr_ty (.base (.lst ((g2.trans (g3.trans g4)) _ _ hb1))) (by decide +kernel)
    have p3 : OddR K K4 m (.ref x) := nL.odr ((g3.trans g4) _ _ hxl)
    have p4 : OddR K K4 m (.ref b3) := odr_el h4 List.length_replicate (fun u hu => by rw [List.eq_of_mem_replicate hu]; exact .inl (nR.elb a1)) ⟨.ref ra, List.mem_replicate.mpr ⟨by omega, rfl⟩, nR.elb a1⟩
    refine ⟨(by show 5 ≤ sizeLine; decide), fun b4 nb4 => ?_⟩
    have g5 : Same K4 (upd K4 b4 (.lst [.ref tb, .ref ra, .ref b1, .ref x, .ref b3])) := same_new nb4
    have hb4 : (upd K4 b4 (.lst [.ref tb, .ref ra, .ref b1, .ref x, .ref b3])) b4 = some (.lst [.ref tb, .ref ra, .ref b1, .ref x, .ref b3]) := upd_same
    generalize upd K4 b4 (.lst [.ref tb, .ref ra, .ref b1, .ref x, .ref b3]) = K5 at g5 hb4
    refine ⟨c12, b4, _, _, rfl, rfl, (g14.trans g5) _ _ h12, hb4, (by show 15 ≤ sizeLine; decide), fun c nc => ?_⟩
    have g6 : Same K5 (upd K5 c (.lst ([.ref c5, .ref c7, .ref c8, .ref c9, .ref c10, .non, .int 0, .str "0", .ref c11, .bl true] ++ [.ref tb, .ref ra, .ref b1, .ref x, .ref b3]))) := same_new nc
    have hc : (upd K5 c (.lst ([.ref c5, .ref c7, .ref c8, .ref c9, .ref c10, .non, .int 0, .str "0", .ref c11, .bl true] ++ [.ref tb, .ref ra, .ref b1, .ref x, .ref b3]))) c = some (.lst [.ref c5, .ref c7, .ref c8, .ref c9, .ref c10, .non, .int 0, .str "0", .ref c11, .bl true, .ref tb, .ref ra, .ref b1, .ref x, .ref b3]) := upd_same
    have r5 := r12.grow (g14.trans g5)
    have cs := r5.ne nc
    have r6 := r5.grow g6
    generalize upd K5 c (.lst ([.ref c5, .ref c7, .ref c8, .ref c9, .ref c10, .non, .int 0, .str "0", .ref c11, .bl true] ++ [.ref tb, .ref ra, .ref b1, .ref x, .ref b3])) = K6 at g6 hc r6
    have g16 := g14.trans (g5.trans g6)
    have g46 := g5.trans g6
    refine ⟨_, rfl, _, rfl, s, .ref c, rfl, r6.src, .inl ⟨c, _, rfl, SqL.of (by rw [wo_ne cs]; exact hc), (by show 0 < 15; decide), (by show 15 < 1000; decide), fun i v K7 hi r7 => ?_⟩⟩
    refine q v K7 (r6.trans r7) (OddR.ran ?_ r6.src r7)
    match i, hi with
    | 0, h => simp at h; subst h; exact o0.same g16
    | 1, h => simp at h; subst h; exact o1.same g16
    | 2, h => simp at h; subst h; exact o2.same g16
    | 3, h => simp at h; subst h; exact odr_ty (.base (.lst (g16 _ _ h9))) (by decide +kernel)
    | 4, h => simp at h; subst h; exact o4.same g16
    | 5, h => simp at h; subst h; exact odr_ty (.base .non) (by decide +kernel)
    | 6, h => simp at h; subst h; exact odr_ty (.base (.int _)) (by decide +kernel)
    | 7, h => simp at h; subst h; exact odr_ty (.base (.str _)) (by decide +kernel)
    | 8, h => simp at h; subst h; exact odr_ty (.base (.dK (g16 _ _ h11))) (by decide +kernel)
    | 9, h => simp at h; subst h; exact odr_ty (.base (.bl _)) (by decide +kernel)
    | 10, h => simp at h; subst h; exact p0.same g46
    | 11, h => simp at h; subst h; exact p1.same g46
    | 12, h => simp at h; subst h; exact p2.same g46
    | 13, h => simp at h; subst h; exact p3.same g46
    | 14, h => simp at h; subst h; exact p4.same g46
    | _ + 15, h => simp at h
end
end CC
namespace CC
open PySem L2 TL
def spTText (K : PySem.W.Frag) (C : Addr) : Sp := fun vs H Q _ => ∃ (x : Addr) (w : Nat) (rows : List (List Nat)), vs = [.ref x] ∧ TableAt K C H x w rows ∧ w ≤ 6 ∧ (∀ r ∈ rows, RowOk w r) ∧ rows.length ≤ 400 ∧ ∀ H', Same H H' → Q (.str (textT rows)) H'
def asgVal : Stmt → Expr
  | .Assign _ v _ => v
  | _ => .Constant .none 0 ⟨0, 0, 0, 0⟩
def tLnT : TE := fun σ H Q => tJs [tFmt (tVar 4), tC (.str "\n")] Str.empty σ H fun out H1 => Q (V.str out) H1
theorem emp_app (x : Str) : Str.empty ++ x = x := by
  refine ext_tl ?_
  show tl _ = tl _
  rw [tl_app]
  rfl
section
variable {P : Program} {w : World} {K : PySem.W.Frag} {mg : Str → Option Value} {base : Heap} {kA : Addr}
abbrev nTx2 : List Str := ["self", "lines", "row", "part", "line"]
theorem scTText : FnScope nTx2 ["self"] (defScope sTText) := ⟨rfl, rfl, rfl, by decide +kernel, rfl, by decide +kernel, by decide +kernel⟩
abbrev scTtI : Scope := lcScT (asgVal ((defBody sTText).getD 0 (.Pass ⟨0, 0, 0, 0⟩)))
theorem ok_ttext {f C : Addr} {fd : FuncData} {k : Nat} (F : Fun K "text" "Table.text" sTText f fd) (T : Glb K mg kA) (TC : TxtT K mg C) : FnOk P w K mg base CX0 (k + 1) f fd ["self"] (spTText K C) := by
  refine F.ok scTText (fun vs H Q E h => ?_) (fun cdv A outer s H vs Q E hr h => ?_)
  · obtain ⟨x, m, rows, rfl, _⟩ := h
    rfl
  · obtain ⟨x, m, rows, rfl, ⟨dx, g, us, h1, h2, h3⟩, w6, ok, few, q⟩ := h
    have n := scTText.nd
    refine ⟨_, (pss_cons (ps_setLc (i := 1) (own := [("row", 2)]) (g := gName 2) (tt := tYes) (te := tM1 (rJoin K) (tC (.str " ")) (tLc (iTup K (tVar 2)) (gName 3) tYes (tCB rStrI (tCons (tVar 3) tNil)) [3])) rfl n rfl rfl (sw_true rfl rfl rfl (by decide +kernel)) (pi_tup (pe_fld (pv 0) rfl)) (blkOk_by (N := nTx2) (sc := defScope sTText) (by decide +kernel))
    (fun _ _ _ _ _ => (pg_name (i := 2) n rfl (.inl rfl))) (fun _ _ _ _ _ => pts_nil) (fun _ _ _ _ _ => (pe_joinK pe_str (pe_lc (own := [("part", 3)]) (g := gName 3) (tt := tYes) rfl n (pi_tup (pv 2)) (blkOk_by (N := nTx2) (sc := relS scTtI (defScope sTText)) (by decide +kernel))
    (fun _ _ _ _ _ => (pg_name (i := 3) n rfl (.inl rfl))) (fun _ _ _ _ _ => pts_nil) (fun _ _ _ _ _ => (pe_callTy call_strI (by rfl) T.str (by decide +kernel) (pa_cons (pv 3) pa_nil)))))))
  (pss_one (ps_ret (pe_join pe_str (pe_lc (own := [("line", 4)]) (g := gName 4) (tt := tYes) (te := tLnT) rfl n (pi_list (pv 1)) (blkOk_by (N := nTx2) (sc := defScope sTText) (by decide +kernel))
    (fun _ _ _ _ _ => (pg_name (i := 4) n rfl (.inl rfl))) (fun _ _ _ _ _ => pts_nil) (fun _ _ _ _ _ => (pe_joined (.cons (pe_fmt (pv 4)) (.cons pe_str .nil))))))))), ?_⟩
    have ul : us.length = rows.length := by rw [dps_len h3, List.length_map]
    refine ⟨_, rfl, x, C, dx, _, _, rfl, h1, TC.cl, TC.nL, fldT_lines _ _, g, rfl, ⟨_, .inl (.inl h2)⟩, fun D nD => ?_⟩
    refine lc_tup (xs := us) (fun i H1 => Same H (wo H1 D) ∧ H1 D = some (.lst (((rows.take i).map rowS).map V.str))) ⟨?_, upd_same⟩ (fun i H1 _ z => .inl (.inl (wo_le D _ _ (z.1 _ _ h2)))) ?_ ?_
    · rw [wo_upd]
      exact fun b o e => by rw [wo_ne (ne_of_none e nD)]; exact e
    · rintro i v H1 hv ⟨e1, e2⟩
      obtain ⟨r, hr2, dr⟩ := dps_gat h3 hv
      have il := (List.getElem?_eq_some_iff.mp hr2).1
      have rok := ok r (List.mem_of_getElem? hr2)
      have s1 : Same H H1 := e1.trans (wo_le D)
      obtain ⟨t, rfl, ht⟩ := gd_at (dp_same s1 _ _ dr)
      have r1 := rok.1
      refine ⟨rfl, yes_if ⟨⟨_, rfl⟩, _, rfl, t, rfl, ⟨_, ht⟩, fun D2 nD2 => ?_⟩⟩
      refine lc_tup (xs := nms r) (fun j H2 => Same H1 (wo H2 D2) ∧ H2 D2 = some (.lst (((r.take j).map num).map V.str))) ⟨?_, upd_same⟩ (fun j H2 _ z => same_t (z.1.trans (wo_le D2)) ht) ?_ ?_
      · rw [wo_upd]
        exact fun b o e => by rw [wo_ne (ne_of_none e nD2)]; exact e
      · rintro j y H2 hy ⟨f1, f2⟩
        obtain ⟨c, hc, rfl⟩ := nms_get? hy
        have jl := (List.getElem?_eq_some_iff.mp hc).1
        refine ⟨rfl, yes_if ⟨_, rfl, c, rfl, rok.2 c (List.mem_of_getElem? hc), _, f2, small1000 (by rw [List.length_map, List.length_map, List.length_take]; omega), ?_, ?_⟩⟩
        · rw [wo_upd]
          exact f1
        · rw [upd_same, take1 hc, List.map_append, List.map_append]
          rfl
      rintro H2 ⟨f1, f2⟩
      rw [nms_len, List.take_length] at f2
      have s2 : Same H1 H2 := f1.trans (wo_le D2)
      have sm : ((r.map num).map (·.length)).sum ≤ 4 * ((r.map num).map (·.length)).length := sum_le _ fun x hx => by
        obtain ⟨y, hy, rfl⟩ := List.mem_map.mp hx
        obtain ⟨c, hc, rfl⟩ := List.mem_map.mp hy
        exact num_len (rok.2 c hc)
      rw [List.length_map, List.length_map] at sm
      refine ⟨_, D2, r.map num, rfl, rfl, .inl (SqL.of f2), ?_, ?_⟩
      · have e0 : ((" " : Str)).length = 1 := by decide +kernel
        show ((r.map num).map (·.length)).sum + (r.map num).length * ((" " : Str)).length ≤ 16777216
        rw [e0, List.length_map]
        omega
      refine ⟨_, s2 _ _ e2, small1000 (by rw [List.length_map, List.length_map, List.length_take]; omega), ?_, ?_⟩
      · rw [wo_upd]
        exact e1.trans (wo_same s2)
      · rw [upd_same, take1 hr2, List.map_append, List.map_append]
        rfl
    rintro H1 ⟨e1, e2⟩
    rw [ul, List.take_length] at e2
    have s1 : Same H H1 := e1.trans (wo_le D)
    have rl : ∀ r ∈ rows, (rowS r ++ "\n").length ≤ 31 := fun r hr => by
      have rl := rowS_len (ok r hr) w6
      rw [len_tl] at rl
      rw [len_tl, tl_app, List.length_append]
      have e : (tl ("\n" : Str)).length = 1 := by decide +kernel
      omega
    have big : ∀ {n : Nat}, n ≤ 40 → n ≤ sizeLine := fun h => Nat.le_trans h (by decide)
    refine ⟨⟨_, rfl⟩, _, rfl, D, rfl, ⟨_, SqL.of e2⟩, fun D4 nD4 => ?_⟩
    refine lc_list (xs := (rows.map rowS).map V.str) (fun i H2 => Same H1 (wo H2 D4) ∧ H2 D4 = some (.lst (((rows.take i).map fun r => rowS r ++ "\n").map V.str))) ⟨?_, upd_same⟩ (fun i H2 _ z => SqL.of (wo_le D4 _ _ (z.1 _ _ e2))) ?_ ?_
    · rw [wo_upd]
      exact fun b o e => by rw [wo_ne (ne_of_none e nD4)]; exact e
    · rintro i v H2 hv ⟨f1, f2⟩
      obtain ⟨r, hr2, rfl⟩ : ∃ r, rows[i]? = some r ∧ v = .str (rowS r) := by
        rw [List.getElem?_map, List.getElem?_map] at hv
        cases z : rows[i]? with
        | none => rw [z] at hv; cases hv
        | some r => rw [z] at hv; exact ⟨r, rfl, (Option.some.inj hv).symm⟩
      have rm := List.mem_of_getElem? hr2
      have il := (List.getElem?_eq_some_iff.mp hr2).1
      have l1 := rl r rm
      have l2 := rowS_len (ok r rm) w6
      refine ⟨rfl, yes_if ⟨_, rfl, .inl ⟨_, rfl, big (by omega), _, rfl, big (by rw [emp_app]; omega), _, rfl, big (by rw [emp_app]; omega), ?_⟩⟩⟩
      refine ⟨_, f2, small1000 (by rw [List.length_map, List.length_map, List.length_take]; omega), ?_, ?_⟩
      · rw [wo_upd]
        exact f1
      · rw [upd_same, take1 hr2, List.map_append, List.map_append]
        show some (HO.lst (_ ++ [V.str (Str.empty ++ rowS r ++ "\n")])) = some (HO.lst (_ ++ [V.str (rowS r ++ "\n")]))
        rw [emp_app]
    rintro H2 ⟨f1, f2⟩
    rw [List.length_map, List.length_map, List.take_length] at f2
    have sm : ((rows.map fun r => rowS r ++ "\n").map (·.length)).sum ≤ 31 * ((rows.map fun r => rowS r ++ "\n").map (·.length)).length := sum_le _ fun x hx => by
      obtain ⟨y, hy, rfl⟩ := List.mem_map.mp hx
      obtain ⟨r, hr, rfl⟩ := List.mem_map.mp hy
      exact rl r hr
    rw [List.length_map, List.length_map] at sm
    refine ⟨_, D4, rows.map (fun r => rowS r ++ "\n"), rfl, rfl, .inl (SqL.of f2), ?_, q H2 (s1.trans (f1.trans (wo_le D4)))⟩
    have e0 : (Str.ofString "").length = 0 := by decide +kernel
    rw [e0, Nat.mul_zero]
    omega
end
end CC
namespace CC
open PySem L2 TL
/-! ### what a log shows -/
abbrev nSee : List Str := ["_law_kind", "_law_log", "_law_found"]
theorem fldT_noText {m : Nat} {g : Addr} : (fldT m g).lookup ("text" : Str) = none := by
  unfold fldT flT0
  rw [lookup_putF, if_neg (by decide +kernel), lookup_putF, if_neg (by decide +kernel)]
  rfl
def spSee1 (K : PySem.W.Frag) (kd : Nat) (C CR CT : Addr) : Sp := fun vs H Q _ => ∃ (cap : Nat) (x r q : Addr) (w : Nat) (rs : List R) (rows : List (List Nat)) (ps : List (List (List Nat))), vs = [.int (kd : Int), .ref x] ∧ kd < 4 ∧ LgAt K C CR CT (lmOf kd cap) H x r q w rs rows ps ∧ 1 ≤ w ∧ w ≤ 6 ∧ (∀ r ∈ rs, r.ok w) ∧ rs.length ≤ 60 ∧ (∀ s ∈ rows, RowOk w s) ∧ rows.length ≤ 400 ∧ Fw rows ∧ ∀ (p : Addr) (H' : Hp), Same H H' → Dp K H' (.ref p) (.list (seenD kd w cap rs rows ps.length)) → Q (.ref p) H'
section
variable {P : Program} {w : World} {K : PySem.W.Frag} {mg : Str → Option Value} {base : Heap} {kA : Addr}
theorem scSee : FnScope nSee ["_law_kind", "_law_log"] (defScope sSee) := ⟨rfl, rfl, rfl, by decide +kernel, rfl, by decide +kernel, by decide +kernel⟩
theorem ok_see1 {f CR CT : Addr} {fd : FuncData} {k : Nat} (F : Fun K "_law_seen" "_law_seen" sSee f fd) (T : Glb K mg kA) (TR : Txt1 K mg CR) (TT : TxtT K mg CT) {kd : Nat} (LD : LogS P w K mg base CR CT kd) (pTW : Prp P w K mg base CT "width" "span") (tx : MthG P w K mg base CT "text" ["self"] (spTText K CT) 1) (rx : MthG P w K mg base CR "text" ["self"] (spRTxt K CR) 2) : FnOk P w K mg base CX0 (k + 8) f fd ["_law_kind", "_law_log"] (spSee1 K kd LD.C CR CT) := by
  have GT := tx.ok (k + 7) (by omega)
  have GR := rx.ok (k + 7) (by omega)
  refine F.ok scSee (fun vs H Q E h => ?_) (fun cdv A outer s H vs Q E hr h => ?_)
  · obtain ⟨cap, x, r, q, m, rs, rows, ps, rfl, _⟩ := h
    rfl
  · obtain ⟨cap, x, r, pq, m, rs, rows, ps, rfl, k4, L, w1, w6, rok, r60, ok, few, fw, q⟩ := h
    have n := scSee.nd
    refine ⟨_, (pss_cons (ps_set (i := 2) n rfl (.inl rfl) (pe_lst (pa_cons (pe_meth0 (pe_prop (pv 1) LD.TM.cl LD.pT.hp (LD.pT.ok (k + 6) (by omega)) hr LD.pT.b .nil pass0 rfl) TT.cl tx.m GT hr tx.b .nil pass0)
        (pa_cons (pe_prop (pe_prop (pv 1) LD.TM.cl LD.pT.hp (LD.pT.ok (k + 6) (by omega)) hr LD.pT.b .nil pass0 rfl) TT.cl pTW.hp (pTW.ok (k + 6) (by omega)) hr pTW.b .nil pass0 rfl)
        (pa_cons (pe_prop (pv 1) LD.TM.cl LD.pC.hp (LD.pC.ok (k + 6) (by omega)) hr LD.pC.b .nil pass0 rfl)
        (pa_cons (pe_callB (OC.call_lenO LD.hL LD.iL (LD.lenO (k + 6) (by omega)) hr pass0) (by rfl) T.len PySem.boot_len (pa_cons (pv 1) pa_nil))
        (pa_cons (pe_callB (OC.call_reprO LD.hP LD.iP (LD.reprO (k + 6) (by omega)) hr pass0) (by rfl) T.rep (by decide +kernel) (pa_cons (pv 1) pa_nil))
        (pa_cons (pe_meth0 (pe_prop (pv 1) LD.TM.cl LD.pR.hp (LD.pR.ok (k + 6) (by omega)) hr LD.pR.b .nil pass0 rfl) TR.cl rx.m GR hr rx.b .nil pass0)
        (pa_cons (pe_prop (pv 1) LD.TM.cl LD.pB.hp (LD.pB.ok (k + 6) (by omega)) hr LD.pB.b .nil pass0 rfl) pa_nil)))))))))
      (pss_one (ps_ret (pe_ifExp (pt_cmpR op_ge (pv 0) pe_int (nomark _)) (pe_op op_cat (pv 2) (pe_lst (pa_cons (pe_ex fun h : 2 ≤ kd => pe_prop (pv 1) LD.TM.cl (LD.pM h).hp ((LD.pM h).ok (k + 6) (by omega)) hr (LD.pM h).b .nil pass0 rfl) pa_nil))) (pv 2))))), ?_⟩
    obtain ⟨dx, t, hx, tt⟩ := id L.at_
    have tt0 := tt.same (wos_le _)
    obtain ⟨dt, gt, ut, t1, t2, t3⟩ := id tt0
    have bk := L.book.same (wos_le _)
    obtain ⟨dr, gr, ur, r1, r2, r3⟩ := id bk
    refine ⟨_, rfl, x, dx, _, rfl, hx, x, dx, _, _, rfl, hx, fldM_h _ _ _ _, t, dt, _, rfl, t1, fldT_noText, t, m, rows, rfl, tt0, w6, ok, few, fun H1 s1 => ?_⟩
    refine ⟨_, rfl, x, dx, _, rfl, s1 _ _ hx, x, dx, _, _, rfl, s1 _ _ hx, fldM_h _ _ _ _, t, dt, _, rfl, s1 _ _ t1, t, dt, _, _, rfl, s1 _ _ t1, fldT_span _ _, ?_⟩
    refine ⟨_, rfl, x, dx, _, rfl, s1 _ _ hx, lmOf kd cap, x, r, pq, m, rs, rows, ps, rfl, L.keep s1, ?_⟩
    refine ⟨_, rfl, x, dx, _, rfl, s1 _ _ hx, lmOf kd cap, x, r, pq, m, rs, rows, ps, rfl, L.keep s1, rows.length, rfl, (by omega), ?_⟩
    refine ⟨_, rfl, x, dx, _, rfl, s1 _ _ hx, lmOf kd cap, x, r, pq, m, rs, rows, ps, rfl, L.keep s1, (by omega), _, rfl, ?_⟩
    refine ⟨_, rfl, x, dx, _, rfl, s1 _ _ hx, x, dx, _, _, rfl, s1 _ _ hx, fldM_b _ _ _ _, r, dr, _, rfl, s1 _ _ r1, flds_no _ _ (by decide +kernel) (by decide +kernel), r, m, rs, rfl, bk.same s1, (fun r hr => ⟨Nat.lt_of_lt_of_le (rok r hr).1 w6, Nat.lt_of_lt_of_le (rok r hr).2.1 w6, (rok r hr).2.2⟩), r60, fun H2 s2 => ?_⟩
    have s02 := s1.trans s2
    refine ⟨_, rfl, x, dx, _, rfl, s02 _ _ hx, lmOf kd cap, x, r, pq, m, rs, rows, ps, rfl, L.keep s02, ok, fw, (by omega), rok, r60, fun z up H3 s3 nz hz dz => ?_⟩
    have s03 := s02.trans s3
    refine ⟨(by show 7 ≤ sizeLine; decide), fun p np => ?_⟩
    have s04 := s03.trans (same_new (o := .lst [V.str (textT rows), V.int (m : Int), V.int (ps.length : Int), V.int (rows.length : Int), V.str (reprL (kindN kd ++ "(") rows.length), V.str (textS rs), V.ref z]) np)
    have hp4 : (upd H3 p (.lst [V.str (textT rows), V.int (m : Int), V.int (ps.length : Int), V.int (rows.length : Int), V.str (reprL (kindN kd ++ "(") rows.length), V.str (textS rs), V.ref z])) p = some (.lst [V.str (textT rows), V.int (m : Int), V.int (ps.length : Int), V.int (rows.length : Int), V.str (reprL (kindN kd ++ "(") rows.length), V.str (textS rs), V.ref z]) := upd_same
    have zp : z ≠ p := fun e => by rw [e, np] at hz; cases hz
    have hz4 : (upd H3 p (.lst [V.str (textT rows), V.int (m : Int), V.int (ps.length : Int), V.int (rows.length : Int), V.str (reprL (kindN kd ++ "(") rows.length), V.str (textS rs), V.ref z])) z = some (.tup up) := (upd_ne zp).trans hz
    have d4 : DpAll K (upd H3 p (.lst [V.str (textT rows), V.int (m : Int), V.int (ps.length : Int), V.int (rows.length : Int), V.str (reprL (kindN kd ++ "(") rows.length), V.str (textS rs), V.ref z])) up ((brkL rows rs).map R.d) := dps_same ((wo_le z).trans (same_new np)) _ _ dz
    have hx4 := s04 _ _ hx
    have L4 := L.keep s04
    generalize upd H3 p (.lst [V.str (textT rows), V.int (m : Int), V.int (ps.length : Int), V.int (rows.length : Int), V.str (reprL (kindN kd ++ "(") rows.length), V.str (textS rs), V.ref z]) = H4 at s04 hp4 hz4 d4 hx4 L4
    have D4 : ∀ H8, Same H4 H8 → DpAll K H8 [V.str (textT rows), V.int (m : Int), V.int (ps.length : Int), V.int (rows.length : Int), V.str (reprL (kindN kd ++ "(") rows.length), V.str (textS rs), V.ref z] [.str (textT rows), .int (m : Int), .int (ps.length : Int), .int (rows.length : Int), .str (nameD kd rows.length), .str (textS rs), .tuple ((brkL rows rs).map R.d)] := fun H8 s8 => by
      rw [reprL_name]
      exact .cons (.str _) (.cons (.int _) (.cons (.int _) (.cons (.int _) (.cons (.str _) (.cons (.str _) (.cons (.tup (.inl (.inl (s8 _ _ hz4))) (dps_same s8 _ _ d4)) .nil))))))
    refine ⟨_, rfl, _, _, rfl, rfl, _, rfl, ?_⟩
    by_cases e2 : 2 ≤ kd
    · have el : lmOf kd cap = some cap := if_pos e2
      rw [el] at hx4
      refine iteT' (decide_eq_true (by omega)) ⟨_, rfl, e2, _, rfl, x, dx, _, rfl, hx4, x, dx, _, _, rfl, hx4, fldM_l _ _ _ _, (by show 1 ≤ sizeLine; decide), fun p2 n2 => ?_⟩
      have s8 : Same H4 (upd H4 p2 (.lst [V.int (cap : Int)])) := same_new n2
      refine ⟨p, p2, _, _, rfl, rfl, s8 _ _ hp4, upd_same, (by show 7 + 1 ≤ sizeLine; decide), fun p3 n3 => ?_⟩
      have s9 := s8.trans (same_new (o := .lst ([V.str (textT rows), V.int (m : Int), V.int (ps.length : Int), V.int (rows.length : Int), V.str (reprL (kindN kd ++ "(") rows.length), V.str (textS rs), V.ref z] ++ [V.int (cap : Int)])) n3)
      refine q p3 _ (s04.trans s9) (.lst (SqL.of upd_same) ?_)
      unfold seenD
      rw [if_pos e2]
      exact dps_app (D4 _ s9) (.cons (.int _) .nil)
    · refine iteF' (decide_eq_false (by omega)) ⟨_, rfl, ?_⟩
      refine q p _ s04 (.lst (SqL.of hp4) ?_)
      unfold seenD
      rw [if_neg e2, List.append_nil]
      exact D4 _ (Same.refl _)
end
end CC
namespace CC
open PySem L2 TL
/-! ### rows drawn, one after another -/
structure LsW (K : PySem.W.Frag) (H0 H : Hp) (s p : Addr) (rows : List (List Nat)) : Prop where
  new : H0 p = none
  nes : p ≠ s
  lst : ∃ us, H p = some (.lst us) ∧ DpAll K H us (rows.map gd)
section
variable {K : PySem.W.Frag} {H0 H H' : Hp} {s p q : Addr} {rows : List (List Nat)}
theorem LsW.grow (a : LsW K H0 H s p rows) (e : Same H H') : LsW K H0 H' s p rows := by
  obtain ⟨us, h1, h2⟩ := a.lst
  exact ⟨a.new, a.nes, us, e _ _ h1, dps_same e _ _ h2⟩
theorem LsW.run (a : LsW K H0 H s p rows) (hs : Src H s) (e : Ran H H' s) : LsW K H0 H' s p rows := by
  obtain ⟨us, h1, h2⟩ := a.lst
  exact ⟨a.new, a.nes, us, e.at_ h1 a.nes, gds_T (e.T hs) h2⟩
theorem LsW.push (a : LsW K H0 H s p rows) {v : V} {r : List Nat} (d : Dp K H v (gd r)) : ∃ us, H p = some (.lst us) ∧ LsW K H0 (upd H p (.lst (us ++ [v]))) s p (rows ++ [r]) := by
  obtain ⟨us, h1, h2⟩ := a.lst
  refine ⟨us, h1, a.new, a.nes, us ++ [v], upd_same, ?_⟩
  rw [List.map_append]
  exact dps_app (gds_T (upd_T h1) h2) (dps_one (gd_T (upd_T h1) d))
theorem LsW.len (a : LsW K H0 H s p rows) {us : List V} (h : H p = some (.lst us)) : us.length = rows.length := by
  obtain ⟨vs, h1, h2⟩ := a.lst
  rw [h] at h1
  cases h1
  rw [dps_len h2, List.length_map]
end
section
variable {P : Program} {w : World} {K : PySem.W.Frag} {mg : Str → Option Value} {base : Heap} {kA : Addr}
end
end CC
namespace CC
open PySem L2 LamX
section
variable {H H' : Hp} {K : PySem.W.Frag} {C CR CT x r q : Addr} {w n : Nat} {rs : List R} {rows : List (List Nat)}
theorem RulesAt.ext (h : RulesAt K CR H r w rs) (e : ExtN H H') : RulesAt K CR H' r w rs := by
  obtain ⟨dx, g, us, h1, h2, h3⟩ := h
  exact ⟨dx, g, us, e _ _ h1 (tb_no rfl), ext_tup e h2, dps_ext e _ _ h3⟩
theorem wos_ext {l : List Addr} (e : ExtN H H') : ExtN (wos H l) (wos H' l) := fun b o h n => by
  obtain ⟨nb, h⟩ := wos_at h
  rw [wos_in nb]
  exact e b o h n
theorem LogAt.ext (L : LogAt K C CR CT H x r q w rs rows n) (e : ExtN H H') : LogAt K C CR CT H' x r q w rs rows n := by
  obtain ⟨⟨dx, t, h1, h2⟩, h3, ⟨hs, h4, h5⟩⟩ := L
  exact ⟨⟨dx, t, e _ _ h1 (tb_no rfl), h2.ext (wos_ext e)⟩, h3.ext (wos_ext e), ⟨hs, ext_lst e h4, h5⟩⟩
end
end CC
namespace CC
open PySem L2 TL LamX PyProof.Rows
/-! ### what a law with one log keeps: its script, the source, the tables of code objects, the log, the rules that were given -/
structure W1 (K : PySem.W.Frag) (Ts : List (Addr × Str)) (C CR CT : Addr) (lm : Option Nat) (H : Hp) (a p x r q g : Addr) (ns : List Int) (w : Nat) (rs : List R) (rows : List (List Nat)) (ps : List (List (List Nat))) : Prop where
  scr : SqL K (wos H [p, x, q]) a (ns.map V.int)
  src : Src H p
  tab : Tabs Ts H
  log : LgAt K C CR CT lm H x r q w rs rows ps
  nq : q ≠ p
  giv : ∃ ug, H g = some (.tup ug) ∧ DpAll K H ug (rs.map R.d)
/-- a list of rows beside them -/
structure Ls1 (K : PySem.W.Frag) (H : Hp) (p x q l : Addr) (rows : List (List Nat)) : Prop where
  ne : l ∉ [p, x, q]
  at_ : ∃ us, H l = some (.lst us) ∧ DpAll K H us (rows.map gd)
section
variable {K : PySem.W.Frag} {Ts : List (Addr × Str)} {C CR CT : Addr} {lm : Option Nat} {H H' : Hp} {a p x r q g l : Addr} {ns : List Int} {w : Nat} {rs : List R} {rows rows' ls : List (List Nat)} {ps ps' : List (List (List Nat))}
theorem src_out1 (s : Src H p) (L : LgAt K C CR CT lm H x r q w rs rows ps) (n1 : q ≠ p) : p ∉ [x, q] := by
  obtain ⟨o, hp, z1, z2, z3, rfl, _⟩ := s
  obtain ⟨dx, t, hx, _⟩ := L.at_
  simp only [List.mem_cons, List.not_mem_nil, or_false, not_or]
  exact ⟨(ne_of hx hp (by intro z; cases z)).symm, n1.symm⟩
theorem W1.grow (W : W1 K Ts C CR CT lm H a p x r q g ns w rs rows ps) (e : Same H H') : W1 K Ts C CR CT lm H' a p x r q g ns w rs rows ps := by
  obtain ⟨o, s1, s2⟩ := W.src
  obtain ⟨ug, h1, h2⟩ := W.giv
  exact ⟨same_l (Kp.of e).same W.scr, ⟨o, e _ _ s1, s2⟩, W.tab.ext e, W.log.keep e, W.nq, ug, e _ _ h1, dps_same e _ _ h2⟩
theorem W1.ext (W : W1 K Ts C CR CT lm H a p x r q g ns w rs rows ps) (e : ExtN H H') (t : Tabs Ts H') : W1 K Ts C CR CT lm H' a p x r q g ns w rs rows ps := by
  obtain ⟨o, h1, h2⟩ := W.src
  obtain ⟨i1, i2, i3, eo, _⟩ := id h2
  obtain ⟨ug, g1, g2⟩ := W.giv
  refine ⟨same_l (fun b u q => ?_) (sql_nt W.scr), ⟨o, e _ _ h1 (fun ps q => by rw [eo] at q; cases q), h2⟩, t, W.log.ext e, W.nq, ug, ext_tup e g1, dps_ext e _ _ g2⟩
  obtain ⟨q, n⟩ := nt_at q
  obtain ⟨nb, q⟩ := wos_at q
  rw [wos_in nb]
  exact e _ _ q (tb_no n)
theorem W1.run (W : W1 K Ts C CR CT lm H a p x r q g ns w rs rows ps) (e : Ran H H' p) : W1 K Ts C CR CT lm H' a p x r q g ns w rs rows ps := by
  obtain ⟨ug, g1, g2⟩ := W.giv
  exact ⟨same_l (Kp.ran e (by simp)).same W.scr, e.src, tabs_ran W.tab W.src e, W.log.ran W.src W.nq e, W.nq, ug, (e.T W.src).1 _ _ g1, rds_T (e.T W.src) g2⟩
theorem W1.chg (W : W1 K Ts C CR CT lm H a p x r q g ns w rs rows ps) (k : Kp [x, q] H H') (L : LgAt K C CR CT lm H' x r q w rs rows' ps') : W1 K Ts C CR CT lm H' a p x r q g ns w rs rows' ps' := by
  obtain ⟨o, s1, s2⟩ := W.src
  obtain ⟨ug, g1, g2⟩ := W.giv
  exact ⟨same_l (k.up fun b hb => by simp at hb ⊢; rcases hb with hb | hb <;> simp [hb]).same W.scr, ⟨o, k _ _ s1 (src_out1 W.src W.log W.nq), s2⟩, W.log.tabs W.tab k, L, W.nq, ug, (W.log.T k).1 _ _ g1, rds_T (W.log.T k) g2⟩
theorem W1.w3 (W : W1 K Ts C CR CT lm H a p x r q g ns w rs rows ps) : W3 K Ts H a p ns :=
  ⟨by rw [wo_wos]; exact same_l (wos_mono fun b hb => by simp at hb ⊢; exact .inl hb) W.scr, W.src, W.tab⟩
/-- a log just made -/
theorem W1.mk' {H0 : Hp} {ug : List V} (W : W3 K Ts H0 a p ns) (s01 : Same H0 H') (a1 : H0 x = none) (a2 : H0 q = none) (L1 : LgAt K C CR CT lm H' x r q w rs rows ps) (hg : H' g = some (.tup ug)) (dg : DpAll K H' ug (rs.map R.d)) : W1 K Ts C CR CT lm H' a p x r q g ns w rs rows ps := by
  have W' := W.grow s01
  obtain ⟨o, s1, s2⟩ := W.src
  refine ⟨same_l (fun b u e => ?_) W.scr, W'.src, W'.tab, L1, (ne_of_none s1 a2).symm, ug, hg, dg⟩
  have bp : b ≠ p := fun y => by
    rw [y, wo_at] at e
    cases e
  rw [wo_ne bp] at e
  rw [wos_in (by simp only [List.mem_cons, List.not_mem_nil, or_false, not_or]; exact ⟨bp, ne_of_none e a1, ne_of_none e a2⟩)]
  exact s01 _ _ e
theorem Ls1.grow (z : Ls1 K H p x q l ls) (e : Same H H') : Ls1 K H' p x q l ls := by
  obtain ⟨us, h1, h2⟩ := z.at_
  exact ⟨z.ne, us, e _ _ h1, dps_same e _ _ h2⟩
theorem Ls1.ext (z : Ls1 K H p x q l ls) (e : ExtN H H') : Ls1 K H' p x q l ls := by
  obtain ⟨us, h1, h2⟩ := z.at_
  exact ⟨z.ne, us, ext_lst e h1, dps_ext e _ _ h2⟩
theorem Ls1.run (z : Ls1 K H p x q l ls) (s : Src H p) (e : Ran H H' p) : Ls1 K H' p x q l ls := by
  obtain ⟨us, h1, h2⟩ := z.at_
  exact ⟨z.ne, us, e.at_ h1 fun y => z.ne (by rw [y]; exact List.mem_cons_self), gds_T (e.T s) h2⟩
theorem Ls1.chg (z : Ls1 K H p x q l ls) (L : LgAt K C CR CT lm H x r q w rs rows ps) (k : Kp [x, q] H H') : Ls1 K H' p x q l ls := by
  obtain ⟨us, h1, h2⟩ := z.at_
  exact ⟨z.ne, us, k _ _ h1 fun y => z.ne (List.mem_cons_of_mem _ y), gds_T (L.T k) h2⟩
/-- a list that is new beside a log -/
theorem Ls1.new (W : W1 K Ts C CR CT lm H a p x r q g ns w rs rows ps) (n : H l = none) {us : List V} (h : H' l = some (.lst us)) (d : DpAll K H' us (ls.map gd)) : Ls1 K H' p x q l ls := by
  obtain ⟨o, s1, _⟩ := W.src
  obtain ⟨dx, t, hx, _⟩ := W.log.at_
  obtain ⟨hs, hq, _⟩ := W.log.past
  refine ⟨?_, us, h, d⟩
  simp only [List.mem_cons, List.not_mem_nil, or_false, not_or]
  exact ⟨(ne_of_none s1 n).symm, (ne_of_none hx n).symm, (ne_of_none hq n).symm⟩
end
end CC
namespace CC
open PySem L2 TL LamX PyProof.Rows
/-! ### what a helper of a law with one log keeps, beside the heap that it began with -/
def RanX (H H' : Hp) (l : List Addr) : Prop := ∀ b o, H b = some o → b ∉ l → isTb o = false → H' b = some o
structure W0 (K : PySem.W.Frag) (Ts : List (Addr × Str)) (C CR CT : Addr) (lm : Option Nat) (H0 H : Hp) (p x r q g : Addr) (w : Nat) (rs : List R) (rows : List (List Nat)) (ps : List (List (List Nat))) : Prop where
  old : RanX H0 H [p, x, q]
  src : Src H p
  tab : Tabs Ts H
  log : LgAt K C CR CT lm H x r q w rs rows ps
  nq : q ≠ p
  giv : ∃ ug, H g = some (.tup ug) ∧ DpAll K H ug (rs.map R.d)
section
variable {K : PySem.W.Frag} {Ts : List (Addr × Str)} {C CR CT : Addr} {lm : Option Nat} {H0 H H' : Hp} {a p x r q g l : Addr} {ns : List Int} {w : Nat} {rs : List R} {rows rows' ls : List (List Nat)} {ps ps' : List (List (List Nat))}
theorem W0.grow (W : W0 K Ts C CR CT lm H0 H p x r q g w rs rows ps) (e : Same H H') : W0 K Ts C CR CT lm H0 H' p x r q g w rs rows ps := by
  obtain ⟨o, s1, s2⟩ := W.src
  obtain ⟨ug, h1, h2⟩ := W.giv
  exact ⟨fun b o h n t => e _ _ (W.old b o h n t), ⟨o, e _ _ s1, s2⟩, W.tab.ext e, W.log.keep e, W.nq, ug, e _ _ h1, dps_same e _ _ h2⟩
theorem W0.ext (W : W0 K Ts C CR CT lm H0 H p x r q g w rs rows ps) (e : ExtN H H') (t : Tabs Ts H') : W0 K Ts C CR CT lm H0 H' p x r q g w rs rows ps := by
  obtain ⟨o, h1, h2⟩ := W.src
  obtain ⟨i1, i2, i3, eo, _⟩ := id h2
  obtain ⟨ug, g1, g2⟩ := W.giv
  exact ⟨fun b o h n t => e _ _ (W.old b o h n t) (tb_no t), ⟨o, e _ _ h1 (fun ps q => by rw [eo] at q; cases q), h2⟩, t, W.log.ext e, W.nq, ug, ext_tup e g1, dps_ext e _ _ g2⟩
theorem W0.run (W : W0 K Ts C CR CT lm H0 H p x r q g w rs rows ps) (e : Ran H H' p) : W0 K Ts C CR CT lm H0 H' p x r q g w rs rows ps := by
  obtain ⟨ug, g1, g2⟩ := W.giv
  exact ⟨fun b o h n t => e.at_ (W.old b o h n t) fun y => n (by rw [y]; exact List.mem_cons_self), e.src, tabs_ran W.tab W.src e, W.log.ran W.src W.nq e, W.nq, ug, (e.T W.src).1 _ _ g1, rds_T (e.T W.src) g2⟩
theorem W0.chg (W : W0 K Ts C CR CT lm H0 H p x r q g w rs rows ps) (k : Kp [x, q] H H') (L : LgAt K C CR CT lm H' x r q w rs rows' ps') : W0 K Ts C CR CT lm H0 H' p x r q g w rs rows' ps' := by
  obtain ⟨o, s1, s2⟩ := W.src
  obtain ⟨ug, g1, g2⟩ := W.giv
  exact ⟨fun b o h n t => k _ _ (W.old b o h n t) fun y => n (List.mem_cons_of_mem _ y), ⟨o, k _ _ s1 (src_out1 W.src W.log W.nq), s2⟩, W.log.tabs W.tab k, L, W.nq, ug, (W.log.T k).1 _ _ g1, rds_T (W.log.T k) g2⟩
theorem W0.start (src : Src H p) (tab : Tabs Ts H) (log : LgAt K C CR CT lm H x r q w rs rows ps) (nq : q ≠ p) (giv : ∃ ug, H g = some (.tup ug) ∧ DpAll K H ug (rs.map R.d)) : W0 K Ts C CR CT lm H H p x r q g w rs rows ps := ⟨fun _ _ h _ _ => h, src, tab, log, nq, giv⟩
/-- what a law keeps, after its helper -/
theorem W1.after (W : W1 K Ts C CR CT lm H a p x r q g ns w rs rows ps) (W' : W0 K Ts C CR CT lm H H' p x r q g w rs rows' ps') : W1 K Ts C CR CT lm H' a p x r q g ns w rs rows' ps' := by
  refine ⟨same_l (fun b u e => ?_) (sql_nt W.scr), W'.src, W'.tab, W'.log, W'.nq, W'.giv⟩
  obtain ⟨e, n⟩ := nt_at e
  obtain ⟨nb, e⟩ := wos_at e
  rw [wos_in nb]
  exact W'.old _ _ e nb n
end
end CC
namespace CC
open PySem L2 TL LamX PyProof.Rows
/-- the words that a call may tell are short -/
theorem fit_word {kd cap : Nat} {rs : List R} {rows : List (List Nat)} : fitW kd cap rs rows ∈ (["TooMuch", "Broken", "told"] : List Str) := by
  rcases fitW_in (kd := kd) (cap := cap) (rs := rs) (rows := rows) with e | e | e <;> rw [e] <;> simp
theorem addW_word {kd cap : Nat} {rs : List R} {rows : List (List Nat)} {o : Option (List Nat)} : (addW kd cap rs rows o).1 ∈ (["NoRow", "NotThere", "TooMuch", "Broken", "told"] : List Str) := by
  cases o with
  | none => exact List.mem_cons_self
  | some r =>
    rw [show addW kd cap rs rows (some r) = if fitW kd cap rs (rows ++ [r]) = "told" then (("told" : Str), rows ++ [r]) else (fitW kd cap rs (rows ++ [r]), rows) from rfl]
    split
    · simp
    · have := fit_word (kd := kd) (cap := cap) (rs := rs) (rows := rows ++ [r])
      simp only [List.mem_cons, List.not_mem_nil, or_false] at this ⊢
      exact .inr (.inr this)
theorem dropW_word {rows : List (List Nat)} {o : Option (List Nat)} : (dropW rows o).1 ∈ (["NoRow", "NotThere", "TooMuch", "Broken", "told"] : List Str) := by
  cases o with
  | none => exact List.mem_cons_self
  | some r =>
    rw [show dropW rows (some r) = if r ∈ rows then (("told" : Str), RW.dropR rows r) else (("NotThere" : Str), rows) from rfl]
    split <;> simp
theorem sd_five {x : Str} (h : x ∈ (["NoRow", "NotThere", "TooMuch", "Broken", "told"] : List Str)) : GD.SD 1000000 64 (tlD x) := by
  have : ∀ y ∈ (["NoRow", "NotThere", "TooMuch", "Broken", "told"] : List Str), (tl y).all (fun c => decide (c < 128)) = true ∧ y.length ≤ 100 := by decide +kernel
  exact sd_tl (this x h).1 (this x h).2
theorem dropR_sub {rows : List (List Nat)} {r : List Nat} : ∀ y ∈ RW.dropR rows r, y ∈ rows := fun y hy => by
  unfold RW.dropR at hy
  exact List.mem_reverse.mp (List.mem_of_mem_erase (List.mem_reverse.mp hy))
theorem dropR_len {rows : List (List Nat)} {r : List Nat} : (RW.dropR rows r).length ≤ rows.length := by
  unfold RW.dropR
  rw [List.length_reverse]
  exact Nat.le_trans (List.length_erase_le) (by rw [List.length_reverse]; exact Nat.le_refl _)
/-- what is there after a call that was due -/
theorem addW_ok {kd cap m : Nat} {rs : List R} {rows : List (List Nat)} {o : Option (List Nat)} (ok : ∀ y ∈ rows, RowOk m y) (h : ∀ r, o = some r → RowOk m r) : (∀ y ∈ (addW kd cap rs rows o).2, RowOk m y) ∧ (addW kd cap rs rows o).2.length ≤ rows.length + 1 ∧ ((addW kd cap rs rows o).1 ≠ "told" → (addW kd cap rs rows o).2 = rows) := by
  cases o with
  | none => exact ⟨ok, Nat.le_succ _, fun _ => rfl⟩
  | some r =>
    rw [show addW kd cap rs rows (some r) = if fitW kd cap rs (rows ++ [r]) = "told" then (("told" : Str), rows ++ [r]) else (fitW kd cap rs (rows ++ [r]), rows) from rfl]
    split
    · refine ⟨fun y hy => ?_, by rw [List.length_append]; exact Nat.le_refl _, fun z => absurd rfl z⟩
      rcases List.mem_append.mp hy with z | z
      · exact ok y z
      · rw [List.mem_singleton.mp z]
        exact h r rfl
    · exact ⟨ok, Nat.le_succ _, fun _ => rfl⟩
theorem dropW_ok {m : Nat} {rows : List (List Nat)} {o : Option (List Nat)} (ok : ∀ y ∈ rows, RowOk m y) : (∀ y ∈ (dropW rows o).2, RowOk m y) ∧ (dropW rows o).2.length ≤ rows.length + 1 ∧ ((dropW rows o).1 ≠ "told" → (dropW rows o).2 = rows) := by
  cases o with
  | none => exact ⟨ok, Nat.le_succ _, fun _ => rfl⟩
  | some r =>
    rw [show dropW rows (some r) = if r ∈ rows then (("told" : Str), RW.dropR rows r) else (("NotThere" : Str), rows) from rfl]
    split
    · exact ⟨fun y hy => ok y (dropR_sub y hy), Nat.le_trans dropR_len (Nat.le_succ _), fun z => absurd rfl z⟩
    · exact ⟨ok, Nat.le_succ _, fun _ => rfl⟩
end CC
namespace CC
open PySem L2 TL
/-! ### Table.read(many, _law_text(listed)) -/
def spLta (K : PySem.W.Frag) (C : Addr) : Sp := fun vs H Q _ => ∃ (w : Nat) (g : Addr) (us : List V) (rows : List (List Nat)), vs = [.int (w : Int), .ref g] ∧ SqL K H g us ∧ DpAll K H us (rows.map gd) ∧ 1 ≤ w ∧ w ≤ 6 ∧ (∀ r ∈ rows, RowOk w r) ∧ rows.length ≤ 400 ∧ ∀ (x : Addr) (H' : Hp), Same H H' → H x = none → TableAt K C H' x w rows → Q (.ref x) H'
section
variable {P : Program} {w : World} {K : PySem.W.Frag} {mg : Str → Option Value} {base : Heap} {kA : Addr}
abbrev nLta : List Str := ["_law_many", "_law_listed"]
theorem scLta : FnScope nLta ["_law_many", "_law_listed"] (defScope sLta) := ⟨rfl, rfl, rfl, by decide +kernel, rfl, by decide +kernel, by decide +kernel⟩
theorem ok_lta {f C : Addr} {fd : FuncData} {k : Nat} (F : Fun K "_law_table" "_law_table" sLta f fd) (TC : TxtT K mg C) (rd : ReadT P w K mg base C 5) (cX : Cal P w K mg base "_law_text" ["_law_listed"] (spTTx K) 1) : FnOk P w K mg base CX0 (k + 6) f fd ["_law_many", "_law_listed"] (spLta K C) := by
  have GR := rd.ok (k + 5) (by omega)
  have GX := cX.ok (k + 5) (by omega)
  refine F.ok scLta (fun vs H Q E h => ?_) (fun cdv A outer s H vs Q E hr h => ?_)
  · obtain ⟨w, g, us, rows, rfl, _⟩ := h
    rfl
  · obtain ⟨w, g, us, rows, rfl, hg, dp, w1, w6, ok, few, q⟩ := h
    have n := scLta.nd
    refine ⟨_, (pss_one (ps_ret (ClX.pe_cmeth (pe_glob (v := .ref C) rfl TC.mgC rfl) rd.rD rd.cD GR hr pass0 (pa_cons (pv 0) (pa_cons (pe_call GX hr rfl cX.g cX.kp cX.b .nil pass0 (pa_cons (pv 1) pa_nil)) pa_nil))))), ?_⟩
    refine ⟨rfl, _, rfl, _, rfl, g, us, w, rows, rfl, hg, dp, w6, ok, few, fun H1 s1 => ?_⟩
    refine ⟨w, rows, rfl, w1, w6, ok, few, fun x H2 s2 nx tx => ?_⟩
    exact q x H2 (s1.trans s2) (s1.free nx) tx
end
end CC
namespace CC
open PySem L2 TL LamX PyProof.Rows
/-! ### many equal rows -/
theorem dps_rep {K : PySem.W.Frag} {H : Hp} {v : V} {d : PyData} (h : Dp K H v d) : ∀ n, DpAll K H (List.replicate n v) (List.replicate n d)
  | 0 => .nil
  | n + 1 => .cons h (dps_rep h n)
theorem fw_rep {n : Nat} {r : List Nat} : Fw (List.replicate n r) := ⟨[r], (by show 1 ≤ 15; decide), fun x hx => by rw [List.eq_of_mem_replicate hx]; exact List.mem_singleton.mpr rfl⟩
theorem row_rep {n m : Nat} {r : List Nat} (h : RowOk m r) : ∀ y ∈ List.replicate n r, RowOk m y := fun y hy => by
  rw [List.eq_of_mem_replicate hy]
  exact h
theorem rep_list (v : V) (n : Nat) : (List.replicate n [v]).flatten = List.replicate n v := by
  induction n with
  | zero => rfl
  | succ n ih => rw [List.replicate_succ, List.replicate_succ, List.flatten_cons, ih]; rfl
/-- in equal rows each rule that says settles holds -/
theorem settles_rep {n : Nat} {r : List Nat} {rs : List R} : (brkL (List.replicate n r) rs).any (·.k) = false := by
  rw [Bool.eq_false_iff]
  intro h
  obtain ⟨y, hy, hk⟩ := List.any_eq_true.mp h
  obtain ⟨_, hb⟩ := List.mem_filter.mp hy
  have : holdsB (List.replicate n r) y = true := holdsB_iff.mpr (by
    unfold HoldsR
    rw [if_pos hk]
    intro a ha b hb _
    rw [List.eq_of_mem_replicate ha, List.eq_of_mem_replicate hb])
  rw [this] at hb
  cases hb
/-- in rows of one value each rule holds -/
theorem one_rep {n m d : Nat} {rs : List R} (ok : ∀ r ∈ rs, r.ok m) : brkL (List.replicate n (List.replicate m d)) rs = [] := by
  unfold brkL
  rw [List.filter_eq_nil_iff]
  intro r hr
  have hrok := ok r hr
  have g : ∀ i, i < m → (List.replicate m d).getD i 0 = d := fun i hi => by
    rw [List.getD_eq_getElem?_getD, List.getElem?_replicate, if_pos hi]
    rfl
  have : holdsB (List.replicate n (List.replicate m d)) r = true := holdsB_iff.mpr (by
    unfold HoldsR
    split
    · intro a ha b hb _
      rw [List.eq_of_mem_replicate ha, List.eq_of_mem_replicate hb]
    · intro a ha
      refine ⟨a, ha, ?_⟩
      rw [List.eq_of_mem_replicate ha, g _ hrok.1, g _ hrok.2.1])
  rw [this]
  decide
theorem fit_rep {kd cap n : Nat} {r : List Nat} {rs : List R} (h : n ≤ if 2 ≤ kd then cap else 400) : fitW kd cap rs (List.replicate n r) = "told" := by
  unfold fitW
  rw [if_neg (by rw [List.length_replicate]; omega), if_neg (by rw [settles_rep]; simp)]
theorem fit_much {kd cap : Nat} {rows : List (List Nat)} {rs : List R} (h : (if 2 ≤ kd then cap else 400) < rows.length) : fitW kd cap rs rows = "TooMuch" := by
  unfold fitW
  rw [if_pos h]
end CC
namespace CC
open PySem L2 TL LamX PyProof.Rows
/-! ### add, the log itself, or drop -/
abbrev nCl : List Str := ["_law_log", "_law_what", "_law_row_here"]
def spCl (K : PySem.W.Frag) (C CR CT : Addr) (C9 : Nat → Addr) : Sp := fun vs H Q E => ∃ (x dx : Addr) (fs : List (Str × V)) (wt : Nat) (u : V), vs = [.ref x, .int (wt : Int), u] ∧ H x = some (.ins C dx fs) ∧ fs.lookup ("add" : Str) = none ∧ fs.lookup ("drop" : Str) = none ∧ (wt < 2 → spAddM K C CR CT (lbOf 0) (ckOf (C9 5) (C9 7) 0) (NRO K) (C9 0) [.ref x, u] H Q E) ∧ (2 ≤ wt → spDrpM K C CR CT (NRO K) (C9 0) (C9 6) [.ref x, u] H Q E)
structure CalX (P : Program) (w : World) (K : PySem.W.Frag) (mg : Str → Option Value) (base : Heap) (x : Str) (ps : List Str) (sp : Sp) (l : Nat) where
  f : Addr
  fd : FuncData
  ok : ∀ k, l ≤ k → FnOk P w K mg base (L2.CX P w) k f fd ps sp
  kp : PySem.W.keepIn K (.ref f) = true
  b : Binds K fd ps []
  g : mg x = some (.ref f)
section
variable {P : Program} {w : World} {K : PySem.W.Frag} {mg : Str → Option Value} {base : Heap} {kA : Addr}
theorem scCl : FnScope nCl ["_law_log", "_law_what", "_law_row_here"] (defScope sCl) := ⟨rfl, rfl, rfl, by decide +kernel, rfl, by decide +kernel, by decide +kernel⟩
theorem ok_cl {f CR CT : Addr} {C9 : Nat → Addr} {fd : FuncData} {k : Nat} (F : Fun K "_law_call" "_law_call" sCl f fd) (Lc : LogF P w K mg base CR CT C9 0) : FnOk P w K mg base (L2.CX P w) (k + 16) f fd ["_law_log", "_law_what", "_law_row_here"] (spCl K Lc.C CR CT C9) := by
  refine F.okX scCl (fun vs H Q E h => ?_) (fun cdv A outer s H vs Q E hr h => ?_)
  · obtain ⟨x, dx, fs, wt, u, rfl, _⟩ := h
    rfl
  · obtain ⟨x, dx, fs, wt, u, rfl, hx, n1, n2, ha, hd⟩ := h
    refine ⟨_, (pss_cons (ps_if (pt_cmpR op_eq (pv 1) pe_int (nomark _)) (pss_one (ps_ret (pe_meth (pv 0) Lc.TM.cl Lc.add.m (Lc.add.ok (k + 15) (by omega)) hr Lc.add.b .nil (passes_call (takes_of rfl rfl rfl rfl) (fun _ _ _ _ h => h)) (pa_cons (pv 2) pa_nil)))) pss_nil)
      (pss_one (ps_ret (pe_ifExp (pt_cmpR op_eq (pv 1) pe_int (nomark _)) (pe_callO2 (pv 0) Lc.cC (Lc.call (k + 15) (by omega)) hr (passes_call (takes_of rfl rfl rfl rfl) (fun _ _ _ _ h => h)) (pa_cons (pv 2) pa_nil)) (pe_meth (pv 0) Lc.TM.cl Lc.drp.m (Lc.drp.ok (k + 15) (by omega)) hr Lc.drp.b .nil (passes_call (takes_of rfl rfl rfl rfl) (fun _ _ _ _ h => h)) (pa_cons (pv 2) pa_nil)))))), ?_⟩
    refine ⟨_, rfl, rfl, _, rfl, ?_⟩
    by_cases w0 : wt = 0
    · exact iteT' (by rw [w0]; decide +kernel) ⟨_, rfl, x, dx, _, rfl, hx, n1, _, rfl, ha (by omega)⟩
    refine iteF' (decide_eq_false fun z => w0 (by injection z with z; omega)) ⟨_, rfl, rfl, _, rfl, ?_⟩
    by_cases w1 : wt = 1
    · exact iteT' (by rw [w1]; decide +kernel) ⟨_, rfl, x, rfl, _, rfl, .inr ⟨dx, _, hx⟩, ha (by omega)⟩
    · exact iteF' (decide_eq_false fun z => w1 (by injection z with z; omega)) ⟨_, rfl, x, dx, _, rfl, hx, n2, _, rfl, hd (by omega)⟩
end
/-- what is told of it -/
noncomputable def callW (kd cap : Nat) (rs : List R) (rows : List (List Nat)) (wt : Nat) (o : Option (List Nat)) : Str × List (List Nat) := if wt < 2 then addW kd cap rs rows o else dropW rows o
theorem ts9_cl {P : Program} {w : World} {K : PySem.W.Frag} {mg : Str → Option Value} {base : Heap} {CR CT : Addr} {C9 : Nat → Addr} {H : Hp} {x r q : Addr} {m wt i j l : Nat} {rs : List R} {rows : List (List Nat)} {ps : List (List (List Nat))} {σ : L2.St} {Q : VK} {u : V} {o : Option (List Nat)} (Lc : LogF P w K mg base CR CT C9 0) (hx : σ[i]? = some (some (.ref x))) (hw : σ[l]? = some (some (.int (wt : Int)))) (ht : σ[j]? = some (some u)) (L : LgAt K Lc.C CR CT (lmOf 0 400) H x r q m rs rows ps) (ok : LgOk m rs rows) (p1 : ps.length < 1000) (hv : RowV K H m u o) (fw : ∀ r, o = some r → Fw (rows ++ [r]))
    (s : StepTo K Lc.C CR CT (lmOf 0 400) H x r q m rs (callW 0 400 rs rows wt o) (ps ++ [rows]) Q) :
    TS9 C9 (fun E => tCall (spCl K Lc.C CR CT C9) [] E (tCons (tVar i) (tCons (tVar l) (tCons (tVar j) tNil))) σ) H Q := by
  intro Q' hq
  obtain ⟨dx, t1, hx1, _⟩ := id L.at_
  refine ⟨_, hx, _, hw, _, ht, x, dx, _, wt, u, rfl, hx1, fldM_no _ _ _ _ (by decide +kernel) (by decide +kernel) (by decide +kernel) (by decide +kernel), fldM_no _ _ _ _ (by decide +kernel) (by decide +kernel) (by decide +kernel) (by decide +kernel), fun h => ?_, fun h => ?_⟩
  · unfold callW at s
    rw [if_pos h] at s
    exact add_core (by decide) (Nat.le_refl _) L ok p1 hv fw s hq
  · unfold callW at s
    rw [if_neg (by omega)] at s
    refine ⟨lmOf 0 400, x, r, q, m, rs, rows, ps, u, rfl, L, ok, p1, ?_⟩
    cases o with
    | none => exact .inr ⟨⟨ok.w6, hv⟩, fun H' s' => s.bad (i := 0) (by decide) C9 rfl H' s' (by decide +kernel)⟩
    | some row =>
      obtain ⟨t, rfl, ht2, rok⟩ := hv
      rw [show dropW rows (some row) = if row ∈ rows then (("told" : Str), RW.dropR rows row) else (("NotThere" : Str), rows) from rfl] at s
      refine .inl ⟨t, row, rfl, ht2, rok, fun hn H' s' => ?_, fun hm => ?_⟩
      · rw [if_neg hn] at s
        exact s.bad (i := 6) (by decide) C9 rfl H' s' (by decide +kernel)
      · rw [if_pos hm] at s
        exact s.good hq rfl
end CC
namespace CC
open PySem L2 TL LamX PyProof.Rows
theorem addW_much {kd cap : Nat} {rs : List R} {rows : List (List Nat)} {r : List Nat} (h : (if 2 ≤ kd then cap else 400) < rows.length + 1) : addW kd cap rs rows (some r) = (("TooMuch" : Str), rows) := by
  have e : fitW kd cap rs (rows ++ [r]) = "TooMuch" := fit_much (by rw [List.length_append]; exact h)
  rw [show addW kd cap rs rows (some r) = if fitW kd cap rs (rows ++ [r]) = "told" then (("told" : Str), rows ++ [r]) else (fitW kd cap rs (rows ++ [r]), rows) from rfl, e, if_neg (by decide +kernel)]
/-- a word that is no "told", by StepTo -/
theorem step_word {K : PySem.W.Frag} {C CR CT : Addr} {lm : Option Nat} {H : Hp} {x r q : Addr} {m : Nat} {rs : List R} {rows : List (List Nat)} {ps' : List (List (List Nat))} {Q : VK} {s : Str} (h : s ≠ "told") (k : ∀ H1, Same H H1 → ∀ p, H1 p = none → Q (.ref p) (upd H1 p (.lst [.str s]))) : StepTo K C CR CT lm H x r q m rs (s, rows) ps' Q := by
  refine ⟨fun _ H1 s1 p np => ?_, fun z => absurd z h⟩
  rw [show tlV (s, rows).1 = [.str s] from tlV_no h]
  exact k H1 s1 p np
theorem addW_told {kd cap : Nat} {rs : List R} {rows : List (List Nat)} {r : List Nat} (e : fitW kd cap rs (rows ++ [r]) = "told") : addW kd cap rs rows (some r) = (("told" : Str), rows ++ [r]) := by
  rw [show addW kd cap rs rows (some r) = if fitW kd cap rs (rows ++ [r]) = "told" then (("told" : Str), rows ++ [r]) else (fitW kd cap rs (rows ++ [r]), rows) from rfl, if_pos e]
/-- "told", by StepTo -/
theorem step_told {K : PySem.W.Frag} {C CR CT : Addr} {lm : Option Nat} {H : Hp} {x r q : Addr} {m : Nat} {rs : List R} {rows : List (List Nat)} {ps' : List (List (List Nat))} {Q : VK} (k : ∀ H1, Kp [x, q] H H1 → LgAt K C CR CT lm H1 x r q m rs rows ps' → ∀ p, H1 p = none → Q (.ref p) (upd H1 p (.lst [.str "told", .non]))) : StepTo K C CR CT lm H x r q m rs ("told", rows) ps' Q := by
  refine ⟨fun z => absurd rfl z, fun _ H1 k1 L1 p np => ?_⟩
  rw [show tlV (("told" : Str), rows).1 = [.str "told", .non] from tlV_told]
  exact k H1 k1 L1 p np
/-- a change of what is new beside the heap it began with -/
theorem kp_extN {H H1 H2 : Hp} {l : List Addr} (e : ExtN H H1) (k : Kp l H1 H2) (n : ∀ b ∈ l, H b = none) : ExtN H H2 := fun b o h t => k b o (e b o h t) fun z => by
  have := n b z
  rw [h] at this
  cases this
end CC
namespace CC
open PySem L2 TL LamX PyProof.Rows
/-! ### the 400th row and the 401st one -/
abbrev qFul : Str := (envOfC "_law_is_full_right" (defScope sFul) 0 0 .none).qual ++ "<lambda>"
abbrev nFul : List Str := ["_law_many", "_law_given_here", "_law_row_here", "_law_log"]
def spFul (K : PySem.W.Frag) (Ts : List (Addr × Str)) : Sp := fun vs H Q _ => ∃ (m d : Nat) (g t : Addr) (ug : List V) (rs : List R), vs = [.int (m : Int), .ref g, .ref t] ∧ 1 ≤ m ∧ m ≤ 6 ∧ d ≤ 9999 ∧ SqT K H g ug ∧ DpAll K H ug (rs.map R.d) ∧ (∀ r ∈ rs, r.ok m) ∧ rs.Nodup ∧ rs.length ≤ 60 ∧ SqT K H t (nms (List.replicate m d)) ∧ Tabs Ts H ∧ ∀ H', ExtN H H' → Tabs Ts H' → Q (.bl true) H'
section
variable {P : Program} {w : World} {K : PySem.W.Frag} {mg : Str → Option Value} {base : Heap} {kA : Addr}
theorem scFul : FnScope nFul ["_law_many", "_law_given_here", "_law_row_here"] (defScope sFul) := ⟨rfl, rfl, rfl, by decide +kernel, rfl, by decide +kernel, by decide +kernel⟩
theorem ok_ful {k : Nat} {f c Pt CR CT c3 : Addr} {NI : Hp → V → Prop} {C9 : Nat → Addr} {fd : FuncData} {Ts : List (Addr × Str)} (F : GD.FunC K "_law_is_full_right" "_law_is_full_right" sFul f fd c) (tb : TabB base mg c Pt) (hmT : (Pt, qFul) ∈ Ts) (hu : ∀ p ∈ Ts, p.1 = Pt → p.2 = qFul) (T : Glb K mg kA) (TR : Txt1 K mg CR) (TT : TxtT K mg CT) (x9 : Ex9 K mg C9)
    (Lc : LogF P w K mg base CR CT C9 0) (mS : MakeP P w K mg base "Log" Lc.C ["self", "rules"] (spLInitM K Lc.C CR CT c3 NI) 8) (rd : ReadR P w K mg base CR 6) (sd : Df K mg "_law_said" sSaid ["_law_call_here"]) (cW : Cal P w K mg base "_law_words" ["_law_given_here"] (spWd K) 1) (cT : Cal P w K mg base "_law_table" ["_law_many", "_law_listed"] (spLta K CT) 6) : GD.FnG P w K mg base CX0 (k + 18) f fd ["_law_many", "_law_given_here", "_law_row_here"] (spFul K Ts) := by
  have GT := cT.ok (k + 17) (by omega)
  have GW := cW.ok (k + 17) (by omega)
  have GR := rd.ok (k + 17) (by omega)
  have G0 := mS.ok (k + 16) (by omega)
  have GA := Lc.asg.ok (k + 17) (by omega)
  obtain ⟨sg, sfd, sF, sb, smg⟩ := sd
  have skp := sF.kp
  obtain ⟨oc, od, kV, doc, pm, an, scd, ct, osl, rfl, slk, shcd⟩ := sF.ex
  refine GD.fun_okGC F scFul (fun vs H Q E h => ?_) (fun A outer sh H vs Q E calm hr h => ?_)
  · obtain ⟨m, d, g, t, ug, rs, rfl, _⟩ := h
    rfl
  · obtain ⟨m, d, g, t, ug, rs, rfl, m1, m6, d9, hg, dg, rok, nd, r60, ht, tabs, q⟩ := h
    have n := scFul.nd
    have hu64 : (A.deeper (PyProof.Rows.envOfC (Str.ofString "_law_is_full_right") (defScope sFul) sh.heap.objs.size f (.ref c))).units + 64 < cLine := by
      have := hr.un
      omega
    refine ⟨_, (pss_cons (ps_set (i := 3) n rfl (.inr rfl) (pe_make mS.M G0 hr rfl mS.g mS.b .nil (E := E0) pass0Y (pa_cons (ClX.pe_cmeth (pe_glob (v := .ref CR) rfl TR.mgC rfl) rd.rD rd.cD GR hr pass0 (pa_cons (pv 0) (pa_cons (pe_call GW hr rfl cW.g cW.kp cW.b .nil pass0 (pa_cons (pv 1) pa_nil)) pa_nil))) pa_nil)))
      (pss_cons (ps_expr (pe_meth (pv 3) Lc.TM.cl Lc.asg.m GA hr Lc.asg.b .nil (E := E0) pass0Y (pa_cons (pe_call GT hr rfl cT.g cT.kp cT.b .nil pass0 (pa_cons (pv 0) (pa_cons (pe_op op_rep (pe_lst (pa_cons (pv 2) pa_nil)) pe_int) pa_nil))) pa_nil)))
      (pss_cons (ps_if (pt_cmpR (r := rNeD K) (op_neD hu64) (show PE _ _ (tLam Ts (TS9 C9) (fun E => tMeth Lc.C "add" (spAddM K Lc.C CR CT (lbOf 0) (ckOf (C9 5) (C9 7) 0) (NRO K) (C9 0)) [] E (tVar 3) (tCons (tVar 2) tNil))) from pe_lamcall (k := k + 15) rfl smg skp slk shcd sb scSaid rfl (.inl rfl) (said_gives x9) tb rfl hmT hu hr (lamS_by (sc := defScope sFul) (by decide +kernel)) rfl (fun _ _ _ _ _ => rfl) (fun A outer s H E f c' hr => pe_meth (pv 3) Lc.TM.cl Lc.add.m (Lc.add.ok (k + 15) (by omega)) hr Lc.add.b .nil (passes_call takes_lam (fun _ _ _ _ h => h)) (pa_cons (pv 2) pa_nil))) (pe_lst (pa_cons pe_str (pa_cons pe_non pa_nil))) (nomark _)) (pss_one (ps_ret pe_bl)) pss_nil)
      (pss_cons (ps_if (pt_cmpR (r := rNeD K) (op_neD hu64) (show PE _ _ (tLam Ts (TS9 C9) (fun E => tCallO2 Lc.C (spAddM K Lc.C CR CT (lbOf 0) (ckOf (C9 5) (C9 7) 0) (NRO K) (C9 0)) E (tVar 3) (tCons (tVar 2) tNil))) from pe_lamcall (k := k + 15) rfl smg skp slk shcd sb scSaid rfl (.inl rfl) (said_gives x9) tb rfl hmT hu hr (lamS_by (sc := defScope sFul) (by decide +kernel)) rfl (fun _ _ _ _ _ => rfl) (fun A outer s H E f c' hr => pe_callO2 (pv 3) Lc.cC (Lc.call (k + 15) (by omega)) hr (passes_call takes_lam (fun _ _ _ _ h => h)) (pa_cons (pv 2) pa_nil))) (pe_lst (pa_cons pe_str pa_nil)) (nomark _)) (pss_one (ps_ret pe_bl)) pss_nil)
      (pss_one (ps_ret (pe_and (pe_cmpR op_eq (pe_callB (OC.call_lenO Lc.hL Lc.iL (Lc.lenO (k + 16) (by omega)) hr pass0) (by rfl) T.len PySem.boot_len (pa_cons (pv 3) pa_nil)) pe_int (nomark _)) (pe_and (pe_cmpR op_eq (pe_prop (pv 3) Lc.TM.cl Lc.pC.hp (Lc.pC.ok (k + 16) (by omega)) hr Lc.pC.b .nil pass0 rfl) pe_int (nomark _)) (pe_one (pe_cmpR (op_eqD hu64) (pe_prop (pv 3) Lc.TM.cl Lc.pB.hp (Lc.pB.ok (k + 16) (by omega)) hr Lc.pB.b .nil pass0 rfl) (pe_tup pa_nil) (nomark _))))))))))), ?_⟩
    have rok6 : ∀ r ∈ rs, r.ok 6 := fun r hr => (rok r hr).up m6
    refine ⟨rfl, _, rfl, _, rfl, g, ug, rs, rfl, hg, dg, rok6, r60, fun H1 s1 => ⟨m, rs, rfl, m1, m6, rok, nd, fun ra H2 s2 nra Ra => ?_⟩⟩
    have s02 := s1.trans s2
    refine fun x dx nx ndx ne => ?_
    obtain ⟨a1, a2, _⟩ := made_go (C := Lc.C) (CR := CR) (CT := CT) (lm := none) (Q := fun _ _ => True) nx ndx ne Ra (fun _ _ _ _ _ _ _ => trivial)
    refine ⟨x, dx, _, rfl, a1, .inl ⟨ra, m, rs, rfl, a2, m1, m6, fun H3 lq k1 nq Lg => ⟨rfl, ?_⟩⟩⟩
    have s23 : Same H2 (upd (upd H2 dx (.own x)) x (.ins Lc.C dx [])) := fun b o e => by
      rw [upd_ne (ne_of_none e nx), upd_ne (ne_of_none e ndx)]
      exact e
    have s3 : Same H2 H3 := fun b o e => k1 b o (s23 _ _ e) (ne_of_none e nx)
    have s03 := s02.trans s3
    have fresh : ∀ b ∈ [x, lq], H b = none := fun b hb => by
      simp only [List.mem_cons, List.not_mem_nil, or_false] at hb
      rcases hb with rfl | rfl
      · exact s02.free nx
      · exact (s02.trans s23).free nq
    have L3 : LgAt K Lc.C CR CT (lmOf 0 400) H3 x ra lq m rs [] [] := Lg
    have tabs3 := tabs.ext s03
    have e03 : ExtN H H3 := ExtN.of s03
    have ht3 := same_t s03 ht
    clear a1 a2 k1 nq nx ndx s1 s2 s02 s23 s3 s03 Lg Ra nra tabs ht hg dg
    -- 399 rows
    obtain ⟨dx3, t3, hx3, _⟩ := id L3.at_
    refine ⟨_, rfl, x, dx3, _, rfl, hx3, fldM_no _ _ _ _ (by decide +kernel) (by decide +kernel) (by decide +kernel) (by decide +kernel), _, rfl, _, rfl, (by show 1 ≤ sizeLine; decide), fun l5 nl5 => ?_⟩
    have s4 : Same H3 (upd H3 l5 (.lst [.ref t])) := same_new nl5
    have hl5 : (upd H3 l5 (.lst [.ref t])) l5 = some (.lst [.ref t]) := upd_same
    generalize upd H3 l5 (.lst [.ref t]) = H4 at s4 hl5
    refine ⟨l5, 399, [.ref t], rfl, rfl, hl5, by decide, by decide, (by show 1 * 399 ≤ sizeLine; decide), fun lr nlr => ?_⟩
    rw [show (List.replicate (399 : Int).toNat [V.ref t]).flatten = List.replicate 399 (V.ref t) from rep_list _ 399]
    have s5 : Same H4 (upd H4 lr (.lst (List.replicate 399 (V.ref t)))) := same_new nlr
    have hlr : (upd H4 lr (.lst (List.replicate 399 (V.ref t)))) lr = some (.lst (List.replicate 399 (V.ref t))) := upd_same
    generalize upd H4 lr (.lst (List.replicate 399 (V.ref t))) = H5 at s5 hlr
    obtain ⟨row, erow⟩ : ∃ row, row = List.replicate m d := ⟨_, rfl⟩
    rw [← erow] at ht3
    have rowok : RowOk m row := ⟨by rw [erow, List.length_replicate], fun v hv => by rw [erow] at hv; rw [List.eq_of_mem_replicate hv]; exact d9⟩
    obtain ⟨rows, er⟩ : ∃ rows, rows = List.replicate 399 row := ⟨_, rfl⟩
    have okr : ∀ y ∈ rows, RowOk m y := by rw [er]; exact row_rep rowok
    have lr399 : rows.length = 399 := by rw [er, List.length_replicate]
    have drows : DpAll K H5 (List.replicate 399 (V.ref t)) (rows.map gd) := by
      rw [er, List.map_replicate]
      exact dps_rep (dp_gd (same_t (s4.trans s5) ht3)) 399
    refine ⟨m, lr, _, rows, rfl, SqL.of hlr, drows, m1, m6, okr, by omega, fun tb1 H6 s6 ntb tt6 => ?_⟩
    have s36 := s4.trans (s5.trans s6)
    have L6 := L3.keep s36
    have tabs6 := tabs3.ext s36
    have e06 := e03.trans (ExtN.of s36)
    have lok0 : LgOk m rs [] := ⟨m1, m6, rok, r60, (fun y hy => nomatch hy), by decide⟩
    have f0 : fitW 0 400 rs rows = "told" := by rw [er]; exact fit_rep (by decide)
    refine ⟨lmOf 0 400, x, ra, lq, m, rs, [], [], .ref tb1, lmOf_lb 0 400, rfl, L6, lok0, by decide, .inl ⟨tb1, m, rows, rfl, tt6, fun ne => absurd rfl ne, fun _ => ⟨okr, by rw [er]; exact fw_rep, by omega, fun c hc => ?_, fun _ H7 k7 L7 => ?_⟩⟩⟩
    · rw [ck_told (by decide) (Nat.le_refl _) f0] at hc
      cases hc
    have tabs7 := L6.tabs tabs6 k7
    have e07 := kp_extN e06 k7 fresh
    have ht7 := sqt_T (L6.T k7) (same_t s36 ht3)
    clear L3 tabs3 hx3 s4 s5 s6 s36 ht3 hl5 hlr drows tt6 L6 tabs6 k7 ntb nlr nl5 e03 e06
    have lok : LgOk m rs rows := ⟨m1, m6, rok, r60, okr, by omega⟩
    -- one more
    have two : ∀ n, List.replicate n row ++ [row] = List.replicate (n + 1) row := fun n => by rw [List.replicate_succ']
    refine ⟨tabs7, fun H8 x8 tb8 => ?_⟩
    have L8 := L7.ext x8
    have ht8 := sqt_extT x8 ht7
    refine ts9F_add (o := some row) Lc rfl rfl (by decide) (Nat.le_refl _) L8 lok (by show 1 < 1000; decide) ⟨t, rfl, ht8, rowok⟩ (fun r e => by cases e; rw [er, two]; exact fw_rep) ?_
    have f1 : fitW 0 400 rs (rows ++ [row]) = "told" := by rw [er, two]; exact fit_rep (by decide)
    rw [addW_told f1]
    refine step_told fun H9 k9 L9 p np => ?_
    have s10 : Same H9 (upd H9 p (.lst [.str "told", .non])) := same_new np
    have hp : (upd H9 p (.lst [.str "told", .non])) p = some (.lst [.str "told", .non]) := upd_same
    have L10 := L9.keep s10
    have tabs10 := (L8.tabs tb8 k9).ext s10
    have e10 := (kp_extN (e07.trans x8) k9 fresh).trans (ExtN.of s10)
    have ht10 := same_t s10 (sqt_T (L8.T k9) ht8)
    generalize upd H9 p (.lst [.str "told", .non]) = H10 at s10 hp L10 tabs10 e10 ht10
    refine ⟨(by show 2 ≤ sizeLine; decide), fun p2 np2 => ?_⟩
    have s11 : Same H10 (upd H10 p2 (.lst [.str "told", .non])) := same_new np2
    have hp2 : (upd H10 p2 (.lst [.str "told", .non])) p2 = some (.lst [.str "told", .non]) := upd_same
    generalize upd H10 p2 (.lst [.str "told", .non]) = H11 at s11 hp2
    refine ⟨.list [.str "told", .none], .list [.str "told", .none], .lst (SqL.of (s11 _ _ hp)) (.cons (.str _) (.cons .non .nil)), .lst (SqL.of hp2) (.cons (.str _) (.cons .non .nil)), by decide +kernel, by decide +kernel, _, rfl, iteF' (by simp [PyData.eqv, PyData.eqvAll]) ?_⟩
    have L11 := L10.keep s11
    have tabs11 := tabs10.ext s11
    have e11 := e10.trans (ExtN.of s11)
    have ht11 := same_t s11 ht10
    clear L7 tabs7 L8 tb8 x8 ht8 ht7 e07 s10 hp L10 tabs10 e10 ht10 s11 hp2 np np2 k9 L9
    -- one too many
    refine ⟨tabs11, fun H12 x12 tb12 => ?_⟩
    have L12 := L11.ext x12
    have ht12 := sqt_extT x12 ht11
    have lok2 : LgOk m rs (rows ++ [row]) := ⟨m1, m6, rok, r60, by rw [er, two]; exact row_rep rowok, by rw [List.length_append, lr399]; exact (by decide : 399 + 1 ≤ 400)⟩
    refine ts9F_call (o := some row) Lc rfl rfl (by decide) (Nat.le_refl _) L12 lok2 (by show 2 < 1000; decide) ⟨t, rfl, ht12, rowok⟩ (fun r e => by cases e; rw [er, two, two]; exact fw_rep) ?_
    rw [addW_much (by rw [List.length_append, lr399]; exact (by decide : (if 2 ≤ 0 then 400 else 400) < 399 + 1 + 1))]
    refine step_word (by decide +kernel) fun H13 s13 p np => ?_
    have s14 : Same H13 (upd H13 p (.lst [.str "TooMuch"])) := same_new np
    have hp : (upd H13 p (.lst [.str "TooMuch"])) p = some (.lst [.str "TooMuch"]) := upd_same
    have s1214 := s13.trans s14
    generalize upd H13 p (.lst [.str "TooMuch"]) = H14 at s14 hp s1214
    refine ⟨(by show 1 ≤ sizeLine; decide), fun p2 np2 => ?_⟩
    have s15 : Same H14 (upd H14 p2 (.lst [.str "TooMuch"])) := same_new np2
    have hp2 : (upd H14 p2 (.lst [.str "TooMuch"])) p2 = some (.lst [.str "TooMuch"]) := upd_same
    generalize upd H14 p2 (.lst [.str "TooMuch"]) = H15 at s15 hp2
    refine ⟨.list [.str "TooMuch"], .list [.str "TooMuch"], .lst (SqL.of (s15 _ _ hp)) (.cons (.str _) .nil), .lst (SqL.of hp2) (.cons (.str _) .nil), by decide +kernel, by decide +kernel, _, rfl, iteF' (by decide +kernel) ?_⟩
    have s1215 := s1214.trans s15
    have L15 := L12.keep s1215
    have tabs15 := tb12.ext s1215
    have e15 := (e11.trans x12).trans (ExtN.of s1215)
    obtain ⟨dx15, t15, hx15, _⟩ := id L15.at_
    refine ⟨_, rfl, x, dx15, _, rfl, hx15, lmOf 0 400, x, ra, lq, m, rs, _, _, rfl, L15, 400, by rw [List.length_append, lr399]; rfl, by decide, rfl, _, rfl, iteT' (by decide +kernel) ?_⟩
    refine ⟨_, rfl, x, dx15, _, rfl, hx15, lmOf 0 400, x, ra, lq, m, rs, _, _, rfl, L15, rfl, _, rfl, iteT' (show decide (V.int ((2 : Nat) : Int) = V.int 2) = true by decide +kernel) ?_⟩
    refine ⟨_, rfl, x, dx15, _, rfl, hx15, lmOf 0 400, x, ra, lq, m, rs, _, _, rfl, L15, lok2.ok, (by rw [er, two]; exact fw_rep), Nat.le_succ_of_le lok2.few, rok, r60, fun z up H16 s16 nz hz dz => ?_⟩
    have eb : brkL (rows ++ [row]) rs = [] := by rw [er, two, erow]; exact one_rep rok
    rw [eb] at dz
    have s15' : Same H15 H16 := s16
    refine ⟨Nat.zero_le _, fun z2 nz2 => ?_⟩
    have s17 : Same H16 (upd H16 z2 (.tup [])) := same_new nz2
    have eu : up = [] := by cases dz; rfl
    subst eu
    refine ⟨.tuple [], .tuple [], .tup (.inl (.inl (s17 _ _ hz))) .nil, .tup (.inl (.inl upd_same)) .nil, by decide +kernel, by decide +kernel, ?_⟩
    rw [show PyData.eqv (.tuple []) (.tuple []) = true by simp [PyData.eqv, PyData.eqvAll]]
    exact q _ (e15.trans (ExtN.of (s15'.trans s17))) (tabs15.ext (s15'.trans s17))
end
end CC
namespace CC
open PySem L2 TL
def spGv (K : PySem.W.Frag) : Sp := fun vs H Q _ => ∃ (s : Addr) (m z : Nat), vs = [.ref s, .int (m : Int), .int (z : Int)] ∧ Src H s ∧ 1 ≤ m ∧ m ≤ 6 ∧ z ≤ 50 ∧ ∀ (p : Addr) (us : List V) (rs : List R) (H' : Hp), Ran H H' s → H p = none → p ≠ s → H' p = some (.tup us) → DpAll K H' us (rs.map R.d) → (∀ r ∈ rs, r.ok m) → rs.Nodup → rs.length ≤ z → Q (.ref p) H'
theorem rs_nil (F : List R) : PyData.eqv (.list (F.map R.d)) (.list []) = F.isEmpty := by
  cases F with
  | nil => simp [PyData.eqv, PyData.eqvAll]
  | cons x F => simp [PyData.eqv, PyData.eqvAll]
theorem nilR_shp : SeqAt.shaped (.list []) = true := rds_shaped []
section
variable {P : Program} {w : World} {K : PySem.W.Frag} {mg : Str → Option Value} {base : Heap} {kA : Addr}
abbrev nGv : List Str := ["_law_source_here", "_law_many", "_law_size", "_law_found", "_law_turn", "_law_a", "_law_b", "_law_rule"]
theorem scGv : FnScope nGv ["_law_source_here", "_law_many", "_law_size"] (defScope sGv) := ⟨rfl, rfl, rfl, by decide +kernel, rfl, by decide +kernel, by decide +kernel⟩
theorem ok_gv {f : Addr} {fd : FuncData} {k : Nat} (F : Fun K "_law_given" "_law_given" sGv f fd) (T : Glb K mg kA) (cD : Cal P w K mg base "_law_draw" ["_law_source_here", "_law_many"] spDraw2 1) (cC : Cal P w K mg base "_law_choose" ["_law_source_here", "_law_values"] (spChoose K) 2) : FnOk P w K mg base CX0 (k + 3) f fd ["_law_source_here", "_law_many", "_law_size"] (spGv K) := by
  have GD := cD.ok (k + 2) (by omega)
  have GC := cC.ok (k + 2) (by omega)
  refine F.ok scGv (fun vs H Q E h => ?_) (fun cdv A outer sh H vs Q E hr h => ?_)
  · obtain ⟨s, m, z, rfl, _⟩ := h
    rfl
  · obtain ⟨s, m, z, rfl, src, w1, w6, hz, q⟩ := h
    have n := scGv.nd
    have hu65 : (A.deeper (PyProof.Rows.envOfC (Str.ofString "_law_given") (defScope sGv) sh.heap.objs.size f cdv)).units + 65 < cLine := by
      have := hr.un
      omega
    have hu64 := Nat.lt_trans (Nat.lt_succ_self _) hu65
    refine ⟨_, (pss_cons (ps_set (i := 3) n rfl (.inl rfl) (pe_lst pa_nil))
      (pss_cons (ps_for PassesOwn.never rfl (pi_range1 (by rfl) T.rng (pa_cons (pe_ifExp (pt_cmpR op_gt (pv 1) pe_int (nomark _)) (pv 2) pe_int) pa_nil)) (pg_name (i := 4) n rfl (.inl rfl))
        (pss_cons (ps_set (i := 5) n rfl (.inl rfl) (pe_call GD hr rfl cD.g cD.kp cD.b .nil pass0 (pa_cons (pv 0) (pa_cons (pv 1) pa_nil))))
      (pss_cons (ps_set (i := 6) n rfl (.inl rfl) (pe_op op_mod (pe_op op_add (pe_op op_add (pv 5) pe_int) (pe_call GD hr rfl cD.g cD.kp cD.b .nil pass0 (pa_cons (pv 0) (pa_cons (pe_op op_sub (pv 1) pe_int) pa_nil)))) (pv 1)))
      (pss_cons (ps_set (i := 7) n rfl (.inl rfl) (pe_tup (pa_cons (pe_call GC hr rfl cC.g cC.kp cC.b .nil pass0 (pa_cons (pv 0) (pa_cons (pe_lst (pa_cons pe_str (pa_cons pe_str (pa_cons pe_str pa_nil)))) pa_nil))) (pa_cons (pv 5) (pa_cons (pv 6) pa_nil)))))
      (C8.pss_cut (ps_if (PW.pt (pw_and (pt_cmpR (op_neD hu64) (pv 3) (pe_lst pa_nil) (nomark _)) (pw_and1 (pt_cmpR op_eq (pe_call GD hr rfl cD.g cD.kp cD.b .nil pass0 (pa_cons (pv 0) (pa_cons pe_int pa_nil))) pe_int (nomark _)))))
        (pss_one (ps_set (i := 7) n rfl (.inl rfl) (pe_tup (pa_cons (pe_ix ix_list (pe_lst (pa_cons pe_str (pa_cons pe_str pa_nil))) (pe_call GD hr rfl cD.g cD.kp cD.b .nil pass0 (pa_cons (pv 0) (pa_cons pe_int pa_nil))) (fun _ _ => rfl)) (pa_cons (pe_ix ix_tup (pe_ix ix_list (pv 3) (pe_un un_neg pe_int) (fun _ _ => rfl)) pe_int (fun _ _ => rfl)) (pa_cons (pe_ix ix_tup (pe_ix ix_list (pv 3) (pe_un un_neg pe_int) (fun _ _ => rfl)) pe_int (fun _ _ => rfl)) pa_nil))))))
        pss_nil)
      (pss_one (ps_if (pt_cmpR (op_notInD hu65) (pv 7) (pv 3) (by rfl))
        (pss_one (ps_expr (pe_bm PySem.F.plainAttrs_list PySem.F.slot_list_append PySem.F.type_list_append mt_append (pv 3) (pa_cons (pv 7) pa_nil))))
        pss_nil)))))))
      (pss_one (ps_ret (pe_callTy (r := rTupOf K) call_tuple_of (by rfl) T.tup (by decide +kernel) (pa_cons (pv 3) pa_nil)))))), ?_⟩
    have ran0 : Ran H H s := ⟨Same.refl _, src⟩
    refine ⟨Nat.zero_le _, fun fo nfo => ?_⟩
    have r1 : Ran H (upd H fo (.lst [])) s := ran0.grow (same_new nfo)
    have fos : fo ≠ s := ran0.ne nfo
    have F1 : LsR K H (upd H fo (.lst [])) s fo [] := ⟨nfo, fos, [], upd_same, .nil⟩
    generalize upd H fo (.lst []) = H1 at r1 F1
    have fin : ∀ (H2 : Hp) (Fs : List R), Ran H H2 s → LsR K H H2 s fo Fs → (∀ r ∈ Fs, r.ok m) → Fs.Nodup → Fs.length ≤ z → rTupOf K [V.ref fo] H2 Q := fun H2 Fs r2 F2 ok nd le => by
      obtain ⟨us, hus, dus⟩ := F2.lst
      refine ⟨fo, us, rfl, .inl ⟨SqL.of hus, fun l nl => ?_⟩⟩
      exact q l us Fs _ (r2.grow (same_new nl)) (r2.free nl) (r2.ne nl) upd_same (dps_same (same_new nl) _ _ dus) ok nd le
    refine ⟨_, rfl, _, _, rfl, rfl, _, rfl, ?_⟩
    by_cases hm : 1 < m
    · refine iteT' (decide_eq_true (by omega)) ?_
      refine ⟨_, rfl, _, rfl, by omega, by omega, ?_⟩
      refine for_range (lo := 0) (n := ((z : Nat) : Int).toNat) (fun i σ H2 => ∃ (y4 y5 y6 y7 : Option V) (Fs : List R), σ = [some (.ref s), some (.int (m : Int)), some (.int (z : Int)), some (.ref fo), y4, y5, y6, y7] ∧ Ran H H2 s ∧ LsR K H H2 s fo Fs ∧ (∀ r ∈ Fs, r.ok m) ∧ Fs.Nodup ∧ Fs.length ≤ i) ⟨none, none, none, none, [], rfl, r1, F1, (fun r hr => nomatch hr), List.nodup_nil, Nat.zero_le _⟩ ?_ ?_
      · rintro i σ H2 hi ⟨y4, y5, y6, y7, Fs, rfl, r2, F2, ok, nd, le⟩
        refine ⟨_, rfl, _, rfl, s, m, rfl, r2.src, by omega, by omega, fun a H3 ha r3 => ?_⟩
        have r3' := r2.trans r3
        have F3 := F2.run r2.src r3
        have em : ((m : Int) - 1) = ((m - 1 : Nat) : Int) := by omega
        refine ⟨_, rfl, _, _, rfl, rfl, _, rfl, _, rfl, _, _, rfl, rfl, s, m - 1, (by show [V.ref s, V.int ((m : Int) - 1)] ++ [] = _; rw [em]; rfl), r3'.src, by omega, by omega, fun e H4 he r4 => ?_⟩
        have r4' := r3'.trans r4
        have F4 := F3.run r3'.src r4
        refine ⟨_, _, rfl, rfl, _, rfl, _, _, rfl, rfl, (show (0 : Int) < (m : Int) by omega), ?_⟩
        obtain ⟨b, hb, eb⟩ : ∃ b : Nat, (b < m ∧ b ≠ a) ∧ ((a : Int) + 1 + (e : Int)) % (m : Int) = (b : Int) := by
          refine ⟨(a + 1 + e) % m, ⟨Nat.mod_lt _ (by omega), fun z => ?_⟩, by
            rw [show ((a : Int) + 1 + (e : Int)) = ((a + 1 + e : Nat) : Int) by omega]
            rfl⟩
          by_cases g : a + 1 + e < m
          · rw [Nat.mod_eq_of_lt g] at z
            omega
          · rw [Nat.mod_eq_sub_mod (by omega), Nat.mod_eq_of_lt (by omega)] at z
            omega
        refine ⟨_, rfl, (by show 3 ≤ sizeLine; decide), fun l nl => ?_⟩
        have s5 : Same H4 (upd H4 l (.lst [.str "settles", .str "settles", .str "within"])) := same_new nl
        have hl : (upd H4 l (.lst [.str "settles", .str "settles", .str "within"])) l = some (.lst [.str "settles", .str "settles", .str "within"]) := upd_same
        have ls : l ≠ s := r4'.ne nl
        generalize upd H4 l (.lst [.str "settles", .str "settles", .str "within"]) = H5 at s5 hl
        have r5 := r4'.grow s5
        have F5 := F4.grow s5
        refine ⟨s, _, rfl, r5.src, .inl ⟨l, _, rfl, .inl (.inl (by rw [wo_ne ls]; exact hl)), (by show 0 < 3; decide), (by show 3 < 1000; decide), fun i1 x1 H6 hx1 r6 => ?_⟩⟩
        obtain ⟨kk, rfl⟩ : ∃ kk : Bool, x1 = .str (kd kk) := by
          match i1, hx1 with
          | 0, h => simp at h; exact ⟨true, h.symm⟩
          | 1, h => simp at h; exact ⟨true, h.symm⟩
          | 2, h => simp at h; exact ⟨false, h.symm⟩
          | _ + 3, h => simp at h
        have r6' := r5.trans r6
        have F6 := F5.run r5.src r6
        refine ⟨_, rfl, _, rfl, (by show 3 ≤ sizeLine; decide), fun t nt => ?_⟩
        have s7 : Same H6 (upd H6 t (.tup [.str (kd kk), .int (a : Int), .int (((a : Int) + 1 + (e : Int)) % (m : Int))])) := same_new nt
        have ht : (upd H6 t (.tup [.str (kd kk), .int (a : Int), .int (((a : Int) + 1 + (e : Int)) % (m : Int))])) t = some (.tup [.str (kd kk), .int (a : Int), .int (b : Int)]) := by
          rw [upd_same, eb]
        generalize upd H6 t (.tup [.str (kd kk), .int (a : Int), .int (((a : Int) + 1 + (e : Int)) % (m : Int))]) = H7 at s7 ht
        have r7 := r6'.grow s7
        have F7 := F6.grow s7
        have dt : Dp K H7 (.ref t) (⟨kk, a, b⟩ : R).d := r_dp (.inl (.inl ht))
        have kt : (⟨kk, a, b⟩ : R).ok m := ⟨ha, hb.1, fun z => hb.2 z.symm⟩
        clear s7 ht r6' F6 r5 F5 s5 hl r4' F4 r3' F3
        let Mid : L2.St → Hp → Prop := fun σ H' => ∃ (y4 y5 y6 : Option V) (v : V) (r : R), σ = [some (.ref s), some (.int (m : Int)), some (.int (z : Int)), some (.ref fo), y4, y5, y6, some v] ∧ Ran H H' s ∧ LsR K H H' s fo Fs ∧ Dp K H' v r.d ∧ r.ok m
        refine ⟨Mid, ?_, ?_⟩
        · obtain ⟨uf, huf, duf⟩ := id F7.lst
          refine ⟨_, rfl, Nat.zero_le _, fun p np => ?_⟩
          have s8 : Same H7 (upd H7 p (.lst [])) := same_new np
          refine ⟨.list (Fs.map R.d), .list [], (F7.grow s8).data, .lst (SqL.of upd_same) .nil, rds_shaped _, nilR_shp, _, rfl, ?_⟩
          rw [rs_nil]
          generalize upd H7 p (.lst []) = H8 at s8
          have r8 := r7.grow s8
          have F8 := F7.grow s8
          have d8 := dp_same s8 _ _ dt
          cases hF : Fs.isEmpty with
          | true => exact iteF (iteF ⟨_, _, _, _, ⟨kk, a, b⟩, rfl, r8, F8, d8, kt⟩)
          | false =>
            refine iteT ?_
            refine ⟨_, rfl, s, 4, rfl, r8.src, by decide, by decide, fun d9 H9 hd9 r9 => ⟨rfl, _, rfl, ?_⟩⟩
            have r9' := r8.trans r9
            have F9 := F8.run r8.src r9
            have dt9 := rd_T (r9.T r8.src) d8
            by_cases e0 : V.int (d9 : Int) = V.int 0
            · refine iteT' (decide_eq_true e0) ?_
              refine ⟨(by show 2 ≤ sizeLine; decide), fun l2 nl2 => ?_⟩
              have s10 : Same H9 (upd H9 l2 (.lst [.str "settles", .str "within"])) := same_new nl2
              have hl2 : (upd H9 l2 (.lst [.str "settles", .str "within"])) l2 = some (.lst [.str "settles", .str "within"]) := upd_same
              have ls2 : l2 ≠ s := r9'.ne nl2
              generalize upd H9 l2 (.lst [.str "settles", .str "within"]) = H10 at s10 hl2
              have r10 := r9'.grow s10
              have F10 := F9.grow s10
              refine ⟨_, rfl, s, 2, rfl, r10.src, by decide, by decide, fun d11 H11 hd11 r11 => ?_⟩
              have r11' := r10.trans r11
              have F11 := F10.run r10.src r11
              obtain ⟨k2, ek2⟩ : ∃ k2 : Bool, ([.str "settles", .str "within"] : List V)[d11]? = some (.str (kd k2)) := by
                match d11, hd11 with
                | 0, _ => exact ⟨true, rfl⟩
                | 1, _ => exact ⟨false, rfl⟩
              obtain ⟨uf2, huf2, duf2⟩ := id F11.lst
              have ne : uf2 ≠ [] := fun z => by
                have := F11.len huf2
                rw [z] at this
                rw [List.eq_nil_of_length_eq_zero this.symm] at hF
                cases hF
              obtain ⟨ui, ul, rfl⟩ : ∃ u x, uf2 = u ++ [x] := ⟨_, _, (List.dropLast_concat_getLast ne).symm⟩
              obtain ⟨lr, hlr, dlr⟩ := dps_rat duf2 (i := ui.length) (v := ul) (by simp)
              obtain ⟨tl, rfl, htl⟩ := dp_r dlr
              have lok := ok lr (List.mem_of_getElem? hlr)
              refine ⟨l2, _, _, _, rfl, rfl, SqL.of (r11.at_ hl2 ls2), atI_nat ek2, ?_⟩
              refine ⟨_, rfl, 1, rfl, fo, _, -1, _, rfl, rfl, SqL.of huf2, atI_last _ _, tl, _, 1, _, rfl, rfl, htl, rfl, ?_⟩
              refine ⟨_, rfl, 1, rfl, fo, _, -1, _, rfl, rfl, SqL.of huf2, atI_last _ _, tl, _, 2, _, rfl, rfl, htl, rfl, ?_⟩
              refine ⟨(by show 3 ≤ sizeLine; decide), fun t2 nt2 => ?_⟩
              have s12 : Same H11 (upd H11 t2 (.tup [.str (kd k2), .int (lr.a : Int), .int (lr.b : Int)])) := same_new nt2
              exact ⟨_, _, _, _, ⟨k2, lr.a, lr.b⟩, rfl, r11'.grow s12, F11.grow s12, r_dp (.inl (.inl upd_same)), lok⟩
            · refine iteF' (decide_eq_false e0) ?_
              exact ⟨_, _, _, _, ⟨kk, a, b⟩, rfl, r9', F9, dt9, kt⟩
        clear dt kt F7 r7
        rintro σ H8 ⟨y4', y5', y6', v, r, rfl, r8, F8, dv, rk⟩
        refine ⟨_, rfl, _, rfl, r.d, Fs.map R.d, dv, F8.data, rd_shaped _, rds_shaped _, _, rfl, ?_⟩
        rw [rds_any]
        by_cases e1 : r ∈ Fs
        · rw [decide_eq_true e1]
          exact iteF ⟨_, _, _, _, Fs, rfl, r8, F8, ok, nd, by omega⟩
        · rw [decide_eq_false e1]
          refine iteT ?_
          obtain ⟨uf, huf, L9⟩ := F8.push dv
          have ufl := F8.len huf
          refine ⟨_, rfl, .inl ⟨rfl, _, SqL.of huf⟩, _, rfl, fo, uf, _, rfl, rfl, huf, small1000 (by omega), ?_⟩
          refine ⟨_, _, _, _, Fs ++ [r], rfl, r8.put' F8.new F8.nes, L9, fun x hx => ?_, List.nodup_append.mpr ⟨nd, by simp, fun x hx y hy exy => ?_⟩, by rw [List.length_append]; show Fs.length + 1 ≤ i + 1; omega⟩
          · rcases List.mem_append.mp hx with y | y
            · exact ok x y
            · rw [List.mem_singleton.mp y]
              exact rk
          · rw [List.mem_singleton.mp hy] at exy
            subst exy
            exact e1 hx
      · rintro σ H2 ⟨y4, y5, y6, y7, Fs, rfl, r2, F2, ok, nd, le⟩
        exact ⟨_, rfl, fin H2 Fs r2 F2 ok nd (by simpa using le)⟩
    · refine iteF' (decide_eq_false (by omega)) ?_
      refine ⟨_, rfl, by decide, by decide, ?_⟩
      refine for_range (lo := 0) (n := ((0 : Int)).toNat) (fun i σ H2 => σ = [some (.ref s), some (.int (m : Int)), some (.int (z : Int)), some (.ref fo), none, none, none, none] ∧ H2 = H1) ⟨rfl, rfl⟩ ?_ ?_
      · rintro i σ H2 hi _
        exact absurd hi (by simp)
      · rintro σ H2 ⟨rfl, rfl⟩
        exact ⟨_, rfl, fin _ [] r1 F1 (fun r hr => nomatch hr) List.nodup_nil (Nat.zero_le _)⟩
end
end CC
namespace CC
open PySem L2 TL
section
variable {P : Program} {w : World} {K : PySem.W.Frag} {mg : Str → Option Value} {base : Heap} {kA : Addr}
theorem scIsEq : FnScope ["_law_actual", "_law_expected"] ["_law_actual", "_law_expected"] (defScope sIsEq) := ⟨rfl, rfl, rfl, by decide +kernel, rfl, by decide +kernel, by decide +kernel⟩
end
end CC
namespace GD
open PySem L2 CC
section
variable {P : Program} {w : World} {K : PySem.W.Frag} {mg : Str → Option Value} {base : Heap} {kA : Addr}
theorem ok_iseqD {f : Addr} {fd : FuncData} {k : Nat} (F : Fun K "_law_is_equal" "_law_is_equal" sIsEq f fd) (T : Glb K mg kA) : FnG P w K mg base CX0 (k + 1) f fd ["_law_actual", "_law_expected"] (spEqD K) := by
  refine fun_okG F scIsEq (fun vs H Q E h => ?_) (fun cdv A outer s H vs Q E calm hr h => ?_)
  · obtain ⟨v, u, d, rfl, _⟩ := h
    rfl
  · obtain ⟨v, u, d, rfl, dv, du, sd, q⟩ := h
    have hu := hu66 hr
    refine ⟨_, pss_one (ps_ret (pe_cmpR op_eq (pe_callB (call_reprD calm hu) (by rfl) T.rep (by decide +kernel) (pa_cons (pv 0) pa_nil)) (pe_callB (call_reprD calm hu) (by rfl) T.rep (by decide +kernel) (pa_cons (pv 1) pa_nil)) (nomark _))), ?_⟩
    have fit := sd.fits (by decide)
    refine ⟨_, rfl, v, d, rfl, dv, sd.shw, sd.nodict, sd.dep, fit, _, rfl, u, d, rfl, du, sd.shw, sd.nodict, sd.dep, fit, rfl, ?_⟩
    show Q (.bl (decide (V.str d.shown = V.str d.shown))) H
    rw [decide_eq_true rfl]
    exact q
end
end GD
namespace CC
open PySem L2 TL LamX PyProof.Rows
abbrev qLaw : Str := (envOfC "law" (defScope sLaw) 0 0 .none).qual ++ "<lambda>"
abbrev a0 : Arguments := { posonlyargs := [], args := [], vararg := none, kwonlyargs := [], kw_defaults := [], kwarg := none, defaults := [] }
abbrev scA : Scope := { kind := .function, names := [("_law_log", .free), ("_law_row_here", .free), ("_law_what", .free), ("_law_call", .globalImplicit)], isGenerator := false, isCoroutine := false, more := [] }
def spLaw (K : PySem.W.Frag) (Ts : List (Addr × Str)) : Sp := fun vs H Q _ => ∃ (a : Addr) (ns : List Int), vs = [.ref a] ∧ SqL K H a (ns.map V.int) ∧ ns.length ≤ 63 ∧ Tabs Ts H ∧ ∀ H', Q (.bl true) H'
theorem callW_word {kd cap wt : Nat} {rs : List R} {rows : List (List Nat)} {o : Option (List Nat)} : (callW kd cap rs rows wt o).1 ∈ (["NoRow", "NotThere", "TooMuch", "Broken", "told"] : List Str) := by
  unfold callW
  split
  · exact addW_word
  · exact dropW_word
theorem callW_ok {kd cap m wt : Nat} {rs : List R} {rows : List (List Nat)} {o : Option (List Nat)} (ok : ∀ y ∈ rows, RowOk m y) (h : ∀ r, o = some r → RowOk m r) : (∀ y ∈ (callW kd cap rs rows wt o).2, RowOk m y) ∧ (callW kd cap rs rows wt o).2.length ≤ rows.length + 1 ∧ ((callW kd cap rs rows wt o).1 ≠ "told" → (callW kd cap rs rows wt o).2 = rows) := by
  unfold callW
  split
  · exact addW_ok ok h
  · exact dropW_ok ok
section
variable {P : Program} {w : World} {K : PySem.W.Frag} {mg : Str → Option Value} {base : Heap} {kA : Addr}
abbrev nLw : List Str := ["_law_script", "_law_k", "_law_source_here", "_law_lap", "_law_many", "_law_given_here", "_law_listed", "_law_changes", "_law_log", "_law_turn", "_law_row_here", "_law_what", "_law_told", "_law_due_here", "_law_full"]
theorem scLaw : FnScope nLw ["_law_script"] (defScope sLaw) := ⟨rfl, rfl, rfl, by decide +kernel, rfl, by decide +kernel, by decide +kernel⟩
theorem ok_law {k : Nat} {f c Pt CR CT CE c3 : Addr} {NI : Hp → V → Prop} {C9 : Nat → Addr} {fd : FuncData} {Ts : List (Addr × Str)} (F : GD.FunC K "law" "law" sLaw f fd c) (tb : TabB base mg c Pt) (hmT : (Pt, qLaw) ∈ Ts) (hu : ∀ p ∈ Ts, p.1 = Pt → p.2 = qLaw) (T : Glb K mg kA) (TR : Txt1 K mg CR) (gE : mg "ColumnError" = some (.ref CE)) (x9 : Ex9 K mg C9)
    (Lc : LogF P w K mg base CR CT C9 0) (mS : MakeP P w K mg base "Log" Lc.C ["self", "rules"] (spLInitM K Lc.C CR CT c3 NI) 8) (rd : ReadR P w K mg base CR 6) (sd : Df K mg "_law_said" sSaid ["_law_call_here"]) (cX : CalX P w K mg base "_law_call" ["_law_log", "_law_what", "_law_row_here"] (spCl K Lc.C CR CT C9) 16)
    (cS : Cal P w K mg base "_law_source" ["_law_cell_here"] spSource 1) (cK : Cal P w K mg base "_law_cell" ["_law_script", "_law_index"] (spCell K) 1) (cD : Cal P w K mg base "_law_draw" ["_law_source_here", "_law_many"] spDraw2 1) (cC : Cal P w K mg base "_law_choose" ["_law_source_here", "_law_values"] (spChoose K) 2) (cV : Cal P w K mg base "_law_given" ["_law_source_here", "_law_many", "_law_size"] (spGv K) 3) (cW : Cal P w K mg base "_law_words" ["_law_given_here"] (spWd K) 1)
    (cY : Cal P w K mg base "_law_row" ["_law_source_here", "_law_many", "_law_listed"] (spRw1 K) 3) (cO : Cal P w K mg base "_law_odd_row" ["_law_source_here", "_law_many", "_law_listed"] (spOdd K) 10) (cA : Cal P w K mg base "_law_add_due" ["_law_kind", "_law_many", "_law_given_here", "_law_cap", "_law_listed", "_law_row_here"] (spAdu K) 3) (cP : Cal P w K mg base "_law_drop_due" ["_law_many", "_law_listed", "_law_row_here"] (spDduG K) 2)
    (cE : GD.CalG P w K mg base "_law_is_equal" ["_law_actual", "_law_expected"] (GD.spEqD K) 1) (cZ : Cal P w K mg base "_law_seen" ["_law_kind", "_law_log"] (spSee1 K 0 Lc.C CR CT) 8) (cU : Cal P w K mg base "_law_due" ["_law_kind", "_law_many", "_law_given_here", "_law_cap", "_law_listed", "_law_changes"] (spLdu K) 2) (cQ : GD.CalG P w K mg base "_law_is_full_right" ["_law_many", "_law_given_here", "_law_row_here"] (spFul K Ts) 18) : GD.FnG P w K mg base CX0 (k + 19) f fd ["_law_script"] (spLaw K Ts) := by
  have GS := cS.ok (k + 18) (by omega)
  have GK := cK.ok (k + 18) (by omega)
  have GDr := cD.ok (k + 18) (by omega)
  have GC := cC.ok (k + 18) (by omega)
  have GV := cV.ok (k + 18) (by omega)
  have GW := cW.ok (k + 18) (by omega)
  have GY := cY.ok (k + 18) (by omega)
  have GO := cO.ok (k + 18) (by omega)
  have GA := cA.ok (k + 18) (by omega)
  have GP := cP.ok (k + 18) (by omega)
  have GE := cE.ok (k + 18) (by omega)
  have GZ := cZ.ok (k + 18) (by omega)
  have GU := cU.ok (k + 18) (by omega)
  have GQ := cQ.ok (k + 18) (by omega)
  have GR := rd.ok (k + 18) (by omega)
  have G0 := mS.ok (k + 17) (by omega)
  have GX := cX.ok (k + 16) (by omega)
  obtain ⟨sg, sfd, sF, sb, smg⟩ := sd
  have skp := sF.kp
  obtain ⟨oc, od, kV, doc, pm, an, scd, ct, osl, rfl, slk, shcd⟩ := sF.ex
  refine GD.fun_okGC F scLaw (fun vs H Q E h => ?_) (fun A outer s H vs Q E calm hr h => ?_)
  · obtain ⟨a, ns, rfl, _⟩ := h
    rfl
  · obtain ⟨a, ns, rfl, ha, hl, tabs, q⟩ := h
    have n := scLaw.nd
    have LA : ∀ (pn : List (Addr × Obj)) (xe : Value → Shared → Prop) (p1 p2 p3 p4 p5 p6 p7 p8 : Pos), PE ((cxOf CX0 P w K mg base nLw "law" (defScope sLaw) f (.ref c) A outer s H E).nox.tr pn xe) (.Call (.Name "_law_said" p1) [.Lambda a0 (.Call (.Name "_law_call" p2) [.Name "_law_log" p3, .Name "_law_what" p4, .Name "_law_row_here" p5] [] p6) scA p7] [] p8) (tLam Ts (TS9 C9) (fun E => tCall (spCl K Lc.C CR CT C9) [] E (tCons (tVar 8) (tCons (tVar 11) (tCons (tVar 10) tNil))))) := fun pn xe p1 p2 p3 p4 p5 p6 p7 p8 =>
      pe_lamcall (k := k + 16) rfl smg skp slk shcd sb scSaid rfl (.inl rfl) (said_gives x9) tb rfl hmT hu hr (lamS_by (sc := defScope sLaw) (by decide +kernel)) rfl (fun _ _ _ _ _ => rfl) (fun A outer s H E f c' hr => pe_call GX hr rfl cX.g cX.kp cX.b .nil (passes_call takes_lam (fun _ _ _ _ h => h)) (pa_cons (pv 8) (pa_cons (pv 11) (pa_cons (pv 10) pa_nil))))
    refine ⟨_, (pss_one (ps_try_only rfl rfl ⟨rfl, by decide, .inl gE⟩ LamX.takes0 (fun W pn xe tk po => (pss_cons (ps_for po rfl (pi_range1 (by rfl) T.rng (pa_cons (pe_callB (call_max2 rfl) (by rfl) T.max (by decide +kernel) (pa_cons pe_int (pa_cons (pe_callB (call_min2 rfl) (by rfl) T.min (by decide +kernel) (pa_cons (pe_callB (r := rLenSq K) call_lenSq (by rfl) T.len PySem.boot_len (pa_cons (pv 0) pa_nil)) (pa_cons pe_int pa_nil))) pa_nil))) pa_nil)) (pg_name (i := 1) n rfl (.inl rfl))
      (pss_cons (ps_set (i := 2) n rfl (.inl rfl) (pe_call GS hr rfl cS.g cS.kp cS.b .nil pass0 (pa_cons (pe_call GK hr rfl cK.g cK.kp cK.b .nil pass0 (pa_cons (pv 0) (pa_cons (pv 1) pa_nil))) pa_nil)))
      (pss_one (ps_for po rfl (pi_range1 (by rfl) T.rng (pa_cons pe_int pa_nil)) (pg_name (i := 3) n rfl (.inl rfl))
      (pss_cons (ps_set (i := 4) n rfl (.inl rfl) (pe_op op_add pe_int (pe_call GDr hr rfl cD.g cD.kp cD.b .nil pass0 (pa_cons (pv 2) (pa_cons pe_int pa_nil)))))
      (pss_cons (ps_par3 (i := 5) (j := 6) (l := 7) rfl n rfl rfl rfl (by decide) (by decide) (by decide) rfl rfl rfl (pa_cons (pe_call GV hr rfl cV.g cV.kp cV.b .nil pass0 (pa_cons (pv 2) (pa_cons (pv 4) (pa_cons (pe_call GDr hr rfl cD.g cD.kp cD.b .nil pass0 (pa_cons (pv 2) (pa_cons pe_int pa_nil))) pa_nil)))) (pa_cons (pe_lst pa_nil) (pa_cons pe_int pa_nil))) (by rfl))
      (pss_cons (ps_set (i := 8) n rfl (.inr rfl) (pe_make mS.M G0 hr rfl mS.g mS.b .nil (E := E0) pass0Y (pa_cons (ClX.pe_cmeth (pe_glob (v := .ref CR) rfl TR.mgC rfl) rd.rD rd.cD GR hr pass0 (pa_cons (pv 4) (pa_cons (pe_call GW hr rfl cW.g cW.kp cW.b .nil pass0 (pa_cons (pv 5) pa_nil)) pa_nil))) pa_nil)))
      (pss_cons (ps_for po rfl (pi_range1 (by rfl) T.rng (pa_cons pe_int pa_nil)) (pg_name (i := 9) n rfl (.inl rfl))
      (pss_cons (ps_asg (pe_tup (pa_cons (pe_call GY hr rfl cY.g cY.kp cY.b .nil pass0 (pa_cons (pv 2) (pa_cons (pv 4) (pa_cons (pv 6) pa_nil)))) (pa_cons (pe_call GC hr rfl cC.g cC.kp cC.b .nil pass0 (pa_cons (pv 2) (pa_cons (pe_lst (pa_cons pe_int (pa_cons pe_int (pa_cons pe_int (pa_cons pe_int (pa_cons pe_int pa_nil)))))) pa_nil))) pa_nil))) (show PG _ _ (gTup K 2 (gCons (gName 10) (gCons (gName 11) gNil))) from (pg_tup rfl (pgs_cons (pg_name (i := 10) n rfl (.inr rfl)) (pgs_cons (pg_name (i := 11) n rfl (.inr rfl)) pgs_nil)))))
      (C8.pss_cut (ps_if (pt_cmpR op_eq (pe_call GDr hr rfl cD.g cD.kp cD.b .nil pass0 (pa_cons (pv 2) (pa_cons pe_int pa_nil))) pe_int (nomark _)) (pss_one (ps_set (i := 10) n rfl (.inr rfl) (pe_call GO hr rfl cO.g cO.kp cO.b .nil pass0 (pa_cons (pv 2) (pa_cons (pv 4) (pa_cons (pv 6) pa_nil)))))) pss_nil)
      (C8.pss_cut (ps_set (i := 12) n rfl (.inl rfl) (LA pn xe _ _ _ _ _ _ _ _))
      (pss_cons (ps_set (i := 13) n rfl (.inl rfl) (pe_call GA hr rfl cA.g cA.kp cA.b .nil pass0 (pa_cons pe_int (pa_cons (pv 4) (pa_cons (pv 5) (pa_cons pe_int (pa_cons (pv 6) (pa_cons (pv 10) pa_nil))))))))
      (C8.pss_cut (ps_if (pt_cmpR op_eq (pv 11) pe_int (nomark _)) (pss_one (ps_set (i := 13) n rfl (.inl rfl) (pe_call GP hr rfl cP.g cP.kp cP.b .nil pass0 (pa_cons (pv 4) (pa_cons (pv 6) (pa_cons (pv 10) pa_nil)))))) pss_nil)
      (pss_cons (ps_if (pt_not (pt_val (GD.pe_callG GE calm hr rfl cE.g cE.kp cE.b pass0 (pa_cons (pv 12) (pa_cons (pe_ix (r := rIxL K) ix_list (pv 13) pe_int (fun _ _ => rfl)) pa_nil))))) (pss_one (ps_ret pe_bl)) pss_nil)
      (C8.pss_cut (ps_set (i := 7) n rfl (.inl rfl) (pe_ifExp (pt_cmpR op_eq (pe_ix (r := rIxL K) ix_list (pe_ix (r := rIxL K) ix_list (pv 13) pe_int (fun _ _ => rfl)) pe_int (fun _ _ => rfl)) pe_str (nomark _)) (pe_op op_add (pv 7) pe_int) (pv 7)))
      (pss_cons (ps_set (i := 6) n rfl (.inl rfl) (pe_ix (r := rIxL K) ix_list (pv 13) pe_int (fun _ _ => rfl)))
      (pss_cons (ps_set (i := 14) n rfl (.inl rfl) (pe_call GU hr rfl cU.g cU.kp cU.b .nil pass0 (pa_cons pe_int (pa_cons (pv 4) (pa_cons (pv 5) (pa_cons pe_int (pa_cons (pv 6) (pa_cons (pv 7) pa_nil))))))))
      (pss_one (ps_if (pt_not (pt_val (GD.pe_callG GE calm hr rfl cE.g cE.kp cE.b pass0 (pa_cons (pe_call GZ hr rfl cZ.g cZ.kp cZ.b .nil pass0 (pa_cons pe_int (pa_cons (pv 8) pa_nil))) (pa_cons (pv 14) pa_nil))))) (pss_one (ps_ret pe_bl)) pss_nil))))))))))))
      (pss_one (ps_if (pt_not (pt_val (GD.pe_callG GQ calm hr rfl cQ.g cQ.kp cQ.b pass0 (pa_cons (pv 4) (pa_cons (pv 5) (pa_cons (pe_op (r := RP1.rRepA K) RP1.op_repA (pe_tup (pa_cons (pe_call GDr hr rfl cD.g cD.kp cD.b .nil pass0 (pa_cons (pv 2) (pa_cons pe_int pa_nil))) pa_nil)) (pv 4)) pa_nil)))))) (pss_one (ps_ret pe_bl)) pss_nil))))))))))
      (pss_one (ps_ret pe_bl)))) (fun a oe cls d pn _ _ => (pss_one (ps_ret pe_bl))))), ?_⟩
    refine ⟨_, rfl, a, _, rfl, .inl ha, _, _, rfl, _, _, rfl, _, rfl, ?_, ?_, ?_⟩
    · split <;> split <;> omega
    · rw [List.length_map]
      split <;> split <;> omega
    generalize (if (if (3 : Int) < (((ns.map V.int).length : Nat) : Int) then (3 : Int) else (((ns.map V.int).length : Nat) : Int)) > 1 then (if (3 : Int) < (((ns.map V.int).length : Nat) : Int) then (3 : Int) else (((ns.map V.int).length : Nat) : Int)) else (1 : Int)) = top
    refine for_range (lo := 0) (n := top.toNat) (fun i σ H1 => ∃ y1 y2 y3 y4 y5 y6 y7 y8 y9 y10 y11 y12 y13 y14, σ = [some (.ref a), y1, y2, y3, y4, y5, y6, y7, y8, y9, y10, y11, y12, y13, y14] ∧ SqL K H1 a (ns.map V.int) ∧ Tabs Ts H1) ⟨none, none, none, none, none, none, none, none, none, none, none, none, none, none, rfl, ha, tabs⟩ ?_ ?_
    · rintro i σ H1 hi ⟨y1, y2, y3, y4, y5, y6, y7, y8, y9, y10, y11, y12, y13, y14, rfl, ha1, tabs1⟩
      refine ⟨_, rfl, _, rfl, a, ns, i, by rw [Int.zero_add]; rfl, ha1, fun z => ?_⟩
      refine ⟨z, rfl, fun p o np ho => ?_⟩
      have W2' : W3 K Ts (upd H1 p o) a p ns := ⟨same_l (new_view' np) ha1, ⟨o, upd_same, ho⟩, tabs1.ext (same_new np)⟩
      generalize upd H1 p o = H2 at W2'
      refine ⟨_, rfl, by decide, by decide, ?_⟩
      refine for_range (lo := 0) (n := ((3 : Int)).toNat) (fun j σ H3 => ∃ y1 y3 y4 y5 y6 y7 y8 y9 y10 y11 y12 y13 y14, σ = [some (.ref a), y1, some (.ref p), y3, y4, y5, y6, y7, y8, y9, y10, y11, y12, y13, y14] ∧ W3 K Ts H3 a p ns) ⟨_, _, _, _, _, _, _, _, _, _, _, _, _, rfl, W2'⟩ ?_ ?_
      · rintro lap σ H3 hlap ⟨y1, y3, y4, y5, y6, y7, y8, y9, y10, y11, y12, y13, y14, rfl, W3'⟩
        refine ⟨_, rfl, p, 6, rfl, W3'.src, by decide, by decide, fun d H4 hd r4 => ⟨_, _, rfl, rfl, ?_⟩⟩
        dsimp only
        rw [show (1 + (d : Int)) = ((d + 1 : Nat) : Int) by omega]
        obtain ⟨m, em⟩ : ∃ m, m = d + 1 := ⟨_, rfl⟩
        rw [← em]
        have m1 : 1 ≤ m := by omega
        have m6 : m ≤ 6 := by omega
        have W4' := W3'.run r4
        refine ⟨_, rfl, _, rfl, _, rfl, p, 6, rfl, W4'.src, by decide, by decide, fun e2 H8 he2 r8 => ?_⟩
        have W8' := W4'.run r8
        refine ⟨p, m, e2, rfl, W8'.src, m1, m6, by omega, fun g ug rs H9 r9 ng gp hg dg rok nd le => ?_⟩
        have W9' := W8'.run r9
        have rok6 : ∀ r ∈ rs, r.ok 6 := fun r hr => (rok r hr).up m6
        have r60 : rs.length ≤ 60 := by omega
        refine ⟨Nat.zero_le _, fun l nl => ⟨_, _, _, rfl, ?_⟩⟩
        have s6 : Same H9 (upd H9 l (.lst [])) := same_new nl
        have hl7 : (upd H9 l (.lst [])) l = some (.lst []) := upd_same
        have lp : l ≠ p := by
          obtain ⟨o, h1, _⟩ := W9'.src
          exact (ne_of_none h1 nl).symm
        generalize upd H9 l (.lst []) = H7 at s6 hl7
        have W7' := W9'.grow s6
        have hg := s6 _ _ hg
        have dg := dps_same s6 _ _ dg
        clear s6 W9' W8' W4' W3' nl r4 r8 r9 ng gp
        -- the log
        refine ⟨rfl, _, rfl, _, rfl, g, ug, rs, rfl, .inl (.inl hg), dg, rok6, r60, fun H10 s10 => ⟨m, rs, rfl, m1, m6, rok, nd, fun r1 H11 s11 nra Ra => ?_⟩⟩
        refine fun x dx nx ndx ne => ?_
        obtain ⟨a1, a2, _⟩ := made_go (C := Lc.C) (CR := CR) (CT := CT) (lm := none) (Q := fun _ _ => True) nx ndx ne Ra (fun _ _ _ _ _ _ _ => trivial)
        refine ⟨x, dx, _, rfl, a1, .inl ⟨r1, m, rs, rfl, a2, m1, m6, fun H12 q1 k1 nq1 Lg => ⟨rfl, ?_⟩⟩⟩
        have s1 : Same H11 (upd (upd H11 dx (.own x)) x (.ins Lc.C dx [])) := fun b o e => by
          rw [upd_ne (ne_of_none e nx), upd_ne (ne_of_none e ndx)]
          exact e
        have s12 : Same H11 H12 := fun b o e => k1 b o (s1 _ _ e) (ne_of_none e nx)
        have s1011 := s10.trans s11
        have s912 := s1011.trans s12
        have L1 : LgAt K Lc.C CR CT (lmOf 0 400) H12 x r1 q1 m rs [] [] := Lg
        have W12 : W1 K Ts Lc.C CR CT (lmOf 0 400) H12 a p x r1 q1 g ns m rs [] [] := W1.mk' W7' s912 (s1011.free nx) (s1011.free (s1.free nq1)) L1 (s912 _ _ hg) (dps_same s912 _ _ dg)
        have hl12 := s912 _ _ hl7
        have B12 : Ls1 K H12 p x q1 l [] := by
          refine ⟨?_, [], hl12, .nil⟩
          simp only [List.mem_cons, List.not_mem_nil, or_false, not_or]
          exact ⟨lp, ne_of_none (s1011 _ _ hl7) nx, ne_of_none (s1011 _ _ hl7) (s1.free nq1)⟩
        clear hl12 hl7 s912 s12 s11 s10 s1011 s1 L1 Lg nx ndx nq1 Ra nra hg dg W7' a1 a2 k1
        refine ⟨_, rfl, by decide, by decide, ?_⟩
        refine for_range (lo := 0) (n := ((14 : Int)).toNat) (fun t σ H' => ∃ y9 y10 y11 y12 y13 y14 l rows ps, σ = [some (.ref a), y1, some (.ref p), some (.int (0 + (lap : Int))), some (.int (m : Int)), some (.ref g), some (.ref l), some (.int ((ps.length : Nat) : Int)), some (.ref x), y9, y10, y11, y12, y13, y14] ∧ W1 K Ts Lc.C CR CT (lmOf 0 400) H' a p x r1 q1 g ns m rs rows ps ∧ Ls1 K H' p x q1 l rows ∧ (∀ y ∈ rows, RowOk m y) ∧ rows.length ≤ t ∧ ps.length ≤ t) ⟨_, _, _, _, _, _, l, [], [], rfl, W12, B12, (fun y hy => nomatch hy), Nat.le_refl _, Nat.le_refl _⟩ ?_ ?_
        · clear B12 W12 lp
          rintro t σ H1 ht ⟨y9, y10, y11, y12, y13, y14, l, rows, ps, rfl, W1', B1, okr, lr, lp⟩
          have t14 : t < 14 := by have : t < (14 : Int).toNat := ht; omega
          have lok : LgOk m rs rows := ⟨m1, m6, rok, r60, okr, by omega⟩
          have lns : l ≠ p := fun z => B1.ne (by rw [z]; exact List.mem_cons_self)
          obtain ⟨us, hus, dus⟩ := B1.at_
          refine ⟨_, rfl, _, rfl, _, rfl, p, l, m, us, rows, rfl, W1'.src, m1, m6, SqL.of (by rw [wo_ne lns]; exact hus), dus, okr, by omega, fun tr row H2 r2 htr rok2 => ?_⟩
          have W2 := W1'.run r2
          have B2 := B1.run W1'.src r2
          refine ⟨_, rfl, (by show 5 ≤ sizeLine; decide), fun lc nlc => ?_⟩
          have s3 : Same H2 (upd H2 lc (.lst [.int 0, .int 0, .int 1, .int 1, .int 2])) := same_new nlc
          have hlc : (upd H2 lc (.lst [.int 0, .int 0, .int 1, .int 1, .int 2])) lc = some (.lst [.int 0, .int 0, .int 1, .int 1, .int 2]) := upd_same
          have lcp : lc ≠ p := by
            obtain ⟨o, h1, _⟩ := W2.src
            exact (ne_of_none h1 nlc).symm
          have W2' := W2.grow s3
          have B2' := B2.grow s3
          have htr2 := same_t s3 htr
          generalize upd H2 lc (.lst [.int 0, .int 0, .int 1, .int 1, .int 2]) = H2' at s3 hlc W2' B2' htr2
          refine ⟨p, .ref lc, rfl, W2'.src, .inl ⟨lc, _, rfl, SqL.of (by rw [wo_ne lcp]; exact hlc), (by show 0 < 5; decide), (by show 5 < 1000; decide), fun ci cv H3 hci r3 => ?_⟩⟩
          obtain ⟨wt, ewt, wt2⟩ : ∃ wt : Nat, cv = .int (wt : Int) ∧ wt ≤ 2 := by
            match ci, hci with
            | 0, h => simp at h; exact ⟨0, h.symm, by decide⟩
            | 1, h => simp at h; exact ⟨0, h.symm, by decide⟩
            | 2, h => simp at h; exact ⟨1, h.symm, by decide⟩
            | 3, h => simp at h; exact ⟨1, h.symm, by decide⟩
            | 4, h => simp at h; exact ⟨2, h.symm, by decide⟩
            | _ + 5, h => simp at h
          subst ewt
          have W3' := W2'.run r3
          have B3 := B2'.run W2'.src r3
          have htr3 := sqt_T (r3.T W2'.src) htr2
          clear hus dus W1' B1 htr htr2 hci hlc s3 lcp nlc
          refine ⟨(by show 2 ≤ sizeLine; decide), fun tp ntp => ?_⟩
          have s4 : Same H3 (upd H3 tp (.tup [.ref tr, .int (wt : Int)])) := same_new ntp
          have htp : (upd H3 tp (.tup [.ref tr, .int (wt : Int)])) tp = some (.tup [.ref tr, .int (wt : Int)]) := upd_same
          generalize upd H3 tp (.tup [.ref tr, .int (wt : Int)]) = H4 at s4 htp
          refine ⟨tp, _, rfl, .inl (.inl htp), rfl, _, _, rfl, _, _, rfl, rfl, ?_⟩
          have W4 := W3'.grow s4
          have B4 := B3.grow s4
          have htr4 := same_t s4 htr3
          clear htp s4 W3' B3 htr3 W2 B2 W2' B2' r2 r3 ntp
          refine ⟨fun σ H' => ∃ (v : V) (o : Option (List Nat)), σ = [some (.ref a), y1, some (.ref p), some (.int (0 + (lap : Int))), some (.int (m : Int)), some (.ref g), some (.ref l), some (.int ((ps.length : Nat) : Int)), some (.ref x), some (.int (0 + (t : Int))), some v, some (.int (wt : Int)), y12, y13, y14] ∧ W1 K Ts Lc.C CR CT (lmOf 0 400) H' a p x r1 q1 g ns m rs rows ps ∧ Ls1 K H' p x q1 l rows ∧ RowV K H' m v o, ?_, ?_⟩
          · refine ⟨_, rfl, p, 5, rfl, W4.src, by decide, by decide, fun e H5 he r5 => ⟨rfl, _, rfl, ?_⟩⟩
            have W5 := W4.run r5
            have B5 := B4.run W4.src r5
            by_cases e0 : e = 0
            · obtain ⟨us, hus, dus⟩ := B5.at_
              refine iteT' (by rw [e0]; decide +kernel) ⟨_, rfl, _, rfl, _, rfl, p, l, m, us, rows, rfl, W5.src, m1, m6, SqL.of (by rw [wo_ne lns]; exact hus), dus, okr, by omega, fun v H6 r6 ov => ?_⟩
              exact ⟨v, none, rfl, W5.run r6, B5.run W5.src r6, ov⟩
            · refine iteF' (decide_eq_false fun z => e0 (by injection z with z; omega)) ?_
              exact ⟨.ref tr, some row, rfl, W5, B5, tr, rfl, sqt_T (r5.T W4.src) htr4, rok2⟩
          clear W4 B4 htr4
          rintro σ H4 ⟨v, o, rfl, W4, B4, ho⟩
          have rokv : ∀ r, o = some r → RowOk m r := fun r e => by
            subst e
            obtain ⟨_, _, _, z⟩ := ho
            exact z
          obtain ⟨okz, lz, nt⟩ := callW_ok (kd := 0) (cap := 400) (rs := rs) (wt := wt) okr rokv
          have hw := callW_word (kd := 0) (cap := 400) (rs := rs) (rows := rows) (wt := wt) (o := o)
          obtain ⟨z, ez⟩ : ∃ z, z = callW 0 400 rs rows wt o := ⟨_, rfl⟩
          rw [← ez] at okz lz nt hw
          refine ⟨fun σ H' => ∃ (pt : Addr) (ps' : List (List (List Nat))), σ = [some (.ref a), y1, some (.ref p), some (.int (0 + (lap : Int))), some (.int (m : Int)), some (.ref g), some (.ref l), some (.int ((ps.length : Nat) : Int)), some (.ref x), some (.int (0 + (t : Int))), some v, some (.int (wt : Int)), some (.ref pt), y13, y14] ∧ W1 K Ts Lc.C CR CT (lmOf 0 400) H' a p x r1 q1 g ns m rs z.2 ps' ∧ Ls1 K H' p x q1 l rows ∧ RowV K H' m v o ∧ H' pt = some (.lst (tlV z.1)) ∧ ((z.1 = "told" ∧ ps'.length = ps.length + 1) ∨ (z.1 ≠ "told" ∧ ps' = ps)), ?_, ?_⟩
          · refine ⟨W4.tab, fun H5 x5 tb5 => ?_⟩
            have W5 := W4.ext x5 tb5
            have B5 := B4.ext x5
            have ho5 := ho.ext x5
            have fw : ∀ r, o = some r → Fw (rows ++ [r]) := fun r _ => .of_len (by rw [List.length_append]; show rows.length + 1 ≤ _; omega)
            refine ts9_cl Lc rfl rfl rfl W5.log lok (by omega) ho5 fw ?_
            rw [← ez]
            refine ⟨fun ne H6 s6 pt npt => ?_, fun e H6 k6 L6 pt npt => ?_⟩
            · have s7 := s6.trans (same_new (o := .lst (tlV z.1)) npt)
              refine ⟨pt, ps, rfl, ?_, B5.grow s7, ho5.same s7, upd_same, .inr ⟨ne, rfl⟩⟩
              rw [nt ne]
              exact W5.grow s7
            · have s7 : Same H6 (upd H6 pt (.lst (tlV z.1))) := same_new npt
              refine ⟨pt, _, rfl, (W5.chg k6 L6).grow s7, (B5.chg W5.log k6).grow s7, ?_, upd_same, .inl ⟨e, by rw [List.length_append]; rfl⟩⟩
              cases o with
              | none =>
                exfalso
                rw [ez] at e
                unfold callW at e
                split at e
                · exact absurd (show ("NoRow" : Str) = "told" from e) (by decide +kernel)
                · exact absurd (show ("NoRow" : Str) = "told" from e) (by decide +kernel)
              | some row =>
                obtain ⟨t2, aa, bb, cc⟩ := ho5
                exact ⟨t2, aa, same_t s7 (sqt_T (W5.log.T k6) bb), cc⟩
          clear W4 B4 ho
          rintro σ H5 ⟨pt, ps', rfl, W5, B5, ho5, hpt, way⟩
          have lp' : ps'.length ≤ t + 1 := by rcases way with ⟨_, e⟩ | ⟨_, e⟩ <;> rw [e] <;> omega
          -- what was due
          obtain ⟨us, hus, dus⟩ := B5.at_
          obtain ⟨ug5, hg5, dg5⟩ := W5.giv
          refine ⟨_, rfl, _, rfl, _, rfl, _, rfl, 0, m, 400, g, l, v, ug5, us, rs, rows, o, rfl, m6, .inl (.inl hg5), dg5, rok, r60, hus, dus, okr, by omega, ho5, fun du H6 s6 D6 => ?_⟩
          refine ⟨fun σ H' => ∃ (du p1 p2 : Addr), σ = [some (.ref a), y1, some (.ref p), some (.int (0 + (lap : Int))), some (.int (m : Int)), some (.ref g), some (.ref l), some (.int ((ps.length : Nat) : Int)), some (.ref x), some (.int (0 + (t : Int))), some v, some (.int (wt : Int)), some (.ref pt), some (.ref du), y14] ∧ W1 K Ts Lc.C CR CT (lmOf 0 400) H' a p x r1 q1 g ns m rs z.2 ps' ∧ H' pt = some (.lst (tlV z.1)) ∧ H' du = some (.lst [.ref p1, .ref p2]) ∧ H' p1 = some (.lst (tlV z.1)) ∧ Ls1 K H' p x q1 p2 z.2, ?_, ?_⟩
          · have fin : ∀ (du : Addr) (H7 : Hp), Same H5 H7 → DueAt K H5 H7 du l z → ∃ (du' p1 p2 : Addr), ([some (.ref a), y1, some (.ref p), some (.int (0 + (lap : Int))), some (.int (m : Int)), some (.ref g), some (.ref l), some (.int ((ps.length : Nat) : Int)), some (.ref x), some (.int (0 + (t : Int))), some v, some (.int (wt : Int)), some (.ref pt), some (.ref du), y14] : L2.St) = [some (.ref a), y1, some (.ref p), some (.int (0 + (lap : Int))), some (.int (m : Int)), some (.ref g), some (.ref l), some (.int ((ps.length : Nat) : Int)), some (.ref x), some (.int (0 + (t : Int))), some v, some (.int (wt : Int)), some (.ref pt), some (.ref du'), y14] ∧ W1 K Ts Lc.C CR CT (lmOf 0 400) H7 a p x r1 q1 g ns m rs z.2 ps' ∧ H7 pt = some (.lst (tlV z.1)) ∧ H7 du' = some (.lst [.ref p1, .ref p2]) ∧ H7 p1 = some (.lst (tlV z.1)) ∧ Ls1 K H7 p x q1 p2 z.2 := by
              intro du H7 s7 D
              obtain ⟨p1, p2, us2, d1, d2, d3, d4, d5, _, _⟩ := D
              refine ⟨du, p1, p2, rfl, W5.grow s7, s7 _ _ hpt, d1, d2, ?_⟩
              rcases d5 with e | nn
              · subst e
                exact ⟨B5.ne, us2, d3, d4⟩
              · exact Ls1.new W5 nn d3 d4
            refine ⟨_, rfl, rfl, _, rfl, ?_⟩
            by_cases w2 : wt = 2
            · have ho6 := ho5.same s6
              refine iteT' (by rw [w2]; decide +kernel) ⟨_, rfl, _, rfl, _, rfl, m, l, v, us, rows, o, rfl, m6, s6 _ _ hus, dps_same s6 _ _ dus, by omega, ho6, fun du2 H7 s7 D7 => ?_⟩
              refine fin du2 H7 (s6.trans s7) ?_
              rw [ez]
              unfold callW
              rw [if_neg (by omega)]
              obtain ⟨p1, p2, us2, d1, d2, d3, d4, d5, d6, d7⟩ := D7
              exact ⟨p1, p2, us2, d1, d2, d3, d4, d5.imp id s6.free, s6.free d6, s6.free d7⟩
            · refine iteF' (decide_eq_false fun zz => w2 (by injection zz with zz; omega)) ?_
              refine fin du H6 s6 ?_
              rw [ez]
              unfold callW
              rw [if_pos (by omega)]
              exact D6
          clear W5 B5 ho5 hpt hus dus hg5 dg5 D6 s6
          rintro σ H5 ⟨du, p1, p2, rfl, W5, hpt, hdu, hp1, B5⟩
          refine ⟨_, rfl, _, rfl, du, [.ref p1, .ref p2], 0, .ref p1, rfl, rfl, SqL.of hdu, rfl, .ref pt, .ref p1, tlD z.1, rfl, tl_dp hpt, tl_dp hp1, sd_five hw, _, rfl, iteF ?_⟩
          refine ⟨fun σ H' => σ = [some (.ref a), y1, some (.ref p), some (.int (0 + (lap : Int))), some (.int (m : Int)), some (.ref g), some (.ref l), some (.int ((ps'.length : Nat) : Int)), some (.ref x), some (.int (0 + (t : Int))), some v, some (.int (wt : Int)), some (.ref pt), some (.ref du), y14] ∧ H' = H5, ?_, ?_⟩
          · obtain ⟨u, h1, h2⟩ := tlV0 z.1
            refine ⟨_, rfl, du, [.ref p1, .ref p2], 0, .ref p1, rfl, rfl, SqL.of hdu, rfl, p1, tlV z.1, 0, .str z.1, rfl, rfl, SqL.of hp1, (by rw [h1, h2]), rfl, _, rfl, ?_⟩
            rcases way with ⟨e, e2⟩ | ⟨e, rfl⟩
            · refine iteT' (decide_eq_true (by rw [e])) ⟨_, rfl, _, _, rfl, rfl, ?_⟩
              refine ⟨?_, rfl⟩
              rw [e2]
              rfl
            · exact iteF' (decide_eq_false fun zz => e (by injection zz)) ⟨_, rfl, rfl, rfl⟩
          rintro σ H6 ⟨rfl, rfl⟩
          refine ⟨_, rfl, du, [.ref p1, .ref p2], 1, .ref p2, rfl, rfl, SqL.of hdu, rfl, ?_⟩
          obtain ⟨us, hus, dus⟩ := B5.at_
          obtain ⟨ug7, hg7, dg7⟩ := W5.giv
          refine ⟨_, rfl, _, rfl, _, rfl, _, rfl, 0, m, 400, ps'.length, g, p2, ug7, us, rs, z.2, rfl, by decide, m6, .inl (.inl hg7), dg7, rok, r60, SqL.of hus, dus, okz, by omega, fun e2 H8 s8 d8 => ?_⟩
          have W8 := W5.grow s8
          have B8 := B5.grow s8
          refine ⟨_, rfl, 400, x, r1, q1, m, rs, z.2, ps', rfl, by decide, W8.log, m1, m6, rok, r60, okz, by omega, .of_len (by omega), fun e1 H7 s7 d7 => ?_⟩
          refine ⟨_, rfl, .ref e1, .ref e2, _, rfl, d7, dp_same s7 _ _ d8, sd_seen m6 rok r60 okz (by omega) (Nat.le_refl _) (by omega), _, rfl, iteF ?_⟩
          exact ⟨_, _, _, _, _, _, p2, z.2, ps', rfl, W8.grow s7, B8.grow s7, okz, by omega, lp'⟩
        · clear B12 W12 lp
          rintro σ H14 ⟨y9, y10, y11, y12, y13, y14, l, rows, ps, rfl, W14, _⟩
          have W14' := W14.w3
          obtain ⟨ug7, hg7, dg7⟩ := W14.giv
          refine ⟨_, rfl, _, rfl, _, rfl, p, 10, rfl, W14.src, by decide, by decide, fun dv H15 hdv r15 => ⟨(by show 1 ≤ sizeLine; decide), fun t0 nt0 => ?_⟩⟩
          have W15 := W14.run r15
          have s16 : Same H15 (upd H15 t0 (.tup [.int (dv : Int)])) := same_new nt0
          have ht0 : SqT K (upd H15 t0 (.tup [.int (dv : Int)])) t0 [.int (dv : Int)] := .inl (.inl upd_same)
          have W16 := W15.grow s16
          generalize upd H15 t0 (.tup [.int (dv : Int)]) = H16 at s16 ht0 W16
          refine ⟨_, rfl, t0, _, [.int (dv : Int)], rfl, rfl, ht0, by simp, by omega, by omega, (by show 1 ≤ 1000; decide), fun t2 H17 s17 ht2 => ?_⟩
          rw [rep_one] at ht2
          have W17 := W16.grow s17
          obtain ⟨ug8, hg8, dg8⟩ := W17.giv
          have ht2' : SqT K H17 t2 (nms (List.replicate m dv)) := by
            rw [nms, List.map_replicate]
            exact ht2
          refine ⟨m, dv, g, t2, ug8, rs, rfl, m1, m6, by omega, .inl (.inl hg8), dg8, rok, nd, r60, ht2', W17.tab, fun H18 x18 tb18 => ⟨_, rfl, iteF ?_⟩⟩
          exact ⟨_, _, _, _, _, _, _, _, _, _, _, _, _, rfl, (W17.ext x18 tb18).w3⟩
      · rintro σ H3 ⟨y1, y3, y4, y5, y6, y7, y8, y9, y10, y11, y12, y13, y14, rfl, W3'⟩
        exact ⟨_, _, _, _, _, _, _, _, _, _, _, _, _, _, rfl, same_l (wo_le p) W3'.scr, W3'.tab⟩
    · rintro σ H1 ⟨y1, y2, y3, y4, y5, y6, y7, y8, y9, y10, y11, y12, y13, y14, rfl, ha1, tabs1⟩
      exact q H1
end
end CC
namespace CC
open PySem L2 TL
/-- no plain value's type has an own class above it -/
theorem no_sub {K : PySem.W.Frag} {C : Addr} : ∀ n ∈ OC.oddTys, PySem.W.subIn K (.type n) (.ref C) = some false := by
  intro n hn
  simp only [OC.oddTys, List.mem_cons, List.not_mem_nil, or_false] at hn
  rcases hn with rfl | rfl | rfl | rfl | rfl | rfl | rfl <;> rfl
theorem no_ins {K : PySem.W.Frag} {C : Addr} (i : PySem.W.isClsIn K C = true) (t : PySem.W.typeIn K (.ref C) = some (.type "type")) : NoIns K C := by
  refine ⟨fun n hn => ?_, no_sub⟩
  have i' : (PySem.W.clsIn K C).isSome = true := i
  have s := no_sub (K := K) (C := C) n hn
  have e : ((Value.type n) == (Value.ref C)) = false := by simp
  simp only [PySem.W.kitOne, PySem.W.kitCls, e, i', t, s]
  simp
theorem exm_is {K : PySem.W.Frag} {cls : Value} {D : Addr} {r : Bool} (b : PySem.W.subIn K (.ref D) (.type "BaseException") = some true) (t : PySem.W.typeIn K (.ref D) = some (.type "type")) (i : (PySem.W.clsIn K D).isSome = true) (s : PySem.W.subIn K cls (.ref D) = some r) : PySem.W.exmOne K cls (.ref D) = some r := by
  simp only [PySem.W.exmOne, PySem.W.kitCls, b, t, i, s]
  simp
/-- the nine exceptions of the log laws' _law_said, put together -/
theorem mk_nine {K : PySem.W.Frag} {h : Heap} {mg : Str → Option Value} {c0 c1 c2 c3 c4 c5 c6 c7 c8 : Addr} (X : K.In h) (G : h.Ns mainGlobals mg)
    (a0 : PySem.W.nsIn K mainGlobals "NoRow" = some (some (.ref c0))) (x0 : PySem.W.excIn K c0 [.type "ValueError", .type "Exception", .type "BaseException", .type "object"] "ValueError.__new__" = true) (k0 : PySem.W.keepIn K (.ref c0) = true) (b0 : PySem.W.subIn K (.ref c0) (.type "BaseException") = some true) (t0 : PySem.W.typeIn K (.ref c0) = some (.type "type")) (i0 : PySem.W.isClsIn K c0 = true) (s0 : PySem.W.subIn K (.ref c0) (.ref c0) = some true)
    (a1 : PySem.W.nsIn K mainGlobals "NoNumber" = some (some (.ref c1))) (x1 : PySem.W.excIn K c1 [.type "ValueError", .type "Exception", .type "BaseException", .type "object"] "ValueError.__new__" = true) (k1 : PySem.W.keepIn K (.ref c1) = true) (b1 : PySem.W.subIn K (.ref c1) (.type "BaseException") = some true) (t1 : PySem.W.typeIn K (.ref c1) = some (.type "type")) (i1 : PySem.W.isClsIn K c1 = true) (s1 : PySem.W.subIn K (.ref c1) (.ref c1) = some true)
    (a2 : PySem.W.nsIn K mainGlobals "NotTable" = some (some (.ref c2))) (x2 : PySem.W.excIn K c2 [.type "ValueError", .type "Exception", .type "BaseException", .type "object"] "ValueError.__new__" = true) (k2 : PySem.W.keepIn K (.ref c2) = true) (b2 : PySem.W.subIn K (.ref c2) (.type "BaseException") = some true) (t2 : PySem.W.typeIn K (.ref c2) = some (.type "type")) (i2 : PySem.W.isClsIn K c2 = true) (s2 : PySem.W.subIn K (.ref c2) (.ref c2) = some true)
    (a3 : PySem.W.nsIn K mainGlobals "NotRules" = some (some (.ref c3))) (x3 : PySem.W.excIn K c3 [.type "ValueError", .type "Exception", .type "BaseException", .type "object"] "ValueError.__new__" = true) (k3 : PySem.W.keepIn K (.ref c3) = true) (b3 : PySem.W.subIn K (.ref c3) (.type "BaseException") = some true) (t3 : PySem.W.typeIn K (.ref c3) = some (.type "type")) (i3 : PySem.W.isClsIn K c3 = true) (s3 : PySem.W.subIn K (.ref c3) (.ref c3) = some true)
    (a4 : PySem.W.nsIn K mainGlobals "UnlikeWidths" = some (some (.ref c4))) (x4 : PySem.W.excIn K c4 [.type "ValueError", .type "Exception", .type "BaseException", .type "object"] "ValueError.__new__" = true) (k4 : PySem.W.keepIn K (.ref c4) = true) (b4 : PySem.W.subIn K (.ref c4) (.type "BaseException") = some true) (t4 : PySem.W.typeIn K (.ref c4) = some (.type "type")) (i4 : PySem.W.isClsIn K c4 = true) (s4 : PySem.W.subIn K (.ref c4) (.ref c4) = some true)
    (a5 : PySem.W.nsIn K mainGlobals "TooMuch" = some (some (.ref c5))) (x5 : PySem.W.excIn K c5 [.type "ValueError", .type "Exception", .type "BaseException", .type "object"] "ValueError.__new__" = true) (k5 : PySem.W.keepIn K (.ref c5) = true) (b5 : PySem.W.subIn K (.ref c5) (.type "BaseException") = some true) (t5 : PySem.W.typeIn K (.ref c5) = some (.type "type")) (i5 : PySem.W.isClsIn K c5 = true) (s5 : PySem.W.subIn K (.ref c5) (.ref c5) = some true)
    (a6 : PySem.W.nsIn K mainGlobals "NotThere" = some (some (.ref c6))) (x6 : PySem.W.excIn K c6 [.type "ValueError", .type "Exception", .type "BaseException", .type "object"] "ValueError.__new__" = true) (k6 : PySem.W.keepIn K (.ref c6) = true) (b6 : PySem.W.subIn K (.ref c6) (.type "BaseException") = some true) (t6 : PySem.W.typeIn K (.ref c6) = some (.type "type")) (i6 : PySem.W.isClsIn K c6 = true) (s6 : PySem.W.subIn K (.ref c6) (.ref c6) = some true)
    (a7 : PySem.W.nsIn K mainGlobals "Broken" = some (some (.ref c7))) (x7 : PySem.W.excIn K c7 [.type "ValueError", .type "Exception", .type "BaseException", .type "object"] "ValueError.__new__" = true) (k7 : PySem.W.keepIn K (.ref c7) = true) (b7 : PySem.W.subIn K (.ref c7) (.type "BaseException") = some true) (t7 : PySem.W.typeIn K (.ref c7) = some (.type "type")) (i7 : PySem.W.isClsIn K c7 = true) (s7 : PySem.W.subIn K (.ref c7) (.ref c7) = some true)
    (a8 : PySem.W.nsIn K mainGlobals "NothingDone" = some (some (.ref c8))) (x8 : PySem.W.excIn K c8 [.type "ValueError", .type "Exception", .type "BaseException", .type "object"] "ValueError.__new__" = true) (k8 : PySem.W.keepIn K (.ref c8) = true) (b8 : PySem.W.subIn K (.ref c8) (.type "BaseException") = some true) (t8 : PySem.W.typeIn K (.ref c8) = some (.type "type")) (i8 : PySem.W.isClsIn K c8 = true) (s8 : PySem.W.subIn K (.ref c8) (.ref c8) = some true)
    (d10 : PySem.W.subIn K (.ref c1) (.ref c0) = some false) (d20 : PySem.W.subIn K (.ref c2) (.ref c0) = some false) (d21 : PySem.W.subIn K (.ref c2) (.ref c1) = some false) (d30 : PySem.W.subIn K (.ref c3) (.ref c0) = some false) (d31 : PySem.W.subIn K (.ref c3) (.ref c1) = some false) (d32 : PySem.W.subIn K (.ref c3) (.ref c2) = some false) (d40 : PySem.W.subIn K (.ref c4) (.ref c0) = some false) (d41 : PySem.W.subIn K (.ref c4) (.ref c1) = some false) (d42 : PySem.W.subIn K (.ref c4) (.ref c2) = some false) (d43 : PySem.W.subIn K (.ref c4) (.ref c3) = some false) (d50 : PySem.W.subIn K (.ref c5) (.ref c0) = some false) (d51 : PySem.W.subIn K (.ref c5) (.ref c1) = some false) (d52 : PySem.W.subIn K (.ref c5) (.ref c2) = some false) (d53 : PySem.W.subIn K (.ref c5) (.ref c3) = some false) (d54 : PySem.W.subIn K (.ref c5) (.ref c4) = some false) (d60 : PySem.W.subIn K (.ref c6) (.ref c0) = some false) (d61 : PySem.W.subIn K (.ref c6) (.ref c1) = some false) (d62 : PySem.W.subIn K (.ref c6) (.ref c2) = some false) (d63 : PySem.W.subIn K (.ref c6) (.ref c3) = some false) (d64 : PySem.W.subIn K (.ref c6) (.ref c4) = some false) (d65 : PySem.W.subIn K (.ref c6) (.ref c5) = some false) (d70 : PySem.W.subIn K (.ref c7) (.ref c0) = some false) (d71 : PySem.W.subIn K (.ref c7) (.ref c1) = some false) (d72 : PySem.W.subIn K (.ref c7) (.ref c2) = some false) (d73 : PySem.W.subIn K (.ref c7) (.ref c3) = some false) (d74 : PySem.W.subIn K (.ref c7) (.ref c4) = some false) (d75 : PySem.W.subIn K (.ref c7) (.ref c5) = some false) (d76 : PySem.W.subIn K (.ref c7) (.ref c6) = some false) (d80 : PySem.W.subIn K (.ref c8) (.ref c0) = some false) (d81 : PySem.W.subIn K (.ref c8) (.ref c1) = some false) (d82 : PySem.W.subIn K (.ref c8) (.ref c2) = some false) (d83 : PySem.W.subIn K (.ref c8) (.ref c3) = some false) (d84 : PySem.W.subIn K (.ref c8) (.ref c4) = some false) (d85 : PySem.W.subIn K (.ref c8) (.ref c5) = some false) (d86 : PySem.W.subIn K (.ref c8) (.ref c6) = some false) (d87 : PySem.W.subIn K (.ref c8) (.ref c7) = some false) :
    ∃ C9 : Nat → Addr, Ex9 K mg C9 ∧ ∀ i, i < 9 → ExcK K mg (nm9 i) (C9 i) := by
  refine ⟨fun | 0 => c0 | 1 => c1 | 2 => c2 | 3 => c3 | 4 => c4 | 5 => c5 | 6 => c6 | 7 => c7 | _ => c8, ⟨fun i hi => ?_, fun i hi => ?_, fun i hi => ?_⟩, fun i hi => ?_⟩
  · match i, hi with
    | 0, _ => exact PySem.W.mg_of X G a0
    | 1, _ => exact PySem.W.mg_of X G a1
    | 2, _ => exact PySem.W.mg_of X G a2
    | 3, _ => exact PySem.W.mg_of X G a3
    | 4, _ => exact PySem.W.mg_of X G a4
    | 5, _ => exact PySem.W.mg_of X G a5
    | 6, _ => exact PySem.W.mg_of X G a6
    | 7, _ => exact PySem.W.mg_of X G a7
    | 8, _ => exact PySem.W.mg_of X G a8
    | i + 9, h => exact absurd h (by omega)
  · match i, hi with
    | 0, _ => exact fun j hj => absurd hj (by omega)
    | 1, _ => 
      intro j hj
      match j, hj with
      | 0, _ => exact exm_is b0 t0 i0 d10
      | j + 1, h => exact absurd h (by omega)
    | 2, _ => 
      intro j hj
      match j, hj with
      | 0, _ => exact exm_is b0 t0 i0 d20
      | 1, _ => exact exm_is b1 t1 i1 d21
      | j + 2, h => exact absurd h (by omega)
    | 3, _ => 
      intro j hj
      match j, hj with
      | 0, _ => exact exm_is b0 t0 i0 d30
      | 1, _ => exact exm_is b1 t1 i1 d31
      | 2, _ => exact exm_is b2 t2 i2 d32
      | j + 3, h => exact absurd h (by omega)
    | 4, _ => 
      intro j hj
      match j, hj with
      | 0, _ => exact exm_is b0 t0 i0 d40
      | 1, _ => exact exm_is b1 t1 i1 d41
      | 2, _ => exact exm_is b2 t2 i2 d42
      | 3, _ => exact exm_is b3 t3 i3 d43
      | j + 4, h => exact absurd h (by omega)
    | 5, _ => 
      intro j hj
      match j, hj with
      | 0, _ => exact exm_is b0 t0 i0 d50
      | 1, _ => exact exm_is b1 t1 i1 d51
      | 2, _ => exact exm_is b2 t2 i2 d52
      | 3, _ => exact exm_is b3 t3 i3 d53
      | 4, _ => exact exm_is b4 t4 i4 d54
      | j + 5, h => exact absurd h (by omega)
    | 6, _ => 
      intro j hj
      match j, hj with
      | 0, _ => exact exm_is b0 t0 i0 d60
      | 1, _ => exact exm_is b1 t1 i1 d61
      | 2, _ => exact exm_is b2 t2 i2 d62
      | 3, _ => exact exm_is b3 t3 i3 d63
      | 4, _ => exact exm_is b4 t4 i4 d64
      | 5, _ => exact exm_is b5 t5 i5 d65
      | j + 6, h => exact absurd h (by omega)
    | 7, _ => 
      intro j hj
      match j, hj with
      | 0, _ => exact exm_is b0 t0 i0 d70
      | 1, _ => exact exm_is b1 t1 i1 d71
      | 2, _ => exact exm_is b2 t2 i2 d72
      | 3, _ => exact exm_is b3 t3 i3 d73
      | 4, _ => exact exm_is b4 t4 i4 d74
      | 5, _ => exact exm_is b5 t5 i5 d75
      | 6, _ => exact exm_is b6 t6 i6 d76
      | j + 7, h => exact absurd h (by omega)
    | 8, _ => 
      intro j hj
      match j, hj with
      | 0, _ => exact exm_is b0 t0 i0 d80
      | 1, _ => exact exm_is b1 t1 i1 d81
      | 2, _ => exact exm_is b2 t2 i2 d82
      | 3, _ => exact exm_is b3 t3 i3 d83
      | 4, _ => exact exm_is b4 t4 i4 d84
      | 5, _ => exact exm_is b5 t5 i5 d85
      | 6, _ => exact exm_is b6 t6 i6 d86
      | 7, _ => exact exm_is b7 t7 i7 d87
      | j + 8, h => exact absurd h (by omega)
    | i + 9, h => exact absurd h (by omega)
  · match i, hi with
    | 0, _ => exact exm_is b0 t0 i0 s0
    | 1, _ => exact exm_is b1 t1 i1 s1
    | 2, _ => exact exm_is b2 t2 i2 s2
    | 3, _ => exact exm_is b3 t3 i3 s3
    | 4, _ => exact exm_is b4 t4 i4 s4
    | 5, _ => exact exm_is b5 t5 i5 s5
    | 6, _ => exact exm_is b6 t6 i6 s6
    | 7, _ => exact exm_is b7 t7 i7 s7
    | 8, _ => exact exm_is b8 t8 i8 s8
    | i + 9, h => exact absurd h (by omega)
  · match i, hi with
    | 0, _ => exact ⟨PySem.W.mg_of X G a0, x0, k0, b0, t0⟩
    | 1, _ => exact ⟨PySem.W.mg_of X G a1, x1, k1, b1, t1⟩
    | 2, _ => exact ⟨PySem.W.mg_of X G a2, x2, k2, b2, t2⟩
    | 3, _ => exact ⟨PySem.W.mg_of X G a3, x3, k3, b3, t3⟩
    | 4, _ => exact ⟨PySem.W.mg_of X G a4, x4, k4, b4, t4⟩
    | 5, _ => exact ⟨PySem.W.mg_of X G a5, x5, k5, b5, t5⟩
    | 6, _ => exact ⟨PySem.W.mg_of X G a6, x6, k6, b6, t6⟩
    | 7, _ => exact ⟨PySem.W.mg_of X G a7, x7, k7, b7, t7⟩
    | 8, _ => exact ⟨PySem.W.mg_of X G a8, x8, k8, b8, t8⟩
    | i + 9, h => exact absurd h (by omega)
end CC
/-! ### the head by one kernel run: what the top has left, found by names -/
namespace HK
open PySem PySem.Spec PyProof.Rows L2 PySem.W
/-! where things stand -/
def sa (K : Frag) (C D : Addr) (m : Str) : Addr := fstR (ks_superIn K C D m)
/-! what is asked, as Bools -/
theorem eqO_ok {a b : Option (Option Value)} (h : eqO a b = true) : a = b := of_decide_eq_true h
theorem eqV_ok {a b : Option Value} (h : eqV a b = true) : a = b := of_decide_eq_true h
theorem eqB_ok {a b : Option Bool} (h : eqB a b = true) : a = b := of_decide_eq_true h
theorem recB_ok {K : Frag} {p : Addr} {T : String} (h : recB K p T = true) : ∃ rest, recIn K p T = some (.ref (ra K p T) :: rest) := by
  unfold recB at h
  unfold ra
  split at h
  · rename_i a r e
    exact ⟨r, by rw [e]; rfl⟩
  · cases h
theorem clsB_ok {K : Frag} {C : Addr} {m : Str} (h : clsB K C m = true) : findCls K (.ref C) (.type "type") m = some (.get (.builtin "classmethod.__get__") (.ref (ca K C m)) .none (.ref C)) := by
  unfold clsB at h
  unfold ca
  split at h
  · rename_i g p c e
    obtain ⟨h1, h2⟩ := Bool.and_eq_true_iff.mp h
    rw [e, of_decide_eq_true h1, of_decide_eq_true h2]
  · cases h
theorem clvB_ok {K : Frag} {C : Addr} {m : Str} {f : Addr} (h : clvB K C m f = true) : findCls K (.ref C) (.type "type") m = some (.val (.ref f)) := by
  unfold clvB at h
  split at h
  · rename_i v e
    rw [e, of_decide_eq_true h]
  · cases h
theorem intB_ok {K : Frag} {x : Str} {i : Int} (h : intB K x i = true) : ∃ t, nsIn K mainGlobals x = some (some (.int i t)) := by
  unfold intB at h
  split at h
  · rename_i j t e
    exact ⟨t, by rw [e, of_decide_eq_true h]⟩
  · cases h
theorem kndB_ok {K : Frag} {a : Addr} (h : kndB K a = true) : ∃ (od : Option Addr) (t1 t2 : Tok) (n : Nat) (sl : Array (Option Value)), K.lookup a = some ⟨.type "tuple", od, .seq #[.str "settles" t1, .str "within" t2] n, sl⟩ := by
  unfold kndB at h
  split at h
  · rename_i c od its n sl e
    obtain ⟨h1, h2⟩ := Bool.and_eq_true_iff.mp h
    split at h2
    · rename_i x t1 y t2 e2
      obtain ⟨h3, h4⟩ := Bool.and_eq_true_iff.mp h2
      refine ⟨od, t1, t2, n, sl, ?_⟩
      have e3 : its = #[.str x t1, .str y t2] := by
        rw [← Array.toArray_toList (xs := its), e2]
      rw [e, of_decide_eq_true h1, e3, of_decide_eq_true h3, of_decide_eq_true h4]
    · cases h2
  · cases h
theorem tabB_ok {K : Frag} {x : Str} (h : tabB K x = true) : tabIn K x = some (tabC K x, tabP K x) := by
  obtain ⟨p, e⟩ := Option.isSome_iff_exists.mp h
  unfold tabC tabP
  rw [e]
theorem none_ok {α : Type} {o : Option α} (h : o.isNone = true) : o = none := Option.isNone_iff_eq_none.mp h
/-! defs -/
theorem DefX.keep {K : Frag} {d : DefX} (c : d.ok K = true) : keepIn K (.ref (d.at_ K)) = true := (Bool.and_eq_true_iff.mp c).1
theorem DefX.all {K : Frag} {d : DefX} (e : fnW K (d.at_ K) = d.val) (c : d.ok K = true) : ∃ oc od osl dV kV doc pm an ct cl, K.lookup (d.at_ K) = some ⟨oc, od, .func { fnOf d.name d.qual (defArgs d.st) (defBody d.st) (defScope d.st) dV kV doc pm an (.ref (coA K (d.at_ K))) ct with closure := cl }, osl⟩ ∧ codeIn K (.ref (coA K (d.at_ K))) d.qual = true ∧ DflV K dV d.dfl ∧ cl.map (·.1) = if d.sup then [("__class__" : Str)] else [] := by
  obtain ⟨_, c2⟩ := Bool.and_eq_true_iff.mp c
  unfold fnW at e
  unfold coA
  cases q : K.lookup (d.at_ K) with
  | none =>
    rw [q] at c2
    cases c2
  | some o =>
    obtain ⟨oc, od, dt, osl⟩ := o
    rw [q] at c2 e
    cases dt with
    | func fd =>
      obtain ⟨n1, n2, n3, n4, n5, n6, n7, n8, n9, n10, n11, n12, n13, n14, n15⟩ := fd
      have e2 : (some (n1, n2, n3, n4, n5, n6, n7.map (·.1), n15) : FnW) = some (d.name, d.qual, defArgs d.st, .stmts (defBody d.st), defScope d.st, mainGlobals, if d.sup then [("__class__" : Str)] else [], builtinsNs) := e
      simp only [Option.some.injEq, Prod.mk.injEq] at e2
      obtain ⟨h1, h2, h3, h4, h5, h6, h7, h8⟩ := e2
      subst h1 h2 h3 h4 h5 h6 h8
      have c3 : (codeIn K n13 d.qual && (isRef n13 && He.dflB K n8 d.dfl)) = true := c2
      obtain ⟨k1, k2⟩ := Bool.and_eq_true_iff.mp c3
      obtain ⟨k3, k4⟩ := Bool.and_eq_true_iff.mp k2
      cases n13 with
      | ref c =>
        exact ⟨oc, od, osl, n8, n9, n10, n11, n12, n14, n7, rfl, k1, He.dflB_ok k4, h7⟩
      | _ => cases k3
    | _ => cases c2
theorem DefX.get {K : Frag} {d : DefX} (e : fnW K (d.at_ K) = d.val) (c : d.ok K = true) (hs : d.sup = false := by rfl) (hd : d.dfl = [] := by rfl) : ∃ oc od osl kV doc pm an ct, K.lookup (d.at_ K) = some ⟨oc, od, .func (fnOf d.name d.qual (defArgs d.st) (defBody d.st) (defScope d.st) .none kV doc pm an (.ref (coA K (d.at_ K))) ct), osl⟩ ∧ codeIn K (.ref (coA K (d.at_ K))) d.qual = true := by
  obtain ⟨oc, od, osl, dV, kV, doc, pm, an, ct, cl, l, cI, D, hc⟩ := d.all e c
  rw [hs] at hc
  have hc : cl = [] := List.map_eq_nil_iff.mp hc
  subst hc
  rw [hd] at D
  rcases D with ⟨_, rfl⟩ | ⟨z, _⟩
  · exact ⟨oc, od, osl, kV, doc, pm, an, ct, l, cI⟩
  · exact absurd rfl z
theorem DefX.getD {K : Frag} {d : DefX} (e : fnW K (d.at_ K) = d.val) (c : d.ok K = true) (hs : d.sup = false := by rfl) : ∃ fd, FunD K d.name d.qual (defArgs d.st) (defBody d.st) (defScope d.st) d.dfl [] (d.at_ K) fd := by
  obtain ⟨oc, od, osl, dV, kV, doc, pm, an, ct, cl, l, cI, D, hc⟩ := d.all e c
  rw [hs] at hc
  have hc : cl = [] := List.map_eq_nil_iff.mp hc
  subst hc
  exact ⟨_, ⟨oc, od, dV, kV, doc, pm, an, _, ct, osl, rfl, l, cI, D, .inl rfl⟩, d.keep c⟩
/-! the Hook -/
theorem obsA_eq {as : List Addr} {bs : Frag → List Bool} {fn : List DefX} {g : Addr → Option Obj} {s : Shared} (h : ∀ a, g a = s.heap.get? a) : obsAG as bs fn g = (hookA as bs fn).obs s := by
  have e : g = s.heap.get? := funext h
  rw [e] <;> rfl
section
variable {bs : Frag → List Bool} {fn : List DefX} {K : Frag}
theorem fact (c : obsX bs fn K = valX fn) (i : Nat) {b : Bool} (h : (bs K)[i]? = some b) : b = true := by
  have c1 := (Bool.and_eq_true_iff.mp (show (((bs K).all id) && fn.all fun d => d.ok K) = true from congrArg (fun z : AlX => z.1) c)).1
  exact List.all_eq_true.mp c1 b (List.mem_of_getElem? h)
theorem def_ (c : obsX bs fn K = valX fn) (i : Nat) {d : DefX} (h : fn[i]? = some d) : fnW K (d.at_ K) = d.val ∧ d.ok K = true := by
  have c2 := (Bool.and_eq_true_iff.mp (show (((bs K).all id) && fn.all fun d => d.ok K) = true from congrArg (fun z : AlX => z.1) c)).2
  have e : fn.map (fun d => fnW K (d.at_ K)) = fn.map DefX.val := congrArg (fun z : AlX => z.2) c
  have e2 : (fn.map fun d => fnW K (d.at_ K))[i]? = (fn.map DefX.val)[i]? := by rw [e]
  rw [List.getElem?_map, List.getElem?_map, h] at e2
  exact ⟨Option.some.inj e2, List.all_eq_true.mp c2 d (List.mem_of_getElem? h)⟩
end
/-- the law's end, the written part by such a Hook -/
theorem walk_X {l : OpenLaw} {n k : Nat} {q : Program} {loose : List Str} {XP : (Str → Option Value) → Heap → Prop} {YP : World → Heap → Prop} {d : DefRec} {CX : World → CXT} {x : Str} {xs : List Str}
    (most : l.most = some n) (few : n ≤ sizeLine) (plain : d.params.defaults = []) (room : Room k callerA)
    (found : ∀ y ∈ xs, ∃ r, (recsOf q).find? (fun e => e.name == y) = some r)
    (F : ∀ (w : World) (mg : Str → Option Value) (fa : Addr) (h : Heap), YP w h → h.Ns mainGlobals mg → mg d.name = some (.ref fa) → ∃ (K : Frag) (fd : FuncData) (cs : List (Addr × Addr)) (sp : Sp), K.In h ∧ (∀ p ∈ cs, ∃ y ∈ xs, tabIn K y = some p) ∧ (∀ p ∈ cs, K.lookup p.2 = none) ∧
      (∀ (s : Shared) (u : Value), BindsTo s fd ⟨[u], []⟩ [(x, u)]) ∧ (∀ (H : Hp) (a : Addr) (ns : List Int), ns.length ≤ n → (∀ p ∈ cs, H p.2 = some (.tbl #[])) → SqL K H a (ns.map V.int) → sp [.ref a] H (fun v _ => v = .bl true) fun _ _ _ => False) ∧
      ∀ base : Heap, K.In base → base.Ns mainGlobals mg → (∀ p ∈ cs, LamX.TabB base mg p.1 p.2) → GD.FnG l.prog w K mg base (CX w) k fa fd [x] sp)
    (noX : ∀ (w : World) (H : Hp) (s : Shared) (e : Value) (s' : Shared), CX w [] H s (fun _ _ _ => False) e s' → False) : WalkO q loose XP YP l.row.toRowW d [] (fun f vs => PySem.call f vs) := by
  refine Att.attach_callB most plain ?_
  intro w s₀ s mg mb fa o pm cd doc a vs ns G Y _ _ _ hmg hobj hin len _ gens
  obtain ⟨K, fd, cs, sp, inK, tbs, offK, bind, wish, ok⟩ := F w mg fa _ Y G.T.g hmg
  refine GD.law_callGT inK G.T.g G.T.b G.T.builtins G.T.nolimit gens (fun p hp => ?_) offK G.T.bmain hobj hin (Nat.le_trans len few) room ok bind (fun H h1 h2 => wish H a ns len h1 h2) fun H e s' => noX w H s e s'
  obtain ⟨y, hy, e⟩ := tbs p hp
  obtain ⟨r, hr⟩ := found y hy
  exact tab_of G.T inK hr (by rw [e])
end HK
namespace CC
open PySem L2 TL
theorem df_mk {K : PySem.W.Frag} {h : Heap} {mg : Str → Option Value} {x : Str} {st : Stmt} {ps : List Str} {f : Addr} {fd : FuncData} (X : K.In h) (G : h.Ns mainGlobals mg) (a : PySem.W.nsIn K mainGlobals x = some (some (.ref f))) (F : Fun K x x st f fd) (b : Binds K fd ps []) : Nonempty (Df K mg x st ps) := ⟨⟨f, fd, F, b, PySem.W.mg_of X G a⟩⟩
theorem kit_self {K : PySem.W.Frag} {C : Addr} : PySem.W.kitOne K (.ref C) (.ref C) = some true := by
  unfold PySem.W.kitOne
  exact if_pos (by simp)
theorem raw0 {P : Program} {w : World} {K : PySem.W.Frag} {mg : Str → Option Value} {base : Heap} {CX : CXT} {k : Nat} {f : Addr} {fd : FuncData} {ps : List Str} {sp : Sp} (F : FnOk P w K mg base CX k f fd ps sp) (b : Binds K fd ps []) : FnR P w K mg base CX k f sp :=
  (F.raw b .nil).imp fun vs H Q E h => by
    show sp (vs ++ []) H Q E
    rw [List.append_nil]
    exact h
theorem mk_is_an_integer {K : PySem.W.Frag} {h : Heap} {mg : Str → Option Value} {f : Addr} {od an : Option Addr} {sl : Array (Option Value)} {oc kV dc pm cd ct : Value} (X : K.In h) (G : h.Ns mainGlobals mg) (a : PySem.W.nsIn K mainGlobals "is_an_integer" = some (some (.ref f)))
    (l : K.lookup f = some ⟨oc, od, .func (PySem.W.fnOf "is_an_integer" "is_an_integer" (defArgs sIsInt) (defBody sIsInt) (defScope sIsInt) .none kV dc pm an cd ct), sl⟩) (c : PySem.W.codeIn K cd "is_an_integer" = true) (k : PySem.W.keepIn K (.ref f) = true) : Nonempty (Df K mg "is_an_integer" sIsInt ["thing"]) :=
  have F := fun_mk (st := sIsInt) l c k
  df_mk X G a F (F.binds (ps := ["thing"]) fun _ _ _ _ _ _ us hl => match us, hl with | [_], _ => rfl)
theorem mk_is_width {K : PySem.W.Frag} {h : Heap} {mg : Str → Option Value} {f : Addr} {od an : Option Addr} {sl : Array (Option Value)} {oc kV dc pm cd ct : Value} (X : K.In h) (G : h.Ns mainGlobals mg) (a : PySem.W.nsIn K mainGlobals "is_width" = some (some (.ref f)))
    (l : K.lookup f = some ⟨oc, od, .func (PySem.W.fnOf "is_width" "is_width" (defArgs sIsWidth) (defBody sIsWidth) (defScope sIsWidth) .none kV dc pm an cd ct), sl⟩) (c : PySem.W.codeIn K cd "is_width" = true) (k : PySem.W.keepIn K (.ref f) = true) : Nonempty (Df K mg "is_width" sIsWidth ["thing"]) :=
  have F := fun_mk (st := sIsWidth) l c k
  df_mk X G a F (F.binds (ps := ["thing"]) fun _ _ _ _ _ _ us hl => match us, hl with | [_], _ => rfl)
theorem mk_is_column {K : PySem.W.Frag} {h : Heap} {mg : Str → Option Value} {f : Addr} {od an : Option Addr} {sl : Array (Option Value)} {oc kV dc pm cd ct : Value} (X : K.In h) (G : h.Ns mainGlobals mg) (a : PySem.W.nsIn K mainGlobals "is_column" = some (some (.ref f)))
    (l : K.lookup f = some ⟨oc, od, .func (PySem.W.fnOf "is_column" "is_column" (defArgs sIsCol) (defBody sIsCol) (defScope sIsCol) .none kV dc pm an cd ct), sl⟩) (c : PySem.W.codeIn K cd "is_column" = true) (k : PySem.W.keepIn K (.ref f) = true) : Nonempty (Df K mg "is_column" sIsCol ["width", "thing"]) :=
  have F := fun_mk (st := sIsCol) l c k
  df_mk X G a F (F.binds (ps := ["width", "thing"]) fun _ _ _ _ _ _ us hl => match us, hl with | [_, _], _ => rfl)
theorem mk_is_rule {K : PySem.W.Frag} {h : Heap} {mg : Str → Option Value} {f : Addr} {od an : Option Addr} {sl : Array (Option Value)} {oc kV dc pm cd ct : Value} (X : K.In h) (G : h.Ns mainGlobals mg) (a : PySem.W.nsIn K mainGlobals "is_rule" = some (some (.ref f)))
    (l : K.lookup f = some ⟨oc, od, .func (PySem.W.fnOf "is_rule" "is_rule" (defArgs sIsRule) (defBody sIsRule) (defScope sIsRule) .none kV dc pm an cd ct), sl⟩) (c : PySem.W.codeIn K cd "is_rule" = true) (k : PySem.W.keepIn K (.ref f) = true) : Nonempty (Df K mg "is_rule" sIsRule ["width", "thing"]) :=
  have F := fun_mk (st := sIsRule) l c k
  df_mk X G a F (F.binds (ps := ["width", "thing"]) fun _ _ _ _ _ _ us hl => match us, hl with | [_, _], _ => rfl)
theorem mk_every_rule {K : PySem.W.Frag} {h : Heap} {mg : Str → Option Value} {f : Addr} {od an : Option Addr} {sl : Array (Option Value)} {oc kV dc pm cd ct : Value} (X : K.In h) (G : h.Ns mainGlobals mg) (a : PySem.W.nsIn K mainGlobals "every_rule" = some (some (.ref f)))
    (l : K.lookup f = some ⟨oc, od, .func (PySem.W.fnOf "every_rule" "every_rule" (defArgs sEvery) (defBody sEvery) (defScope sEvery) .none kV dc pm an cd ct), sl⟩) (c : PySem.W.codeIn K cd "every_rule" = true) (k : PySem.W.keepIn K (.ref f) = true) : Nonempty (Df K mg "every_rule" sEvery ["width"]) :=
  have F := fun_mk (st := sEvery) l c k
  df_mk X G a F (F.binds (ps := ["width"]) fun _ _ _ _ _ _ us hl => match us, hl with | [_], _ => rfl)
theorem mk_line_of {K : PySem.W.Frag} {h : Heap} {mg : Str → Option Value} {f : Addr} {od an : Option Addr} {sl : Array (Option Value)} {oc kV dc pm cd ct : Value} (X : K.In h) (G : h.Ns mainGlobals mg) (a : PySem.W.nsIn K mainGlobals "line_of" = some (some (.ref f)))
    (l : K.lookup f = some ⟨oc, od, .func (PySem.W.fnOf "line_of" "line_of" (defArgs sLine) (defBody sLine) (defScope sLine) .none kV dc pm an cd ct), sl⟩) (c : PySem.W.codeIn K cd "line_of" = true) (k : PySem.W.keepIn K (.ref f) = true) : Nonempty (Df K mg "line_of" sLine ["rule"]) :=
  have F := fun_mk (st := sLine) l c k
  df_mk X G a F (F.binds (ps := ["rule"]) fun _ _ _ _ _ _ us hl => match us, hl with | [_], _ => rfl)
theorem mk_rules_of {K : PySem.W.Frag} {h : Heap} {mg : Str → Option Value} {f : Addr} {od an : Option Addr} {sl : Array (Option Value)} {oc kV dc pm cd ct : Value} (X : K.In h) (G : h.Ns mainGlobals mg) (a : PySem.W.nsIn K mainGlobals "rules_of" = some (some (.ref f)))
    (l : K.lookup f = some ⟨oc, od, .func (PySem.W.fnOf "rules_of" "rules_of" (defArgs sRulesOf) (defBody sRulesOf) (defScope sRulesOf) .none kV dc pm an cd ct), sl⟩) (c : PySem.W.codeIn K cd "rules_of" = true) (k : PySem.W.keepIn K (.ref f) = true) : Nonempty (Df K mg "rules_of" sRulesOf ["width", "text"]) :=
  have F := fun_mk (st := sRulesOf) l c k
  df_mk X G a F (F.binds (ps := ["width", "text"]) fun _ _ _ _ _ _ us hl => match us, hl with | [_, _], _ => rfl)
theorem mk_l_said {K : PySem.W.Frag} {h : Heap} {mg : Str → Option Value} {f : Addr} {od an : Option Addr} {sl : Array (Option Value)} {oc kV dc pm cd ct : Value} (X : K.In h) (G : h.Ns mainGlobals mg) (a : PySem.W.nsIn K mainGlobals "_law_said" = some (some (.ref f)))
    (l : K.lookup f = some ⟨oc, od, .func (PySem.W.fnOf "_law_said" "_law_said" (defArgs sSaid) (defBody sSaid) (defScope sSaid) .none kV dc pm an cd ct), sl⟩) (c : PySem.W.codeIn K cd "_law_said" = true) (k : PySem.W.keepIn K (.ref f) = true) : Nonempty (Df K mg "_law_said" sSaid ["_law_call_here"]) :=
  have F := fun_mk (st := sSaid) l c k
  df_mk X G a F (F.binds (ps := ["_law_call_here"]) fun _ _ _ _ _ _ us hl => match us, hl with | [_], _ => rfl)
theorem mk_l_call {K : PySem.W.Frag} {h : Heap} {mg : Str → Option Value} {f : Addr} {od an : Option Addr} {sl : Array (Option Value)} {oc kV dc pm cd ct : Value} (X : K.In h) (G : h.Ns mainGlobals mg) (a : PySem.W.nsIn K mainGlobals "_law_call" = some (some (.ref f)))
    (l : K.lookup f = some ⟨oc, od, .func (PySem.W.fnOf "_law_call" "_law_call" (defArgs sCl) (defBody sCl) (defScope sCl) .none kV dc pm an cd ct), sl⟩) (c : PySem.W.codeIn K cd "_law_call" = true) (k : PySem.W.keepIn K (.ref f) = true) : Nonempty (Df K mg "_law_call" sCl ["_law_log", "_law_what", "_law_row_here"]) :=
  have F := fun_mk (st := sCl) l c k
  df_mk X G a F (F.binds (ps := ["_law_log", "_law_what", "_law_row_here"]) fun _ _ _ _ _ _ us hl => match us, hl with | [_, _, _], _ => rfl)
theorem mk_is_row {K : PySem.W.Frag} {h : Heap} {mg : Str → Option Value} {f : Addr} {od an : Option Addr} {sl : Array (Option Value)} {oc kV dc pm cd ct : Value} (X : K.In h) (G : h.Ns mainGlobals mg) (a : PySem.W.nsIn K mainGlobals "is_row" = some (some (.ref f)))
    (l : K.lookup f = some ⟨oc, od, .func (PySem.W.fnOf "is_row" "is_row" (defArgs sIsRow) (defBody sIsRow) (defScope sIsRow) .none kV dc pm an cd ct), sl⟩) (c : PySem.W.codeIn K cd "is_row" = true) (k : PySem.W.keepIn K (.ref f) = true) : Nonempty (Df K mg "is_row" sIsRow ["width", "thing"]) :=
  have F := fun_mk (st := sIsRow) l c k
  df_mk X G a F (F.binds (ps := ["width", "thing"]) fun _ _ _ _ _ _ us hl => match us, hl with | [_, _], _ => rfl)
theorem mk_holds {K : PySem.W.Frag} {h : Heap} {mg : Str → Option Value} {f : Addr} {od an : Option Addr} {sl : Array (Option Value)} {oc kV dc pm cd ct : Value} (X : K.In h) (G : h.Ns mainGlobals mg) (a : PySem.W.nsIn K mainGlobals "holds" = some (some (.ref f)))
    (l : K.lookup f = some ⟨oc, od, .func (PySem.W.fnOf "holds" "holds" (defArgs sHo) (defBody sHo) (defScope sHo) .none kV dc pm an cd ct), sl⟩) (c : PySem.W.codeIn K cd "holds" = true) (k : PySem.W.keepIn K (.ref f) = true) : Nonempty (Df K mg "holds" sHo ["rows", "rule"]) :=
  have F := fun_mk (st := sHo) l c k
  df_mk X G a F (F.binds (ps := ["rows", "rule"]) fun _ _ _ _ _ _ us hl => match us, hl with | [_, _], _ => rfl)
theorem mk_rules_broken {K : PySem.W.Frag} {h : Heap} {mg : Str → Option Value} {f : Addr} {od an : Option Addr} {sl : Array (Option Value)} {oc kV dc pm cd ct : Value} (X : K.In h) (G : h.Ns mainGlobals mg) (a : PySem.W.nsIn K mainGlobals "rules_broken" = some (some (.ref f)))
    (l : K.lookup f = some ⟨oc, od, .func (PySem.W.fnOf "rules_broken" "rules_broken" (defArgs sBrk) (defBody sBrk) (defScope sBrk) .none kV dc pm an cd ct), sl⟩) (c : PySem.W.codeIn K cd "rules_broken" = true) (k : PySem.W.keepIn K (.ref f) = true) : Nonempty (Df K mg "rules_broken" sBrk ["rules", "rows"]) :=
  have F := fun_mk (st := sBrk) l c k
  df_mk X G a F (F.binds (ps := ["rules", "rows"]) fun _ _ _ _ _ _ us hl => match us, hl with | [_, _], _ => rfl)
theorem mk_l_source {K : PySem.W.Frag} {h : Heap} {mg : Str → Option Value} {f : Addr} {od an : Option Addr} {sl : Array (Option Value)} {oc kV dc pm cd ct : Value} (X : K.In h) (G : h.Ns mainGlobals mg) (a : PySem.W.nsIn K mainGlobals "_law_source" = some (some (.ref f)))
    (l : K.lookup f = some ⟨oc, od, .func (PySem.W.fnOf "_law_source" "_law_source" (defArgs sSource) (defBody sSource) (defScope sSource) .none kV dc pm an cd ct), sl⟩) (c : PySem.W.codeIn K cd "_law_source" = true) (k : PySem.W.keepIn K (.ref f) = true) : Nonempty (Df K mg "_law_source" sSource ["_law_cell_here"]) :=
  have F := fun_mk (st := sSource) l c k
  df_mk X G a F (F.binds (ps := ["_law_cell_here"]) fun _ _ _ _ _ _ us hl => match us, hl with | [_], _ => rfl)
theorem mk_l_cell {K : PySem.W.Frag} {h : Heap} {mg : Str → Option Value} {f : Addr} {od an : Option Addr} {sl : Array (Option Value)} {oc kV dc pm cd ct : Value} (X : K.In h) (G : h.Ns mainGlobals mg) (a : PySem.W.nsIn K mainGlobals "_law_cell" = some (some (.ref f)))
    (l : K.lookup f = some ⟨oc, od, .func (PySem.W.fnOf "_law_cell" "_law_cell" (defArgs sCell) (defBody sCell) (defScope sCell) .none kV dc pm an cd ct), sl⟩) (c : PySem.W.codeIn K cd "_law_cell" = true) (k : PySem.W.keepIn K (.ref f) = true) : Nonempty (Df K mg "_law_cell" sCell ["_law_script", "_law_index"]) :=
  have F := fun_mk (st := sCell) l c k
  df_mk X G a F (F.binds (ps := ["_law_script", "_law_index"]) fun _ _ _ _ _ _ us hl => match us, hl with | [_, _], _ => rfl)
theorem mk_l_draw {K : PySem.W.Frag} {h : Heap} {mg : Str → Option Value} {f : Addr} {od an : Option Addr} {sl : Array (Option Value)} {oc kV dc pm cd ct : Value} (X : K.In h) (G : h.Ns mainGlobals mg) (a : PySem.W.nsIn K mainGlobals "_law_draw" = some (some (.ref f)))
    (l : K.lookup f = some ⟨oc, od, .func (PySem.W.fnOf "_law_draw" "_law_draw" (defArgs sDraw) (defBody sDraw) (defScope sDraw) .none kV dc pm an cd ct), sl⟩) (c : PySem.W.codeIn K cd "_law_draw" = true) (k : PySem.W.keepIn K (.ref f) = true) : Nonempty (Df K mg "_law_draw" sDraw ["_law_source_here", "_law_many"]) :=
  have F := fun_mk (st := sDraw) l c k
  df_mk X G a F (F.binds (ps := ["_law_source_here", "_law_many"]) fun _ _ _ _ _ _ us hl => match us, hl with | [_, _], _ => rfl)
theorem mk_l_choose {K : PySem.W.Frag} {h : Heap} {mg : Str → Option Value} {f : Addr} {od an : Option Addr} {sl : Array (Option Value)} {oc kV dc pm cd ct : Value} (X : K.In h) (G : h.Ns mainGlobals mg) (a : PySem.W.nsIn K mainGlobals "_law_choose" = some (some (.ref f)))
    (l : K.lookup f = some ⟨oc, od, .func (PySem.W.fnOf "_law_choose" "_law_choose" (defArgs sChoose) (defBody sChoose) (defScope sChoose) .none kV dc pm an cd ct), sl⟩) (c : PySem.W.codeIn K cd "_law_choose" = true) (k : PySem.W.keepIn K (.ref f) = true) : Nonempty (Df K mg "_law_choose" sChoose ["_law_source_here", "_law_values"]) :=
  have F := fun_mk (st := sChoose) l c k
  df_mk X G a F (F.binds (ps := ["_law_source_here", "_law_values"]) fun _ _ _ _ _ _ us hl => match us, hl with | [_, _], _ => rfl)
theorem mk_l_given {K : PySem.W.Frag} {h : Heap} {mg : Str → Option Value} {f : Addr} {od an : Option Addr} {sl : Array (Option Value)} {oc kV dc pm cd ct : Value} (X : K.In h) (G : h.Ns mainGlobals mg) (a : PySem.W.nsIn K mainGlobals "_law_given" = some (some (.ref f)))
    (l : K.lookup f = some ⟨oc, od, .func (PySem.W.fnOf "_law_given" "_law_given" (defArgs sGv) (defBody sGv) (defScope sGv) .none kV dc pm an cd ct), sl⟩) (c : PySem.W.codeIn K cd "_law_given" = true) (k : PySem.W.keepIn K (.ref f) = true) : Nonempty (Df K mg "_law_given" sGv ["_law_source_here", "_law_many", "_law_size"]) :=
  have F := fun_mk (st := sGv) l c k
  df_mk X G a F (F.binds (ps := ["_law_source_here", "_law_many", "_law_size"]) fun _ _ _ _ _ _ us hl => match us, hl with | [_, _, _], _ => rfl)
theorem mk_l_words {K : PySem.W.Frag} {h : Heap} {mg : Str → Option Value} {f : Addr} {od an : Option Addr} {sl : Array (Option Value)} {oc kV dc pm cd ct : Value} (X : K.In h) (G : h.Ns mainGlobals mg) (a : PySem.W.nsIn K mainGlobals "_law_words" = some (some (.ref f)))
    (l : K.lookup f = some ⟨oc, od, .func (PySem.W.fnOf "_law_words" "_law_words" (defArgs sWd) (defBody sWd) (defScope sWd) .none kV dc pm an cd ct), sl⟩) (c : PySem.W.codeIn K cd "_law_words" = true) (k : PySem.W.keepIn K (.ref f) = true) : Nonempty (Df K mg "_law_words" sWd ["_law_given_here"]) :=
  have F := fun_mk (st := sWd) l c k
  df_mk X G a F (F.binds (ps := ["_law_given_here"]) fun _ _ _ _ _ _ us hl => match us, hl with | [_], _ => rfl)
theorem mk_l_row {K : PySem.W.Frag} {h : Heap} {mg : Str → Option Value} {f : Addr} {od an : Option Addr} {sl : Array (Option Value)} {oc kV dc pm cd ct : Value} (X : K.In h) (G : h.Ns mainGlobals mg) (a : PySem.W.nsIn K mainGlobals "_law_row" = some (some (.ref f)))
    (l : K.lookup f = some ⟨oc, od, .func (PySem.W.fnOf "_law_row" "_law_row" (defArgs sRwl) (defBody sRwl) (defScope sRwl) .none kV dc pm an cd ct), sl⟩) (c : PySem.W.codeIn K cd "_law_row" = true) (k : PySem.W.keepIn K (.ref f) = true) : Nonempty (Df K mg "_law_row" sRwl ["_law_source_here", "_law_many", "_law_listed"]) :=
  have F := fun_mk (st := sRwl) l c k
  df_mk X G a F (F.binds (ps := ["_law_source_here", "_law_many", "_law_listed"]) fun _ _ _ _ _ _ us hl => match us, hl with | [_, _, _], _ => rfl)
theorem mk_is_numeral {K : PySem.W.Frag} {h : Heap} {mg : Str → Option Value} {f : Addr} {od an : Option Addr} {sl : Array (Option Value)} {oc kV dc pm cd ct : Value} (X : K.In h) (G : h.Ns mainGlobals mg) (a : PySem.W.nsIn K mainGlobals "is_numeral" = some (some (.ref f)))
    (l : K.lookup f = some ⟨oc, od, .func (PySem.W.fnOf "is_numeral" "is_numeral" (defArgs sIsNum) (defBody sIsNum) (defScope sIsNum) .none kV dc pm an cd ct), sl⟩) (c : PySem.W.codeIn K cd "is_numeral" = true) (k : PySem.W.keepIn K (.ref f) = true) : Nonempty (Df K mg "is_numeral" sIsNum ["word"]) :=
  have F := fun_mk (st := sIsNum) l c k
  df_mk X G a F (F.binds (ps := ["word"]) fun _ _ _ _ _ _ us hl => match us, hl with | [_], _ => rfl)
theorem mk_rows_of {K : PySem.W.Frag} {h : Heap} {mg : Str → Option Value} {f : Addr} {od an : Option Addr} {sl : Array (Option Value)} {oc kV dc pm cd ct : Value} (X : K.In h) (G : h.Ns mainGlobals mg) (a : PySem.W.nsIn K mainGlobals "rows_of" = some (some (.ref f)))
    (l : K.lookup f = some ⟨oc, od, .func (PySem.W.fnOf "rows_of" "rows_of" (defArgs sRowsOf) (defBody sRowsOf) (defScope sRowsOf) .none kV dc pm an cd ct), sl⟩) (c : PySem.W.codeIn K cd "rows_of" = true) (k : PySem.W.keepIn K (.ref f) = true) : Nonempty (Df K mg "rows_of" sRowsOf ["width", "text"]) :=
  have F := fun_mk (st := sRowsOf) l c k
  df_mk X G a F (F.binds (ps := ["width", "text"]) fun _ _ _ _ _ _ us hl => match us, hl with | [_, _], _ => rfl)
theorem mk_l_odd_row {K : PySem.W.Frag} {h : Heap} {mg : Str → Option Value} {f : Addr} {od an : Option Addr} {sl : Array (Option Value)} {oc kV dc pm cd ct : Value} (X : K.In h) (G : h.Ns mainGlobals mg) (a : PySem.W.nsIn K mainGlobals "_law_odd_row" = some (some (.ref f)))
    (l : K.lookup f = some ⟨oc, od, .func (PySem.W.fnOf "_law_odd_row" "_law_odd_row" (defArgs sOdd) (defBody sOdd) (defScope sOdd) .none kV dc pm an cd ct), sl⟩) (c : PySem.W.codeIn K cd "_law_odd_row" = true) (k : PySem.W.keepIn K (.ref f) = true) : Nonempty (Df K mg "_law_odd_row" sOdd ["_law_source_here", "_law_many", "_law_listed"]) :=
  have F := fun_mk (st := sOdd) l c k
  df_mk X G a F (F.binds (ps := ["_law_source_here", "_law_many", "_law_listed"]) fun _ _ _ _ _ _ us hl => match us, hl with | [_, _, _], _ => rfl)
theorem mk_l_is_row {K : PySem.W.Frag} {h : Heap} {mg : Str → Option Value} {f : Addr} {od an : Option Addr} {sl : Array (Option Value)} {oc kV dc pm cd ct : Value} (X : K.In h) (G : h.Ns mainGlobals mg) (a : PySem.W.nsIn K mainGlobals "_law_is_row" = some (some (.ref f)))
    (l : K.lookup f = some ⟨oc, od, .func (PySem.W.fnOf "_law_is_row" "_law_is_row" (defArgs sLir) (defBody sLir) (defScope sLir) .none kV dc pm an cd ct), sl⟩) (c : PySem.W.codeIn K cd "_law_is_row" = true) (k : PySem.W.keepIn K (.ref f) = true) : Nonempty (Df K mg "_law_is_row" sLir ["_law_many", "_law_thing"]) :=
  have F := fun_mk (st := sLir) l c k
  df_mk X G a F (F.binds (ps := ["_law_many", "_law_thing"]) fun _ _ _ _ _ _ us hl => match us, hl with | [_, _], _ => rfl)
theorem mk_l_is_held {K : PySem.W.Frag} {h : Heap} {mg : Str → Option Value} {f : Addr} {od an : Option Addr} {sl : Array (Option Value)} {oc kV dc pm cd ct : Value} (X : K.In h) (G : h.Ns mainGlobals mg) (a : PySem.W.nsIn K mainGlobals "_law_is_held" = some (some (.ref f)))
    (l : K.lookup f = some ⟨oc, od, .func (PySem.W.fnOf "_law_is_held" "_law_is_held" (defArgs sIh) (defBody sIh) (defScope sIh) .none kV dc pm an cd ct), sl⟩) (c : PySem.W.codeIn K cd "_law_is_held" = true) (k : PySem.W.keepIn K (.ref f) = true) : Nonempty (Df K mg "_law_is_held" sIh ["_law_listed", "_law_rule"]) :=
  have F := fun_mk (st := sIh) l c k
  df_mk X G a F (F.binds (ps := ["_law_listed", "_law_rule"]) fun _ _ _ _ _ _ us hl => match us, hl with | [_, _], _ => rfl)
theorem mk_l_fit {K : PySem.W.Frag} {h : Heap} {mg : Str → Option Value} {f : Addr} {od an : Option Addr} {sl : Array (Option Value)} {oc kV dc pm cd ct : Value} (X : K.In h) (G : h.Ns mainGlobals mg) (a : PySem.W.nsIn K mainGlobals "_law_fit" = some (some (.ref f)))
    (l : K.lookup f = some ⟨oc, od, .func (PySem.W.fnOf "_law_fit" "_law_fit" (defArgs sFit) (defBody sFit) (defScope sFit) .none kV dc pm an cd ct), sl⟩) (c : PySem.W.codeIn K cd "_law_fit" = true) (k : PySem.W.keepIn K (.ref f) = true) : Nonempty (Df K mg "_law_fit" sFit ["_law_kind", "_law_given_here", "_law_cap", "_law_listed"]) :=
  have F := fun_mk (st := sFit) l c k
  df_mk X G a F (F.binds (ps := ["_law_kind", "_law_given_here", "_law_cap", "_law_listed"]) fun _ _ _ _ _ _ us hl => match us, hl with | [_, _, _, _], _ => rfl)
theorem mk_l_add_due {K : PySem.W.Frag} {h : Heap} {mg : Str → Option Value} {f : Addr} {od an : Option Addr} {sl : Array (Option Value)} {oc kV dc pm cd ct : Value} (X : K.In h) (G : h.Ns mainGlobals mg) (a : PySem.W.nsIn K mainGlobals "_law_add_due" = some (some (.ref f)))
    (l : K.lookup f = some ⟨oc, od, .func (PySem.W.fnOf "_law_add_due" "_law_add_due" (defArgs sAdu) (defBody sAdu) (defScope sAdu) .none kV dc pm an cd ct), sl⟩) (c : PySem.W.codeIn K cd "_law_add_due" = true) (k : PySem.W.keepIn K (.ref f) = true) : Nonempty (Df K mg "_law_add_due" sAdu ["_law_kind", "_law_many", "_law_given_here", "_law_cap", "_law_listed", "_law_row_here"]) :=
  have F := fun_mk (st := sAdu) l c k
  df_mk X G a F (F.binds (ps := ["_law_kind", "_law_many", "_law_given_here", "_law_cap", "_law_listed", "_law_row_here"]) fun _ _ _ _ _ _ us hl => match us, hl with | [_, _, _, _, _, _], _ => rfl)
theorem mk_l_drop_due {K : PySem.W.Frag} {h : Heap} {mg : Str → Option Value} {f : Addr} {od an : Option Addr} {sl : Array (Option Value)} {oc kV dc pm cd ct : Value} (X : K.In h) (G : h.Ns mainGlobals mg) (a : PySem.W.nsIn K mainGlobals "_law_drop_due" = some (some (.ref f)))
    (l : K.lookup f = some ⟨oc, od, .func (PySem.W.fnOf "_law_drop_due" "_law_drop_due" (defArgs sDdu) (defBody sDdu) (defScope sDdu) .none kV dc pm an cd ct), sl⟩) (c : PySem.W.codeIn K cd "_law_drop_due" = true) (k : PySem.W.keepIn K (.ref f) = true) : Nonempty (Df K mg "_law_drop_due" sDdu ["_law_many", "_law_listed", "_law_row_here"]) :=
  have F := fun_mk (st := sDdu) l c k
  df_mk X G a F (F.binds (ps := ["_law_many", "_law_listed", "_law_row_here"]) fun _ _ _ _ _ _ us hl => match us, hl with | [_, _, _], _ => rfl)
theorem mk_l_is_equal {K : PySem.W.Frag} {h : Heap} {mg : Str → Option Value} {f : Addr} {od an : Option Addr} {sl : Array (Option Value)} {oc kV dc pm cd ct : Value} (X : K.In h) (G : h.Ns mainGlobals mg) (a : PySem.W.nsIn K mainGlobals "_law_is_equal" = some (some (.ref f)))
    (l : K.lookup f = some ⟨oc, od, .func (PySem.W.fnOf "_law_is_equal" "_law_is_equal" (defArgs sIsEq) (defBody sIsEq) (defScope sIsEq) .none kV dc pm an cd ct), sl⟩) (c : PySem.W.codeIn K cd "_law_is_equal" = true) (k : PySem.W.keepIn K (.ref f) = true) : Nonempty (Df K mg "_law_is_equal" sIsEq ["_law_actual", "_law_expected"]) :=
  have F := fun_mk (st := sIsEq) l c k
  df_mk X G a F (F.binds (ps := ["_law_actual", "_law_expected"]) fun _ _ _ _ _ _ us hl => match us, hl with | [_, _], _ => rfl)
theorem mk_l_seen {K : PySem.W.Frag} {h : Heap} {mg : Str → Option Value} {f : Addr} {od an : Option Addr} {sl : Array (Option Value)} {oc kV dc pm cd ct : Value} (X : K.In h) (G : h.Ns mainGlobals mg) (a : PySem.W.nsIn K mainGlobals "_law_seen" = some (some (.ref f)))
    (l : K.lookup f = some ⟨oc, od, .func (PySem.W.fnOf "_law_seen" "_law_seen" (defArgs sSee) (defBody sSee) (defScope sSee) .none kV dc pm an cd ct), sl⟩) (c : PySem.W.codeIn K cd "_law_seen" = true) (k : PySem.W.keepIn K (.ref f) = true) : Nonempty (Df K mg "_law_seen" sSee ["_law_kind", "_law_log"]) :=
  have F := fun_mk (st := sSee) l c k
  df_mk X G a F (F.binds (ps := ["_law_kind", "_law_log"]) fun _ _ _ _ _ _ us hl => match us, hl with | [_, _], _ => rfl)
theorem mk_l_text {K : PySem.W.Frag} {h : Heap} {mg : Str → Option Value} {f : Addr} {od an : Option Addr} {sl : Array (Option Value)} {oc kV dc pm cd ct : Value} (X : K.In h) (G : h.Ns mainGlobals mg) (a : PySem.W.nsIn K mainGlobals "_law_text" = some (some (.ref f)))
    (l : K.lookup f = some ⟨oc, od, .func (PySem.W.fnOf "_law_text" "_law_text" (defArgs sTTx) (defBody sTTx) (defScope sTTx) .none kV dc pm an cd ct), sl⟩) (c : PySem.W.codeIn K cd "_law_text" = true) (k : PySem.W.keepIn K (.ref f) = true) : Nonempty (Df K mg "_law_text" sTTx ["_law_listed"]) :=
  have F := fun_mk (st := sTTx) l c k
  df_mk X G a F (F.binds (ps := ["_law_listed"]) fun _ _ _ _ _ _ us hl => match us, hl with | [_], _ => rfl)
theorem mk_l_due {K : PySem.W.Frag} {h : Heap} {mg : Str → Option Value} {f : Addr} {od an : Option Addr} {sl : Array (Option Value)} {oc kV dc pm cd ct : Value} (X : K.In h) (G : h.Ns mainGlobals mg) (a : PySem.W.nsIn K mainGlobals "_law_due" = some (some (.ref f)))
    (l : K.lookup f = some ⟨oc, od, .func (PySem.W.fnOf "_law_due" "_law_due" (defArgs sLdu) (defBody sLdu) (defScope sLdu) .none kV dc pm an cd ct), sl⟩) (c : PySem.W.codeIn K cd "_law_due" = true) (k : PySem.W.keepIn K (.ref f) = true) : Nonempty (Df K mg "_law_due" sLdu ["_law_kind", "_law_many", "_law_given_here", "_law_cap", "_law_listed", "_law_changes"]) :=
  have F := fun_mk (st := sLdu) l c k
  df_mk X G a F (F.binds (ps := ["_law_kind", "_law_many", "_law_given_here", "_law_cap", "_law_listed", "_law_changes"]) fun _ _ _ _ _ _ us hl => match us, hl with | [_, _, _, _, _, _], _ => rfl)
theorem mk_l_table {K : PySem.W.Frag} {h : Heap} {mg : Str → Option Value} {f : Addr} {od an : Option Addr} {sl : Array (Option Value)} {oc kV dc pm cd ct : Value} (X : K.In h) (G : h.Ns mainGlobals mg) (a : PySem.W.nsIn K mainGlobals "_law_table" = some (some (.ref f)))
    (l : K.lookup f = some ⟨oc, od, .func (PySem.W.fnOf "_law_table" "_law_table" (defArgs sLta) (defBody sLta) (defScope sLta) .none kV dc pm an cd ct), sl⟩) (c : PySem.W.codeIn K cd "_law_table" = true) (k : PySem.W.keepIn K (.ref f) = true) : Nonempty (Df K mg "_law_table" sLta ["_law_many", "_law_listed"]) :=
  have F := fun_mk (st := sLta) l c k
  df_mk X G a F (F.binds (ps := ["_law_many", "_law_listed"]) fun _ _ _ _ _ _ us hl => match us, hl with | [_, _], _ => rfl)
theorem mk_glb {K : PySem.W.Frag} {h : Heap} {mg : Str → Option Value} {kA : Addr} {t t1 t2 : Tok} {od : Option Addr} {n : Nat} {sl : Array (Option Value)} (X : K.In h) (G : h.Ns mainGlobals mg) (len : PySem.W.nsIn K mainGlobals "len" = some none) (max : PySem.W.nsIn K mainGlobals "max" = some none) (min : PySem.W.nsIn K mainGlobals "min" = some none) (isi : PySem.W.nsIn K mainGlobals "isinstance" = some none) (int : PySem.W.nsIn K mainGlobals "int" = some none) (bool : PySem.W.nsIn K mainGlobals "bool" = some none) (str : PySem.W.nsIn K mainGlobals "str" = some none) (tup : PySem.W.nsIn K mainGlobals "tuple" = some none) (rng : PySem.W.nsIn K mainGlobals "range" = some none) (lst : PySem.W.nsIn K mainGlobals "list" = some none) (all : PySem.W.nsIn K mainGlobals "all" = some none) (set : PySem.W.nsIn K mainGlobals "set" = some none) (enu : PySem.W.nsIn K mainGlobals "enumerate" = some none) (rep : PySem.W.nsIn K mainGlobals "repr" = some none) (srt : PySem.W.nsIn K mainGlobals "sorted" = some none) (zip : PySem.W.nsIn K mainGlobals "zip" = some none) (any : PySem.W.nsIn K mainGlobals "any" = some none) (sum : PySem.W.nsIn K mainGlobals "sum" = some none) (rev : PySem.W.nsIn K mainGlobals "reversed" = some none) (dic : PySem.W.nsIn K mainGlobals "dict" = some none) (typ : PySem.W.nsIn K mainGlobals "type" = some none)
    (wid : PySem.W.nsIn K mainGlobals "WIDEST" = some (some (.int 6 t))) (knd : PySem.W.nsIn K mainGlobals "KINDS" = some (some (.ref kA))) (kl : K.lookup kA = some ⟨.type "tuple", od, .seq #[.str "settles" t1, .str "within" t2] n, sl⟩) : Nonempty { z : Unit // ∃ kA, Glb K mg kA } :=
  ⟨⟨(), kA, ⟨PySem.W.mg_none_of X G len, PySem.W.mg_none_of X G max, PySem.W.mg_none_of X G min, PySem.W.mg_none_of X G isi, PySem.W.mg_none_of X G int, PySem.W.mg_none_of X G bool, PySem.W.mg_none_of X G str, PySem.W.mg_none_of X G tup, PySem.W.mg_none_of X G rng, PySem.W.mg_none_of X G lst, PySem.W.mg_none_of X G all, PySem.W.mg_none_of X G set, PySem.W.mg_none_of X G enu, PySem.W.mg_none_of X G rep, PySem.W.mg_none_of X G srt, PySem.W.mg_none_of X G zip, PySem.W.mg_none_of X G any, PySem.W.mg_none_of X G sum, PySem.W.mg_none_of X G rev, PySem.W.mg_none_of X G dic, PySem.W.mg_none_of X G typ, ⟨t, PySem.W.mg_of X G wid⟩, PySem.W.mg_of X G knd, ⟨_, _, _, kl, rfl, rfl, by show 2 ≤ sizeLine; decide, .cons ⟨t1, rfl⟩ (.cons ⟨t2, rfl⟩ .nil)⟩⟩⟩⟩
structure LogFam (P : Program) (K : PySem.W.Frag) (mg : Str → Option Value) : Prop where
  g0 : mg "Log" = some (.ref (HK.ga K "Log"))
  tm0 : TxtM K (HK.ga K "Log")
  mk0 : Mk K (HK.ga K "Log") (HK.ma K (HK.ga K "Log") "__init__")
  frules0 : ∃ fd, Fun K "rules" "Log.rules" slRlM (HK.ra K (HK.ma K (HK.ga K "Log") "rules") "property") fd ∧ Binds K fd ["self"] []
  qrules0 : PropOf K (HK.ga K "Log") "rules" (HK.ma K (HK.ga K "Log") "rules") (HK.ra K (HK.ma K (HK.ga K "Log") "rules") "property")
  ftable0 : ∃ fd, Fun K "table" "Log.table" slTbM (HK.ra K (HK.ma K (HK.ga K "Log") "table") "property") fd ∧ Binds K fd ["self"] []
  qtable0 : PropOf K (HK.ga K "Log") "table" (HK.ma K (HK.ga K "Log") "table") (HK.ra K (HK.ma K (HK.ga K "Log") "table") "property")
  fbroken0 : ∃ fd, Fun K "broken" "Log.broken" slBrM (HK.ra K (HK.ma K (HK.ga K "Log") "broken") "property") fd ∧ Binds K fd ["self"] []
  qbroken0 : PropOf K (HK.ga K "Log") "broken" (HK.ma K (HK.ga K "Log") "broken") (HK.ra K (HK.ma K (HK.ga K "Log") "broken") "property")
  fchanges0 : ∃ fd, Fun K "changes" "Log.changes" slCgM (HK.ra K (HK.ma K (HK.ga K "Log") "changes") "property") fd ∧ Binds K fd ["self"] []
  qchanges0 : PropOf K (HK.ga K "Log") "changes" (HK.ma K (HK.ga K "Log") "changes") (HK.ra K (HK.ma K (HK.ga K "Log") "changes") "property")
  fcl0 : ∃ fd, Fun K "__call__" "Log.__call__" slCll (HK.ma K (HK.ga K "Log") "__call__") fd ∧ Binds K fd ["self", "row"] []
  co0 : StX.CallO K (HK.ga K "Log") (HK.ma K (HK.ga K "Log") "__call__")
  mAdd0 : Meth K (HK.ga K "Log") "add" (HK.ma K (HK.ga K "Log") "add")
  mChg0 : Meth K (HK.ga K "Log") "change" (HK.ma K (HK.ga K "Log") "change")
  mChk0 : Meth K (HK.ga K "Log") "check" (HK.ma K (HK.ga K "Log") "check")
  hsuper : mg "super" = none
  gR : mg "Rules" = some (.ref (HK.ga K "Rules"))
  noR : NoIns K (HK.ga K "Rules")
  fi0 : ∃ fd, Fun K "__init__" "Log.__init__" sLInit (HK.ma K (HK.ga K "Log") "__init__") fd ∧ Binds K fd ["self", "rules"] []
  cr0 : ClX.CRead K (HK.ga K "Log") (.type "type")
  cf0 : CFU.CFun K (HK.ga K "Log") (.type "type") "__init__" (HK.ma K (HK.ga K "Log") "__init__")
  fchk : ∃ fd, Fun K "check" "Log.check" sLChk (HK.ma K (HK.ga K "Log") "check") fd ∧ Binds K fd ["self", "rows"] []
  fchg : ∃ fd, Fun K "change" "Log.change" sLChg (HK.ma K (HK.ga K "Log") "change") fd ∧ Binds K fd ["self", "table"] []
  fadd : ∃ fd, Fun K "add" "Log.add" sLAdd (HK.ma K (HK.ga K "Log") "add") fd ∧ Binds K fd ["self", "row"] []
  fasg : ∃ fd, Fun K "assign_table" "Log.assign_table" slAsg (HK.ma K (HK.ga K "Log") "assign_table") fd ∧ Binds K fd ["self", "table"] []
  mAsg0 : Meth K (HK.ga K "Log") "assign_table" (HK.ma K (HK.ga K "Log") "assign_table")
  fln0 : ∃ fd, Fun K "__len__" "Log.__len__" slLnM (HK.ma K (HK.ga K "Log") "__len__") fd ∧ Binds K fd ["self"] []
  hln0 : PySem.W.findIn K (.ref (HK.ga K "Log")) "__len__" = some (some (.ref (HK.ma K (HK.ga K "Log") "__len__"))) ∧ PySem.W.isFn K (.ref (HK.ma K (HK.ga K "Log") "__len__")) = true
  frp0 : ∃ fd, Fun K "__repr__" "Log.__repr__" slRpM (HK.ma K (HK.ga K "Log") "__repr__") fd ∧ Binds K fd ["self"] []
  hrp0 : PySem.W.findIn K (.ref (HK.ga K "Log")) "__repr__" = some (some (.ref (HK.ma K (HK.ga K "Log") "__repr__"))) ∧ PySem.W.isFn K (.ref (HK.ma K (HK.ga K "Log") "__repr__")) = true
  gT : mg "Table" = some (.ref (HK.ga K "Table"))
  noT : NoIns K (HK.ga K "Table")
  kRT : PySem.W.kitOne K (.ref (HK.ga K "Rules")) (.ref (HK.ga K "Table")) = some false
  fdrp : ∃ fd, Fun K "drop" "Log.drop" slDrp (HK.ma K (HK.ga K "Log") "drop") fd ∧ Binds K fd ["self", "row"] []
  mDrp0 : Meth K (HK.ga K "Log") "drop" (HK.ma K (HK.ga K "Log") "drop")
  insL : C8.InsC K (HK.ga K "Log")
  q0tL : PySem.W.kitOne K (.ref (HK.ga K "Log")) (.type "tuple") = some false
  q0iL : PySem.W.kitOne K (.ref (HK.ga K "Log")) (.type "int") = some false
  q0tT : PySem.W.kitOne K (.ref (HK.ga K "Table")) (.type "tuple") = some false
  q0iT : PySem.W.kitOne K (.ref (HK.ga K "Table")) (.type "int") = some false
  q0tR : PySem.W.kitOne K (.ref (HK.ga K "Rules")) (.type "tuple") = some false
  q0iR : PySem.W.kitOne K (.ref (HK.ga K "Rules")) (.type "int") = some false
structure Kls (K : PySem.W.Frag) (mg : Str → Option Value) where
  C : Addr
  TC : Txt1 K mg C
  fN : Addr
  dN : FuncData
  FN : Fun K "__init__" "Rules.__init__" sInit fN dN
  M : Mk K C fN
  fD : Addr
  dD : FuncData
  FD : Fun K "read" "Rules.read" sRead fD dD
  bD : Binds K dD ["cls", "width", "text"] []
  mc : Value
  pD : Addr
  rD : ClX.CRead K C mc
  cD : ClX.CMet K C mc "read" pD fD
  ic : C8.InsC K C
  fW : Addr
  dW : FuncData
  FW : Fun K "width" "Rules.width" sPW fW dW
  bW : Binds K dW ["self"] []
  pW : Addr
  qW : PropOf K C "width" pW fW
  fR : Addr
  dR : FuncData
  FR : Fun K "rules" "Rules.rules" sPR fR dR
  bR : Binds K dR ["self"] []
  pR : Addr
  qR : PropOf K C "rules" pR fR
  fX : Addr
  dX : FuncData
  FX : Fun K "text" "Rules.text" sRTxt fX dX
  bX : Binds K dX ["self"] []
  mX : Meth K C "text" fX
theorem mk_cls {K : PySem.W.Frag} {h : Heap} {mg : Str → Option Value} {C fN fD fW fR fX : Addr} {odN anN : Option Addr} {slN : Array (Option Value)} {ocN kVN dcN pmN cdN ctN : Value} {pD : Addr} {rest : List Value} {odD anD : Option Addr} {slD : Array (Option Value)} {ocD kVD dcD pmD cdD ctD : Value} {pW : Addr} {restW : List Value} {odW anW : Option Addr} {slW : Array (Option Value)} {ocW kVW dcW pmW cdW ctW : Value} {pR : Addr} {restR : List Value} {odR anR : Option Addr} {slR : Array (Option Value)} {ocR kVR dcR pmR cdR ctR : Value} {odX anX : Option Addr} {slX : Array (Option Value)} {ocX kVX dcX pmX cdX ctX : Value} (X : K.In h) (G : h.Ns mainGlobals mg)
    (aC : PySem.W.nsIn K mainGlobals "Rules" = some (some (.ref C))) (pg : PySem.W.plainGet K C Str.empty = true) (hd : PySem.W.hasDictIn K C = true) (po : PySem.W.plainOver K C = true) (sa : PySem.W.findIn K (.ref C) "__setattr__" = some (some (.builtin "object.__setattr__"))) (kc : PySem.W.keepIn K (.ref C) = true) (nS : PySem.W.findIn K (.ref C) "span" = some none) (nG : PySem.W.findIn K (.ref C) "given" = some none) (mk : PySem.W.makesIn K C = true) (aN : PySem.W.findIn K (.ref C) "__init__" = some (some (.ref fN))) (iN : PySem.W.isFn K (.ref fN) = true) (lN : K.lookup fN = some ⟨ocN, odN, .func (PySem.W.fnOf "__init__" "Rules.__init__" (defArgs sInit) (defBody sInit) (defScope sInit) .none kVN dcN pmN anN cdN ctN), slN⟩) (cN : PySem.W.codeIn K cdN "Rules.__init__" = true) (kN : PySem.W.keepIn K (.ref fN) = true) (rd : PySem.W.readsIn K C (.type "type") = true) (ga : PySem.W.specialIn K (.ref C) "__getattribute__" = some (some (.builtin "type.__getattribute__"))) (aD : PySem.W.findCls K (.ref C) (.type "type") "read" = some (.get (.builtin "classmethod.__get__") (.ref pD) .none (.ref C))) (rD : PySem.W.recIn K pD "classmethod" = some (.ref fD :: rest)) (iD : PySem.W.fnIn K fD = true) (lD : K.lookup fD = some ⟨ocD, odD, .func (PySem.W.fnOf "read" "Rules.read" (defArgs sRead) (defBody sRead) (defScope sRead) .none kVD dcD pmD anD cdD ctD), slD⟩) (cD : PySem.W.codeIn K cdD "Rules.read" = true) (kD : PySem.W.keepIn K (.ref fD) = true) (i1 : PySem.W.findIn K (.ref C) "__class__" = some (some (.builtin "object.__class__"))) (i2 : PySem.W.specialIn K (.builtin "object.__class__") "__get__" = some (some (.builtin "getset_descriptor.__get__"))) (i3 : PySem.W.takesIn K (.builtin "object.__class__") = some true) (i4 : PySem.W.mroIn K C (.type "object") = some true) (q1W : PySem.W.findIn K (.ref C) "width" = some (some (.ref pW))) (q2W : PySem.W.specialIn K (.ref pW) "__get__" = some (some (.builtin "property.__get__"))) (q3W : PySem.W.takesIn K (.ref pW) = some true) (q4W : PySem.W.recIn K pW "property" = some (.ref fW :: restW)) (lW : K.lookup fW = some ⟨ocW, odW, .func (PySem.W.fnOf "width" "Rules.width" (defArgs sPW) (defBody sPW) (defScope sPW) .none kVW dcW pmW anW cdW ctW), slW⟩) (cW : PySem.W.codeIn K cdW "Rules.width" = true) (kW : PySem.W.keepIn K (.ref fW) = true) (q1R : PySem.W.findIn K (.ref C) "rules" = some (some (.ref pR))) (q2R : PySem.W.specialIn K (.ref pR) "__get__" = some (some (.builtin "property.__get__"))) (q3R : PySem.W.takesIn K (.ref pR) = some true) (q4R : PySem.W.recIn K pR "property" = some (.ref fR :: restR)) (lR : K.lookup fR = some ⟨ocR, odR, .func (PySem.W.fnOf "rules" "Rules.rules" (defArgs sPR) (defBody sPR) (defScope sPR) .none kVR dcR pmR anR cdR ctR), slR⟩) (cR : PySem.W.codeIn K cdR "Rules.rules" = true) (kR : PySem.W.keepIn K (.ref fR) = true) (aX : PySem.W.findIn K (.ref C) "text" = some (some (.ref fX))) (iX : PySem.W.isFn K (.ref fX) = true) (lX : K.lookup fX = some ⟨ocX, odX, .func (PySem.W.fnOf "text" "Rules.text" (defArgs sRTxt) (defBody sRTxt) (defScope sRTxt) .none kVX dcX pmX anX cdX ctX), slX⟩) (cX : PySem.W.codeIn K cdX "Rules.text" = true) (kX : PySem.W.keepIn K (.ref fX) = true) : Nonempty (Kls K mg) :=
  have FN := fun_mk (st := sInit) lN cN kN
  have FD := fun_mk (st := sRead) lD cD kD
  have FW := fun_mk (st := sPW) lW cW kW
  have FR := fun_mk (st := sPR) lR cR kR
  have FX := fun_mk (st := sRTxt) lX cX kX
  ⟨⟨C, ⟨⟨pg, hd, po, sa⟩, nS, nG, PySem.W.mg_of X G aC⟩, fN, _, FN, ⟨mk, aN, iN, kc⟩, fD, _, FD, FD.binds (ps := ["cls", "width", "text"]) (fun _ _ _ _ _ _ us hl => match us, hl with | [_, _, _], _ => rfl), .type "type", pD, ⟨rd, ga⟩, ⟨aD, ⟨rest, rD⟩, iD⟩, ⟨⟨pg, hd, po, sa⟩, i1, i2, i3, i4, kit_self⟩, fW, _, FW, FW.binds (ps := ["self"]) (fun _ _ _ _ _ _ us hl => match us, hl with | [_], _ => rfl), pW, ⟨q1W, q2W, q3W, ⟨restW, q4W⟩⟩, fR, _, FR, FR.binds (ps := ["self"]) (fun _ _ _ _ _ _ us hl => match us, hl with | [_], _ => rfl), pR, ⟨q1R, q2R, q3R, ⟨restR, q4R⟩⟩, fX, _, FX, FX.binds (ps := ["self"]) (fun _ _ _ _ _ _ us hl => match us, hl with | [_], _ => rfl), ⟨aX, iX, kX⟩⟩⟩
structure KlsT (K : PySem.W.Frag) (mg : Str → Option Value) where
  C : Addr
  TC : TxtT K mg C
  fN : Addr
  dN : FuncData
  FN : Fun K "__init__" "Table.__init__" sTInit fN dN
  M : Mk K C fN
  fD : Addr
  dD : FuncData
  FD : Fun K "read" "Table.read" sTRead fD dD
  bD : Binds K dD ["cls", "width", "text"] []
  mc : Value
  pD : Addr
  rD : ClX.CRead K C mc
  cD : ClX.CMet K C mc "read" pD fD
  ic : C8.InsC K C
  fW : Addr
  dW : FuncData
  FW : Fun K "width" "Table.width" sTW fW dW
  bW : Binds K dW ["self"] []
  pW : Addr
  qW : PropOf K C "width" pW fW
  fR : Addr
  dR : FuncData
  FR : Fun K "rows" "Table.rows" sTR fR dR
  bR : Binds K dR ["self"] []
  pR : Addr
  qR : PropOf K C "rows" pR fR
  fX : Addr
  dX : FuncData
  FX : Fun K "text" "Table.text" sTText fX dX
  bX : Binds K dX ["self"] []
  mX : Meth K C "text" fX
theorem mk_clsT {K : PySem.W.Frag} {h : Heap} {mg : Str → Option Value} {C fN fD fW fR fX : Addr} {odN anN : Option Addr} {slN : Array (Option Value)} {ocN kVN dcN pmN cdN ctN : Value} {pD : Addr} {rest : List Value} {odD anD : Option Addr} {slD : Array (Option Value)} {ocD kVD dcD pmD cdD ctD : Value} {pW : Addr} {restW : List Value} {odW anW : Option Addr} {slW : Array (Option Value)} {ocW kVW dcW pmW cdW ctW : Value} {pR : Addr} {restR : List Value} {odR anR : Option Addr} {slR : Array (Option Value)} {ocR kVR dcR pmR cdR ctR : Value} {odX anX : Option Addr} {slX : Array (Option Value)} {ocX kVX dcX pmX cdX ctX : Value} (X : K.In h) (G : h.Ns mainGlobals mg)
    (aC : PySem.W.nsIn K mainGlobals "Table" = some (some (.ref C))) (pg : PySem.W.plainGet K C Str.empty = true) (hd : PySem.W.hasDictIn K C = true) (po : PySem.W.plainOver K C = true) (sa : PySem.W.findIn K (.ref C) "__setattr__" = some (some (.builtin "object.__setattr__"))) (kc : PySem.W.keepIn K (.ref C) = true) (nS : PySem.W.findIn K (.ref C) "span" = some none) (nL : PySem.W.findIn K (.ref C) "lines" = some none) (mk : PySem.W.makesIn K C = true) (aN : PySem.W.findIn K (.ref C) "__init__" = some (some (.ref fN))) (iN : PySem.W.isFn K (.ref fN) = true) (lN : K.lookup fN = some ⟨ocN, odN, .func (PySem.W.fnOf "__init__" "Table.__init__" (defArgs sTInit) (defBody sTInit) (defScope sTInit) .none kVN dcN pmN anN cdN ctN), slN⟩) (cN : PySem.W.codeIn K cdN "Table.__init__" = true) (kN : PySem.W.keepIn K (.ref fN) = true) (rd : PySem.W.readsIn K C (.type "type") = true) (ga : PySem.W.specialIn K (.ref C) "__getattribute__" = some (some (.builtin "type.__getattribute__"))) (aD : PySem.W.findCls K (.ref C) (.type "type") "read" = some (.get (.builtin "classmethod.__get__") (.ref pD) .none (.ref C))) (rD : PySem.W.recIn K pD "classmethod" = some (.ref fD :: rest)) (iD : PySem.W.fnIn K fD = true) (lD : K.lookup fD = some ⟨ocD, odD, .func (PySem.W.fnOf "read" "Table.read" (defArgs sTRead) (defBody sTRead) (defScope sTRead) .none kVD dcD pmD anD cdD ctD), slD⟩) (cD : PySem.W.codeIn K cdD "Table.read" = true) (kD : PySem.W.keepIn K (.ref fD) = true) (i1 : PySem.W.findIn K (.ref C) "__class__" = some (some (.builtin "object.__class__"))) (i2 : PySem.W.specialIn K (.builtin "object.__class__") "__get__" = some (some (.builtin "getset_descriptor.__get__"))) (i3 : PySem.W.takesIn K (.builtin "object.__class__") = some true) (i4 : PySem.W.mroIn K C (.type "object") = some true) (q1W : PySem.W.findIn K (.ref C) "width" = some (some (.ref pW))) (q2W : PySem.W.specialIn K (.ref pW) "__get__" = some (some (.builtin "property.__get__"))) (q3W : PySem.W.takesIn K (.ref pW) = some true) (q4W : PySem.W.recIn K pW "property" = some (.ref fW :: restW)) (lW : K.lookup fW = some ⟨ocW, odW, .func (PySem.W.fnOf "width" "Table.width" (defArgs sTW) (defBody sTW) (defScope sTW) .none kVW dcW pmW anW cdW ctW), slW⟩) (cW : PySem.W.codeIn K cdW "Table.width" = true) (kW : PySem.W.keepIn K (.ref fW) = true) (q1R : PySem.W.findIn K (.ref C) "rows" = some (some (.ref pR))) (q2R : PySem.W.specialIn K (.ref pR) "__get__" = some (some (.builtin "property.__get__"))) (q3R : PySem.W.takesIn K (.ref pR) = some true) (q4R : PySem.W.recIn K pR "property" = some (.ref fR :: restR)) (lR : K.lookup fR = some ⟨ocR, odR, .func (PySem.W.fnOf "rows" "Table.rows" (defArgs sTR) (defBody sTR) (defScope sTR) .none kVR dcR pmR anR cdR ctR), slR⟩) (cR : PySem.W.codeIn K cdR "Table.rows" = true) (kR : PySem.W.keepIn K (.ref fR) = true) (aX : PySem.W.findIn K (.ref C) "text" = some (some (.ref fX))) (iX : PySem.W.isFn K (.ref fX) = true) (lX : K.lookup fX = some ⟨ocX, odX, .func (PySem.W.fnOf "text" "Table.text" (defArgs sTText) (defBody sTText) (defScope sTText) .none kVX dcX pmX anX cdX ctX), slX⟩) (cX : PySem.W.codeIn K cdX "Table.text" = true) (kX : PySem.W.keepIn K (.ref fX) = true) : Nonempty (KlsT K mg) :=
  have FN := fun_mk (st := sTInit) lN cN kN
  have FD := fun_mk (st := sTRead) lD cD kD
  have FW := fun_mk (st := sTW) lW cW kW
  have FR := fun_mk (st := sTR) lR cR kR
  have FX := fun_mk (st := sTText) lX cX kX
  ⟨⟨C, ⟨⟨pg, hd, po, sa⟩, nS, nL, PySem.W.mg_of X G aC⟩, fN, _, FN, ⟨mk, aN, iN, kc⟩, fD, _, FD, FD.binds (ps := ["cls", "width", "text"]) (fun _ _ _ _ _ _ us hl => match us, hl with | [_, _, _], _ => rfl), .type "type", pD, ⟨rd, ga⟩, ⟨aD, ⟨rest, rD⟩, iD⟩, ⟨⟨pg, hd, po, sa⟩, i1, i2, i3, i4, kit_self⟩, fW, _, FW, FW.binds (ps := ["self"]) (fun _ _ _ _ _ _ us hl => match us, hl with | [_], _ => rfl), pW, ⟨q1W, q2W, q3W, ⟨restW, q4W⟩⟩, fR, _, FR, FR.binds (ps := ["self"]) (fun _ _ _ _ _ _ us hl => match us, hl with | [_], _ => rfl), pR, ⟨q1R, q2R, q3R, ⟨restR, q4R⟩⟩, fX, _, FX, FX.binds (ps := ["self"]) (fun _ _ _ _ _ _ us hl => match us, hl with | [_], _ => rfl), ⟨aX, iX, kX⟩⟩⟩
theorem mk_glbT {K : PySem.W.Frag} {h : Heap} {mg : Str → Option Value} {t1 t2 : Tok} (X : K.In h) (G : h.Ns mainGlobals mg) (a : PySem.W.nsIn K mainGlobals "LARGEST_VALUE" = some (some (.int 9999 t1))) (b : PySem.W.nsIn K mainGlobals "MOST_ROWS" = some (some (.int 400 t2))) : GlbT mg := ⟨⟨t1, PySem.W.mg_of X G a⟩, ⟨t2, PySem.W.mg_of X G b⟩⟩
theorem mk_exc_ColumnError {K : PySem.W.Frag} {h : Heap} {mg : Str → Option Value} {CE : Addr} (X : K.In h) (G : h.Ns mainGlobals mg) (a : PySem.W.nsIn K mainGlobals "ColumnError" = some (some (.ref CE))) : ∃ CE, mg "ColumnError" = some (.ref CE) := ⟨CE, PySem.W.mg_of X G a⟩
theorem fun_mkC {K : PySem.W.Frag} {x q : Str} {st : Stmt} {f c : Addr} {oc : Value} {od an : Option Addr} {osl : Array (Option Value)} {kV doc pm ct : Value} (l : K.lookup f = some ⟨oc, od, .func (PySem.W.fnOf x q (defArgs st) (defBody st) (defScope st) .none kV doc pm an (.ref c) ct), osl⟩) (cI : PySem.W.codeIn K (.ref c) q = true) (k : PySem.W.keepIn K (.ref f) = true) : GD.FunC K x q st f (PySem.W.fnOf x q (defArgs st) (defBody st) (defScope st) .none kV doc pm an (.ref c) ct) c := ⟨⟨_, _, _, _, _, _, _, _, rfl, l, cI⟩, k⟩
theorem mk_l_is_full_right {K : PySem.W.Frag} {h : Heap} {mg : Str → Option Value} {f c : Addr} {od an : Option Addr} {sl : Array (Option Value)} {oc kV dc pm ct : Value} (X : K.In h) (G : h.Ns mainGlobals mg) (a : PySem.W.nsIn K mainGlobals "_law_is_full_right" = some (some (.ref f)))
    (l : K.lookup f = some ⟨oc, od, .func (PySem.W.fnOf "_law_is_full_right" "_law_is_full_right" (defArgs sFul) (defBody sFul) (defScope sFul) .none kV dc pm an (.ref c) ct), sl⟩) (cI : PySem.W.codeIn K (.ref c) "_law_is_full_right" = true) (k : PySem.W.keepIn K (.ref f) = true) : ∃ (f : Addr) (fd : FuncData), GD.FunC K "_law_is_full_right" "_law_is_full_right" sFul f fd c ∧ Binds K fd ["_law_many", "_law_given_here", "_law_row_here"] [] ∧ mg "_law_is_full_right" = some (.ref f) :=
  have F := fun_mk (st := sFul) l cI k
  ⟨_, _, fun_mkC l cI k, F.binds (ps := ["_law_many", "_law_given_here", "_law_row_here"]) (fun _ _ _ _ _ _ us hl => match us, hl with | [_, _, _], _ => rfl), PySem.W.mg_of X G a⟩
theorem all_mk {l : PySem.W.OpenLaw} {w : World} {K : PySem.W.Frag} {h : Heap} {mg : Str → Option Value} {fa f : Addr} {c_0 P_0 c_1 P_1 : Addr} {od an : Option Addr} {sl : Array (Option Value)} {oc kV dc pm ct : Value} (X : K.In h) (G : h.Ns mainGlobals mg) (hfa : mg "law" = some (.ref fa))
    (a : PySem.W.nsIn K mainGlobals "law" = some (some (.ref f))) (l1 : K.lookup f = some ⟨oc, od, .func (PySem.W.fnOf "law" "law" (defArgs sLaw) (defBody sLaw) (defScope sLaw) .none kV dc pm an (.ref c_1) ct), sl⟩) (c : PySem.W.codeIn K (.ref c_1) "law" = true) (k : PySem.W.keepIn K (.ref f) = true)
    (gb : Nonempty { z : Unit // ∃ kA, Glb K mg kA }) (kl : Nonempty (Kls K mg)) (kt : Nonempty (KlsT K mg)) (TT : GlbT mg) (lf : LogFam l.prog K mg) (ex_ColumnError : ∃ CE, mg "ColumnError" = some (.ref CE)) (mo_e9 : ∃ C9 : Nat → Addr, Ex9 K mg C9 ∧ ∀ i, i < 9 → ExcK K mg (nm9 i) (C9 i)) (m_is_an_integer : Nonempty (Df K mg "is_an_integer" sIsInt ["thing"])) (m_is_width : Nonempty (Df K mg "is_width" sIsWidth ["thing"])) (m_is_column : Nonempty (Df K mg "is_column" sIsCol ["width", "thing"])) (m_is_rule : Nonempty (Df K mg "is_rule" sIsRule ["width", "thing"])) (m_every_rule : Nonempty (Df K mg "every_rule" sEvery ["width"])) (m_line_of : Nonempty (Df K mg "line_of" sLine ["rule"])) (m_rules_of : Nonempty (Df K mg "rules_of" sRulesOf ["width", "text"])) (m_l_said : Nonempty (Df K mg "_law_said" sSaid ["_law_call_here"])) (m_l_call : Nonempty (Df K mg "_law_call" sCl ["_law_log", "_law_what", "_law_row_here"])) (m_is_row : Nonempty (Df K mg "is_row" sIsRow ["width", "thing"])) (m_holds : Nonempty (Df K mg "holds" sHo ["rows", "rule"])) (m_rules_broken : Nonempty (Df K mg "rules_broken" sBrk ["rules", "rows"])) (m_l_source : Nonempty (Df K mg "_law_source" sSource ["_law_cell_here"])) (m_l_cell : Nonempty (Df K mg "_law_cell" sCell ["_law_script", "_law_index"])) (m_l_draw : Nonempty (Df K mg "_law_draw" sDraw ["_law_source_here", "_law_many"])) (m_l_choose : Nonempty (Df K mg "_law_choose" sChoose ["_law_source_here", "_law_values"])) (m_l_given : Nonempty (Df K mg "_law_given" sGv ["_law_source_here", "_law_many", "_law_size"])) (m_l_words : Nonempty (Df K mg "_law_words" sWd ["_law_given_here"])) (m_l_row : Nonempty (Df K mg "_law_row" sRwl ["_law_source_here", "_law_many", "_law_listed"])) (m_is_numeral : Nonempty (Df K mg "is_numeral" sIsNum ["word"])) (m_rows_of : Nonempty (Df K mg "rows_of" sRowsOf ["width", "text"])) (m_l_odd_row : Nonempty (Df K mg "_law_odd_row" sOdd ["_law_source_here", "_law_many", "_law_listed"])) (m_l_is_row : Nonempty (Df K mg "_law_is_row" sLir ["_law_many", "_law_thing"])) (m_l_is_held : Nonempty (Df K mg "_law_is_held" sIh ["_law_listed", "_law_rule"])) (m_l_fit : Nonempty (Df K mg "_law_fit" sFit ["_law_kind", "_law_given_here", "_law_cap", "_law_listed"])) (m_l_add_due : Nonempty (Df K mg "_law_add_due" sAdu ["_law_kind", "_law_many", "_law_given_here", "_law_cap", "_law_listed", "_law_row_here"])) (m_l_drop_due : Nonempty (Df K mg "_law_drop_due" sDdu ["_law_many", "_law_listed", "_law_row_here"])) (m_l_is_equal : Nonempty (Df K mg "_law_is_equal" sIsEq ["_law_actual", "_law_expected"])) (m_l_seen : Nonempty (Df K mg "_law_seen" sSee ["_law_kind", "_law_log"])) (m_l_text : Nonempty (Df K mg "_law_text" sTTx ["_law_listed"])) (m_l_due : Nonempty (Df K mg "_law_due" sLdu ["_law_kind", "_law_many", "_law_given_here", "_law_cap", "_law_listed", "_law_changes"])) (m_l_table : Nonempty (Df K mg "_law_table" sLta ["_law_many", "_law_listed"]))
    (q_0 : ∃ (f : Addr) (fd : FuncData), GD.FunC K "_law_is_full_right" "_law_is_full_right" sFul f fd c_0 ∧ Binds K fd ["_law_many", "_law_given_here", "_law_row_here"] [] ∧ mg "_law_is_full_right" = some (.ref f)) (t_0 : PySem.W.tabIn K "_law_is_full_right" = some (c_0, P_0)) (o_0 : K.lookup P_0 = none) (t_1 : PySem.W.tabIn K "law" = some (c_1, P_1)) (o_1 : K.lookup P_1 = none) (n_1_0 : P_1 ≠ P_0) :
    ∃ (fd : FuncData) (cs : List (Addr × Addr)) (sp : Sp), (∀ p ∈ cs, ∃ y ∈ (["_law_is_full_right", "law"] : List Str), PySem.W.tabIn K y = some p) ∧ (∀ p ∈ cs, K.lookup p.2 = none) ∧ (∀ (s : Shared) (v : Value), BindsTo s fd ⟨[v], []⟩ [("_law_script", v)]) ∧ (∀ (H : Hp) (a : Addr) (ns : List Int), ns.length ≤ 63 → (∀ p ∈ cs, H p.2 = some (.tbl #[])) → SqL K H a (ns.map V.int) → sp [.ref a] H (fun v _ => v = .bl true) fun _ _ _ => False) ∧
      ∀ base : Heap, K.In base → base.Ns mainGlobals mg → (∀ p ∈ cs, LamX.TabB base mg p.1 p.2) → GD.FnG l.prog w K mg base CX0 19 fa fd ["_law_script"] sp := by
  have e := hfa.symm.trans (PySem.W.mg_of X G a)
  cases e
  obtain ⟨⟨_, kA, T⟩⟩ := gb
  obtain ⟨Y⟩ := kl
  obtain ⟨Z⟩ := kt
  obtain ⟨E_ColumnError, g_ColumnError⟩ := ex_ColumnError
  obtain ⟨C9, x9, ek⟩ := mo_e9
  have e1 := ek 0 (by decide)
  have eN := ek 1 (by decide)
  have e2 := ek 2 (by decide)
  have e3 := ek 3 (by decide)
  have e4 := ek 4 (by decide)
  have e5 := ek 5 (by decide)
  have e6 := ek 6 (by decide)
  have e7 := ek 7 (by decide)
  have e8 := ek 8 (by decide)
  have eYC : Y.C = HK.ga K "Rules" := Value.ref.inj (Option.some.inj (Y.TC.mgC.symm.trans lf.gR))
  have eZC : Z.C = HK.ga K "Table" := Value.ref.inj (Option.some.inj (Z.TC.mgC.symm.trans lf.gT))
  have noR : NoIns K Y.C := by rw [eYC]; exact lf.noR
  have noT : NoIns K Z.C := by rw [eZC]; exact lf.noT
  obtain ⟨x_is_an_integer⟩ := m_is_an_integer
  obtain ⟨x_is_width⟩ := m_is_width
  obtain ⟨x_is_column⟩ := m_is_column
  obtain ⟨x_is_rule⟩ := m_is_rule
  obtain ⟨x_every_rule⟩ := m_every_rule
  obtain ⟨x_line_of⟩ := m_line_of
  obtain ⟨x_rules_of⟩ := m_rules_of
  obtain ⟨x_l_said⟩ := m_l_said
  obtain ⟨x_l_call⟩ := m_l_call
  obtain ⟨x_is_row⟩ := m_is_row
  obtain ⟨x_holds⟩ := m_holds
  obtain ⟨x_rules_broken⟩ := m_rules_broken
  obtain ⟨x_l_source⟩ := m_l_source
  obtain ⟨x_l_cell⟩ := m_l_cell
  obtain ⟨x_l_draw⟩ := m_l_draw
  obtain ⟨x_l_choose⟩ := m_l_choose
  obtain ⟨x_l_given⟩ := m_l_given
  obtain ⟨x_l_words⟩ := m_l_words
  obtain ⟨x_l_row⟩ := m_l_row
  obtain ⟨x_is_numeral⟩ := m_is_numeral
  obtain ⟨x_rows_of⟩ := m_rows_of
  obtain ⟨x_l_odd_row⟩ := m_l_odd_row
  obtain ⟨x_l_is_row⟩ := m_l_is_row
  obtain ⟨x_l_is_held⟩ := m_l_is_held
  obtain ⟨x_l_fit⟩ := m_l_fit
  obtain ⟨x_l_add_due⟩ := m_l_add_due
  obtain ⟨x_l_drop_due⟩ := m_l_drop_due
  obtain ⟨x_l_is_equal⟩ := m_l_is_equal
  obtain ⟨x_l_seen⟩ := m_l_seen
  obtain ⟨x_l_text⟩ := m_l_text
  obtain ⟨x_l_due⟩ := m_l_due
  obtain ⟨x_l_table⟩ := m_l_table
  obtain ⟨lf_0, ld_0, lF_0, lb_0, lg_0⟩ := q_0
  have hu_0 : ∀ p ∈ ([(P_0, qFul), (P_1, qLaw)] : List (Addr × Str)), p.1 = P_0 → p.2 = qFul := by
    intro p hp e; rcases List.mem_cons.mp hp with rfl | hp; exact rfl; rcases List.mem_cons.mp hp with rfl | hp; exact absurd e n_1_0; cases hp
  have hm_0 : (P_0, qFul) ∈ ([(P_0, qFul), (P_1, qLaw)] : List (Addr × Str)) := .head _
  have hu_1 : ∀ p ∈ ([(P_0, qFul), (P_1, qLaw)] : List (Addr × Str)), p.1 = P_1 → p.2 = qLaw := by
    intro p hp e; rcases List.mem_cons.mp hp with rfl | hp; exact absurd e.symm n_1_0; rcases List.mem_cons.mp hp with rfl | hp; exact rfl; cases hp
  have hm_1 : (P_1, qLaw) ∈ ([(P_0, qFul), (P_1, qLaw)] : List (Addr × Str)) := .tail _ (.head _)
  refine ⟨PySem.W.fnOf "law" "law" (defArgs sLaw) (defBody sLaw) (defScope sLaw) .none kV dc pm an (.ref c_1) ct, [(c_0, P_0), (c_1, P_1)], (spLaw K [(P_0, qFul), (P_1, qLaw)]), ?_, ?_, fun s v => .of_eq rfl, ?_, fun base _ _ tbs => ?_⟩
  · intro p hp; rcases List.mem_cons.mp hp with rfl | hp; exact ⟨_, .head _, t_0⟩; rcases List.mem_cons.mp hp with rfl | hp; exact ⟨_, .tail _ (.head _), t_1⟩; cases hp
  · intro p hp; rcases List.mem_cons.mp hp with rfl | hp; exact o_0; rcases List.mem_cons.mp hp with rfl | hp; exact o_1; cases hp
  · intro H a ns hl ht hS
    refine ⟨a, ns, rfl, hS, hl, ?_, fun _ => rfl⟩
    intro p hp; rcases List.mem_cons.mp hp with rfl | hp; exact LamX.TabS.nil (ht (c_0, P_0) (.head _)); rcases List.mem_cons.mp hp with rfl | hp; exact LamX.TabS.nil (ht (c_1, P_1) (.tail _ (.head _))); cases hp
  have tb_0 := tbs (c_0, P_0) (.head _)
  have tb_1 := tbs (c_1, P_1) (.tail _ (.head _))
  have c_is_an_integer : Cal l.prog w K mg base "is_an_integer" ["thing"] spIsInt 1 := Df.cal x_is_an_integer fun k => ok_isint (k := k) x_is_an_integer.F T
  have c_is_width : Cal l.prog w K mg base "is_width" ["thing"] spIsWidth 2 := Df.cal x_is_width fun k => ok_iswidth (k := k) x_is_width.F T c_is_an_integer
  have c_is_column : Cal l.prog w K mg base "is_column" ["width", "thing"] spIsCol 2 := Df.cal x_is_column fun k => ok_iscol (k := k) x_is_column.F T c_is_an_integer
  have c_is_rule : Cal l.prog w K mg base "is_rule" ["width", "thing"] (spIsRule K) 3 := Df.cal x_is_rule fun k => ok_isrule (k := k) x_is_rule.F T c_is_column
  have mkR : MakeR l.prog w K mg base Y.C 4 := ⟨Y.fN, Y.M, from_le fun k => ok_init (k := k) Y.FN T Y.TC c_is_width c_is_rule⟩
  have c_every_rule : Cal l.prog w K mg base "every_rule" ["width"] (spEvery K) 1 := Df.cal x_every_rule fun k => ok_every (k := k) x_every_rule.F T
  have c_line_of : Cal l.prog w K mg base "line_of" ["rule"] (spLine K) 1 := Df.cal x_line_of fun k => ok_line (k := k) x_line_of.F
  have c_rules_of : Cal l.prog w K mg base "rules_of" ["width", "text"] (spRulesOf K) 2 := Df.cal x_rules_of fun k => ok_rulesof (k := k) x_rules_of.F T c_every_rule c_line_of
  have rd : ReadR l.prog w K mg base Y.C 6 := ⟨Y.mc, Y.pD, Y.fD, Y.rD, Y.cD, from_le fun k => raw0 (ok_read (k := k) Y.FD T mkR c_is_width c_rules_of) Y.bD⟩
  have c_is_row : Cal l.prog w K mg base "is_row" ["width", "thing"] (spIsRow K) 2 := Df.cal x_is_row fun k => ok_isrow (k := k) x_is_row.F T TT c_is_an_integer
  have pR : Prp l.prog w K mg base Y.C "rules" "given" := ⟨Y.pR, Y.fR, Y.dR, Y.qR, from_le fun k => ok_pr (k := k) Y.FR Y.TC, Y.bR⟩
  have c_holds : Cal l.prog w K mg base "holds" ["rows", "rule"] (spHoM K) 1 := Df.cal x_holds fun k => ok_hoM (k := k) x_holds.F T
  have c_rules_broken : Cal l.prog w K mg base "rules_broken" ["rules", "rows"] (spBrkM K Y.C) 3 := Df.cal x_rules_broken fun k => ok_brkM (k := k) x_rules_broken.F Y.TC pR c_holds
  have pW : Prp l.prog w K mg base Y.C "width" "span" := ⟨Y.pW, Y.fW, Y.dW, Y.qW, from_le fun k => ok_pw (k := k) Y.FW Y.TC, Y.bW⟩
  have ic : C8.InsC K Y.C := Y.ic
  have pTW : Prp l.prog w K mg base Z.C "width" "span" := ⟨Z.pW, Z.fW, Z.dW, Z.qW, from_le fun k => ok_tw (k := k) Z.FW Z.TC, Z.bW⟩
  have pTR : Prp l.prog w K mg base Z.C "rows" "lines" := ⟨Z.pR, Z.fR, Z.dR, Z.qR, from_le fun k => ok_trows (k := k) Z.FR Z.TC, Z.bR⟩
  have mkT : MakeT l.prog w K mg base Z.C 3 := ⟨Z.fN, Z.M, from_le fun k => ok_tinit (k := k) Z.FN T TT Z.TC c_is_width c_is_row⟩
  have icT : C8.InsC K Z.C := Z.ic
  have cBrk := c_rules_broken
  have cIT : Cal l.prog w K mg base "is_an_integer" ["thing"] (spIsIntT K) 1 := Df.cal x_is_an_integer fun k => ok_isintT (k := k) x_is_an_integer.F T
  have cRow : Cal l.prog w K mg base "is_row" ["width", "thing"] (spIsRowG K (NRO K)) 2 := Df.cal x_is_row fun k => ok_isrowG (k := k) x_is_row.F T TT cIT
  obtain ⟨d_frules0, F_frules0, b_frules0⟩ := lf.frules0
  obtain ⟨d_ftable0, F_ftable0, b_ftable0⟩ := lf.ftable0
  obtain ⟨d_fbroken0, F_fbroken0, b_fbroken0⟩ := lf.fbroken0
  obtain ⟨d_fchanges0, F_fchanges0, b_fchanges0⟩ := lf.fchanges0
  obtain ⟨d_fcl0, F_fcl0, b_fcl0⟩ := lf.fcl0
  obtain ⟨d_fi0, F_fi0, b_fi0⟩ := lf.fi0
  obtain ⟨d_fchk, F_fchk, b_fchk⟩ := lf.fchk
  obtain ⟨d_fchg, F_fchg, b_fchg⟩ := lf.fchg
  obtain ⟨d_fadd, F_fadd, b_fadd⟩ := lf.fadd
  obtain ⟨d_fasg, F_fasg, b_fasg⟩ := lf.fasg
  obtain ⟨d_fln0, F_fln0, b_fln0⟩ := lf.fln0
  obtain ⟨d_frp0, F_frp0, b_frp0⟩ := lf.frp0
  obtain ⟨d_fdrp, F_fdrp, b_fdrp⟩ := lf.fdrp
  have lc0 : ∀ k, 1 ≤ k → FnR l.prog w K mg base (L2.CX l.prog w) k (HK.ma K (HK.ga K "Log") "check") (spCkM K (HK.ga K "Log") Y.C Z.C false (ckA (C9 5))) := from_le fun k => raw0 (ok_lchkM (k := k) F_fchk T TT e5) b_fchk
  have cg0 : MthG l.prog w K mg base (HK.ga K "Log") "change" ["self", "table"] (spChgM K (HK.ga K "Log")) 1 := ⟨_, d_fchg, lf.mChg0, from_le fun k => ok_lchgM (k := k) F_fchg lf.tm0, b_fchg⟩
  have ck0 : MthX l.prog w K mg base (HK.ga K "Log") "check" ["self", "rows"] (spCkM K (HK.ga K "Log") Y.C Z.C false (ckA (C9 5))) 1 := ⟨_, _, lf.mChk0, from_le fun k => ok_lchkM (k := k) F_fchk T TT e5, b_fchk⟩
  have la0 : ∀ k, 6 ≤ k → FnR l.prog w K mg base (L2.CX l.prog w) k (HK.ma K (HK.ga K "Log") "add") (spAddM K (HK.ga K "Log") Y.C Z.C false (ckA (C9 5)) (NRO K) (C9 0)) := from_le fun k => raw0 (ok_laddM (k := k) (l := 1) (ckA_ok (C9 5)) F_fadd lf.tm0 Y.TC Z.TC e1 pW pTR mkT cRow ck0 cg0) b_fadd
  have ad0 : MthX l.prog w K mg base (HK.ga K "Log") "add" ["self", "row"] (spAddM K (HK.ga K "Log") Y.C Z.C false (ckA (C9 5)) (NRO K) (C9 0)) 14 := ⟨_, _, lf.mAdd0, from_le fun k => ok_laddM (k := k + 8) (l := 1) (ckA_ok (C9 5)) F_fadd lf.tm0 Y.TC Z.TC e1 pW pTR mkT cRow ck0 cg0, b_fadd⟩
  have hciT : IsG K Z.C (NTy K Z.C) := isG_ty icT
  have lq0 : ∀ k, 4 ≤ k → FnR l.prog w K mg base (L2.CX l.prog w) k (HK.ma K (HK.ga K "Log") "assign_table") (spAsgM K (HK.ga K "Log") Y.C Z.C false (ckA (C9 5)) (NTy K Z.C) (C9 2) (C9 4)) := from_le fun k => raw0 (ok_lasg (k := k) (l := 1) F_fasg T lf.tm0 Y.TC Z.TC e2 e4 hciT pW pTW pTR ck0 cg0) b_fasg
  have aq0 : MthX l.prog w K mg base (HK.ga K "Log") "assign_table" ["self", "table"] (spAsgM K (HK.ga K "Log") Y.C Z.C false (ckA (C9 5)) (NTy K Z.C) (C9 2) (C9 4)) 12 := ⟨_, _, lf.mAsg0, from_le fun k => ok_lasg (k := k + 8) (l := 1) F_fasg T lf.tm0 Y.TC Z.TC e2 e4 hciT pW pTW pTR ck0 cg0, b_fasg⟩
  have rp0 : ∀ k, 3 ≤ k → FnR l.prog w K mg base CX0 k (HK.ma K (HK.ga K "Log") "__repr__") (spRpP K (HK.ga K "Log") Y.C Z.C (kindN 0 ++ "(")) := by
    rw [show (kindN 0 ++ "(" : Str) = "Log(" by decide +kernel]
    exact from_le fun k => raw0 (ok_lRpM (k := k) F_frp0 T lf.tm0 Z.TC pTR) b_frp0
  obtain ⟨ls0, eS0⟩ : ∃ g : LogS l.prog w K mg base Y.C Z.C 0, g.C = (HK.ga K "Log") := ⟨⟨(HK.ga K "Log"), lf.tm0, ⟨_, _, d_frules0, lf.qrules0, from_le fun k => ok_lRlM (k := k) F_frules0 lf.tm0, b_frules0⟩, ⟨_, _, d_ftable0, lf.qtable0, from_le fun k => ok_lTbM (k := k) F_ftable0 lf.tm0, b_ftable0⟩, ⟨_, _, d_fbroken0, lf.qbroken0, from_le fun k => ok_lBrM (k := k) F_fbroken0 T lf.tm0 Z.TC pTR cBrk, b_fbroken0⟩, ⟨_, _, d_fchanges0, lf.qchanges0, from_le fun k => ok_lCgM (k := k) F_fchanges0 T lf.tm0, b_fchanges0⟩, _, lf.hln0.1, lf.hln0.2, from_le fun k => raw0 (ok_lLnM (k := k) F_fln0 T lf.tm0 Z.TC pTR) b_fln0, _, lf.hrp0.1, lf.hrp0.2, rp0, fun z => absurd z (by decide)⟩, rfl⟩
  have ld0 : ∀ k, 5 ≤ k → FnR l.prog w K mg base (L2.CX l.prog w) k (HK.ma K (HK.ga K "Log") "drop") (spDrpM K (HK.ga K "Log") Y.C Z.C (NRO K) (C9 0) (C9 6)) := from_le fun k => raw0 (ok_ldrp (k := k) F_fdrp T lf.tm0 Y.TC Z.TC e1 e6 pW pTR mkT cRow cg0) b_fdrp
  have dr0 : MthX l.prog w K mg base (HK.ga K "Log") "drop" ["self", "row"] (spDrpM K (HK.ga K "Log") Y.C Z.C (NRO K) (C9 0) (C9 6)) 14 := ⟨_, _, lf.mDrp0, from_le fun k => ok_ldrp (k := k + 9) F_fdrp T lf.tm0 Y.TC Z.TC e1 e6 pW pTR mkT cRow cg0, b_fdrp⟩
  have cl0 : ∀ k, 15 ≤ k → FnR l.prog w K mg base (L2.CX l.prog w) k (HK.ma K (HK.ga K "Log") "__call__") (spAddM K (HK.ga K "Log") Y.C Z.C false (ckA (C9 5)) (NRO K) (C9 0)) := from_le fun k => raw0 (ok_lcll (k := k) (l := 14) F_fcl0 lf.tm0 ad0) b_fcl0
  obtain ⟨Lc, eZ0⟩ : ∃ g : LogF l.prog w K mg base Y.C Z.C C9 0, g.C = (HK.ga K "Log") := by
    have qc0 := lf.co0
    rw [← eS0] at aq0 ad0 dr0 cl0 qc0
    exact ⟨⟨ls0, ⟨aq0.f, aq0.fd, aq0.m, fun k h => aq0.ok k (Nat.le_trans (by decide) h), aq0.b⟩, ad0, _, qc0, cl0, dr0⟩, eS0⟩
  have hci : IsG K Y.C (OC.OddV K) := isG_plain ic noR
  have cIX : Cal l.prog w K mg base "is_an_integer" ["thing"] (spIsIntX K) 1 := Df.cal x_is_an_integer fun k => ok_isintX (k := k) x_is_an_integer.F T
  have noTL : NoTI K (HK.ga K "Log") := ⟨lf.insL, lf.q0tL, lf.q0iL⟩
  have noTR : NoTI K Y.C := ⟨ic, by rw [eYC]; exact lf.q0tR, by rw [eYC]; exact lf.q0iR⟩
  have noTT : NoTI K Z.C := ⟨icT, by rw [eZC]; exact lf.q0tT, by rw [eZC]; exact lf.q0iT⟩
  obtain ⟨d_fi0, F_fi0, b_fi0⟩ := lf.fi0
  have li0 : ∀ k, 5 ≤ k → FnR l.prog w K mg base (L2.CX l.prog w) k (HK.ma K (HK.ga K "Log") "__init__") (spLInitM K (HK.ga K "Log") Y.C Z.C (C9 3) (OC.OddV K)) := from_le fun k => raw0 (ok_linitM (k := k) F_fi0 T lf.tm0 Y.TC Z.TC e3 hci pW mkT) b_fi0
  have m0 : MakeP l.prog w K mg base "Log" (HK.ga K "Log") ["self", "rules"] (spLInitM K (HK.ga K "Log") Y.C Z.C (C9 3) (OC.OddV K)) 8 := ⟨⟨_, d_fi0, lf.mk0, from_le fun k => ok_linitM (k := k + 3) F_fi0 T lf.tm0 Y.TC Z.TC e3 hci pW mkT, lf.g0⟩, b_fi0⟩
  have n0 := m0; rw [← eZ0] at n0
  have cX : CalX l.prog w K mg base "_law_call" ["_law_log", "_law_what", "_law_row_here"] (spCl K Lc.C Y.C Z.C C9) 16 := ⟨x_l_call.f, x_l_call.fd, from_le fun k => ok_cl (k := k) x_l_call.F Lc, x_l_call.F.kp, x_l_call.b, x_l_call.g⟩
  have c__law_source : Cal l.prog w K mg base "_law_source" ["_law_cell_here"] spSource 1 := Df.cal x_l_source fun k => ok_source (k := k) x_l_source.F T.max
  have c__law_cell : Cal l.prog w K mg base "_law_cell" ["_law_script", "_law_index"] (spCell K) 1 := Df.cal x_l_cell fun k => ok_cell (k := k) x_l_cell.F T.len
  have c__law_draw : Cal l.prog w K mg base "_law_draw" ["_law_source_here", "_law_many"] spDraw2 1 := Df.cal x_l_draw fun k => ok_draw2 (k := k) x_l_draw.F
  have c__law_choose : Cal l.prog w K mg base "_law_choose" ["_law_source_here", "_law_values"] (spChoose K) 2 := Df.cal x_l_choose fun k => ok_choose (k := k) x_l_choose.F T c__law_draw
  have c__law_given : Cal l.prog w K mg base "_law_given" ["_law_source_here", "_law_many", "_law_size"] (spGv K) 3 := Df.cal x_l_given fun k => ok_gv (k := k) x_l_given.F T c__law_draw c__law_choose
  have c__law_words : Cal l.prog w K mg base "_law_words" ["_law_given_here"] (spWd K) 1 := Df.cal x_l_words fun k => ok_wd (k := k) x_l_words.F T
  have c__law_row : Cal l.prog w K mg base "_law_row" ["_law_source_here", "_law_many", "_law_listed"] (spRw1 K) 3 := Df.cal x_l_row fun k => ok_rw1 (k := k) x_l_row.F T c__law_draw c__law_choose
  have c_is_numeral : Cal l.prog w K mg base "is_numeral" ["word"] spIsNum 1 := Df.cal x_is_numeral fun k => ok_isnum (k := k) x_is_numeral.F T TT
  have c_rows_of : Cal l.prog w K mg base "rows_of" ["width", "text"] (spRowsOf K) 2 := Df.cal x_rows_of fun k => ok_rowsof (k := k) x_rows_of.F T TT c_is_numeral
  have rdT : ReadT l.prog w K mg base Z.C 5 := ⟨Z.mc, Z.pD, Z.fD, Z.rD, Z.cD, from_le fun k => raw0 (ok_tread (k := k) Z.FD T mkT c_is_width c_rows_of) Z.bD⟩
  have c__law_odd_row : Cal l.prog w K mg base "_law_odd_row" ["_law_source_here", "_law_many", "_law_listed"] (spOdd K) 10 := Df.cal x_l_odd_row fun k => ok_odd (k := k) x_l_odd_row.F T Y.TC Z.TC noTL noTR noTT rd rdT m0 c__law_row c__law_draw c__law_choose
  have c__law_is_row : Cal l.prog w K mg base "_law_is_row" ["_law_many", "_law_thing"] (spLirG K) 1 := Df.cal x_l_is_row fun k => ok_lirG (k := k) x_l_is_row.F T
  have c__law_is_held : Cal l.prog w K mg base "_law_is_held" ["_law_listed", "_law_rule"] (spIh K) 1 := Df.cal x_l_is_held fun k => ok_ih (k := k) x_l_is_held.F T
  have c__law_fit : Cal l.prog w K mg base "_law_fit" ["_law_kind", "_law_given_here", "_law_cap", "_law_listed"] (spFit K) 2 := Df.cal x_l_fit fun k => ok_fit (k := k) x_l_fit.F T c__law_is_held
  have c__law_add_due : Cal l.prog w K mg base "_law_add_due" ["_law_kind", "_law_many", "_law_given_here", "_law_cap", "_law_listed", "_law_row_here"] (spAdu K) 3 := Df.cal x_l_add_due fun k => ok_adu (k := k) x_l_add_due.F c__law_is_row c__law_fit
  have c__law_drop_due : Cal l.prog w K mg base "_law_drop_due" ["_law_many", "_law_listed", "_law_row_here"] (spDduG K) 2 := Df.cal x_l_drop_due fun k => ok_dduG (k := k) x_l_drop_due.F c__law_is_row
  have c__law_is_equal : GD.CalG l.prog w K mg base "_law_is_equal" ["_law_actual", "_law_expected"] (GD.spEqD K) 1 := GD.calG x_l_is_equal fun k => GD.ok_iseqD (k := k) x_l_is_equal.F T
  have txT : MthG l.prog w K mg base Z.C "text" ["self"] (spTText K Z.C) 1 := ⟨Z.fX, Z.dX, Z.mX, from_le fun k => ok_ttext (k := k) Z.FX T Z.TC, Z.bX⟩
  have txR : MthG l.prog w K mg base Y.C "text" ["self"] (spRTxt K Y.C) 2 := ⟨Y.fX, Y.dX, Y.mX, from_le fun k => ok_rtxt (k := k) Y.FX Y.TC c_line_of, Y.bX⟩
  have c__law_seen : Cal l.prog w K mg base "_law_seen" ["_law_kind", "_law_log"] (spSee1 K 0 Lc.C Y.C Z.C) 8 := Df.cal x_l_seen fun k => ok_see1 (k := k) x_l_seen.F T Y.TC Z.TC Lc.toLogS pTW txT txR
  have c__law_text : Cal l.prog w K mg base "_law_text" ["_law_listed"] (spTTx K) 1 := Df.cal x_l_text fun k => ok_ttx (k := k) x_l_text.F T
  have c__law_due : Cal l.prog w K mg base "_law_due" ["_law_kind", "_law_many", "_law_given_here", "_law_cap", "_law_listed", "_law_changes"] (spLdu K) 2 := Df.cal x_l_due fun k => ok_ldu (k := k) x_l_due.F T c__law_is_held c__law_text c__law_words
  have c__law_table : Cal l.prog w K mg base "_law_table" ["_law_many", "_law_listed"] (spLta K Z.C) 6 := Df.cal x_l_table fun k => ok_lta (k := k) x_l_table.F Z.TC rdT c__law_text
  have c__law_is_full_right : GD.CalG l.prog w K mg base "_law_is_full_right" ["_law_many", "_law_given_here", "_law_row_here"] (spFul K [(P_0, qFul), (P_1, qLaw)]) 18 := ⟨lf_0, ld_0, from_le fun k => ok_ful (k := k) lF_0 tb_0 hm_0 hu_0 T Y.TC Z.TC x9 Lc n0 rd x_l_said c__law_words c__law_table, lF_0.kp, lb_0, lg_0⟩
  exact ok_law (k := 0) (fun_mkC (st := sLaw) l1 c k) tb_1 hm_1 hu_1 T Y.TC g_ColumnError x9 Lc n0 rd x_l_said cX c__law_source c__law_cell c__law_draw c__law_choose c__law_given c__law_words c__law_row c__law_odd_row c__law_add_due c__law_drop_due c__law_is_equal c__law_seen c__law_due c__law_is_full_right
end CC
namespace CC
open PySem L2 TL
abbrev LL : PySem.W.OpenLaw := PySem.Challenge.rw_countcycles_k20_rows_are_added_and_dropp
abbrev PP : Program := (PySem.W.OpenLaw.row PySem.Challenge.rw_countcycles_k20_rows_are_added_and_dropp).prog
def xsT : List Str := [("_law_is_full_right" : Str), ("law" : Str)]
theorem z_glb {mg : Str → Option Value} {h : Heap} {K : PySem.W.Frag} (X : K.In h) (G : h.Ns mainGlobals mg) (c : HK.obsX bs fn K = HK.valX fn) : Nonempty { z : Unit // ∃ kA, Glb K mg kA } := by
  obtain ⟨_, h1⟩ := HK.intB_ok (HK.fact c 21 rfl)
  obtain ⟨_, _, _, _, _, h2⟩ := HK.kndB_ok (HK.fact c 23 rfl)
  exact mk_glb X G (HK.eqO_ok (HK.fact c 0 rfl)) (HK.eqO_ok (HK.fact c 1 rfl)) (HK.eqO_ok (HK.fact c 2 rfl)) (HK.eqO_ok (HK.fact c 3 rfl)) (HK.eqO_ok (HK.fact c 4 rfl)) (HK.eqO_ok (HK.fact c 5 rfl)) (HK.eqO_ok (HK.fact c 6 rfl)) (HK.eqO_ok (HK.fact c 7 rfl)) (HK.eqO_ok (HK.fact c 8 rfl)) (HK.eqO_ok (HK.fact c 9 rfl)) (HK.eqO_ok (HK.fact c 10 rfl)) (HK.eqO_ok (HK.fact c 11 rfl)) (HK.eqO_ok (HK.fact c 12 rfl)) (HK.eqO_ok (HK.fact c 13 rfl)) (HK.eqO_ok (HK.fact c 14 rfl)) (HK.eqO_ok (HK.fact c 15 rfl)) (HK.eqO_ok (HK.fact c 16 rfl)) (HK.eqO_ok (HK.fact c 17 rfl)) (HK.eqO_ok (HK.fact c 18 rfl)) (HK.eqO_ok (HK.fact c 19 rfl)) (HK.eqO_ok (HK.fact c 20 rfl)) h1 (HK.eqO_ok (HK.fact c 22 rfl)) h2
theorem z_kls {mg : Str → Option Value} {h : Heap} {K : PySem.W.Frag} (X : K.In h) (G : h.Ns mainGlobals mg) (c : HK.obsX bs fn K = HK.valX fn) : Nonempty (Kls K mg) := by
  have h1d := HK.def_ c 0 rfl
  obtain ⟨_, _, _, _, _, _, _, _, h1, h1c⟩ := HK.DefX.get h1d.1 h1d.2 rfl rfl
  obtain ⟨_, h2⟩ := HK.recB_ok (HK.fact c 38 rfl)
  have h3d := HK.def_ c 1 rfl
  obtain ⟨_, _, _, _, _, _, _, _, h3, h3c⟩ := HK.DefX.get h3d.1 h3d.2 rfl rfl
  obtain ⟨_, h4⟩ := HK.recB_ok (HK.fact c 47 rfl)
  have h5d := HK.def_ c 2 rfl
  obtain ⟨_, _, _, _, _, _, _, _, h5, h5c⟩ := HK.DefX.get h5d.1 h5d.2 rfl rfl
  obtain ⟨_, h6⟩ := HK.recB_ok (HK.fact c 51 rfl)
  have h7d := HK.def_ c 3 rfl
  obtain ⟨_, _, _, _, _, _, _, _, h7, h7c⟩ := HK.DefX.get h7d.1 h7d.2 rfl rfl
  have h8d := HK.def_ c 4 rfl
  obtain ⟨_, _, _, _, _, _, _, _, h8, h8c⟩ := HK.DefX.get h8d.1 h8d.2 rfl rfl
  exact mk_cls X G (HK.eqO_ok (HK.fact c 24 rfl)) (HK.fact c 25 rfl) (HK.fact c 26 rfl) (HK.fact c 27 rfl) (HK.eqO_ok (HK.fact c 28 rfl)) (HK.fact c 29 rfl) (HK.eqO_ok (HK.fact c 30 rfl)) (HK.eqO_ok (HK.fact c 31 rfl)) (HK.fact c 32 rfl) (HK.eqO_ok (HK.fact c 33 rfl)) (HK.fact c 34 rfl) h1 h1c (HK.DefX.keep h1d.2) (HK.fact c 35 rfl) (HK.eqO_ok (HK.fact c 36 rfl)) (HK.clsB_ok (HK.fact c 37 rfl)) h2 (HK.fact c 39 rfl) h3 h3c (HK.DefX.keep h3d.2) (HK.eqO_ok (HK.fact c 40 rfl)) (HK.eqO_ok (HK.fact c 41 rfl)) (HK.eqB_ok (HK.fact c 42 rfl)) (HK.eqB_ok (HK.fact c 43 rfl)) (HK.eqO_ok (HK.fact c 44 rfl)) (HK.eqO_ok (HK.fact c 45 rfl)) (HK.eqB_ok (HK.fact c 46 rfl)) h4 h5 h5c (HK.DefX.keep h5d.2) (HK.eqO_ok (HK.fact c 48 rfl)) (HK.eqO_ok (HK.fact c 49 rfl)) (HK.eqB_ok (HK.fact c 50 rfl)) h6 h7 h7c (HK.DefX.keep h7d.2) (HK.eqO_ok (HK.fact c 52 rfl)) (HK.fact c 53 rfl) h8 h8c (HK.DefX.keep h8d.2)
theorem z_klsT {mg : Str → Option Value} {h : Heap} {K : PySem.W.Frag} (X : K.In h) (G : h.Ns mainGlobals mg) (c : HK.obsX bs fn K = HK.valX fn) : Nonempty (KlsT K mg) := by
  have h1d := HK.def_ c 5 rfl
  obtain ⟨_, _, _, _, _, _, _, _, h1, h1c⟩ := HK.DefX.get h1d.1 h1d.2 rfl rfl
  obtain ⟨_, h2⟩ := HK.recB_ok (HK.fact c 68 rfl)
  have h3d := HK.def_ c 6 rfl
  obtain ⟨_, _, _, _, _, _, _, _, h3, h3c⟩ := HK.DefX.get h3d.1 h3d.2 rfl rfl
  obtain ⟨_, h4⟩ := HK.recB_ok (HK.fact c 75 rfl)
  have h5d := HK.def_ c 7 rfl
  obtain ⟨_, _, _, _, _, _, _, _, h5, h5c⟩ := HK.DefX.get h5d.1 h5d.2 rfl rfl
  obtain ⟨_, h6⟩ := HK.recB_ok (HK.fact c 79 rfl)
  have h7d := HK.def_ c 8 rfl
  obtain ⟨_, _, _, _, _, _, _, _, h7, h7c⟩ := HK.DefX.get h7d.1 h7d.2 rfl rfl
  have h8d := HK.def_ c 9 rfl
  obtain ⟨_, _, _, _, _, _, _, _, h8, h8c⟩ := HK.DefX.get h8d.1 h8d.2 rfl rfl
  exact mk_clsT X G (HK.eqO_ok (HK.fact c 54 rfl)) (HK.fact c 55 rfl) (HK.fact c 56 rfl) (HK.fact c 57 rfl) (HK.eqO_ok (HK.fact c 58 rfl)) (HK.fact c 59 rfl) (HK.eqO_ok (HK.fact c 60 rfl)) (HK.eqO_ok (HK.fact c 61 rfl)) (HK.fact c 62 rfl) (HK.eqO_ok (HK.fact c 63 rfl)) (HK.fact c 64 rfl) h1 h1c (HK.DefX.keep h1d.2) (HK.fact c 65 rfl) (HK.eqO_ok (HK.fact c 66 rfl)) (HK.clsB_ok (HK.fact c 67 rfl)) h2 (HK.fact c 69 rfl) h3 h3c (HK.DefX.keep h3d.2) (HK.eqO_ok (HK.fact c 70 rfl)) (HK.eqO_ok (HK.fact c 41 rfl)) (HK.eqB_ok (HK.fact c 42 rfl)) (HK.eqB_ok (HK.fact c 71 rfl)) (HK.eqO_ok (HK.fact c 72 rfl)) (HK.eqO_ok (HK.fact c 73 rfl)) (HK.eqB_ok (HK.fact c 74 rfl)) h4 h5 h5c (HK.DefX.keep h5d.2) (HK.eqO_ok (HK.fact c 76 rfl)) (HK.eqO_ok (HK.fact c 77 rfl)) (HK.eqB_ok (HK.fact c 78 rfl)) h6 h7 h7c (HK.DefX.keep h7d.2) (HK.eqO_ok (HK.fact c 80 rfl)) (HK.fact c 81 rfl) h8 h8c (HK.DefX.keep h8d.2)
theorem z_glbT {mg : Str → Option Value} {h : Heap} {K : PySem.W.Frag} (X : K.In h) (G : h.Ns mainGlobals mg) (c : HK.obsX bs fn K = HK.valX fn) : GlbT mg := by
  obtain ⟨_, h1⟩ := HK.intB_ok (HK.fact c 82 rfl)
  obtain ⟨_, h2⟩ := HK.intB_ok (HK.fact c 83 rfl)
  exact mk_glbT X G h1 h2
theorem zf_g0 {mg : Str → Option Value} {h : Heap} {K : PySem.W.Frag} (X : K.In h) (G : h.Ns mainGlobals mg) (c : HK.obsX bs fn K = HK.valX fn) : mg "Log" = some (.ref (HK.ga K "Log")) := by
  exact PySem.W.mg_of X G (HK.eqO_ok (HK.fact c 84 rfl))
theorem zf_tm0 {mg : Str → Option Value} {h : Heap} {K : PySem.W.Frag} (X : K.In h) (G : h.Ns mainGlobals mg) (c : HK.obsX bs fn K = HK.valX fn) : TxtM K (HK.ga K "Log") := by
  exact ⟨⟨(HK.fact c 85 rfl), (HK.fact c 86 rfl), (HK.fact c 87 rfl), (HK.eqO_ok (HK.fact c 88 rfl))⟩, (HK.eqO_ok (HK.fact c 89 rfl)), (HK.eqO_ok (HK.fact c 90 rfl)), (HK.eqO_ok (HK.fact c 91 rfl)), (HK.eqO_ok (HK.fact c 92 rfl))⟩
theorem zf_mk0 {mg : Str → Option Value} {h : Heap} {K : PySem.W.Frag} (X : K.In h) (G : h.Ns mainGlobals mg) (c : HK.obsX bs fn K = HK.valX fn) : Mk K (HK.ga K "Log") (HK.ma K (HK.ga K "Log") "__init__") := by
  exact ⟨(HK.fact c 93 rfl), (HK.eqO_ok (HK.fact c 94 rfl)), (HK.fact c 95 rfl), (HK.fact c 96 rfl)⟩
theorem zf_frules0 {mg : Str → Option Value} {h : Heap} {K : PySem.W.Frag} (X : K.In h) (G : h.Ns mainGlobals mg) (c : HK.obsX bs fn K = HK.valX fn) : ∃ fd, Fun K "rules" "Log.rules" slRlM (HK.ra K (HK.ma K (HK.ga K "Log") "rules") "property") fd ∧ Binds K fd ["self"] [] := by
  have h1d := HK.def_ c 10 rfl
  obtain ⟨_, _, _, _, _, _, _, _, h1, h1c⟩ := HK.DefX.get h1d.1 h1d.2 rfl rfl
  exact ⟨_, fun_mk (st := slRlM) h1 h1c (HK.DefX.keep h1d.2), (fun_mk (st := slRlM) h1 h1c (HK.DefX.keep h1d.2)).binds (ps := ["self"]) (fun _ _ _ _ _ _ us hl => match us, hl with | [_], _ => rfl)⟩
theorem zf_qrules0 {mg : Str → Option Value} {h : Heap} {K : PySem.W.Frag} (X : K.In h) (G : h.Ns mainGlobals mg) (c : HK.obsX bs fn K = HK.valX fn) : PropOf K (HK.ga K "Log") "rules" (HK.ma K (HK.ga K "Log") "rules") (HK.ra K (HK.ma K (HK.ga K "Log") "rules") "property") := by
  obtain ⟨_, h1⟩ := HK.recB_ok (HK.fact c 100 rfl)
  exact ⟨(HK.eqO_ok (HK.fact c 97 rfl)), (HK.eqO_ok (HK.fact c 98 rfl)), (HK.eqB_ok (HK.fact c 99 rfl)), ⟨_, h1⟩⟩
theorem zf_ftable0 {mg : Str → Option Value} {h : Heap} {K : PySem.W.Frag} (X : K.In h) (G : h.Ns mainGlobals mg) (c : HK.obsX bs fn K = HK.valX fn) : ∃ fd, Fun K "table" "Log.table" slTbM (HK.ra K (HK.ma K (HK.ga K "Log") "table") "property") fd ∧ Binds K fd ["self"] [] := by
  have h1d := HK.def_ c 11 rfl
  obtain ⟨_, _, _, _, _, _, _, _, h1, h1c⟩ := HK.DefX.get h1d.1 h1d.2 rfl rfl
  exact ⟨_, fun_mk (st := slTbM) h1 h1c (HK.DefX.keep h1d.2), (fun_mk (st := slTbM) h1 h1c (HK.DefX.keep h1d.2)).binds (ps := ["self"]) (fun _ _ _ _ _ _ us hl => match us, hl with | [_], _ => rfl)⟩
theorem zf_qtable0 {mg : Str → Option Value} {h : Heap} {K : PySem.W.Frag} (X : K.In h) (G : h.Ns mainGlobals mg) (c : HK.obsX bs fn K = HK.valX fn) : PropOf K (HK.ga K "Log") "table" (HK.ma K (HK.ga K "Log") "table") (HK.ra K (HK.ma K (HK.ga K "Log") "table") "property") := by
  obtain ⟨_, h1⟩ := HK.recB_ok (HK.fact c 104 rfl)
  exact ⟨(HK.eqO_ok (HK.fact c 101 rfl)), (HK.eqO_ok (HK.fact c 102 rfl)), (HK.eqB_ok (HK.fact c 103 rfl)), ⟨_, h1⟩⟩
theorem zf_fbroken0 {mg : Str → Option Value} {h : Heap} {K : PySem.W.Frag} (X : K.In h) (G : h.Ns mainGlobals mg) (c : HK.obsX bs fn K = HK.valX fn) : ∃ fd, Fun K "broken" "Log.broken" slBrM (HK.ra K (HK.ma K (HK.ga K "Log") "broken") "property") fd ∧ Binds K fd ["self"] [] := by
  have h1d := HK.def_ c 12 rfl
  obtain ⟨_, _, _, _, _, _, _, _, h1, h1c⟩ := HK.DefX.get h1d.1 h1d.2 rfl rfl
  exact ⟨_, fun_mk (st := slBrM) h1 h1c (HK.DefX.keep h1d.2), (fun_mk (st := slBrM) h1 h1c (HK.DefX.keep h1d.2)).binds (ps := ["self"]) (fun _ _ _ _ _ _ us hl => match us, hl with | [_], _ => rfl)⟩
theorem zf_qbroken0 {mg : Str → Option Value} {h : Heap} {K : PySem.W.Frag} (X : K.In h) (G : h.Ns mainGlobals mg) (c : HK.obsX bs fn K = HK.valX fn) : PropOf K (HK.ga K "Log") "broken" (HK.ma K (HK.ga K "Log") "broken") (HK.ra K (HK.ma K (HK.ga K "Log") "broken") "property") := by
  obtain ⟨_, h1⟩ := HK.recB_ok (HK.fact c 108 rfl)
  exact ⟨(HK.eqO_ok (HK.fact c 105 rfl)), (HK.eqO_ok (HK.fact c 106 rfl)), (HK.eqB_ok (HK.fact c 107 rfl)), ⟨_, h1⟩⟩
theorem zf_fchanges0 {mg : Str → Option Value} {h : Heap} {K : PySem.W.Frag} (X : K.In h) (G : h.Ns mainGlobals mg) (c : HK.obsX bs fn K = HK.valX fn) : ∃ fd, Fun K "changes" "Log.changes" slCgM (HK.ra K (HK.ma K (HK.ga K "Log") "changes") "property") fd ∧ Binds K fd ["self"] [] := by
  have h1d := HK.def_ c 13 rfl
  obtain ⟨_, _, _, _, _, _, _, _, h1, h1c⟩ := HK.DefX.get h1d.1 h1d.2 rfl rfl
  exact ⟨_, fun_mk (st := slCgM) h1 h1c (HK.DefX.keep h1d.2), (fun_mk (st := slCgM) h1 h1c (HK.DefX.keep h1d.2)).binds (ps := ["self"]) (fun _ _ _ _ _ _ us hl => match us, hl with | [_], _ => rfl)⟩
theorem zf_qchanges0 {mg : Str → Option Value} {h : Heap} {K : PySem.W.Frag} (X : K.In h) (G : h.Ns mainGlobals mg) (c : HK.obsX bs fn K = HK.valX fn) : PropOf K (HK.ga K "Log") "changes" (HK.ma K (HK.ga K "Log") "changes") (HK.ra K (HK.ma K (HK.ga K "Log") "changes") "property") := by
  obtain ⟨_, h1⟩ := HK.recB_ok (HK.fact c 112 rfl)
  exact ⟨(HK.eqO_ok (HK.fact c 109 rfl)), (HK.eqO_ok (HK.fact c 110 rfl)), (HK.eqB_ok (HK.fact c 111 rfl)), ⟨_, h1⟩⟩
theorem zf_fcl0 {mg : Str → Option Value} {h : Heap} {K : PySem.W.Frag} (X : K.In h) (G : h.Ns mainGlobals mg) (c : HK.obsX bs fn K = HK.valX fn) : ∃ fd, Fun K "__call__" "Log.__call__" slCll (HK.ma K (HK.ga K "Log") "__call__") fd ∧ Binds K fd ["self", "row"] [] := by
  have h1d := HK.def_ c 14 rfl
  obtain ⟨_, _, _, _, _, _, _, _, h1, h1c⟩ := HK.DefX.get h1d.1 h1d.2 rfl rfl
  exact ⟨_, fun_mk (st := slCll) h1 h1c (HK.DefX.keep h1d.2), (fun_mk (st := slCll) h1 h1c (HK.DefX.keep h1d.2)).binds (ps := ["self", "row"]) (fun _ _ _ _ _ _ us hl => match us, hl with | [_, _], _ => rfl)⟩
theorem zf_co0 {mg : Str → Option Value} {h : Heap} {K : PySem.W.Frag} (X : K.In h) (G : h.Ns mainGlobals mg) (c : HK.obsX bs fn K = HK.valX fn) : StX.CallO K (HK.ga K "Log") (HK.ma K (HK.ga K "Log") "__call__") := by
  exact ⟨(HK.eqO_ok (HK.fact c 113 rfl)), (HK.fact c 114 rfl), (HK.fact c 115 rfl)⟩
theorem zf_mAdd0 {mg : Str → Option Value} {h : Heap} {K : PySem.W.Frag} (X : K.In h) (G : h.Ns mainGlobals mg) (c : HK.obsX bs fn K = HK.valX fn) : Meth K (HK.ga K "Log") "add" (HK.ma K (HK.ga K "Log") "add") := by
  exact ⟨(HK.eqO_ok (HK.fact c 116 rfl)), (HK.fact c 117 rfl), (HK.fact c 118 rfl)⟩
theorem zf_mChg0 {mg : Str → Option Value} {h : Heap} {K : PySem.W.Frag} (X : K.In h) (G : h.Ns mainGlobals mg) (c : HK.obsX bs fn K = HK.valX fn) : Meth K (HK.ga K "Log") "change" (HK.ma K (HK.ga K "Log") "change") := by
  exact ⟨(HK.eqO_ok (HK.fact c 119 rfl)), (HK.fact c 120 rfl), (HK.fact c 121 rfl)⟩
theorem zf_mChk0 {mg : Str → Option Value} {h : Heap} {K : PySem.W.Frag} (X : K.In h) (G : h.Ns mainGlobals mg) (c : HK.obsX bs fn K = HK.valX fn) : Meth K (HK.ga K "Log") "check" (HK.ma K (HK.ga K "Log") "check") := by
  exact ⟨(HK.eqO_ok (HK.fact c 122 rfl)), (HK.fact c 123 rfl), (HK.fact c 124 rfl)⟩
theorem zf_hsuper {mg : Str → Option Value} {h : Heap} {K : PySem.W.Frag} (X : K.In h) (G : h.Ns mainGlobals mg) (c : HK.obsX bs fn K = HK.valX fn) : mg "super" = none := by
  exact PySem.W.mg_none_of X G (HK.eqO_ok (HK.fact c 125 rfl))
theorem zf_gR {mg : Str → Option Value} {h : Heap} {K : PySem.W.Frag} (X : K.In h) (G : h.Ns mainGlobals mg) (c : HK.obsX bs fn K = HK.valX fn) : mg "Rules" = some (.ref (HK.ga K "Rules")) := by
  exact PySem.W.mg_of X G (HK.eqO_ok (HK.fact c 24 rfl))
theorem zf_noR {mg : Str → Option Value} {h : Heap} {K : PySem.W.Frag} (X : K.In h) (G : h.Ns mainGlobals mg) (c : HK.obsX bs fn K = HK.valX fn) : NoIns K (HK.ga K "Rules") := by
  exact no_ins (HK.fact c 126 rfl) (HK.eqV_ok (HK.fact c 127 rfl))
theorem zf_fi0 {mg : Str → Option Value} {h : Heap} {K : PySem.W.Frag} (X : K.In h) (G : h.Ns mainGlobals mg) (c : HK.obsX bs fn K = HK.valX fn) : ∃ fd, Fun K "__init__" "Log.__init__" sLInit (HK.ma K (HK.ga K "Log") "__init__") fd ∧ Binds K fd ["self", "rules"] [] := by
  have h1d := HK.def_ c 15 rfl
  obtain ⟨_, _, _, _, _, _, _, _, h1, h1c⟩ := HK.DefX.get h1d.1 h1d.2 rfl rfl
  exact ⟨_, fun_mk (st := sLInit) h1 h1c (HK.DefX.keep h1d.2), (fun_mk (st := sLInit) h1 h1c (HK.DefX.keep h1d.2)).binds (ps := ["self", "rules"]) (fun _ _ _ _ _ _ us hl => match us, hl with | [_, _], _ => rfl)⟩
theorem zf_cr0 {mg : Str → Option Value} {h : Heap} {K : PySem.W.Frag} (X : K.In h) (G : h.Ns mainGlobals mg) (c : HK.obsX bs fn K = HK.valX fn) : ClX.CRead K (HK.ga K "Log") (.type "type") := by
  exact ⟨(HK.fact c 128 rfl), (HK.eqO_ok (HK.fact c 129 rfl))⟩
theorem zf_cf0 {mg : Str → Option Value} {h : Heap} {K : PySem.W.Frag} (X : K.In h) (G : h.Ns mainGlobals mg) (c : HK.obsX bs fn K = HK.valX fn) : CFU.CFun K (HK.ga K "Log") (.type "type") "__init__" (HK.ma K (HK.ga K "Log") "__init__") := by
  exact ⟨(HK.clvB_ok (HK.fact c 130 rfl)), (HK.eqV_ok (HK.fact c 131 rfl)), (HK.fact c 132 rfl)⟩
theorem zf_fchk {mg : Str → Option Value} {h : Heap} {K : PySem.W.Frag} (X : K.In h) (G : h.Ns mainGlobals mg) (c : HK.obsX bs fn K = HK.valX fn) : ∃ fd, Fun K "check" "Log.check" sLChk (HK.ma K (HK.ga K "Log") "check") fd ∧ Binds K fd ["self", "rows"] [] := by
  have h1d := HK.def_ c 16 rfl
  obtain ⟨_, _, _, _, _, _, _, _, h1, h1c⟩ := HK.DefX.get h1d.1 h1d.2 rfl rfl
  exact ⟨_, fun_mk (st := sLChk) h1 h1c (HK.DefX.keep h1d.2), (fun_mk (st := sLChk) h1 h1c (HK.DefX.keep h1d.2)).binds (ps := ["self", "rows"]) (fun _ _ _ _ _ _ us hl => match us, hl with | [_, _], _ => rfl)⟩
theorem zf_fchg {mg : Str → Option Value} {h : Heap} {K : PySem.W.Frag} (X : K.In h) (G : h.Ns mainGlobals mg) (c : HK.obsX bs fn K = HK.valX fn) : ∃ fd, Fun K "change" "Log.change" sLChg (HK.ma K (HK.ga K "Log") "change") fd ∧ Binds K fd ["self", "table"] [] := by
  have h1d := HK.def_ c 17 rfl
  obtain ⟨_, _, _, _, _, _, _, _, h1, h1c⟩ := HK.DefX.get h1d.1 h1d.2 rfl rfl
  exact ⟨_, fun_mk (st := sLChg) h1 h1c (HK.DefX.keep h1d.2), (fun_mk (st := sLChg) h1 h1c (HK.DefX.keep h1d.2)).binds (ps := ["self", "table"]) (fun _ _ _ _ _ _ us hl => match us, hl with | [_, _], _ => rfl)⟩
theorem zf_fadd {mg : Str → Option Value} {h : Heap} {K : PySem.W.Frag} (X : K.In h) (G : h.Ns mainGlobals mg) (c : HK.obsX bs fn K = HK.valX fn) : ∃ fd, Fun K "add" "Log.add" sLAdd (HK.ma K (HK.ga K "Log") "add") fd ∧ Binds K fd ["self", "row"] [] := by
  have h1d := HK.def_ c 18 rfl
  obtain ⟨_, _, _, _, _, _, _, _, h1, h1c⟩ := HK.DefX.get h1d.1 h1d.2 rfl rfl
  exact ⟨_, fun_mk (st := sLAdd) h1 h1c (HK.DefX.keep h1d.2), (fun_mk (st := sLAdd) h1 h1c (HK.DefX.keep h1d.2)).binds (ps := ["self", "row"]) (fun _ _ _ _ _ _ us hl => match us, hl with | [_, _], _ => rfl)⟩
theorem zf_fasg {mg : Str → Option Value} {h : Heap} {K : PySem.W.Frag} (X : K.In h) (G : h.Ns mainGlobals mg) (c : HK.obsX bs fn K = HK.valX fn) : ∃ fd, Fun K "assign_table" "Log.assign_table" slAsg (HK.ma K (HK.ga K "Log") "assign_table") fd ∧ Binds K fd ["self", "table"] [] := by
  have h1d := HK.def_ c 19 rfl
  obtain ⟨_, _, _, _, _, _, _, _, h1, h1c⟩ := HK.DefX.get h1d.1 h1d.2 rfl rfl
  exact ⟨_, fun_mk (st := slAsg) h1 h1c (HK.DefX.keep h1d.2), (fun_mk (st := slAsg) h1 h1c (HK.DefX.keep h1d.2)).binds (ps := ["self", "table"]) (fun _ _ _ _ _ _ us hl => match us, hl with | [_, _], _ => rfl)⟩
theorem zf_mAsg0 {mg : Str → Option Value} {h : Heap} {K : PySem.W.Frag} (X : K.In h) (G : h.Ns mainGlobals mg) (c : HK.obsX bs fn K = HK.valX fn) : Meth K (HK.ga K "Log") "assign_table" (HK.ma K (HK.ga K "Log") "assign_table") := by
  exact ⟨(HK.eqO_ok (HK.fact c 133 rfl)), (HK.fact c 134 rfl), (HK.fact c 135 rfl)⟩
theorem zf_fln0 {mg : Str → Option Value} {h : Heap} {K : PySem.W.Frag} (X : K.In h) (G : h.Ns mainGlobals mg) (c : HK.obsX bs fn K = HK.valX fn) : ∃ fd, Fun K "__len__" "Log.__len__" slLnM (HK.ma K (HK.ga K "Log") "__len__") fd ∧ Binds K fd ["self"] [] := by
  have h1d := HK.def_ c 20 rfl
  obtain ⟨_, _, _, _, _, _, _, _, h1, h1c⟩ := HK.DefX.get h1d.1 h1d.2 rfl rfl
  exact ⟨_, fun_mk (st := slLnM) h1 h1c (HK.DefX.keep h1d.2), (fun_mk (st := slLnM) h1 h1c (HK.DefX.keep h1d.2)).binds (ps := ["self"]) (fun _ _ _ _ _ _ us hl => match us, hl with | [_], _ => rfl)⟩
theorem zf_hln0 {mg : Str → Option Value} {h : Heap} {K : PySem.W.Frag} (X : K.In h) (G : h.Ns mainGlobals mg) (c : HK.obsX bs fn K = HK.valX fn) : PySem.W.findIn K (.ref (HK.ga K "Log")) "__len__" = some (some (.ref (HK.ma K (HK.ga K "Log") "__len__"))) ∧ PySem.W.isFn K (.ref (HK.ma K (HK.ga K "Log") "__len__")) = true := by
  exact ⟨(HK.eqO_ok (HK.fact c 136 rfl)), (HK.fact c 137 rfl)⟩
theorem zf_frp0 {mg : Str → Option Value} {h : Heap} {K : PySem.W.Frag} (X : K.In h) (G : h.Ns mainGlobals mg) (c : HK.obsX bs fn K = HK.valX fn) : ∃ fd, Fun K "__repr__" "Log.__repr__" slRpM (HK.ma K (HK.ga K "Log") "__repr__") fd ∧ Binds K fd ["self"] [] := by
  have h1d := HK.def_ c 21 rfl
  obtain ⟨_, _, _, _, _, _, _, _, h1, h1c⟩ := HK.DefX.get h1d.1 h1d.2 rfl rfl
  exact ⟨_, fun_mk (st := slRpM) h1 h1c (HK.DefX.keep h1d.2), (fun_mk (st := slRpM) h1 h1c (HK.DefX.keep h1d.2)).binds (ps := ["self"]) (fun _ _ _ _ _ _ us hl => match us, hl with | [_], _ => rfl)⟩
theorem zf_hrp0 {mg : Str → Option Value} {h : Heap} {K : PySem.W.Frag} (X : K.In h) (G : h.Ns mainGlobals mg) (c : HK.obsX bs fn K = HK.valX fn) : PySem.W.findIn K (.ref (HK.ga K "Log")) "__repr__" = some (some (.ref (HK.ma K (HK.ga K "Log") "__repr__"))) ∧ PySem.W.isFn K (.ref (HK.ma K (HK.ga K "Log") "__repr__")) = true := by
  exact ⟨(HK.eqO_ok (HK.fact c 138 rfl)), (HK.fact c 139 rfl)⟩
theorem zf_gT {mg : Str → Option Value} {h : Heap} {K : PySem.W.Frag} (X : K.In h) (G : h.Ns mainGlobals mg) (c : HK.obsX bs fn K = HK.valX fn) : mg "Table" = some (.ref (HK.ga K "Table")) := by
  exact PySem.W.mg_of X G (HK.eqO_ok (HK.fact c 54 rfl))
theorem zf_noT {mg : Str → Option Value} {h : Heap} {K : PySem.W.Frag} (X : K.In h) (G : h.Ns mainGlobals mg) (c : HK.obsX bs fn K = HK.valX fn) : NoIns K (HK.ga K "Table") := by
  exact no_ins (HK.fact c 140 rfl) (HK.eqV_ok (HK.fact c 141 rfl))
theorem zf_kRT {mg : Str → Option Value} {h : Heap} {K : PySem.W.Frag} (X : K.In h) (G : h.Ns mainGlobals mg) (c : HK.obsX bs fn K = HK.valX fn) : PySem.W.kitOne K (.ref (HK.ga K "Rules")) (.ref (HK.ga K "Table")) = some false := by
  exact (HK.eqB_ok (HK.fact c 142 rfl))
theorem zf_fdrp {mg : Str → Option Value} {h : Heap} {K : PySem.W.Frag} (X : K.In h) (G : h.Ns mainGlobals mg) (c : HK.obsX bs fn K = HK.valX fn) : ∃ fd, Fun K "drop" "Log.drop" slDrp (HK.ma K (HK.ga K "Log") "drop") fd ∧ Binds K fd ["self", "row"] [] := by
  have h1d := HK.def_ c 22 rfl
  obtain ⟨_, _, _, _, _, _, _, _, h1, h1c⟩ := HK.DefX.get h1d.1 h1d.2 rfl rfl
  exact ⟨_, fun_mk (st := slDrp) h1 h1c (HK.DefX.keep h1d.2), (fun_mk (st := slDrp) h1 h1c (HK.DefX.keep h1d.2)).binds (ps := ["self", "row"]) (fun _ _ _ _ _ _ us hl => match us, hl with | [_, _], _ => rfl)⟩
theorem zf_mDrp0 {mg : Str → Option Value} {h : Heap} {K : PySem.W.Frag} (X : K.In h) (G : h.Ns mainGlobals mg) (c : HK.obsX bs fn K = HK.valX fn) : Meth K (HK.ga K "Log") "drop" (HK.ma K (HK.ga K "Log") "drop") := by
  exact ⟨(HK.eqO_ok (HK.fact c 143 rfl)), (HK.fact c 144 rfl), (HK.fact c 145 rfl)⟩
theorem zf_insL {mg : Str → Option Value} {h : Heap} {K : PySem.W.Frag} (X : K.In h) (G : h.Ns mainGlobals mg) (c : HK.obsX bs fn K = HK.valX fn) : C8.InsC K (HK.ga K "Log") := by
  exact ⟨⟨(HK.fact c 85 rfl), (HK.fact c 86 rfl), (HK.fact c 87 rfl), (HK.eqO_ok (HK.fact c 88 rfl))⟩, (HK.eqO_ok (HK.fact c 146 rfl)), (HK.eqO_ok (HK.fact c 41 rfl)), (HK.eqB_ok (HK.fact c 42 rfl)), (HK.eqB_ok (HK.fact c 147 rfl)), kit_self⟩
theorem zf_q0tL {mg : Str → Option Value} {h : Heap} {K : PySem.W.Frag} (X : K.In h) (G : h.Ns mainGlobals mg) (c : HK.obsX bs fn K = HK.valX fn) : PySem.W.kitOne K (.ref (HK.ga K "Log")) (.type "tuple") = some false := by
  exact (HK.eqB_ok (HK.fact c 148 rfl))
theorem zf_q0iL {mg : Str → Option Value} {h : Heap} {K : PySem.W.Frag} (X : K.In h) (G : h.Ns mainGlobals mg) (c : HK.obsX bs fn K = HK.valX fn) : PySem.W.kitOne K (.ref (HK.ga K "Log")) (.type "int") = some false := by
  exact (HK.eqB_ok (HK.fact c 149 rfl))
theorem zf_q0tT {mg : Str → Option Value} {h : Heap} {K : PySem.W.Frag} (X : K.In h) (G : h.Ns mainGlobals mg) (c : HK.obsX bs fn K = HK.valX fn) : PySem.W.kitOne K (.ref (HK.ga K "Table")) (.type "tuple") = some false := by
  exact (HK.eqB_ok (HK.fact c 150 rfl))
theorem zf_q0iT {mg : Str → Option Value} {h : Heap} {K : PySem.W.Frag} (X : K.In h) (G : h.Ns mainGlobals mg) (c : HK.obsX bs fn K = HK.valX fn) : PySem.W.kitOne K (.ref (HK.ga K "Table")) (.type "int") = some false := by
  exact (HK.eqB_ok (HK.fact c 151 rfl))
theorem zf_q0tR {mg : Str → Option Value} {h : Heap} {K : PySem.W.Frag} (X : K.In h) (G : h.Ns mainGlobals mg) (c : HK.obsX bs fn K = HK.valX fn) : PySem.W.kitOne K (.ref (HK.ga K "Rules")) (.type "tuple") = some false := by
  exact (HK.eqB_ok (HK.fact c 152 rfl))
theorem zf_q0iR {mg : Str → Option Value} {h : Heap} {K : PySem.W.Frag} (X : K.In h) (G : h.Ns mainGlobals mg) (c : HK.obsX bs fn K = HK.valX fn) : PySem.W.kitOne K (.ref (HK.ga K "Rules")) (.type "int") = some false := by
  exact (HK.eqB_ok (HK.fact c 153 rfl))
theorem z_fam {mg : Str → Option Value} {h : Heap} {K : PySem.W.Frag} (X : K.In h) (G : h.Ns mainGlobals mg) (c : HK.obsX bs fn K = HK.valX fn) : LogFam PP K mg :=
  ⟨zf_g0 X G c, zf_tm0 X G c, zf_mk0 X G c, zf_frules0 X G c, zf_qrules0 X G c, zf_ftable0 X G c, zf_qtable0 X G c, zf_fbroken0 X G c, zf_qbroken0 X G c, zf_fchanges0 X G c, zf_qchanges0 X G c, zf_fcl0 X G c, zf_co0 X G c, zf_mAdd0 X G c, zf_mChg0 X G c, zf_mChk0 X G c, zf_hsuper X G c, zf_gR X G c, zf_noR X G c, zf_fi0 X G c, zf_cr0 X G c, zf_cf0 X G c, zf_fchk X G c, zf_fchg X G c, zf_fadd X G c, zf_fasg X G c, zf_mAsg0 X G c, zf_fln0 X G c, zf_hln0 X G c, zf_frp0 X G c, zf_hrp0 X G c, zf_gT X G c, zf_noT X G c, zf_kRT X G c, zf_fdrp X G c, zf_mDrp0 X G c, zf_insL X G c, zf_q0tL X G c, zf_q0iL X G c, zf_q0tT X G c, zf_q0iT X G c, zf_q0tR X G c, zf_q0iR X G c⟩
theorem z_ex_ColumnError {mg : Str → Option Value} {h : Heap} {K : PySem.W.Frag} (X : K.In h) (G : h.Ns mainGlobals mg) (c : HK.obsX bs fn K = HK.valX fn) : ∃ CE, mg "ColumnError" = some (.ref CE) := by
  exact mk_exc_ColumnError X G (HK.eqO_ok (HK.fact c 154 rfl))
theorem z_mo_e9 {mg : Str → Option Value} {h : Heap} {K : PySem.W.Frag} (X : K.In h) (G : h.Ns mainGlobals mg) (c : HK.obsX bs fn K = HK.valX fn) : ∃ C9 : Nat → Addr, Ex9 K mg C9 ∧ ∀ i, i < 9 → ExcK K mg (nm9 i) (C9 i) := by
  exact mk_nine X G (HK.eqO_ok (HK.fact c 155 rfl)) (HK.fact c 156 rfl) (HK.fact c 157 rfl) (HK.eqB_ok (HK.fact c 158 rfl)) (HK.eqV_ok (HK.fact c 159 rfl)) (HK.fact c 160 rfl) (HK.eqB_ok (HK.fact c 161 rfl)) (HK.eqO_ok (HK.fact c 162 rfl)) (HK.fact c 163 rfl) (HK.fact c 164 rfl) (HK.eqB_ok (HK.fact c 165 rfl)) (HK.eqV_ok (HK.fact c 166 rfl)) (HK.fact c 167 rfl) (HK.eqB_ok (HK.fact c 168 rfl)) (HK.eqO_ok (HK.fact c 169 rfl)) (HK.fact c 170 rfl) (HK.fact c 171 rfl) (HK.eqB_ok (HK.fact c 172 rfl)) (HK.eqV_ok (HK.fact c 173 rfl)) (HK.fact c 174 rfl) (HK.eqB_ok (HK.fact c 175 rfl)) (HK.eqO_ok (HK.fact c 176 rfl)) (HK.fact c 177 rfl) (HK.fact c 178 rfl) (HK.eqB_ok (HK.fact c 179 rfl)) (HK.eqV_ok (HK.fact c 180 rfl)) (HK.fact c 181 rfl) (HK.eqB_ok (HK.fact c 182 rfl)) (HK.eqO_ok (HK.fact c 183 rfl)) (HK.fact c 184 rfl) (HK.fact c 185 rfl) (HK.eqB_ok (HK.fact c 186 rfl)) (HK.eqV_ok (HK.fact c 187 rfl)) (HK.fact c 188 rfl) (HK.eqB_ok (HK.fact c 189 rfl)) (HK.eqO_ok (HK.fact c 190 rfl)) (HK.fact c 191 rfl) (HK.fact c 192 rfl) (HK.eqB_ok (HK.fact c 193 rfl)) (HK.eqV_ok (HK.fact c 194 rfl)) (HK.fact c 195 rfl) (HK.eqB_ok (HK.fact c 196 rfl)) (HK.eqO_ok (HK.fact c 197 rfl)) (HK.fact c 198 rfl) (HK.fact c 199 rfl) (HK.eqB_ok (HK.fact c 200 rfl)) (HK.eqV_ok (HK.fact c 201 rfl)) (HK.fact c 202 rfl) (HK.eqB_ok (HK.fact c 203 rfl)) (HK.eqO_ok (HK.fact c 204 rfl)) (HK.fact c 205 rfl) (HK.fact c 206 rfl) (HK.eqB_ok (HK.fact c 207 rfl)) (HK.eqV_ok (HK.fact c 208 rfl)) (HK.fact c 209 rfl) (HK.eqB_ok (HK.fact c 210 rfl)) (HK.eqO_ok (HK.fact c 211 rfl)) (HK.fact c 212 rfl) (HK.fact c 213 rfl) (HK.eqB_ok (HK.fact c 214 rfl)) (HK.eqV_ok (HK.fact c 215 rfl)) (HK.fact c 216 rfl) (HK.eqB_ok (HK.fact c 217 rfl)) (HK.eqB_ok (HK.fact c 218 rfl)) (HK.eqB_ok (HK.fact c 219 rfl)) (HK.eqB_ok (HK.fact c 220 rfl)) (HK.eqB_ok (HK.fact c 221 rfl)) (HK.eqB_ok (HK.fact c 222 rfl)) (HK.eqB_ok (HK.fact c 223 rfl)) (HK.eqB_ok (HK.fact c 224 rfl)) (HK.eqB_ok (HK.fact c 225 rfl)) (HK.eqB_ok (HK.fact c 226 rfl)) (HK.eqB_ok (HK.fact c 227 rfl)) (HK.eqB_ok (HK.fact c 228 rfl)) (HK.eqB_ok (HK.fact c 229 rfl)) (HK.eqB_ok (HK.fact c 230 rfl)) (HK.eqB_ok (HK.fact c 231 rfl)) (HK.eqB_ok (HK.fact c 232 rfl)) (HK.eqB_ok (HK.fact c 233 rfl)) (HK.eqB_ok (HK.fact c 234 rfl)) (HK.eqB_ok (HK.fact c 235 rfl)) (HK.eqB_ok (HK.fact c 236 rfl)) (HK.eqB_ok (HK.fact c 237 rfl)) (HK.eqB_ok (HK.fact c 238 rfl)) (HK.eqB_ok (HK.fact c 239 rfl)) (HK.eqB_ok (HK.fact c 240 rfl)) (HK.eqB_ok (HK.fact c 241 rfl)) (HK.eqB_ok (HK.fact c 242 rfl)) (HK.eqB_ok (HK.fact c 243 rfl)) (HK.eqB_ok (HK.fact c 244 rfl)) (HK.eqB_ok (HK.fact c 245 rfl)) (HK.eqB_ok (HK.fact c 246 rfl)) (HK.eqB_ok (HK.fact c 247 rfl)) (HK.eqB_ok (HK.fact c 248 rfl)) (HK.eqB_ok (HK.fact c 249 rfl)) (HK.eqB_ok (HK.fact c 250 rfl)) (HK.eqB_ok (HK.fact c 251 rfl)) (HK.eqB_ok (HK.fact c 252 rfl)) (HK.eqB_ok (HK.fact c 253 rfl))
theorem z_is_an_integer {mg : Str → Option Value} {h : Heap} {K : PySem.W.Frag} (X : K.In h) (G : h.Ns mainGlobals mg) (c : HK.obsX bs fn K = HK.valX fn) : Nonempty (Df K mg "is_an_integer" sIsInt ["thing"]) := by
  have h1d := HK.def_ c 23 rfl
  obtain ⟨_, _, _, _, _, _, _, _, h1, h1c⟩ := HK.DefX.get h1d.1 h1d.2 rfl rfl
  exact mk_is_an_integer X G (HK.eqO_ok (HK.fact c 254 rfl)) h1 h1c (HK.DefX.keep h1d.2)
theorem z_is_width {mg : Str → Option Value} {h : Heap} {K : PySem.W.Frag} (X : K.In h) (G : h.Ns mainGlobals mg) (c : HK.obsX bs fn K = HK.valX fn) : Nonempty (Df K mg "is_width" sIsWidth ["thing"]) := by
  have h1d := HK.def_ c 24 rfl
  obtain ⟨_, _, _, _, _, _, _, _, h1, h1c⟩ := HK.DefX.get h1d.1 h1d.2 rfl rfl
  exact mk_is_width X G (HK.eqO_ok (HK.fact c 255 rfl)) h1 h1c (HK.DefX.keep h1d.2)
theorem z_is_column {mg : Str → Option Value} {h : Heap} {K : PySem.W.Frag} (X : K.In h) (G : h.Ns mainGlobals mg) (c : HK.obsX bs fn K = HK.valX fn) : Nonempty (Df K mg "is_column" sIsCol ["width", "thing"]) := by
  have h1d := HK.def_ c 25 rfl
  obtain ⟨_, _, _, _, _, _, _, _, h1, h1c⟩ := HK.DefX.get h1d.1 h1d.2 rfl rfl
  exact mk_is_column X G (HK.eqO_ok (HK.fact c 256 rfl)) h1 h1c (HK.DefX.keep h1d.2)
theorem z_is_rule {mg : Str → Option Value} {h : Heap} {K : PySem.W.Frag} (X : K.In h) (G : h.Ns mainGlobals mg) (c : HK.obsX bs fn K = HK.valX fn) : Nonempty (Df K mg "is_rule" sIsRule ["width", "thing"]) := by
  have h1d := HK.def_ c 26 rfl
  obtain ⟨_, _, _, _, _, _, _, _, h1, h1c⟩ := HK.DefX.get h1d.1 h1d.2 rfl rfl
  exact mk_is_rule X G (HK.eqO_ok (HK.fact c 257 rfl)) h1 h1c (HK.DefX.keep h1d.2)
theorem z_every_rule {mg : Str → Option Value} {h : Heap} {K : PySem.W.Frag} (X : K.In h) (G : h.Ns mainGlobals mg) (c : HK.obsX bs fn K = HK.valX fn) : Nonempty (Df K mg "every_rule" sEvery ["width"]) := by
  have h1d := HK.def_ c 27 rfl
  obtain ⟨_, _, _, _, _, _, _, _, h1, h1c⟩ := HK.DefX.get h1d.1 h1d.2 rfl rfl
  exact mk_every_rule X G (HK.eqO_ok (HK.fact c 258 rfl)) h1 h1c (HK.DefX.keep h1d.2)
theorem z_line_of {mg : Str → Option Value} {h : Heap} {K : PySem.W.Frag} (X : K.In h) (G : h.Ns mainGlobals mg) (c : HK.obsX bs fn K = HK.valX fn) : Nonempty (Df K mg "line_of" sLine ["rule"]) := by
  have h1d := HK.def_ c 28 rfl
  obtain ⟨_, _, _, _, _, _, _, _, h1, h1c⟩ := HK.DefX.get h1d.1 h1d.2 rfl rfl
  exact mk_line_of X G (HK.eqO_ok (HK.fact c 259 rfl)) h1 h1c (HK.DefX.keep h1d.2)
theorem z_rules_of {mg : Str → Option Value} {h : Heap} {K : PySem.W.Frag} (X : K.In h) (G : h.Ns mainGlobals mg) (c : HK.obsX bs fn K = HK.valX fn) : Nonempty (Df K mg "rules_of" sRulesOf ["width", "text"]) := by
  have h1d := HK.def_ c 29 rfl
  obtain ⟨_, _, _, _, _, _, _, _, h1, h1c⟩ := HK.DefX.get h1d.1 h1d.2 rfl rfl
  exact mk_rules_of X G (HK.eqO_ok (HK.fact c 260 rfl)) h1 h1c (HK.DefX.keep h1d.2)
theorem z_l_said {mg : Str → Option Value} {h : Heap} {K : PySem.W.Frag} (X : K.In h) (G : h.Ns mainGlobals mg) (c : HK.obsX bs fn K = HK.valX fn) : Nonempty (Df K mg "_law_said" sSaid ["_law_call_here"]) := by
  have h1d := HK.def_ c 30 rfl
  obtain ⟨_, _, _, _, _, _, _, _, h1, h1c⟩ := HK.DefX.get h1d.1 h1d.2 rfl rfl
  exact mk_l_said X G (HK.eqO_ok (HK.fact c 261 rfl)) h1 h1c (HK.DefX.keep h1d.2)
theorem z_l_call {mg : Str → Option Value} {h : Heap} {K : PySem.W.Frag} (X : K.In h) (G : h.Ns mainGlobals mg) (c : HK.obsX bs fn K = HK.valX fn) : Nonempty (Df K mg "_law_call" sCl ["_law_log", "_law_what", "_law_row_here"]) := by
  have h1d := HK.def_ c 31 rfl
  obtain ⟨_, _, _, _, _, _, _, _, h1, h1c⟩ := HK.DefX.get h1d.1 h1d.2 rfl rfl
  exact mk_l_call X G (HK.eqO_ok (HK.fact c 262 rfl)) h1 h1c (HK.DefX.keep h1d.2)
theorem z_is_row {mg : Str → Option Value} {h : Heap} {K : PySem.W.Frag} (X : K.In h) (G : h.Ns mainGlobals mg) (c : HK.obsX bs fn K = HK.valX fn) : Nonempty (Df K mg "is_row" sIsRow ["width", "thing"]) := by
  have h1d := HK.def_ c 32 rfl
  obtain ⟨_, _, _, _, _, _, _, _, h1, h1c⟩ := HK.DefX.get h1d.1 h1d.2 rfl rfl
  exact mk_is_row X G (HK.eqO_ok (HK.fact c 263 rfl)) h1 h1c (HK.DefX.keep h1d.2)
theorem z_holds {mg : Str → Option Value} {h : Heap} {K : PySem.W.Frag} (X : K.In h) (G : h.Ns mainGlobals mg) (c : HK.obsX bs fn K = HK.valX fn) : Nonempty (Df K mg "holds" sHo ["rows", "rule"]) := by
  have h1d := HK.def_ c 33 rfl
  obtain ⟨_, _, _, _, _, _, _, _, h1, h1c⟩ := HK.DefX.get h1d.1 h1d.2 rfl rfl
  exact mk_holds X G (HK.eqO_ok (HK.fact c 264 rfl)) h1 h1c (HK.DefX.keep h1d.2)
theorem z_rules_broken {mg : Str → Option Value} {h : Heap} {K : PySem.W.Frag} (X : K.In h) (G : h.Ns mainGlobals mg) (c : HK.obsX bs fn K = HK.valX fn) : Nonempty (Df K mg "rules_broken" sBrk ["rules", "rows"]) := by
  have h1d := HK.def_ c 34 rfl
  obtain ⟨_, _, _, _, _, _, _, _, h1, h1c⟩ := HK.DefX.get h1d.1 h1d.2 rfl rfl
  exact mk_rules_broken X G (HK.eqO_ok (HK.fact c 265 rfl)) h1 h1c (HK.DefX.keep h1d.2)
theorem z_l_source {mg : Str → Option Value} {h : Heap} {K : PySem.W.Frag} (X : K.In h) (G : h.Ns mainGlobals mg) (c : HK.obsX bs fn K = HK.valX fn) : Nonempty (Df K mg "_law_source" sSource ["_law_cell_here"]) := by
  have h1d := HK.def_ c 35 rfl
  obtain ⟨_, _, _, _, _, _, _, _, h1, h1c⟩ := HK.DefX.get h1d.1 h1d.2 rfl rfl
  exact mk_l_source X G (HK.eqO_ok (HK.fact c 266 rfl)) h1 h1c (HK.DefX.keep h1d.2)
theorem z_l_cell {mg : Str → Option Value} {h : Heap} {K : PySem.W.Frag} (X : K.In h) (G : h.Ns mainGlobals mg) (c : HK.obsX bs fn K = HK.valX fn) : Nonempty (Df K mg "_law_cell" sCell ["_law_script", "_law_index"]) := by
  have h1d := HK.def_ c 36 rfl
  obtain ⟨_, _, _, _, _, _, _, _, h1, h1c⟩ := HK.DefX.get h1d.1 h1d.2 rfl rfl
  exact mk_l_cell X G (HK.eqO_ok (HK.fact c 267 rfl)) h1 h1c (HK.DefX.keep h1d.2)
theorem z_l_draw {mg : Str → Option Value} {h : Heap} {K : PySem.W.Frag} (X : K.In h) (G : h.Ns mainGlobals mg) (c : HK.obsX bs fn K = HK.valX fn) : Nonempty (Df K mg "_law_draw" sDraw ["_law_source_here", "_law_many"]) := by
  have h1d := HK.def_ c 37 rfl
  obtain ⟨_, _, _, _, _, _, _, _, h1, h1c⟩ := HK.DefX.get h1d.1 h1d.2 rfl rfl
  exact mk_l_draw X G (HK.eqO_ok (HK.fact c 268 rfl)) h1 h1c (HK.DefX.keep h1d.2)
theorem z_l_choose {mg : Str → Option Value} {h : Heap} {K : PySem.W.Frag} (X : K.In h) (G : h.Ns mainGlobals mg) (c : HK.obsX bs fn K = HK.valX fn) : Nonempty (Df K mg "_law_choose" sChoose ["_law_source_here", "_law_values"]) := by
  have h1d := HK.def_ c 38 rfl
  obtain ⟨_, _, _, _, _, _, _, _, h1, h1c⟩ := HK.DefX.get h1d.1 h1d.2 rfl rfl
  exact mk_l_choose X G (HK.eqO_ok (HK.fact c 269 rfl)) h1 h1c (HK.DefX.keep h1d.2)
theorem z_l_given {mg : Str → Option Value} {h : Heap} {K : PySem.W.Frag} (X : K.In h) (G : h.Ns mainGlobals mg) (c : HK.obsX bs fn K = HK.valX fn) : Nonempty (Df K mg "_law_given" sGv ["_law_source_here", "_law_many", "_law_size"]) := by
  have h1d := HK.def_ c 39 rfl
  obtain ⟨_, _, _, _, _, _, _, _, h1, h1c⟩ := HK.DefX.get h1d.1 h1d.2 rfl rfl
  exact mk_l_given X G (HK.eqO_ok (HK.fact c 270 rfl)) h1 h1c (HK.DefX.keep h1d.2)
theorem z_l_words {mg : Str → Option Value} {h : Heap} {K : PySem.W.Frag} (X : K.In h) (G : h.Ns mainGlobals mg) (c : HK.obsX bs fn K = HK.valX fn) : Nonempty (Df K mg "_law_words" sWd ["_law_given_here"]) := by
  have h1d := HK.def_ c 40 rfl
  obtain ⟨_, _, _, _, _, _, _, _, h1, h1c⟩ := HK.DefX.get h1d.1 h1d.2 rfl rfl
  exact mk_l_words X G (HK.eqO_ok (HK.fact c 271 rfl)) h1 h1c (HK.DefX.keep h1d.2)
theorem z_l_row {mg : Str → Option Value} {h : Heap} {K : PySem.W.Frag} (X : K.In h) (G : h.Ns mainGlobals mg) (c : HK.obsX bs fn K = HK.valX fn) : Nonempty (Df K mg "_law_row" sRwl ["_law_source_here", "_law_many", "_law_listed"]) := by
  have h1d := HK.def_ c 41 rfl
  obtain ⟨_, _, _, _, _, _, _, _, h1, h1c⟩ := HK.DefX.get h1d.1 h1d.2 rfl rfl
  exact mk_l_row X G (HK.eqO_ok (HK.fact c 272 rfl)) h1 h1c (HK.DefX.keep h1d.2)
theorem z_is_numeral {mg : Str → Option Value} {h : Heap} {K : PySem.W.Frag} (X : K.In h) (G : h.Ns mainGlobals mg) (c : HK.obsX bs fn K = HK.valX fn) : Nonempty (Df K mg "is_numeral" sIsNum ["word"]) := by
  have h1d := HK.def_ c 42 rfl
  obtain ⟨_, _, _, _, _, _, _, _, h1, h1c⟩ := HK.DefX.get h1d.1 h1d.2 rfl rfl
  exact mk_is_numeral X G (HK.eqO_ok (HK.fact c 273 rfl)) h1 h1c (HK.DefX.keep h1d.2)
theorem z_rows_of {mg : Str → Option Value} {h : Heap} {K : PySem.W.Frag} (X : K.In h) (G : h.Ns mainGlobals mg) (c : HK.obsX bs fn K = HK.valX fn) : Nonempty (Df K mg "rows_of" sRowsOf ["width", "text"]) := by
  have h1d := HK.def_ c 43 rfl
  obtain ⟨_, _, _, _, _, _, _, _, h1, h1c⟩ := HK.DefX.get h1d.1 h1d.2 rfl rfl
  exact mk_rows_of X G (HK.eqO_ok (HK.fact c 274 rfl)) h1 h1c (HK.DefX.keep h1d.2)
theorem z_l_odd_row {mg : Str → Option Value} {h : Heap} {K : PySem.W.Frag} (X : K.In h) (G : h.Ns mainGlobals mg) (c : HK.obsX bs fn K = HK.valX fn) : Nonempty (Df K mg "_law_odd_row" sOdd ["_law_source_here", "_law_many", "_law_listed"]) := by
  have h1d := HK.def_ c 44 rfl
  obtain ⟨_, _, _, _, _, _, _, _, h1, h1c⟩ := HK.DefX.get h1d.1 h1d.2 rfl rfl
  exact mk_l_odd_row X G (HK.eqO_ok (HK.fact c 275 rfl)) h1 h1c (HK.DefX.keep h1d.2)
theorem z_l_is_row {mg : Str → Option Value} {h : Heap} {K : PySem.W.Frag} (X : K.In h) (G : h.Ns mainGlobals mg) (c : HK.obsX bs fn K = HK.valX fn) : Nonempty (Df K mg "_law_is_row" sLir ["_law_many", "_law_thing"]) := by
  have h1d := HK.def_ c 45 rfl
  obtain ⟨_, _, _, _, _, _, _, _, h1, h1c⟩ := HK.DefX.get h1d.1 h1d.2 rfl rfl
  exact mk_l_is_row X G (HK.eqO_ok (HK.fact c 276 rfl)) h1 h1c (HK.DefX.keep h1d.2)
theorem z_l_is_held {mg : Str → Option Value} {h : Heap} {K : PySem.W.Frag} (X : K.In h) (G : h.Ns mainGlobals mg) (c : HK.obsX bs fn K = HK.valX fn) : Nonempty (Df K mg "_law_is_held" sIh ["_law_listed", "_law_rule"]) := by
  have h1d := HK.def_ c 46 rfl
  obtain ⟨_, _, _, _, _, _, _, _, h1, h1c⟩ := HK.DefX.get h1d.1 h1d.2 rfl rfl
  exact mk_l_is_held X G (HK.eqO_ok (HK.fact c 277 rfl)) h1 h1c (HK.DefX.keep h1d.2)
theorem z_l_fit {mg : Str → Option Value} {h : Heap} {K : PySem.W.Frag} (X : K.In h) (G : h.Ns mainGlobals mg) (c : HK.obsX bs fn K = HK.valX fn) : Nonempty (Df K mg "_law_fit" sFit ["_law_kind", "_law_given_here", "_law_cap", "_law_listed"]) := by
  have h1d := HK.def_ c 47 rfl
  obtain ⟨_, _, _, _, _, _, _, _, h1, h1c⟩ := HK.DefX.get h1d.1 h1d.2 rfl rfl
  exact mk_l_fit X G (HK.eqO_ok (HK.fact c 278 rfl)) h1 h1c (HK.DefX.keep h1d.2)
theorem z_l_add_due {mg : Str → Option Value} {h : Heap} {K : PySem.W.Frag} (X : K.In h) (G : h.Ns mainGlobals mg) (c : HK.obsX bs fn K = HK.valX fn) : Nonempty (Df K mg "_law_add_due" sAdu ["_law_kind", "_law_many", "_law_given_here", "_law_cap", "_law_listed", "_law_row_here"]) := by
  have h1d := HK.def_ c 48 rfl
  obtain ⟨_, _, _, _, _, _, _, _, h1, h1c⟩ := HK.DefX.get h1d.1 h1d.2 rfl rfl
  exact mk_l_add_due X G (HK.eqO_ok (HK.fact c 279 rfl)) h1 h1c (HK.DefX.keep h1d.2)
theorem z_l_drop_due {mg : Str → Option Value} {h : Heap} {K : PySem.W.Frag} (X : K.In h) (G : h.Ns mainGlobals mg) (c : HK.obsX bs fn K = HK.valX fn) : Nonempty (Df K mg "_law_drop_due" sDdu ["_law_many", "_law_listed", "_law_row_here"]) := by
  have h1d := HK.def_ c 49 rfl
  obtain ⟨_, _, _, _, _, _, _, _, h1, h1c⟩ := HK.DefX.get h1d.1 h1d.2 rfl rfl
  exact mk_l_drop_due X G (HK.eqO_ok (HK.fact c 280 rfl)) h1 h1c (HK.DefX.keep h1d.2)
theorem z_l_is_equal {mg : Str → Option Value} {h : Heap} {K : PySem.W.Frag} (X : K.In h) (G : h.Ns mainGlobals mg) (c : HK.obsX bs fn K = HK.valX fn) : Nonempty (Df K mg "_law_is_equal" sIsEq ["_law_actual", "_law_expected"]) := by
  have h1d := HK.def_ c 50 rfl
  obtain ⟨_, _, _, _, _, _, _, _, h1, h1c⟩ := HK.DefX.get h1d.1 h1d.2 rfl rfl
  exact mk_l_is_equal X G (HK.eqO_ok (HK.fact c 281 rfl)) h1 h1c (HK.DefX.keep h1d.2)
theorem z_l_seen {mg : Str → Option Value} {h : Heap} {K : PySem.W.Frag} (X : K.In h) (G : h.Ns mainGlobals mg) (c : HK.obsX bs fn K = HK.valX fn) : Nonempty (Df K mg "_law_seen" sSee ["_law_kind", "_law_log"]) := by
  have h1d := HK.def_ c 51 rfl
  obtain ⟨_, _, _, _, _, _, _, _, h1, h1c⟩ := HK.DefX.get h1d.1 h1d.2 rfl rfl
  exact mk_l_seen X G (HK.eqO_ok (HK.fact c 282 rfl)) h1 h1c (HK.DefX.keep h1d.2)
theorem z_l_text {mg : Str → Option Value} {h : Heap} {K : PySem.W.Frag} (X : K.In h) (G : h.Ns mainGlobals mg) (c : HK.obsX bs fn K = HK.valX fn) : Nonempty (Df K mg "_law_text" sTTx ["_law_listed"]) := by
  have h1d := HK.def_ c 52 rfl
  obtain ⟨_, _, _, _, _, _, _, _, h1, h1c⟩ := HK.DefX.get h1d.1 h1d.2 rfl rfl
  exact mk_l_text X G (HK.eqO_ok (HK.fact c 283 rfl)) h1 h1c (HK.DefX.keep h1d.2)
theorem z_l_due {mg : Str → Option Value} {h : Heap} {K : PySem.W.Frag} (X : K.In h) (G : h.Ns mainGlobals mg) (c : HK.obsX bs fn K = HK.valX fn) : Nonempty (Df K mg "_law_due" sLdu ["_law_kind", "_law_many", "_law_given_here", "_law_cap", "_law_listed", "_law_changes"]) := by
  have h1d := HK.def_ c 53 rfl
  obtain ⟨_, _, _, _, _, _, _, _, h1, h1c⟩ := HK.DefX.get h1d.1 h1d.2 rfl rfl
  exact mk_l_due X G (HK.eqO_ok (HK.fact c 284 rfl)) h1 h1c (HK.DefX.keep h1d.2)
theorem z_l_table {mg : Str → Option Value} {h : Heap} {K : PySem.W.Frag} (X : K.In h) (G : h.Ns mainGlobals mg) (c : HK.obsX bs fn K = HK.valX fn) : Nonempty (Df K mg "_law_table" sLta ["_law_many", "_law_listed"]) := by
  have h1d := HK.def_ c 54 rfl
  obtain ⟨_, _, _, _, _, _, _, _, h1, h1c⟩ := HK.DefX.get h1d.1 h1d.2 rfl rfl
  exact mk_l_table X G (HK.eqO_ok (HK.fact c 285 rfl)) h1 h1c (HK.DefX.keep h1d.2)
theorem facts {w : World} {mg : Str → Option Value} {fa : Addr} {h : Heap} (Y : (HK.hookA adrs bs fn).says w h) (G : h.Ns mainGlobals mg) (hmg : mg "law" = some (.ref fa)) : ∃ (K : PySem.W.Frag) (fd : FuncData) (cs : List (Addr × Addr)) (sp : Sp), K.In h ∧ (∀ p ∈ cs, ∃ y ∈ xsT, PySem.W.tabIn K y = some p) ∧ (∀ p ∈ cs, K.lookup p.2 = none) ∧ (∀ (s : Shared) (v : Value), BindsTo s fd ⟨[v], []⟩ [("_law_script", v)]) ∧ (∀ (H : Hp) (a : Addr) (ns : List Int), ns.length ≤ 63 → (∀ p ∈ cs, H p.2 = some (.tbl #[])) → SqL K H a (ns.map V.int) → sp [.ref a] H (fun v _ => v = .bl true) fun _ _ _ => False) ∧
      ∀ base : Heap, K.In base → base.Ns mainGlobals mg → (∀ p ∈ cs, LamX.TabB base mg p.1 p.2) → GD.FnG LL.prog w K mg base CX0 19 fa fd ["_law_script"] sp := by
  obtain ⟨K, X, c⟩ := Y
  have h1d := HK.def_ c 55 rfl
  obtain ⟨_, _, _, _, _, _, _, _, h1, h1c⟩ := HK.DefX.get h1d.1 h1d.2 rfl rfl
  have h101d := HK.def_ c 56 rfl
  obtain ⟨_, _, _, _, _, _, _, _, h101, h101c⟩ := HK.DefX.get h101d.1 h101d.2 rfl rfl
  have e0q := of_decide_eq_true (HK.fact c 288 rfl)
  have q0 := mk_l_is_full_right X G (HK.eqO_ok (HK.fact c 287 rfl)) h101 h101c (HK.DefX.keep h101d.2)
  rw [e0q] at q0
  have elq := of_decide_eq_true (HK.fact c 293 rfl)
  rw [elq] at h1 h1c
  obtain ⟨fd, cs, sp, h1, h2, h3, h4, h5⟩ := all_mk (l := LL) (w := w) X G hmg (HK.eqO_ok (HK.fact c 286 rfl)) h1 h1c (HK.DefX.keep h1d.2) (z_glb X G c) (z_kls X G c) (z_klsT X G c) (z_glbT X G c) (z_fam X G c) (z_ex_ColumnError X G c) (z_mo_e9 X G c) (z_is_an_integer X G c) (z_is_width X G c) (z_is_column X G c) (z_is_rule X G c) (z_every_rule X G c) (z_line_of X G c) (z_rules_of X G c) (z_l_said X G c) (z_l_call X G c) (z_is_row X G c) (z_holds X G c) (z_rules_broken X G c) (z_l_source X G c) (z_l_cell X G c) (z_l_draw X G c) (z_l_choose X G c) (z_l_given X G c) (z_l_words X G c) (z_l_row X G c) (z_is_numeral X G c) (z_rows_of X G c) (z_l_odd_row X G c) (z_l_is_row X G c) (z_l_is_held X G c) (z_l_fit X G c) (z_l_add_due X G c) (z_l_drop_due X G c) (z_l_is_equal X G c) (z_l_seen X G c) (z_l_text X G c) (z_l_due X G c) (z_l_table X G c) q0 (HK.tabB_ok (HK.fact c 289 rfl)) (HK.none_ok (HK.fact c 290 rfl)) (HK.tabB_ok (HK.fact c 291 rfl)) (HK.none_ok (HK.fact c 292 rfl)) (of_decide_eq_true (HK.fact c 294 rfl))
  exact ⟨K, fd, cs, sp, X, h1, h2, h3, h4, h5⟩
theorem ob_eq (s : PySem.W.SharedT) : ob s = hk.obs s.abs := HK.obsA_eq (HandSHeadRun.getT_eq s)
section
open PySem.W HandSHeadRun
end
end CC
open PySem PySem.W PyProof.Rows
set_option maxHeartbeats 0 in
theorem PySem.Challenge.cw_countcycles_k20_rows_are_added_and_dropp_holds : PySem.Challenge.rw_countcycles_k20_rows_are_added_and_dropp.Holds := by
  w_on; o_law
  refine HandSHeadRun.head_any (r := OpenLaw.row PySem.Challenge.rw_countcycles_k20_rows_are_added_and_dropp) (q := CC.qv) (H := CC.hk) (ob := CC.ob) (M := 20000) (loose := CC.hdNms) (d := HandSHeadRun.topDef (OpenLaw.row PySem.Challenge.rw_countcycles_k20_rows_are_added_and_dropp).prog 71) (kwd := []) CC.ob_eq
    (by kernel_rfl) (fun s => by kernel_rfl) CC.run (by kernel_rfl) (by kernel_rfl) (by kernel_rfl) (by rfl) (by first | assumption | decide +kernel) (by decide +kernel) ⟨rfl, rfl, rfl, rfl, rfl, by decide +kernel⟩ ?hw ?hc
  case hw => w_witness2
  case hc =>
    refine HK.walk_X (l := PySem.Challenge.rw_countcycles_k20_rows_are_added_and_dropp) (n := 63) (k := 19) (x := "_law_script") (xs := CC.xsT) (CX := fun _ => L2.CX0) rfl (by decide) (by kernel_rfl) ⟨rfl, by decide, by decide⟩ (by intro y hy; rcases List.mem_cons.mp hy with rfl | hy; exact ⟨_, rfl⟩; rcases List.mem_cons.mp hy with rfl | hy; exact ⟨_, rfl⟩; cases hy) ?F (fun _ _ _ _ _ h => h)
    intro w mg fa h Y G hmg0
    have hmg : mg ("law" : PySem.Str) = some (.ref fa) := by
      have e : (HandSHeadRun.topDef (OpenLaw.row PySem.Challenge.rw_countcycles_k20_rows_are_added_and_dropp).prog 71).name = ("law" : PySem.Str) := by kernel_rfl
      rw [← e]
      exact hmg0
    exact CC.facts Y G hmg


