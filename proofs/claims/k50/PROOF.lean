import PyProof.Rows.All
import Wide.All
import OpenK.AllK
import Wide.FinOn
import PyProof.ReprRoads
import HandS.ForMost
import HandS.More
import HandS.Lambda
import HandS.EndBits
import KE.KNestM
import HandS.Deep
import HandS.IsInst
import HandS.FStr
import HandS.Conv
import HandS.Strs
import HandS.SetFor
import HandS.TupSets
import HandS.StrMore
import HandS.Star
import HandS.ClsMeth
import KE.SortKeyHeap
import HandS.SortKw
import HandS.DictComp
import HandS.SortInts
import HandS.Property
import HandS.Codes
import HandS.Zip
import HandS.Walk
import HandS.SetBool
import HandS.SlotsOwn
import HandS.GenYield
import HandS.GenCall
import HandS.GenList
import PyProof.ReprLen
import KE.SortKeyed
import HandS.SortRule
import HandS.Dict
import HandS.TupLe
import PyProof.FactsAll.object_2
import HandS.Style
import PySem.Challenge.RW_countcycles_k50_whole_columns_in_another
set_option Elab.async false
set_option linter.all false
set_option maxRecDepth 100000
set_option maxHeartbeats 4000000
/-! a layer above the hand layer: defs that are called where nothing is being shown (no repr of a container is under way) -/
namespace GD
open PySem PySem.Spec PyProof.Rows L2
abbrev Calm (A : Around) : Prop := A.guards = some []
/-- a def's promise, where nothing is being shown -/
structure FnG (P : Program) (w : World) (K : PySem.W.Frag) (mg : Str → Option Value) (base : Heap) (CX : CXT) (k : Nat) (f : Addr) (fd : FuncData) (ps : List Str) (sp : Sp) : Prop where
  few : ∀ vs H Q E, sp vs H Q E → vs.length = ps.length
  goes : ∀ (A : Around) (out : List Env) (s : Shared) (H : Hp) (args : Args) (us : List Value) (vs : List V) (Q : VK) (E : XK), Calm A → Room k A → Env0 P w K mg base A out s H → BindsTo s fd args (ps.zip us) → Vals vs us → sp vs H Q E → codeAny (model P w) A (.call (.ref f) args) (CR CX out P w H s Q E) s
section
variable {P : Program} {w : World} {K : PySem.W.Frag} {mg : Str → Option Value} {base : Heap} {CX : CXT} {k : Nat} {f : Addr} {fd : FuncData} {ps : List Str} {sp : Sp}
theorem FnG.of (F : FnOk P w K mg base CX k f fd ps sp) : FnG P w K mg base CX k f fd ps sp := ⟨F.len, fun A out s H args us vs Q E _ hr e0 hb r h => F.run A out s H args us vs Q E hr e0 hb r h⟩
/-- the rule for a def by its body -/
theorem fun_okG {x q : Str} {st : Stmt} {N : List Str} (F : Fun K x q st f fd) (S : FnScope N ps (defScope st)) (few : ∀ vs H Q E, sp vs H Q E → vs.length = ps.length)
    (body : ∀ (cd : Value) (A : Around) (out : List Env) (s : Shared) (H : Hp) (vs : List V) (Q : VK) (E : XK), Calm (A.deeper (envOfC q (defScope st) s.heap.objs.size f cd)) → Room k (A.deeper (envOfC q (defScope st) s.heap.objs.size f cd)) → sp vs H Q E →
      ∃ t, PSs (cxOf CX0 P w K mg base N q (defScope st) f cd A out s H E).nox (defBody st) t ∧ t { nx := fun _ H' => Q .non H', rt := Q } (start N vs) H) : FnG P w K mg base CX0 (k + 1) f fd ps sp := by
  obtain ⟨oc, od, kV, doc, pm, an, cd, ct, osl, rfl, look, hcd⟩ := F.ex
  constructor
  · exact few
  intro A out s H args us vs Q E calm room e0 bound rel wish
  have keep : ∀ b o, base.get? b = some o → s.heap.get? b = some o := fun b o e => (e0.bs b o e).1
  have inK := e0.mod.kin.keeps keep
  have noL := e0.mod.nolimit.keeps keep
  have size := few _ _ _ _ wish
  refine codeAny_call_function room.depth (inK _ _ look) rfl S.co S.gen rfl (PySem.W.codeRec_of inK hcd) (bound _ _ _ _ ?_)
  refine wpAny_newFunctionEnv_cells S.kind (fun y hy => ?_) fun env he s1 x => ?_
  · rcases S.par y.1 (List.of_mem_zip hy).1 with z | z
    · exact .inl z
    · exact .inr ⟨z, PySem.W.cellsFrom_some _ _ _ (.inl z)⟩
  subst he
  refine ⟨noL.keeps x.toInCall.keep, codeAny_func ?_⟩
  obtain ⟨t, d, r⟩ := body cd A out s H vs Q E calm (room.deeper _) wish
  have J := inv_start (CX := CX0) (E := E) S room.hd e0 size rel x
  refine wpAny_mono (d.nox.run [] s1 (start N vs) H _ J r) (fun fl s2 z => ?_) fun _ _ z => z
  cases fl with
  | brk => exact z.elim fun _ z => z.elim fun _ z => z.2.elim
  | cont => exact z.elim fun _ z => z.elim fun _ z => z.2.elim
  | next =>
    obtain ⟨τ, H2, J2, q⟩ := z
    exact ⟨.non, H2, J2.os, J2.bare, J2.base, J2.hok, rfl, q⟩
  | ret u =>
    obtain ⟨v, τ, H2, J2, rv, q⟩ := z
    exact ⟨v, H2, J2.os, J2.bare, J2.base, J2.hok, rv, q⟩
end
section
variable {X : Cx} {CX : CXT} {k : Nat} {f : Addr} {fd : FuncData} {ps : List Str} {sp : Sp} {E : XK} {x : Str} {p pos : Pos} {e : Expr} {es : List Expr} {t : TA}
theorem pe_callG (F : FnG X.prog X.w X.K X.mg X.base CX k f fd ps sp) (calm : Calm X.A) (room : Room k X.A) (gl : Gl X x) (at_ : X.mg x = some (.ref f)) (kp : PySem.W.keepIn X.K (.ref f) = true) (b : Binds X.K fd ps []) (hx : Passes CX X E) (ha : PA X (e :: es) t)
    (hd : (x == ("__debug__" : Str)) = false := by decide) (h1 : starEach (e :: es) X.env = (false, eval e X.env) :: starEach es X.env := by rfl) (h2 : (backTo pos (starEach es X.env)).any (·.1) = false := by rfl) : PE X (.Call (.Name x p) (e :: es) [] pos) (tCall sp [] E t) := by
  constructor
  intro pins s σ H Q I h
  refine wpAny_Call_Name_kw (ld_glob I gl at_ (PySem.W.callWith_K (h₀ := X.base) I.ok.mod.kin kp (thn (ha.run pos pins s σ H _ I h) fun us s1 z => ?_) h1 h2) hd)
  obtain ⟨vs, H1, I1, r, q⟩ := z
  refine ⟨I1.kIn, ?_⟩
  rw [List.append_nil] at q
  have hl : us.length = ps.length := by
    rw [← r.length]
    exact F.few _ _ _ _ q
  have hb := b s1 us I1.kIn (by rw [List.append_nil]; exact hl)
  rw [List.append_nil] at hb
  refine wpAny_call (codeAny_mono (F.goes X.A X.stack s1 H1 ⟨us, []⟩ us vs Q E calm room I1.env0 hb r q) fun fin s2 z => ?_)
  match fin, z with
  | .error err, z => exact hx pins σ H1 s1 err s2 I1 z
  | .ok (.ret u), z => exact I1.after z
  | .ok .next, z => exact z.elim
  | .ok .brk, z => exact z.elim
  | .ok .cont, z => exact z.elim
/-- repr(x), x data -/
theorem call_reprD (calm : Calm X.A) (hu : X.A.units + 66 < cLine) : CallR X (.builtin "repr") (fun xs H Q => ∃ v d, xs = [v] ∧ Dp X.K H v d ∧ d.showable = true ∧ d.hasDict = false ∧ d.depth ≤ 64 ∧ d.shown.length ≤ sizeLine ∧ Q (.str d.shown) H) := by
  intro pins s σ H xs us Q I r h
  obtain ⟨v, d, rfl, hd, h1, h2, h3, h4, q⟩ := h
  obtain ⟨u, rfl, rv⟩ := vals1 r
  obtain ⟨as, rd⟩ := Dp.reads I d v u hd rv
  cases hd with
  | non =>
    cases rv
    exact PySem.P.repr_of_none ⟨.str _, H, I.tok _, ⟨_, rfl⟩, q⟩
  | bl b =>
    cases rv
    exact PySem.P.repr_of_bool ⟨.str _, H, I.tok _, ⟨_, rfl⟩, q⟩
  | int i =>
    obtain ⟨t, rfl⟩ := rv
    exact PySem.P.repr_of_int (by simpa [PyData.showable] using h1) ⟨.str _, H, I.tok _, ⟨_, rfl⟩, q⟩
  | str x =>
    obtain ⟨t, rfl⟩ := rv
    exact PySem.P.repr_of_str ⟨.str _, H, I.tok _, ⟨_, rfl⟩, q⟩ h4
  | lst hs ha =>
    cases rv
    exact repr_of_reads' rd h1 (PyData.noDict_hsm h2) calm (by omega) (fun _ _ e => e) (fun h' u tk hk => ⟨.str _, H, I.kept hk, ⟨_, rfl⟩, q⟩) h4
  | tup hs ha =>
    cases rv
    exact repr_of_reads' rd h1 (PyData.noDict_hsm h2) calm (by omega) (fun _ _ e => e) (fun h' u tk hk => ⟨.str _, H, I.kept hk, ⟨_, rfl⟩, q⟩) h4
end
/-- the law's call, at the heap behind the top -/
theorem law_callG {P : Program} {w : World} {K : PySem.W.Frag} {mg mb : Str → Option Value} {CX : CXT} {k : Nat} {fa a : Addr} {fd : FuncData} {x : Str} {sp : Sp} {s : Shared} {vs : List Value} {ns : List Int}
    (inK : K.In s.heap) (nsM : s.heap.Ns mainGlobals mg) (nsB : s.heap.Ns builtinsNs mb) (boot : ∀ x : Str, x ≠ "__name__" → mb x = bootBuiltins x) (noL : s.heap.NoLimit) (gens : s.gens = #[])
    (ha : s.heap.get? a = some { cls := .type "list", data := .seq vs.toArray }) (hin : IntsAre vs ns) (few : ns.length ≤ sizeLine) (room : Room k callerA)
    (F : ∀ base : Heap, K.In base → base.Ns mainGlobals mg → FnG P w K mg base CX k fa fd [x] sp) (bind : ∀ (s : Shared) (u : Value), BindsTo s fd ⟨[u], []⟩ [(x, u)])
    (wish : ∀ H : Hp, Only H → SqL K H a (ns.map V.int) → sp [.ref a] H (fun v _ => v = .bl true) fun _ _ _ => False) (noX : ∀ H e s', CX [] H s (fun _ _ _ => False) e s' → False) :
    codeAny (model P w) callerA (.call (.ref fa) ⟨[.ref a], []⟩) (fun r s' => r = .ok (.ret (.bool true)) ∧ OldK s.heap s'.heap ∧ s'.os = s.os ∧ AllBare s'.gens) s := by
  have go : ∀ H : Hp, Only H → SqL K H a (ns.map V.int) → HOk P w H s.heap → (∀ b, b ≠ a → H b = none) → (K.lookup a = none ∨ H a = none) →
      codeAny (model P w) callerA (.call (.ref fa) ⟨[.ref a], []⟩) (fun r s' => r = .ok (.ret (.bool true)) ∧ OldK s.heap s'.heap ∧ s'.os = s.os ∧ AllBare s'.gens) s := by
    intro H only sq hok off way
    have up : ∀ {b : Addr} {o : Obj}, s.heap.get? b = some o → H b = none → (hidT s.heap H).get? b = some o := fun e n => hidT_get e n
    have notA : ∀ {b : Addr} {o : Obj} {es : Array DictEntry} {n : Nat}, s.heap.get? b = some o → o.data = .dict es n → H b = none := fun {b o es n} e d => by
      by_cases z : b = a
      · rw [z, ha] at e
        cases e
        cases (show Data.seq vs.toArray _ = Data.dict es n from d)
      · exact off b z
    have lift : ∀ {b : Addr} {m : Str → Option Value}, s.heap.Ns b m → (hidT s.heap H).Ns b m := fun ⟨o, es, n, e, d, r⟩ => ⟨o, es, n, up e (notA e d), d, r⟩
    have inB : K.In (hidT s.heap H) := fun b o e => up (inK b o e) (by
      by_cases z : b = a
      · rcases way with z2 | z2
        · rw [z, z2] at e
          cases e
        · rw [z]
          exact z2
      · exact off b z)
    obtain ⟨mc, l1, l2⟩ := noL
    have e0 : Env0 P w K mg (hidT s.heap H) callerA [] s H := ⟨rfl, ⟨inB, lift nsM, ⟨mb, lift nsB, boot⟩, ⟨mc, lift l1, l2⟩⟩, fun _ _ e => of_hidT e, Nat.le_of_eq (hidT_size _ _), trivial, fun b z => (nomatch (show b ∈ ([] : List Addr) from z)), hok, .of_eq gens⟩
    refine codeAny_mono ((F _ inB (lift nsM)).goes callerA [] s H ⟨[.ref a], []⟩ [.ref a] [.ref a] _ _ rfl room e0 (bind s (.ref a)) (.cons rfl .nil) (wish H only sq)) fun fin s2 z => ?_
    match fin, z with
    | .error err, z => exact (noX H err s2 z).elim
    | .ok .next, z => exact z.elim
    | .ok .brk, z => exact z.elim
    | .ok .cont, z => exact z.elim
    | .ok (.ret u), ⟨v, H2, os, bare, un, hok2, rel, ev⟩ =>
      cases (show v = V.bl true from ev)
      cases (show u = Value.bool true from rel)
      refine ⟨rfl, OldK.of_keep fun b o e => ?_, os, bare⟩
      rcases only b with z | ⟨ob, xs, z⟩
      · exact un.keep b o e z (fun y => nomatch (show b ∈ ([] : List Addr) from y)) (fun y => nomatch y)
      · obtain ⟨e1, _⟩ := hok b _ z
        obtain ⟨e2, _⟩ := hok2 b _ (un.frzs b ob _ z)
        rw [e1] at e
        cases e
        exact e2
  have rel := vals_ints hin
  have lenV := hin.length
  cases look : K.lookup a with
  | some o =>
    have e := inK a o look
    rw [ha] at e
    cases e
    refine go (fun _ => none) (fun _ => .inl rfl) (.inr ⟨_, vs.toArray, _, look, rfl, rfl, rfl, ?_, ?_⟩) (fun b u z => nomatch (show (none : Option HO) = some u from z)) (fun _ _ => rfl) (.inr rfl)
    · rw [List.size_toArray, lenV]
      exact few
    · simpa using rel
  | none =>
    have one : (fun b => if b = a then some (HO.frz { cls := .type "list", data := .seq vs.toArray } (.lst (ns.map V.int))) else none) a = some (HO.frz { cls := .type "list", data := .seq vs.toArray } (.lst (ns.map V.int))) := if_pos rfl
    refine go (fun b => if b = a then some (.frz { cls := .type "list", data := .seq vs.toArray } (.lst (ns.map V.int))) else none) (fun b => ?_) (.inl (.inr ⟨_, one⟩)) (fun b u z => ?_) (fun b hb => if_neg hb) (.inl look)
    · by_cases hb : b = a
      · rw [hb]
        exact .inr ⟨_, _, one⟩
      · exact .inl (if_neg hb)
    · by_cases hb : b = a
      · subst hb
        have z2 := one.symm.trans z
        cases z2
        exact ⟨ha, by rw [List.length_map]; exact few, vs, _, rel, ha⟩
      · have z2 := (if_neg hb).symm.trans z
        cases z2
/-- the goal that k_head leaves, from the law's promise -/
theorem walk_ofG {l : PySem.W.OpenLaw} {n k : Nat} {q : Program} {loose : List Str} {XP : (Str → Option Value) → Heap → Prop} {YP : World → Heap → Prop} {d : DefRec} {K : Params → PySem.W.Frag} {CX : World → CXT} {sp : World → Sp} {x : Str}
    (most : l.most = some n) (few : n ≤ sizeLine) (plain : d.params.defaults = []) (room : Room k callerA) (hY : ∀ (w : World) (h : Heap), YP w h → (K w.params).In h)
    (F : ∀ (w : World) (mg : Str → Option Value) (fa : Addr) (h : Heap), (K w.params).In h → h.Ns mainGlobals mg → mg d.name = some (.ref fa) → ∃ fd : FuncData, (∀ (s : Shared) (u : Value), BindsTo s fd ⟨[u], []⟩ [(x, u)]) ∧ ∀ base : Heap, (K w.params).In base → base.Ns mainGlobals mg → FnG l.prog w (K w.params) mg base (CX w) k fa fd [x] (sp w))
    (wish : ∀ (w : World) (H : Hp) (a : Addr) (ns : List Int), ns.length ≤ n → Only H → SqL (K w.params) H a (ns.map V.int) → sp w [.ref a] H (fun v _ => v = .bl true) fun _ _ _ => False)
    (noX : ∀ (w : World) (H : Hp) (s : Shared) (e : Value) (s' : Shared), CX w [] H s (fun _ _ _ => False) e s' → False) : PySem.W.WalkO q loose XP YP l.row.toRowW d [] (fun f vs => PySem.call f vs) := by
  refine Att.attach_call most plain ?_
  intro w s₀ s mg mb fa o pm cd doc a vs ns G Y _ _ _ hmg hobj hin len gens
  have inK := hY w _ Y
  obtain ⟨fd, bind, ok⟩ := F w mg fa _ inK G.T.g hmg
  exact law_callG inK G.T.g G.T.b G.T.builtins G.T.nolimit gens hobj hin (Nat.le_trans len few) room ok bind (fun H h1 h2 => wish w H a ns len h1 h2) fun H e s' => noX w H s e s'
end GD
/-! the end of a law whose defs make lambdas, where nothing is being shown -/
namespace GD
open PySem PySem.Spec PyProof.Rows L2
abbrev tab0 : Obj := { cls := .none, data := .fields #[] }
theorem law_callGT {P : Program} {w : World} {K : PySem.W.Frag} {mg mb : Str → Option Value} {CX : CXT} {k : Nat} {fa a : Addr} {cs : List (Addr × Addr)} {fd : FuncData} {x : Str} {sp : Sp} {s : Shared} {vs : List Value} {ns : List Int}
    (inK : K.In s.heap) (nsM : s.heap.Ns mainGlobals mg) (nsB : s.heap.Ns builtinsNs mb) (boot : ∀ x : Str, x ≠ "__name__" → mb x = bootBuiltins x) (noL : s.heap.NoLimit) (gens : s.gens = #[])
    (tabs : ∀ p ∈ cs, PySem.W.CodeHd s.heap p.1 p.2 ∧ s.heap.get? p.2 = some tab0) (offK : ∀ p ∈ cs, K.lookup p.2 = none)
    (blt : ∃ (bm : Addr) (ob : Obj), mg "__builtins__" = some (.ref bm) ∧ bm ≠ builtinsNs ∧ s.heap.get? bm = some ob ∧ ob.cls = .type "module" ∧ ob.dict = some builtinsNs ∧ ob.data = .plain)
    (ha : s.heap.get? a = some { cls := .type "list", data := .seq vs.toArray }) (hin : IntsAre vs ns) (few : ns.length ≤ sizeLine) (room : Room k callerA)
    (F : ∀ base : Heap, K.In base → base.Ns mainGlobals mg → (∀ p ∈ cs, LamX.TabB base mg p.1 p.2) → FnG P w K mg base CX k fa fd [x] sp) (bind : ∀ (s : Shared) (u : Value), BindsTo s fd ⟨[u], []⟩ [(x, u)])
    (wish : ∀ H : Hp, (∀ p ∈ cs, H p.2 = some (.tbl #[])) → SqL K H a (ns.map V.int) → sp [.ref a] H (fun v _ => v = .bl true) fun _ _ _ => False) (noX : ∀ H e s', CX [] H s (fun _ _ _ => False) e s' → False) :
    codeAny (model P w) callerA (.call (.ref fa) ⟨[.ref a], []⟩) (fun r s' => r = .ok (.ret (.bool true)) ∧ OldK s.heap s'.heap ∧ s'.os = s.os ∧ AllBare s'.gens) s := by
  let tb : Addr → Prop := fun b => ∃ p ∈ cs, p.2 = b
  have tbd : ∀ b, Decidable (tb b) := fun b => Classical.propDecidable _
  have tbo : ∀ {b : Addr}, tb b → s.heap.get? b = some tab0 := fun {b} ⟨p, hp, e⟩ => by
    rw [← e]
    exact (tabs p hp).2
  have atb : ¬ tb a := fun z => by
    have e := tbo z
    rw [ha] at e
    have e2 := congrArg Obj.data (Option.some.inj e)
    cases (show Data.seq vs.toArray _ = Data.fields #[] from e2)
  have go : ∀ H : Hp, (∀ b, tb b → H b = some (.tbl #[])) → (∀ b, b ≠ a → ¬ tb b → H b = none) → (H a = none ∨ ∃ ob xs, H a = some (.frz ob (.lst xs))) → SqL K H a (ns.map V.int) → HOk P w H s.heap → (K.lookup a = none ∨ H a = none) →
      codeAny (model P w) callerA (.call (.ref fa) ⟨[.ref a], []⟩) (fun r s' => r = .ok (.ret (.bool true)) ∧ OldK s.heap s'.heap ∧ s'.os = s.os ∧ AllBare s'.gens) s := by
    intro H tbH off onA sq hok way
    have up : ∀ {b : Addr} {o : Obj}, s.heap.get? b = some o → H b = none → (hidT s.heap H).get? b = some o := fun e n => hidT_get e n
    have plain : ∀ {b : Addr} {o : Obj}, s.heap.get? b = some o → (∀ us n, o.data ≠ .seq us n) → o.data ≠ .fields #[] → H b = none := fun {b o} e n1 n2 => by
      by_cases za : b = a
      · rw [za, ha] at e
        cases e
        exact absurd rfl (n1 _ _)
      · refine off b za fun z => ?_
        rw [tbo z] at e
        cases e
        exact n2 rfl
    have lift : ∀ {b : Addr} {m : Str → Option Value}, s.heap.Ns b m → (hidT s.heap H).Ns b m := fun ⟨o, es, n, e, d, r⟩ => ⟨o, es, n, up e (plain e (fun us n z => by rw [d] at z; cases z) (fun z => by rw [d] at z; cases z)), d, r⟩
    have inB : K.In (hidT s.heap H) := fun b o e => up (inK b o e) (by
      by_cases za : b = a
      · rcases way with z2 | z2
        · rw [za, z2] at e
          cases e
        · rw [za]
          exact z2
      · refine off b za fun ⟨p, hp, z⟩ => ?_
        rw [← z, offK p hp] at e
        cases e)
    have TB : ∀ p ∈ cs, LamX.TabB (hidT s.heap H) mg p.1 p.2 := fun p hp => by
      obtain ⟨cd, tp⟩ := tabs p hp
      refine ⟨?_, ?_, fun z => ?_⟩
      · obtain ⟨o, us, f1, f2, f3, f4, f5, f6, f7, e1, g1, g2, g3, rest⟩ := cd
        refine ⟨o, us, f1, f2, f3, f4, f5, f6, f7, up e1 (plain e1 (fun us n z => by rw [g2] at z; cases z) (fun z => ?_)), g1, g2, g3, rest⟩
        rw [g2] at z
        cases z
        simp at g3
      · obtain ⟨bm, ob, b1, b2, b3, b4, b5, b6⟩ := blt
        refine ⟨bm, ob, b1, b2, fun z => ?_, fun z => ?_, up b3 (plain b3 (fun us n z => by rw [b6] at z; cases z) (fun z => by rw [b6] at z; cases z)), b4, b5, b6⟩
        · obtain ⟨o, es, ep, e, d, _⟩ := nsM
          rw [z, e] at b3
          cases b3
          rw [d] at b6
          cases b6
        · rw [z, tp] at b3
          cases b3
          cases b6
      · obtain ⟨o, es, ep, e, d, _⟩ := nsM
        rw [z, tp] at e
        cases e
        cases d
    obtain ⟨mc, l1, l2⟩ := noL
    have e0 : Env0 P w K mg (hidT s.heap H) callerA [] s H := ⟨rfl, ⟨inB, lift nsM, ⟨mb, lift nsB, boot⟩, ⟨mc, lift l1, l2⟩⟩, fun _ _ e => of_hidT e, Nat.le_of_eq (hidT_size _ _), trivial, fun b z => (nomatch (show b ∈ ([] : List Addr) from z)), hok, .of_eq gens⟩
    refine codeAny_mono ((F _ inB (lift nsM) TB).goes callerA [] s H ⟨[.ref a], []⟩ [.ref a] [.ref a] _ _ rfl room e0 (bind s (.ref a)) (.cons rfl .nil) (wish H (fun p hp => tbH _ ⟨p, hp, rfl⟩) sq)) fun fin s2 z => ?_
    match fin, z with
    | .error err, z => exact (noX H err s2 z).elim
    | .ok .next, z => exact z.elim
    | .ok .brk, z => exact z.elim
    | .ok .cont, z => exact z.elim
    | .ok (.ret u), ⟨v, H2, os, bare, un, hok2, rel, ev⟩ =>
      cases (show v = V.bl true from ev)
      cases (show u = Value.bool true from rel)
      have kept : ∀ b o, ¬ tb b → s.heap.get? b = some o → s2.heap.get? b = some o := fun b o nb e => by
        have free : H b = none → s2.heap.get? b = some o := fun n => un.keep b o e n (fun y => nomatch (show b ∈ ([] : List Addr) from y)) (fun y => nomatch y)
        by_cases za : b = a
        · rcases onA with z | ⟨ob, xs, z⟩
          · exact free (by rw [za]; exact z)
          · obtain ⟨e1, _⟩ := hok a _ z
            obtain ⟨e2, _⟩ := hok2 a _ (un.frzs a ob _ z)
            rw [za, e1] at e
            cases e
            rw [za]
            exact e2
        · exact free (off b za nb)
      have grew : ∀ b, tb b → ∃ more : Array Value, s2.heap.get? b = some { cls := .none, data := .fields more } := fun b hb => by
        obtain ⟨more, z⟩ := un.tbls b #[] (tbH b hb)
        exact ⟨_, hok2 b _ z⟩
      refine ⟨rfl, ⟨fun b o e => ?_, fun b o e => ?_⟩, os, bare⟩
      · by_cases hb : tb b
        · obtain ⟨more, hm⟩ := grew b hb
          have t0 := tbo hb
          rw [t0] at e
          cases e
          obtain ⟨p, hp, ep⟩ := hb
          rw [← ep] at hm t0 ⊢
          exact .inr (.inl ⟨((tabs p hp).1.tab t0).isCodeTable, rfl, #[], more, rfl, by rw [Array.empty_append]; exact hm⟩)
        · exact .inl (kept b o hb e)
      · by_cases hb : tb b
        · obtain ⟨more, hm⟩ := grew b hb
          exact ⟨_, hm⟩
        · exact ⟨o, kept b o hb e⟩
  have rel := vals_ints hin
  have lenV := hin.length
  cases look : K.lookup a with
  | some o =>
    have e := inK a o look
    rw [ha] at e
    cases e
    refine go (fun b => @ite _ (tb b) (tbd b) (some (.tbl #[])) none) (fun b hb => if_pos hb) (fun b _ hb => if_neg hb) (.inl (if_neg atb)) (.inr ⟨_, vs.toArray, _, look, rfl, rfl, rfl, ?_, ?_⟩) (fun b u z => ?_) (.inr (if_neg atb))
    · rw [List.size_toArray, lenV]
      exact few
    · simpa using rel
    · by_cases hb : tb b
      · have z2 := (if_pos hb).symm.trans z
        cases z2
        exact tbo hb
      · have z2 := (if_neg hb).symm.trans z
        cases z2
  | none =>
    have one : (fun b => if b = a then some (HO.frz { cls := .type "list", data := .seq vs.toArray } (.lst (ns.map V.int))) else @ite _ (tb b) (tbd b) (some (.tbl #[])) none) a = some (HO.frz { cls := .type "list", data := .seq vs.toArray } (.lst (ns.map V.int))) := if_pos rfl
    refine go (fun b => if b = a then some (.frz { cls := .type "list", data := .seq vs.toArray } (.lst (ns.map V.int))) else @ite _ (tb b) (tbd b) (some (.tbl #[])) none) (fun b hb => ?_) (fun b na hb => ?_) (.inr ⟨_, _, one⟩) (.inl (.inr ⟨_, one⟩)) (fun b u z => ?_) (.inl look)
    · exact (if_neg fun z => atb (by rw [← z]; exact hb)).trans (if_pos hb)
    · exact (if_neg na).trans (if_neg hb)
    · by_cases za : b = a
      · subst za
        have z2 := one.symm.trans z
        cases z2
        exact ⟨ha, by rw [List.length_map]; exact few, vs, _, rel, ha⟩
      · by_cases hb : tb b
        · have z2 := ((if_neg za).trans (if_pos hb)).symm.trans z
          cases z2
          exact tbo hb
        · have z2 := ((if_neg za).trans (if_neg hb)).symm.trans z
          cases z2
/-- the goal that k_head leaves, from the law's promise; cs: the defs that make lambdas, by their code objects and tables -/
theorem walk_ofGT {l : PySem.W.OpenLaw} {n k : Nat} {q : Program} {loose : List Str} {XP : (Str → Option Value) → Heap → Prop} {YP : World → Heap → Prop} {d : DefRec} {K : Params → PySem.W.Frag} {CX : World → CXT} {x : Str} {xs : List Str}
    (most : l.most = some n) (few : n ≤ sizeLine) (plain : d.params.defaults = []) (room : Room k callerA) (hY : ∀ (w : World) (h : Heap), YP w h → (K w.params).In h)
    (found : ∀ y ∈ xs, ∃ r, (recsOf q).find? (fun e => e.name == y) = some r)
    (F : ∀ (w : World) (mg : Str → Option Value) (fa : Addr) (h : Heap), (K w.params).In h → h.Ns mainGlobals mg → mg d.name = some (.ref fa) → ∃ (fd : FuncData) (cs : List (Addr × Addr)) (sp : Sp), (∀ p ∈ cs, ∃ y ∈ xs, PySem.W.tabIn (K w.params) y = some p) ∧ (∀ p ∈ cs, (K w.params).lookup p.2 = none) ∧
      (∀ (s : Shared) (u : Value), BindsTo s fd ⟨[u], []⟩ [(x, u)]) ∧ (∀ (H : Hp) (a : Addr) (ns : List Int), ns.length ≤ n → (∀ p ∈ cs, H p.2 = some (.tbl #[])) → SqL (K w.params) H a (ns.map V.int) → sp [.ref a] H (fun v _ => v = .bl true) fun _ _ _ => False) ∧
      ∀ base : Heap, (K w.params).In base → base.Ns mainGlobals mg → (∀ p ∈ cs, LamX.TabB base mg p.1 p.2) → FnG l.prog w (K w.params) mg base (CX w) k fa fd [x] sp)
    (noX : ∀ (w : World) (H : Hp) (s : Shared) (e : Value) (s' : Shared), CX w [] H s (fun _ _ _ => False) e s' → False) : PySem.W.WalkO q loose XP YP l.row.toRowW d [] (fun f vs => PySem.call f vs) := by
  refine Att.attach_callB most plain ?_
  intro w s₀ s mg mb fa o pm cd doc a vs ns G Y _ _ _ hmg hobj hin len _ gens
  have inK := hY w _ Y
  obtain ⟨fd, cs, sp, tbs, offK, bind, wish, ok⟩ := F w mg fa _ inK G.T.g hmg
  refine law_callGT inK G.T.g G.T.b G.T.builtins G.T.nolimit gens (fun p hp => ?_) offK G.T.bmain hobj hin (Nat.le_trans len few) room ok bind (fun H h1 h2 => wish H a ns len h1 h2) fun H e s' => noX w H s e s'
  obtain ⟨y, hy, e⟩ := tbs p hp
  obtain ⟨r, hr⟩ := found y hy
  exact PySem.W.tab_of G.T inK hr (by rw [e])
end GD
namespace CC
open PySem L2
def tp (i : Nat) : Stmt := PySem.Challenge.pw_countcycles_k50_whole_columns_in_another.main.body.getD i (.Pass ⟨0, 0, 0, 0⟩)
abbrev sCell : Stmt := tp 53
/-- a source of draws: three numbers -/
def IsSrc (o : HO) : Prop := ∃ a b c : Int, o = .lst [.int a, .int b, .int c] ∧ 0 ≤ b ∧ b < 2147483648
def spCell (K : PySem.W.Frag) : Sp := fun vs H Q _ => ∃ (a : Addr) (ns : List Int) (k : Nat), vs = [.ref a, .int (k : Int)] ∧ SqL K H a (ns.map V.int) ∧ ∀ z : Int, Q (.int z) H
def spSource : Sp := fun vs H Q _ => ∃ z : Int, vs = [.int z] ∧ ∀ p o, H p = none → IsSrc o → Q (.ref p) (upd H p o)
def spDraw : Sp := fun vs H Q _ => ∃ (s : Addr) (m : Int) (o : HO), vs = [.ref s, .int m] ∧ H s = some o ∧ IsSrc o ∧ 0 < m ∧ m < 1000000 ∧ ∀ (r : Int) (o' : HO), 0 ≤ r → r < m → IsSrc o' → Q (.int r) (upd H s o')
section
variable {P : Program} {w : World} {K : PySem.W.Frag} {mg : Str → Option Value} {base : Heap}
theorem scCell : FnScope ["_law_script", "_law_k"] ["_law_script", "_law_k"] (defScope sCell) := ⟨rfl, rfl, rfl, by decide +kernel, rfl, by decide +kernel, by decide +kernel⟩
theorem ok_cell {f : Addr} {fd : FuncData} {k : Nat} (F : Fun K "_law_cell_at" "_law_cell_at" sCell f fd) (ml : mg "len" = none) : FnOk P w K mg base CX0 (k + 1) f fd ["_law_script", "_law_k"] (spCell K) := by
  refine F.ok scCell (fun vs H Q E h => ?_) (fun cdv A outer s H vs Q E hr h => ?_)
  · obtain ⟨a, ns, k, rfl, _⟩ := h
    rfl
  · obtain ⟨a, ns, k, rfl, hS, q⟩ := h
    refine ⟨_, pss_cons (ps_if (pt_cmpR op_lt (pv 1) (pe_callB call_len_seq (by rfl) ml PySem.boot_len (pa_cons (pv 0) pa_nil)) (nomark _)) (pss_one (ps_ret (pe_ix ix_list (pv 0) (pv 1) (fun _ _ => rfl)))) pss_nil) (pss_one (ps_ret pe_int)), ?_⟩
    refine ⟨_, rfl, _, rfl, a, _, rfl, .inl hS, _, _, rfl, rfl, _, rfl, ite2 (fun e => ?_) (fun e => ?_)⟩
    · have e1 : (k : Int) < ((ns.map V.int).length : Int) := of_decide_eq_true e
      have e2 : k < ns.length := by
        rw [List.length_map] at e1
        omega
      have e3 : (ns.map V.int)[k]? = some (.int ns[k]) := by
        rw [List.getElem?_map, List.getElem?_eq_getElem e2]
        rfl
      exact ⟨_, rfl, _, rfl, a, _, _, _, rfl, rfl, hS, atI_nat e3, q _⟩
    · exact q 0
end
end CC
namespace CC
open PySem L2
/-! ### data in the heap -/
section
variable {K : PySem.W.Frag} {H H' : Hp}
theorem same_rd {a : Addr} {u : HO} (e : Same H H') (h : Rd H a u) : Rd H' a u := by
  rcases h with h | ⟨o, h⟩
  · exact .inl (e a _ h)
  · exact .inr ⟨o, e a _ h⟩
theorem same_l {a : Addr} {xs : List V} (e : Same H H') (h : SqL K H a xs) : SqL K H' a xs := by
  rcases h with h | h
  · exact .inl (same_rd e h)
  · exact .inr h
theorem same_t {a : Addr} {xs : List V} (e : Same H H') (h : SqT K H a xs) : SqT K H' a xs := by
  rcases h with h | h
  · exact .inl (same_rd e h)
  · exact .inr h
mutual
theorem dp_same (e : Same H H') : ∀ (d : PyData) (v : V), Dp K H v d → Dp K H' v d
  | .none, _, h => by cases h; exact .non
  | .bool b, _, h => by cases h; exact .bl b
  | .int i, _, h => by cases h; exact .int i
  | .str x, _, h => by cases h; exact .str x
  | .list ds, _, h => by
    cases h with
    | lst hs ha => exact .lst (same_l e hs) (dps_same e ds _ ha)
  | .tuple ds, _, h => by
    cases h with
    | tup hs ha => exact .tup (same_t e hs) (dps_same e ds _ ha)
  | .dict _, _, h => by cases h
theorem dps_same (e : Same H H') : ∀ (ds : List PyData) (vs : List V), DpAll K H vs ds → DpAll K H' vs ds
  | [], _, h => by cases h; exact .nil
  | d :: ds, _, h => by
    cases h with
    | cons h1 h2 => exact .cons (dp_same e d _ h1) (dps_same e ds _ h2)
end
theorem dps_len : ∀ {ds : List PyData} {vs : List V}, DpAll K H vs ds → vs.length = ds.length
  | [], _, h => by cases h; rfl
  | d :: ds, _, h => by
    cases h with
    | cons h1 h2 => exact congrArg (· + 1) (dps_len h2)
theorem dps_at : ∀ {ds : List PyData} {vs : List V} {i : Nat} {v : V}, DpAll K H vs ds → vs[i]? = some v → ∃ d, ds[i]? = some d ∧ Dp K H v d
  | [], _, i, v, h, e => by
    cases h
    simp at e
  | d :: ds, _, 0, v, h, e => by
    cases h with
    | cons h1 h2 => exact ⟨d, rfl, by simp at e; subst e; exact h1⟩
  | d :: ds, _, i + 1, v, h, e => by
    cases h with
    | cons h1 h2 => exact dps_at (i := i) h2 (by simpa using e)
theorem dps_to : ∀ {ds : List PyData} {vs : List V} {i : Nat} {d : PyData}, DpAll K H vs ds → ds[i]? = some d → ∃ v, vs[i]? = some v ∧ Dp K H v d
  | [], _, i, v, h, e => by
    cases h
    simp at e
  | d :: ds, _, 0, v, h, e => by
    cases h with
    | cons h1 h2 => exact ⟨_, rfl, by simp at e; subst e; exact h1⟩
  | d :: ds, _, i + 1, v, h, e => by
    cases h with
    | cons h1 h2 => exact dps_to (i := i) h2 (by simpa using e)
theorem dps_app : ∀ {ds es : List PyData} {vs us : List V}, DpAll K H vs ds → DpAll K H us es → DpAll K H (vs ++ us) (ds ++ es)
  | [], _, _, _, h, g => by
    cases h
    exact g
  | d :: ds, _, _, _, h, g => by
    cases h with
    | cons h1 h2 => exact .cons h1 (dps_app h2 g)
theorem dps_take : ∀ {ds : List PyData} {vs : List V} (n : Nat), DpAll K H vs ds → DpAll K H (vs.take n) (ds.take n)
  | _, _, 0, _ => .nil
  | [], _, n + 1, h => by
    cases h
    exact .nil
  | d :: ds, _, n + 1, h => by
    cases h with
    | cons h1 h2 => exact .cons h1 (dps_take n h2)
theorem dps_drop : ∀ {ds : List PyData} {vs : List V} (n : Nat), DpAll K H vs ds → DpAll K H (vs.drop n) (ds.drop n)
  | _, _, 0, h => h
  | [], _, n + 1, h => by
    cases h
    exact .nil
  | d :: ds, _, n + 1, h => by
    cases h with
    | cons h1 h2 => exact dps_drop n h2
theorem dps_one {v : V} {d : PyData} (h : Dp K H v d) : DpAll K H [v] [d] := .cons h .nil
theorem dps_ints : ∀ ns : List Int, DpAll K H (ns.map V.int) (ns.map PyData.int)
  | [] => .nil
  | n :: ns => .cons (.int n) (dps_ints ns)
theorem dps_bls : ∀ ns : List Bool, DpAll K H (ns.map V.bl) (ns.map PyData.bool)
  | [] => .nil
  | n :: ns => .cons (.bl n) (dps_bls ns)
theorem dp_l {v : V} {ds : List PyData} (h : Dp K H v (.list ds)) : ∃ p vs, v = .ref p ∧ SqL K H p vs ∧ DpAll K H vs ds := by
  cases h with
  | lst hs ha => exact ⟨_, _, rfl, hs, ha⟩
theorem dp_t {v : V} {ds : List PyData} (h : Dp K H v (.tuple ds)) : ∃ p vs, v = .ref p ∧ SqT K H p vs ∧ DpAll K H vs ds := by
  cases h with
  | tup hs ha => exact ⟨_, _, rfl, hs, ha⟩
theorem dp_int {v : V} {i : Int} (h : Dp K H v (.int i)) : v = .int i := by
  cases h
  rfl
theorem dp_str {v : V} {i : Str} (h : Dp K H v (.str i)) : v = .str i := by
  cases h
  rfl
theorem same_new {p : Addr} {o : HO} (h : H p = none) : Same H (upd H p o) := fun b x e => by
  rw [upd_ne (ne_of_none e h)]
  exact e
theorem same_mut {p : Addr} {o : HO} (e : Same H H') (h : H p = none) : Same H (upd H' p o) := fun b x q => by
  rw [upd_ne (ne_of_none q h)]
  exact e b x q
/-- the heap without one object -/
def wo (H : Hp) (s : Addr) : Hp := fun b => if b = s then none else H b
theorem wo_at (s : Addr) : wo H s s = none := by
  unfold wo
  rw [if_pos rfl]
theorem wo_ne {s b : Addr} (h : b ≠ s) : wo H s b = H b := by
  unfold wo
  rw [if_neg h]
theorem wo_le (s : Addr) : Same (wo H s) H := fun b o e => by
  by_cases h : b = s
  · subst h
    rw [wo_at] at e
    cases e
  · rw [wo_ne h] at e
    exact e
theorem wo_upd (s : Addr) (o : HO) : wo (upd H s o) s = wo H s := by
  funext b
  by_cases h : b = s
  · subst h
    rw [wo_at, wo_at]
  · rw [wo_ne h, wo_ne h, upd_ne h]
theorem wo_upd_ne {s p : Addr} (o : HO) (h : p ≠ s) : wo (upd H p o) s = upd (wo H s) p o := by
  funext b
  by_cases hb : b = s
  · subst hb
    rw [wo_at, upd_ne (Ne.symm h), wo_at]
  · rw [wo_ne hb]
    by_cases hp : b = p
    · subst hp
      rw [upd_same, upd_same]
    · rw [upd_ne hp, upd_ne hp, wo_ne hb]
theorem wo_same {s : Addr} (e : Same H H') : Same (wo H s) (wo H' s) := fun b o q => by
  by_cases h : b = s
  · subst h
    rw [wo_at] at q
    cases q
  · rw [wo_ne h] at q ⊢
    exact e b o q
theorem wo_ext {s : Addr} {o : HO} (e : Same (wo H s) (wo H' s)) (h' : H' s = some o) (h : H s = some o) : Same H H' := fun b u q => by
  by_cases hb : b = s
  · subst hb
    rw [h] at q
    rw [h', q]
  · have := e b u (by rw [wo_ne hb]; exact q)
    rw [wo_ne hb] at this
    exact this
end
/-! ### rules and pairs as data -/
structure R where
  k : Bool
  a : Nat
  b : Nat
  deriving DecidableEq
def kd (k : Bool) : Str := if k then "settles" else "within"
def R.d (r : R) : PyData := .tuple [.str (kd r.k), .int (r.a : Int), .int (r.b : Int)]
def prd (p : Nat × Nat) : PyData := .tuple [.int (p.1 : Int), .int (p.2 : Int)]
theorem kd_inj {j k : Bool} (h : kd j = kd k) : j = k := by
  revert h
  cases j <;> cases k <;> decide +kernel
theorem kd_ok (k : Bool) : PyData.strOk (kd k) = true := by
  cases k <;> decide +kernel
theorem rd_shaped (r : R) : SeqAt.shaped r.d = true := by
  show (r.d.canLay0 && decide (r.d.depth ≤ 64)) = true
  simp [R.d, PyData.canLay0, PyData.canLayAll0, PyData.depth, PyData.depthAll, kd_ok]
theorem prd_shaped (r : Nat × Nat) : SeqAt.shaped (prd r) = true := by
  show ((prd r).canLay0 && decide ((prd r).depth ≤ 64)) = true
  simp [prd, PyData.canLay0, PyData.canLayAll0, PyData.depth, PyData.depthAll]
theorem lay_all : ∀ {ds : List PyData}, (∀ d ∈ ds, SeqAt.shaped d = true) → PyData.canLayAll0 ds = true ∧ PyData.depthAll ds ≤ 64
  | [], _ => by simp [PyData.canLayAll0, PyData.depthAll]
  | d :: ds, h => by
    have h1 := h d (List.mem_cons_self)
    have h2 := lay_all (ds := ds) fun e he => h e (List.mem_cons_of_mem _ he)
    have h1 : (d.canLay0 && decide (d.depth ≤ 64)) = true := h1
    rw [Bool.and_eq_true, decide_eq_true_eq] at h1
    simp only [PyData.canLayAll0, PyData.depthAll, Bool.and_eq_true]
    refine ⟨⟨h1.1, h2.1⟩, ?_⟩
    omega
theorem rds_shaped (rs : List R) : SeqAt.shaped (.list (rs.map R.d)) = true := by
  have h : PyData.canLayAll0 (rs.map R.d) = true ∧ PyData.depthAll (rs.map R.d) ≤ 2 := by
    induction rs with
    | nil => simp [PyData.canLayAll0, PyData.depthAll]
    | cons r rs ih =>
      simp only [List.map_cons, PyData.canLayAll0, PyData.depthAll, R.d, PyData.canLay0, PyData.depth, Bool.and_eq_true]
      refine ⟨⟨by simp [kd_ok], ih.1⟩, ?_⟩
      have := ih.2
      omega
  show ((PyData.list (rs.map R.d)).canLay0 && decide ((PyData.list (rs.map R.d)).depth ≤ 64)) = true
  simp only [PyData.canLay0, PyData.depth, h.1, Bool.true_and]
  exact decide_eq_true (by have := h.2; omega)
theorem prds_shaped (rs : List (Nat × Nat)) : SeqAt.shaped (.list (rs.map prd)) = true := by
  have h : PyData.canLayAll0 (rs.map prd) = true ∧ PyData.depthAll (rs.map prd) ≤ 2 := by
    induction rs with
    | nil => simp [PyData.canLayAll0, PyData.depthAll]
    | cons r rs ih =>
      simp only [List.map_cons, PyData.canLayAll0, PyData.depthAll, prd, PyData.canLay0, PyData.depth, Bool.and_eq_true]
      refine ⟨⟨by simp, ih.1⟩, ?_⟩
      have := ih.2
      omega
  show ((PyData.list (rs.map prd)).canLay0 && decide ((PyData.list (rs.map prd)).depth ≤ 64)) = true
  simp only [PyData.canLay0, PyData.depth, h.1, Bool.true_and]
  exact decide_eq_true (by have := h.2; omega)
theorem rd_eqv (r s : R) : PyData.eqv r.d s.d = decide (r = s) := by
  obtain ⟨k, a, b⟩ := r
  obtain ⟨k', a', b'⟩ := s
  simp only [R.d, PyData.eqv, PyData.eqvAll, Bool.and_true]
  by_cases h : (⟨k, a, b⟩ : R) = ⟨k', a', b'⟩
  · rw [decide_eq_true h]
    cases h
    simp
  · rw [decide_eq_false h]
    by_cases hk : k = k'
    · subst hk
      have : ¬ (a = a' ∧ b = b') := fun z => h (by rw [z.1, z.2])
      simp
      intro z
      omega
    · have : ¬ kd k = kd k' := fun z => hk (kd_inj z)
      simp [this]
theorem prd_eqv (r s : Nat × Nat) : PyData.eqv (prd r) (prd s) = decide (r = s) := by
  obtain ⟨a, b⟩ := r
  obtain ⟨a', b'⟩ := s
  simp only [prd, PyData.eqv, PyData.eqvAll, Bool.and_true]
  by_cases h : (a, b) = (a', b')
  · rw [decide_eq_true h]
    cases h
    simp
  · rw [decide_eq_false h]
    have : ¬ (a = a' ∧ b = b') := fun z => h (by rw [z.1, z.2])
    simp
    intro z
    omega
theorem rds_any (rs : List R) (r : R) : ((rs.map R.d).any fun z => PyData.eqv z r.d) = decide (r ∈ rs) := by
  induction rs with
  | nil => simp
  | cons x rs ih =>
    rw [List.map_cons, List.any_cons, ih, rd_eqv]
    by_cases h : x = r
    · simp [h]
    · have : ¬ r = x := fun z => h z.symm
      simp [h, this]
theorem prds_any (rs : List (Nat × Nat)) (r : Nat × Nat) : ((rs.map prd).any fun z => PyData.eqv z (prd r)) = decide (r ∈ rs) := by
  induction rs with
  | nil => simp
  | cons x rs ih =>
    rw [List.map_cons, List.any_cons, ih, prd_eqv]
    by_cases h : x = r
    · simp [h]
    · have : ¬ r = x := fun z => h z.symm
      simp [h, this]
section
variable {K : PySem.W.Frag} {H H' : Hp}
theorem dp_r {v : V} {r : R} (h : Dp K H v r.d) : ∃ p, v = .ref p ∧ SqT K H p [.str (kd r.k), .int (r.a : Int), .int (r.b : Int)] := by
  obtain ⟨p, vs, rfl, hs, ha⟩ := dp_t h
  cases ha with
  | cons h1 h2 =>
    cases h2 with
    | cons h2 h3 =>
      cases h3 with
      | cons h3 h4 =>
        cases h4
        cases dp_str h1
        cases dp_int h2
        cases dp_int h3
        exact ⟨p, rfl, hs⟩
theorem r_dp {p : Addr} {r : R} (h : SqT K H p [.str (kd r.k), .int (r.a : Int), .int (r.b : Int)]) : Dp K H (.ref p) r.d := .tup h (.cons (.str _) (.cons (.int _) (.cons (.int _) .nil)))
theorem dp_p {v : V} {r : Nat × Nat} (h : Dp K H v (prd r)) : ∃ p, v = .ref p ∧ SqT K H p [.int (r.1 : Int), .int (r.2 : Int)] := by
  obtain ⟨p, vs, rfl, hs, ha⟩ := dp_t h
  cases ha with
  | cons h1 h2 =>
    cases h2 with
    | cons h2 h3 =>
      cases h3
      cases dp_int h1
      cases dp_int h2
      exact ⟨p, rfl, hs⟩
theorem p_dp {p : Addr} {r : Nat × Nat} (h : SqT K H p [.int (r.1 : Int), .int (r.2 : Int)]) : Dp K H (.ref p) (prd r) := .tup h (.cons (.int _) (.cons (.int _) .nil))
theorem dps_rat {rs : List R} {vs : List V} {i : Nat} {v : V} (h : DpAll K H vs (rs.map R.d)) (e : vs[i]? = some v) : ∃ r, rs[i]? = some r ∧ Dp K H v r.d := by
  obtain ⟨d, h1, h2⟩ := dps_at h e
  rw [List.getElem?_map] at h1
  cases q : rs[i]? with
  | none =>
    rw [q] at h1
    cases h1
  | some r =>
    rw [q] at h1
    cases h1
    exact ⟨r, rfl, h2⟩
theorem dps_pat {rs : List (Nat × Nat)} {vs : List V} {i : Nat} {v : V} (h : DpAll K H vs (rs.map prd)) (e : vs[i]? = some v) : ∃ r, rs[i]? = some r ∧ Dp K H v (prd r) := by
  obtain ⟨d, h1, h2⟩ := dps_at h e
  rw [List.getElem?_map] at h1
  cases q : rs[i]? with
  | none =>
    rw [q] at h1
    cases h1
  | some r =>
    rw [q] at h1
    cases h1
    exact ⟨r, rfl, h2⟩
end
end CC
namespace CC
open PySem L2
/-- what the top has left: the built-ins' names are free, the two constants -/
structure Glb (K : PySem.W.Frag) (mg : Str → Option Value) (kA : Addr) : Prop where
  len : mg "len" = none
  max : mg "max" = none
  min : mg "min" = none
  isi : mg "isinstance" = none
  int : mg "int" = none
  bool : mg "bool" = none
  str : mg "str" = none
  tup : mg "tuple" = none
  rng : mg "range" = none
  lst : mg "list" = none
  all : mg "all" = none
  set : mg "set" = none
  enu : mg "enumerate" = none
  rep : mg "repr" = none
  srt : mg "sorted" = none
  zip : mg "zip" = none
  any : mg "any" = none
  sum : mg "sum" = none
  rev : mg "reversed" = none
  dic : mg "dict" = none
  typ : mg "type" = none
  wid : ∃ t, mg "WIDEST" = some (.int 6 t)
  knd : mg "KINDS" = some (.ref kA)
  kseq : ∃ (o : Obj) (its : Array Value) (n : Nat), K.lookup kA = some o ∧ o.cls = .type "tuple" ∧ o.data = .seq its n ∧ its.size ≤ sizeLine ∧ Vals [.str "settles", .str "within"] its.toList
/-- a def of the top, as it stands -/
structure Df (K : PySem.W.Frag) (mg : Str → Option Value) (x : Str) (st : Stmt) (ps : List Str) where
  f : Addr
  fd : FuncData
  F : Fun K x x st f fd
  b : Binds K fd ps []
  g : mg x = some (.ref f)
/-- a def that keeps a promise -/
structure Cal (P : Program) (w : World) (K : PySem.W.Frag) (mg : Str → Option Value) (base : Heap) (x : Str) (ps : List Str) (sp : Sp) (l : Nat) where
  f : Addr
  fd : FuncData
  ok : ∀ k, l ≤ k → FnOk P w K mg base CX0 k f fd ps sp
  kp : PySem.W.keepIn K (.ref f) = true
  b : Binds K fd ps []
  g : mg x = some (.ref f)
def Df.cal {P : Program} {w : World} {K : PySem.W.Frag} {mg : Str → Option Value} {base : Heap} {x : Str} {st : Stmt} {ps : List Str} {sp : Sp} {l : Nat} (d : Df K mg x st ps) (h : ∀ k, FnOk P w K mg base CX0 (k + l) d.f d.fd ps sp) : Cal P w K mg base x ps sp l :=
  ⟨d.f, d.fd, fun k hk => (Nat.sub_add_cancel hk) ▸ h (k - l), d.F.kp, d.b, d.g⟩
abbrev sIsInt : Stmt := tp 6
abbrev sIsWidth : Stmt := tp 7
abbrev sIsCol : Stmt := tp 8
abbrev sIsRule : Stmt := tp 10
def spIsInt : Sp := fun vs H Q _ => ∃ z : Int, vs = [.int z] ∧ Q (.bl true) H
def spIsWidth : Sp := fun vs H Q _ => ∃ z : Nat, vs = [.int (z : Int)] ∧ 1 ≤ z ∧ z ≤ 6 ∧ Q (.bl true) H
def spIsCol : Sp := fun vs H Q _ => ∃ w z : Nat, vs = [.int (w : Int), .int (z : Int)] ∧ z < w ∧ Q (.bl true) H
/-- a rule for the width -/
def R.ok (w : Nat) (r : R) : Prop := r.a < w ∧ r.b < w ∧ r.a ≠ r.b
def spIsRule (K : PySem.W.Frag) : Sp := fun vs H Q _ => ∃ (w : Nat) (v : V) (r : R), vs = [.int (w : Int), v] ∧ Dp K H v r.d ∧ r.ok w ∧ Q (.bl true) H
section
variable {P : Program} {w : World} {K : PySem.W.Frag} {mg : Str → Option Value} {base : Heap} {kA : Addr}
theorem ty_tup {H : Hp} {p : Addr} {xs : List V} (h : SqT K H p xs) : TyX K H (.ref p) (.type "tuple") := by
  rcases h with (h | ⟨o, h⟩) | ⟨o, its, n, h, c, _⟩
  · exact .base (.tup h)
  · exact .fTuple h
  · exact .kTuple h c
theorem scIsInt : FnScope ["thing"] ["thing"] (defScope sIsInt) := ⟨rfl, rfl, rfl, by decide +kernel, rfl, by decide +kernel, by decide +kernel⟩
theorem ok_isint {f : Addr} {fd : FuncData} {k : Nat} (F : Fun K "is_an_integer" "is_an_integer" sIsInt f fd) (T : Glb K mg kA) : FnOk P w K mg base CX0 (k + 1) f fd ["thing"] spIsInt := by
  refine F.ok scIsInt (fun vs H Q E h => ?_) (fun cdv A outer s H vs Q E hr h => ?_)
  · obtain ⟨z, rfl, _⟩ := h
    rfl
  · obtain ⟨z, rfl, q⟩ := h
    refine ⟨_, pss_one (ps_ret (pe_and (pe_callB call_isi (by rfl) T.isi (by decide +kernel) (pa_cons (pv 0) (pa_cons (pe_bltn (v := .ty "int") (by rfl) T.int (by decide +kernel) rfl) pa_nil)))
      (pe_one (pe_not (pe_callB call_isi (by rfl) T.isi (by decide +kernel) (pa_cons (pv 0) (pa_cons (pe_bltn (v := .ty "bool") (by rfl) T.bool (by decide +kernel) rfl) pa_nil))))))), ?_⟩
    refine ⟨_, rfl, _, _, _, _, true, rfl, .ty _, .base (.int z), kit_ty (by decide +kernel), _, rfl, iteT ?_⟩
    exact ⟨_, rfl, _, _, _, _, false, rfl, .ty _, .base (.int z), kit_ty (by decide +kernel), _, rfl, q⟩
theorem scIsWidth : FnScope ["thing"] ["thing"] (defScope sIsWidth) := ⟨rfl, rfl, rfl, by decide +kernel, rfl, by decide +kernel, by decide +kernel⟩
theorem ok_iswidth {f : Addr} {fd : FuncData} {k : Nat} (F : Fun K "is_width" "is_width" sIsWidth f fd) (T : Glb K mg kA) (cI : Cal P w K mg base "is_an_integer" ["thing"] spIsInt 1) : FnOk P w K mg base CX0 (k + 2) f fd ["thing"] spIsWidth := by
  have GI := cI.ok (k + 1) (by omega)
  refine F.ok scIsWidth (fun vs H Q E h => ?_) (fun cdv A outer s H vs Q E hr h => ?_)
  · obtain ⟨z, rfl, _⟩ := h
    rfl
  · obtain ⟨z, rfl, h1, h2, q⟩ := h
    obtain ⟨tw, hw⟩ := T.wid
    refine ⟨_, pss_one (ps_ret (pe_and (pe_call GI hr rfl cI.g cI.kp cI.b .nil pass0 (pa_cons (pv 0) pa_nil))
      (pe_one (pe_chain op_le op_le pe_int (pv 0) (pe_glob (v := .int 6) rfl hw ⟨_, rfl⟩))))), ?_⟩
    refine ⟨_, rfl, _, rfl, _, rfl, iteT ?_⟩
    have e1 : decide ((1 : Int) ≤ (z : Int)) = true := decide_eq_true (by omega)
    have e2 : decide ((z : Int) ≤ (6 : Int)) = true := decide_eq_true (by omega)
    refine ⟨_, rfl, _, _, rfl, rfl, _, rfl, ?_⟩
    rw [e1]
    refine iteT ⟨_, _, rfl, rfl, ?_⟩
    show Q (.bl (decide ((z : Int) ≤ (6 : Int)))) H
    rw [e2]
    exact q
theorem scIsCol : FnScope ["width", "thing"] ["width", "thing"] (defScope sIsCol) := ⟨rfl, rfl, rfl, by decide +kernel, rfl, by decide +kernel, by decide +kernel⟩
theorem ok_iscol {f : Addr} {fd : FuncData} {k : Nat} (F : Fun K "is_column" "is_column" sIsCol f fd) (T : Glb K mg kA) (cI : Cal P w K mg base "is_an_integer" ["thing"] spIsInt 1) : FnOk P w K mg base CX0 (k + 2) f fd ["width", "thing"] spIsCol := by
  have GI := cI.ok (k + 1) (by omega)
  refine F.ok scIsCol (fun vs H Q E h => ?_) (fun cdv A outer s H vs Q E hr h => ?_)
  · obtain ⟨w, z, rfl, _⟩ := h
    rfl
  · obtain ⟨w, z, rfl, h1, q⟩ := h
    refine ⟨_, pss_one (ps_ret (pe_and (pe_call GI hr rfl cI.g cI.kp cI.b .nil pass0 (pa_cons (pv 1) pa_nil))
      (pe_one (pe_chain op_le op_lt pe_int (pv 1) (pv 0))))), ?_⟩
    refine ⟨_, rfl, _, rfl, _, rfl, iteT ?_⟩
    have e1 : decide ((0 : Int) ≤ (z : Int)) = true := decide_eq_true (by omega)
    have e2 : decide ((z : Int) < (w : Int)) = true := decide_eq_true (by omega)
    refine ⟨_, rfl, _, _, rfl, rfl, _, rfl, ?_⟩
    rw [e1]
    refine iteT ⟨_, rfl, _, _, rfl, rfl, ?_⟩
    show Q (.bl (decide ((z : Int) < (w : Int)))) H
    rw [e2]
    exact q
theorem scIsRule : FnScope ["width", "thing", "kind", "first", "second"] ["width", "thing"] (defScope sIsRule) := ⟨rfl, rfl, rfl, by decide +kernel, rfl, by decide +kernel, by decide +kernel⟩
theorem ok_isrule {f : Addr} {fd : FuncData} {k : Nat} (F : Fun K "is_rule" "is_rule" sIsRule f fd) (T : Glb K mg kA) 
 (cC : Cal P w K mg base "is_column" ["width", "thing"] spIsCol 2) : FnOk P w K mg base CX0 (k + 3) f fd ["width", "thing"] (spIsRule K) := by
  have GC := cC.ok (k + 2) (by omega)
  refine F.ok scIsRule (fun vs H Q E h => ?_) (fun cdv A outer s H vs Q E hr h => ?_)
  · obtain ⟨w, v, r, rfl, _⟩ := h
    rfl
  · obtain ⟨w, v, r, rfl, hd, ⟨h1, h2, h3⟩, q⟩ := h
    obtain ⟨p, rfl, hp⟩ := dp_r hd
    have hk : SqT K H kA [.str "settles", .str "within"] := .inr T.kseq
    have nd := scIsRule.nd
    refine ⟨_, pss_cons (ps_if (PW.pt (pw_or (pt_not (pt_val (pe_callB call_isi (by rfl) T.isi (by decide +kernel) (pa_cons (pv 1) (pa_cons (pe_bltn (v := .ty "tuple") (by rfl) T.tup (by decide +kernel) rfl) pa_nil)))))
          (pw_or1 (pt_cmpR op_ne (pe_callB call_len_seq (by rfl) T.len PySem.boot_len (pa_cons (pv 1) pa_nil)) pe_int (nomark _))))) (pss_one (ps_ret pe_bl)) pss_nil)
      (pss_cons (ps_asg (pv 1) (pg_tup rfl (pgs_cons (pg_name (i := 2) nd rfl (.inl rfl)) (pgs_cons (pg_name (i := 3) nd rfl (.inl rfl)) (pgs_cons (pg_name (i := 4) nd rfl (.inl rfl)) pgs_nil)))))
      (pss_cons (ps_if (PW.pt (pw_or (pt_not (pt_val (pe_callB call_isi (by rfl) T.isi (by decide +kernel) (pa_cons (pv 2) (pa_cons (pe_bltn (v := .ty "str") (by rfl) T.str (by decide +kernel) rfl) pa_nil)))))
          (pw_or1 (pt_cmpR op_notIn_seq (pv 2) (pe_glob (v := .ref kA) rfl T.knd rfl) (by rfl))))) (pss_one (ps_ret pe_bl)) pss_nil)
      (pss_one (ps_ret (pe_and (pe_call GC hr rfl cC.g cC.kp cC.b .nil pass0 (pa_cons (pv 0) (pa_cons (pv 3) pa_nil)))
        (pe_and (pe_call GC hr rfl cC.g cC.kp cC.b .nil pass0 (pa_cons (pv 0) (pa_cons (pv 4) pa_nil))) (pe_one (pe_cmpR op_ne (pv 3) (pv 4) (nomark _))))))))), ?_⟩
    refine ⟨_, rfl, _, _, _, _, true, rfl, .ty _, ty_tup hp, kit_ty (by decide +kernel), _, rfl, iteF ?_⟩
    refine ⟨_, rfl, p, _, rfl, .inr hp, rfl, _, rfl, iteF ?_⟩
    refine ⟨_, rfl, p, _, rfl, hp, rfl, _, _, rfl, _, _, rfl, _, _, rfl, rfl, ?_⟩
    refine ⟨_, rfl, _, _, _, _, true, rfl, .ty _, .base (.str _), kit_ty (by decide +kernel), _, rfl, iteF ?_⟩
    have ek : inV (.str (kd r.k)) [.str "settles", .str "within"] = true := by
      cases r.k <;> decide +kernel
    refine ⟨_, rfl, kA, _, rfl, .inr hk, rfl, rfl, _, rfl, ?_⟩
    rw [ek]
    refine iteF ?_
    refine ⟨_, rfl, _, rfl, w, r.a, rfl, h1, _, rfl, iteT ?_⟩
    refine ⟨_, rfl, _, rfl, w, r.b, rfl, h2, _, rfl, iteT ?_⟩
    refine ⟨_, rfl, _, rfl, rfl, ?_⟩
    have e3 : (!decide (V.int (r.a : Int) = V.int (r.b : Int))) = true := by
      rw [decide_eq_false (fun z => h3 (by injection z with z; omega))]
      rfl
    show Q (.bl (!decide (V.int (r.a : Int) = V.int (r.b : Int)))) H
    rw [e3]
    exact q
end
end CC
/-! A list comprehension of three clauses. -/
namespace C3
open PySem PySem.Spec PyProof.Rows L2
abbrev no : Value → Shared → Prop := fun _ _ => False
def turnOf (c : Expr) (k : Nat) (tg : Expr) (ps : Pos) (fs : List Expr) (env : Env) (acc : Value) (body : Sem Unit) (it : Value) : Sem Fin := do
  standAt ps
  match ← pyNext it with
  | none => pure (.done .next)
  | some v =>
    letOwnedTupleGo tg it v
    assign tg env v
    let mut ok := true
    for cd in fs do
      if ok then ok ← isTrue cd env (eval cd env)
    if ok then body
    again (.compLoop c k it acc env)
def nextOf (c : Expr) (k : Nat) (ix : Expr) (env : Env) (acc : Value) : Sem Unit := do
  let x ← eval ix env
  standAt ix.pos
  let x ← foldedSetIterable ix env x
  let _ ← runOwn (.compStart c k (← holding [x] (pyIter x)) acc env) env
def pushOf (ex : Expr) (env : Env) (acc : Value) : Sem Unit := do
  let _ ← call (.builtin "list.append") [acc, ← eval ex env]
section
variable {ex t0 i0 t1 i1 t2 i2 : Expr} {f0 f1 f2 : List Expr} {sc : Scope} {pos : Pos} {it acc : Value} {env : Env}
abbrev lc3 (ex t0 i0 t1 i1 t2 i2 : Expr) (f0 f1 f2 : List Expr) (sc : Scope) (pos : Pos) : Expr := .ListComp ex [⟨t0, i0, f0, 0⟩, ⟨t1, i1, f1, 0⟩, ⟨t2, i2, f2, 0⟩] sc pos
theorem turn0 : compTurn (lc3 ex t0 i0 t1 i1 t2 i2 f0 f1 f2 sc pos) 0 it acc env = turnOf (lc3 ex t0 i0 t1 i1 t2 i2 f0 f1 f2 sc pos) 0 t0 i0.pos f0 env acc (nextOf (lc3 ex t0 i0 t1 i1 t2 i2 f0 f1 f2 sc pos) 1 i1 env acc) it := by
  unfold turnOf
  refine congrArg (standAt i0.pos >>= ·) (funext fun _ => congrArg (pyNext it >>= ·) (funext fun r => ?_))
  cases r with
  | none => rfl
  | some v =>
    refine congrArg (letOwnedTupleGo t0 it v >>= ·) (funext fun _ => congrArg (assign t0 env v >>= ·) (funext fun _ => ?_))
    refine congrArg (fun k => forIn f0 true (fun c r => if r = true then do let ok ← isTrue c env (eval c env); pure (ForInStep.yield ok) else pure (ForInStep.yield r)) >>= k) (funext fun ok => ?_)
    cases ok with
    | false => rfl
    | true =>
      unfold nextOf
      simp only [bind_assoc, pure_bind, if_true]
      rfl
theorem turn1 : compTurn (lc3 ex t0 i0 t1 i1 t2 i2 f0 f1 f2 sc pos) 1 it acc env = turnOf (lc3 ex t0 i0 t1 i1 t2 i2 f0 f1 f2 sc pos) 1 t1 i1.pos f1 env acc (nextOf (lc3 ex t0 i0 t1 i1 t2 i2 f0 f1 f2 sc pos) 2 i2 env acc) it := by
  unfold turnOf
  refine congrArg (standAt i1.pos >>= ·) (funext fun _ => congrArg (pyNext it >>= ·) (funext fun r => ?_))
  cases r with
  | none => rfl
  | some v =>
    refine congrArg (letOwnedTupleGo t1 it v >>= ·) (funext fun _ => congrArg (assign t1 env v >>= ·) (funext fun _ => ?_))
    refine congrArg (fun k => forIn f1 true (fun c r => if r = true then do let ok ← isTrue c env (eval c env); pure (ForInStep.yield ok) else pure (ForInStep.yield r)) >>= k) (funext fun ok => ?_)
    cases ok with
    | false => rfl
    | true =>
      unfold nextOf
      simp only [bind_assoc, pure_bind, if_true]
      rfl
theorem turn2 : compTurn (lc3 ex t0 i0 t1 i1 t2 i2 f0 f1 f2 sc pos) 2 it acc env = turnOf (lc3 ex t0 i0 t1 i1 t2 i2 f0 f1 f2 sc pos) 2 t2 i2.pos f2 env acc (pushOf ex env acc) it := by rfl
end
section
variable {P : Program} {w : World} {A : Around} {R : Result → Shared → Prop} {s : Shared} {ex : Expr} {gs : List Comprehension} {sc : Scope} {pos : Pos} {k : Nat} {tg : Expr} {ps : Pos} {fs : List Expr} {it acc : Value} {env : Env} {body : Sem Unit}
theorem loopAny (e : compTurn (.ListComp ex gs sc pos) k it acc env = turnOf (.ListComp ex gs sc pos) k tg ps fs env acc body it) (J : Nat → Shared → Prop)
    (turn : ∀ n s, J n s → wpAny (model P w) A (pyNext it) (fun r s1 => match r with
      | none => R (.ok .next) s1
      | some v => wpAny (model P w) A (letOwnedTupleGo tg it v) (fun _ s2 => wpAny (model P w) A (assign tg env v) (fun _ s3 =>
          wpAny (model P w) A (forIn fs true fun c r => if r = true then do let ok ← isTrue c env (eval c env); pure (ForInStep.yield ok) else pure (ForInStep.yield r)) (fun ok s4 =>
            if ok = true then wpAny (model P w) A body (fun _ s5 => ∃ m, m < n ∧ J m s5) no s4 else ∃ m, m < n ∧ J m s4) no s3) no s2) no s1) no s)
    (n : Nat) (h : J n s) : codeAny (model P w) A (.compLoop (.ListComp ex gs sc pos) k it acc env) R s := by
  refine codeAny_loop rfl J (fun n s j => ?_) n h
  show wpAny _ A ((compTurn (.ListComp ex gs sc pos) k it acc env).onRaise (fun x => do noteFrame x env; theTreesLotGoes x)) _ _ s
  refine wpAny_noted ?_
  rw [e]
  unfold turnOf
  refine wpAny_bind (wpAny_standAt (wpAny_bind (thnF (turn n s j) fun r s1 h1 => ?_)))
  cases r with
  | none => exact wpAny_pure h1
  | some v =>
    refine wpAny_bind (thnF h1 fun _ s2 h2 => ?_)
    refine wpAny_bind (thnF h2 fun _ s3 h3 => wpAny_bind (thnF h3 fun ok s4 h4 => ?_))
    cases ok with
    | false => exact wpAny_pure ⟨rfl, h4⟩
    | true =>
      first
        | exact wpAny_bind (thnF h4 fun _ s5 h5 => wpAny_pure ⟨rfl, h5⟩)
        | exact wpAny_bind (wpAny_bind (thnF h4 fun _ s5 h5 => wpAny_pure (wpAny_pure ⟨rfl, h5⟩)))
end
/-! ### a clause within the block -/
abbrev TB := L2.St → Hp → (Hp → Prop) → Prop
def tPush (te : TE) (D : Addr) : TB := fun σ H N => te σ H fun y H1 => ∃ l, H1 D = some (.lst l) ∧ l.length < sizeLine ∧ N (upd H1 D (.lst (l ++ [y])))
def tTurn (J : It) (g : TG) (tt : TT) (vs : List Nat) (b : TB) (σ : L2.St) (W : Nat → Nat → Hp → Prop) (N : Hp → Prop) : Prop := ∀ i m H, W i m H →
  (J.stop i H ∧ N H) ∨ (J.go i H ∧ ∃ M : Hp → Prop, (∀ H', M H' → ∃ m', m' < m ∧ W (i + 1) m' H') ∧ ∀ x H', J.yld i H x H' → g x (wipe σ vs) H' fun τ H1 => wipe τ vs = wipe σ vs ∧ tt τ H1 fun y H2 => if y = true then b τ H2 M else M H2)
def tCl (wi : TI) (g : TG) (tt : TT) (vs : List Nat) (b : TB) : TB := fun σ H N => wi σ H fun J H1 => ∃ W : Nat → Nat → Hp → Prop, (∃ m, W 0 m H1) ∧ tTurn J g tt vs b σ W N
section
variable {X : Cx} {s0 : Shared} {H0 : Hp} {sc : Scope} {ce : Env} {fp : List Addr}
abbrev Bk (X : Cx) (s0 : Shared) (H0 : Hp) (sc : Scope) (ce : Env) (fp : List Addr) : Cx := X.blk s0 H0 sc ce fp
/-- what the body of a clause does, and which slots it forgets -/
def Does (X : Cx) (s0 : Shared) (H0 : Hp) (sc : Scope) (ce : Env) (fp : List Addr) (body : Sem Unit) (t : TB) (us : List Nat) : Prop :=
  ∀ (pins : List (Addr × Obj)) (s : Shared) (σ : L2.St) (H : Hp) (N : Hp → Prop), Inv (Bk X s0 H0 sc ce fp) pins σ H s → t σ H N →
    wpAny (model X.prog X.w) X.A body (fun _ s' => ∃ H', Inv (Bk X s0 H0 sc ce fp) pins (wipe σ us) H' s' ∧ N H') no s
theorem does_push {ex : Expr} {te : TE} {D : Addr} (pe : PE (Bk X s0 H0 sc ce fp) ex te) : Does X s0 H0 sc ce fp (pushOf ex ce (.ref D)) (tPush te D) [] := by
  intro pins s σ H N I h
  unfold pushOf
  refine wpAny_bind (thnF (pe.run pins s σ H _ I h) fun z s1 ⟨y, H1, I1, r, l, hl, hz, n⟩ => ?_)
  exact wpAny_bind (thnF (app_ok (E := no) (X := Bk X s0 H0 sc ce fp) (Q := fun _ s' => ∃ H', Inv (Bk X s0 H0 sc ce fp) pins (wipe σ []) H' s' ∧ N H') I1 hl hz r fun s2 I2 => ⟨_, I2, n⟩) fun _ s2 q => wpAny_pure q)
theorem level {ex : Expr} {gs : List Comprehension} {sb : Scope} {pos : Pos} {k : Nat} {tg : Expr} {ps : Pos} {fs : List Expr} {acc : Value} {body : Sem Unit} {g : TG} {tt : TT} {b : TB} {vs us : List Nat} (hc : X.calm = true) (te : ∀ it, compTurn (.ListComp ex gs sb pos) k it acc ce = turnOf (.ListComp ex gs sb pos) k tg ps fs ce acc body it)
    (pg : PG (Bk X s0 H0 sc ce fp) tg g) (pt : PTs (Bk X s0 H0 sc ce fp) fs tt) (bd : Does X s0 H0 sc ce fp body b us) (sub : ∀ i ∈ us, i ∈ vs)
    {pins : List (Addr × Obj)} {s : Shared} {σ : L2.St} {H : Hp} {N : Hp → Prop} {it : Addr} {fq : List Addr} {tn : Nat → Heap → Prop} {J : It} {W : Nat → Nat → Hp → Prop} {m : Nat} {R : Result → Shared → Prop}
    (I : Inv (Bk X s0 H0 sc ce fp) pins σ H s) (T : Turn X.prog X.w X.K tg J fq it tn) (st : tn 0 s.heap) (fo : ∀ b ∈ fq, FpOk (Bk X s0 H0 sc ce fp) pins H b) (w0 : W 0 m H) (tu : tTurn J g tt vs b σ W N)
    (fin : ∀ s' H', Inv (Bk X s0 H0 sc ce fp) pins (wipe σ vs) H' s' → N H' → R (.ok .next) s') :
    codeAny (model X.prog X.w) X.A (.compLoop (.ListComp ex gs sb pos) k (.ref it) acc ce) R s := by
  have fok : ∀ {H' : Hp}, (∀ b ∈ fq, H' b = none) → ∀ b ∈ fq, FpOk (Bk X s0 H0 sc ce fp) pins H' b := fun hn b hb => ⟨hn b hb, (fo b hb).2⟩
  refine loopAny (te _) (fun n s' => ∃ i H', Inv (Bk X s0 H0 sc ce fp) pins (wipe σ vs) H' s' ∧ tn i s'.heap ∧ (∀ b ∈ fq, H' b = none) ∧ W i n H') ?_ m ⟨0, H, I.weak (wipe_length _ _) (fun j v e => (wipe_some e).1), st, fun b hb => (fo b hb).1, w0⟩
  rintro n s1 ⟨i, H1, I1, st1, n1, w1⟩
  rcases tu i n H1 w1 with ⟨stop, nn⟩ | ⟨go, M, hM, step⟩
  · refine thnF (T.done (Bk X s0 H0 sc ce fp) rfl rfl rfl hc i _ s1 _ H1 no I1 (fok n1) st1 stop) fun r s2 ⟨hr, I2⟩ => ?_
    subst hr
    exact fin s2 H1 I2 nn
  · refine thnF (T.item (Bk X s0 H0 sc ce fp) rfl rfl rfl hc i _ s1 _ H1 no I1 (fok n1) st1 go) fun r s2 ⟨u, hr, h2⟩ => ?_
    subst hr
    refine thnF h2 fun _ s3 ⟨x, H3, I3, r3, y3, st3, n3⟩ => ?_
    have I3' := I3.pinned (fok n3) (T.obj _ _ st3)
    refine thnF (pg.run _ s3 _ H3 x u _ I3' r3 (step x H3 y3)) fun _ s4 ⟨τ, H4, I4, hw, q4⟩ => ?_
    refine thnF (pt.run _ s4 τ H4 _ I4 q4) fun ok s5 ⟨H5, I5, q5⟩ => ?_
    have ended : ∀ {s' : Shared} {H' : Hp}, Inv (Bk X s0 H0 sc ce fp) (pins ++ pinsAt fq s3.heap) (wipe τ us) H' s' → M H' → ∃ m, m < n ∧ ∃ i H', Inv (Bk X s0 H0 sc ce fp) pins (wipe σ vs) H' s' ∧ tn i s'.heap ∧ (∀ b ∈ fq, H' b = none) ∧ W i m H' := fun {s' H'} I' mm => by
      obtain ⟨m', hm, w'⟩ := hM H' mm
      have kp : ∀ b ∈ fq, ∀ o, s3.heap.get? b = some o → s'.heap.get? b = some o ∧ H' b = none := fun b hb o e =>
        have z := I'.pin (b, o) (List.mem_append_right _ (List.mem_append_right _ (mem_pinsAt hb e)))
        ⟨z.1, z.2.1⟩
      refine ⟨m', hm, i + 1, H', I'.unpinned.weak (by rw [wipe_length, wipe_length, ← wipe_length τ vs, hw, wipe_length]) (fun j v e => ?_), T.keep _ _ _ st3 fun b hb o e => (kp b hb o e).1, fun b hb => ?_, w'⟩
      · rw [← hw] at e
        obtain ⟨e1, e2⟩ := wipe_some e
        rw [wipe_out fun z => e2 (sub j z)]
        exact e1
      · obtain ⟨o, e, _⟩ := T.obj _ _ st3 b hb
        exact (kp b hb o e).2
    cases ok with
    | false =>
      simp only [Bool.false_eq_true, if_false] at q5 ⊢
      exact ended (I5.weak (wipe_length _ _) fun j v e => (wipe_some e).1) q5
    | true =>
      simp only [if_true] at q5 ⊢
      exact thnF (bd _ s5 τ H5 _ I5 q5) fun _ s6 ⟨H6, I6, q6⟩ => ended I6 q6
theorem does_next {ex : Expr} {gs : List Comprehension} {sb : Scope} {pos : Pos} {k : Nat} {tg ix : Expr} {ps : Pos} {fs : List Expr} {D : Addr} {body : Sem Unit} {wi : TI} {g : TG} {tt : TT} {b : TB} {vs us : List Nat} (hc : X.calm = true) (hce : (Bk X s0 H0 sc ce fp).env = ce)
    (te : ∀ it, compTurn (.ListComp ex gs sb pos) k it (.ref D) ce = turnOf (.ListComp ex gs sb pos) k tg ps fs ce (.ref D) body it)
    (cs : ∀ {it : Value} {R : Result → Shared → Prop} {s : Shared}, codeAny (model X.prog X.w) X.A (.compLoop (.ListComp ex gs sb pos) k it (.ref D) ce) R s → wpAny (model X.prog X.w) X.A (pyIter it) (fun it' s' => codeAny (model X.prog X.w) X.A (.compLoop (.ListComp ex gs sb pos) k it' (.ref D) ce) R s') no s → codeAny (model X.prog X.w) X.A (.compStart (.ListComp ex gs sb pos) k it (.ref D) ce) R s)
    (fo : ∀ x, foldedSetIterable ix ce x = pure x) (pi : PI (Bk X s0 H0 sc ce fp) tg ix wi) (pg : PG (Bk X s0 H0 sc ce fp) tg g) (pt : PTs (Bk X s0 H0 sc ce fp) fs tt) (bd : Does X s0 H0 sc ce fp body b us) (sub : ∀ i ∈ us, i ∈ vs) :
    Does X s0 H0 sc ce fp (nextOf (.ListComp ex gs sb pos) k ix ce (.ref D)) (tCl wi g tt vs b) vs := by
  intro pins s σ H N I h
  unfold nextOf
  refine wpAny_bind (thnF (pi.run pins s σ H _ I h) fun xv s1 hx => ?_)
  refine wpAny_bind (wpAny_standAt (wpAny_bind (wpAny_of_eq (fo xv) (wpAny_bind (wpAny_holding (thnF hx fun itv s2 h2 => ?_))))))
  obtain ⟨it, fq, tn, J, H2, rfl, I2, T, st2, f2, W, ⟨m, w0⟩, tu⟩ := h2
  refine wpAny_bind (wpAny_runOwn ?_)
  rw [Around.mark_none]
  have lp : codeAny (model X.prog X.w) X.A (.compLoop (.ListComp ex gs sb pos) k (.ref it) (.ref D) ce) (fun r s' => match r with
      | .ok _ => ∃ H', Inv (Bk X s0 H0 sc ce fp) pins (wipe σ vs) H' s' ∧ N H'
      | .error _ => False) s2 := level hc te pg pt bd sub I2 T st2 f2 w0 tu fun s' H' I' n => ⟨H', I', n⟩
  refine codeAny_mono (cs lp (T.self X.A 0 _ _ _ st2 lp)) fun r s' hr => ?_
  cases r with
  | ok f => exact wpAny_pure hr
  | error e => exact hr.elim
end
section
variable {P : Program} {w : World} {A : Around} {R : Result → Shared → Prop} {s : Shared} {ex t0 i0 t1 i1 t2 i2 : Expr} {f0 f1 f2 : List Expr} {sc : Scope} {pos : Pos} {it acc : Value} {env : Env}
theorem start1 (h0 : codeAny (model P w) A (.compLoop (lc3 ex t0 i0 t1 i1 t2 i2 f0 f1 f2 sc pos) 1 it acc env) R s)
    (h : wpAny (model P w) A (pyIter it) (fun it' s' => codeAny (model P w) A (.compLoop (lc3 ex t0 i0 t1 i1 t2 i2 f0 f1 f2 sc pos) 1 it' acc env) R s') no s) :
    codeAny (model P w) A (.compStart (lc3 ex t0 i0 t1 i1 t2 i2 f0 f1 f2 sc pos) 1 it acc env) R s := by
  refine codeAny_of_tree ?_
  show wpAny _ _ ((compStart (lc3 ex t0 i0 t1 i1 t2 i2 f0 f1 f2 sc pos) 1 it acc env).onRaise (fun x => do noteFrame x env; standAt theWindowsPlace)) _ _ s
  refine wpAny_notedAt ?_
  unfold compStart
  show wpAny _ _ (ask >>= _) _ _ s
  refine wpAny_bind (wpAny_askSetting (wpAny_ite ?_))
  split
  · first
      | exact wpAny_bind (wpAny_pure (wpAny_pure ⟨rfl, h0⟩))
      | exact wpAny_pure ⟨rfl, h0⟩
  · refine wpAny_bind (wpAny_rule ?_)
    show wpAny _ _ (standAt i1.pos >>= _) _ _ s
    exact wpAny_bind (wpAny_standAt (wpAny_bind (thnF h fun it' s' h' => wpAny_pure ⟨rfl, h'⟩)))
theorem start2 (h0 : codeAny (model P w) A (.compLoop (lc3 ex t0 i0 t1 i1 t2 i2 f0 f1 f2 sc pos) 2 it acc env) R s)
    (h : wpAny (model P w) A (pyIter it) (fun it' s' => codeAny (model P w) A (.compLoop (lc3 ex t0 i0 t1 i1 t2 i2 f0 f1 f2 sc pos) 2 it' acc env) R s') no s) :
    codeAny (model P w) A (.compStart (lc3 ex t0 i0 t1 i1 t2 i2 f0 f1 f2 sc pos) 2 it acc env) R s := by
  refine codeAny_of_tree ?_
  show wpAny _ _ ((compStart (lc3 ex t0 i0 t1 i1 t2 i2 f0 f1 f2 sc pos) 2 it acc env).onRaise (fun x => do noteFrame x env; standAt theWindowsPlace)) _ _ s
  refine wpAny_notedAt ?_
  unfold compStart
  show wpAny _ _ (ask >>= _) _ _ s
  refine wpAny_bind (wpAny_askSetting (wpAny_ite ?_))
  split
  · first
      | exact wpAny_bind (wpAny_pure (wpAny_pure ⟨rfl, h0⟩))
      | exact wpAny_pure ⟨rfl, h0⟩
  · refine wpAny_bind (wpAny_rule ?_)
    show wpAny _ _ (standAt i2.pos >>= _) _ _ s
    exact wpAny_bind (wpAny_standAt (wpAny_bind (thnF h fun it' s' h' => wpAny_pure ⟨rfl, h'⟩)))
end
section
variable {X : Cx}
def tLc3 (wi : TI) (g : TG) (tt : TT) (b : Addr → TB) (ws : List Nat) : TE := fun σ H Q => wi σ H fun J H1 => ∀ D, H1 D = none → ∃ W : Nat → Nat → Hp → Prop, (∃ m, W 0 m (upd H1 D (.lst []))) ∧ tTurn J g tt ws (b D) (wipe σ ws) W fun H' => Q (.ref D) H'
theorem pe_lc3 {ex t0 i0 t1 i1 t2 i2 : Expr} {f0 f1 f2 : List Expr} {scope : Scope} {pos : Pos} {own : List (Str × Nat)} {v1 v2 : List Nat} {w0 w1 w2 : TI} {g0 g1 g2 : TG} {e0 e1 e2 : TT} {te : TE} (hc : X.calm = true) (hN : X.N.Nodup) (hi : PI X t0 i0 w0)
    (ok : BlkOk X.N X.env.scope scope own) (sub1 : ∀ i ∈ v1, i ∈ own.map (·.2)) (sub2 : ∀ i ∈ v2, i ∈ v1)
    (hg : ∀ (s : Shared) (H : Hp) (C : Addr) (cl : List (Str × Addr)) (fp : List Addr), PG (X.blk s H scope (compEnvC scope cl C X.env) fp) t0 g0) (ht : ∀ (s : Shared) (H : Hp) (C : Addr) (cl : List (Str × Addr)) (fp : List Addr), PTs (X.blk s H scope (compEnvC scope cl C X.env) fp) f0 e0) (hi1 : ∀ (s : Shared) (H : Hp) (C : Addr) (cl : List (Str × Addr)) (fp : List Addr), PI (X.blk s H scope (compEnvC scope cl C X.env) fp) t1 i1 w1) (hg1 : ∀ (s : Shared) (H : Hp) (C : Addr) (cl : List (Str × Addr)) (fp : List Addr), PG (X.blk s H scope (compEnvC scope cl C X.env) fp) t1 g1) (ht1 : ∀ (s : Shared) (H : Hp) (C : Addr) (cl : List (Str × Addr)) (fp : List Addr), PTs (X.blk s H scope (compEnvC scope cl C X.env) fp) f1 e1)
    (hi2 : ∀ (s : Shared) (H : Hp) (C : Addr) (cl : List (Str × Addr)) (fp : List Addr), PI (X.blk s H scope (compEnvC scope cl C X.env) fp) t2 i2 w2) (hg2 : ∀ (s : Shared) (H : Hp) (C : Addr) (cl : List (Str × Addr)) (fp : List Addr), PG (X.blk s H scope (compEnvC scope cl C X.env) fp) t2 g2) (ht2 : ∀ (s : Shared) (H : Hp) (C : Addr) (cl : List (Str × Addr)) (fp : List Addr), PTs (X.blk s H scope (compEnvC scope cl C X.env) fp) f2 e2) (he : ∀ (s : Shared) (H : Hp) (C : Addr) (cl : List (Str × Addr)) (fp : List Addr), PE (X.blk s H scope (compEnvC scope cl C X.env) fp) ex te)
    (fs0 : ∀ x, foldedSetIterable i0 X.env x = pure x := by intro _; rfl) (fs1 : ∀ env x, foldedSetIterable i1 env x = pure x := by intro _ _; rfl) (fs2 : ∀ env x, foldedSetIterable i2 env x = pure x := by intro _ _; rfl) :
    PE X (lc3 ex t0 i0 t1 i1 t2 i2 f0 f1 f2 scope pos) (tLc3 w0 g0 e0 (fun D => tCl w1 g1 e1 v1 (tCl w2 g2 e2 v2 (tPush te D))) (own.map (·.2))) := by
  refine ⟨fun pins s σ H Q I h => ?_⟩
  rw [eval_ListComp]
  have fre : ∀ y ∈ scope.names, y.2 = .free → ∃ c, X.env.cells.lookup y.1 = some c := fun y hy e => by
    rcases ok.free y hy e with z | z
    · exact I.ok.has _ (.inl z)
    · exact I.ok.has _ (.inr z)
  refine wpAny_comprehension_free (use := none) rfl fs0 (closure_ok fre) ok.kind (fun y hy e => by rw [ok.uniq y hy, e]) (thn (hi.run pins s σ H _ I h) fun xv s1 hx => thn hx fun itv s2 h2 => ?_)
  obtain ⟨it, fp, tn, J, H2, rfl, I2, T, st2, f2', q⟩ := h2
  refine wpAny_newObj_type (newEnv_comp ?_) (by show 0 ≤ sizeLine; decide)
  obtain ⟨D, hD⟩ : ∃ D, D = s2.heap.objs.size := ⟨_, rfl⟩
  rw [← hD]
  obtain ⟨W, ⟨m0, wz⟩, turn⟩ := q D (I2.hok.fresh (by rw [hD]; exact Nat.le_refl _))
  obtain ⟨nl, hnl⟩ : ∃ nl : Obj, nl = { cls := .type "list", data := .seq ([] : List Value).toArray } := ⟨_, rfl⟩
  rw [← hnl]
  obtain ⟨s3, hs3⟩ : ∃ s3 : Shared, s3 = { s2 with heap := s2.heap.push nl } := ⟨_, rfl⟩
  have I3 : Inv X pins σ (upd H2 D (.lst [])) s3 := by
    rw [hs3]
    refine I2.laid (t' := s2.toks) (fun b o e => Heap.get?_push_of_some _ e) (by rw [hD]; exact Nat.le_refl _) ⟨Nat.zero_le _, [], 0, .nil, ?_⟩
    rw [hD, hnl]
    exact Heap.get?_push_size _ rfl
  have lt2 : ∀ b ∈ fp, b < s2.heap.objs.size := fun b hb => by
    obtain ⟨o, e, _⟩ := T.obj _ _ st2 b hb
    exact Heap.lt_size e
  have f3 : ∀ b ∈ fp, FpOk X pins (upd H2 D (.lst [])) b ∧ b < s3.heap.objs.size := fun b hb => by
    have z := lt2 b hb
    refine ⟨⟨?_, (f2' b hb).2⟩, by rw [hs3]; show b < (s2.heap.push nl).objs.size; rw [Heap.size_push]; exact Nat.lt_succ_of_lt z⟩
    rw [upd_ne (by rw [hD]; exact Nat.ne_of_lt z)]
    exact (f2' b hb).1
  have st3 : tn 0 s3.heap := T.keep _ _ _ st2 fun b _ o e => by
    rw [hs3]
    exact Heap.get?_push_of_some _ e
  have I4 := block_start I3 ok hN f3
  obtain ⟨cl, hcl⟩ : ∃ cl, cl = cellsFrom (s3.heap.objs.size + 1) scope.names (cloFrom X.env.cells scope.names []) := ⟨_, rfl⟩
  obtain ⟨H3, hH3⟩ : ∃ H3, H3 = upd H2 D (.lst []) := ⟨_, rfl⟩
  obtain ⟨ce, hce⟩ : ∃ ce, ce = compEnvC scope cl s3.heap.objs.size X.env := ⟨_, rfl⟩
  obtain ⟨s4, hs4⟩ : ∃ s4 : Shared, s4 = { s3 with heap := pushCells (s3.heap.push { cls := .type "dict", data := .dict #[] }) scope.names } := ⟨_, rfl⟩
  have cL : ce.locals = s3.heap.objs.size := by
    rw [hce]
    rfl
  have st4 : tn 0 s4.heap := T.keep _ _ _ st3 fun b _ o e => by
    rw [hs4]
    exact pushCells_keeps _ _ _ _ (Heap.get?_push_of_some _ e)
  have p0 := hg s3 H3 s3.heap.objs.size cl fp
  have p1 := ht s3 H3 s3.heap.objs.size cl fp
  have p2 := hi1 s3 H3 s3.heap.objs.size cl fp
  have p3 := hg1 s3 H3 s3.heap.objs.size cl fp
  have p4 := ht1 s3 H3 s3.heap.objs.size cl fp
  have p5 := hi2 s3 H3 s3.heap.objs.size cl fp
  have p6 := hg2 s3 H3 s3.heap.objs.size cl fp
  have p7 := ht2 s3 H3 s3.heap.objs.size cl fp
  have p8 := he s3 H3 s3.heap.objs.size cl fp
  rw [← hcl, ← hH3, ← hce, ← hs4] at I4
  rw [← hce] at p0 p1 p2 p3 p4 p5 p6 p7 p8
  rw [← hH3] at I3 f3 wz
  have stat : ∀ b ∈ fp, FpOk (Bk X s3 H3 scope ce fp) [] H3 b := fun b hb =>
    ⟨(f3 b hb).1.1, (I4.ok.exf b hb).1, I4.ok.exfs b hb, .inl hb, fun x c e => (I4.ok.exf b hb).2 x c e, fun p hp => absurd (show p ∈ ([] : List (Addr × Obj)) ++ [] from hp) (by simp)⟩
  have d2 := does_push (D := D) p8
  have d1 := does_next (D := D) (body := pushOf ex ce (.ref D)) hc rfl (fun it => turn2 (ex := ex) (t0 := t0) (i0 := i0) (t1 := t1) (i1 := i1) (t2 := t2) (i2 := i2) (f2 := f2) (f0 := f0) (f1 := f1) (sc := scope) (pos := pos)) start2 (fs2 ce) p5 p6 p7 d2 (vs := v2) (fun i hi => nomatch hi)
  have d0 := does_next (D := D) hc rfl (fun it => turn1 (ex := ex) (t0 := t0) (i0 := i0) (t1 := t1) (i1 := i1) (f1 := f1) (t2 := t2) (i2 := i2) (f0 := f0) (f2 := f2) (sc := scope) (pos := pos)) start1 (fs1 ce) p2 p3 p4 d1 (vs := v1) sub2
  have loop : codeAny (model X.prog X.w) X.A (.compLoop (lc3 ex t0 i0 t1 i1 t2 i2 f0 f1 f2 scope pos) 0 (.ref it) (.ref D) ce) (compPost (model X.prog X.w) X.A X.xe none (EP X pins σ Q) (.ref D) s3.heap.objs.size) s4 := by
    refine level hc (fun it => turn0) p0 p1 d0 sub1 I4 T st4 stat wz turn fun s6 H6 I6 nn => ?_
    have I7 : Inv X pins σ H6 s6 := I3.call' (ch := fp) I6.os I6.base I6.hok I6.bare fun b hb => ⟨(f3 b hb).1.2.2.2.1, (f3 b hb).1.2.1, (f3 b hb).1.2.2.2.2.1, (f3 b hb).1.2.2.2.2.2⟩
    have nC : H6 s3.heap.objs.size = none := by
      rw [← cL]
      exact I6.free
    obtain ⟨m, hn, _⟩ := I6.loc
    have hn : s6.heap.Ns ce.locals m := hn
    rw [cL] at hn
    refine ⟨m, hn, fun h'' sb => ?_⟩
    obtain ⟨y0, y1, y2, y3, y4, y5⟩ := I3.fpOk (Nat.le_refl _) nC
    exact ⟨.ref D, H6, I7.turned (t' := s6.toks) (fun b o hb e => (sb.2 b hb).trans e) y0 y1 y3 y4 y5, rfl, nn⟩
  have done := codeAny_compStart_list loop (T.self X.A 0 _ _ _ st4 loop)
  rw [hce, hcl, hs4, hs3] at done
  exact done
end
end C3
namespace CC
open PySem L2
/-! ### a list that is being made at D, its items seen through a view of the heap that D is not part of -/
section
variable {K : PySem.W.Frag} {D : Addr} {H0 H H' : Hp} {Vw : Hp → Hp} {G : Hp → Prop} {P : Nat → List PyData → Prop} {i : Nat} {us : List V} {ds : List PyData}
structure Made (K : PySem.W.Frag) (Vw : Hp → Hp) (G : Hp → Prop) (P : Nat → List PyData → Prop) (H0 : Hp) (D : Addr) (i : Nat) (H : Hp) (us : List V) (ds : List PyData) : Prop where
  same : Same (Vw H0) (Vw H)
  more : G H
  lst : H D = some (.lst us)
  dat : DpAll K (Vw H) us ds
  inv : P i ds
  len : us.length ≤ i
def MadeI (K : PySem.W.Frag) (Vw : Hp → Hp) (G : Hp → Prop) (P : Nat → List PyData → Prop) (H0 : Hp) (D : Addr) (i : Nat) (H : Hp) : Prop := ∃ us ds, Made K Vw G P H0 D i H us ds
theorem Made.start (v1 : ∀ H o, Vw (upd H D o) = Vw H) (v3 : ∀ H o, G H → G (upd H D o)) (g0 : G H0) (p0 : P 0 []) : MadeI K Vw G P H0 D 0 (upd H0 D (.lst [])) :=
  ⟨[], [], by rw [v1]; exact Same.refl _, v3 _ _ g0, upd_same, .nil, p0, Nat.le_refl _⟩
theorem Made.push (p : Made K Vw G P H0 D i H us ds) (h9 : i < 100000) (v1 : ∀ H o, Vw (upd H D o) = Vw H) (v3 : ∀ H o, G H → G (upd H D o)) {y : V} {d : PyData} {j : Nat} (hj : i < j) (q1 : Dp K (Vw H') y d) (q2 : P j (ds ++ [d])) (q3 : Same (Vw H) (Vw H')) (q4 : H' D = H D) (q5 : G H') :
    ∃ acc, H' D = some (.lst acc) ∧ acc.length < sizeLine ∧ MadeI K Vw G P H0 D j (upd H' D (.lst (acc ++ [y]))) := by
  refine ⟨us, q4.trans p.lst, Nat.lt_of_le_of_lt p.len (Nat.lt_of_lt_of_le h9 (by decide)), us ++ [y], ds ++ [d], ?_, v3 _ _ q5, upd_same, ?_, q2, by rw [List.length_append]; exact Nat.le_trans (Nat.succ_le_succ p.len) hj⟩
  · rw [v1]
    exact p.same.trans q3
  · rw [v1]
    exact dps_app (dps_same q3 _ _ p.dat) (dps_one q1)
theorem Made.skip (p : Made K Vw G P H0 D i H us ds) {j : Nat} (hj : i ≤ j) (q2 : P j ds) (q3 : Same (Vw H) (Vw H')) (q4 : H' D = H D) (q5 : G H') : MadeI K Vw G P H0 D j H' :=
  ⟨us, ds, p.same.trans q3, q5, q4.trans p.lst, dps_same q3 _ _ p.dat, q2, Nat.le_trans p.len hj⟩
end
/-! the plain view: the heap without D -/
abbrev Tr : Hp → Prop := fun _ => True
abbrev MadeP (K : PySem.W.Frag) (P : Nat → List PyData → Prop) (H0 : Hp) (D : Addr) (i : Nat) (H : Hp) : Prop := MadeI K (fun H => wo H D) Tr P H0 D i H
section
variable {K : PySem.W.Frag} {D : Addr} {H0 H H' : Hp} {P : Nat → List PyData → Prop} {i : Nat} {us : List V} {ds : List PyData}
theorem madeP_start (p0 : P 0 []) : MadeP K P H0 D 0 (upd H0 D (.lst [])) := Made.start (fun H o => wo_upd D o) (fun _ _ z => z) trivial p0
theorem madeP_push (p : Made K (fun H => wo H D) Tr P H0 D i H us ds) (h9 : i < 100000) {y : V} {d : PyData} {j : Nat} (hj : i < j) (q3 : Same H H') (q1 : Dp K (wo H' D) y d) (q2 : P j (ds ++ [d])) :
    ∃ acc, H' D = some (.lst acc) ∧ acc.length < sizeLine ∧ MadeP K P H0 D j (upd H' D (.lst (acc ++ [y]))) :=
  p.push h9 (fun H o => wo_upd D o) (fun _ _ z => z) hj q1 q2 (wo_same q3) ((q3 _ _ p.lst).trans p.lst.symm) trivial
theorem madeP_skip (p : Made K (fun H => wo H D) Tr P H0 D i H us ds) {j : Nat} (hj : i ≤ j) (q3 : Same H H') (q2 : P j ds) : MadeP K P H0 D j H' :=
  p.skip hj q2 (wo_same q3) ((q3 _ _ p.lst).trans p.lst.symm) trivial
/-- what stood before the list, still stands -/
theorem Made.old (p : Made K (fun H => wo H D) Tr P H0 D i H us ds) (n : H0 D = none) : Same H0 H := fun b o e => wo_le D _ _ (p.same b o (by rw [wo_ne (ne_of_none e n)]; exact e))
/-- a new tuple in the view -/
theorem tup_new {t : Addr} {xs : List V} {u : HO} (hD : H D = some u) (n : H t = none) : SqT K (wo (upd H t (.tup xs)) D) t xs := by
  have ne : t ≠ D := (ne_of_none hD n).symm
  rw [wo_upd_ne _ ne]
  exact .inl (.inl upd_same)
/-- the made list, whole -/
theorem Made.dp (p : Made K (fun H => wo H D) Tr P H0 D i H us ds) : Dp K H (.ref D) (.list ds) := .lst (.inl (.inl p.lst)) (dps_same (wo_le D) _ _ p.dat)
end
theorem yes_if {σ : L2.St} {H : Hp} {A B : Hp → Prop} (h : A H) : tYes σ H fun y H3 => if y = true then A H3 else B H3 := by
  show if true = true then A H else B H
  exact iteT h
/-! ### the columns 0 .. z - 1 as values -/
def cols (z : Nat) : List V := (List.range z).map fun (i : Nat) => V.int (i : Int)
theorem cols_len (z : Nat) : (cols z).length = z := by rw [cols, List.length_map, List.length_range]
theorem cols_at {z i : Nat} {x : V} (h : (cols z)[i]? = some x) : i < z ∧ x = .int (i : Int) := by
  rw [cols, List.getElem?_map] at h
  by_cases hi : i < z
  · rw [List.getElem?_range hi] at h
    exact ⟨hi, (Option.some.inj h).symm⟩
  · rw [List.getElem?_eq_none (by rw [List.length_range]; omega)] at h
    cases h
theorem cols_rg (z : Nat) : rgV 0 (z : Int) = cols z := by
  unfold rgV cols
  rw [show ((z : Int) - 0).toNat = z by omega]
  refine List.map_congr_left fun i _ => ?_
  rw [Int.zero_add]
/-! ### all rules for a width -/
def row (w a : Nat) (k : Bool) : List R := ((List.range w).filter fun b => decide (a ≠ b)).map fun b => ⟨k, a, b⟩
def allR (w : Nat) : List R := [true, false].flatMap fun k => (List.range w).flatMap fun a => row w a k
end CC
namespace CC
open PySem L2
/-! ### a list of things of one shape that is being made at D -/
section
variable {α : Type} {f : α → PyData} {K : PySem.W.Frag} {H0 H H' : Hp} {D : Addr} {n m : Nat} {rs rs' : List α}
def MadeF (f : α → PyData) (K : PySem.W.Frag) (H0 : Hp) (D : Addr) (n : Nat) (H : Hp) (rs : List α) : Prop := ∃ us, Same (wo H0 D) (wo H D) ∧ H D = some (.lst us) ∧ DpAll K (wo H D) us (rs.map f) ∧ us.length ≤ n
theorem MadeF.start : MadeF f K H0 D 0 (upd H0 D (.lst [])) [] := by
  refine ⟨[], ?_, upd_same, .nil, Nat.le_refl _⟩
  rw [wo_upd]
  exact Same.refl _
theorem MadeF.up (p : MadeF f K H0 D n H rs) (h : n ≤ m) (e : rs = rs') : MadeF f K H0 D m H rs' := by
  obtain ⟨us, p1, p2, p3, p4⟩ := p
  subst e
  exact ⟨us, p1, p2, p3, Nat.le_trans p4 h⟩
theorem MadeF.push {r : α} {y : V} (p : MadeF f K H0 D n H rs) (h9 : n < 100000) (hm : n < m) (q3 : Same H H') (q1 : Dp K (wo H' D) y (f r)) :
    ∃ acc, H' D = some (.lst acc) ∧ acc.length < sizeLine ∧ MadeF f K H0 D m (upd H' D (.lst (acc ++ [y]))) (rs ++ [r]) := by
  obtain ⟨us, p1, p2, p3, p4⟩ := p
  refine ⟨us, q3 _ _ p2, Nat.lt_of_le_of_lt p4 (Nat.lt_of_lt_of_le h9 (by decide)), us ++ [y], ?_, upd_same, ?_, ?_⟩
  · rw [wo_upd]
    exact p1.trans (wo_same q3)
  · rw [wo_upd, List.map_append]
    exact dps_app (dps_same (wo_same q3) _ _ p3) (dps_one q1)
  · rw [List.length_append]
    exact Nat.le_trans (Nat.succ_le_succ p4) hm
theorem MadeF.keep (p : MadeF f K H0 D n H rs) (q3 : Same H H') (h : n ≤ m) (e : rs = rs') : MadeF f K H0 D m H' rs' := by
  obtain ⟨us, p1, p2, p3, p4⟩ := p
  subst e
  exact ⟨us, p1.trans (wo_same q3), q3 _ _ p2, dps_same (wo_same q3) _ _ p3, Nat.le_trans p4 h⟩
theorem MadeF.old (p : MadeF f K H0 D n H rs) (h : H0 D = none) : Same H0 H := fun b o e => by
  obtain ⟨us, p1, _⟩ := p
  exact wo_le D _ _ (p1 b o (by rw [wo_ne (ne_of_none e h)]; exact e))
theorem MadeF.tup {t : Addr} {xs : List V} (p : MadeF f K H0 D n H rs) (nt : H t = none) : SqT K (wo (upd H t (.tup xs)) D) t xs := by
  obtain ⟨us, _, p2, _⟩ := p
  exact tup_new p2 nt
theorem free_back (e : Same H H') {a : Addr} (h : H' a = none) : H a = none := e.free h
end
/-- what a def that hands back a new list of such things promises -/
def NewF {α : Type} (f : α → PyData) (K : PySem.W.Frag) (H : Hp) (rs : List α) (Q : VK) : Prop := ∀ (p : Addr) (us : List V) (H' : Hp), Same H H' → H p = none → H' p = some (.lst us) → DpAll K (wo H' p) us (rs.map f) → Q (.ref p) H'
theorem MadeF.out {α : Type} {f : α → PyData} {K : PySem.W.Frag} {H H0 H' : Hp} {D : Addr} {n : Nat} {rs : List α} {Q : VK} (p : MadeF f K H0 D n H' rs) (h : H0 D = none) (s : Same H H0) (q : NewF f K H rs Q) : Q (.ref D) H' := by
  have o := p.old h
  obtain ⟨us, p1, p2, p3, p4⟩ := p
  exact q D us H' (s.trans o) (s.free h) p2 p3
abbrev g3 (K : PySem.W.Frag) (i j k : Nat) : TG := gTup K 3 (gCons (gName i) (gCons (gName j) (gCons (gName k) gNil)))
abbrev g2 (K : PySem.W.Frag) (i j : Nat) : TG := gTup K 2 (gCons (gName i) (gCons (gName j) gNil))
end CC
/-! A set made of a list or tuple of things of one kind, and how many members it has. -/
namespace SG
open PySem PySem.Spec PyProof.Rows L2
section kinds
variable {P : Program} {w : World} {κ : Type} [DecidableEq κ] {kn : KeyKind P w κ} {A : Around} {E : Value → Shared → Prop} {s : Shared}
/-- things of the kind come from no class statement, and hash by their value -/
structure Tame (kn : KeyKind P w κ) : Prop where
  cls : ∀ (n : Nat) (k : κ) (v : Value), kn.is k v = true → ofAClassStatement n v = pure false
  byv : ∀ (n : Nat) (k : κ) (v : Value), kn.is k v = true → ∃ b, hashByValue n v = pure b
theorem tame_mix : Tame (mixKind P w) := by
  constructor
  · intro n k v h
    rcases keyIs_shape h with ⟨i, t, _, rfl⟩ | ⟨x, t, _, rfl⟩ <;> cases n <;> rfl
  · intro n k v h
    rcases keyIs_shape h with ⟨i, t, _, rfl⟩ | ⟨x, t, _, rfl⟩ <;> exact ⟨_, hashByValue_scannable n rfl⟩
theorem each_is {ks : List κ} {us : List Value} (h : ItemsAre kn ks us) : ∀ u ∈ us, ∃ k, kn.is k u = true := by
  induction h with
  | nil => exact fun u hu => nomatch hu
  | @cons k v _ _ q _ ih =>
    intro u hu
    cases hu with
    | head => exact ⟨k, q⟩
    | tail _ hu => exact ih u hu
theorem tup_cls (Tm : Tame kn) {ks : List κ} {b : Addr} {Q : Bool → Shared → Prop} (hb : IsTupleKey kn s.heap ks b) (q : Q false s) : wpAny (model P w) A (ofAClassStatement 8 (.ref b)) Q E s := by
  have ty := hb.typeIs
  obtain ⟨ob, its, m, g1, _, g2, g3⟩ := hb
  unfold ofAClassStatement
  refine wpAny_bind (wpAny_typeOf ty ?_)
  dsimp only
  have e0 : (("tuple" : String) == "tuple") = true := by decide
  simp only [e0, if_true, Bool.not_true, Bool.false_eq_true, if_false]
  try refine wpAny_bind (wpAny_pure ?_)
  try simp only [Bool.not_true, Bool.false_eq_true, if_false]
  show wpAny _ _ (seqItems? (.ref b) >>= _) _ _ s
  refine wpAny_bind (wpAny_seqItems g1 g2 ?_)
  dsimp only
  refine wpAny_bind ?_
  show wpAny _ _ (forIn its _ _) _ _ s
  rw [← Array.forIn_toList]
  refine wpAny_forIn_list _ (fun left r s' => r.1 = none ∧ s' = s ∧ ∀ u ∈ left, ∃ k, kn.is k u = true) _ ?_ ?_ _ _ ⟨rfl, rfl, each_is g3⟩
  · rintro u left r s' ⟨hr, rfl, al⟩
    obtain ⟨k, hk⟩ := al u List.mem_cons_self
    rw [Tm.cls _ k u hk]
    refine wpAny_bind (wpAny_pure ?_)
    simp only [Bool.false_eq_true, if_false]
    exact wpAny_pure ⟨rfl, rfl, fun x hx => al x (List.mem_cons_of_mem _ hx)⟩
  · rintro ⟨r1, r2⟩ s' ⟨hr, rfl, _⟩
    simp only at hr
    subst hr
    exact wpAny_pure q
theorem tup_byv (Tm : Tame kn) {ks : List κ} {b : Addr} {Q : Bool → Shared → Prop} (hb : IsTupleKey kn s.heap ks b) (q : ∀ y, Q y s) : wpAny (model P w) A (hashByValue 8 (.ref b)) Q E s := by
  have ty := hb.typeIs
  obtain ⟨ob, its, m, g1, _, g2, g3⟩ := hb
  unfold hashByValue
  refine wpAny_bind (wpAny_specialOf ty F.slot_tuple_hash.lookup ?_)
  show wpAny _ _ (seqItems? (.ref b) >>= _) _ _ s
  refine wpAny_bind (wpAny_seqItems g1 g2 ?_)
  refine wpAny_bind ?_
  show wpAny _ _ (forIn its _ _) _ _ s
  rw [← Array.forIn_toList]
  refine wpAny_forIn_list _ (fun left r s' => s' = s ∧ ∀ u ∈ left, ∃ k, kn.is k u = true) _ ?_ ?_ _ _ ⟨rfl, each_is g3⟩
  · rintro u left r s' ⟨rfl, al⟩
    obtain ⟨k, hk⟩ := al u List.mem_cons_self
    obtain ⟨y, hy⟩ := Tm.byv 7 k u hk
    rw [hy]
    refine wpAny_bind (wpAny_pure ?_)
    cases y with
    | true =>
      simp only [Bool.not_true, Bool.false_eq_true, if_false]
      exact wpAny_pure ⟨rfl, fun x hx => al x (List.mem_cons_of_mem _ hx)⟩
    | false =>
      simp only [Bool.not_false, if_true]
      exact wpAny_pure (wpAny_pure (q _))
  · rintro ⟨r1, r2⟩ s' ⟨rfl, _⟩
    cases r1 with
    | none => exact wpAny_pure (q _)
    | some y => exact wpAny_pure (q _)
theorem tup_unseen (Tm : Tame kn) {ks : List κ} {b : Addr} {Q : Bool → Shared → Prop} (hb : IsTupleKey kn s.heap ks b) {us : List Value} (hus : ∀ u ∈ us, ∃ js c, u = Value.ref c ∧ IsTupleKey kn s.heap js c) (q : Q false s) :
    wpAny (model P w) A (searchCouldBeSeen (.ref b) us) Q E s := by
  unfold searchCouldBeSeen
  refine wpAny_bind ?_
  refine wpAny_forIn_list _ (fun left r s' => r.1 = none ∧ s' = s ∧ ∀ u ∈ left, ∃ js c, u = Value.ref c ∧ IsTupleKey kn s.heap js c) _ ?_ ?_ _ _ ⟨rfl, rfl, hus⟩
  · rintro u left r s' ⟨hr, rfl, al⟩
    obtain ⟨js, c, rfl, hc⟩ := al u List.mem_cons_self
    have al2 : ∀ x ∈ left, ∃ js c, x = Value.ref c ∧ IsTupleKey kn s'.heap js c := fun x hx => al x (List.mem_cons_of_mem _ hx)
    dsimp only
    by_cases hv : (b == c || (carriedByValue (.ref b) && carriedByValue (.ref c))) = true
    · exact wp_if_pos hv (wpAny_pure ⟨rfl, rfl, al2⟩)
    · refine wp_if_neg hv (wpAny_bind (wpAny_eqIsQuiet_tuple hb ?_))
      simp only [Bool.not_true, Bool.false_eq_true, if_false]
      refine wpAny_bind (wpAny_eqIsQuiet_tuple hc ?_)
      simp only [Bool.not_true, Bool.false_eq_true, if_false]
      refine wpAny_bind (tup_cls Tm hb ?_)
      simp only [Bool.false_eq_true, if_false]
      refine wpAny_bind (tup_cls Tm hc ?_)
      simp only [Bool.false_eq_true, if_false]
      exact wpAny_pure ⟨rfl, rfl, al2⟩
  · rintro ⟨r1, r2⟩ s' ⟨hr, rfl, _⟩
    simp only at hr
    subst hr
    exact wpAny_pure q
/-! ### a set of tuples of the kind -/
abbrev hs (kn : KeyKind P w κ) (k : List κ) : Int := tupleKeyHash kn k
abbrev Mem (κ : Type) := Addr × List κ
def ents (kn : KeyKind P w κ) (M : List (Mem κ)) : List (Int × Value) := M.map fun m => (hs kn m.2, Value.ref m.1)
structure TSet (kn : KeyKind P w κ) (h : Heap) (a : Addr) (M : List (Mem κ)) (es : Array (Int × Value)) (ep : Nat) (t : SetTable) : Prop where
  obj : ∃ o, h.get? a = some o ∧ o.ExactSet ∧ o.data = .set es ep t
  ent : es.toList = ents kn M
  tok : TabOk t (M.map fun m => hs kn m.2)
  uni : (M.map (·.2)).Nodup
  mem : ∀ m ∈ M, IsTupleKey kn h m.2 m.1
  led : w.params.followText "set-order" = true ∨ t.led = true
  rom : M.length * 5 < t.mask * 3
  few : M.length < 64
variable {a : Addr} {M : List (Mem κ)} {es : Array (Int × Value)} {ep : Nat} {t : SetTable}
theorem ents_len (e : es.toList = ents kn M) : es.size = M.length := by
  have q := congrArg List.length e
  rw [ents, List.length_map, Array.length_toList] at q
  exact q
theorem ents_at (e : es.toList = ents kn M) {i : Nat} {m : Mem κ} (h : M[i]? = some m) : es[i]? = some (hs kn m.2, Value.ref m.1) := by
  rw [← Array.getElem?_toList, e, ents, List.getElem?_map, h]
  rfl
theorem fits_of (T : TabOk t (M.map fun m => hs kn m.2)) (n : es.size = M.length) (r : M.length ≤ t.mask) : t.fits es.size = true := by
  have z := T.sz
  rw [List.length_map] at z
  unfold SetTable.fits SetTable.fill
  rw [T.dm, Bool.and_eq_true, beq_iff_eq, decide_eq_true_eq]
  show t.place.size = es.size ∧ t.place.size + 0 ≤ t.mask
  omega
theorem TSet.fit (S : TSet kn s.heap a M es ep t) : t.fits es.size = true := fits_of S.tok (ents_len S.ent) (by have := S.rom; omega)
theorem nodummy (m : Nat) : ∀ (n : Nat) (p : SetTable.Probe), p.dummy = none → (nth m p n).dummy = none
  | 0, _, h => h
  | n + 1, p, h => nodummy m n (adv m p) (by unfold adv; split <;> exact h)
abbrev st0 (m : Nat) (h : Int) : SetTable.Probe := runAt m (SetTable.bits h % (m + 1)) (SetTable.bits h)
/-- the search along the way, from its c-th step -/
theorem look (Tm : Tame kn) (S : TSet kn s.heap a M es ep t) {x : Addr} {k : List κ} (hx : IsTupleKey kn s.heap k x) (hu : A.units < cLine) {N : Nat} (hN : N < 10 * SetTable.turns t.mask)
    (fr : way t.mask (hs kn k) N ∉ t.place.toList) (oc : ∀ c, c < N → way t.mask (hs kn k) c ∈ t.place.toList) {Q : SetFound → Shared → Prop}
    (yes : k ∈ M.map (·.2) → Q (.there none) s) (no : k ∉ M.map (·.2) → Q (.free (way t.mask (hs kn k) N) false) s) :
    ∀ (f c : Nat) (sd : Option SetTable.Probe), sd.getD (t.probeStart (hs kn k)) = nth t.mask (st0 t.mask (hs kn k)) c → c ≤ N → N - c < f →
      (∀ (i : Nat) m, M[i]? = some m → m.2 = k → ∃ d, c ≤ d ∧ d < N ∧ t.place.toList[i]? = some (way t.mask (hs kn k) d)) →
      wpAny (model P w) A (setSearchFrom a (.ref x) (hs kn k) true f sd) Q E s
  | 0, _, _, _, _, z, _ => absurd z (Nat.not_lt_zero _)
  | f + 1, c, sd, hsd, hc, hf, ahead => by
    obtain ⟨ob, g1, g2, g3⟩ := S.obj
    rw [setSearchFrom_succ]
    refine wpAny_bind (wpAny_setState_of g1 g3 S.fit ?_)
    dsimp only
    have gw : ¬ t.gaveWay = true := by
      unfold SetTable.gaveWay
      rw [mask_odd S.tok.mok]
      decide
    refine wp_if_neg gw ?_
    try refine wpAny_bind (wpAny_pure ?_)
    have shift : ∀ q, nth t.mask (nth t.mask (st0 t.mask (hs kn k)) c) q = nth t.mask (st0 t.mask (hs kn k)) (c + q) := fun q => (nth_add t.mask c _ q).symm
    have at_ : ∀ q, (nth t.mask (nth t.mask (st0 t.mask (hs kn k)) c) q).j = way t.mask (hs kn k) (c + q) := fun q => congrArg SetTable.Probe.j (shift q)
    have last : c + (N - c) = N := by omega
    have told := go_spec t S.tok.ris S.tok.dm (fun i => (es[i]?.map (·.1)).getD 0) (hs kn k) (10 * SetTable.turns t.mask) (N - c) _ (nodummy t.mask c (st0 t.mask (hs kn k)) rfl) (by omega)
      (fun q hq => by rw [at_]; exact oc _ (by omega)) (by rw [at_, last]; exact fr)
    have hsh : ∀ (i : Nat) m, M[i]? = some m → (fun i => (es[i]?.map (·.1)).getD 0) i = hs kn m.2 := fun i m hm => by
      show (es[i]?.map (·.1)).getD 0 = _
      rw [ents_at S.ent hm]
      rfl
    rcases told with ⟨q, i, hq, hi, _, before, ans⟩ | ⟨before, ans⟩
    · have ans' : t.probe (fun i => (es[i]?.map (·.1)).getD 0) (hs kn k) (sd.getD (t.probeStart (hs kn k))) = some (.candidate (way t.mask (hs kn k) (c + q)) i (nth t.mask (st0 t.mask (hs kn k)) (c + (q + 1)))) := by
        rw [hsd, ← at_, ← shift]
        exact ans
      rw [ans']
      dsimp only
      rw [at_] at hi
      have il : i < M.length := by
        have z1 := (List.getElem?_eq_some_iff.mp hi).1
        have z2 := S.tok.sz
        rw [List.length_map] at z2
        rw [Array.length_toList] at z1
        omega
      obtain ⟨m, hm⟩ : ∃ m, M[i]? = some m := ⟨_, List.getElem?_eq_getElem il⟩
      have mm : m ∈ M := List.mem_of_getElem? hm
      have go : wpAny (model P w) A (searchRest a (.ref x) (hs kn k) true f es t (way t.mask (hs kn k) (c + q)) i (nth t.mask (st0 t.mask (hs kn k)) (c + (q + 1)))) Q E s := by
        unfold searchRest
        rw [ents_at S.ent hm]
        dsimp only
        refine wpAny_bind (wpAny_holding (wpAny_eqBool_tuple hu (S.mem m mm) hx ?_))
        refine wpAny_bind (wpAny_setState_of g1 g3 S.fit ?_)
        dsimp only
        by_cases same : m.2 = k
        · exact wp_if_pos (by simp [same]) (wpAny_pure (yes (List.mem_map.mpr ⟨m, mm, same⟩)))
        · refine wp_if_neg (by simp [same]) ?_
          try refine wpAny_bind (wpAny_pure ?_)
          rw [sameMem]
          dsimp only
          have live : t.slot (way t.mask (hs kn k) (c + q)) = .live i := slot_live S.tok.ris hi
          simp only [if_true, live, ents_at S.ent hm]
          refine wpAny_bind (wpAny_isSame_ref_self (wpAny_bind (wpAny_pure ?_)))
          simp only [if_true]
          refine wp_if_neg (by simp [same]) ?_
          refine look Tm S hx hu hN fr oc yes no f (c + (q + 1)) _ rfl (by omega) (by omega) fun j n hj hn => ?_
          obtain ⟨d, d1, d2, d3⟩ := ahead j n hj hn
          refine ⟨d, ?_, d2, d3⟩
          rcases Nat.lt_trichotomy d (c + q) with z | z | z
          · have z0 : c + (d - c) = d := by omega
            refine absurd ((hsh j n hj).trans (congrArg (hs kn) hn)) (before (d - c) j (by omega) ?_)
            rw [at_, z0]
            exact d3
          · rw [z] at d3
            have z1 := slot_live S.tok.ris d3
            rw [live] at z1
            injection z1 with z1
            rw [← z1, hm] at hj
            exact absurd ((congrArg Prod.snd (Option.some.inj hj)).trans hn) same
          · omega
      by_cases hl : t.led = true
      · refine wp_if_neg (by simp [hl]) ?_
        try refine wpAny_bind (wpAny_pure ?_)
        exact go
      · refine wp_if_pos (by simp [hl]) ?_
        refine wpAny_bind (tup_unseen Tm hx (fun u hu2 => ?_) ?_)
        · obtain ⟨e, he, ee⟩ := List.mem_map.mp hu2
          have he1 : e ∈ es ∧ e.1 = hs kn k := by simpa using he
          have he2 : e ∈ es.toList := by simpa using he1.1
          rw [S.ent] at he2
          obtain ⟨n, hn, rfl⟩ := List.mem_map.mp he2
          exact ⟨n.2, n.1, ee.symm, S.mem n hn⟩
        · refine wp_if_neg (by decide) ?_
          try refine wpAny_bind (wpAny_pure ?_)
          exact go
    · have ans' : t.probe (fun i => (es[i]?.map (·.1)).getD 0) (hs kn k) (sd.getD (t.probeStart (hs kn k))) = some (.empty (way t.mask (hs kn k) N) none) := by
        have z : way t.mask (hs kn k) N = (nth t.mask (nth t.mask (st0 t.mask (hs kn k)) c) (N - c)).j := by rw [at_, last]
        rw [hsd, z]
        exact ans
      rw [ans']
      dsimp only
      refine wpAny_pure (no fun hm => ?_)
      obtain ⟨m, mm, ek⟩ := List.mem_map.mp hm
      obtain ⟨j, hj⟩ := List.mem_iff_getElem?.mp mm
      obtain ⟨d, d1, d2, d3⟩ := ahead j m hj ek
      have z0 : c + (d - c) = d := by omega
      refine absurd ((hsh j m hj).trans (congrArg (hs kn) ek)) (before (d - c) j (by omega) ?_)
      rw [at_, z0]
      exact d3
theorem look0 (Tm : Tame kn) (S : TSet kn s.heap a M es ep t) {x : Addr} {k : List κ} (hx : IsTupleKey kn s.heap k x) (hu : A.units < cLine) {Q : SetFound → Shared → Prop} (yes : k ∈ M.map (·.2) → Q (.there none) s)
    (no : ∀ N, k ∉ M.map (·.2) → way t.mask (hs kn k) N ∉ t.place.toList → (∀ c, c < N → way t.mask (hs kn k) c ∈ t.place.toList) → Q (.free (way t.mask (hs kn k) N) false) s) :
    wpAny (model P w) A (setSearch a (.ref x) (hs kn k) true) Q E s := by
  have rm := S.rom
  obtain ⟨N, n1, n2, n3⟩ := S.tok.first (by rw [List.length_map]; omega) (hs kn k)
  have big : N < 100000 := by
    have : 10 * SetTable.turns t.mask ≤ 1420 := by
      unfold SetTable.turns
      rcases S.tok.mok with e | e | e <;> omega
    omega
  unfold setSearch
  refine look Tm S hx hu n1 n2 n3 yes (fun z => no N z n2 n3) 100000 0 none rfl (Nat.zero_le _) (by omega) fun i m hm ek => ?_
  have z1 : (M.map fun m => hs kn m.2)[i]? = some (hs kn k) := by
    rw [List.getElem?_map, hm, ← ek]
    rfl
  have z2 : i < t.place.toList.length := by
    have y1 : i < M.length := (List.getElem?_eq_some_iff.mp hm).1
    have y2 := S.tok.sz
    rw [List.length_map] at y2
    rw [Array.length_toList]
    omega
  obtain ⟨d, d1, d2⟩ := S.tok.before n2 z1 (List.getElem?_eq_getElem z2)
  exact ⟨d, Nat.zero_le _, d1, by rw [List.getElem?_eq_getElem z2, d2]⟩
/-! ### laid anew, and added to -/
theorem key_else {h h' : Heap} {k : List κ} {b : Addr} {o : Obj} (hb : IsTupleKey kn h k b) (ho : h.get? a = some o) (hd : o.data = .set es ep t) (sb : Heap.SameBut a h h') : IsTupleKey kn h' k b := by
  obtain ⟨o2, its, n, g1, g2, g3, g4⟩ := hb
  have ne : b ≠ a := fun z => by
    rw [z, ho] at g1
    rw [← Option.some.inj g1, hd] at g3
    exact nomatch g3
  exact ⟨o2, its, n, (sb.2 b ne).trans g1, g2, g3, g4⟩
theorem pick_len {α : Type} (l : List α) : ∀ n, n ≤ l.length → (List.range n).filterMap (fun i => l[i]?) = l.take n
  | 0, _ => by simp
  | n + 1, h => by
    rw [List.range_succ, List.filterMap_append, pick_len l n (by omega), List.take_succ, List.getElem?_eq_getElem h]
    simp [List.filterMap, List.getElem?_eq_getElem h]
theorem pick (e : es.toList = ents kn M) : ∀ js : List Nat, (∀ j ∈ js, j < M.length) →
    js.filterMap (fun j => es[j]?) = ents kn (js.filterMap fun j => M[j]?) ∧ ((js.filterMap fun j => M[j]?).map fun m => hs kn m.2) = js.map fun j => (es.map (·.1)).getD j 0
  | [], _ => ⟨rfl, rfl⟩
  | j :: js, h => by
    have hj : j < M.length := h j List.mem_cons_self
    obtain ⟨i1, i2⟩ := pick e js fun i hi => h i (List.mem_cons_of_mem _ hi)
    have g := List.getElem?_eq_getElem hj
    have z : (es.map (·.1)).getD j 0 = hs kn M[j].2 := by
      have z1 : (es.map (·.1))[j]? = some (hs kn M[j].2) := by
        rw [Array.getElem?_map, ents_at e g]
        rfl
      simp [Array.getD_eq_getD_getElem?, z1]
    constructor
    · rw [List.filterMap_cons_some (ents_at e g), List.filterMap_cons_some g, i1]
      rfl
    · rw [List.filterMap_cons_some g, List.map_cons, List.map_cons, i2, z]
theorem grow {o : Obj} (g1 : s.heap.get? a = some o) (g2 : o.ExactSet) (g3 : o.data = .set es ep t) (en : es.toList = ents kn M) (T : TabOk t (M.map fun m => hs kn m.2)) (fl : M.length ≤ t.mask)
    (un : (M.map (·.2)).Nodup) (me : ∀ m ∈ M, IsTupleKey kn s.heap m.2 m.1) (ld : w.params.followText "set-order" = true ∨ t.led = true) (fw : M.length < 64) {want B : Nat}
    (w1 : SetTable.sizeAbove want - 1 = B) (w2 : MaskOk B) (w3 : SetTable.sizeAbove want ≤ 128) (w4 : M.length * 5 < B * 3) {Q : Unit → Shared → Prop}
    (q : ∀ h' M' es' ep' t', Heap.SameBut a s.heap h' → TSet kn h' a M' es' ep' t' → M'.Perm M → Q () { s with heap := h' }) : wpAny (model P w) A (setRelay a want) Q E s := by
  have n := ents_len en
  obtain ⟨t', order, e1, pm, T', e2, e3, _, _⟩ := relaid_ok t (hs := es.map (·.1)) (wanted := want) w1 w2 (by rw [Array.size_map, n]; omega)
  rw [Array.size_map, n] at pm
  obtain ⟨p1, p2⟩ := pick en order.toList fun j hj => List.mem_range.mp (pm.mem_iff.mp hj)
  have pm2 : (order.toList.filterMap fun j => M[j]?).Perm M := by
    have z := pm.filterMap fun j => M[j]?
    rw [pick_len M M.length (Nat.le_refl _), List.take_length] at z
    exact z
  generalize order.toList.filterMap (fun j => M[j]?) = M' at p1 p2 pm2
  rw [← p2] at T'
  have p3 : (order.filterMap (es[·]?)).toList = ents kn M' := by
    first
      | (rw [Array.toList_filterMap]; exact p1)
      | simpa using p1
  have n2 := ents_len p3
  have n3 := pm2.length_eq
  rw [setRelay_eq]
  refine wpAny_bind (wpAny_setState_of g1 g3 (fits_of T n fl) ?_)
  dsimp only
  refine wp_if_neg (by rw [sizeLine_eq]; omega) ?_
  try refine wpAny_bind (wpAny_pure ?_)
  rw [e1]
  dsimp only
  refine wpAny_bind (wp_if_neg (by rw [n2, n3, n]; simp) ?_)
  try refine wpAny_bind (wpAny_pure ?_)
  refine wpAny_pure ?_
  dsimp only
  refine wpAny_storeSet_of g1 g3 ?_ (by rw [n2, n3, sizeLine_eq]; omega)
  have sb : Heap.SameBut a s.heap (s.heap.update a (Obj.putSet (order.filterMap (es[·]?)) t')) := Heap.SameBut.update ..
  refine q _ M' _ (ep + 1) t' sb ⟨⟨_, store_at g1 g3, ⟨g2.1, g2.2.1, g2.2.2⟩, rfl⟩, p3, T', (pm2.map (·.2)).nodup_iff.mpr un, fun m hm => key_else (me m (pm2.mem_iff.mp hm)) g1 g3 sb, by rw [e3]; exact ld, by rw [n3, e2]; exact w4, by rw [n3]; exact fw⟩ pm2
theorem more (Tm : Tame kn) (S : TSet kn s.heap a M es ep t) {x : Addr} {k : List κ} (hx : IsTupleKey kn s.heap k x) (hu : A.units < cLine) (fw : M.length + 1 < 64) {Q : Bool → Shared → Prop}
    (q : ∀ b h' M' es' ep' t', Heap.SameBut a s.heap h' → TSet kn h' a M' es' ep' t' → (k ∈ M.map (·.2) → M' = M) → (k ∉ M.map (·.2) → M'.Perm ((x, k) :: M)) → Q b { s with heap := h' }) :
    wpAny (model P w) A (setAddHashed a (.ref x) (hs kn k)) Q E s := by
  obtain ⟨o, g1, g2, g3⟩ := S.obj
  have n := ents_len S.ent
  have rm := S.rom
  unfold setAddHashed
  refine wpAny_holding ?_
  rw [show (100000 : Nat) = 99999 + 1 from rfl, setAddHashedIn_succ]
  refine wpAny_bind (wpAny_setState_of g1 g3 S.fit ?_)
  dsimp only
  refine wp_if_neg (by simp [byScan, Value.scannable]) ?_
  try refine wpAny_bind (wpAny_pure ?_)
  refine wpAny_bind (look0 Tm S hx hu (fun hm => ?_) fun N hm f1 f2 => ?_)
  · exact wpAny_pure (q false s.heap M es ep t (Heap.SameBut.refl a s.heap) S (fun _ => rfl) fun z => absurd hm z)
  · dsimp only
    refine wpAny_bind (wpAny_setState_of g1 g3 S.fit ?_)
    dsimp only
    obtain ⟨q1, q2, q3, q4, q5, q6, q7, q8, q9⟩ := S.tok.put f1 f2
    generalize t.put (way t.mask (hs kn k) N) = pt at q1 q3 q4 q5 q6 q7 q8 q9 ⊢
    obtain ⟨t1, p⟩ := pt
    dsimp only at q1 q3 q4 q5 q6 q7 q8 q9 ⊢
    subst q1
    have hin : (SetTable.insertAt es (SetTable.below t.place (way t.mask (hs kn k) N)) (hs kn k, Value.ref x)).toList = ents kn (M.take (SetTable.below t.place (way t.mask (hs kn k) N)) ++ (x, k) :: M.drop (SetTable.below t.place (way t.mask (hs kn k) N))) := by
      rw [SetTable.toList_insertAt, S.ent, ents, ents, List.map_append, List.map_cons, List.map_take, List.map_drop]
    generalize SetTable.below t.place (way t.mask (hs kn k) N) = b at q2 q3 hin ⊢
    have pm := put_perm M b (x, k)
    have ln : (M.take b ++ (x, k) :: M.drop b).length = M.length + 1 := pm.length_eq
    have hh : (M.take b ++ (x, k) :: M.drop b).map (fun m => hs kn m.2) = (M.map fun m => hs kn m.2).take b ++ hs kn k :: (M.map fun m => hs kn m.2).drop b := by
      rw [List.map_append, List.map_cons, List.map_take, List.map_drop]
    rw [← hh] at q3
    have un1 : ((M.take b ++ (x, k) :: M.drop b).map (·.2)).Nodup := by
      refine (pm.map (·.2)).nodup_iff.mpr ?_
      rw [List.map_cons]
      exact List.nodup_cons.mpr ⟨hm, S.uni⟩
    have n1 := ents_len hin
    rw [ln] at n1
    generalize SetTable.insertAt es b (hs kn k, Value.ref x) = es1 at hin n1 ⊢
    generalize M.take b ++ (x, k) :: M.drop b = M1 at pm ln q3 un1 hin
    have tail : ∀ t2 : SetTable, TabOk t2 (M1.map fun m => hs kn m.2) → t2.mask = t.mask → t2.led = t1.led → t2.tooFull = t1.tooFull →
        wpAny (model P w) A (do
          storeSet a es1 t2
          if !false && t2.tooFull then setRelay a (SetTable.grown (es.size + 1))
          return true) Q E s := by
      intro t2 T2 mk ldd tf
      refine wpAny_bind (wpAny_storeSet_of g1 g3 ?_ (by rw [n1, sizeLine_eq]; omega))
      have sb : Heap.SameBut a s.heap (s.heap.update a (Obj.putSet es1 t2)) := Heap.SameBut.update ..
      have so := store_at (es' := es1) (t' := t2) g1 g3
      generalize s.heap.update a (Obj.putSet es1 t2) = h1 at sb so ⊢
      have me1 : ∀ m ∈ M1, IsTupleKey kn h1 m.2 m.1 := fun m hm1 => by
        rcases List.mem_cons.mp (pm.mem_iff.mp hm1) with z | z
        · rw [z]
          exact key_else hx g1 g3 sb
        · exact key_else (S.mem m z) g1 g3 sb
      have ld1 : w.params.followText "set-order" = true ∨ t2.led = true := by
        rw [ldd, q5]
        exact S.led
      by_cases hf : t1.tooFull = true
      · have hf2 : t2.tooFull = true := tf.trans hf
        first
          | (refine wpAny_bind ?_; refine wp_if_pos (by simp [hf2]) ?_)
          | (refine wp_if_pos (by simp [hf2]) ?_; refine wpAny_bind ?_)
        have full : (M.length + 1) * 5 ≥ t1.mask * 3 := by
          have z := hf
          unfold SetTable.tooFull at z
          rw [decide_eq_true_eq, q9, List.length_map] at z
          exact z
        rw [n]
        have two : (t.mask = 7 ∧ M.length = 4) ∨ (t.mask = 31 ∧ M.length = 18) := by
          rcases S.tok.mok with e | e | e
          · left
            rw [q4, e] at full
            rw [e] at rm
            exact ⟨e, by omega⟩
          · right
            rw [q4, e] at full
            rw [e] at rm
            exact ⟨e, by omega⟩
          · exfalso
            rw [q4, e] at full
            omega
        have go : ∀ B, SetTable.sizeAbove (SetTable.grown (M.length + 1)) - 1 = B → MaskOk B → SetTable.sizeAbove (SetTable.grown (M.length + 1)) ≤ 128 → (M.length + 1) * 5 < B * 3 →
            wpAny (model P w) A (setRelay a (SetTable.grown (M.length + 1))) (fun _ s' => wpAny (model P w) A (pure true) Q E s') E { s with heap := h1 } := fun B b1 b2 b3 b4 => by
          refine grow (s := { s with heap := h1 }) so ⟨g2.1, g2.2.1, g2.2.2⟩ rfl hin T2 (by rw [ln, mk]; rcases two with ⟨z, z2⟩ | ⟨z, z2⟩ <;> omega) un1 me1 ld1 (by rw [ln]; exact fw) b1 b2 b3 (by rw [ln]; exact b4) ?_
          intro h2 M2 es2 ep2 t3 sb2 S2 pm2
          exact wpAny_pure (q true h2 M2 es2 ep2 t3 (sb.trans sb2) S2 (fun z => absurd z hm) fun _ => pm2.trans pm)
        rcases two with ⟨_, z⟩ | ⟨_, z⟩
        · exact go 31 (by rw [z, size_20]) (.inr (.inl rfl)) (by rw [z, size_20]; decide) (by omega)
        · exact go 127 (by rw [z, size_76]) (.inr (.inr rfl)) (by rw [z, size_76]; decide) (by omega)
      · have hf2 : ¬ t2.tooFull = true := by
          rw [tf]
          exact hf
        first
          | refine wp_if_neg (by simp [hf2]) ?_
          | (refine wpAny_bind ?_; refine wp_if_neg (by simp [hf2]) ?_; refine wpAny_pure ?_)
        refine wpAny_pure (q true h1 M1 es1 (ep + 1) t2 sb ⟨⟨_, so, ⟨g2.1, g2.2.1, g2.2.2⟩, rfl⟩, hin, T2, un1, me1, ld1, ?_, by rw [ln]; exact fw⟩ (fun z => absurd z hm) fun _ => pm)
        have z := hf
        unfold SetTable.tooFull at z
        rw [decide_eq_true_eq, q9, List.length_map, q4] at z
        rw [ln, mk]
        omega
    have both : ∀ y : Bool, wpAny (model P w) A (do
        storeSet a es1 (if y then t1 else { t1 with plain := false })
        if !false && (if y then t1 else { t1 with plain := false } : SetTable).tooFull then setRelay a (SetTable.grown (es.size + 1))
        return true) Q E s := by
      intro y
      cases y with
      | true => exact tail t1 q3 q4 rfl rfl
      | false => exact tail { t1 with plain := false } ⟨q3.ris, q3.dm, q3.sz, q3.mok, q3.bd, q3.reach⟩ q4 rfl rfl
    by_cases pl : t1.plain = true
    · first
        | (refine wpAny_bind ?_; refine wp_if_pos pl ?_; refine tup_byv Tm hx fun y => ?_)
        | refine wp_if_pos pl (wpAny_bind (tup_byv Tm hx fun y => ?_))
      exact both y
    · first
        | (refine wpAny_bind ?_; refine wp_if_neg pl ?_; refine wpAny_pure ?_)
        | refine wp_if_neg pl (wpAny_bind (wpAny_pure ?_))
      exact both true
end kinds
end SG
namespace SG
open PySem PySem.Spec PyProof.Rows L2
/-- what a set at S, filled one by one, is known to be behind i things; base: what stood before it -/
structure Fills (P : Program) (w : World) (A : Around) (S : Addr) (base : Heap) (n : Nat) (Pv : Nat → Value → Prop) (J : Nat → Heap → Prop) : Prop where
  stay : ∀ (i : Nat) (h h' : Heap), J i h → (∀ b o, (b = S ∨ ∃ x, base.get? b = some x) → h.get? b = some o → h'.get? b = some o) → J i h'
  adds : ∀ (i : Nat) (v : Value) (s : Shared) (Q : Shared → Prop) (E : Value → Shared → Prop), i < n → Pv i v → J i s.heap →
    (∀ (h' : Heap) (tk : Nat), s.toks ≤ tk → Heap.SameBut S s.heap h' → J (i + 1) h' → Q { s with heap := h', toks := tk }) → wpAny (model P w) A (setAdd S v) (fun _ s' => Q s') E s
section
variable {P : Program} {w : World} {A : Around} {s : Shared}
theorem fill {I S : Addr} {fp wr : List Addr} {G : Array GenState → Array GenState → Prop} {n : Nat} {Pv : Nat → Value → Prop} {St : Nat → Shared → Prop} {R : Result → Shared → Prop} {base : Heap} {J : Nat → Heap → Prop}
    (W : WalksS P w A.in1 I fp wr G n Pv St) (Fi : Fills P w A.in1 S base n Pv J) (off : S ∉ fp) (old : ∀ b ∈ wr, base.get? b = none) : ∀ (d i : Nat) (s : Shared), n - i = d → i ≤ n → St i s → J i s.heap →
      (∀ s', Moved (S :: wr) G s s' → J n s'.heap → R (.ok (.ret .none)) s') → codeAny (model P w) A (.builtin "set.update.loop" ⟨[.ref S, .ref I], []⟩) R s := by
  have up : ∀ b ∈ wr, b ∈ S :: wr := fun b hb => List.mem_cons_of_mem _ hb
  have still : ∀ {i : Nat} {s s' : Shared}, Moved wr G s s' → J i s.heap → J i s'.heap := fun {i s s'} mv j => Fi.stay i _ _ j fun b o hb e => mv.heap b o (fun hw => by
    rcases hb with z | ⟨x, z⟩
    · exact off (W.sub _ (z ▸ hw))
    · rw [old b hw] at z
      cases z) e
  intro d
  induction d with
  | zero =>
    intro i s hd hi st j fin
    have e : i = n := by omega
    subst e
    refine codeAny_builtin F.entry_set_update_loop ?_
    rw [Around.under_plainId F.plain_set_update_loop _]
    show wpAny _ A.in1 (pyNext (.ref I) >>= _) _ _ s
    refine wpAny_bind (W.done s _ _ st fun s' mv => ?_)
    exact wpAny_pure (fin s' (mv.mono up) (still mv j))
  | succ d ih =>
    intro i s hd hi st j fin
    have lt : i < n := by omega
    refine codeAny_builtin F.entry_set_update_loop ?_
    rw [Around.under_plainId F.plain_set_update_loop _]
    show wpAny _ A.in1 (pyNext (.ref I) >>= _) _ _ s
    refine wpAny_bind (W.item i s _ _ lt st fun v s' pv st' mv => ?_)
    show wpAny _ A.in1 (holding [v] (setAdd S v) >>= _) _ _ s'
    refine wpAny_bind (wpAny_holding (Fi.adds i v s' _ _ lt pv (still mv j) fun h' tk ht sb j' => ?_))
    have out : ∀ b o, b ∉ S :: wr → s'.heap.get? b = some o → h'.get? b = some o := fun b o hb e => by
      rw [sb.2 b fun z => hb (by rw [z]; exact List.mem_cons_self)]
      exact e
    refine wpAny_pure ⟨plainId_quiet F.plain_set_update_loop _, ih (i + 1) _ (by omega) lt (W.frame _ s' _ _ st' ht fun b hb o e => ?_) j' fun s2 mv2 j2 => ?_⟩
    · rw [sb.2 b fun z => off (z ▸ hb)]
      exact e
    · exact fin s2 (Moved.trans W.gtrans ((mv.mono up).then_heap ht out) mv2) j2
end
abbrev bare (w : World) : Obj := { cls := .type "set", dict := none, data := .set #[] 0 (.fresh 0 0 (!w.params.followText "set-order")) }
section
variable {P : Program} {w : World} {A : Around} {E : Value → Shared → Prop} {s : Shared}
theorem make {l : Addr} {its : Array Value} {J : Nat → Heap → Prop} {Q : Value → Shared → Prop} (hh : A.handled = none) (hl : s.heap.IsList l its ∨ s.heap.IsTuple l its)
    (Fi : Fills P w A.in1.in1.in1 s.heap.objs.size s.heap its.size (fun i v => its[i]? = some v) J)
    (j0 : ∀ h : Heap, h.get? s.heap.objs.size = some (bare w) → (∀ b o, s.heap.get? b = some o → h.get? b = some o) → J 0 h)
    (q : ∀ (h' : Heap) (tk : Nat), J its.size h' → (∀ b o, s.heap.get? b = some o → h'.get? b = some o) → Q (.ref s.heap.objs.size) { s with heap := h', toks := tk }) :
    wpAny (model P w) A (call (.type "set") [.ref l]) Q E s := by
  obtain ⟨c, tl, hmro⟩ := F.called_set.mro
  have hmade := F.called_set.made
  have hsub := F.called_set.sub
  refine wpAny_call (codeAny_of_tree ?_)
  show wpAny _ _ (callAny (.type "set") _) _ _ _
  refine wpAny_pure ⟨Code.quiet_builtin _ (by decide +kernel), codeAny_builtin F.entry_type_call ?_⟩
  rw [Around.under_plain (weight_type_call_type "set" [.ref l] []) rfl]
  have h1 := F.called_set.notType
  have h2 := F.called_set.canCreate
  have h3 := F.typeCall_set_1 (.ref l)
  repeat (any_goals (first | assumption | wp_step))
  refine codeAny_mono (code_set_led1 (.ref l) (E := E) (Q₁ := fun ob s1 => ob = .ref s.heap.objs.size ∧ s1 = { s with heap := s.heap.push (bare w) }) ⟨rfl, rfl⟩) fun r s1 hr => ?_
  cases r with
  | error e => exact hr
  | ok fl =>
    cases fl with
    | ret ob =>
      obtain ⟨rfl, rfl⟩ := hr
      have g0 : (s.heap.push (bare w)).get? s.heap.objs.size = some (bare w) := Heap.get?_push_size _ rfl
      have ty : Shared.TypeIs { s with heap := s.heap.push (bare w) } (.ref s.heap.objs.size) "set" := ⟨_, g0, rfl⟩
      have h4 := F.called_set.init.lookup
      have h5 := F.called_set.init.bind (.ref s.heap.objs.size)
      repeat (any_goals (first | assumption | wp_step))
      refine codeAny_mono (codeAny_call_builtin (R := wants (fun r s2 => r = .none ∧ ∃ h' tk, s2 = { s with heap := h', toks := tk } ∧ J its.size h' ∧ ∀ b o, s.heap.get? b = some o → h'.get? b = some o) E) F.called_set.init.plain F.entry_set_init (check_set_init_1 ty ?_)) fun r2 s2 hr2 => ?_
      · have lt : ∀ {b o}, s.heap.get? b = some o → b < s.heap.objs.size := fun e => Heap.lt_size e
        have nw : ∀ b, s.heap.objs.size ≤ b → s.heap.get? b = none := fun b hb => by
          cases z : s.heap.get? b with
          | none => rfl
          | some o => exact absurd (Nat.lt_of_lt_of_le (lt z) hb) (Nat.lt_irrefl _)
        have hh3 : A.in1.in1.in1.handled = none := by simp [hh]
        have z1 : (s.heap.push (bare w)).objs.size = s.heap.objs.size + 1 := Heap.size_push ..
        have ends : ∀ (s' : Shared), Moved [s.heap.objs.size, (s.heap.push (bare w)).objs.size] (fun a b => b = a) { s with heap := (s.heap.push (bare w)) } s' → J its.size s'.heap →
            ∃ h' tk, s' = { s with heap := h', toks := tk } ∧ J its.size h' ∧ ∀ b o, s.heap.get? b = some o → h'.get? b = some o := fun s' mv j => by
          obtain ⟨h', g', d', tk, os'⟩ := s'
          have e1 : g' = s.gens := mv.gens
          have e2 : d' = s.drawn := mv.drawn
          have e3 : os' = s.os := mv.os
          subst e1 e2 e3
          refine ⟨h', tk, rfl, j, fun b o e => mv.heap b o (fun hb => ?_) (Heap.get?_push_of_some _ e)⟩
          have hb2 := lt e
          simp only [List.mem_cons, List.not_mem_nil, or_false] at hb
          rcases hb with z | z
          · rw [z] at hb2
            exact Nat.lt_irrefl _ hb2
          · rw [z, z1] at hb2
            exact absurd hb2 (Nat.not_lt.mpr (Nat.le_succ _))
        rcases hl with hl | hl
        · obtain ⟨⟨ocls, odict, odata, oslots⟩, hol, hcl, nl, hdl⟩ := hl
          simp only at hcl hdl
          subst hcl hdl
          have hol' := Heap.get?_push_of_some (bare w) hol
          have hl1 : (s.heap.push (bare w)).IsList l its := ⟨_, hol', rfl, nl, rfl⟩
          have h6 := F.sub_list_set
          have h7 := F.sub_list_frozenset
          have h8 : (Value.type "list" == Value.type "dict") = false := by decide
          unfold Builtin.«set.__init__» noKeywords Builtin.Frozenset.updateFrom
          generalize hPI : pyIter = PI
          wp_walk
          subst hPI
          refine wpAny_pyIter_list hl1 (wpAny_bind (wpAny_runValue ?_))
          have hls := lt hol
          refine fill ((Walks.list hh3 _ l (by rw [z1]; exact Nat.ne_of_lt (Nat.lt_succ_of_lt hls)) its).toS) Fi (by rw [z1]; simp only [List.mem_cons, List.not_mem_nil, or_false, not_or]; exact ⟨Nat.ne_of_lt (Nat.lt_succ_self _), (Nat.ne_of_lt hls).symm⟩) (fun b hb => nw b (by rw [List.mem_singleton.mp hb, z1]; exact Nat.le_succ _)) (its.size - 0) 0 _ (by omega) (Nat.zero_le _)
            ⟨⟨_, Heap.get?_push_size _ rfl, rfl, rfl⟩, hl1.push _⟩ (j0 _ (Heap.get?_push_of_some _ g0) fun b o e => Heap.get?_push_of_some _ (Heap.get?_push_of_some _ e)) fun s' mv j => ?_
          refine wpAny_pure ?_
          obtain ⟨h', tk, e1, e2, e3⟩ := ends s' ⟨fun b o hb e => mv.heap b o hb (Heap.get?_push_of_some _ e), mv.gens, mv.drawn, mv.os, mv.toks⟩ j
          exact wpAny_pure ⟨rfl, h', tk, e1, e2, e3⟩
        · obtain ⟨⟨ocls, odict, odata, oslots⟩, hol, hcl, nl, hdl⟩ := hl
          simp only at hcl hdl
          subst hcl hdl
          have hol' := Heap.get?_push_of_some (bare w) hol
          have hl1 : (s.heap.push (bare w)).IsTuple l its := ⟨_, hol', rfl, nl, rfl⟩
          have h6 := F.sub_tuple_set
          have h7 := F.sub_tuple_frozenset
          have h8 : (Value.type "tuple" == Value.type "dict") = false := by decide
          unfold Builtin.«set.__init__» noKeywords Builtin.Frozenset.updateFrom
          generalize hPI : pyIter = PI
          wp_walk
          subst hPI
          refine wpAny_pyIter_tuple hl1 (wpAny_bind (wpAny_runValue ?_))
          have hls := lt hol
          refine fill ((Walks.tuple hh3 _ l (by rw [z1]; exact Nat.ne_of_lt (Nat.lt_succ_of_lt hls)) its).toS) Fi (by rw [z1]; simp only [List.mem_cons, List.not_mem_nil, or_false, not_or]; exact ⟨Nat.ne_of_lt (Nat.lt_succ_self _), (Nat.ne_of_lt hls).symm⟩) (fun b hb => nw b (by rw [List.mem_singleton.mp hb, z1]; exact Nat.le_succ _)) (its.size - 0) 0 _ (by omega) (Nat.zero_le _)
            ⟨⟨_, Heap.get?_push_size _ rfl, rfl, rfl⟩, hl1.push _⟩ (j0 _ (Heap.get?_push_of_some _ g0) fun b o e => Heap.get?_push_of_some _ (Heap.get?_push_of_some _ e)) fun s' mv j => ?_
          refine wpAny_pure ?_
          obtain ⟨h', tk, e1, e2, e3⟩ := ends s' ⟨fun b o hb e => mv.heap b o hb (Heap.get?_push_of_some _ e), mv.gens, mv.drawn, mv.os, mv.toks⟩ j
          exact wpAny_pure ⟨rfl, h', tk, e1, e2, e3⟩
      · cases r2 with
        | error e => exact hr2
        | ok fl2 =>
          cases fl2 with
          | ret r =>
            obtain ⟨rfl, h', tk, rfl, j, kp⟩ := hr2
            repeat (any_goals (first | assumption | wp_step))
            exact q _ _ j kp
          | _ => exact hr2.elim
    | _ => exact hr.elim
end
end SG
namespace SG
open PySem PySem.Spec PyProof.Rows L2
/-! ### how many different ones -/
section
variable {α : Type} [DecidableEq α]
theorem sub_len : ∀ {l r : List α}, l.Nodup → (∀ x ∈ l, x ∈ r) → l.length ≤ r.length
  | [], _, _, _ => Nat.zero_le _
  | x :: l, r, nd, h => by
    have h1 := List.nodup_cons.mp nd
    have hx := h x List.mem_cons_self
    have h2 : ∀ y ∈ l, y ∈ r.erase x := fun y hy => (List.mem_erase_of_ne (a := y) (b := x) fun e => h1.1 (by rw [← e]; exact hy)).mpr (h y (List.mem_cons_of_mem _ hy))
    have h3 := sub_len h1.2 h2
    rw [List.length_erase_of_mem hx] at h3
    have h4 : 0 < r.length := List.length_pos_of_mem hx
    rw [List.length_cons]
    omega
theorem less : ∀ {r : List α}, ¬ r.Nodup → ∃ l : List α, l.length < r.length ∧ ∀ x ∈ r, x ∈ l
  | [], h => absurd List.nodup_nil h
  | x :: r, h => by
    by_cases hx : x ∈ r
    · refine ⟨r, by simp, fun y hy => ?_⟩
      rcases List.mem_cons.mp hy with e | e
      · rw [e]
        exact hx
      · exact e
    · obtain ⟨l, h1, h2⟩ := less fun nd => h (List.nodup_cons.mpr ⟨hx, nd⟩)
      refine ⟨x :: l, by simpa using h1, fun y hy => ?_⟩
      rcases List.mem_cons.mp hy with e | e
      · rw [e]
        exact List.mem_cons_self
      · exact List.mem_cons_of_mem _ (h2 y e)
theorem as_many {l r : List α} (nd : l.Nodup) (h1 : ∀ x ∈ l, x ∈ r) (h2 : ∀ x ∈ r, x ∈ l) : l.length ≤ r.length ∧ (l.length = r.length ↔ r.Nodup) := by
  refine ⟨sub_len nd h1, fun e => ?_, fun nr => Nat.le_antisymm (sub_len nd h1) (sub_len nr h2)⟩
  rcases Classical.em r.Nodup with z | z
  · exact z
  · obtain ⟨l', q1, q2⟩ := less z
    have := sub_len nd fun x hx => q2 x (h1 x hx)
    omega
theorem take_one {l : List α} {i : Nat} {x : α} (h : l[i]? = some x) : l.take (i + 1) = l.take i ++ [x] := by
  rw [List.take_succ, h]
  rfl
end
section
variable {P : Program} {w : World} {A : Around} {E : Value → Shared → Prop} {s : Shared}
/-! ### tuples of texts and ints -/
theorem fills_tup {ks : List (Mem Key)} {its : Array Value} (e : its.toList = ks.map fun m => Value.ref m.1) (hk : ∀ m ∈ ks, IsTupleKey (mixKind P w) s.heap m.2 m.1) (few : ks.length < 64) (hu : A.units < cLine) :
    Fills P w A s.heap.objs.size s.heap its.size (fun i v => its[i]? = some v) fun i h => (∀ b o, s.heap.get? b = some o → h.get? b = some o) ∧
      ∃ M es ep t, TSet (mixKind P w) h s.heap.objs.size M es ep t ∧ (∀ m ∈ M, m ∈ ks.take i) ∧ (∀ m ∈ ks.take i, m.2 ∈ M.map (·.2)) ∧ M.length ≤ i := by
  have nw : s.heap.get? s.heap.objs.size = none := by
    cases z : s.heap.get? s.heap.objs.size with
    | none => rfl
    | some o => exact absurd (Heap.lt_size z) (Nat.lt_irrefl _)
  have up : ∀ {h : Heap} {m : Mem Key}, (∀ b o, s.heap.get? b = some o → h.get? b = some o) → m ∈ ks → IsTupleKey (mixKind P w) h m.2 m.1 := fun {h m} k hm => by
    obtain ⟨o, items, n, g, r⟩ := hk m hm
    exact ⟨o, items, n, k _ _ g, r⟩
  constructor
  · rintro i h h' ⟨k0, M, es, ep, t, S, m1, m2, m3⟩ kp
    have k1 : ∀ b o, s.heap.get? b = some o → h'.get? b = some o := fun b o q => kp b o (.inr ⟨o, q⟩) (k0 b o q)
    obtain ⟨o, g1, g2⟩ := S.obj
    exact ⟨k1, M, es, ep, t, ⟨⟨o, kp _ _ (.inl rfl) g1, g2⟩, S.ent, S.tok, S.uni, fun m hm => up k1 (List.mem_of_mem_take (m1 m hm)), S.led, S.rom, S.few⟩, m1, m2, m3⟩
  · rintro i v s' Q E' lt pv ⟨k0, M, es, ep, t, S, m1, m2, m3⟩ q
    have z : its.toList[i]? = some v := by
      rw [Array.getElem?_toList]
      exact pv
    rw [e, List.getElem?_map] at z
    obtain ⟨m, hm, rfl⟩ : ∃ m, ks[i]? = some m ∧ v = .ref m.1 := by
      cases y : ks[i]? with
      | none =>
        rw [y] at z
        cases z
      | some m =>
        rw [y] at z
        exact ⟨m, rfl, (Option.some.inj z).symm⟩
    have mm := List.mem_of_getElem? hm
    have il : i < ks.length := (List.getElem?_eq_some_iff.mp hm).1
    have hx := up k0 mm
    unfold setAdd
    refine wpAny_holding (wpAny_bind (wpAny_pyHash_tuple hu hx ?_))
    refine more (s := { s' with toks := s'.toks + (m.2.length + 1) }) tame_mix S hx hu (by omega) fun b h' M' es' ep' t' sb S' c1 c2 => ?_
    refine q h' _ (Nat.le_add_right _ _) sb ⟨fun b o g => (sb.2 b fun y => by rw [y, nw] at g; cases g).trans (k0 b o g), M', es', ep', t', S', ?_⟩
    rw [take_one hm]
    by_cases hin : m.2 ∈ M.map (·.2)
    · rw [c1 hin]
      refine ⟨fun n hn => List.mem_append_left _ (m1 n hn), fun n hn => ?_, by omega⟩
      rcases List.mem_append.mp hn with y | y
      · exact m2 n y
      · rw [List.mem_singleton.mp y]
        exact hin
    · have pm := c2 hin
      refine ⟨fun n hn => ?_, fun n hn => ?_, by rw [pm.length_eq, List.length_cons]; omega⟩
      · rcases List.mem_cons.mp (pm.mem_iff.mp hn) with y | y
        · rw [y]
          exact List.mem_append_right _ (List.mem_singleton.mpr rfl)
        · exact List.mem_append_left _ (m1 n y)
      · rw [(pm.map (·.2)).mem_iff, List.map_cons]
        rcases List.mem_append.mp hn with y | y
        · exact List.mem_cons_of_mem _ (m2 n y)
        · rw [List.mem_singleton.mp y]
          exact List.mem_cons_self
theorem fresh_tup {h : Heap} {a : Addr} (g : h.get? a = some (bare w)) : TSet (mixKind P w) h a [] #[] 0 (.fresh 0 0 (!w.params.followText "set-order")) where
  obj := ⟨_, g, ⟨rfl, rfl, rfl⟩, rfl⟩
  ent := rfl
  tok := ⟨List.Pairwise.nil, rfl, rfl, .inl rfl, (fun x hx => nomatch hx), (fun i h j hi => by simp at hi)⟩
  uni := List.nodup_nil
  mem := fun m hm => nomatch hm
  led := by
    show _ ∨ (!w.params.followText "set-order") = true
    cases w.params.followText "set-order"
    · exact .inr rfl
    · exact .inl rfl
  rom := by
    show 0 * 5 < 7 * 3
    decide
  few := by
    show 0 < 64
    decide
/-! ### texts -/
theorem fills_str {xs : List Str} {its : Array Value} (e : ∀ (i : Nat) v, its[i]? = some v → ∃ x t, xs[i]? = some x ∧ v = Value.str x t) (few : xs.length < 64) :
    Fills P w A s.heap.objs.size s.heap its.size (fun i v => its[i]? = some v) fun i h => (∀ b o, s.heap.get? b = some o → h.get? b = some o) ∧
      ∃ (Sf : Str → Bool) (l : List Str), h.SetOf (PySem.strKind P w) s.heap.objs.size Sf l.length ∧ (∀ k, Sf k = true ↔ k ∈ xs.take i) ∧ l.Nodup ∧ (∀ k, k ∈ l ↔ k ∈ xs.take i) ∧ l.length ≤ i := by
  have nw : s.heap.get? s.heap.objs.size = none := by
    cases z : s.heap.get? s.heap.objs.size with
    | none => rfl
    | some o => exact absurd (Heap.lt_size z) (Nat.lt_irrefl _)
  constructor
  · rintro i h h' ⟨k0, Sf, l, ⟨o, es, ep, t, g, r⟩, m⟩ kp
    exact ⟨fun b o q => kp b o (.inr ⟨o, q⟩) (k0 b o q), Sf, l, ⟨o, es, ep, t, kp _ _ (.inl rfl) g, r⟩, m⟩
  · rintro i v s' Q E' lt pv ⟨k0, Sf, l, S, m1, m2, m3, m4⟩ q
    obtain ⟨x, t, hx, rfl⟩ := e i v pv
    have il : i < xs.length := (List.getElem?_eq_some_iff.mp hx).1
    unfold setAdd
    refine wpAny_holding (wpAny_bind ((PySem.strKind P w).pyHash (k := x) (strKind_is _ _ _ _) ?_))
    refine wpAny_setAddHashed_of (knd := PySem.strKind P w) (s := { s' with toks := s'.toks + 1 }) (strKind_is _ _ _ _) rfl S (by unfold scanBound; omega) fun h' sb S' => ?_
    refine q h' _ (Nat.le_add_right _ _) sb ⟨fun b o g => (sb.2 b fun y => by rw [y, nw] at g; cases g).trans (k0 b o g), ?_⟩
    rw [take_one hx]
    have mem : ∀ k, (Sf k || decide (k = x)) = true ↔ k ∈ xs.take i ++ [x] := fun k => by
      rw [Bool.or_eq_true, decide_eq_true_eq, m1, List.mem_append, List.mem_singleton]
    by_cases hin : Sf x = true
    · rw [hin, if_pos rfl] at S'
      refine ⟨_, l, S', mem, m2, fun k => ?_, by omega⟩
      rw [m3, List.mem_append, List.mem_singleton]
      exact ⟨.inl, fun y => y.elim id fun y => by rw [y]; exact (m1 x).mp hin⟩
    · rw [if_neg hin] at S'
      have hn : x ∉ l := fun y => hin ((m1 x).mpr ((m3 x).mp y))
      refine ⟨_, x :: l, S', mem, List.nodup_cons.mpr ⟨hn, m2⟩, fun k => ?_, by rw [List.length_cons]; omega⟩
      rw [List.mem_cons, m3, List.mem_append, List.mem_singleton]
      exact ⟨fun y => y.elim .inr .inl, fun y => y.elim .inr .inl⟩
end
/-! ### len(set(e)) -/
section
variable {X : Cx}
def tLenSetD (K : PySem.W.Frag) (ta : TE) : TE := fun σ H Q => ta σ H fun x H1 => ∃ l : Addr, x = .ref l ∧
  ((∃ xs : List Str, (SqL K H1 l (xs.map V.str) ∨ SqT K H1 l (xs.map V.str)) ∧ xs.length < 64 ∧ ∀ n : Nat, n ≤ xs.length → (n = xs.length ↔ xs.Nodup) → Q (.int n) H1) ∨
  ∃ ks : List (Mem Key), (SqL K H1 l (ks.map fun m => V.ref m.1) ∨ SqT K H1 l (ks.map fun m => V.ref m.1)) ∧ (∀ m ∈ ks, SqT K H1 m.1 (m.2.map kV)) ∧ ks.length < 64 ∧
    ∀ n : Nat, n ≤ ks.length → (n = ks.length ↔ (ks.map (·.2)).Nodup) → Q (.int n) H1)
theorem its_keys {P : Program} {w : World} : ∀ {k : List Key} {us : List Value}, Vals (k.map kV) us → ItemsAre (mixKind P w) k us
  | [], _, .nil => .nil
  | .inl i :: ks, _, .cons r t => by
    obtain ⟨tk, rfl⟩ := r
    exact .cons (mixKind_int P w i tk) (its_keys t)
  | .inr x :: ks, _, .cons r t => by
    obtain ⟨tk, rfl⟩ := r
    exact .cons (mixKind_str P w x tk) (its_keys t)
theorem its_refs : ∀ {ks : List (Mem Key)} {us : List Value}, Vals (ks.map fun m => V.ref m.1) us → us = ks.map fun m => Value.ref m.1
  | [], _, .nil => rfl
  | m :: ks, _, .cons r t => by
    cases r
    rw [its_refs t]
    rfl
theorem its_strs {xs : List Str} {us : List Value} (r : Vals (xs.map V.str) us) (i : Nat) (v : Value) (h : us[i]? = some v) : ∃ x t, xs[i]? = some x ∧ v = Value.str x t := by
  induction xs generalizing us i with
  | nil =>
    cases r
    simp at h
  | cons y ys ih =>
    cases r with
    | cons r t =>
      obtain ⟨tk, rfl⟩ := r
      cases i with
      | zero =>
        simp at h
        exact ⟨y, tk, rfl, h.symm⟩
      | succ i => exact ih t i (by simpa using h)
theorem pe_lenSetD {a : Expr} {ta : TE} {p p2 q pos : Pos} (hc : X.calm = true) (hu : X.A.units + 3 < cLine) (hg : Gl X "len") (hm : X.mg "len" = none) (hg2 : Gl X "set") (hm2 : X.mg "set" = none) (ha : PE X a ta)
    (na : starEach [a] X.env = (false, eval a X.env) :: starEach [] X.env := by rfl) : PE X (.Call (.Name "len" p) [.Call (.Name "set" p2) [a] [] q] [] pos) (tLenSetD X.K ta) := by
  refine ⟨fun pins s σ H Q I h => ?_⟩
  refine Call_ (ld_blt I hg hm boot_len ?_)
  refine PyProof.Rows.callWith_builtin1 (PyProof.Rows.args_cons ?_ rfl) rfl rfl
  refine Call_ (ld_blt I hg2 hm2 boot_set ?_)
  refine PyProof.Rows.callWith_type1 (PyProof.Rows.args_cons (thn (ha.run pins s σ H _ I h) fun v s1 ⟨x, H1, I1, r1, q1⟩ => PyProof.Rows.args_nil ?_) na) na rfl
  obtain ⟨l, rfl, q1⟩ := q1
  cases r1
  have seq : ∀ {vs : List V}, (SqL X.K H1 l vs ∨ SqT X.K H1 l vs) → ∃ its : Array Value, Vals vs its.toList ∧ (s1.heap.IsList l its ∨ s1.heap.IsTuple l its) := fun {vs} hq => by
    rcases hq with hq | hq
    · obtain ⟨its, r, pl, _⟩ := I1.list hq
      exact ⟨its.toArray, by simpa using r, .inl pl.isList⟩
    · obtain ⟨its, r, pl, _⟩ := I1.tuple hq
      exact ⟨its.toArray, by simpa using r, .inr pl⟩
  have fin : ∀ (h' : Heap) (tk : Nat) (o : Obj) (es : Array (Int × Value)) (ep : Nat) (t : SetTable), h'.get? s1.heap.objs.size = some o → o.ExactSet → o.data = .set es ep t → t.fits es.size = true → (es.size : Int) < 2 ^ 63 →
      (∀ b o, s1.heap.get? b = some o → h'.get? b = some o) → Q (.int es.size) H1 →
      wpAny (model X.prog X.w) X.A (spliced (backTo pos (starEach [] X.env))) (fun vs s2 => wpAny (model X.prog X.w) X.A (call (.builtin "len") (Value.ref s1.heap.objs.size :: vs)) (EP X pins σ Q) X.xe s2) X.xe { s1 with heap := h', toks := tk } := fun h' tk o es ep t g1 g2 g3 g4 g5 kp qq => by
    have I2 : Inv X pins σ H1 { s1 with heap := h', toks := tk } := I1.kept fun b o e => kp b o e
    exact PyProof.Rows.args_nil (call_len_set g1 g2 g3 g4 g5 ⟨.int es.size, H1, I2.tok _, ⟨_, rfl⟩, qq⟩)
  rcases q1 with ⟨xs, hq, few, q1⟩ | ⟨ks, hq, hk, few, q1⟩
  · obtain ⟨its, r, hl⟩ := seq hq
    refine make (I1.ok.hd hc) hl (fills_str (xs := xs) (fun i v hv => its_strs r i v (by rw [Array.getElem?_toList]; exact hv)) few)
      (fun h g kp => ⟨kp, fun _ => false, [], ?_, fun k => by simp, List.nodup_nil, fun k => by simp, Nat.le_refl _⟩) fun h' tk ⟨_, Sf, ls, S, _, m2, m3, m4⟩ kp => ?_
    · exact SetOf_congr ((setObjOf_fresh (knd := PySem.strKind X.prog X.w) (!X.w.params.followText "set-order")).setOf g (by unfold scanBound; omega)) (fun _ => rfl) rfl
    · have n : its.size = xs.length := by
        have z := r.length
        rw [List.length_map, Array.length_toList] at z
        exact z.symm
      rw [n, List.take_length] at m3
      obtain ⟨a1, a2⟩ := as_many m2 (fun x hx => (m3 x).mp hx) fun x hx => (m3 x).mpr hx
      obtain ⟨o, es, ep, t, g1, g2, g3, _, _, _, g4, g5⟩ := S
      refine fin h' tk o es ep t g1 g2 g3 g4 (by rw [g5]; omega) kp ?_
      rw [g5]
      exact q1 _ a1 a2
  · obtain ⟨its, r, hl⟩ := seq hq
    have hx : ∀ m ∈ ks, IsTupleKey (mixKind X.prog X.w) s1.heap m.2 m.1 := fun m hm => by
      obtain ⟨us, ru, ⟨o, g1, g2, n, g3⟩, _⟩ := I1.tuple (hk m hm)
      exact ⟨o, _, n, g1, g2, g3, by simpa using its_keys ru⟩
    refine make (I1.ok.hd hc) hl (fills_tup (its_refs r) hx few hu) (fun h g kp => ⟨kp, [], #[], 0, _, fresh_tup g, (fun m hm => nomatch hm), (fun m hm => by simp at hm), Nat.le_refl _⟩) fun h' tk ⟨_, M, es, ep, t, S, m1, m2, m3⟩ kp => ?_
    have n : its.size = ks.length := by
      have z := r.length
      rw [List.length_map, Array.length_toList] at z
      exact z.symm
    rw [n, List.take_length] at m1 m2
    have zz : (M.map (·.2)).length ≤ (ks.map (·.2)).length ∧ ((M.map (·.2)).length = (ks.map (·.2)).length ↔ (ks.map (·.2)).Nodup) := as_many S.uni (fun x hx2 => by
        obtain ⟨m, hm, rfl⟩ := List.mem_map.mp hx2
        exact List.mem_map.mpr ⟨m, m1 m hm, rfl⟩) fun x hx2 => by
        obtain ⟨m, hm, rfl⟩ := List.mem_map.mp hx2
        exact m2 m hm
    rw [List.length_map, List.length_map] at zz
    obtain ⟨o, g1, g2, g3⟩ := S.obj
    have sz := ents_len S.ent
    refine fin h' tk o es ep t g1 g2 g3 (fits_of S.tok sz (by have := S.rom; omega)) (by rw [sz]; have := S.few; omega) kp ?_
    rw [sz]
    exact q1 _ zz.1 zz.2
end
end SG
namespace CC
open PySem L2
/-! ### where pairs lead -/
inductive Rch (ps : List (Nat × Nat)) (a : Nat) : Nat → Prop
  | refl : Rch ps a a
  | step {b c : Nat} : Rch ps a b → (b, c) ∈ ps → Rch ps a c
theorem Rch.trans {ps : List (Nat × Nat)} {a b c : Nat} (h1 : Rch ps a b) (h2 : Rch ps b c) : Rch ps a c := by
  induction h2 with
  | refl => exact h1
  | step _ h ih => exact ih.step h
theorem Rch.mono {ps qs : List (Nat × Nat)} (h : ∀ x ∈ ps, x ∈ qs) {a b : Nat} (r : Rch ps a b) : Rch qs a b := by
  induction r with
  | refl => exact .refl
  | step _ q ih => exact ih.step (h _ q)
theorem Rch.lt {ps : List (Nat × Nat)} {w a b : Nat} (h : ∀ x ∈ ps, x.1 < w ∧ x.2 < w) (ha : a < w) (r : Rch ps a b) : b < w := by
  cases r with
  | refl => exact ha
  | step _ q => exact (h _ q).2
/-- a set that is closed under the pairs holds all that is reached -/
theorem Rch.within {ps : List (Nat × Nat)} {a b : Nat} {S : Nat → Prop} (ha : S a) (hc : ∀ x y, S x → (x, y) ∈ ps → S y) (r : Rch ps a b) : S b := by
  induction r with
  | refl => exact ha
  | step _ q ih => exact hc _ _ ih q
def nms (ns : List Nat) : List V := ns.map fun (n : Nat) => V.int (n : Int)
theorem nms_len (ns : List Nat) : (nms ns).length = ns.length := List.length_map _
theorem nms_app (ns ms : List Nat) : nms (ns ++ ms) = nms ns ++ nms ms := List.map_append
theorem nms_flat (ns : List Nat) : (nms ns).all flatV = true := by
  rw [List.all_eq_true]
  intro v hv
  obtain ⟨n, _, rfl⟩ := List.mem_map.mp hv
  rfl
theorem nms_in (ns : List Nat) (n : Nat) : inV (.int (n : Int)) (nms ns) = decide (n ∈ ns) := by
  induction ns with
  | nil => simp [inV, nms]
  | cons m ns ih =>
    have e : inV (.int (n : Int)) (nms (m :: ns)) = (((m : Int) == (n : Int)) || inV (.int (n : Int)) (nms ns)) := rfl
    rw [e, ih]
    by_cases h : m = n
    · subst h
      simp
    · have h2 : ¬ n = m := fun z => h z.symm
      have h3 : ((m : Int) == (n : Int)) = false := by
        rw [beq_eq_false_iff_ne]
        omega
      rw [h3]
      simp [h2]
theorem few6 {fs : List Nat} (nd : fs.Nodup) (h : ∀ x ∈ fs, x < 6) : fs.length ≤ 6 := by
  have := SG.sub_len (r := List.range 6) nd fun x hx => List.mem_range.mpr (h x hx)
  rw [List.length_range] at this
  exact this
end CC
namespace CC
open PySem L2 TL
/-- the source at s is one again, all else that stood still stands -/
structure Ran (H H' : Hp) (s : Addr) : Prop where
  same : Same (wo H s) (wo H' s)
  src : ∃ o, H' s = some o ∧ IsSrc o
theorem Ran.one {H : Hp} {s : Addr} {o : HO} (h : IsSrc o) : Ran H (upd H s o) s := ⟨by rw [wo_upd]; exact Same.refl _, o, upd_same, h⟩
theorem Ran.trans {H H1 H2 : Hp} {s : Addr} (a : Ran H H1 s) (b : Ran H1 H2 s) : Ran H H2 s := ⟨a.same.trans b.same, b.src⟩
theorem Ran.grow {H H1 H2 : Hp} {s : Addr} (a : Ran H H1 s) (b : Same H1 H2) : Ran H H2 s := by
  obtain ⟨o, h1, h2⟩ := a.src
  exact ⟨a.same.trans (wo_same b), o, b _ _ h1, h2⟩
theorem Ran.at_ {H H1 : Hp} {s b : Addr} {o : HO} (a : Ran H H1 s) (h : H b = some o) (n : b ≠ s) : H1 b = some o := wo_le s _ _ (a.same b o (by rw [wo_ne n]; exact h))
theorem Ran.free {H H1 : Hp} {s b : Addr} (a : Ran H H1 s) (h : H1 b = none) : H b = none := by
  by_cases e : b = s
  · obtain ⟨o, h1, _⟩ := a.src
    rw [e, h1] at h
    cases h
  · cases z : H b with
    | none => rfl
    | some o =>
      rw [a.at_ z e] at h
      cases h
theorem Ran.ne {H H1 : Hp} {s b : Addr} (a : Ran H H1 s) (h : H1 b = none) : b ≠ s := fun e => by
  obtain ⟨o, h1, _⟩ := a.src
  rw [e, h1] at h
  cases h
def Src (H : Hp) (s : Addr) : Prop := ∃ o, H s = some o ∧ IsSrc o
def spDraw2 : Sp := fun vs H Q _ => ∃ (s : Addr) (m : Nat), vs = [.ref s, .int (m : Int)] ∧ Src H s ∧ 0 < m ∧ m < 1000000 ∧ ∀ (r : Nat) (H' : Hp), r < m → Ran H H' s → Q (.int (r : Int)) H'
def spChoose (K : PySem.W.Frag) : Sp := fun vs H Q _ => ∃ (s : Addr) (v : V), vs = [.ref s, v] ∧ Src H s ∧
  ((∃ (a : Addr) (xs : List V), v = .ref a ∧ SqL K (wo H s) a xs ∧ 0 < xs.length ∧ xs.length < 1000 ∧ ∀ (i : Nat) (x : V) (H' : Hp), xs[i]? = some x → Ran H H' s → Q x H') ∨
  ∃ z : Str, v = .str z ∧ 0 < z.length ∧ z.length < 1000 ∧ ∀ (c : Nat) (H' : Hp), Ran H H' s → Q (.str ⟨#[c]⟩) H')
def spIsEq : Sp := fun vs H Q _ => ∃ b c : Bool, vs = [.bl b, .bl c] ∧ Q (.bl (b == c)) H
def spMixed (K : PySem.W.Frag) : Sp := fun vs H Q _ => ∃ (s : Addr) (m : Nat), vs = [.ref s, .int (m : Int)] ∧ Src H s ∧ m ≤ 900 ∧
  ∀ (p : Addr) (ns : List Nat) (H' : Hp), Ran H H' s → H p = none → p ≠ s → H' p = some (.lst (nms ns)) → ns.length = m → ns.Nodup → (∀ x ∈ ns, x < m) → Q (.ref p) H'
def spStep (K : PySem.W.Frag) : Sp := fun vs H Q _ => ∃ (s : Addr) (a b : Nat) (z : Str), vs = [.ref s, .int (a : Int), .int (b : Int), .str z] ∧ Src H s ∧ 0 < z.length ∧ z.length < 1000 ∧
  ∀ (t : Addr) (r : R) (H' : Hp), (r = ⟨true, a, b⟩ ∨ r = ⟨false, b, a⟩) → Ran H H' s → H t = none → t ≠ s → Dp K (wo H' s) (.ref t) r.d → Q (.ref t) H'
section
variable {X : Cx}
theorem call_repr_bl : CallR X (.builtin "repr") (fun xs H Q => ∃ b, xs = [.bl b] ∧ Q (.str (if b then "True" else "False")) H) := by
  intro pins s σ H xs us Q I r h
  obtain ⟨b, rfl, q⟩ := h
  obtain ⟨u, rfl, rfl⟩ := vals1 r
  exact PySem.P.repr_of_bool ⟨.str _, H, I.tok _, ⟨_, by cases b <;> rfl⟩, q⟩
end
theorem nms_at {ns : List Nat} {i : Nat} {x : V} (h : (nms ns)[i]? = some x) : ∃ m, ns[i]? = some m ∧ x = .int (m : Int) := by
  rw [nms, List.getElem?_map] at h
  cases z : ns[i]? with
  | none =>
    rw [z] at h
    cases h
  | some m =>
    rw [z] at h
    exact ⟨m, rfl, (Option.some.inj h).symm⟩
theorem int_ne (a b : Nat) : (!decide (V.int (a : Int) = V.int (b : Int))) = decide (a ≠ b) := by
  by_cases e : a = b
  · subst e
    simp
  · rw [decide_eq_false (fun z => e (by injection z with z; omega)), decide_eq_true e]
    rfl
end CC
namespace CC
open PySem L2
def spAll (K : PySem.W.Frag) : Sp := fun vs H Q _ => ∃ w : Nat, vs = [.int (w : Int)] ∧ w ≤ 6 ∧ NewF R.d K H (allR w) Q
theorem MadeF.extend {α : Type} {f : α → PyData} {K : PySem.W.Frag} {H0 H H' : Hp} {D : Addr} {n m : Nat} {rs rs2 : List α} {us zs : List V} (p : MadeF f K H0 D n H rs) (hD : H D = some (.lst us)) (q3 : Same H H') (q1 : DpAll K (wo H' D) zs (rs2.map f)) (hm : n + zs.length ≤ m) :
    MadeF f K H0 D m (upd H' D (.lst (us ++ zs))) (rs ++ rs2) := by
  obtain ⟨us', p1, p2, p3, p4⟩ := p
  rw [hD] at p2
  cases p2
  refine ⟨us ++ zs, ?_, upd_same, ?_, ?_⟩
  · rw [wo_upd]
    exact p1.trans (wo_same q3)
  · rw [wo_upd, List.map_append]
    exact dps_app (dps_same (wo_same q3) _ _ p3) q1
  · rw [List.length_append]
    omega
/-! tuples never change -/
structure SameT (H H' : Hp) : Prop where
  tup : ∀ b xs, H b = some (.tup xs) → H' b = some (.tup xs)
  frz : ∀ b o xs, H b = some (.frz o (.tup xs)) → H' b = some (.frz o (.tup xs))
theorem sqt_T {K : PySem.W.Frag} {H H' : Hp} {a : Addr} {xs : List V} (e : SameT H H') (h : SqT K H a xs) : SqT K H' a xs := by
  rcases h with (h | ⟨o, h⟩) | h
  · exact .inl (.inl (e.tup _ _ h))
  · exact .inl (.inr ⟨o, e.frz _ _ _ h⟩)
  · exact .inr h
theorem rd_T {K : PySem.W.Frag} {H H' : Hp} {v : V} {r : R} (e : SameT H H') (h : Dp K H v r.d) : Dp K H' v r.d := by
  obtain ⟨p, rfl, hp⟩ := dp_r h
  exact r_dp (sqt_T e hp)
theorem rds_T {K : PySem.W.Frag} {H H' : Hp} (e : SameT H H') : ∀ {rs : List R} {us : List V}, DpAll K H us (rs.map R.d) → DpAll K H' us (rs.map R.d)
  | [], _, h => by
    cases h
    exact .nil
  | r :: rs, _, h => by
    cases h with
    | cons h1 h2 => exact .cons (rd_T e h1) (rds_T e h2)
theorem prd_T {K : PySem.W.Frag} {H H' : Hp} {v : V} {r : Nat × Nat} (e : SameT H H') (h : Dp K H v (prd r)) : Dp K H' v (prd r) := by
  obtain ⟨p, rfl, hp⟩ := dp_p h
  exact p_dp (sqt_T e hp)
theorem prds_T {K : PySem.W.Frag} {H H' : Hp} (e : SameT H H') : ∀ {rs : List (Nat × Nat)} {us : List V}, DpAll K H us (rs.map prd) → DpAll K H' us (rs.map prd)
  | [], _, h => by
    cases h
    exact .nil
  | r :: rs, _, h => by
    cases h with
    | cons h1 h2 => exact .cons (prd_T e h1) (prds_T e h2)
theorem same_T {H H' : Hp} (e : Same H H') : SameT H H' := ⟨fun b xs h => e _ _ h, fun b o xs h => e _ _ h⟩
theorem SameT.trans {H H1 H2 : Hp} (a : SameT H H1) (b : SameT H1 H2) : SameT H H2 := ⟨fun c xs h => b.tup _ _ (a.tup _ _ h), fun c o xs h => b.frz _ _ _ (a.frz _ _ _ h)⟩
/-- a list that is left out, or changed, is no tuple -/
theorem wo_T {H : Hp} {l : Addr} {us : List V} (h : H l = some (.lst us)) : SameT H (wo H l) := by
  constructor
  · intro b xs e
    rw [wo_ne (ne_of e h (by intro z; cases z))]
    exact e
  · intro b o xs e
    rw [wo_ne (ne_of e h (by intro z; cases z))]
    exact e
theorem upd_T {H : Hp} {l : Addr} {us : List V} {o : HO} (h : H l = some (.lst us)) : SameT H (upd H l o) := by
  constructor
  · intro b xs e
    rw [upd_ne (ne_of e h (by intro z; cases z))]
    exact e
  · intro b o xs e
    rw [upd_ne (ne_of e h (by intro z; cases z))]
    exact e
theorem row_len (w a : Nat) (k : Bool) : (row w a k).length ≤ w := by
  unfold row
  rw [List.length_map]
  have := List.length_filter_le (fun b => decide (a ≠ b)) (List.range w)
  rw [List.length_range] at this
  exact this
end CC
namespace CC
open PySem L2
/-- the heap without some objects -/
def wos (H : Hp) (l : List Addr) : Hp := fun b => if b ∈ l then none else H b
section
variable {H H' H2 : Hp} {l m : List Addr} {b s : Addr} {o : HO}
theorem wos_in (h : b ∉ l) : wos H l b = H b := if_neg h
theorem wos_at (h : wos H l b = some o) : b ∉ l ∧ H b = some o := by
  by_cases e : b ∈ l
  · unfold wos at h
    rw [if_pos e] at h
    cases h
  · exact ⟨e, (wos_in e).symm.trans h⟩
theorem wos_le (l : List Addr) : Same (wos H l) H := fun b o e => (wos_at e).2
theorem wos_mono (h : ∀ b ∈ l, b ∈ m) : Same (wos H m) (wos H l) := fun b o e => by
  obtain ⟨n, e⟩ := wos_at e
  rw [wos_in fun z => n (h b z)]
  exact e
/-- all that stands, but for l, stays -/
def Kp (l : List Addr) (H H' : Hp) : Prop := ∀ b o, H b = some o → b ∉ l → H' b = some o
theorem Kp.same (k : Kp l H H') : Same (wos H l) (wos H' l) := fun b o e => by
  obtain ⟨n, e⟩ := wos_at e
  rw [wos_in n]
  exact k b o e n
theorem Kp.to (k : Kp l H H') : Same (wos H l) H' := k.same.trans (wos_le l)
theorem Kp.trans (a : Kp l H H') (c : Kp l H' H2) : Kp l H H2 := fun b o e n => c b o (a b o e n) n
theorem Kp.up (k : Kp l H H') (h : ∀ b ∈ l, b ∈ m) : Kp m H H' := fun b o e n => k b o e fun z => n (h b z)
theorem Kp.of (e : Same H H') : Kp l H H' := fun b o q _ => e b o q
theorem Kp.upd (h : s ∈ l) : Kp l H (L2.upd H s o) := fun b u e n => by
  rw [upd_ne (a := s) (b := b) fun z => n (by rw [z]; exact h)]
  exact e
theorem Kp.new (h : H s = none) : Kp l H (L2.upd H s o) := .of (same_new h)
theorem Kp.ran (r : Ran H H' s) (h : s ∈ l) : Kp l H H' := fun b o e n => r.at_ e fun z => n (by rw [z]; exact h)
theorem Same.kp (e : Same H H') (k : Kp l H' H2) : Kp l H H2 := fun b o q n => k b o (e b o q) n
theorem wos_nil : wos H [] = H := by
  funext b
  exact wos_in (by simp)
theorem wo_wos : wo H s = wos H [s] := by
  funext b
  by_cases e : b = s
  · subst e
    rw [wo_at]
    unfold wos
    rw [if_pos (List.mem_singleton.mpr rfl)]
  · rw [wo_ne e, wos_in (by simpa using e)]
end
end CC
namespace CC
open PySem L2 TL
def gd (m : List Nat) : PyData := .tuple (m.map fun (n : Nat) => PyData.int (n : Int))
theorem dps_nms {K : PySem.W.Frag} {H : Hp} : ∀ fs : List Nat, DpAll K H (nms fs) (fs.map fun (n : Nat) => PyData.int (n : Int))
  | [] => .nil
  | n :: fs => .cons (.int _) (dps_nms fs)
theorem nms_dps {K : PySem.W.Frag} {H : Hp} : ∀ {fs : List Nat} {us : List V}, DpAll K H us (fs.map fun (n : Nat) => PyData.int (n : Int)) → us = nms fs
  | [], _, h => by
    cases h
    rfl
  | n :: fs, _, h => by
    cases h with
    | cons h1 h2 =>
      rw [dp_int h1, nms_dps h2]
      rfl
theorem dp_gd {K : PySem.W.Frag} {H : Hp} {t : Addr} {m : List Nat} (h : SqT K H t (nms m)) : Dp K H (.ref t) (gd m) := .tup h (dps_nms m)
theorem gd_at {K : PySem.W.Frag} {H : Hp} {v : V} {m : List Nat} (h : Dp K H v (gd m)) : ∃ t, v = .ref t ∧ SqT K H t (nms m) := by
  obtain ⟨p, us, rfl, h1, h2⟩ := dp_t h
  rw [nms_dps h2] at h1
  exact ⟨p, rfl, h1⟩
theorem gd_T {K : PySem.W.Frag} {H H' : Hp} {v : V} {m : List Nat} (e : SameT H H') (h : Dp K H v (gd m)) : Dp K H' v (gd m) := by
  obtain ⟨t, rfl, ht⟩ := gd_at h
  exact dp_gd (sqt_T e ht)
theorem gds_T {K : PySem.W.Frag} {H H' : Hp} (e : SameT H H') : ∀ {ms : List (List Nat)} {us : List V}, DpAll K H us (ms.map gd) → DpAll K H' us (ms.map gd)
  | [], _, h => by
    cases h
    exact .nil
  | m :: ms, _, h => by
    cases h with
    | cons h1 h2 => exact .cons (gd_T e h1) (gds_T e h2)
theorem dps_gat {K : PySem.W.Frag} {H : Hp} {gs : List V} {ms : List (List Nat)} {i : Nat} {v : V} (h : DpAll K H gs (ms.map gd)) (e : gs[i]? = some v) : ∃ m, ms[i]? = some m ∧ Dp K H v (gd m) := by
  obtain ⟨d, h1, h2⟩ := dps_at h e
  rw [List.getElem?_map] at h1
  cases q : ms[i]? with
  | none => rw [q] at h1; cases h1
  | some m =>
    rw [q] at h1
    cases h1
    exact ⟨m, rfl, h2⟩
def rTupOf (K : PySem.W.Frag) : List V → Hp → VK → Prop := fun xs H Q => ∃ p ys, xs = [.ref p] ∧ ((SqL K H p ys ∧ ∀ l, H l = none → Q (.ref l) (upd H l (.tup ys))) ∨ (SqT K H p ys ∧ Q (.ref p) H))
end CC
namespace CC
open PySem L2 TL
def num (n : Nat) : Str := Str.ofString (toString (n : Int))
theorem tl_app (a b : Str) : tl (a ++ b) = tl a ++ tl b := tl_append a b
end CC
/-! ### the texts of rows -/
namespace CC
open PySem L2 TL
def rowS (row : List Nat) : Str := Txt.join " " (row.map num)
def textT (rows : List (List Nat)) : Str := Txt.join "" (rows.map fun r => rowS r ++ "\n")
/-- a row for a width -/
def RowOk (w : Nat) (row : List Nat) : Prop := row.length = w ∧ ∀ v ∈ row, v ≤ 9999
theorem tl_n (n : Nat) : tl (num n) = numL n := tl_num n
theorem joinL_flat (l : List (List Nat)) : joinL (tl ("" : Str)) l = l.flatten := by
  rw [show tl ("" : Str) = [] by decide +kernel]
  induction l with
  | nil => rfl
  | cons x l ih =>
    cases l with
    | nil => simp [joinL]
    | cons y l =>
      show x ++ ([] ++ joinL [] (y :: l)) = _
      rw [ih, List.nil_append]
      simp
theorem joinL_in {sep : List Nat} {c : Nat} : ∀ {l : List (List Nat)}, c ∈ joinL sep l → c ∈ sep ∨ ∃ p ∈ l, c ∈ p
  | [], h => by simp [joinL] at h
  | [x], h => by
    simp [joinL] at h
    exact .inr ⟨x, by simp, h⟩
  | x :: y :: l, h => by
    have h' : c ∈ x ++ (sep ++ joinL sep (y :: l)) := h
    rcases List.mem_append.mp h' with z | z
    · exact .inr ⟨x, by simp, z⟩
    · rcases List.mem_append.mp z with z | z
      · exact .inl z
      · rcases joinL_in z with q | ⟨p, hp, hc⟩
        · exact .inl q
        · exact .inr ⟨p, List.mem_cons_of_mem _ hp, hc⟩
theorem joinL_le {sep : List Nat} {k : Nat} : ∀ {l : List (List Nat)}, (∀ p ∈ l, p.length ≤ k) → (joinL sep l).length ≤ l.length * (k + sep.length)
  | [], _ => by simp [joinL]
  | [x], h => by
    have := h x (by simp)
    simp [joinL]
    omega
  | x :: y :: l, h => by
    have h1 := h x (by simp)
    have h2 := joinL_le (sep := sep) (l := y :: l) fun p hp => h p (List.mem_cons_of_mem _ hp)
    show (x ++ (sep ++ joinL sep (y :: l))).length ≤ _
    rw [List.length_append, List.length_append, List.length_cons (a := x), Nat.succ_mul]
    omega
theorem row_free {row : List Nat} : 10 ∉ tl (rowS row) := fun h => by
  unfold rowS at h
  rw [join_eq, tl_join] at h
  rcases joinL_in h with z | ⟨p, hp, z⟩
  · rw [show tl (" " : Str) = [32] by decide +kernel] at z
    simp at z
  · obtain ⟨q, hq, rfl⟩ := List.mem_map.mp hp
    obtain ⟨n, _, rfl⟩ := List.mem_map.mp hq
    rw [tl_n] at z
    exact numL_free (.inl (by decide)) z
theorem num_len {n : Nat} (h : n ≤ 9999) : (num n).length ≤ 4 := by
  rw [len_tl, tl_n]
  exact numL_len (by decide) (by omega)
theorem rowS_len {w : Nat} {row : List Nat} (h : RowOk w row) (hw : w ≤ 6) : (rowS row).length ≤ 30 := by
  rw [len_tl]
  unfold rowS
  rw [join_eq, tl_join]
  refine Nat.le_trans (joinL_le (k := 4) fun p hp => ?_) ?_
  · obtain ⟨q, hq, rfl⟩ := List.mem_map.mp hp
    obtain ⟨n, hn, rfl⟩ := List.mem_map.mp hq
    rw [← len_tl]
    exact num_len (h.2 n hn)
  · rw [List.length_map, List.length_map, h.1, show tl (" " : Str) = [32] by decide +kernel]
    show w * 5 ≤ 30
    omega
theorem split_row {row : List Nat} (h : row ≠ []) : Txt.split (rowS row) " " = row.map num := by
  refine split_join (s := 32) (S := []) (by decide +kernel) (by decide +kernel) (fun e => h (List.map_eq_nil_iff.mp e)) fun p hp => ?_
  obtain ⟨n, _, rfl⟩ := List.mem_map.mp hp
  rw [tl_n]
  exact numL_free (.inl (by decide))
theorem tl_lines (L : List Str) : tl (Txt.join "" (L.map fun l => l ++ "\n")) = (L.map fun l => tl l ++ [10]).flatten := by
  rw [join_eq, tl_join, joinL_flat, List.map_map]
  congr 1
  refine List.map_congr_left fun l _ => ?_
  show tl (l ++ "\n") = _
  rw [tl_app, show tl ("\n" : Str) = [10] by decide +kernel]
theorem split_lines {L : List Str} (h : ∀ l ∈ L, 10 ∉ tl l) : Txt.split (Txt.join "" (L.map fun l => l ++ "\n")) "\n" = L ++ [Str.empty] := by
  have e : Txt.join "" (L.map fun l => l ++ "\n") = Txt.join "\n" (L ++ [Str.empty]) := by
    refine ext_tl ?_
    show tl _ = tl _
    rw [tl_lines, join_eq, tl_join, show tl ("\n" : Str) = [10] by decide +kernel]
    clear h
    induction L with
    | nil => decide +kernel
    | cons r L ih =>
      rw [List.map_cons, List.flatten_cons, ih]
      cases L with
      | nil =>
        show tl r ++ [10] ++ tl Str.empty = tl r ++ ([10] ++ tl Str.empty)
        rw [List.append_assoc]
      | cons s L =>
        show tl r ++ [10] ++ _ = tl r ++ ([10] ++ _)
        rw [List.append_assoc]
        rfl
  rw [e]
  refine split_join (s := 10) (S := []) (by decide +kernel) (by decide +kernel) (by simp) fun p hp => ?_
  rcases List.mem_append.mp hp with z | z
  · exact h p z
  · rw [List.mem_singleton.mp z]
    decide +kernel
theorem textT_eq (rows : List (List Nat)) : textT rows = Txt.join "" ((rows.map rowS).map fun l => l ++ "\n") := by
  unfold textT
  rw [List.map_map]
  rfl
theorem split_textT (rows : List (List Nat)) : Txt.split (textT rows) "\n" = rows.map rowS ++ [Str.empty] := by
  rw [textT_eq]
  refine split_lines fun l hl => ?_
  obtain ⟨r, _, rfl⟩ := List.mem_map.mp hl
  exact row_free
theorem textT_len {w : Nat} {rows : List (List Nat)} (h : ∀ r ∈ rows, RowOk w r) (hw : w ≤ 6) : (textT rows).length ≤ 31 * rows.length := by
  rw [len_tl, textT_eq, tl_lines, List.map_map]
  induction rows with
  | nil => simp
  | cons r rows ih =>
    have h1 := rowS_len (h r List.mem_cons_self) hw
    rw [len_tl] at h1
    have h3 := ih fun s hs => h s (List.mem_cons_of_mem _ hs)
    rw [List.map_cons, List.flatten_cons, List.length_append, List.length_cons]
    show (tl (rowS r) ++ [10]).length + _ ≤ _
    rw [List.length_append, List.length_singleton]
    omega
theorem dig_ok : ∀ c : Fin 58, 48 ≤ c.1 → Unicode.isDigit c.1 = true := by decide +kernel
theorem num_digit (n : Nat) : Txt.isdigit (num n) = true := by
  unfold Txt.isdigit
  rw [Bool.and_eq_true]
  refine ⟨decide_eq_true ?_, ?_⟩
  · rw [len_tl, tl_n]
    exact List.length_pos_iff.mpr (numL_ne n)
  · rw [Array.all_eq_true_iff_forall_mem]
    intro c hc
    have m : c ∈ numL n := by
      rw [← tl_n]
      exact Array.mem_def.mp hc
    have := numL_digits n c m
    exact dig_ok ⟨c, by omega⟩ this.1
theorem num_ascii (n : Nat) : Txt.isascii (num n) = true := by
  unfold Txt.isascii
  rw [Array.all_eq_true_iff_forall_mem]
  intro c hc
  have m : c ∈ numL n := by
    rw [← tl_n]
    exact Array.mem_def.mp hc
  have := numL_digits n c m
  exact decide_eq_true (by omega)
theorem num_int {n : Nat} (h : n ≤ 9999) : intText? (num n) = some (n : Int) := int_num (Nat.le_trans (numL_len (k := 4) (by decide) (by omega)) (by decide))
theorem small10k {n : Nat} (h : n ≤ 9999) : (n : Int).natAbs.log2 < 1920 := by
  rw [Int.natAbs_natCast]
  have : n.log2 ≤ n := Nat.log2_le_self n
  by_cases e : n = 0
  · subst e
    decide
  · have := (Nat.log2_lt e (k := 14)).mpr (by omega)
    omega
end CC
namespace CC
open PySem L2 TL
abbrev sIsRow : Stmt := tp 9
abbrev sIsNum : Stmt := tp 43
structure GlbT (mg : Str → Option Value) : Prop where
  lv : ∃ t, mg "LARGEST_VALUE" = some (.int 9999 t)
  mr : ∃ t, mg "MOST_ROWS" = some (.int 400 t)
def spIsRow (K : PySem.W.Frag) : Sp := fun vs H Q _ => ∃ (w : Nat) (t : Addr) (row : List Nat), vs = [.int (w : Int), .ref t] ∧ SqT K H t (nms row) ∧ RowOk w row ∧ w ≤ 6 ∧ ∀ H', Same H H' → Q (.bl true) H'
def spIsNum : Sp := fun vs H Q _ => ∃ n : Nat, vs = [.str (num n)] ∧ n ≤ 9999 ∧ Q (.bl true) H
theorem all_true (m : Nat) : (List.replicate m true).all id = true := by
  rw [List.all_eq_true]
  intro b hb
  rw [List.eq_of_mem_replicate hb]
  rfl
theorem nms_get? {ns : List Nat} {i : Nat} {x : V} (h : (nms ns)[i]? = some x) : ∃ m, ns[i]? = some m ∧ x = .int (m : Int) := by
  rw [nms, List.getElem?_map] at h
  cases z : ns[i]? with
  | none =>
    rw [z] at h
    cases h
  | some m =>
    rw [z] at h
    exact ⟨m, rfl, (Option.some.inj h).symm⟩
section
variable {P : Program} {w : World} {K : PySem.W.Frag} {mg : Str → Option Value} {base : Heap} {kA : Addr}
abbrev nIRow : List Str := ["width", "thing", "part"]
theorem scIsRow : FnScope nIRow ["width", "thing"] (defScope sIsRow) := ⟨rfl, rfl, rfl, by decide +kernel, rfl, by decide +kernel, by decide +kernel⟩
theorem ok_isrow {f : Addr} {fd : FuncData} {k : Nat} (F : Fun K "is_row" "is_row" sIsRow f fd) (T : Glb K mg kA) (TT : GlbT mg) (cI : Cal P w K mg base "is_an_integer" ["thing"] spIsInt 1) : FnOk P w K mg base CX0 (k + 2) f fd ["width", "thing"] (spIsRow K) := by
  have GI := cI.ok (k + 1) (by omega)
  refine F.ok scIsRow (fun vs H Q E h => ?_) (fun cdv A outer s H vs Q E hr h => ?_)
  · obtain ⟨w, t, row, rfl, _⟩ := h
    rfl
  · obtain ⟨w, t, row, rfl, ht, ⟨rl, rv⟩, w6, q⟩ := h
    obtain ⟨tl, hlv⟩ := TT.lv
    have n := scIsRow.nd
    refine ⟨_, (pss_cons (ps_if (PW.pt (pw_or (pt_not (pt_val (pe_callB call_isi (by rfl) T.isi (by decide +kernel) (pa_cons (pv 1) (pa_cons (pe_bltn (v := .ty "tuple") (by rfl) T.tup (by decide +kernel) rfl) pa_nil))))) (pw_or1 (pt_cmpR op_ne (pe_callB call_len_seq (by rfl) T.len PySem.boot_len (pa_cons (pv 1) pa_nil)) (pv 0) (nomark _))))) (pss_one (ps_ret pe_bl)) pss_nil)
      (pss_one (ps_ret (pe_callB (cr_all rfl) (by rfl) T.all (by decide +kernel) (pa_cons (pe_lc (own := [("part", 2)]) (g := gName 2) (tt := tYes) rfl n (pi_tup (pv 1)) (blkOk_by (N := nIRow) (sc := defScope sIsRow) (by decide +kernel))
        (fun _ _ _ _ _ => (pg_name (i := 2) n rfl (.inl rfl))) (fun _ _ _ _ _ => pts_nil) (fun _ _ _ _ _ => (pe_and (pe_call GI hr rfl cI.g cI.kp cI.b .nil pass0 (pa_cons (pv 2) pa_nil)) (pe_one (pe_chain op_le op_le pe_int (pv 2) (pe_glob (v := .int 9999) rfl hlv ⟨_, rfl⟩)))))) pa_nil))))), ?_⟩
    refine ⟨_, rfl, _, _, _, _, true, rfl, .ty _, ty_tup ht, kit_ty (by decide +kernel), _, rfl, iteF ?_⟩
    refine ⟨_, rfl, t, _, rfl, .inr ht, _, rfl, rfl, _, rfl, ?_⟩
    have e0 : (!decide (V.int (((nms row).length : Nat) : Int) = V.int (w : Int))) = false := by
      rw [nms_len, rl]
      simp
    rw [e0]
    refine iteF ?_
    refine ⟨_, rfl, t, rfl, ⟨_, ht⟩, fun D nD => ?_⟩
    refine lc_tup (xs := nms row) (fun i H1 => Same H (wo H1 D) ∧ H1 D = some (.lst ((List.replicate i true).map V.bl)) ∧ i ≤ 6) ⟨?_, upd_same, by omega⟩ (fun i H1 _ z => same_t (z.1.trans (wo_le D)) ht) ?_ ?_
    · rw [wo_upd]
      exact fun b o e => by rw [wo_ne (ne_of_none e nD)]; exact e
    · rintro i v H1 hv ⟨e1, e2, e3⟩
      obtain ⟨y, hy, rfl⟩ := nms_get? hv
      have il := (List.getElem?_eq_some_iff.mp hy).1
      have yv := rv y (List.mem_of_getElem? hy)
      have c1 : decide ((0 : Int) ≤ (y : Int)) = true := decide_eq_true (by omega)
      have c2 : decide ((y : Int) ≤ (9999 : Int)) = true := decide_eq_true (by omega)
      refine ⟨rfl, yes_if ⟨_, rfl, _, rfl, _, rfl, iteT ⟨_, rfl, _, _, rfl, rfl, _, rfl, ?_⟩⟩⟩
      rw [c1]
      refine iteT ⟨_, _, rfl, rfl, ?_⟩
      dsimp only
      rw [c2]
      refine ⟨_, e2, small1000 (by simp; omega), ?_, ?_, by omega⟩
      · rw [wo_upd]
        exact e1
      · rw [upd_same, List.replicate_succ', List.map_append]
        rfl
    rintro H1 ⟨e1, e2, _⟩
    refine ⟨D, _, rfl, SqL.of e2, ?_⟩
    rw [all_true]
    exact q H1 (e1.trans (wo_le D))
theorem scIsNum : FnScope ["word"] ["word"] (defScope sIsNum) := ⟨rfl, rfl, rfl, by decide +kernel, rfl, by decide +kernel, by decide +kernel⟩
theorem ok_isnum {f : Addr} {fd : FuncData} {k : Nat} (F : Fun K "is_numeral" "is_numeral" sIsNum f fd) (T : Glb K mg kA) (TT : GlbT mg) : FnOk P w K mg base CX0 (k + 1) f fd ["word"] spIsNum := by
  refine F.ok scIsNum (fun vs H Q E h => ?_) (fun cdv A outer s H vs Q E hr h => ?_)
  · obtain ⟨m, rfl, _⟩ := h
    rfl
  · obtain ⟨m, rfl, hm, q⟩ := h
    obtain ⟨tl, hlv⟩ := TT.lv
    refine ⟨_, (pss_cons (ps_if (PW.pt (pw_or (pt_cmpR op_gt (pe_callB call_len_str (by rfl) T.len PySem.boot_len (pa_cons (pv 0) pa_nil)) (pe_callB call_len_str (by rfl) T.len PySem.boot_len (pa_cons (pe_callTy call_str_int (by rfl) T.str (by decide +kernel) (pa_cons (pe_glob (v := .int 9999) rfl hlv ⟨_, rfl⟩) pa_nil)) pa_nil)) (nomark _))
        (pw_or (pt_not (pt_val (pe_m0 PySem.F.slot_str_isascii PySem.F.type_str_isascii mt_isascii (pv 0)))) (pw_or1 (pt_not (pt_val (pe_m0 PySem.F.slot_str_isdigit PySem.F.type_str_isdigit mt_isdigit (pv 0)))))))) (pss_one (ps_ret pe_bl)) pss_nil)
      (pss_one (ps_ret (pe_cmpR op_eq (pe_callTy call_str_int (by rfl) T.str (by decide +kernel) (pa_cons (pe_callTy call_int_str (by rfl) T.int (by decide +kernel) (pa_cons (pv 0) pa_nil)) pa_nil)) (pv 0) (nomark _))))), ?_⟩
    have ln := num_len hm
    have l4 : (Str.ofString (toString (9999 : Int))).length = 4 := by decide +kernel
    have big : ∀ {a : Nat}, a ≤ 4 → a ≤ sizeLine := fun h => Nat.le_trans h (by decide)
    refine ⟨_, rfl, _, rfl, big ln, _, rfl, (by decide +kernel), _, rfl, big (Nat.le_of_eq l4), _, _, rfl, rfl, _, rfl, ?_⟩
    have g1 : decide ((((num m).length : Nat) : Int) > (((Str.ofString (toString (9999 : Int))).length : Nat) : Int)) = false := decide_eq_false (by rw [l4]; omega)
    rw [g1]
    refine iteF ⟨_, rfl, ⟨_, rfl⟩, _, rfl, rfl, trivial, _, rfl, ?_⟩
    rw [num_ascii]
    refine iteF ⟨_, rfl, ⟨_, rfl⟩, _, rfl, rfl, trivial, _, rfl, ?_⟩
    rw [num_digit]
    refine iteF ?_
    refine ⟨_, rfl, _, _, rfl, num_int hm, Nat.le_trans ln (by decide), _, rfl, small10k hm, _, rfl, rfl, ?_⟩
    show Q (.bl (decide (V.str (num m) = V.str (num m)))) H
    rw [decide_eq_true rfl]
    exact q
end
end CC
namespace CC
open PySem L2 TL
theorem Ran.T {H H' : Hp} {s : Addr} (r : Ran H H' s) (h : Src H s) : SameT H H' := by
  obtain ⟨o, h1, a, b, c, rfl, _⟩ := h
  constructor
  · intro x xs e
    exact r.at_ e (ne_of e h1 (by intro z; cases z))
  · intro x o xs e
    exact r.at_ e (ne_of e h1 (by intro z; cases z))
theorem cut_from (xs : List V) (n : Nat) : cutV xs (some (n : Int)) none = xs.drop n := by
  unfold cutV
  rw [HT.sIx_nat, HT.sIx_none]
  by_cases h : n ≤ xs.length
  · rw [Nat.min_eq_left h]
    exact List.take_of_length_le (by rw [List.length_drop]; exact Nat.le_refl _)
  · rw [Nat.min_eq_right (by omega), List.drop_eq_nil_of_le (Nat.le_refl _), List.drop_eq_nil_of_le (by omega)]
    simp
theorem cut_to (xs : List V) (n : Nat) : cutV xs none (some (n : Int)) = xs.take n := by
  unfold cutV
  rw [HT.sIx_nat, HT.sIx_none, List.drop_zero, Nat.sub_zero]
  by_cases h : n ≤ xs.length
  · rw [Nat.min_eq_left h]
  · rw [Nat.min_eq_right (by omega), List.take_of_length_le (Nat.le_refl _), List.take_of_length_le (by omega)]
theorem rot_nodup {α : Type} {l : List α} (h : l.Nodup) (n : Nat) : (l.drop n ++ l.take n).Nodup := by
  have p : (l.drop n ++ l.take n).Perm l := by
    have := (List.perm_append_comm : (l.drop n ++ l.take n).Perm (l.take n ++ l.drop n))
    rw [List.take_append_drop] at this
    exact this
  exact p.nodup_iff.mpr h
theorem rot_mem {α : Type} {l : List α} {n : Nat} {x : α} (h : x ∈ l.drop n ++ l.take n) : x ∈ l := by
  rcases List.mem_append.mp h with z | z
  · exact List.mem_of_mem_drop z
  · exact List.mem_of_mem_take z
theorem MadeF.woT {α : Type} {f : α → PyData} {K : PySem.W.Frag} {H0 H : Hp} {D : Addr} {n : Nat} {rs : List α} (p : MadeF f K H0 D n H rs) : SameT H (wo H D) := by
  obtain ⟨us, _, h, _⟩ := p
  exact wo_T h
end CC
namespace CC
/-! ### words in their order: shorter ones first, then by their signs -/
def lx : List Nat → List Nat → Prop
  | [], [] => False
  | [], _ :: _ => True
  | _ :: _, [] => False
  | a :: p, b :: q => a < b ∨ (a = b ∧ lx p q)
theorem lx_irr : ∀ p, ¬ lx p p
  | [], h => h
  | a :: p, h => by
    rcases h with h | ⟨_, h⟩
    · omega
    · exact lx_irr p h
theorem lx_trans : ∀ {p q r : List Nat}, lx p q → lx q r → lx p r
  | [], [], _, h, _ => False.elim h
  | [], _ :: _, [], _, h => False.elim h
  | [], _ :: _, _ :: _, _, _ => trivial
  | _ :: _, [], _, h, _ => False.elim h
  | _ :: _, _ :: _, [], _, h => False.elim h
  | a :: p, b :: q, c :: r, h1, h2 => by
    rcases h1 with h1 | ⟨rfl, h1⟩ <;> rcases h2 with h2 | ⟨rfl, h2⟩
    · exact .inl (by omega)
    · exact .inl h1
    · exact .inl h2
    · exact .inr ⟨rfl, lx_trans h1 h2⟩
theorem lx_tri : ∀ p q : List Nat, lx p q ∨ p = q ∨ lx q p
  | [], [] => .inr (.inl rfl)
  | [], _ :: _ => .inl trivial
  | _ :: _, [] => .inr (.inr trivial)
  | a :: p, b :: q => by
    rcases Nat.lt_trichotomy a b with h | h | h
    · exact .inl (.inl h)
    · subst h
      rcases lx_tri p q with z | z | z
      · exact .inl (.inr ⟨rfl, z⟩)
      · exact .inr (.inl (by rw [z]))
      · exact .inr (.inr (.inr ⟨rfl, z⟩))
    · exact .inr (.inr (.inl h))
theorem lx_app : ∀ {p q : List Nat} (r s : List Nat), p.length = q.length → lx p q → lx (p ++ r) (q ++ s)
  | [], [], _, _, _, h => False.elim h
  | [], _ :: _, _, _, e, _ => by simp at e
  | _ :: _, [], _, _, e, _ => by simp at e
  | a :: p, b :: q, r, s, e, h => by
    rcases h with h | ⟨h1, h⟩
    · exact .inl h
    · exact .inr ⟨h1, lx_app r s (by simpa using e) h⟩
theorem lx_last : ∀ (p : List Nat) {a b : Nat}, a < b → lx (p ++ [a]) (p ++ [b])
  | [], _, _, h => .inl h
  | _ :: p, _, _, h => .inr ⟨rfl, lx_last p h⟩
def SS (p q : List Nat) : Prop := p.length < q.length ∨ (p.length = q.length ∧ lx p q)
theorem SS.irr {p : List Nat} (h : SS p p) : False := by
  rcases h with h | ⟨_, h⟩
  · omega
  · exact lx_irr p h
theorem SS.trans {p q r : List Nat} (h1 : SS p q) (h2 : SS q r) : SS p r := by
  rcases h1 with h1 | ⟨e1, h1⟩ <;> rcases h2 with h2 | ⟨e2, h2⟩
  · exact .inl (by omega)
  · exact .inl (by omega)
  · exact .inl (by omega)
  · exact .inr ⟨by omega, lx_trans h1 h2⟩
theorem SS.tri (p q : List Nat) : SS p q ∨ p = q ∨ SS q p := by
  rcases Nat.lt_trichotomy p.length q.length with h | h | h
  · exact .inl (.inl h)
  · rcases lx_tri p q with z | z | z
    · exact .inl (.inr ⟨h, z⟩)
    · exact .inr (.inl z)
    · exact .inr (.inr (.inr ⟨h.symm, z⟩))
  · exact .inr (.inr (.inl h))
theorem SS.app {p q : List Nat} (x y : Nat) (h : SS p q) : SS (p ++ [x]) (q ++ [y]) := by
  rcases h with h | ⟨e, h⟩
  · exact .inl (by simp; omega)
  · exact .inr ⟨by simp [e], lx_app _ _ e h⟩
theorem SS.last (p : List Nat) {x y : Nat} (h : x < y) : SS (p ++ [x]) (p ++ [y]) := .inr ⟨by simp, lx_last p h⟩
theorem SS.snoc (p : List Nat) (x : Nat) : SS p (p ++ [x]) := .inl (by simp)
/-- a walk -/
inductive Wk (ps : List (Nat × Nat)) (a : Nat) : Nat → List Nat → Prop
  | one : Wk ps a a [a]
  | step {b c : Nat} {w : List Nat} : Wk ps a b w → (b, c) ∈ ps → Wk ps a c (w ++ [c])
theorem Wk.ne {ps : List (Nat × Nat)} {a b : Nat} {w : List Nat} (h : Wk ps a b w) : w ≠ [] := by
  cases h <;> simp
/-- what is found: each column that is reached, with the first of the shortest walks -/
structure FW (ps : List (Nat × Nat)) (st : Nat) (ws : List (Nat × List Nat)) : Prop where
  nd : (ws.map (·.1)).Nodup
  lt : ∀ e ∈ ws, e.1 < 6
  wk : ∀ e ∈ ws, Wk ps st e.1 e.2
  fst : ∀ c q, Wk ps st c q → ∃ v, (c, v) ∈ ws ∧ (v = q ∨ SS v q)
  len : ∀ e ∈ ws, e.2.length ≤ ws.length
/-- between two turns: n columns are through -/
structure BI (ps : List (Nat × Nat)) (st : Nat) (ws : List (Nat × List Nat)) (n : Nat) : Prop where
  nd : (ws.map (·.1)).Nodup
  lt : ∀ e ∈ ws, e.1 < 6
  wk : ∀ e ∈ ws, Wk ps st e.1 e.2
  ord : ∀ (i j : Nat) (e f : Nat × List Nat), i < j → ws[i]? = some e → ws[j]? = some f → SS e.2 f.2
  beg : (st, [st]) ∈ ws
  le : n ≤ ws.length
  len : ∀ (i : Nat) (e : Nat × List Nat), ws[i]? = some e → e.2.length ≤ i + 1
  don : ∀ (i : Nat) (e : Nat × List Nat), i < n → ws[i]? = some e → ∀ b, (e.1, b) ∈ ps → ∃ v, (b, v) ∈ ws ∧ (v = e.2 ++ [b] ∨ SS v (e.2 ++ [b]))
  low : ∀ e ∈ ws, ∀ (j : Nat) (f : Nat × List Nat), n ≤ j → ws[j]? = some f → ∀ x, SS e.2 (f.2 ++ [x])
theorem BI.start {ps : List (Nat × Nat)} {st : Nat} (h : st < 6) : BI ps st [(st, [st])] 0 where
  nd := by simp
  lt := fun e he => by rw [List.mem_singleton.mp he]; exact h
  wk := fun e he => by rw [List.mem_singleton.mp he]; exact .one
  ord := fun i j e f hij h1 h2 => by
    have := (List.getElem?_eq_some_iff.mp h2).1
    simp at this
    omega
  beg := List.mem_singleton.mpr rfl
  le := Nat.zero_le _
  len := fun i e h => by
    have : e ∈ [(st, [st])] := List.mem_of_getElem? h
    rw [List.mem_singleton.mp this]
    simp
  don := fun i e hi => absurd hi (Nat.not_lt_zero _)
  low := fun e he j f _ hf x => by
    have : f ∈ [(st, [st])] := List.mem_of_getElem? hf
    rw [List.mem_singleton.mp he, List.mem_singleton.mp this]
    exact SS.snoc _ _
theorem BI.out {ps : List (Nat × Nat)} {st : Nat} {ws : List (Nat × List Nat)} {n : Nat} (h : BI ps st ws n) (hn : ws.length ≤ n) : FW ps st ws where
  nd := h.nd
  lt := h.lt
  wk := h.wk
  fst := fun c q w => by
    induction w with
    | one => exact ⟨_, h.beg, .inl rfl⟩
    | @step b c w w1 hb ih =>
      obtain ⟨v, hv, e⟩ := ih
      obtain ⟨i, hi⟩ := List.mem_iff_getElem?.mp hv
      have il := (List.getElem?_eq_some_iff.mp hi).1
      obtain ⟨u, hu, e2⟩ := h.don i _ (by omega) hi c hb
      refine ⟨u, hu, ?_⟩
      rcases e with rfl | e
      · exact e2
      · rcases e2 with rfl | e2
        · exact .inr (e.app _ _)
        · exact .inr (e2.trans (e.app _ _))
  len := fun e he => by
    obtain ⟨i, hi⟩ := List.mem_iff_getElem?.mp he
    have := h.len i e hi
    have := (List.getElem?_eq_some_iff.mp hi).1
    omega
/-- within a turn, the column c with the way w: the new ones -/
def nws (w : List Nat) (nb : List Nat) : List (Nat × List Nat) := nb.map fun b => (b, w ++ [b])
structure TI (ps : List (Nat × Nat)) (ws : List (Nat × List Nat)) (c : Nat) (w : List Nat) (bs : List Nat) (i : Nat) (nb : List Nat) : Prop where
  inc : nb.Pairwise (· < ·)
  sub : ∀ b ∈ nb, b ∈ bs.take i
  new : ∀ b ∈ nb, b ∉ ws.map (·.1)
  all : ∀ b ∈ bs.take i, b ∈ ws.map (·.1) ∨ b ∈ nb
theorem TI.start {ps : List (Nat × Nat)} {ws : List (Nat × List Nat)} {c : Nat} {w bs : List Nat} : TI ps ws c w bs 0 [] where
  inc := .nil
  sub := fun _ h => nomatch h
  new := fun _ h => nomatch h
  all := fun _ h => by simp at h
theorem take1 {α : Type} {l : List α} {i : Nat} {x : α} (h : l[i]? = some x) : l.take (i + 1) = l.take i ++ [x] := by
  rw [List.take_succ, h]
  rfl
theorem nws_keys (w nb : List Nat) : (nws w nb).map (·.1) = nb := by
  unfold nws
  rw [List.map_map]
  exact List.map_id' nb
theorem TI.old {ps : List (Nat × Nat)} {ws : List (Nat × List Nat)} {c : Nat} {w bs nb : List Nat} {i b : Nat} (h : TI ps ws c w bs i nb) (hb : bs[i]? = some b) (hm : b ∈ (ws ++ nws w nb).map (·.1)) : TI ps ws c w bs (i + 1) nb where
  inc := h.inc
  sub := fun x hx => by
    rw [take1 hb]
    exact List.mem_append_left _ (h.sub x hx)
  new := h.new
  all := fun x hx => by
    rw [take1 hb] at hx
    rcases List.mem_append.mp hx with z | z
    · exact h.all x z
    · rw [List.mem_singleton.mp z]
      rw [List.map_append, nws_keys] at hm
      exact List.mem_append.mp hm
theorem TI.add {ps : List (Nat × Nat)} {ws : List (Nat × List Nat)} {c : Nat} {w bs nb : List Nat} {i b : Nat} (h : TI ps ws c w bs i nb) (hs : bs.Pairwise (· ≤ ·)) (hb : bs[i]? = some b) (hm : b ∉ (ws ++ nws w nb).map (·.1)) : TI ps ws c w bs (i + 1) (nb ++ [b]) where
  inc := by
    rw [List.pairwise_append]
    refine ⟨h.inc, by simp, fun x hx y hy => ?_⟩
    rw [List.mem_singleton.mp hy]
    have hx2 := h.sub x hx
    obtain ⟨j, hj⟩ := List.mem_iff_getElem?.mp hx2
    have jl := (List.getElem?_eq_some_iff.mp hj).1
    rw [List.length_take] at jl
    have ji : j < i := by omega
    rw [List.getElem?_take_of_lt ji] at hj
    have le : x ≤ b := by
      obtain ⟨l1, e1⟩ := List.getElem?_eq_some_iff.mp hj
      obtain ⟨l2, e2⟩ := List.getElem?_eq_some_iff.mp hb
      have := List.pairwise_iff_getElem.mp hs j i l1 l2 ji
      rw [e1, e2] at this
      exact this
    have ne : x ≠ b := fun e => hm (by rw [List.map_append, nws_keys, ← e]; exact List.mem_append_right _ hx)
    omega
  sub := fun x hx => by
    rw [take1 hb]
    rcases List.mem_append.mp hx with z | z
    · exact List.mem_append_left _ (h.sub x z)
    · exact List.mem_append_right _ z
  new := fun x hx => by
    rcases List.mem_append.mp hx with z | z
    · exact h.new x z
    · rw [List.mem_singleton.mp z]
      intro q
      exact hm (by rw [List.map_append]; exact List.mem_append_left _ q)
  all := fun x hx => by
    rw [take1 hb] at hx
    rcases List.mem_append.mp hx with z | z
    · rcases h.all x z with y | y
      · exact .inl y
      · exact .inr (List.mem_append_left _ y)
    · exact .inr (List.mem_append_right _ z)
theorem nws_mem {w nb : List Nat} {e : Nat × List Nat} : e ∈ nws w nb ↔ e.1 ∈ nb ∧ e.2 = w ++ [e.1] := by
  unfold nws
  rw [List.mem_map]
  constructor
  · rintro ⟨b, hb, rfl⟩
    exact ⟨hb, rfl⟩
  · rintro ⟨h1, h2⟩
    exact ⟨e.1, h1, by rw [← h2]⟩
/-- the turn's end -/
theorem BI.turn {ps : List (Nat × Nat)} {st : Nat} {ws : List (Nat × List Nat)} {n : Nat} (h : BI ps st ws n) {c : Nat} {w bs nb : List Nat} (hc : ws[n]? = some (c, w)) (hbs : ∀ b, b ∈ bs ↔ (c, b) ∈ ps) (hlt : ∀ x ∈ ps, x.1 < 6 ∧ x.2 < 6) (t : TI ps ws c w bs bs.length nb) : BI ps st (ws ++ nws w nb) (n + 1) := by
  have all : ∀ b ∈ bs, b ∈ ws.map (·.1) ∨ b ∈ nb := fun b hb => t.all b (by rw [List.take_length]; exact hb)
  have sub : ∀ b ∈ nb, (c, b) ∈ ps := fun b hb => (hbs b).mp (by have := t.sub b hb; rw [List.take_length] at this; exact this)
  have hw := h.wk _ (List.mem_of_getElem? hc)
  have nl := (List.getElem?_eq_some_iff.mp hc).1
  have at_ : ∀ {j : Nat} {f : Nat × List Nat}, (ws ++ nws w nb)[j]? = some f → (j < ws.length ∧ ws[j]? = some f) ∨ (ws.length ≤ j ∧ (nws w nb)[j - ws.length]? = some f) := fun {j f} hf => by
    by_cases lt : j < ws.length
    · rw [List.getElem?_append_left lt] at hf
      exact .inl ⟨lt, hf⟩
    · rw [List.getElem?_append_right (by omega)] at hf
      exact .inr ⟨by omega, hf⟩
  constructor
  · rw [List.map_append, nws_keys]
    refine List.nodup_append.mpr ⟨h.nd, t.inc.imp (fun h => by omega), fun x hx y hy e => ?_⟩
    subst e
    exact t.new x hy hx
  · intro e he
    rcases List.mem_append.mp he with z | z
    · exact h.lt e z
    · exact (hlt _ (sub _ (nws_mem.mp z).1)).2
  · intro e he
    rcases List.mem_append.mp he with z | z
    · exact h.wk e z
    · obtain ⟨z1, z2⟩ := nws_mem.mp z
      rw [z2]
      exact hw.step (sub _ z1)
  · intro i j e f hij hi hj
    rcases at_ hi with ⟨i1, i2⟩ | ⟨i1, i2⟩ <;> rcases at_ hj with ⟨j1, j2⟩ | ⟨j1, j2⟩
    · exact h.ord i j e f hij i2 j2
    · rw [(nws_mem.mp (List.mem_of_getElem? j2)).2]
      exact h.low e (List.mem_of_getElem? i2) n _ (Nat.le_refl _) hc _
    · omega
    · rw [(nws_mem.mp (List.mem_of_getElem? j2)).2, (nws_mem.mp (List.mem_of_getElem? i2)).2]
      refine SS.last _ ?_
      unfold nws at i2 j2
      rw [List.getElem?_map] at i2 j2
      cases hi3 : nb[i - ws.length]? with
      | none => rw [hi3] at i2; cases i2
      | some x =>
        cases hj3 : nb[j - ws.length]? with
        | none => rw [hj3] at j2; cases j2
        | some y =>
          rw [hi3] at i2
          rw [hj3] at j2
          cases i2
          cases j2
          obtain ⟨l1, e1⟩ := List.getElem?_eq_some_iff.mp hi3
          obtain ⟨l2, e2⟩ := List.getElem?_eq_some_iff.mp hj3
          have := List.pairwise_iff_getElem.mp t.inc _ _ l1 l2 (by omega)
          rw [e1, e2] at this
          exact this
  · exact List.mem_append_left _ h.beg
  · rw [List.length_append]
    omega
  · intro i e hi
    rcases at_ hi with ⟨i1, i2⟩ | ⟨i1, i2⟩
    · exact h.len i e i2
    · rw [(nws_mem.mp (List.mem_of_getElem? i2)).2, List.length_append]
      have := h.len n _ hc
      simp only [List.length_singleton] at this ⊢
      omega
  · intro i e hi he b hb
    rcases at_ he with ⟨i1, i2⟩ | ⟨i1, i2⟩
    · by_cases lt : i < n
      · obtain ⟨v, hv, q⟩ := h.don i e lt i2 b hb
        exact ⟨v, List.mem_append_left _ hv, q⟩
      · have : i = n := by omega
        subst this
        rw [hc] at i2
        cases i2
        rcases all b ((hbs b).mpr hb) with z | z
        · obtain ⟨⟨b', v⟩, hv, rfl⟩ := List.mem_map.mp z
          exact ⟨v, List.mem_append_left _ hv, .inr (h.low _ hv i _ (Nat.le_refl _) hc _)⟩
        · exact ⟨w ++ [b], List.mem_append_right _ (nws_mem.mpr ⟨z, rfl⟩), .inl rfl⟩
    · omega
  · intro e he j f hj hf x
    have old : ∀ e ∈ ws, ∀ b, SS e.2 (w ++ [b]) := fun e he b => h.low e he n _ (Nat.le_refl _) hc b
    rcases List.mem_append.mp he with z | z
    · rcases at_ hf with ⟨j1, j2⟩ | ⟨j1, j2⟩
      · exact h.low e z j f (by omega) j2 x
      · rw [(nws_mem.mp (List.mem_of_getElem? j2)).2]
        exact (old e z _).trans (SS.snoc _ _)
    · rw [(nws_mem.mp z).2]
      rcases at_ hf with ⟨j1, j2⟩ | ⟨j1, j2⟩
      · exact (h.ord n j _ _ (by omega) hc j2).app _ _
      · rw [(nws_mem.mp (List.mem_of_getElem? j2)).2]
        exact .inl (by simp)
end CC
namespace CC
open PySem L2 TL
abbrev sRowsOf : Stmt := tp 44
/-- words of a line, as data -/
def wd (row : List Nat) : PyData := .list ((row.map num).map PyData.str)
theorem dps_strs {K : PySem.W.Frag} {H : Hp} : ∀ {xs : List Str} {us : List V}, DpAll K H us (xs.map PyData.str) → us = xs.map V.str
  | [], _, h => by
    cases h
    rfl
  | x :: xs, _, h => by
    cases h with
    | cons h1 h2 =>
      rw [dp_str h1, dps_strs h2]
      rfl
theorem strs_dps {K : PySem.W.Frag} {H : Hp} : ∀ xs : List Str, DpAll K H (xs.map V.str) (xs.map PyData.str)
  | [] => .nil
  | x :: xs => .cons (.str x) (strs_dps xs)
theorem wd_at {K : PySem.W.Frag} {H : Hp} {v : V} {row : List Nat} (h : Dp K H v (wd row)) : ∃ l, v = .ref l ∧ SqL K H l ((row.map num).map V.str) := by
  obtain ⟨l, us, rfl, h1, h2⟩ := dp_l h
  rw [dps_strs h2] at h1
  exact ⟨l, rfl, h1⟩
theorem dps_wat {K : PySem.W.Frag} {H : Hp} {gs : List V} {ms : List (List Nat)} {i : Nat} {v : V} (h : DpAll K H gs (ms.map wd)) (e : gs[i]? = some v) : ∃ m, ms[i]? = some m ∧ Dp K H v (wd m) := by
  obtain ⟨d, h1, h2⟩ := dps_at h e
  rw [List.getElem?_map] at h1
  cases q : ms[i]? with
  | none => rw [q] at h1; cases h1
  | some m =>
    rw [q] at h1
    cases h1
    exact ⟨m, rfl, h2⟩
theorem word_at {row : List Nat} {i : Nat} {x : V} (h : ((row.map num).map V.str)[i]? = some x) : ∃ m, row[i]? = some m ∧ x = .str (num m) := by
  rw [List.getElem?_map, List.getElem?_map] at h
  cases z : row[i]? with
  | none =>
    rw [z] at h
    cases h
  | some m =>
    rw [z] at h
    exact ⟨m, rfl, (Option.some.inj h).symm⟩
theorem cut_butlast (xs : List V) (x : V) : cutV (xs ++ [x]) none (some (-1)) = xs := by
  unfold cutV
  have e : HT.sIx (xs ++ [x]).length (xs ++ [x]).length (some (-1)) = xs.length := by
    have := HT.clip_eq (-1) (xs ++ [x]).length (xs ++ [x]).length
    rw [if_pos (by decide)] at this
    have hl : (xs ++ [x]).length = xs.length + 1 := by simp
    omega
  rw [HT.sIx_none, e]
  simp
/-- a comprehension with two for's: the outer one over a list -/
theorem two_list {K : PySem.W.Frag} {a : Addr} {xs : List V} {g : TG} {tt : TT} {vs : List Nat} {σ : L2.St} {H1 : Hp} {D : Addr} {Qd : Hp → Prop} {B : L2.St → Hp → (Hp → Prop) → Prop} (Pv : Nat → Hp → Prop) (h0 : Pv 0 (upd H1 D (.lst []))) (hl : ∀ i H, i ≤ xs.length → Pv i H → SqL K H a xs)
    (hs : ∀ i x H, xs[i]? = some x → Pv i H → g x (wipe σ vs) H fun σ2 H2 => wipe σ2 vs = wipe σ vs ∧ tt σ2 H2 fun b H3 => if b = true then B σ2 H3 (Pv (i + 1)) else Pv (i + 1) H3) (hd : ∀ H, Pv xs.length H → Qd H) :
    ∃ W : Nat → Nat → Hp → Prop, (∃ m, W 0 m (upd H1 D (.lst []))) ∧ ∀ i m H, W i m H → ((Itl K a).stop i H ∧ Qd H) ∨ ((Itl K a).go i H ∧ ∃ Nx : Hp → Prop, (∀ H', Nx H' → ∃ m', m' < m ∧ W (i + 1) m' H') ∧ ∀ x H', (Itl K a).yld i H x H' → g x (wipe σ vs) H' fun σ2 H2 => wipe σ2 vs = wipe σ vs ∧ tt σ2 H2 fun b H3 =>
      if b = true then B σ2 H3 Nx else Nx H3) := by
  refine ⟨fun i m H => m = xs.length - i ∧ i ≤ xs.length ∧ Pv i H, ⟨xs.length, by simp, Nat.zero_le _, h0⟩, ?_⟩
  rintro i m H ⟨rfl, hi, p⟩
  have q := hl i H hi p
  by_cases lt : i < xs.length
  · refine .inr ⟨⟨xs, xs[i], q, by simp [lt]⟩, Pv (i + 1), fun H' p' => ⟨xs.length - (i + 1), by omega, rfl, lt, p'⟩, fun x H' y => ?_⟩
    obtain ⟨e, y⟩ := y
    subst e
    exact hs i x _ (y xs q) p
  · have e : i = xs.length := by omega
    subst e
    exact .inl ⟨⟨xs, q, Nat.le_refl _⟩, hd H p⟩
/-- its inner one over a list -/
theorem in_list {K : PySem.W.Frag} {a : Addr} {xs : List V} {H1 : Hp} {Qd : Hp → Prop} {B : V → Hp → (Hp → Prop) → Prop} (Pv : Nat → Hp → Prop) (h0 : Pv 0 H1) (hl : ∀ i H, i ≤ xs.length → Pv i H → SqL K H a xs) (hs : ∀ i x H, xs[i]? = some x → Pv i H → B x H (Pv (i + 1))) (hd : ∀ H, Pv xs.length H → Qd H) :
    ∃ W : Nat → Nat → Hp → Prop, (∃ m, W 0 m H1) ∧ ∀ i m H, W i m H → ((Itl K a).stop i H ∧ Qd H) ∨ ((Itl K a).go i H ∧ ∃ Nx : Hp → Prop, (∀ H', Nx H' → ∃ m', m' < m ∧ W (i + 1) m' H') ∧ ∀ x H', (Itl K a).yld i H x H' → B x H' Nx) := by
  refine ⟨fun i m H => m = xs.length - i ∧ i ≤ xs.length ∧ Pv i H, ⟨xs.length, by simp, Nat.zero_le _, h0⟩, ?_⟩
  rintro i m H ⟨rfl, hi, p⟩
  have q := hl i H hi p
  by_cases lt : i < xs.length
  · refine .inr ⟨⟨xs, xs[i], q, by simp [lt]⟩, Pv (i + 1), fun H' p' => ⟨xs.length - (i + 1), by omega, rfl, lt, p'⟩, fun x H' y => ?_⟩
    obtain ⟨e, y⟩ := y
    subst e
    exact hs i x _ (y xs q) p
  · have e : i = xs.length := by omega
    subst e
    exact .inl ⟨⟨xs, q, Nat.le_refl _⟩, hd H p⟩
def rIntS : List V → Hp → VK → Prop := fun xs H Q => ∃ a n, xs = [.str a] ∧ PySem.intText? a = some n ∧ a.length ≤ 640 ∧ Q (.int n) H
theorem call_intS {X : Cx} : CallR X (.type "int") rIntS := call_int_str
def rLenSq (K : PySem.W.Frag) : List V → Hp → VK → Prop := fun xs H Q => ∃ p ys, xs = [V.ref p] ∧ (SqL K H p ys ∨ SqT K H p ys) ∧ Q (V.int ((ys.length : Nat) : Int)) H
theorem call_lenSq {X : Cx} : CallR X (.builtin "len") (rLenSq X.K) := call_len_seq
def retVal : Stmt → Expr
  | .Return (some v) _ => v
  | _ => .Constant .none 0 ⟨0, 0, 0, 0⟩
def lcScT : Expr → Scope
  | .ListComp _ _ sc _ => sc
  | _ => { kind := .function, names := [], isGenerator := false, isCoroutine := false }
abbrev scRows5 : Scope := lcScT (retVal ((defBody sRowsOf).getD 5 (.Pass ⟨0, 0, 0, 0⟩)))
def spRowsOf (K : PySem.W.Frag) : Sp := fun vs H Q _ => ∃ (w : Nat) (rows : List (List Nat)), vs = [.int (w : Int), .str (textT rows)] ∧ 1 ≤ w ∧ w ≤ 6 ∧ (∀ r ∈ rows, RowOk w r) ∧ rows.length ≤ 400 ∧ NewF gd K H rows Q
section
variable {P : Program} {w : World} {K : PySem.W.Frag} {mg : Str → Option Value} {base : Heap} {kA : Addr}
abbrev nRow : List Str := ["width", "text", "parts", "lines", "part", "words", "word"]
theorem scRowsOf : FnScope nRow ["width", "text"] (defScope sRowsOf) := ⟨rfl, rfl, rfl, by decide +kernel, rfl, by decide +kernel, by decide +kernel⟩
theorem ok_rowsof {f : Addr} {fd : FuncData} {k : Nat} (F : Fun K "rows_of" "rows_of" sRowsOf f fd) (T : Glb K mg kA) (TT : GlbT mg) (cN : Cal P w K mg base "is_numeral" ["word"] spIsNum 1) : FnOk P w K mg base CX0 (k + 2) f fd ["width", "text"] (spRowsOf K) := by
  have GN := cN.ok (k + 1) (by omega)
  refine F.ok scRowsOf (fun vs H Q E h => ?_) (fun cdv A outer s H vs Q E hr h => ?_)
  · obtain ⟨w, rows, rfl, _⟩ := h
    rfl
  · obtain ⟨w, rows, rfl, w1, w6, ok, few, q⟩ := h
    obtain ⟨tm, hmr⟩ := TT.mr
    have n := scRowsOf.nd
    refine ⟨_, (pss_cons (ps_set (i := 2) n rfl (.inl rfl) (pe_split (pv 1) pe_str))
      (pss_cons (ps_setLc (i := 3) (own := [("part", 4)]) (g := gName 4) (tt := tYes) rfl n rfl rfl (sw_true rfl rfl rfl (by decide +kernel)) (pi_list (pe_slice sl_list (pv 2) po_none (po_some (pe_un un_neg pe_int)))) (blkOk_by (N := nRow) (sc := defScope sRowsOf) (by decide +kernel))
        (fun _ _ _ _ _ => (pg_name (i := 4) n rfl (.inl rfl))) (fun _ _ _ _ _ => pts_nil) (fun _ _ _ _ _ => (pe_split (pv 4) pe_str)))
      (pss_cons (ps_if (PW.pt (pw_or (pt_cmpR op_ne (pe_ix ix_list (pv 2) (pe_un un_neg pe_int) (fun _ _ => rfl)) pe_str (nomark _)) (pw_or1 (pt_cmpR op_gt (pe_callB call_len_seq (by rfl) T.len PySem.boot_len (pa_cons (pv 3) pa_nil)) (pe_glob (v := .int 400) rfl hmr ⟨_, rfl⟩) (nomark _))))) (pss_one (ps_ret pe_non)) pss_nil)
      (pss_cons (ps_if (pt_not (pt_val (pe_callB (cr_all rfl) (by rfl) T.all (by decide +kernel) (pa_cons (pe_lc (own := [("words", 5)]) (g := gName 5) (tt := tYes) (te := tOp rEq (tCB (rLenSq K) (tCons (tVar 5) tNil)) (tVar 0)) rfl n (pi_list (pv 3)) (blkOk_by (N := nRow) (sc := defScope sRowsOf) (by decide +kernel))
        (fun _ _ _ _ _ => (pg_name (i := 5) n rfl (.inl rfl))) (fun _ _ _ _ _ => pts_nil) (fun _ _ _ _ _ => (pe_cmpR op_eq (pe_callB call_lenSq (by rfl) T.len PySem.boot_len (pa_cons (pv 5) pa_nil)) (pv 0) (nomark _)))) pa_nil)))) (pss_one (ps_ret pe_non)) pss_nil)
      (pss_cons (ps_if (pt_not (pt_val (pe_callB (cr_all rfl) (by rfl) T.all (by decide +kernel) (pa_cons (pe_lc2 (own := [("words", 5), ("word", 6)]) (vs1 := [6]) (g := gName 5) (g1 := gName 6) (tt := tYes) (tt1 := tYes) (wi1 := iList K (tVar 5)) (te := tCall spIsNum [] E0 (tCons (tVar 6) tNil)) rfl n (pi_list (pv 3)) (blkOk_by (N := nRow) (sc := defScope sRowsOf) (by decide +kernel)) (by decide)
        (fun _ _ _ _ _ => (pg_name (i := 5) n rfl (.inl rfl))) (fun _ _ _ _ _ => pts_nil) (fun _ _ _ _ _ => (pi_list (pv 5))) (fun _ _ _ _ _ => (pg_name (i := 6) n rfl (.inl rfl))) (fun _ _ _ _ _ => pts_nil) (fun _ _ _ _ _ => (pe_call GN hr rfl cN.g cN.kp cN.b .nil pass0 (pa_cons (pv 6) pa_nil)))) pa_nil)))) (pss_one (ps_ret pe_non)) pss_nil)
      (pss_one (ps_ret (pe_lc (own := [("words", 5)]) (g := gName 5) (tt := tYes) (te := tCB (rTupOf K) (tCons (tLc (iList K (tVar 5)) (gName 6) tYes (tCB rIntS (tCons (tVar 6) tNil)) [6]) tNil)) rfl n (pi_list (pv 3)) (blkOk_by (N := nRow) (sc := defScope sRowsOf) (by decide +kernel))
        (fun _ _ _ _ _ => (pg_name (i := 5) n rfl (.inl rfl))) (fun _ _ _ _ _ => pts_nil) (fun _ _ _ _ _ => (pe_callTy call_tuple_of (by rfl) T.tup (by decide +kernel) (pa_cons (pe_lc (own := [("word", 6)]) (g := gName 6) (tt := tYes) rfl n (pi_list (pv 5)) (blkOk_by (N := nRow) (sc := relS scRows5 (defScope sRowsOf)) (by decide +kernel))
        (fun _ _ _ _ _ => (pg_name (i := 6) n rfl (.inl rfl))) (fun _ _ _ _ _ => pts_nil) (fun _ _ _ _ _ => (pe_callTy call_intS (by rfl) T.int (by decide +kernel) (pa_cons (pv 6) pa_nil)))) pa_nil))))))))))), ?_⟩
    have tlen := textT_len ok w6
    have rne : ∀ r ∈ rows, r ≠ [] := fun r hr e => by
      have := (ok r hr).1
      rw [e] at this
      simp at this
      omega
    refine ⟨_, rfl, ⟨_, rfl⟩, _, _, rfl, rfl, by decide +kernel, Nat.le_trans (show (textT rows).length + 2 ≤ 100000 by omega) (by decide), fun p3 n3 => ?_⟩
    rw [split_textT, List.map_append]
    have m3 : Same H (upd H p3 (.lst ((rows.map rowS).map V.str ++ [Str.empty].map V.str))) := same_new n3
    have h3 : (upd H p3 (.lst ((rows.map rowS).map V.str ++ [Str.empty].map V.str))) p3 = some (.lst ((rows.map rowS).map V.str ++ [V.str Str.empty])) := upd_same
    generalize upd H p3 (.lst ((rows.map rowS).map V.str ++ [Str.empty].map V.str)) = H3 at m3 h3
    -- lines
    refine ⟨_, rfl, _, rfl, _, rfl, p3, _, rfl, SqL.of h3, fun p4 n4 => ?_⟩
    rw [cut_butlast]
    have m4 : Same H3 (upd H3 p4 (.lst ((rows.map rowS).map V.str))) := same_new n4
    have h4 : (upd H3 p4 (.lst ((rows.map rowS).map V.str))) p4 = some (.lst ((rows.map rowS).map V.str)) := upd_same
    generalize upd H3 p4 (.lst ((rows.map rowS).map V.str)) = H4 at m4 h4
    refine ⟨p4, rfl, ⟨_, SqL.of h4⟩, fun D nD => ?_⟩
    refine lc_list (xs := (rows.map rowS).map V.str) (fun i H5 => MadeF wd K H4 D i H5 (rows.take i)) MadeF.start (fun i H5 _ z => SqL.of (z.old nD _ _ h4)) ?_ ?_
    · intro i v H5 hv p5
      obtain ⟨r, hr2, rfl⟩ : ∃ r, rows[i]? = some r ∧ v = .str (rowS r) := by
        rw [List.getElem?_map, List.getElem?_map] at hv
        cases z : rows[i]? with
        | none => rw [z] at hv; cases hv
        | some r => rw [z] at hv; exact ⟨r, rfl, (Option.some.inj hv).symm⟩
      have rm := List.mem_of_getElem? hr2
      have il := (List.getElem?_eq_some_iff.mp hr2).1
      have rl := rowS_len (ok r rm) w6
      refine ⟨rfl, yes_if ⟨_, rfl, ⟨_, rfl⟩, _, _, rfl, rfl, by decide +kernel, Nat.le_trans (show (rowS r).length + 2 ≤ 100000 by omega) (by decide), fun l nl => ?_⟩⟩
      rw [split_row (rne r rm), take1 hr2]
      obtain ⟨us5, _, hD5, _⟩ := id p5
      have lD : l ≠ D := (ne_of_none hD5 nl).symm
      exact p5.push (r := r) (by omega) (Nat.lt_succ_self _) (same_new nl) (.lst (.inl (.inl (by rw [wo_ne lD]; exact upd_same))) (strs_dps _))
    intro H5 p5
    rw [List.length_map, List.length_map, List.take_length] at p5
    have o5 := p5.old nD
    obtain ⟨ul, _, hD5, dl0, _⟩ := id p5
    have dl : DpAll K H5 ul (rows.map wd) := dps_same (wo_le D) _ _ dl0
    have ull : ul.length = rows.length := by rw [dps_len dl, List.length_map]
    have s05 : Same H H5 := m3.trans (m4.trans o5)
    have nD0 : H D = none := (m3.trans m4).free nD
    clear p5 dl0
    -- if parts[-1] != "" or len(lines) > 400
    refine ⟨_, rfl, _, rfl, p3, _, -1, _, rfl, rfl, SqL.of (o5 _ _ (m4 _ _ h3)), atI_last _ _, rfl, _, rfl, ?_⟩
    rw [show (!decide (V.str Str.empty = V.str (Str.ofString ""))) = false by decide +kernel]
    refine iteF ⟨_, rfl, D, _, rfl, .inl (SqL.of hD5), _, _, rfl, rfl, _, rfl, ?_⟩
    rw [show decide (((ul.length : Nat) : Int) > (400 : Int)) = false from decide_eq_false (by omega)]
    refine iteF ?_
    -- len(words) == width
    refine ⟨_, rfl, D, rfl, ⟨_, SqL.of hD5⟩, fun D2 nD2 => ?_⟩
    refine lc_list (xs := ul) (fun i H6 => Same H5 (wo H6 D2) ∧ H6 D2 = some (.lst ((List.replicate i true).map V.bl)) ∧ i ≤ 400) ⟨?_, upd_same, by omega⟩ (fun i H6 _ z => SqL.of (wo_le D2 _ _ (z.1 _ _ hD5))) ?_ ?_
    · rw [wo_upd]
      exact fun b o e => by rw [wo_ne (ne_of_none e nD2)]; exact e
    · rintro i v H6 hv ⟨e1, e2, e3⟩
      obtain ⟨r, hr2, dr⟩ := dps_wat dl hv
      have il := (List.getElem?_eq_some_iff.mp hr2).1
      obtain ⟨l, rfl, hl⟩ := wd_at (dp_same (e1.trans (wo_le D2)) _ _ dr)
      refine ⟨rfl, yes_if ⟨_, rfl, l, _, rfl, .inl hl, _, rfl, rfl, ?_⟩⟩
      have ew : decide (V.int (((((r.map num).map V.str).length : Nat)) : Int) = V.int (w : Int)) = true := decide_eq_true (by rw [List.length_map, List.length_map, (ok r (List.mem_of_getElem? hr2)).1])
      rw [ew]
      refine ⟨_, e2, small1000 (by simp; omega), ?_, ?_, by omega⟩
      · rw [wo_upd]
        exact e1
      · rw [upd_same, List.replicate_succ', List.map_append]
        rfl
    rintro H6 ⟨e1, e2, _⟩
    refine ⟨D2, _, rfl, SqL.of e2, _, rfl, ?_⟩
    rw [all_true]
    refine iteF ?_
    have s56 : Same H5 H6 := e1.trans (wo_le D2)
    clear e1 e2
    -- is_numeral(word)
    refine ⟨_, rfl, D, rfl, ⟨_, SqL.of (s56 _ _ hD5)⟩, fun D3 nD3 => ?_⟩
    refine two_list (xs := ul) (fun i H7 => Same H6 (wo H7 D3) ∧ (∃ m, H7 D3 = some (.lst ((List.replicate m true).map V.bl)) ∧ m ≤ 6 * i) ∧ i ≤ 400) ⟨?_, ⟨0, upd_same, by omega⟩, by omega⟩ (fun i H7 _ z => SqL.of (wo_le D3 _ _ (z.1 _ _ (s56 _ _ hD5)))) ?_ ?_
    · rw [wo_upd]
      exact fun b o e => by rw [wo_ne (ne_of_none e nD3)]; exact e
    · rintro i v H7 hv ⟨e1, ⟨m, e2, e3⟩, e4⟩
      obtain ⟨r, hr2, dr⟩ := dps_wat dl hv
      have il := (List.getElem?_eq_some_iff.mp hr2).1
      have rok := ok r (List.mem_of_getElem? hr2)
      obtain ⟨l, rfl, hl5⟩ := wd_at dr
      have wl : ((r.map num).map V.str).length = w := by rw [List.length_map, List.length_map, rok.1]
      refine ⟨rfl, yes_if ⟨_, rfl, l, rfl, ⟨_, same_l (s56.trans (e1.trans (wo_le D3))) hl5⟩, ?_⟩⟩
      refine in_list (xs := (r.map num).map V.str) (fun j H8 => Same H6 (wo H8 D3) ∧ (∃ m, H8 D3 = some (.lst ((List.replicate m true).map V.bl)) ∧ m ≤ 6 * i + j) ∧ j ≤ 6) ⟨e1, ⟨m, e2, by omega⟩, by omega⟩ (fun j H8 _ z => same_l (s56.trans (z.1.trans (wo_le D3))) hl5) ?_ ?_
      · rintro j y H8 hy ⟨f1, ⟨m', f2, f3⟩, f4⟩
        obtain ⟨c, hc, rfl⟩ := word_at hy
        have jl := (List.getElem?_eq_some_iff.mp hc).1
        have r1 := rok.1
        refine ⟨rfl, yes_if ⟨_, rfl, c, rfl, rok.2 c (List.mem_of_getElem? hc), _, f2, Nat.lt_of_lt_of_le (show _ < 10000 by rw [List.length_map, List.length_replicate]; omega) (by decide), ?_, ⟨m' + 1, ?_, by omega⟩, by omega⟩⟩
        · rw [wo_upd]
          exact f1
        · rw [upd_same, List.replicate_succ', List.map_append]
          rfl
      · rintro H8 ⟨f1, ⟨m', f2, f3⟩, _⟩
        rw [wl] at f3
        exact ⟨f1, ⟨m', f2, by omega⟩, by omega⟩
    rintro H7 ⟨e1, ⟨m, e2, e3⟩, _⟩
    refine ⟨D3, _, rfl, SqL.of e2, _, rfl, ?_⟩
    rw [all_true]
    refine iteF ?_
    have s57 : Same H5 H7 := s56.trans (e1.trans (wo_le D3))
    clear e1 e2
    -- the rows
    refine ⟨_, rfl, D, rfl, ⟨_, SqL.of (s57 _ _ hD5)⟩, fun D4 nD4 => ?_⟩
    refine lc_list (xs := ul) (fun i H8 => MadeF gd K H7 D4 i H8 (rows.take i)) MadeF.start (fun i H8 _ z => SqL.of (z.old nD4 _ _ (s57 _ _ hD5))) ?_ ?_
    · intro i v H8 hv p8
      obtain ⟨r, hr2, dr⟩ := dps_wat dl hv
      have il := (List.getElem?_eq_some_iff.mp hr2).1
      have rok := ok r (List.mem_of_getElem? hr2)
      obtain ⟨l, rfl, hl5⟩ := wd_at dr
      have o8 := p8.old nD4
      have wl : ((r.map num).map V.str).length = r.length := by rw [List.length_map, List.length_map]
      refine ⟨rfl, yes_if ⟨_, rfl, l, rfl, ⟨_, same_l (s57.trans o8) hl5⟩, fun D5 nD5 => ?_⟩⟩
      refine lc_list (xs := (r.map num).map V.str) (fun j H9 => Same H8 (wo H9 D5) ∧ H9 D5 = some (.lst (nms (r.take j)))) ⟨?_, upd_same⟩ (fun j H9 _ z => same_l (s57.trans (o8.trans (z.1.trans (wo_le D5)))) hl5) ?_ ?_
      · rw [wo_upd]
        exact fun b o e => by rw [wo_ne (ne_of_none e nD5)]; exact e
      · rintro j y H9 hy ⟨f1, f2⟩
        obtain ⟨c, hc, rfl⟩ := word_at hy
        have jl := (List.getElem?_eq_some_iff.mp hc).1
        have cv := rok.2 c (List.mem_of_getElem? hc)
        have r1 := rok.1
        refine ⟨rfl, yes_if ⟨_, rfl, _, _, rfl, num_int cv, Nat.le_trans (num_len cv) (by decide), _, f2, small1000 (by rw [nms_len, List.length_take]; omega), ?_, ?_⟩⟩
        · rw [wo_upd]
          exact f1
        · rw [upd_same, take1 hc, nms_app]
          rfl
      rintro H9 ⟨f1, f2⟩
      rw [wl, List.take_length] at f2
      have s89 : Same H8 H9 := f1.trans (wo_le D5)
      refine ⟨D5, _, rfl, .inl ⟨SqL.of f2, fun t nt => ?_⟩⟩
      obtain ⟨us8, _, hD8, _⟩ := id p8
      have tD : t ≠ D4 := (ne_of_none (s89 _ _ hD8) nt).symm
      rw [take1 hr2]
      exact p8.push (r := r) (by omega) (Nat.lt_succ_self _) (s89.trans (same_new nt)) (dp_gd (.inl (.inl (by rw [wo_ne tD]; exact upd_same))))
    intro H8 p8
    rw [ull, List.take_length] at p8
    exact p8.out nD4 (s05.trans s57) q
end
end CC
namespace CC
open PySem L2 TL
section
variable {X : Cx} {CX : CXT} {k i : Nat} {f C : Addr} {sp : Sp} {E : XK} {x : Str} {e : Expr} {es : List Expr} {t : TA} {p pos : Pos}
/-- c(e, *y), c a local that holds the class at C -/
theorem pe_makeLS (M : Mk X.K C f) (F : FnR X.prog X.w X.K X.mg X.base CX k f sp) (hr : Room (k + 1) X.A) (hN : X.N[i]? = some x) (hv : Vis X.env.scope x) (hx : Passes CX X E) (ha : PA X (e :: es) t) (hdb : (x == ("__debug__" : Str)) = false := by decide)
    (hcd : (x == ("__classdict__" : Str)) = false := by decide) (he : starEach (e :: es) X.env = (false, eval e X.env) :: starEach es X.env := by rfl) (hst : (backTo pos (starEach es X.env)).any (·.1) = true := by rfl) :
    PE X (.Call (.Name x p) (e :: es) [] pos) (fun σ H Q => σ[i]? = some (some (.ref C)) ∧ StX.tMakeR C sp E t σ H Q) := by
  refine ⟨fun pins s σ H Q I ⟨h1, h2⟩ => ?_⟩
  refine wpAny_Call_Name_kw (thn ((pe_var (pos := p) hN hv hdb hcd).run pins s σ H (fun v H1 => v = .ref C ∧ H1 = H) I ⟨.ref C, h1, rfl, rfl⟩) fun u s1 ⟨v, H1, I1, r1, q1⟩ => ?_)
  obtain ⟨rfl, rfl⟩ := q1
  cases r1
  refine PySem.W.callWith_S2 (h₀ := X.base) I.ok.mod.kin M.kp (thn (ha.run pos pins s1 σ _ _ I1 h2) fun us s2 ⟨vs, H2, I2, r, q⟩ => ⟨I2.kIn, ?_⟩) he hst
  exact StX.run_makeR M F hr hx I2 r q
end
theorem from_le {p : Nat → Prop} {l : Nat} (h : ∀ k, p (k + l)) : ∀ k, l ≤ k → p k := fun k hk => by
  have := h (k - l)
  rwa [Nat.sub_add_cancel hk] at this
end CC
namespace CC
open PySem L2 TL
abbrev sTInit : Stmt := inClass (tp 47) 0
abbrev sTRead : Stmt := inClass (tp 47) 12
def flT0 (w : Nat) : List (Str × V) := putF "span" (.int (w : Int)) []
def fldT (w : Nat) (g : Addr) : List (Str × V) := putF "lines" (.ref g) (flT0 w)
theorem slN : ¬ (("span" : Str) = "lines") := by decide +kernel
theorem fldT_span (w : Nat) (g : Addr) : (fldT w g).lookup ("span" : Str) = some (.int (w : Int)) := by
  unfold fldT flT0
  rw [lookup_putF, if_neg slN, lookup_putF, if_pos rfl]
theorem fldT_lines (w : Nat) (g : Addr) : (fldT w g).lookup ("lines" : Str) = some (.ref g) := by
  unfold fldT
  rw [lookup_putF, if_pos rfl]
/-- a table stands at x -/
def TableAt (K : PySem.W.Frag) (C : Addr) (H : Hp) (x : Addr) (w : Nat) (rows : List (List Nat)) : Prop := ∃ dx g us, H x = some (.ins C dx (fldT w g)) ∧ H g = some (.tup us) ∧ DpAll K H us (rows.map gd)
theorem TableAt.same {K : PySem.W.Frag} {C : Addr} {H H' : Hp} {x : Addr} {w : Nat} {rows : List (List Nat)} (h : TableAt K C H x w rows) (e : Same H H') : TableAt K C H' x w rows := by
  obtain ⟨dx, g, us, h1, h2, h3⟩ := h
  exact ⟨dx, g, us, e _ _ h1, e _ _ h2, dps_same e _ _ h3⟩
structure TxtT (K : PySem.W.Frag) (mg : Str → Option Value) (C : Addr) : Prop where
  cl : Cls K C
  nS : NoAttr K C "span"
  nL : NoAttr K C "lines"
  mgC : mg "Table" = some (.ref C)
def spTInit (K : PySem.W.Frag) (C : Addr) : Sp := fun vs H Q _ => ∃ (x dx : Addr) (w : Nat) (p : Addr) (us : List V) (rows : List (List Nat)), vs = [.ref x, .int (w : Int), .ref p] ∧ H x = some (.ins C dx []) ∧ 1 ≤ w ∧ w ≤ 6 ∧ H p = some (.tup us) ∧ DpAll K (wo H x) us (rows.map gd) ∧
  (∀ r ∈ rows, RowOk w r) ∧ rows.length ≤ 400 ∧ ∀ H', (∀ b o, H b = some o → b ≠ x → H' b = some o) → H' x = some (.ins C dx (fldT w p)) → Q .non H'
def spTInitR (K : PySem.W.Frag) (C : Addr) : Sp := fun vs H Q E => ∃ ws rest, vs = ws ++ rest ∧ ws.length = 2 ∧ rest.length ≤ sizeLine ∧ ∀ p, H p = Option.none → spTInit K C (ws ++ [V.ref p]) (upd H p (.tup rest)) Q E
def spTRead (K : PySem.W.Frag) (C : Addr) : Sp := fun vs H Q _ => ∃ (w : Nat) (rows : List (List Nat)), vs = [.ref C, .int (w : Int), .str (textT rows)] ∧ 1 ≤ w ∧ w ≤ 6 ∧ (∀ r ∈ rows, RowOk w r) ∧ rows.length ≤ 400 ∧ ∀ (x : Addr) (H' : Hp), Same H H' → H x = none → TableAt K C H' x w rows → Q (.ref x) H'
structure MakeT (P : Program) (w : World) (K : PySem.W.Frag) (mg : Str → Option Value) (base : Heap) (C : Addr) (l : Nat) where
  fN : Addr
  M : Mk K C fN
  ok : ∀ k, l ≤ k → FnR P w K mg base CX0 k fN (spTInitR K C)
structure ReadT (P : Program) (w : World) (K : PySem.W.Frag) (mg : Str → Option Value) (base : Heap) (C : Addr) (l : Nat) where
  mc : Value
  pD : Addr
  fD : Addr
  rD : ClX.CRead K C mc
  cD : ClX.CMet K C mc "read" pD fD
  ok : ∀ k, l ≤ k → FnR P w K mg base CX0 k fD (spTRead K C)
section
variable {P : Program} {w : World} {K : PySem.W.Frag} {mg : Str → Option Value} {base : Heap} {kA : Addr}
abbrev nTI : List Str := ["self", "width", "rows", "row"]
theorem scTInit : FnScope nTI ((["self", "width"] : List Str) ++ ([("rows" : Str)] : List Str)) (defScope sTInit) := ⟨rfl, rfl, rfl, by decide +kernel, rfl, by decide +kernel, by decide +kernel⟩
theorem ok_tinit {f C : Addr} {fd : FuncData} {k : Nat} (F : Fun K "__init__" "Table.__init__" sTInit f fd) (T : Glb K mg kA) (TT : GlbT mg) (TC : TxtT K mg C) (cW : Cal P w K mg base "is_width" ["thing"] spIsWidth 2) (cR : Cal P w K mg base "is_row" ["width", "thing"] (spIsRow K) 2) :
    FnR P w K mg base CX0 (k + 3) f (spTInitR K C) := by
  have GW := cW.ok (k + 2) (by omega)
  have GR := cR.ok (k + 2) (by omega)
  obtain ⟨oc, od, kV, doc, pm, an, cdv, ct, osl, rfl, lk, hcd⟩ := F.ex
  refine StX.fn_star (ps := ["self", "width"]) (pv := "rows") lk hcd scTInit StX.cxUp_none (fun us rest hl => ?_) (fun A outer s H vs Q E hr h => ?_)
  · match us, hl with
    | [a, b], _ =>
      cases rest with
      | nil => rfl
      | cons c r => rfl
  · obtain ⟨x, dx, w, p, us, rows, rfl, hx, w1, w6, hp, dp, ok, few, q⟩ := h
    obtain ⟨tm, hmr⟩ := TT.mr
    have n := scTInit.nd
    refine ⟨_, PSs.nox (pss_cons (ps_if (pt_not (pt_val (pe_call GW hr rfl cW.g cW.kp cW.b .nil pass0 (pa_cons (pv 1) pa_nil)))) (pss_one ps_never) pss_nil)
      (pss_cons (ps_if (pt_cmpR op_gt (pe_callB call_len_seq (by rfl) T.len PySem.boot_len (pa_cons (pv 2) pa_nil)) (pe_glob (v := .int 400) rfl hmr ⟨_, rfl⟩) (nomark _)) (pss_one ps_never) pss_nil)
      (pss_cons (ps_if (pt_not (pt_val (pe_callB (cr_all rfl) (by rfl) T.all (by decide +kernel) (pa_cons (pe_lc (own := [("row", 3)]) (g := gName 3) (tt := tYes) (te := tCall (spIsRow K) [] E0 (tCons (tVar 1) (tCons (tVar 3) tNil))) rfl n (pi_tup (pv 2)) (blkOk_by (N := nTI) (sc := defScope sTInit) (by decide +kernel))
        (fun _ _ _ _ _ => (pg_name (i := 3) n rfl (.inl rfl))) (fun _ _ _ _ _ => pts_nil) (fun _ _ _ _ _ => (pe_call GR hr rfl cR.g cR.kp cR.b .nil pass0 (pa_cons (pv 1) (pa_cons (pv 3) pa_nil))))) pa_nil)))) (pss_one ps_never) pss_nil)
      (pss_cons (ps_fld (pv 0) (pv 1) rfl) (pss_one (ps_fld (pv 0) (pv 2) rfl)))))), ?_⟩
    have ul : us.length = rows.length := by rw [dps_len dp, List.length_map]
    refine ⟨_, rfl, w, rfl, w1, w6, _, rfl, iteF ?_⟩
    refine ⟨_, rfl, p, us, rfl, .inr (.inl (.inl hp)), _, _, rfl, rfl, _, rfl, ?_⟩
    rw [show decide (((us.length : Nat) : Int) > (400 : Int)) = false from decide_eq_false (by omega)]
    refine iteF ?_
    refine ⟨_, rfl, p, rfl, ⟨_, .inl (.inl hp)⟩, fun D nD => ?_⟩
    refine lc_tup (xs := us) (fun i H1 => Same H (wo H1 D) ∧ H1 D = some (.lst ((List.replicate i true).map V.bl)) ∧ i ≤ 400) ⟨?_, upd_same, by omega⟩ (fun i H1 _ z => .inl (.inl (wo_le D _ _ (z.1 _ _ hp)))) ?_ ?_
    · rw [wo_upd]
      exact fun b o e => by rw [wo_ne (ne_of_none e nD)]; exact e
    · rintro i v H1 hv ⟨e1, e2, e3⟩
      obtain ⟨r, hr2, dr⟩ := dps_gat dp hv
      have il := (List.getElem?_eq_some_iff.mp hr2).1
      obtain ⟨t, rfl, ht⟩ := gd_at dr
      have sx : Same (wo H x) H1 := (wo_le x).trans (e1.trans (wo_le D))
      refine ⟨rfl, yes_if ⟨_, rfl, _, rfl, w, t, r, rfl, same_t sx ht, ok r (List.mem_of_getElem? hr2), w6, fun H2 s2 => ?_⟩⟩
      refine ⟨_, s2 _ _ e2, small1000 (by simp; omega), ?_, ?_, by omega⟩
      · rw [wo_upd]
        exact e1.trans (wo_same s2)
      · rw [upd_same, List.replicate_succ', List.map_append]
        rfl
    rintro H1 ⟨e1, e2, _⟩
    refine ⟨D, _, rfl, SqL.of e2, _, rfl, ?_⟩
    rw [all_true]
    refine iteF ?_
    have m1 : Same H H1 := e1.trans (wo_le D)
    have hx1 := m1 _ _ hx
    refine ⟨_, rfl, _, rfl, x, C, dx, _, rfl, hx1, TC.cl, TC.nS, (by show 0 < 1000; decide), ?_⟩
    refine ⟨_, rfl, _, rfl, x, C, dx, _, rfl, upd_same, TC.cl, TC.nL, (by show 1 < 1000; decide), ?_⟩
    refine q _ (fun b o e hb => ?_) upd_same
    rw [upd_ne hb, upd_ne hb]
    exact m1 _ _ e
abbrev nTR : List Str := ["cls", "width", "text", "found"]
theorem scTRead : FnScope nTR ["cls", "width", "text"] (defScope sTRead) := ⟨rfl, rfl, rfl, by decide +kernel, rfl, by decide +kernel, by decide +kernel⟩
theorem ok_tread {f C : Addr} {fd : FuncData} {k : Nat} (F : Fun K "read" "Table.read" sTRead f fd) (T : Glb K mg kA) (m : MakeT P w K mg base C 3) (cW : Cal P w K mg base "is_width" ["thing"] spIsWidth 2) (cO : Cal P w K mg base "rows_of" ["width", "text"] (spRowsOf K) 2) : FnOk P w K mg base CX0 (k + 5) f fd ["cls", "width", "text"] (spTRead K C) := by
  have GW := cW.ok (k + 4) (by omega)
  have GO := cO.ok (k + 4) (by omega)
  have GN := m.ok (k + 3) (by omega)
  refine F.ok scTRead (fun vs H Q E h => ?_) (fun cdv A outer s H vs Q E hr h => ?_)
  · obtain ⟨w, rows, rfl, _⟩ := h
    rfl
  · obtain ⟨w, rows, rfl, w1, w6, ok, few, q⟩ := h
    have n := scTRead.nd
    refine ⟨_, pss_cons (ps_if (pt_not (pt_val (pe_call GW hr rfl cW.g cW.kp cW.b .nil pass0 (pa_cons (pv 1) pa_nil)))) (pss_one ps_never) pss_nil)
      (pss_cons (ps_if (pt_not (pt_val (pe_callB call_isi (by rfl) T.isi (by decide +kernel) (pa_cons (pv 2) (pa_cons (pe_bltn (v := .ty "str") (by rfl) T.str (by decide +kernel) rfl) pa_nil))))) (pss_one ps_never) pss_nil)
      (pss_cons (ps_set (i := 3) n rfl (.inl rfl) (pe_call GO hr rfl cO.g cO.kp cO.b .nil pass0 (pa_cons (pv 1) (pa_cons (pv 2) pa_nil))))
      (pss_cons (ps_if (pt_cmpR op_isN (pv 3) pe_non (nomark _)) (pss_one ps_never) pss_nil)
      (pss_one (ps_ret (pe_makeLS (i := 0) m.M GN hr rfl (.inl rfl) pass0 (pa_cons (pv 1) (StX.pa_star (pv 3) pa_nil)))))))), ?_⟩
    refine ⟨_, rfl, w, rfl, w1, w6, _, rfl, iteF ?_⟩
    refine ⟨_, rfl, _, _, _, _, true, rfl, .ty _, .base (.str _), kit_ty (by decide +kernel), _, rfl, iteF ?_⟩
    refine ⟨_, rfl, _, rfl, w, rows, rfl, w1, w6, ok, few, fun p us H1 s1 np hp dp => ?_⟩
    refine ⟨_, rfl, rfl, _, rfl, iteF ?_⟩
    have ul : us.length = rows.length := by rw [dps_len dp, List.length_map]
    refine ⟨rfl, _, rfl, _, rfl, p, us, rfl, .inr (SqL.of hp), fun x dx nx ndx ne => ?_⟩
    rw [List.append_nil]
    refine ⟨[.ref x, .int (w : Int)], us, rfl, rfl, Nat.le_of_lt (small1000 (by omega)), fun g ng => ?_⟩
    have gx : x ≠ g := fun z => by rw [← z, upd_same] at ng; cases ng
    have gdx : dx ≠ g := fun z => by rw [← z, upd_ne ne, upd_same] at ng; cases ng
    have ng1 : H1 g = none := by
      rw [upd_ne gx.symm, upd_ne gdx.symm] at ng
      exact ng
    have keep : ∀ b o, H1 b = some o → (upd (upd (upd H1 dx (.own x)) x (.ins C dx [])) g (.tup us)) b = some o := fun b o e => by
      rw [upd_ne (ne_of_none e ng1), upd_ne (ne_of_none e nx), upd_ne (ne_of_none e ndx)]
      exact e
    refine ⟨x, dx, w, g, us, rows, rfl, by rw [upd_ne gx]; exact upd_same, w1, w6, upd_same, dps_same ?_ _ _ dp, ok, few, fun H' k1 k2 => ⟨rfl, q x H' ?_ ?_ ⟨dx, g, us, k2, ?_, ?_⟩⟩⟩
    · exact fun b o e => by
        have e1 := wo_le p _ _ e
        rw [wo_ne (ne_of_none e1 nx)]
        exact keep b o e1
    · exact fun b o e => k1 b o (keep b o (s1 _ _ e)) (ne_of_none (s1 _ _ e) nx)
    · cases z : H x with
      | none => rfl
      | some o => rw [s1 _ _ z] at nx; cases nx
    · exact k1 g _ upd_same gx.symm
    · refine dps_same (fun b o e => ?_) _ _ dp
      have e1 := wo_le p _ _ e
      exact k1 b o (keep b o e1) (ne_of_none e1 nx)
end
end CC
namespace GD
open PySem PySem.Spec PyProof.Rows L2
/-- a def of the top whose code object is at c -/
structure FunC (K : PySem.W.Frag) (x q : Str) (st : Stmt) (f : Addr) (fd : FuncData) (c : Addr) : Prop where
  ex : ∃ (oc : Value) (od : Option Addr) (kV doc pm : Value) (an : Option Addr) (ct : Value) (osl : Array (Option Value)),
    fd = PySem.W.fnOf x q (defArgs st) (defBody st) (defScope st) .none kV doc pm an (.ref c) ct ∧ K.lookup f = some ⟨oc, od, .func fd, osl⟩ ∧ PySem.W.codeIn K (.ref c) q = true
  kp : PySem.W.keepIn K (.ref f) = true
section
variable {P : Program} {w : World} {K : PySem.W.Frag} {mg : Str → Option Value} {base : Heap} {k : Nat} {f c : Addr} {fd : FuncData} {ps : List Str} {sp : Sp}
theorem fun_okGC {x q : Str} {st : Stmt} {N : List Str} (F : FunC K x q st f fd c) (S : FnScope N ps (defScope st)) (few : ∀ vs H Q E, sp vs H Q E → vs.length = ps.length)
    (body : ∀ (A : Around) (out : List Env) (s : Shared) (H : Hp) (vs : List V) (Q : VK) (E : XK), Calm (A.deeper (envOfC q (defScope st) s.heap.objs.size f (.ref c))) → Room k (A.deeper (envOfC q (defScope st) s.heap.objs.size f (.ref c))) → sp vs H Q E →
      ∃ t, PSs (cxOf CX0 P w K mg base N q (defScope st) f (.ref c) A out s H E).nox (defBody st) t ∧ t { nx := fun _ H' => Q .non H', rt := Q } (start N vs) H) : FnG P w K mg base CX0 (k + 1) f fd ps sp := by
  obtain ⟨oc, od, kV, doc, pm, an, ct, osl, rfl, look, hcd⟩ := F.ex
  constructor
  · exact few
  intro A out s H args us vs Q E calm room e0 bound rel wish
  have keep : ∀ b o, base.get? b = some o → s.heap.get? b = some o := fun b o e => (e0.bs b o e).1
  have inK := e0.mod.kin.keeps keep
  have noL := e0.mod.nolimit.keeps keep
  have size := few _ _ _ _ wish
  refine codeAny_call_function room.depth (inK _ _ look) rfl S.co S.gen rfl (PySem.W.codeRec_of inK hcd) (bound _ _ _ _ ?_)
  refine wpAny_newFunctionEnv_cells S.kind (fun y hy => ?_) fun env he s1 x => ?_
  · rcases S.par y.1 (List.of_mem_zip hy).1 with z | z
    · exact .inl z
    · exact .inr ⟨z, PySem.W.cellsFrom_some _ _ _ (.inl z)⟩
  subst he
  refine ⟨noL.keeps x.toInCall.keep, codeAny_func ?_⟩
  obtain ⟨t, d, r⟩ := body A out s H vs Q E calm (room.deeper _) wish
  have J := inv_start (CX := CX0) (E := E) S room.hd e0 size rel x
  refine wpAny_mono (d.nox.run [] s1 (start N vs) H _ J r) (fun fl s2 z => ?_) fun _ _ z => z
  cases fl with
  | brk => exact z.elim fun _ z => z.elim fun _ z => z.2.elim
  | cont => exact z.elim fun _ z => z.elim fun _ z => z.2.elim
  | next =>
    obtain ⟨τ, H2, J2, q⟩ := z
    exact ⟨.non, H2, J2.os, J2.bare, J2.base, J2.hok, rfl, q⟩
  | ret u =>
    obtain ⟨v, τ, H2, J2, rv, q⟩ := z
    exact ⟨v, H2, J2.os, J2.bare, J2.base, J2.hok, rv, q⟩
end
end GD
namespace CC
open PySem L2 LamX
/-! the heap without its tables of code objects -/
def isTb : HO → Bool
  | .tbl _ => true
  | _ => false
def nt (H : Hp) : Hp := fun b => (H b).filter fun o => !isTb o
section
variable {H H' : Hp} {K : PySem.W.Frag} {b a : Addr} {o : HO} {xs : List V}
theorem nt_at (e : nt H b = some o) : H b = some o ∧ isTb o = false := by
  unfold nt at e
  rw [Option.filter_eq_some_iff] at e
  exact ⟨e.1, by simpa using e.2⟩
theorem nt_of (e : H b = some o) (n : isTb o = false) : nt H b = some o := by
  unfold nt
  rw [Option.filter_eq_some_iff]
  exact ⟨e, by rw [n]; rfl⟩
theorem nt_le : Same (nt H) H := fun b o e => (nt_at e).1
theorem tb_no (n : isTb o = false) (ps : Array Value) : o ≠ .tbl ps := fun z => by
  rw [z] at n
  cases n
theorem ext_nt (e : ExtN H H') : Same (nt H) (nt H') := fun b o q => by
  obtain ⟨q, n⟩ := nt_at q
  exact nt_of (e b o q (tb_no n)) n
theorem nt_same (e : Same H H') : Same (nt H) (nt H') := ext_nt (ExtN.of e)
theorem sql_nt (h : SqL K H a xs) : SqL K (nt H) a xs := by
  rcases h with (h | ⟨o, h⟩) | h
  · exact .inl (.inl (nt_of h rfl))
  · exact .inl (.inr ⟨o, nt_of h rfl⟩)
  · exact .inr h
theorem sqt_nt (h : SqT K H a xs) : SqT K (nt H) a xs := by
  rcases h with (h | ⟨o, h⟩) | h
  · exact .inl (.inl (nt_of h rfl))
  · exact .inl (.inr ⟨o, nt_of h rfl⟩)
  · exact .inr h
theorem nt_T : SameT H (nt H) := ⟨fun b xs h => nt_of h rfl, fun b o xs h => nt_of h rfl⟩
theorem TableAt.nt {C x : Addr} {w : Nat} {rows : List (List Nat)} (h : TableAt K C H x w rows) : TableAt K C (nt H) x w rows := by
  obtain ⟨dx, g, us, h1, h2, h3⟩ := h
  exact ⟨dx, g, us, nt_of h1 rfl, nt_of h2 rfl, gds_T nt_T h3⟩
theorem TableAt.ext {C x : Addr} {w : Nat} {rows : List (List Nat)} (h : TableAt K C H x w rows) (e : ExtN H H') : TableAt K C H' x w rows := (h.nt.same (ext_nt e)).same nt_le
theorem ext_T (e : ExtN H H') : SameT H H' := ⟨fun b xs h => e _ _ h (tb_no rfl), fun b o xs h => e _ _ h (tb_no rfl)⟩
theorem ext_l (e : ExtN H H') (h : SqL K H a xs) : SqL K H' a xs := same_l ((ext_nt e).trans nt_le) (sql_nt h)
/-- the tables still stand -/
theorem tabs_same {T : List (Addr × Str)} (t : Tabs T H) (e : Same H H') : Tabs T H' := t.ext e
/-- what stands before a lambda's body: a raise leaves it -/
theorem takes_lam {X : Cx} {A : Around} {outer : List Env} {s : Shared} {E : XK} {scope : Scope} {f c' : Addr} : Takes (lamCx X A outer s H E scope f c') (fun cls d _ H' => E cls d H') := takes_of rfl rfl rfl rfl
end
end CC
/-! sorted(xs, key=lambda y: ..), the keys ints -/
namespace SLK
open PySem PySem.Spec PyProof.Rows L2 LamX PySem.W
/-- the names of a lambda with one parameter -/
structure Lam1 (sc scope : Scope) (y : Str) : Prop where
  kind : scope.kind = .function
  co : scope.isCoroutine = false
  gen : scope.isGenerator = false
  par : scope.names.lookup y = some .local
  own : ∀ z ∈ scope.names, z.2 ≠ .cell ∧ (z.2 = .local → z.1 = y)
  free : ∀ z ∈ scope.names, z.2 = .free → sc.names.lookup z.1 = some .cell ∨ sc.names.lookup z.1 = some .free
def lam1B (sc scope : Scope) (y : Str) : Bool :=
  decide (scope.kind = .function) && !scope.isCoroutine && !scope.isGenerator && decide (scope.names.lookup y = some .local) && scope.names.all fun z => !decide (z.2 = .cell) && (!decide (z.2 = .local) || decide (z.1 = y)) && (!decide (z.2 = .free) || decide (sc.names.lookup z.1 = some .cell) || decide (sc.names.lookup z.1 = some .free))
theorem lam1_by {sc scope : Scope} {y : Str} (h : lam1B sc scope y = true) : Lam1 sc scope y := by
  unfold lam1B at h
  simp only [Bool.and_eq_true, Bool.or_eq_true, Bool.not_eq_true', decide_eq_true_eq, decide_eq_false_iff_not, List.all_eq_true] at h
  obtain ⟨⟨⟨⟨a, b⟩, c⟩, d⟩, e⟩ := h
  refine ⟨a, b, c, d, fun z hz => ⟨(e z hz).1.1, fun l => ?_⟩, fun z hz l => ?_⟩
  · rcases (e z hz).1.2 with q | q
    · exact absurd l q
    · exact q
  · rcases (e z hz).2 with (q | q) | q
    · exact absurd l q
    · exact .inl q
    · exact .inr q
theorem Lam1.has {X : Cx} {scope : Scope} {y : Str} (L : Lam1 X.env.scope scope y) (ok : X.Ok) : ∀ z ∈ scope.names, z.2 = .free → ∃ c, X.env.cells.lookup z.1 = some c := fun z hz e =>
  (L.free z hz e).elim (fun k => ok.has _ (.inl k)) fun k => ok.has _ (.inr k)
section
variable {X : Cx} {pins : List (Addr × Obj)} {σ : L2.St} {H : Hp} {s : Shared}
/-- the lambda's body begins, its parameter in slot ip -/
theorem lam1_start {A : Around} {E : XK} {scope : Scope} {y : Str} {f c' : Addr} {h₁ : Heap} {tk ip : Nat} {x : V} {u : Value} (I : Inv X pins σ H s) (L : Lam1 X.env.scope scope y) (hN : X.N.Nodup) (hip : X.N[ip]? = some y) (ru : RelV x u)
    (e0 : Env0 X.prog X.w X.K X.mg X.base A X.stack s H) (hd : A.handled = none) (hns : h₁.Ns s.heap.objs.size fun z => ([(y, u)] : List (Str × Value)).reverse.lookup z) (kp : ∀ b o, s.heap.get? b = some o → h₁.get? b = some o) :
    Inv (lamCx X A X.stack s H E scope f c') [] (σ.set ip (some x)) H { s with heap := h₁, toks := tk } := by
  have there := L.has I.ok
  have back : ∀ {z c}, (cloFrom X.env.cells scope.names []).lookup z = some c → X.env.cells.lookup z = some c := fun {z c} e => by
    rcases cloFrom_mem (PySem.mem_of_lookup e) with q | ⟨q, r⟩
    · cases q
    · obtain ⟨d, hd⟩ := there _ q rfl
      have hd : X.env.cells.lookup z = some d := hd
      have : c = d := by rw [r, hd]; rfl
      rw [this]
      exact hd
  have look : ∀ {z}, scope.names.lookup z = some .free → ∃ c, (cloFrom X.env.cells scope.names []).lookup z = some c := fun {z} q => by
    have m : (z, NameKind.free) ∈ scope.names := PySem.mem_of_lookup q
    exact mem_lookup (cloFrom_has (cells := X.env.cells) (acc := []) m)
  have noex : ∀ b : Addr, b ∉ (lamCx X A X.stack s H E scope f c').ex := fun b z => nomatch (show b ∈ ([] : List Addr) from z)
  have isC : ∀ {c : Addr} {v : Option Value}, s.heap.IsCell c v → h₁.IsCell c v := fun {c v} ⟨o, q, d⟩ => ⟨o, kp _ _ q, d⟩
  have oks : (lamCx X A X.stack s H E scope f c').Ok := by
    refine { mod := e0.mod, kind := L.kind, glob := rfl, blt := rfl, above := Nat.le_refl _, inj := fun z1 z2 c a b => I.ok.inj z1 z2 c (back a) (back b), has := fun z hz => ?_, cab := fun z c q _ => ?_, hd := fun _ => hd, frames := Around.frames_deeper e0.frames, stk := .inr ⟨rfl, rfl⟩, exf := fun b q => absurd q (noex b), bs := e0.bs, bsz := e0.bsz, noex := fun b _ _ => noex b, exfs := fun b q => absurd q (noex b), funs := e0.funs, frf := e0.frf }
    · have hz : scope.names.lookup z = some .cell ∨ scope.names.lookup z = some .free := hz
      rcases hz with q | q
      · exact absurd rfl (L.own _ (PySem.mem_of_lookup q)).1
      · exact look q
    · cases (show false = true from q)
  refine { ok := oks, os := rfl, bare := e0.bare, base := Un.kept kp, loc := ⟨_, hns, fun i z v a b vis => ?_⟩, cell := fun z c e => ?_, free := e0.hok.fresh (Nat.le_refl _), freeC := fun z c e => I.freeC z c (back e), pin := fun q hq => (nomatch (show q ∈ ([] : List (Addr × Obj)) from hq)), hok := e0.hok.kept kp, len := ?_ }
  · have vis : Vis scope z := vis
    have a : X.N[i]? = some z := a
    rcases vis with q | q | q
    · have zy : z = y := (L.own _ (PySem.mem_of_lookup q)).2 rfl
      subst zy
      have il : i < X.N.length := (List.getElem?_eq_some_iff.mp a).1
      have e : i = ip := (List.getElem?_inj il hN).mp (a.trans hip.symm)
      subst e
      rw [List.getElem?_set_self (by rw [I.len]; exact il)] at b
      cases b
      exact ⟨u, ru, .inl ⟨q, by simp⟩⟩
    · exact absurd rfl (L.own _ (PySem.mem_of_lookup q)).1
    · have ne : ip ≠ i := fun e => by
        subst e
        rw [hip] at a
        cases a
        rw [L.par] at q
        cases q
      rw [List.getElem?_set_ne ne] at b
      obtain ⟨m, hn, hl⟩ := I.loc
      have vz : Vis X.env.scope z := (L.free _ (PySem.mem_of_lookup q) rfl).elim (fun k => .inr (.inl k)) fun k => .inr (.inr k)
      obtain ⟨w', r, t⟩ := hl i z v a b vz
      obtain ⟨c2, h2⟩ := look q
      refine ⟨w', r, .inr ⟨.inr q, c2, h2, ?_⟩⟩
      have c1 := back h2
      rcases t with ⟨k, _⟩ | ⟨_, c3, e3, t⟩
      · have k : X.env.scope.names.lookup z = some .local := k
        rcases L.free _ (PySem.mem_of_lookup q) rfl with k2 | k2
        · rw [show X.env.scope.names.lookup z = _ from k2] at k
          cases k
        · rw [show X.env.scope.names.lookup z = _ from k2] at k
          cases k
      · rw [c1] at e3
        cases e3
        exact isC t
  · obtain ⟨v, t⟩ := I.cell z c (back e)
    exact ⟨v, isC t⟩
  · rw [List.length_set]
    exact I.len
/-- f(u), f what the lambda made -/
theorem lam1_run {A : Around} {params : Arguments} {body : Expr} {scope : Scope} {y : Str} {f c' : Addr} {pm ctv : Value} {k ip : Nat} {x : V} {u : Value} {tb : TE} {Q : VK} (I : Inv X pins σ H s) (L : Lam1 X.env.scope scope y) (hN : X.N.Nodup) (hip : X.N[ip]? = some y) (ru : RelV x u)
    (hf : s.heap.get? f = some (kla_obj "<lambda>" (X.env.qual ++ "<lambda>") params body scope (cloFrom X.env.cells scope.names []) pm c' ctv)) (hc : H c' = some (CodeO c' (X.env.qual ++ "<lambda>")))
    (hbind : ∀ (q : Str) (cl : List (Str × Addr)) (pm cv ctv u : Value), bindArgs (kla_fn "<lambda>" q params body scope cl pm cv ctv) ⟨[u], []⟩ = pure [(y, u)]) (hr : Room (k + 1) A) (e0 : Env0 X.prog X.w X.K X.mg X.base A X.stack s H)
    (hbody : ∀ (A : Around) (s : Shared) (H : Hp) (f c' : Addr), Room k (A.deeper (lamEnv X scope s.heap.objs.size f c')) → PE (lamCx X A X.stack s H (fun _ _ _ => False) scope f c') body tb)
    (h : tb (σ.set ip (some x)) H Q) : codeAny (model X.prog X.w) A (.call (.ref f) ⟨[u], []⟩) (fun r s' => ∃ v, r = .ok (.ret v) ∧ CE X.stack X.prog X.w H s Q v s') s := by
  obtain ⟨⟨oc, vs, t, hoc, hdc, hvc⟩, _, _⟩ := I.hok c' _ hc
  refine kla_callFunE hr.depth hf rfl L.co L.gen rfl ⟨c', oc, vs, t, rfl, hoc, hdc, hvc⟩ ?_
  rw [hbind]
  refine wpAny_pure (wpAny_newFunctionEnv (fun z hz => (L.own z hz).1) (fun z hz => ?_) (fun h₁ hns hsb => ⟨I.nolimit.fresh _ hsb, ?_⟩) L.kind)
  · rw [List.mem_singleton.mp hz]
    exact L.par
  show codeAny _ _ (.expr body (lamEnv X scope s.heap.objs.size f c')) _ _
  have kp : ∀ b o, s.heap.get? b = some o → h₁.get? b = some o := fun b o e => hsb.extBut b o (Nat.ne_of_lt (Heap.lt_size e)) (Heap.get?_push_of_some _ e)
  have J := lam1_start (A := A) (E := fun _ _ _ => False) (f := f) (c' := c') (tk := s.toks + ([(y, u)] : List (Str × Value)).length) I L hN hip ru e0 hr.hd hns kp
  refine kla_codeExpr (wpAny_mono ((hbody _ _ _ _ _ (hr.deeper _)).run [] _ _ H Q J h) (fun v s' hq => ?_) fun e s' hq => ?_)
  · obtain ⟨w', H', J', rv, q⟩ := hq
    exact ⟨v, rfl, w', H', J'.os, J'.bare, J'.base, J'.hok, rv, q⟩
  · have no : ∀ e' s'', L2.CX X.prog X.w X.stack H s (fun _ _ _ => False) e' s'' → False := fun e' s'' ⟨_, _, _, _, _, _, _, _, _, _, _, _, z⟩ => z
    exact wpAny_mono (show wpAny (model X.prog X.w) _ (leaving _ e) (fun _ s'' => L2.CX X.prog X.w X.stack H s (fun _ _ _ => False) e s'') (fun e' s'' => L2.CX X.prog X.w X.stack H s (fun _ _ _ => False) e' s'') s' from hq) (fun _ s'' z => (no _ _ z).elim) fun _ s'' z => (no _ _ z).elim
/-- sorted, by a key that is what a lambda made; ks: the keys. Pv holds before each call of it -/
theorem sorted_lam1 {params : Arguments} {body : Expr} {scope : Scope} {y : Str} {f c' a : Addr} {pm ctv : Value} {k ip : Nat} {tb : TE} {Q : VK} {xs : List V} {ks : List Int} {E : Value → Shared → Prop} (Pv : Nat → Hp → Prop) (I : Inv X pins σ H s) (L : Lam1 X.env.scope scope y) (hN : X.N.Nodup) (hip : X.N[ip]? = some y)
    (hf : s.heap.get? f = some (kla_obj "<lambda>" (X.env.qual ++ "<lambda>") params body scope (cloFrom X.env.cells scope.names []) pm c' ctv)) (hfn : H f = none) (hfr : f ∉ frs X.stack)
    (hbind : ∀ (q : Str) (cl : List (Str × Addr)) (pm cv ctv u : Value), bindArgs (kla_fn "<lambda>" q params body scope cl pm cv ctv) ⟨[u], []⟩ = pure [(y, u)]) (hr : Room (k + 3) X.A)
    (hbody : ∀ (A : Around) (s : Shared) (H : Hp) (f c' : Addr), Room k (A.deeper (lamEnv X scope s.heap.objs.size f c')) → PE (lamCx X A X.stack s H (fun _ _ _ => False) scope f c') body tb)
    (hs : SqL X.K H a xs) (len : ks.length = xs.length) (p0 : Pv 0 H) (code : ∀ i G, Pv i G → G c' = some (CodeO c' (X.env.qual ++ "<lambda>")))
    (turn : ∀ i x n G, xs[i]? = some x → ks[i]? = some n → Pv i G → tb (σ.set ip (some x)) G fun v G' => v = .int n ∧ Pv (i + 1) G')
    (fin : ∀ (G : Hp) (p : Addr) (zs : List (V × Int)), Pv xs.length G → G p = none → zs.Perm (xs.zip ks) → zs.Pairwise (fun b c => b.2 ≤ c.2) → Q (.ref p) (upd G p (.lst (zs.map (·.1))))) :
    wpAny (model X.prog X.w) X.A (call (.builtin "sorted") [.ref a] [(Str.ofString "key", .ref f)]) (EP X pins σ Q) E s := by
  obtain ⟨its, rv, hl, hz⟩ := I.list hs
  have li : xs.length = its.length := rv.length
  have hz' : its.length ≤ sizeLine := by omega
  refine sorted_of_sort hl.isList hz' (ksk_s1 _ _) (fun _ => ksk_l1 _ _) fun E' => ?_
  rw [ksk_t1]
  obtain ⟨D, eD⟩ : ∃ D, D = s.heap.objs.size + 1 := ⟨_, rfl⟩
  have at0 := copyHeap_at s.heap its
  rw [← eD] at at0 ⊢
  have old0 : ∀ b o, s.heap.get? b = some o → b ≠ D ∧ (copyHeap s.heap its).get? b = some o := fun b o e => ⟨Nat.ne_of_lt (by rw [eD]; exact Nat.lt_succ_of_lt (Heap.lt_size e)), copyHeap_old e⟩
  have nD : H D = none := I.hok.fresh (by omega)
  have fD : FpOk X pins H D := I.fpOk (by omega) nD
  have bigD : s.heap.objs.size ≤ D := by omega
  have szD : D < (copyHeap s.heap its).objs.size := Heap.lt_size at0
  generalize copyHeap s.heap its = h0 at at0 old0 szD
  obtain ⟨e1, ho1⟩ : ∃ e1, (h0.update D (Obj.mapSeq fun _ => (#[] : Array Value))).get? D = some (seqObj "list" #[] e1) := ⟨_, get?_update_seq at0 fun _ => #[]⟩
  unfold ksk_tree
  refine wpAny_bind (listItems_at at0 rfl ?_)
  refine wpAny_bind (listUpdate_at at0 rfl ?_ (by rw [List.size_toArray]; exact hz') (Nat.zero_le _))
  refine wpAny_bind (seqEpoch_at ho1 rfl ?_)
  refine wpAny_bind (wpAny_newTuple ?_ (by show its.length ≤ _; exact hz'))
  refine wpAny_bind (wpAny_newList ?_ (Nat.zero_le _))
  refine wpAny_holding ?_
  obtain ⟨S, eS⟩ : ∃ S, S = ((h0.update D (Obj.mapSeq fun _ => (#[] : Array Value))).push (seqObj "tuple" its.toArray 0)).objs.size := ⟨_, rfl⟩
  have szS : S = h0.objs.size + 1 := by rw [eS, size_push', Heap.size_update]
  have atS : (((h0.update D (Obj.mapSeq fun _ => (#[] : Array Value))).push (seqObj "tuple" its.toArray 0)).push (seqObj "list" #[] 0)).get? S = some (seqObj "list" #[] 0) := by
    rw [eS]
    exact Heap.get?_push_size _ rfl
  have atD : (((h0.update D (Obj.mapSeq fun _ => (#[] : Array Value))).push (seqObj "tuple" its.toArray 0)).push (seqObj "list" #[] 0)).get? D = some (seqObj "list" #[] e1) := Heap.get?_push_of_some _ (Heap.get?_push_of_some _ ho1)
  have old1 : ∀ b o, s.heap.get? b = some o → (((h0.update D (Obj.mapSeq fun _ => (#[] : Array Value))).push (seqObj "tuple" its.toArray 0)).push (seqObj "list" #[] 0)).get? b = some o := fun b o e => by
    obtain ⟨n1, n2⟩ := old0 b o e
    refine Heap.get?_push_of_some _ (Heap.get?_push_of_some _ ?_)
    rw [Heap.get?_update_ne _ _ _ _ n1]
    exact n2
  rw [← eS]
  generalize ((h0.update D (Obj.mapSeq fun _ => (#[] : Array Value))).push (seqObj "tuple" its.toArray 0)).push (seqObj "list" #[] 0) = h1 at atS atD old1
  have bigS : s.heap.objs.size ≤ S := by omega
  have SD : S ≠ D := by omega
  have nS : H S = none := I.hok.fresh bigS
  have fS : FpOk X pins H S := I.fpOk bigS nS
  have notfr : ∀ b, s.heap.objs.size ≤ b → b ∉ frs X.stack := fun b hb z => by
    rcases List.mem_cons.mp (I.stkSub _ z) with q | q
    · exact Nat.lt_irrefl _ (Nat.lt_of_lt_of_le (by rw [q]; exact I.lt) hb)
    · exact I.nofs hb q
  have I1 : Inv X pins σ H { s with heap := h1 } := I.kept (t' := s.toks) old1
  unfold ksk_rest
  refine wpAny_bind (wpAny_rule ?_)
  first
    | rw [List.forIn_toArray]
    | (rw [← Array.forIn_toList]; simp only [List.toList_toArray])
    | rw [← Array.forIn_toList]
  refine wpAny_bind (ksk_fold (fun i s' => ∃ G kA e, Inv X pins σ G s' ∧ Pv i G ∧ G f = none ∧ G S = none ∧ G D = none ∧ s'.heap.get? f = some (kla_obj "<lambda>" (X.env.qual ++ "<lambda>") params body scope (cloFrom X.env.cells scope.names []) pm c' ctv) ∧
    s'.heap.get? S = some (seqObj "list" kA e) ∧ s'.heap.get? D = some (seqObj "list" #[] e1) ∧ EachIs (fun (v : Value) (d : PyData) => ∃ n t, v = .int n t ∧ d = .int n) kA.toList ((ks.map PyData.int).take i)) its 0 { s with heap := h1 }
    ⟨H, #[], 0, I1, p0, hfn, nS, nD, old1 _ _ hf, atS, atD, by rw [List.take_zero]; exact EachIs.nil⟩ ?step ?done)
  case step =>
    rintro j u s' hu ⟨G, kA, e, IG, pG, gf, gS, gD, hf', hS', hD', each⟩
    simp only [Nat.zero_add] at pG each ⊢
    have hj : j < its.length := (List.getElem?_eq_some_iff.mp hu).1
    obtain ⟨x, hx⟩ : ∃ x, xs[j]? = some x := ⟨_, List.getElem?_eq_getElem (by omega)⟩
    obtain ⟨n, hn⟩ : ∃ n, ks[j]? = some n := ⟨_, List.getElem?_eq_getElem (by omega)⟩
    obtain ⟨u', hu', ru⟩ := rv.get hx
    rw [hu] at hu'
    cases hu'
    have few : kA.size ≤ its.length := by
      have h2 := each.length
      rw [Array.length_toList, List.length_take] at h2
      omega
    have run := lam1_run (A := X.A.in1.in1) IG L hN hip ru hf' (code j G pG) hbind hr.in1.in1 IG.env0.in1.in1 hbody (turn j x n G hx hn pG)
    refine wpAny_bind (wpAny_attempt (wpAny_call (codeAny_mono run fun r s2 hq => ?_)))
    obtain ⟨v, rfl, w', G', os2, bare2, un, hok, rv2, ew, pG'⟩ := hq
    subst ew
    obtain ⟨t, rfl⟩ := (show ∃ t, v = Value.int n t from rv2)
    have I2 : Inv X pins σ G' s2 := IG.call' os2 un hok bare2 (ch := []) fun b z => nomatch z
    have no0 : ∀ b : Addr, b ∉ ([] : List Addr) := fun b z => nomatch z
    have f2 := un.keep f _ hf' gf hfr (no0 _)
    have S2 := un.keep S _ hS' gS (notfr S bigS) (no0 _)
    have D2 := un.keep D _ hD' gD (notfr D bigD) (no0 _)
    have gf2 := un.free f _ hf' gf (no0 _)
    have gS2 := un.free S _ hS' gS (no0 _)
    have gD2 := un.free D _ hD' gD (no0 _)
    try dsimp only
    have sb := Heap.SameBut.update s2.heap S (Obj.mapSeq (·.push (Value.int n t)))
    obtain ⟨c2, hc2⟩ : ∃ c2, (s2.heap.update S (Obj.mapSeq (·.push (Value.int n t)))).get? S = some (seqObj "list" (kA.push (Value.int n t)) c2) := ⟨_, get?_update_seq S2 (·.push (Value.int n t))⟩
    refine wpAny_bind (listUpdate_at S2 rfl ?_ (by omega) (by rw [Array.size_push]; omega))
    have fS2 : FpOk X pins G' S := ⟨gS2, fS.2⟩
    have nf : f ≠ S := fun z => by
      rw [z, S2] at f2
      have d := congrArg Obj.data (Option.some.inj f2)
      nomatch d
    refine wpAny_pure ⟨rfl, G', kA.push (Value.int n t), c2, I2.turned (t' := s2.toks) (fun b o hb q => (sb.2 b hb).trans q) fS2.1 fS2.2.1 fS2.2.2.2.1 fS2.2.2.2.2.1 fS2.2.2.2.2.2, pG', gf2, gS2, gD2, (sb.2 f nf).trans f2, hc2, (sb.2 D (Ne.symm SD)).trans D2, ?_⟩
    have ea : (kA.push (Value.int n t)).toList = kA.toList ++ [Value.int n t] := by simp
    have ek : (ks.map PyData.int).take (j + 1) = (ks.map PyData.int).take j ++ [PyData.int n] := by
      rw [List.take_add_one, List.getElem?_map, hn]
      rfl
    rw [ea, ek]
    exact each_snoc (R := fun (v : Value) (d : PyData) => ∃ n t, v = .int n t ∧ d = .int n) ⟨n, t, rfl, rfl⟩ each
  case done =>
    rintro s' ⟨G, kA, e, IG, pG, gf, gS, gD, hf', hS', hD', each⟩
    simp only [Nat.zero_add] at pG each
    have full : (ks.map PyData.int).take its.length = ks.map PyData.int := List.take_of_length_le (by rw [List.length_map]; omega)
    rw [full] at each
    have hsz : kA.size = its.length := by
      have h2 := each.length
      rw [Array.length_toList, List.length_map] at h2
      omega
    have reads : EachIs (fun v d => ∃ as, Reads s'.heap v d as) kA.toList (ks.map PyData.int) := each.mono fun v d ⟨n, t, e1, e2⟩ => by
      rw [e1, e2]
      exact ⟨[], .int n t⟩
    have hal : AllAlike (ks.map PyData.int) := fun d hd d' hd' => by
      obtain ⟨n, _, rfl⟩ := List.mem_map.mp hd
      obtain ⟨m, _, rfl⟩ := List.mem_map.mp hd'
      rfl
    have hso : Sortable (ks.map PyData.int) := .inr fun d hd => by
      obtain ⟨n, _, rfl⟩ := List.mem_map.mp hd
      exact ⟨fun z => (nomatch z), fun _ z => (nomatch z)⟩
    have un1 := hr.un
    have hdep : ∀ d, d ∈ ks.map PyData.int → X.A.in1.in1.units + d.depth < cLine := fun d hd => by
      obtain ⟨n, _, rfl⟩ := List.mem_map.mp hd
      show X.A.units + 1 + 1 + (PyData.int n).depth < cLine
      have : (PyData.int n).depth = 0 := by first | rfl | simp [PyData.depth]
      omega
    try dsimp only
    refine wpAny_bind (listItems_at hS' rfl ?_)
    obtain ⟨B, g1, g2⟩ := restrict s'.heap fun b => decide (b ≠ S)
    have gB : B.get? S = none := g2 S (by simp)
    have kB : KeepsBut D B s'.heap := fun b o hb q => by
      have ne : b ≠ S := fun z => by rw [z, gB] at q; cases q
      rw [g1 b (by simpa using ne)] at q
      exact q
    refine keyH_end (κ := dataKind s'.heap (ks.map PyData.int)) (h₁ := B) kB gB hS' hD' SD (SortsAt.data (s := s') reads hal hso hdep) hsz hz' fun h3 tk3 c3 k3 n3 => ⟨rfl, ?_⟩
    have keep3 : ∀ b o, b ∉ [D, S] → s'.heap.get? b = some o → h3.get? b = some o := fun b o hb q => by
      simp only [List.mem_cons, List.not_mem_nil, or_false, not_or] at hb
      exact k3 b o hb.1 ((g1 b (by simpa using hb.2)).trans q)
    have I3 : Inv X pins σ G { s' with heap := h3, toks := tk3 } := IG.turnedL (ch := [D, S]) keep3 fun b hb => by
      simp only [List.mem_cons, List.not_mem_nil, or_false] at hb
      rcases hb with rfl | rfl
      · exact ⟨gD, fD.2⟩
      · exact ⟨gS, fS.2⟩
    -- what the list then holds
    have lk : kA.toList.length = its.length := by rw [Array.length_toList]; exact hsz
    have pairs : EachIs (fun (v : Value) (b : V × Int) => RelV b.1 v) its (xs.zip ks) := by
      refine EachIs.of_zip (by rw [List.length_zip]; omega) fun p hp => ?_
      obtain ⟨i, hi⟩ := List.mem_iff_getElem?.mp hp
      obtain ⟨h3, h4⟩ := List.getElem?_zip_eq_some.mp hi
      obtain ⟨h5, h6⟩ := List.getElem?_zip_eq_some.mp (show (xs.zip ks)[i]? = some (p.2.1, p.2.2) from h4)
      obtain ⟨u, hu, ru⟩ := rv.get h5
      rw [h3] at hu
      cases hu
      exact ru
    have ko : KeyedOut false ((xs.zip ks).map fun b => PyData.int b.2) its (sortVals (dataKind s'.heap (ks.map PyData.int)) false kA.toList its) := by
      have e2 : ((xs.zip ks).map fun b => PyData.int b.2) = ks.map PyData.int := by
        have : ((xs.zip ks).map (·.2)) = ks := List.map_snd_zip (by omega)
        rw [show (fun b : V × Int => PyData.int b.2) = PyData.int ∘ Prod.snd from rfl, ← List.map_map]
        exact congrArg _ this
      rw [e2]
      exact ⟨s'.heap, kA.toList, hal, rfl, reads⟩
    have out := keyedOut_each (rev := false) (fun b : V × Int => PyData.int b.2) ko pairs
    obtain ⟨zs, ezs⟩ : ∃ zs, zs = (xs.zip ks).mergeSort (dataLe false fun b : V × Int => PyData.int b.2) := ⟨_, rfl⟩
    rw [← ezs] at out
    have pz : zs.Perm (xs.zip ks) := by
      rw [ezs]
      exact List.mergeSort_perm _ _
    have oz : zs.Pairwise (fun b c => b.2 ≤ c.2) := by
      rw [ezs]
      refine (sort_pairwise (sortLe_total (listOrd itemOrd) false fun b : V × Int => keyToks (PyData.int b.2)) _).imp fun {b c} q => ?_
      have q : (!dataLt (PyData.int c.2) (PyData.int b.2)) = true := q
      rw [Bool.not_eq_true'] at q
      have lt_int : dataLt (PyData.int c.2) (PyData.int b.2) = decide (c.2 < b.2) := dataLt_int _ _
      rw [lt_int, decide_eq_false_iff_not] at q
      omega
    have vals : Vals (zs.map (·.1)) (sortVals (dataKind s'.heap (ks.map PyData.int)) false kA.toList its) := by
      have go : ∀ {us : List Value} {bs : List (V × Int)}, EachIs (fun (v : Value) (b : V × Int) => RelV b.1 v) us bs → Vals (bs.map (·.1)) us := fun {us bs} q => by
        induction q with
        | nil => exact .nil
        | cons a _ ih => exact .cons a ih
      exact go out
    have hlen : (zs.map (·.1)).length ≤ sizeLine := by
      rw [List.length_map, pz.length_eq, List.length_zip]
      omega
    have gD3 : FpOk X pins G D := ⟨gD, fD.2⟩
    have I4 : Inv X pins σ (upd G D (.lst (zs.map (·.1)))) { s' with heap := h3, toks := tk3 } :=
      I3.take (h' := h3) (t' := tk3) (fun b ob _ q => q) gD3 ⟨hlen, _, c3, vals, n3⟩
    rw [← li] at pG
    exact ⟨.ref D, _, I4, rfl, fin G D zs pG gD pz oz⟩
/-- sorted(xs, key=lambda y: ..): T the tables, tb the lambda's body, its parameter in slot ip -/
def tSortL (K : Frag) (T : List (Addr × Str)) (ip : Nat) (ta : TA) (tb : TE) : TE := fun σ H Q => ta σ H fun vs H1 => ∃ (a : Addr) (xs : List V) (ks : List Int), vs = [.ref a] ∧ SqL K H1 a xs ∧ ks.length = xs.length ∧ Tabs T H1 ∧ ∀ H2, ExtN H1 H2 → Tabs T H2 →
  ∃ Pv : Nat → Hp → Prop, Pv 0 H2 ∧ (∀ i G, Pv i G → ExtN H2 G) ∧ (∀ i x n G, xs[i]? = some x → ks[i]? = some n → Pv i G → tb (σ.set ip (some x)) G fun v G' => v = .int n ∧ Pv (i + 1) G') ∧
    ∀ (G : Hp) (p : Addr) (zs : List (V × Int)), Pv xs.length G → G p = none → zs.Perm (xs.zip ks) → zs.Pairwise (fun b c => b.2 ≤ c.2) → Q (.ref p) (upd G p (.lst (zs.map (·.1))))
theorem pe_sortL {T : List (Addr × Str)} {c P : Addr} {params : Arguments} {body e : Expr} {scope : Scope} {y : Str} {k ip : Nat} {ta : TA} {tb : TE} {p lpos kpos pos : Pos} (hg : Gl X "sorted") (hm : X.mg "sorted" = none) (ha : PA X [e] ta)
    (TB : TabB X.base X.mg c P) (hcode : X.env.code = .ref c) (hmT : (P, X.env.qual ++ "<lambda>") ∈ T) (hu : ∀ p ∈ T, p.1 = P → p.2 = X.env.qual ++ "<lambda>") (hr : Room (k + 3) X.A) (L : Lam1 X.env.scope scope y) (hN : X.N.Nodup) (hip : X.N[ip]? = some y) (hdef : defaultsOf params X.env = ([], []))
    (hbind : ∀ (q : Str) (cl : List (Str × Addr)) (pm cv ctv u : Value), bindArgs (kla_fn "<lambda>" q params body scope cl pm cv ctv) ⟨[u], []⟩ = pure [(y, u)])
    (hbody : ∀ (A : Around) (s : Shared) (H : Hp) (f c' : Addr), Room k (A.deeper (lamEnv X scope s.heap.objs.size f c')) → PE (lamCx X A X.stack s H (fun _ _ _ => False) scope f c') body tb)
    (hv : bootBuiltins "sorted" = some (.builtin "sorted") := by rfl)
    (he : backTo pos (starEach [e] X.env) = [(false, eval e X.env)] := by rfl) :
    PE X (.Call (.Name "sorted" p) [e] [⟨some "key", .Lambda params body scope lpos, kpos⟩] pos) (tSortL X.K T ip ta tb) := by
  constructor
  intro pins s σ H Q I h
  refine wpAny_Call_Name_kw (ld_blt I hg hm hv ?_)
  refine PyProof.Rows.callWith_kw (thn (ha.run pos pins s σ H _ I h) fun us s1 ⟨vs, H1, I1, r1, q1⟩ => ?_) he (by rw [he]; rfl) (by rfl) (by rfl)
  obtain ⟨a, xs, ks, rfl, hs, len, hT, q⟩ := q1
  rw [Vals.ref1 r1]
  show wpAny _ _ (evalAll [do let v ← eval (.Lambda params body scope lpos) X.env; standAt pos; pure v]) _ _ s1
  refine wpAny_evalAll_cons (wpAny_bind (lam_make2 I1 TB hcode hmT hu hT hdef (L.has I1.ok) fun f c' pm ctv H2 s2 I2 eN T2 hf hfn hfr hco => wpAny_bind (wpAny_standAt (wpAny_pure (wpAny_evalAll_nil ?_)))))
  obtain ⟨Pv, p0, pe, turn, fin⟩ := q H2 eN T2
  exact sorted_lam1 Pv I2 L hN hip hf hfn hfr hbind hr hbody (CC.ext_l eN hs) len p0 (fun i G pG => pe i G pG _ _ hco codeO_ne) turn fin
end
end SLK
namespace CC
open PySem L2 LamX
section
variable {H H' : Hp} {K : PySem.W.Frag}
mutual
theorem dp_nt : ∀ (d : PyData) (v : V), Dp K H v d → Dp K (nt H) v d
  | .none, _, h => by cases h; exact .non
  | .bool b, _, h => by cases h; exact .bl b
  | .int i, _, h => by cases h; exact .int i
  | .str x, _, h => by cases h; exact .str x
  | .list ds, _, h => by
    cases h with
    | lst hs ha => exact .lst (sql_nt hs) (dps_nt ds _ ha)
  | .tuple ds, _, h => by
    cases h with
    | tup hs ha => exact .tup (sqt_nt hs) (dps_nt ds _ ha)
  | .dict _, _, h => by cases h
theorem dps_nt : ∀ (ds : List PyData) (vs : List V), DpAll K H vs ds → DpAll K (nt H) vs ds
  | [], _, h => by cases h; exact .nil
  | d :: ds, _, h => by
    cases h with
    | cons h1 h2 => exact .cons (dp_nt d _ h1) (dps_nt ds _ h2)
end
theorem dp_ext (e : ExtN H H') (d : PyData) (v : V) (h : Dp K H v d) : Dp K H' v d := dp_same ((ext_nt e).trans nt_le) d v (dp_nt d v h)
theorem dps_ext (e : ExtN H H') (ds : List PyData) (vs : List V) (h : DpAll K H vs ds) : DpAll K H' vs ds := dps_same ((ext_nt e).trans nt_le) ds vs (dps_nt ds vs h)
theorem ext_lst {b : Addr} {xs : List V} (e : ExtN H H') (h : H b = some (.lst xs)) : H' b = some (.lst xs) := e _ _ h (tb_no rfl)
theorem ext_tup {b : Addr} {xs : List V} (e : ExtN H H') (h : H b = some (.tup xs)) : H' b = some (.tup xs) := e _ _ h (tb_no rfl)
theorem ext_upd {b : Addr} {o : HO} (h : H b = none) : ExtN H (upd H b o) := ExtN.of (same_new h)
end
/-- a def of the top whose code object is known -/
structure DfC (K : PySem.W.Frag) (mg : Str → Option Value) (x : Str) (st : Stmt) (ps : List Str) where
  f : Addr
  fd : FuncData
  c : Addr
  F : GD.FunC K x x st f fd c
  b : Binds K fd ps []
  g : mg x = some (.ref f)
end CC
namespace CC
open PySem L2
abbrev sEvery : Stmt := tp 11
def spEvery (K : PySem.W.Frag) : Sp := fun vs H Q _ => ∃ w : Nat, vs = [.int (w : Int)] ∧ w ≤ 6 ∧ ∀ (p : Addr) (us : List V) (H' : Hp), Same H H' → H p = none → H' p = some (.lst us) → DpAll K (wo H' p) us ((allR w).map R.d) → Q (.ref p) H'
theorem row_step (w a : Nat) (k : Bool) (j : Nat) (hj : j < w) : ((List.range (j + 1)).filter fun b => decide (a ≠ b)) = ((List.range j).filter fun b => decide (a ≠ b)) ++ (if a = j then [] else [j]) := by
  rw [List.range_succ, List.filter_append]
  by_cases h : a = j
  · simp [h]
  · simp [h]
/-- a list of rules that is being made at D -/
def MadeR (K : PySem.W.Frag) (H0 : Hp) (D : Addr) (n : Nat) (H : Hp) (rs : List R) : Prop := ∃ us, Made K (fun H => wo H D) Tr (fun _ _ => True) H0 D n H us (rs.map R.d)
theorem MadeR.up {K : PySem.W.Frag} {H0 H : Hp} {D : Addr} {n m : Nat} {rs rs' : List R} (p : MadeR K H0 D n H rs) (h : n ≤ m) (e : rs = rs') : MadeR K H0 D m H rs' := by
  obtain ⟨us, p⟩ := p
  subst e
  exact ⟨us, p.same, trivial, p.lst, p.dat, trivial, Nat.le_trans p.len h⟩
theorem MadeR.start {K : PySem.W.Frag} {H0 : Hp} {D : Addr} : MadeR K H0 D 0 (upd H0 D (.lst [])) [] := by
  refine ⟨[], ?_, trivial, upd_same, .nil, trivial, Nat.le_refl _⟩
  show Same (wo H0 D) (wo (upd H0 D (.lst [])) D)
  rw [wo_upd]
  exact Same.refl _
theorem MadeR.push {K : PySem.W.Frag} {H0 H H' : Hp} {D : Addr} {n m : Nat} {rs : List R} {r : R} {y : V} (p : MadeR K H0 D n H rs) (h9 : n < 100000) (hm : n < m) (q3 : Same H H') (q1 : Dp K (wo H' D) y r.d) :
    ∃ acc, H' D = some (.lst acc) ∧ acc.length < sizeLine ∧ MadeR K H0 D m (upd H' D (.lst (acc ++ [y]))) (rs ++ [r]) := by
  obtain ⟨us, p⟩ := p
  obtain ⟨acc, a1, a2, us', ds', p'⟩ := madeP_push (j := m) p h9 hm q3 q1 trivial
  refine ⟨acc, a1, a2, us ++ [y], ?_, trivial, ?_, ?_, trivial, ?_⟩
  · show Same (wo H0 D) (wo (upd H' D (.lst (acc ++ [y]))) D)
    rw [wo_upd]
    exact p.same.trans (wo_same q3)
  · have e : some (HO.lst acc) = some (HO.lst us) := a1.symm.trans (q3 _ _ p.lst)
    cases e
    exact upd_same
  · show DpAll K (wo (upd H' D (.lst (acc ++ [y]))) D) _ _
    rw [wo_upd, List.map_append]
    exact dps_app (dps_same (wo_same q3) _ _ p.dat) (dps_one q1)
  · rw [List.length_append]
    exact Nat.le_trans (Nat.succ_le_succ p.len) hm
theorem MadeR.old {K : PySem.W.Frag} {H0 H : Hp} {D : Addr} {n : Nat} {rs : List R} (p : MadeR K H0 D n H rs) (h : H0 D = none) : Same H0 H := by
  obtain ⟨us, p⟩ := p
  exact p.old h
section
variable {P : Program} {w : World} {K : PySem.W.Frag} {mg : Str → Option Value} {base : Heap} {kA : Addr}
/-- a walk over a list, a clause of a comprehension -/
theorem turn_list {a : Addr} {xs : List V} {g : TG} {tt : TT} {vs : List Nat} {b : C3.TB} {σ : L2.St} {N : Hp → Prop} {H1 : Hp} (Pv : Nat → Hp → Prop) (h0 : Pv 0 H1) (hl : ∀ i H, i ≤ xs.length → Pv i H → SqL K H a xs)
    (hs : ∀ i x H, xs[i]? = some x → Pv i H → g x (wipe σ vs) H fun τ H2 => wipe τ vs = wipe σ vs ∧ tt τ H2 fun y H3 => if y = true then b τ H3 (Pv (i + 1)) else Pv (i + 1) H3) (hd : ∀ H, Pv xs.length H → N H) :
    ∃ W : Nat → Nat → Hp → Prop, (∃ m, W 0 m H1) ∧ C3.tTurn (Itl K a) g tt vs b σ W N := by
  refine ⟨fun i m H => m = xs.length - i ∧ i ≤ xs.length ∧ Pv i H, ⟨xs.length, by simp, Nat.zero_le _, h0⟩, ?_⟩
  rintro i m H ⟨rfl, hi, p⟩
  have q := hl i H hi p
  by_cases lt : i < xs.length
  · refine .inr ⟨⟨xs, xs[i], q, by simp [lt]⟩, Pv (i + 1), fun H' p' => ⟨xs.length - (i + 1), by omega, rfl, lt, p'⟩, fun x H' y => ?_⟩
    obtain ⟨e, y⟩ := y
    subst e
    exact hs i x _ (y xs q) p
  · have e : i = xs.length := by omega
    subst e
    exact .inl ⟨⟨xs, q, Nat.le_refl _⟩, hd H p⟩
theorem turn_tup {a : Addr} {xs : List V} {g : TG} {tt : TT} {vs : List Nat} {b : C3.TB} {σ : L2.St} {N : Hp → Prop} {H1 : Hp} (Pv : Nat → Hp → Prop) (h0 : Pv 0 H1) (hl : ∀ i H, i ≤ xs.length → Pv i H → SqT K H a xs)
    (hs : ∀ i x H, xs[i]? = some x → Pv i H → g x (wipe σ vs) H fun τ H2 => wipe τ vs = wipe σ vs ∧ tt τ H2 fun y H3 => if y = true then b τ H3 (Pv (i + 1)) else Pv (i + 1) H3) (hd : ∀ H, Pv xs.length H → N H) :
    ∃ W : Nat → Nat → Hp → Prop, (∃ m, W 0 m H1) ∧ C3.tTurn (Itt K a) g tt vs b σ W N := by
  refine ⟨fun i m H => m = xs.length - i ∧ i ≤ xs.length ∧ Pv i H, ⟨xs.length, by simp, Nat.zero_le _, h0⟩, ?_⟩
  rintro i m H ⟨rfl, hi, p⟩
  have q := hl i H hi p
  by_cases lt : i < xs.length
  · refine .inr ⟨⟨xs, xs[i], q, by simp [lt]⟩, Pv (i + 1), fun H' p' => ⟨xs.length - (i + 1), by omega, rfl, lt, p'⟩, fun x H' y => ?_⟩
    obtain ⟨e, y⟩ := y
    subst e
    exact hs i x _ (y xs q) p
  · have e : i = xs.length := by omega
    subst e
    exact .inl ⟨⟨xs, q, Nat.le_refl _⟩, hd H p⟩
theorem scEvery : FnScope ["width", "columns", "kind", "a", "b"] ["width"] (defScope sEvery) := ⟨rfl, rfl, rfl, by decide +kernel, rfl, by decide +kernel, by decide +kernel⟩
theorem ok_every {f : Addr} {fd : FuncData} {k : Nat} (F : Fun K "every_rule" "every_rule" sEvery f fd) (T : Glb K mg kA) : FnOk P w K mg base CX0 (k + 1) f fd ["width"] (spEvery K) := by
  refine F.ok scEvery (fun vs H Q E h => ?_) (fun cdv A outer s H vs Q E hr h => ?_)
  · obtain ⟨z, rfl, _⟩ := h
    rfl
  · obtain ⟨z, rfl, hz, q⟩ := h
    have nd := scEvery.nd
    refine ⟨_, pss_cons (ps_set (i := 1) nd rfl (.inr rfl) (pe_listRg rfl (by rfl) T.lst (prg_1 (by rfl) T.rng (pv 0))))
      (pss_one (ps_ret (C3.pe_lc3 (own := [("kind", 2), ("a", 3), ("b", 4)]) (v1 := [3, 4]) (v2 := [4]) (w1 := iList K (tVar 1)) (w2 := iList K (tVar 1)) rfl nd (pi_tup (pe_glob (v := .ref kA) rfl T.knd rfl)) (blkOk_by (N := ["width", "columns", "kind", "a", "b"]) (sc := defScope sEvery) (by decide +kernel)) (by decide) (by decide)
        (fun _ _ _ _ _ => pg_name (i := 2) nd rfl (.inl rfl)) (fun _ _ _ _ _ => pts_nil)
        (fun _ _ _ _ _ => pi_list (pv 1)) (fun _ _ _ _ _ => pg_name (i := 3) nd rfl (.inl rfl)) (fun _ _ _ _ _ => pts_nil)
        (fun _ _ _ _ _ => pi_list (pv 1)) (fun _ _ _ _ _ => pg_name (i := 4) nd rfl (.inl rfl)) (fun _ _ _ _ _ => pts_one (pt_cmpR op_ne (pv 3) (pv 4) (nomark _)))
        (fun _ _ _ _ _ => pe_tup (pa_cons (pv 2) (pa_cons (pv 3) (pa_cons (pv 4) pa_nil))))))), ?_⟩
    have hk : ∀ H, SqT K H kA [.str "settles", .str "within"] := fun H => .inr T.kseq
    refine ⟨_, rfl, _, rfl, RgOk.of_le (by omega) (by omega) (by omega) (by omega), fun c nc => ?_⟩
    rw [cols_rg]
    have cC : ∀ {H' : Hp}, Same (upd H c (.lst (cols z))) H' → SqL K H' c (cols z) := fun e => .inl (.inl (e _ _ upd_same))
    generalize hH1 : upd H c (.lst (cols z)) = H1 at cC
    have s1 : Same H H1 := by
      rw [← hH1]
      exact same_new nc
    refine ⟨kA, rfl, ⟨_, hk _⟩, fun D nD => ?_⟩
    refine turn_tup (xs := [.str "settles", .str "within"]) (fun i H => MadeR K H1 D (36 * i) H (([true, false].take i).flatMap fun k => (List.range z).flatMap fun a => row z a k)) MadeR.start (fun _ _ _ _ => hk _) ?_ ?_
    · intro i x H2 hx p
      obtain ⟨kk, rfl, hi, tk⟩ : ∃ kk : Bool, x = .str (kd kk) ∧ i < 2 ∧ [true, false].take (i + 1) = [true, false].take i ++ [kk] := by
        match i, hx with
        | 0, hx =>
          simp at hx
          exact ⟨true, hx.symm, by decide, rfl⟩
        | 1, hx =>
          simp at hx
          exact ⟨false, hx.symm, by decide, rfl⟩
        | n + 2, hx => simp at hx
      rw [tk, List.flatMap_append]
      generalize ([true, false].take i).flatMap (fun k => (List.range z).flatMap fun a => row z a k) = pre at p
      refine ⟨rfl, ?_⟩
      refine yes_if ?_
      refine ⟨_, rfl, c, rfl, ⟨_, cC (p.old nD)⟩, ?_⟩
      refine turn_list (xs := cols z) (fun j H => MadeR K H1 D (36 * i + 6 * j) H (pre ++ (List.range j).flatMap fun a => row z a kk)) (p.up (by omega) (by simp)) (fun _ _ _ p => cC (p.old nD)) ?_ ?_
      · intro j y H3 hy p3
        obtain ⟨hj, rfl⟩ := cols_at hy
        refine ⟨rfl, ?_⟩
        refine yes_if ?_
        refine ⟨_, rfl, c, rfl, ⟨_, cC (p3.old nD)⟩, ?_⟩
        refine turn_list (xs := cols z) (fun l H => MadeR K H1 D (36 * i + 6 * j + l) H ((pre ++ (List.range j).flatMap fun a => row z a kk) ++ (((List.range l).filter fun b => decide (j ≠ b)).map fun b => ⟨kk, j, b⟩))) (p3.up (by omega) (by simp)) (fun _ _ _ p => cC (p.old nD)) ?_ ?_
        · intro l v H4 hv p4
          obtain ⟨hl, rfl⟩ := cols_at hv
          refine ⟨rfl, _, rfl, _, rfl, rfl, _, rfl, ?_⟩
          rw [row_step z j kk l hl, List.map_append, ← List.append_assoc]
          by_cases e : j = l
          · have e1 : (!decide (V.int (j : Int) = V.int (l : Int))) = false := by rw [e]; simp
            rw [e1]
            refine iteF (p4.up (by omega) ?_)
            rw [if_pos e]
            simp
          · have e1 : (!decide (V.int (j : Int) = V.int (l : Int))) = true := by
              rw [decide_eq_false (fun q => e (by injection q with q; omega))]
              rfl
            rw [e1, if_neg e]
            refine iteT ⟨_, rfl, _, rfl, _, rfl, (by show 3 ≤ sizeLine; decide), fun t nt => ?_⟩
            obtain ⟨us, p5⟩ := id p4
            exact p4.push (by omega) (by omega) (same_new nt) (r_dp (r := ⟨kk, j, l⟩) (tup_new p5.lst nt))
        · intro H4 p4
          rw [cols_len] at p4
          refine p4.up (by omega) ?_
          rw [List.range_succ, List.flatMap_append]
          simp [row]
      · intro H3 p3
        rw [cols_len] at p3
        refine p3.up (by omega) (by simp)
    · intro H2 p
      obtain ⟨us, p5⟩ := id p
      exact q D us H2 (s1.trans (p.old nD)) (by
        cases z0 : H D with
        | none => rfl
        | some o =>
          rw [s1 _ _ z0] at nD
          cases nD) p5.lst p5.dat
end
end CC
namespace CC
open PySem L2 TL
/-! ### lines -/
abbrev sLine : Stmt := tp 38
def lineS (r : R) : Str := Str.empty ++ num r.a ++ " " ++ kd r.k ++ " " ++ num r.b
def textS (rs : List R) : Str := Txt.join "" (rs.map fun r => lineS r ++ "\n")
theorem lines_nodup : ((allR 6).map lineS).Nodup := by decide +kernel
theorem mem_row {w a : Nat} {k : Bool} {r : R} : r ∈ row w a k ↔ r.k = k ∧ r.a = a ∧ r.b < w ∧ a ≠ r.b := by
  obtain ⟨k', a', b'⟩ := r
  simp only [row, List.mem_map, List.mem_filter, List.mem_range, decide_eq_true_eq, R.mk.injEq]
  constructor
  · rintro ⟨b, ⟨h1, h2⟩, rfl, rfl, rfl⟩
    exact ⟨rfl, rfl, h1, h2⟩
  · rintro ⟨rfl, rfl, h1, h2⟩
    exact ⟨b', ⟨h1, h2⟩, rfl, rfl, rfl⟩
theorem mem_allR {w : Nat} {r : R} : r ∈ allR w ↔ r.ok w := by
  simp only [allR, List.mem_flatMap, List.mem_range, mem_row, R.ok, List.mem_cons, List.not_mem_nil, or_false]
  constructor
  · rintro ⟨k, _, a, h1, rfl, rfl, h2, h3⟩
    exact ⟨h1, h2, h3⟩
  · rintro ⟨h1, h2, h3⟩
    refine ⟨r.k, ?_, r.a, h1, rfl, rfl, h2, h3⟩
    cases r.k
    · exact .inr rfl
    · exact .inl rfl
theorem R.ok.up {w : Nat} {r : R} (h : r.ok w) (hw : w ≤ 6) : r.ok 6 := ⟨Nat.lt_of_lt_of_le h.1 hw, Nat.lt_of_lt_of_le h.2.1 hw, h.2.2⟩
theorem inj_of {α β : Type} {f : α → β} : ∀ {l : List α}, (l.map f).Nodup → ∀ {x y : α}, x ∈ l → y ∈ l → f x = f y → x = y
  | [], _, _, _, h, _, _ => nomatch h
  | z :: l, nd, x, y, hx, hy, e => by
    rw [List.map_cons, List.nodup_cons] at nd
    rcases List.mem_cons.mp hx with e1 | h1
    · rcases List.mem_cons.mp hy with e2 | h2
      · rw [e1, e2]
      · exact absurd (List.mem_map.mpr ⟨y, h2, by rw [← e, e1]⟩) nd.1
    · rcases List.mem_cons.mp hy with e2 | h2
      · exact absurd (List.mem_map.mpr ⟨x, h1, by rw [e, e2]⟩) nd.1
      · exact inj_of nd.2 h1 h2 e
theorem line_inj {r s : R} (hr : r.ok 6) (hs : s.ok 6) (e : lineS r = lineS s) : r = s := inj_of lines_nodup (mem_allR.mpr hr) (mem_allR.mpr hs) e
theorem lines_all : ((allR 6).all fun r => (lineS r).length ≤ 20 && !(tl (lineS r)).contains 10) = true := by decide +kernel
theorem line_of6 {r : R} (hr : r.ok 6) : (lineS r).length ≤ 20 ∧ 10 ∉ tl (lineS r) := by
  have h := List.all_eq_true.mp lines_all r (mem_allR.mpr hr)
  simp only [Bool.and_eq_true, decide_eq_true_eq, Bool.not_eq_true'] at h
  refine ⟨h.1, fun z => ?_⟩
  have := List.contains_iff_mem.mpr z
  rw [h.2] at this
  cases this
theorem allR_nodup {w : Nat} (hw : w ≤ 6) : (allR w).Nodup := by
  have h : ∀ w : Fin 7, (allR w.1).Nodup := by decide +kernel
  exact h ⟨w, by omega⟩
/-- a text of lines, and its lines -/
theorem tl_text : ∀ rs : List R, tl (textS rs) = (rs.map fun r => tl (lineS r) ++ [10]).flatten
  | [] => by decide +kernel
  | r :: rs => by
    unfold textS
    rw [join_eq, tl_join]
    have e : ∀ l : List (List Nat), joinL (tl ("" : Str)) l = l.flatten := by
      intro l
      rw [show tl ("" : Str) = [] by decide +kernel]
      induction l with
      | nil => rfl
      | cons x l ih =>
        cases l with
        | nil => simp [joinL]
        | cons y l =>
          show x ++ ([] ++ joinL [] (y :: l)) = _
          rw [ih, List.nil_append]
          simp
    rw [e, List.map_map]
    congr 1
    refine List.map_congr_left fun r _ => ?_
    show tl (lineS r ++ "\n") = _
    rw [tl_app, show tl ("\n" : Str) = [10] by decide +kernel]
theorem split_text {rs : List R} (h : ∀ r ∈ rs, r.ok 6) : Txt.split (textS rs) "\n" = rs.map lineS ++ [Str.empty] := by
  have e : textS rs = Txt.join "\n" (rs.map lineS ++ [Str.empty]) := by
    refine ext_tl ?_
    show tl (textS rs) = tl (Txt.join "\n" (rs.map lineS ++ [Str.empty]))
    rw [tl_text, join_eq, tl_join, show tl ("\n" : Str) = [10] by decide +kernel]
    induction rs with
    | nil => decide +kernel
    | cons r rs ih =>
      rw [List.map_cons, List.flatten_cons, ih fun s hs => h s (List.mem_cons_of_mem _ hs)]
      cases rs with
      | nil =>
        show tl (lineS r) ++ [10] ++ joinL [10] [tl Str.empty] = joinL [10] [tl (lineS r), tl Str.empty]
        show tl (lineS r) ++ [10] ++ tl Str.empty = tl (lineS r) ++ ([10] ++ tl Str.empty)
        rw [List.append_assoc]
      | cons s rs =>
        show tl (lineS r) ++ [10] ++ _ = tl (lineS r) ++ ([10] ++ _)
        rw [List.append_assoc]
        rfl
  rw [e]
  refine split_join (s := 10) (S := []) (by decide +kernel) (by decide +kernel) (by simp) fun p hp => ?_
  rcases List.mem_append.mp hp with z | z
  · obtain ⟨r, hr, rfl⟩ := List.mem_map.mp z
    exact (line_of6 (h r hr)).2
  · rw [List.mem_singleton.mp z]
    decide +kernel
theorem text_len {rs : List R} (h : ∀ r ∈ rs, r.ok 6) : (textS rs).length ≤ 21 * rs.length := by
  rw [len_tl, tl_text]
  induction rs with
  | nil => simp
  | cons r rs ih =>
    have h1 := (line_of6 (h r List.mem_cons_self)).1
    rw [len_tl] at h1
    have h2 : (tl (lineS r)).length ≤ 20 := h1
    have h3 := ih fun s hs => h s (List.mem_cons_of_mem _ hs)
    simp only [List.map_cons, List.flatten_cons, List.length_append, List.length_cons, List.length_nil]
    omega
def spLine (K : PySem.W.Frag) : Sp := fun vs H Q _ => ∃ (v : V) (r : R), vs = [v] ∧ Dp K H v r.d ∧ r.ok 6 ∧ Q (.str (lineS r)) H
section
variable {P : Program} {w : World} {K : PySem.W.Frag} {mg : Str → Option Value} {base : Heap} {kA : Addr}
theorem scLine : FnScope ["rule", "kind", "first", "second"] ["rule"] (defScope sLine) := ⟨rfl, rfl, rfl, by decide +kernel, rfl, by decide +kernel, by decide +kernel⟩
theorem small6 {n : Nat} (h : n < 6) : (n : Int).natAbs.log2 < 1920 := by
  have : ∀ n : Fin 6, ((n.1 : Nat) : Int).natAbs.log2 < 1920 := by decide +kernel
  exact this ⟨n, h⟩
theorem lens_all : ((allR 6).all fun r => decide ((Str.empty ++ num r.a).length ≤ 20) && decide ((Str.empty ++ num r.a ++ " ").length ≤ 20) && decide ((Str.empty ++ num r.a ++ " " ++ kd r.k).length ≤ 20) && decide ((Str.empty ++ num r.a ++ " " ++ kd r.k ++ " ").length ≤ 20)) = true := by decide +kernel
theorem ok_line {f : Addr} {fd : FuncData} {k : Nat} (F : Fun K "line_of" "line_of" sLine f fd) : FnOk P w K mg base CX0 (k + 1) f fd ["rule"] (spLine K) := by
  refine F.ok scLine (fun vs H Q E h => ?_) (fun cdv A outer s H vs Q E hr h => ?_)
  · obtain ⟨v, r, rfl, _⟩ := h
    rfl
  · obtain ⟨v, r, rfl, hd, ho, q⟩ := h
    obtain ⟨p, rfl, hp⟩ := dp_r hd
    have nd := scLine.nd
    refine ⟨_, pss_cons (ps_asg (pv 0) (pg_tup rfl (pgs_cons (pg_name (i := 1) nd rfl (.inl rfl)) (pgs_cons (pg_name (i := 2) nd rfl (.inl rfl)) (pgs_cons (pg_name (i := 3) nd rfl (.inl rfl)) pgs_nil)))))
      (pss_one (ps_ret (pe_joined (.cons (pe_fmt (pv 2)) (.cons pe_str (.cons (pe_fmt (pv 1)) (.cons pe_str (.cons (pe_fmt (pv 3)) .nil)))))))), ?_⟩
    have hl := List.all_eq_true.mp lens_all r (mem_allR.mpr ho)
    simp only [Bool.and_eq_true, decide_eq_true_eq] at hl
    obtain ⟨⟨⟨l1, l2⟩, l3⟩, l4⟩ := hl
    have l5 := (line_of6 ho).1
    have big : ∀ {n : Nat}, n ≤ 20 → n ≤ sizeLine := fun h => Nat.le_trans h (by decide)
    have lk : (kd r.k).length ≤ sizeLine := by cases r.k <;> decide +kernel
    refine ⟨_, rfl, p, _, rfl, hp, rfl, _, _, rfl, _, _, rfl, _, _, rfl, rfl, ?_⟩
    exact ⟨_, rfl, .inr ⟨_, rfl, small6 ho.1, _, rfl, big l1, _, rfl, big l2, _, rfl, .inl ⟨_, rfl, lk, _, rfl, big l3, _, rfl, big l4, _, rfl, .inr ⟨_, rfl, small6 ho.2.1, _, rfl, big l5, q⟩⟩⟩⟩
end
end CC
namespace CC
open PySem L2 TL
/-! ### lines by their rules: the dict -/
def prs (rs : List R) (us : List V) : List (Key × V) := List.zipWith (fun (r : R) (v : V) => ((Sum.inr (lineS r) : Key), v)) rs us
theorem prs_get {K : PySem.W.Frag} {H : Hp} : ∀ {rs : List R} {us : List V}, (∀ r ∈ rs, r.ok 6) → DpAll K H us (rs.map R.d) → ∀ {r : R}, r ∈ rs → ∃ v, valV (prs rs us) (Sum.inr (lineS r)) = some v ∧ Dp K H v r.d
  | [], _, _, _, _, h => nomatch h
  | s :: rs, _, ho, .cons (v := v) (vs := vs) h1 h2, r, hr => by
    by_cases e : s = r
    · subst e
      exact ⟨v, valV_pos rfl, h1⟩
    · have ne : ¬ (Sum.inr (lineS s) : Key) = Sum.inr (lineS r) := fun z => e (line_inj (ho s List.mem_cons_self) (ho r hr) (Sum.inr.inj z))
      have hr' : r ∈ rs := by
        rcases List.mem_cons.mp hr with z | z
        · exact absurd z.symm e
        · exact z
      obtain ⟨u, u1, u2⟩ := prs_get (fun x hx => ho x (List.mem_cons_of_mem _ hx)) h2 hr'
      exact ⟨u, (valV_neg (p := (Sum.inr (lineS s), v)) ne).trans u1, u2⟩
theorem val_none {kvs : List (Key × V)} {k : Key} (h : ∀ p ∈ kvs, p.1 ≠ k) : valV kvs k = none := by
  induction kvs with
  | nil => rfl
  | cons p r ih => rw [valV_neg (h p List.mem_cons_self)]; exact ih fun q hq => h q (List.mem_cons_of_mem _ hq)
theorem prs_len {rs : List R} {us : List V} (h : us.length = rs.length) : (prs rs us).length = rs.length := by
  rw [prs, List.length_zipWith, h, Nat.min_self]
theorem prs_step {rs : List R} {us : List V} {i : Nat} {r : R} {v : V} (hr : rs[i]? = some r) (hv : us[i]? = some v) : (prs rs us).take (i + 1) = (prs rs us).take i ++ [(Sum.inr (lineS r), v)] := by
  rw [List.take_succ]
  have : (prs rs us)[i]? = some (Sum.inr (lineS r), v) := by
    rw [prs, List.getElem?_zipWith, hr, hv]
  rw [this]
  rfl
theorem prs_new {rs : List R} {us : List V} {i : Nat} {r : R} (ho : ∀ r ∈ rs, r.ok 6) (nd : rs.Nodup) (hr : rs[i]? = some r) : valV ((prs rs us).take i) (Sum.inr (lineS r)) = none := by
  refine val_none fun p hp e => ?_
  obtain ⟨j, hj⟩ := List.mem_iff_getElem?.mp hp
  have hji : j < i := by
    have := (List.getElem?_eq_some_iff.mp hj).1
    rw [List.length_take] at this
    omega
  rw [List.getElem?_take_of_lt hji, prs, List.getElem?_zipWith] at hj
  cases hs : rs[j]? with
  | none => rw [hs] at hj; cases us[j]? <;> cases hj
  | some s =>
    cases hu : us[j]? with
    | none => rw [hs, hu] at hj; cases hj
    | some u =>
      rw [hs, hu] at hj
      cases hj
      have e2 := line_inj (ho s (List.mem_of_getElem? hs)) (ho r (List.mem_of_getElem? hr)) (Sum.inr.inj e)
      subst e2
      exact absurd (nd_ix nd hs hr) (by omega)
theorem cut_last (xs : List V) (x : V) : cutV (xs ++ [x]) none (some (-1)) = xs := by
  unfold cutV
  have e : HT.sIx (xs ++ [x]).length (xs ++ [x]).length (some (-1)) = xs.length := by
    have := HT.clip_eq (-1) (xs ++ [x]).length (xs ++ [x]).length
    rw [if_pos (by decide)] at this
    have hl : (xs ++ [x]).length = xs.length + 1 := by simp
    omega
  rw [HT.sIx_none, e]
  simp
/-- a dict comprehension over a list -/
theorem dc_list {K : PySem.W.Frag} {a : Addr} {xs : List V} {g : TG} {tt : TT} {tk tv : TE} {vs : List Nat} {σ : L2.St} {H1 : Hp} {D : Addr} {N : Hp → Prop} (Pv : Nat → Hp → Prop) (h0 : Pv 0 (upd H1 D (.dK []))) (hl : ∀ i H, i ≤ xs.length → Pv i H → SqL K H a xs)
    (hs : ∀ i x H, xs[i]? = some x → Pv i H → g x (wipe σ vs) H fun τ H2 => wipe τ vs = wipe σ vs ∧ tt τ H2 fun b H3 => if b = true then tk τ H3 fun y H4 => tv τ H4 fun z H5 => ∃ kvs k, y = kV k ∧ H5 D = some (.dK kvs) ∧ kvs.length < sizeLine ∧ Pv (i + 1) (upd H5 D (.dK (putK kvs k z))) else Pv (i + 1) H3)
    (hd : ∀ H, Pv xs.length H → N H) :
    ∃ W : Nat → Nat → Hp → Prop, (∃ m, W 0 m (upd H1 D (.dK []))) ∧ ∀ i m H, W i m H → ((Itl K a).stop i H ∧ N H) ∨ ((Itl K a).go i H ∧ ∃ Nx : Hp → Prop, (∀ H', Nx H' → ∃ m', m' < m ∧ W (i + 1) m' H') ∧ ∀ x H', (Itl K a).yld i H x H' →
      g x (wipe σ vs) H' fun τ H2 => wipe τ vs = wipe σ vs ∧ tt τ H2 fun b H3 => if b = true then tk τ H3 fun y H4 => tv τ H4 fun z H5 => ∃ kvs k, y = kV k ∧ H5 D = some (.dK kvs) ∧ kvs.length < sizeLine ∧ Nx (upd H5 D (.dK (putK kvs k z))) else Nx H3) := by
  refine ⟨fun i m H => m = xs.length - i ∧ i ≤ xs.length ∧ Pv i H, ⟨xs.length, by simp, Nat.zero_le _, h0⟩, ?_⟩
  rintro i m H ⟨rfl, hi, p⟩
  have q := hl i H hi p
  by_cases lt : i < xs.length
  · refine .inr ⟨⟨xs, xs[i], q, by simp [lt]⟩, Pv (i + 1), fun H' p' => ⟨xs.length - (i + 1), by omega, rfl, lt, p'⟩, fun x H' y => ?_⟩
    obtain ⟨e, y⟩ := y
    subst e
    exact hs i x _ (y xs q) p
  · have e : i = xs.length := by omega
    subst e
    exact .inl ⟨⟨xs, q, Nat.le_refl _⟩, hd H p⟩
abbrev sRulesOf : Stmt := tp 39
def spRulesOf (K : PySem.W.Frag) : Sp := fun vs H Q _ => ∃ (w : Nat) (rs : List R), vs = [.int (w : Int), .str (textS rs)] ∧ w ≤ 6 ∧ (∀ r ∈ rs, r.ok w) ∧ rs.Nodup ∧
  ∀ (p : Addr) (us : List V) (H' : Hp), Same H H' → H p = none → H' p = some (.lst us) → DpAll K (wo H' p) us (rs.map R.d) → Q (.ref p) H'
theorem few_rules {w : Nat} {rs : List R} (hw : w ≤ 6) (ho : ∀ r ∈ rs, r.ok w) (nd : rs.Nodup) : rs.length ≤ 60 := by
  have h := SG.sub_len nd fun r hr => mem_allR.mpr ((ho r hr).up hw)
  have e : (allR 6).length = 60 := by decide +kernel
  omega
section
variable {P : Program} {w : World} {K : PySem.W.Frag} {mg : Str → Option Value} {base : Heap} {kA : Addr}
abbrev nRO : List Str := ["width", "text", "known", "parts", "lines", "rule", "line"]
theorem scRulesOf : FnScope nRO ["width", "text"] (defScope sRulesOf) := ⟨rfl, rfl, rfl, by decide +kernel, rfl, by decide +kernel, by decide +kernel⟩
theorem ok_rulesof {f : Addr} {fd : FuncData} {k : Nat} (F : Fun K "rules_of" "rules_of" sRulesOf f fd) (T : Glb K mg kA) (cE : Cal P w K mg base "every_rule" ["width"] (spEvery K) 1)
 (cL : Cal P w K mg base "line_of" ["rule"] (spLine K) 1) : FnOk P w K mg base CX0 (k + 2) f fd ["width", "text"] (spRulesOf K) := by
  have GE := cE.ok (k + 1) (by omega)
  have GL := cL.ok (k + 1) (by omega)
  refine F.ok scRulesOf (fun vs H Q E h => ?_) (fun cdv A outer s H vs Q E hr h => ?_)
  · obtain ⟨w, rs, rfl, _⟩ := h
    rfl
  · obtain ⟨w, rs, rfl, hw, ho, nd, q⟩ := h
    have hu := hu_of hr
    have hu3 := Nat.lt_of_le_of_lt (Nat.add_le_add_left (by decide : 3 ≤ 64) _) hr.units
    have n := scRulesOf.nd
    have ho6 : ∀ r ∈ rs, r.ok 6 := fun r h => (ho r h).up hw
    refine ⟨_, pss_cons (ps_set (i := 2) n rfl (.inr rfl) (pe_dc (own := [("rule", 5)]) (g := gName 5) (tt := tYes) rfl n (pi_list (pe_call GE hr rfl cE.g cE.kp cE.b .nil pass0 (pa_cons (pv 0) pa_nil))) (blkOk_by (N := nRO) (sc := defScope sRulesOf) (by decide +kernel))
          (fun _ _ _ _ _ => pg_name (i := 5) n rfl (.inl rfl)) (fun _ _ _ _ _ => pts_nil) (fun _ _ _ _ _ => pe_call GL hr rfl cL.g cL.kp cL.b .nil pass0 (pa_cons (pv 5) pa_nil)) (fun _ _ _ _ _ => pv 5)))
      (pss_cons (ps_set (i := 3) n rfl (.inl rfl) (pe_split (pv 1) pe_str))
      (pss_cons (ps_set (i := 4) n rfl (.inl rfl) (pe_slice sl_list (pv 3) po_none (po_some (pe_un un_neg pe_int))))
      (pss_cons (ps_if (PW.pt (pw_or (pt_cmpR op_ne (pe_ix ix_list (pv 3) (pe_un un_neg pe_int) (fun _ _ => rfl)) pe_str (nomark _))
          (pw_or1 (pt_cmpR op_ne (SG.pe_lenSetD rfl hu3 (by rfl) T.len (by rfl) T.set (pv 4)) (pe_callB call_len_seq (by rfl) T.len PySem.boot_len (pa_cons (pv 4) pa_nil)) (nomark _))))) (pss_one (ps_ret pe_non)) pss_nil)
      (pss_cons (ps_if (pt_not (pt_val (pe_callB (cr_all rfl) (by rfl) T.all (by decide +kernel) (pa_cons (pe_lc (own := [("line", 6)]) (g := gName 6) (tt := tYes) rfl n (pi_list (pv 4)) (blkOk_by (N := nRO) (sc := defScope sRulesOf) (by decide +kernel))
          (fun _ _ _ _ _ => pg_name (i := 6) n rfl (.inl rfl)) (fun _ _ _ _ _ => pts_nil) (fun _ _ _ _ _ => pe_cmp (pc_din hu (pv 6) (pv 2)) rfl)) pa_nil)))) (pss_one (ps_ret pe_non)) pss_nil)
      (pss_one (ps_ret (pe_lc (own := [("line", 6)]) (g := gName 6) (tt := tYes) rfl n (pi_list (pv 4)) (blkOk_by (N := nRO) (sc := defScope sRulesOf) (by decide +kernel))
          (fun _ _ _ _ _ => pg_name (i := 6) n rfl (.inl rfl)) (fun _ _ _ _ _ => pts_nil) (fun _ _ _ _ _ => pe_dget hu (pv 2) (pv 6) (fun _ _ => rfl))))))))), ?_⟩
    refine ⟨_, rfl, w, rfl, hw, fun p us H1 s1 np hp dp => ⟨p, rfl, ⟨_, SqL.of hp⟩, fun D nD => ?_⟩⟩
    have dp1 : DpAll K H1 us ((allR w).map R.d) := dps_same (wo_le p) _ _ dp
    have ulen : us.length = (allR w).length := by rw [dps_len dp1, List.length_map]
    have oka : ∀ r ∈ allR w, r.ok 6 := fun r h => (mem_allR.mp h).up hw
    have nda := allR_nodup hw
    have few : (allR w).length ≤ 60 := few_rules hw (fun r h => mem_allR.mp h) nda
    have pD : p ≠ D := ne_of_none hp nD
    refine dc_list (xs := us) (fun i H => Same H1 (wo H D) ∧ H D = some (.dK ((prs (allR w) us).take i))) ⟨?_, upd_same⟩ (fun i H _ z => SqL.of (wo_le D _ _ (z.1 _ _ hp))) ?_ ?_
    · rw [wo_upd]
      exact fun b o e => by rw [wo_ne (ne_of_none e nD)]; exact e
    · rintro i v H2 hv ⟨e1, e2⟩
      obtain ⟨r, hr2, dr⟩ := dps_rat dp1 hv
      refine ⟨rfl, yes_if ?_⟩
      refine ⟨_, rfl, v, r, rfl, dp_same (e1.trans (wo_le D)) _ _ dr, oka r (List.mem_of_getElem? hr2), _, rfl, _, Sum.inr (lineS r), rfl, e2, ?_, ?_, ?_⟩
      · rw [List.length_take]
        exact Nat.lt_of_le_of_lt (Nat.min_le_right _ _) (by rw [prs_len ulen]; exact small1000 (by omega))
      · rw [wo_upd]
        exact e1
      · rw [upd_same, putK_new _ (prs_new oka nda hr2), prs_step hr2 hv]
    rintro H2 ⟨e1, e2⟩
    rw [List.take_of_length_le (by rw [prs_len ulen, ulen]; exact Nat.le_refl _)] at e2
    have dp2 : DpAll K (wo H2 D) us ((allR w).map R.d) := dps_same e1 _ _ dp1
    -- parts
    have tlen := text_len ho6
    have rlen := few_rules hw ho nd
    refine ⟨_, rfl, ⟨_, rfl⟩, _, _, rfl, rfl, by decide +kernel, Nat.le_trans (show (textS rs).length + 2 ≤ 100000 by omega) (by decide), fun p3 n3 => ?_⟩
    rw [split_text ho6, List.map_append]
    have m3 : Same H2 (upd H2 p3 (.lst ((rs.map lineS).map V.str ++ [Str.empty].map V.str))) := same_new n3
    have h3 : (upd H2 p3 (.lst ((rs.map lineS).map V.str ++ [Str.empty].map V.str))) p3 = some (.lst ((rs.map lineS).map V.str ++ [V.str Str.empty])) := upd_same
    generalize upd H2 p3 (.lst ((rs.map lineS).map V.str ++ [Str.empty].map V.str)) = H3 at m3 h3
    -- lines
    refine ⟨_, rfl, _, rfl, _, rfl, p3, _, rfl, SqL.of h3, fun p4 n4 => ?_⟩
    have e4 : cutV ((rs.map lineS).map V.str ++ [V.str Str.empty]) none (some (-1)) = (rs.map lineS).map V.str := cut_last _ _
    rw [e4]
    have m4 : Same H3 (upd H3 p4 (.lst ((rs.map lineS).map V.str))) := same_new n4
    have h4 : (upd H3 p4 (.lst ((rs.map lineS).map V.str))) p4 = some (.lst ((rs.map lineS).map V.str)) := upd_same
    generalize upd H3 p4 (.lst ((rs.map lineS).map V.str)) = H4 at m4 h4
    have h34 := m4 _ _ h3
    have nodl : (rs.map lineS).Nodup := by
      refine List.Pairwise.map _ ?_ ((List.pairwise_iff_forall_sublist.mpr ?_ : rs.Pairwise fun a b => lineS a ≠ lineS b))
      · exact fun a b h => h
      · intro a b hab e
        have ha : a ∈ rs := hab.subset (by simp)
        have hb : b ∈ rs := hab.subset (by simp)
        have e2 := line_inj (ho6 a ha) (ho6 b hb) e
        subst e2
        exact absurd (nd.sublist hab) (by simp)
    have ll : ((rs.map lineS).map V.str).length = rs.length := by rw [List.length_map, List.length_map]
    refine ⟨_, rfl, 1, rfl, p3, _, -1, _, rfl, rfl, SqL.of h34, atI_last _ _, rfl, _, rfl, ?_⟩
    refine iteF ⟨_, rfl, p4, rfl, .inl ⟨rs.map lineS, .inl (SqL.of h4), by rw [List.length_map]; omega, fun n n1 n2 => ?_⟩⟩
    have en : n = (rs.map lineS).length := n2.mpr nodl
    subst en
    refine ⟨_, rfl, p4, _, rfl, .inl (SqL.of h4), rfl, _, rfl, ?_⟩
    have e5 : (!decide (V.int (((rs.map lineS).length : Nat) : Int) = V.int ((((rs.map lineS).map V.str).length : Nat) : Int))) = false := by
      rw [ll, List.length_map]
      simp
    rw [e5]
    refine iteF ?_
    -- all([line in known for line in lines])
    have h24 : H4 D = some (.dK (prs (allR w) us)) := m4 _ _ (m3 _ _ e2)
    have m24 : Same H2 H4 := m3.trans m4
    refine ⟨_, rfl, p4, rfl, ⟨_, SqL.of h4⟩, fun D5 n5 => ?_⟩
    have at_ : ∀ {i : Nat} {x : V}, ((rs.map lineS).map V.str)[i]? = some x → ∃ r, rs[i]? = some r ∧ x = .str (lineS r) := fun {i x} h => by
      rw [List.getElem?_map, List.getElem?_map] at h
      cases z : rs[i]? with
      | none =>
        rw [z] at h
        cases h
      | some r =>
        rw [z] at h
        exact ⟨r, rfl, (Option.some.inj h).symm⟩
    refine lc_list (xs := (rs.map lineS).map V.str) (fun i H => Same H4 (wo H D5) ∧ H D5 = some (.lst ((List.replicate i true).map V.bl)) ∧ i ≤ 60) ⟨?_, upd_same, by omega⟩ (fun i H _ z => SqL.of (wo_le D5 _ _ (z.1 _ _ h4))) ?_ ?_
    · rw [wo_upd]
      exact fun b o e => by rw [wo_ne (ne_of_none e n5)]; exact e
    · rintro i x H5 hx ⟨f1, f2, f3⟩
      obtain ⟨r, hr2, rfl⟩ := at_ hx
      have il : i < rs.length := (List.getElem?_eq_some_iff.mp hr2).1
      obtain ⟨v, v1, _⟩ := prs_get oka dp2 (mem_allR.mpr (ho r (List.mem_of_getElem? hr2)))
      have h5 : H5 D = some (.dK (prs (allR w) us)) := wo_le D5 _ _ (f1 _ _ h24)
      refine ⟨rfl, yes_if ⟨_, rfl, _, rfl, D, _, rfl, DGet.k (k := Sum.inr (lineS r)) h5, _, f2, small1000 (by simp; omega), ?_, ?_, by omega⟩⟩
      · rw [wo_upd]
        exact f1
      · rw [upd_same, v1, List.replicate_succ', List.map_append]
        rfl
    rintro H5 ⟨f1, f2, _⟩
    rw [ll] at f2
    refine ⟨D5, List.replicate rs.length true, rfl, SqL.of f2, _, rfl, ?_⟩
    have e6 : (List.replicate rs.length true).all id = true := by
      rw [List.all_eq_true]
      intro b hb
      rw [List.eq_of_mem_replicate hb]
      rfl
    rw [e6]
    refine iteF ?_
    -- [known[line] for line in lines]
    have m5 : Same H4 H5 := f1.trans (wo_le D5)
    have h45 := m5 _ _ h4
    have h25 := m5 _ _ h24
    refine ⟨_, rfl, p4, rfl, ⟨_, SqL.of h45⟩, fun D6 n6 => ?_⟩
    refine lc_list (xs := (rs.map lineS).map V.str) (fun i H => MadeR K H5 D6 i H (rs.take i)) MadeR.start (fun i H _ z => SqL.of (z.old n6 _ _ h45)) ?_ ?_
    · rintro i x H6 hx p6
      obtain ⟨r, hr2, rfl⟩ := at_ hx
      have il : i < rs.length := (List.getElem?_eq_some_iff.mp hr2).1
      obtain ⟨v, v1, v2⟩ := prs_get oka dp2 (mem_allR.mpr (ho r (List.mem_of_getElem? hr2)))
      have h6 : H6 D = some (.dK (prs (allR w) us)) := p6.old n6 _ _ h25
      have g6 := DGet.k (k := Sum.inr (lineS r)) h6
      rw [v1] at g6
      refine ⟨rfl, yes_if ⟨_, rfl, _, rfl, D, v, rfl, g6, ?_⟩⟩
      rw [SG.take_one hr2]
      refine p6.push (by omega) (Nat.lt_succ_self _) (Same.refl _) (dp_same ?_ _ _ v2)
      have nD6 : wo H2 D D6 = none := by
        cases z : wo H2 D D6 with
        | none => rfl
        | some o => rw [m5 _ _ (m24 _ _ (wo_le D _ _ z))] at n6; cases n6
      exact fun b o e => by
        rw [wo_ne (ne_of_none e nD6)]
        exact p6.old n6 _ _ (m5 _ _ (m24 _ _ (wo_le D _ _ e)))
    · intro H6 p6
      rw [ll, List.take_length] at p6
      obtain ⟨us6, p7⟩ := id p6
      have sH : Same H H6 := s1.trans (e1.trans ((wo_le D).trans (m24.trans (m5.trans (p6.old n6)))))
      refine q D6 us6 H6 sH ?_ p7.lst p7.dat
      cases z : H D6 with
      | none => rfl
      | some o => rw [m5 _ _ (m24 _ _ (wo_le D _ _ (e1 _ _ (s1 _ _ z))))] at n6; cases n6
end
end CC
namespace CC
open PySem L2 TL
abbrev sInit : Stmt := inClass (tp 40) 0
abbrev sRead : Stmt := inClass (tp 40) 10
/-! ### the object -/
def fl0 (w : Nat) : List (Str × V) := putF "span" (.int (w : Int)) []
def flds (w : Nat) (g : Addr) : List (Str × V) := putF "given" (.ref g) (fl0 w)
theorem sg : ¬ (("span" : Str) = "given") := by decide +kernel
theorem flds_eq (w : Nat) (g : Addr) : flds w g = ([("span", V.int (w : Int)), ("given", V.ref g)] : List (Str × V)) := by
  show (if ("span" : Str) = "given" then [(("span" : Str), V.ref g)] else (("span" : Str), V.int (w : Int)) :: putF "given" (V.ref g) []) = _
  rw [if_neg sg]
  rfl
theorem flds_span (w : Nat) (g : Addr) : (flds w g).lookup ("span" : Str) = some (.int (w : Int)) := by
  unfold flds fl0
  rw [lookup_putF, if_neg sg, lookup_putF, if_pos rfl]
theorem flds_given (w : Nat) (g : Addr) : (flds w g).lookup ("given" : Str) = some (.ref g) := by
  unfold flds
  rw [lookup_putF, if_pos rfl]
theorem flds_no (w : Nat) (g : Addr) {m : Str} (h1 : ¬ m = "given") (h2 : ¬ m = "span") : (flds w g).lookup m = none := by
  unfold flds fl0
  rw [lookup_putF, if_neg h1, lookup_putF, if_neg h2]
  rfl
/-- a list of rules stands at x -/
def RulesAt (K : PySem.W.Frag) (C : Addr) (H : Hp) (x : Addr) (w : Nat) (rs : List R) : Prop := ∃ dx g us, H x = some (.ins C dx (flds w g)) ∧ H g = some (.tup us) ∧ DpAll K H us (rs.map R.d)
theorem RulesAt.same {K : PySem.W.Frag} {C : Addr} {H H' : Hp} {x : Addr} {w : Nat} {rs : List R} (h : RulesAt K C H x w rs) (e : Same H H') : RulesAt K C H' x w rs := by
  obtain ⟨dx, g, us, h1, h2, h3⟩ := h
  exact ⟨dx, g, us, e _ _ h1, e _ _ h2, dps_same e _ _ h3⟩
/-- what is asked of the class as the top has made it -/
structure Txt1 (K : PySem.W.Frag) (mg : Str → Option Value) (C : Addr) : Prop where
  cl : Cls K C
  nS : NoAttr K C "span"
  nG : NoAttr K C "given"
  mgC : mg "Rules" = some (.ref C)
/-! ### keys -/
def R.key (r : R) : List Key := [.inr (kd r.k), .inl (r.a : Int), .inl (r.b : Int)]
theorem key_inj {r s : R} (h : r.key = s.key) : r = s := by
  obtain ⟨k, a, b⟩ := r
  obtain ⟨k', a', b'⟩ := s
  simp only [R.key, List.cons.injEq, Sum.inr.injEq, Sum.inl.injEq, and_true] at h
  obtain ⟨h1, h2, h3⟩ := h
  have e1 := kd_inj h1
  have e2 : a = a' := by omega
  have e3 : b = b' := by omega
  rw [e1, e2, e3]
theorem keys_nodup {rs : List R} (h : rs.Nodup) : (rs.map R.key).Nodup := List.Pairwise.map _ (fun a b hab e => hab (key_inj e)) h
theorem dps_keys {K : PySem.W.Frag} {H : Hp} : ∀ {rs : List R} {us : List V}, DpAll K H us (rs.map R.d) → ∃ ks : List (SG.Mem Key), us = ks.map (fun m => V.ref m.1) ∧ ks.map (·.2) = rs.map R.key ∧ ∀ m ∈ ks, SqT K H m.1 (m.2.map kV)
  | [], _, h => by
    cases h
    exact ⟨[], rfl, rfl, fun m hm => nomatch hm⟩
  | r :: rs, _, h => by
    cases h with
    | cons h1 h2 =>
      obtain ⟨p, rfl, hp⟩ := dp_r h1
      obtain ⟨ks, e1, e2, e3⟩ := dps_keys h2
      refine ⟨(p, r.key) :: ks, by rw [e1]; rfl, by rw [List.map_cons, e2]; rfl, fun m hm => ?_⟩
      rcases List.mem_cons.mp hm with z | z
      · rw [z]
        exact hp
      · exact e3 m z
def spInit (K : PySem.W.Frag) (C : Addr) : Sp := fun vs H Q _ => ∃ (x dx : Addr) (w : Nat) (p : Addr) (us : List V) (rs : List R), vs = [.ref x, .int (w : Int), .ref p] ∧ H x = some (.ins C dx []) ∧ 1 ≤ w ∧ w ≤ 6 ∧ H p = some (.tup us) ∧ DpAll K (wo H x) us (rs.map R.d) ∧
  (∀ r ∈ rs, r.ok w) ∧ rs.Nodup ∧ ∀ H', (∀ b o, H b = some o → b ≠ x → H' b = some o) → H' x = some (.ins C dx (flds w p)) → Q .non H'
def spInitR (K : PySem.W.Frag) (C : Addr) : Sp := fun vs H Q E => ∃ ws rest, vs = ws ++ rest ∧ ws.length = 2 ∧ rest.length ≤ sizeLine ∧ ∀ p, H p = Option.none → spInit K C (ws ++ [V.ref p]) (upd H p (.tup rest)) Q E
def spRead (K : PySem.W.Frag) (C : Addr) : Sp := fun vs H Q _ => ∃ (w : Nat) (rs : List R), vs = [.ref C, .int (w : Int), .str (textS rs)] ∧ 1 ≤ w ∧ w ≤ 6 ∧ (∀ r ∈ rs, r.ok w) ∧ rs.Nodup ∧ ∀ (x : Addr) (H' : Hp), Same H H' → H x = none → RulesAt K C H' x w rs → Q (.ref x) H'
/-- C(width, *rules), C.read(width, text) -/
structure MakeR (P : Program) (w : World) (K : PySem.W.Frag) (mg : Str → Option Value) (base : Heap) (C : Addr) (l : Nat) where
  fN : Addr
  M : Mk K C fN
  ok : ∀ k, l ≤ k → FnR P w K mg base CX0 k fN (spInitR K C)
structure ReadR (P : Program) (w : World) (K : PySem.W.Frag) (mg : Str → Option Value) (base : Heap) (C : Addr) (l : Nat) where
  mc : Value
  pD : Addr
  fD : Addr
  rD : ClX.CRead K C mc
  cD : ClX.CMet K C mc "read" pD fD
  ok : ∀ k, l ≤ k → FnR P w K mg base CX0 k fD (spRead K C)
section
variable {P : Program} {w : World} {K : PySem.W.Frag} {mg : Str → Option Value} {base : Heap} {kA : Addr}
abbrev nIn : List Str := ["self", "width", "rules", "rule"]
theorem scInit : FnScope nIn ((["self", "width"] : List Str) ++ ([("rules" : Str)] : List Str)) (defScope sInit) := ⟨rfl, rfl, rfl, by decide +kernel, rfl, by decide +kernel, by decide +kernel⟩
theorem ok_init {f C : Addr} {fd : FuncData} {k : Nat} (F : Fun K "__init__" "Rules.__init__" sInit f fd) (T : Glb K mg kA) (TC : Txt1 K mg C)
 (cW : Cal P w K mg base "is_width" ["thing"] spIsWidth 2) (cR : Cal P w K mg base "is_rule" ["width", "thing"] (spIsRule K) 3) :
    FnR P w K mg base CX0 (k + 4) f (spInitR K C) := by
  have GW := cW.ok (k + 3) (by omega)
  have GR := cR.ok (k + 3) (by omega)
  obtain ⟨oc, od, kV, doc, pm, an, cdv, ct, osl, rfl, lk, hcd⟩ := F.ex
  refine StX.fn_star (ps := ["self", "width"]) (pv := "rules") lk hcd scInit StX.cxUp_none (fun us rest hl => ?_) (fun A outer s H vs Q E hr h => ?_)
  · match us, hl with
    | [a, b], _ =>
      cases rest with
      | nil => rfl
      | cons c r => rfl
  · obtain ⟨x, dx, w, p, us, rs, rfl, hx, w1, w6, hp, dp, ho, nd, q⟩ := h
    have hu3 := Nat.lt_of_le_of_lt (Nat.add_le_add_left (by decide : 3 ≤ 64) _) hr.units
    have n := scInit.nd
    refine ⟨_, PSs.nox (pss_cons (ps_if (pt_not (pt_val (pe_call GW hr rfl cW.g cW.kp cW.b .nil pass0 (pa_cons (pv 1) pa_nil)))) (pss_one ps_never) pss_nil)
      (pss_cons (ps_if (pt_not (pt_val (pe_callB (cr_all rfl) (by rfl) T.all (by decide +kernel) (pa_cons (pe_lc (own := [("rule", 3)]) (g := gName 3) (tt := tYes) rfl n (pi_tup (pv 2)) (blkOk_by (N := nIn) (sc := defScope sInit) (by decide +kernel))
          (fun _ _ _ _ _ => pg_name (i := 3) n rfl (.inl rfl)) (fun _ _ _ _ _ => pts_nil) (fun _ _ _ _ _ => pe_call GR hr rfl cR.g cR.kp cR.b .nil pass0 (pa_cons (pv 1) (pa_cons (pv 3) pa_nil)))) pa_nil)))) (pss_one ps_never) pss_nil)
      (pss_cons (ps_if (pt_cmpR op_ne (SG.pe_lenSetD rfl hu3 (by rfl) T.len (by rfl) T.set (pv 2)) (pe_callB call_len_seq (by rfl) T.len PySem.boot_len (pa_cons (pv 2) pa_nil)) (nomark _)) (pss_one ps_never) pss_nil)
      (pss_cons (ps_fld (pv 0) (pv 1) rfl) (pss_one (ps_fld (pv 0) (pv 2) rfl)))))), ?_⟩
    have rl := few_rules w6 ho nd
    have ul : us.length = rs.length := by rw [dps_len dp, List.length_map]
    refine ⟨_, rfl, w, rfl, w1, w6, _, rfl, iteF ?_⟩
    refine ⟨_, rfl, p, rfl, ⟨_, .inl (.inl hp)⟩, fun D nD => ?_⟩
    refine lc_tup (xs := us) (fun i H1 => Same H (wo H1 D) ∧ H1 D = some (.lst ((List.replicate i true).map V.bl)) ∧ i ≤ 60) ⟨?_, upd_same, by omega⟩ (fun i H1 _ z => .inl (.inl (wo_le D _ _ (z.1 _ _ hp)))) ?_ ?_
    · rw [wo_upd]
      exact fun b o e => by rw [wo_ne (ne_of_none e nD)]; exact e
    · rintro i v H1 hv ⟨e1, e2, e3⟩
      obtain ⟨r, hr2, dr⟩ := dps_rat dp hv
      have il : i < rs.length := (List.getElem?_eq_some_iff.mp hr2).1
      refine ⟨rfl, yes_if ⟨_, rfl, _, rfl, w, v, r, rfl, dp_same ((wo_le x).trans (e1.trans (wo_le D))) _ _ dr, ho r (List.mem_of_getElem? hr2), _, e2, small1000 (by simp; omega), ?_, ?_, by omega⟩⟩
      · rw [wo_upd]
        exact e1
      · rw [upd_same, List.replicate_succ', List.map_append]
        rfl
    rintro H1 ⟨e1, e2, _⟩
    rw [ul] at e2
    refine ⟨D, List.replicate rs.length true, rfl, SqL.of e2, _, rfl, ?_⟩
    have e6 : (List.replicate rs.length true).all id = true := by
      rw [List.all_eq_true]
      intro b hb
      rw [List.eq_of_mem_replicate hb]
      rfl
    rw [e6]
    refine iteF ?_
    have m1 : Same H H1 := e1.trans (wo_le D)
    obtain ⟨ks, k1, k2, k3⟩ := dps_keys (dps_same ((wo_le x).trans m1) _ _ dp)
    have hp1 := m1 _ _ hp
    have kl : ks.length = rs.length := by
      rw [← ul, k1, List.length_map]
    refine ⟨_, rfl, p, rfl, .inr ⟨ks, .inr (by rw [← k1]; exact .inl (.inl hp1)), k3, by omega, fun m z1 z2 => ?_⟩⟩
    have em : m = ks.length := z2.mpr (by rw [k2]; exact keys_nodup nd)
    subst em
    refine ⟨_, rfl, p, us, rfl, .inr (.inl (.inl hp1)), rfl, _, rfl, ?_⟩
    have e7 : (!decide (V.int (ks.length : Int) = V.int (us.length : Int))) = false := by
      rw [kl, ul]
      simp
    rw [e7]
    refine iteF ?_
    have hx1 := m1 _ _ hx
    have px : p ≠ x := ne_of hp hx (by intro z; cases z)
    refine ⟨_, rfl, _, rfl, x, C, dx, _, rfl, hx1, TC.cl, TC.nS, (by show 0 < 1000; decide), ?_⟩
    refine ⟨_, rfl, _, rfl, x, C, dx, _, rfl, upd_same, TC.cl, TC.nG, (by show 1 < 1000; decide), ?_⟩
    refine q _ (fun b o e hb => ?_) upd_same
    rw [upd_ne hb, upd_ne hb]
    exact m1 _ _ e
abbrev nRd : List Str := ["cls", "width", "text", "found"]
theorem scRead : FnScope nRd ["cls", "width", "text"] (defScope sRead) := ⟨rfl, rfl, rfl, by decide +kernel, rfl, by decide +kernel, by decide +kernel⟩
theorem ok_read {f C : Addr} {fd : FuncData} {k : Nat} (F : Fun K "read" "Rules.read" sRead f fd) (T : Glb K mg kA) (m : MakeR P w K mg base C 4)
 (cW : Cal P w K mg base "is_width" ["thing"] spIsWidth 2)
 (cO : Cal P w K mg base "rules_of" ["width", "text"] (spRulesOf K) 2) 
 : FnOk P w K mg base CX0 (k + 6) f fd ["cls", "width", "text"] (spRead K C) := by
  have GW := cW.ok (k + 5) (by omega)
  have GO := cO.ok (k + 5) (by omega)
  have GN := m.ok (k + 4) (by omega)
  refine F.ok scRead (fun vs H Q E h => ?_) (fun cdv A outer s H vs Q E hr h => ?_)
  · obtain ⟨w, rs, rfl, _⟩ := h
    rfl
  · obtain ⟨w, rs, rfl, w1, w6, ho, nd, q⟩ := h
    have n := scRead.nd
    refine ⟨_, pss_cons (ps_if (pt_not (pt_val (pe_call GW hr rfl cW.g cW.kp cW.b .nil pass0 (pa_cons (pv 1) pa_nil)))) (pss_one ps_never) pss_nil)
      (pss_cons (ps_if (pt_not (pt_val (pe_callB call_isi (by rfl) T.isi (by decide +kernel) (pa_cons (pv 2) (pa_cons (pe_bltn (v := .ty "str") (by rfl) T.str (by decide +kernel) rfl) pa_nil))))) (pss_one ps_never) pss_nil)
      (pss_cons (ps_set (i := 3) n rfl (.inl rfl) (pe_call GO hr rfl cO.g cO.kp cO.b .nil pass0 (pa_cons (pv 1) (pa_cons (pv 2) pa_nil))))
      (pss_cons (ps_if (pt_cmpR op_isN (pv 3) pe_non (nomark _)) (pss_one ps_never) pss_nil)
      (pss_one (ps_ret (pe_makeLS (i := 0) m.M GN hr rfl (.inl rfl) pass0 (pa_cons (pv 1) (StX.pa_star (pv 3) pa_nil)))))))), ?_⟩
    refine ⟨_, rfl, w, rfl, w1, w6, _, rfl, iteF ?_⟩
    refine ⟨_, rfl, _, _, _, _, true, rfl, .ty _, .base (.str _), kit_ty (by decide +kernel), _, rfl, iteF ?_⟩
    refine ⟨_, rfl, _, rfl, w, rs, rfl, w6, ho, nd, fun p us H1 s1 np hp dp => ?_⟩
    refine ⟨_, rfl, rfl, _, rfl, iteF ?_⟩
    have rl := few_rules w6 ho nd
    have ul : us.length = rs.length := by rw [dps_len dp, List.length_map]
    refine ⟨rfl, _, rfl, _, rfl, p, us, rfl, .inr (SqL.of hp), fun x dx nx ndx ne => ?_⟩
    rw [List.append_nil]
    refine ⟨[.ref x, .int (w : Int)], us, rfl, rfl, Nat.le_of_lt (small1000 (by omega)), fun g ng => ?_⟩
    have gx : x ≠ g := fun z => by rw [← z, upd_same] at ng; cases ng
    have gdx : dx ≠ g := fun z => by rw [← z, upd_ne ne, upd_same] at ng; cases ng
    have ng1 : H1 g = none := by
      rw [upd_ne gx.symm, upd_ne gdx.symm] at ng
      exact ng
    have keep : ∀ b o, H1 b = some o → (upd (upd (upd H1 dx (.own x)) x (.ins C dx [])) g (.tup us)) b = some o := fun b o e => by
      rw [upd_ne (ne_of_none e ng1), upd_ne (ne_of_none e nx), upd_ne (ne_of_none e ndx)]
      exact e
    refine ⟨x, dx, w, g, us, rs, rfl, by rw [upd_ne gx]; exact upd_same, w1, w6, upd_same, dps_same ?_ _ _ dp, ho, nd, fun H' k1 k2 => ⟨rfl, q x H' ?_ ?_ ⟨dx, g, us, k2, ?_, ?_⟩⟩⟩
    · exact fun b o e => by
        have e1 := wo_le p _ _ e
        rw [wo_ne (ne_of_none e1 nx)]
        exact keep b o e1
    · exact fun b o e => k1 b o (keep b o (s1 _ _ e)) (ne_of_none (s1 _ _ e) nx)
    · cases z : H x with
      | none => rfl
      | some o => rw [s1 _ _ z] at nx; cases nx
    · exact k1 g _ upd_same gx.symm
    · refine dps_same (fun b o e => ?_) _ _ dp
      have e1 := wo_le p _ _ e
      exact k1 b o (keep b o e1) (ne_of_none e1 nx)
end
end CC
namespace CC
open PySem L2
/-! ### steps down -/
def down (r : R) : Nat × Nat := if r.k then (r.a, r.b) else (r.b, r.a)
abbrev sDown : Stmt := tp 25
def spDown (K : PySem.W.Frag) : Sp := fun vs H Q _ => ∃ (g : Addr) (us : List V) (rs : List R), vs = [.ref g] ∧ SqT K H g us ∧ DpAll K H us (rs.map R.d) ∧ rs.length ≤ 60 ∧ NewF prd K H (rs.map down) Q
theorem kd_eq (k : Bool) : decide (V.str (kd k) = V.str "settles") = k := by
  cases k <;> decide +kernel
section
variable {P : Program} {w : World} {K : PySem.W.Frag} {mg : Str → Option Value} {base : Heap} {kA : Addr}
abbrev nDn : List Str := ["rules", "kind", "a", "b"]
theorem scDown : FnScope nDn ["rules"] (defScope sDown) := ⟨rfl, rfl, rfl, by decide +kernel, rfl, by decide +kernel, by decide +kernel⟩
theorem ok_down {f : Addr} {fd : FuncData} {k : Nat} (F : Fun K "steps_down" "steps_down" sDown f fd) : FnOk P w K mg base CX0 (k + 1) f fd ["rules"] (spDown K) := by
  refine F.ok scDown (fun vs H Q E h => ?_) (fun cdv A outer s H vs Q E hr h => ?_)
  · obtain ⟨g, us, rs, rfl, _⟩ := h
    rfl
  · obtain ⟨g, us, rs, rfl, hg, dp, hl, q⟩ := h
    have n := scDown.nd
    refine ⟨_, pss_one (ps_ret (pe_lc (own := [("kind", 1), ("a", 2), ("b", 3)]) (g := g3 K 1 2 3) (tt := tYes) rfl n (pi_tup (pv 0)) (blkOk_by (N := nDn) (sc := defScope sDown) (by decide +kernel))
      (fun _ _ _ _ _ => pg_tup rfl (pgs_cons (pg_name (i := 1) n rfl (.inl rfl)) (pgs_cons (pg_name (i := 2) n rfl (.inl rfl)) (pgs_cons (pg_name (i := 3) n rfl (.inl rfl)) pgs_nil)))) (fun _ _ _ _ _ => pts_nil)
      (fun _ _ _ _ _ => pe_ifExp (pt_cmpR op_eq (pv 1) pe_str (nomark _)) (pe_tup (pa_cons (pv 2) (pa_cons (pv 3) pa_nil))) (pe_tup (pa_cons (pv 3) (pa_cons (pv 2) pa_nil)))))), ?_⟩
    have ul : us.length = rs.length := by rw [dps_len dp, List.length_map]
    refine ⟨_, rfl, g, rfl, ⟨_, hg⟩, fun D nD => ?_⟩
    refine lc_tup (xs := us) (fun i H1 => MadeF prd K H D i H1 ((rs.take i).map down)) MadeF.start (fun i H1 _ z => same_t (z.old nD) hg) ?_ ?_
    · intro i v H1 hv p
      obtain ⟨r, hr2, dr⟩ := dps_rat dp hv
      have il : i < rs.length := (List.getElem?_eq_some_iff.mp hr2).1
      obtain ⟨t, rfl, ht⟩ := dp_r (dp_same (p.old nD) _ _ dr)
      refine ⟨t, _, rfl, ht, rfl, _, _, rfl, _, _, rfl, _, _, rfl, rfl, rfl, yes_if ?_⟩
      refine ⟨_, rfl, rfl, _, rfl, ?_⟩
      rw [SG.take_one hr2, List.map_append]
      rw [show decide (V.str (kd r.k) = V.str (Str.ofString "settles")) = r.k from kd_eq r.k]
      cases hk : r.k with
      | true =>
        refine iteT ⟨_, rfl, _, rfl, (by show 2 ≤ sizeLine; decide), fun t2 n2 => ?_⟩
        refine p.push (r := down r) (by omega) (Nat.lt_succ_self _) (same_new n2) (p_dp ?_)
        have e : down r = (r.a, r.b) := by unfold down; rw [hk]; rfl
        rw [e]
        exact p.tup n2
      | false =>
        refine iteF ⟨_, rfl, _, rfl, (by show 2 ≤ sizeLine; decide), fun t2 n2 => ?_⟩
        refine p.push (r := down r) (by omega) (Nat.lt_succ_self _) (same_new n2) (p_dp ?_)
        have e : down r = (r.b, r.a) := by unfold down; rw [hk]; rfl
        rw [e]
        exact p.tup n2
    · intro H1 p
      rw [ul, List.take_length] at p
      exact p.out nD (Same.refl _) q
end
end CC
namespace CC
open PySem L2
/-! ### the dict of ways -/
def Ents (H : Hp) : List (Key × V) → List (Nat × List Nat) → Prop
  | [], [] => True
  | (k, v) :: r, (c, w) :: s => k = Sum.inl (c : Int) ∧ (∃ t, v = .ref t ∧ H t = some (.tup (nms w))) ∧ Ents H r s
  | [], _ :: _ => False
  | _ :: _, [] => False
theorem Ents.mono {H H' : Hp} (e : ∀ t xs, H t = some (.tup xs) → H' t = some (.tup xs)) : ∀ {kvs : List (Key × V)} {ws : List (Nat × List Nat)}, Ents H kvs ws → Ents H' kvs ws
  | [], [], _ => trivial
  | [], _ :: _, h => False.elim h
  | _ :: _, [], h => False.elim h
  | (k, v) :: r, (c, w) :: s, ⟨h1, ⟨t, h2, h3⟩, h4⟩ => ⟨h1, ⟨t, h2, e _ _ h3⟩, Ents.mono e h4⟩
theorem Ents.len {H : Hp} : ∀ {kvs : List (Key × V)} {ws : List (Nat × List Nat)}, Ents H kvs ws → kvs.length = ws.length
  | [], [], _ => rfl
  | [], _ :: _, h => False.elim h
  | _ :: _, [], h => False.elim h
  | (k, v) :: r, (c, w) :: s, ⟨_, _, h⟩ => congrArg (· + 1) (Ents.len h)
theorem Ents.app {H : Hp} : ∀ {kvs kvs2 : List (Key × V)} {ws ws2 : List (Nat × List Nat)}, Ents H kvs ws → Ents H kvs2 ws2 → Ents H (kvs ++ kvs2) (ws ++ ws2)
  | [], _, [], _, _, h => h
  | [], _, _ :: _, _, h, _ => False.elim h
  | _ :: _, _, [], _, h, _ => False.elim h
  | (k, v) :: r, _, (c, w) :: s, _, ⟨h1, h2, h3⟩, h => ⟨h1, h2, Ents.app h3 h⟩
theorem Ents.keys {H : Hp} : ∀ {kvs : List (Key × V)} {ws : List (Nat × List Nat)}, Ents H kvs ws → (kvs.map fun kv => kV kv.1) = nms (ws.map (·.1))
  | [], [], _ => rfl
  | [], _ :: _, h => False.elim h
  | _ :: _, [], h => False.elim h
  | (k, v) :: r, (c, w) :: s, ⟨h1, _, h⟩ => by
    subst h1
    rw [List.map_cons, Ents.keys h]
    rfl
theorem Ents.none {H : Hp} {c : Nat} : ∀ {kvs : List (Key × V)} {ws : List (Nat × List Nat)}, Ents H kvs ws → c ∉ ws.map (·.1) → valV kvs (Sum.inl (c : Int)) = none
  | [], [], _, _ => rfl
  | [], _ :: _, h, _ => False.elim h
  | _ :: _, [], h, _ => False.elim h
  | (k, v) :: r, (d, w) :: s, ⟨h1, _, h⟩, n => by
    subst h1
    rw [List.map_cons, List.mem_cons, not_or] at n
    rw [valV_neg (fun e => n.1 (by have := Sum.inl.inj e; simp only at this ⊢; omega))]
    exact Ents.none h n.2
theorem Ents.some {H : Hp} {c : Nat} {u : List Nat} : ∀ {kvs : List (Key × V)} {ws : List (Nat × List Nat)}, Ents H kvs ws → (ws.map (·.1)).Nodup → (c, u) ∈ ws → ∃ t, valV kvs (Sum.inl (c : Int)) = some (.ref t) ∧ H t = some (.tup (nms u))
  | [], [], _, _, h => nomatch h
  | [], _ :: _, h, _, _ => False.elim h
  | _ :: _, [], h, _, _ => False.elim h
  | (k, v) :: r, (d, w) :: s, ⟨h1, ⟨t, h2, h3⟩, h⟩, nd, m => by
    subst h1 h2
    rw [List.map_cons, List.nodup_cons] at nd
    rcases List.mem_cons.mp m with e | m
    · cases e
      exact ⟨t, valV_pos rfl, h3⟩
    · have ne : ¬ (c = d) := fun e => nd.1 (List.mem_map.mpr ⟨(c, u), m, e⟩)
      obtain ⟨t2, e2, h2⟩ := Ents.some h nd.2 m
      exact ⟨t2, (valV_neg (fun e => ne (by have := Sum.inl.inj e; omega))).trans e2, h2⟩
abbrev sFw : Stmt := tp 26
def spFw (K : PySem.W.Frag) : Sp := fun vs H Q _ => ∃ (a : Addr) (us : List V) (ps : List (Nat × Nat)) (st : Nat), vs = [.ref a, .int (st : Int)] ∧ SqL K H a us ∧ DpAll K H us (ps.map prd) ∧ (∀ x ∈ ps, x.1 < 6 ∧ x.2 < 6) ∧ st < 6 ∧ ps.length ≤ 1000 ∧
  ∀ (D : Addr) (kvs : List (Key × V)) (ws : List (Nat × List Nat)) (H' : Hp), Same H H' → H D = none → H' D = some (.dK kvs) → Ents H' kvs ws → FW ps st ws → Q (.ref D) H'
theorem mem_take_bs {ps : List (Nat × Nat)} {c b : Nat} : b ∈ (ps.filter fun p => decide (p.1 = c)).map (·.2) ↔ (c, b) ∈ ps := by
  simp only [List.mem_map, List.mem_filter, decide_eq_true_eq]
  constructor
  · rintro ⟨⟨x, y⟩, ⟨h1, h2⟩, h3⟩
    simp only at h2 h3
    subst h2 h3
    exact h1
  · exact fun h => ⟨(c, b), ⟨h, rfl⟩, rfl⟩
/-- a sorted list of such numbers -/
theorem nats_of {ns : List Nat} {ns' : List Int} (h : ns'.Perm (ns.map fun (n : Nat) => (n : Int))) : ∃ ms : List Nat, ns' = ms.map (fun (n : Nat) => (n : Int)) ∧ ms.Perm ns := by
  refine ⟨ns'.map Int.toNat, ?_, ?_⟩
  · rw [List.map_map]
    have : ∀ x ∈ ns', ((fun (n : Nat) => (n : Int)) ∘ Int.toNat) x = x := fun x hx => by
      obtain ⟨n, _, rfl⟩ := List.mem_map.mp (h.mem_iff.mp hx)
      simp
    rw [List.map_congr_left this]
    simp
  · have := h.map Int.toNat
    rw [List.map_map] at this
    have e : (Int.toNat ∘ fun (n : Nat) => (n : Int)) = id := by
      funext n
      simp
    rw [e, List.map_id] at this
    exact this
theorem nms_ints (ns : List Nat) : nms ns = (ns.map fun (n : Nat) => (n : Int)).map V.int := by
  unfold nms
  rw [List.map_map]
  rfl
theorem few6' {ws : List (Nat × List Nat)} (nd : (ws.map (·.1)).Nodup) (h : ∀ e ∈ ws, e.1 < 6) : ws.length ≤ 6 := by
  have := few6 nd fun x hx => by
    obtain ⟨e, he, rfl⟩ := List.mem_map.mp hx
    exact h e he
  rwa [List.length_map] at this
def bsF (ps : List (Nat × Nat)) (c : Nat) : List Nat := (ps.filter fun p => decide (p.1 = c)).map (·.2)
theorem bsF_step {ps : List (Nat × Nat)} {c i x y : Nat} (h : ps[i]? = some (x, y)) : bsF (ps.take (i + 1)) c = bsF (ps.take i) c ++ (if x = c then [y] else []) := by
  unfold bsF
  rw [take1 h, List.filter_append, List.map_append]
  by_cases e : x = c
  · simp [e]
  · simp [e]
theorem bsF_len (ps : List (Nat × Nat)) (c : Nat) : (bsF ps c).length ≤ ps.length := by
  unfold bsF
  rw [List.length_map]
  exact List.length_filter_le _ _
section
variable {P : Program} {w : World} {K : PySem.W.Frag} {mg : Str → Option Value} {base : Heap} {kA : Addr}
abbrev nFw : List Str := ["pairs", "start", "ways", "waiting", "column", "b", "first", "second"]
theorem scFw : FnScope nFw ["pairs", "start"] (defScope sFw) := ⟨rfl, rfl, rfl, by decide +kernel, rfl, by decide +kernel, by decide +kernel⟩
theorem ok_fw {f : Addr} {fd : FuncData} {k : Nat} (F : Fun K "first_ways" "first_ways" sFw f fd) (T : Glb K mg kA) : FnOk P w K mg base CX0 (k + 1) f fd ["pairs", "start"] (spFw K) := by
  refine F.ok scFw (fun vs H Q E h => ?_) (fun cdv A outer s H vs Q E hr h => ?_)
  · obtain ⟨a, us, ps, st, rfl, _⟩ := h
    rfl
  · obtain ⟨a, us, ps, st, rfl, ha, dp, hps, hst, hpl, q⟩ := h
    have n := scFw.nd
    have hu := hu_of hr
    refine ⟨_, pss_cons (ps_set (i := 2) n rfl (.inl rfl) (pe_disp (pps_cons (pv 1) (pe_tup (pa_cons (pv 1) pa_nil)) pps_nil) (by rfl) (by rfl) (fun z => by cases z) (by decide)))
      (pss_cons (ps_set (i := 3) n rfl (.inl rfl) (pe_lst (pa_cons (pv 1) pa_nil)))
      (pss_cons (ps_while PassesOwn.never (pt_truth (pv 3) (by intro _; rfl))
        (pss_cons (ps_set (i := 4) n rfl (.inr rfl) (pe_bm PySem.F.plainAttrs_list PySem.F.slot_list_pop PySem.F.type_list_pop mt_popAt (pv 3) (pa_cons pe_int pa_nil)))
        (pss_one (ps_for PassesOwn.never rfl (pi_list (pe_callB cr_sortedI (by rfl) T.srt (by decide +kernel) (pa_cons (pe_lc (own := [("first", 6), ("second", 7)]) (g := g2 K 6 7) (tt := tTest (tOp rEq (tVar 6) (tVar 4))) rfl n (pi_list (pv 0)) (blkOk_by (N := nFw) (sc := defScope sFw) (by decide +kernel))
            (fun _ _ _ _ _ => pg_tup rfl (pgs_cons (pg_name (i := 6) n rfl (.inl rfl)) (pgs_cons (pg_name (i := 7) n rfl (.inl rfl)) pgs_nil)))
            (fun _ _ _ _ _ => pts_one (pt_cmpR op_eq (pv 6) (pv 4) (nomark _))) (fun _ _ _ _ _ => pv 7)) pa_nil))) (pg_name (i := 5) n rfl (.inl rfl))
          (pss_one (ps_if (pt_cmp (pc_dnotin hu (pv 5) (pv 2)))
            (pss_cons (ps_dput hu (pv 2) (pv 5) (pe_tup (StX.pa_star (pe_dget hu (pv 2) (pv 4) (fun _ _ => rfl)) (pa_cons (pv 5) pa_nil))) rfl)
            (pss_one (ps_expr (pe_bm PySem.F.plainAttrs_list PySem.F.slot_list_append PySem.F.type_list_append mt_append (pv 3) (pa_cons (pv 5) pa_nil))))) pss_nil))))))
      (pss_one (ps_ret (pv 2))))), ?_⟩
    have ul : us.length = ps.length := by rw [dps_len dp, List.length_map]
    have un : ∀ {t : Addr} {xs ys : List V} {H1 : Hp} {b : Addr}, H1 t = some (.tup xs) → H1 b = some (.lst ys) → t ≠ b := fun h1 h2 => ne_of h1 h2 (by intro z; cases z)
    have ud : ∀ {t : Addr} {xs : List V} {kvs : List (Key × V)} {H1 : Hp} {b : Addr}, H1 t = some (.tup xs) → H1 b = some (.dK kvs) → t ≠ b := fun h1 h2 => ne_of h1 h2 (by intro z; cases z)
    -- ways = {start: (start,)}
    intro D nD
    refine ⟨_, rfl, _, rfl, (by show 1 ≤ sizeLine; decide), fun t0 nt0 => ?_⟩
    have t0D : t0 ≠ D := fun e => by rw [e, upd_same] at nt0; cases nt0
    refine ⟨by rw [upd_ne t0D.symm]; exact upd_same, [(Sum.inl (st : Int), .ref t0)], rfl, (by show 1 ≤ 15; decide), ?_⟩
    have hD0 : (upd (upd (upd H D (.dK [])) t0 (.tup [.int (st : Int)])) D (.dK (mergeK [] [(Sum.inl (st : Int), .ref t0)]))) D = some (.dK [(Sum.inl (st : Int), .ref t0)]) := upd_same
    have ht0 : (upd (upd (upd H D (.dK [])) t0 (.tup [.int (st : Int)])) D (.dK (mergeK [] [(Sum.inl (st : Int), .ref t0)]))) t0 = some (.tup (nms [st])) := by
      rw [upd_ne t0D, upd_same]
      rfl
    have s0 : Same H (upd (upd (upd H D (.dK [])) t0 (.tup [.int (st : Int)])) D (.dK (mergeK [] [(Sum.inl (st : Int), .ref t0)]))) := same_mut ((same_new nD).trans (same_new nt0)) nD
    generalize upd (upd (upd H D (.dK [])) t0 (.tup [.int (st : Int)])) D (.dK (mergeK [] [(Sum.inl (st : Int), .ref t0)])) = H0 at hD0 ht0 s0
    refine ⟨_, rfl, (by show 1 ≤ sizeLine; decide), fun wt nwt => ?_⟩
    have wD : wt ≠ D := (ne_of_none hD0 nwt).symm
    have nwt0 : H wt = none := s0.free nwt
    -- the while
    refine ⟨fun m σ H1 => ∃ (kvs : List (Key × V)) (ws : List (Nat × List Nat)) (j : Nat) (y4 y5 y6 y7 : Option V), σ = [some (.ref a), some (.int (st : Int)), some (.ref D), some (.ref wt), y4, y5, y6, y7] ∧ Same H H1 ∧ H1 D = some (.dK kvs) ∧ Ents H1 kvs ws ∧ H1 wt = some (.lst (nms ((ws.drop j).map (·.1)))) ∧ BI ps st ws j ∧ m = 6 - j,
      ⟨_, [(Sum.inl (st : Int), .ref t0)], [(st, [st])], 0, none, none, none, none, rfl, s0.trans (same_new nwt), same_new nwt _ _ hD0, ⟨rfl, ⟨t0, rfl, same_new nwt _ _ ht0⟩, trivial⟩, upd_same, BI.start hst, rfl⟩, ?_⟩
    rintro m σ H1 ⟨kvs, ws, j, y4, y5, y6, y7, rfl, s1, hD, en, hw, inv, rfl⟩
    refine ⟨_, rfl, _, .inl ⟨_, SqL.of hw, rfl⟩, ?_⟩
    by_cases jl : j < ws.length
    · obtain ⟨⟨c, cw⟩, hc⟩ : ∃ e, ws[j]? = some e := ⟨_, List.getElem?_eq_getElem jl⟩
      have dr : ws.drop j = (c, cw) :: ws.drop (j + 1) := by
        rw [List.drop_eq_getElem_cons jl]
        congr 1
        exact (List.getElem?_eq_some_iff.mp hc).2
      have w6 := few6' inv.nd inv.lt
      have ne : (!(nms ((ws.drop j).map (·.1))).isEmpty) = true := by
        rw [dr]
        rfl
      rw [ne]
      refine iteT ⟨fun σ' H' => ∃ (kvs : List (Key × V)) (ws' : List (Nat × List Nat)) (y4 y5 y6 y7 : Option V), σ' = [some (.ref a), some (.int (st : Int)), some (.ref D), some (.ref wt), y4, y5, y6, y7] ∧ Same H H' ∧ H' D = some (.dK kvs) ∧ Ents H' kvs ws' ∧ H' wt = some (.lst (nms ((ws'.drop (j + 1)).map (·.1)))) ∧ BI ps st ws' (j + 1), ?_, ?_⟩
      · rintro σ' H' ⟨kvs, ws', y4, y5, y6, y7, rfl, g1, g2, g3, g4, g5⟩
        exact ⟨6 - (j + 1), by omega, kvs, ws', j + 1, y4, y5, y6, y7, rfl, g1, g2, g3, g4, g5, rfl⟩
      -- column = waiting.pop(0)
      refine ⟨_, rfl, .inl ⟨rfl, _, SqL.of hw⟩, wt, _, 0, 0, .int (c : Int), rfl, rfl, hw, by decide, by decide, ?_, ?_, ?_⟩
      · rw [dr]
        simp [seqIndex?, nms]
      · rw [dr]
        rfl
      have e1 : (nms ((ws.drop j).map (·.1))).eraseIdx 0 = nms ((ws.drop (j + 1)).map (·.1)) := by
        rw [dr]
        rfl
      rw [e1]
      have s2 : Same H (upd H1 wt (.lst (nms ((ws.drop (j + 1)).map (·.1))))) := same_mut s1 nwt0
      have h2D : (upd H1 wt (.lst (nms ((ws.drop (j + 1)).map (·.1))))) D = some (.dK kvs) := by rw [upd_ne wD.symm]; exact hD
      have h2w : (upd H1 wt (.lst (nms ((ws.drop (j + 1)).map (·.1))))) wt = some (.lst (nms ((ws.drop (j + 1)).map (·.1)))) := upd_same
      have en2 : Ents (upd H1 wt (.lst (nms ((ws.drop (j + 1)).map (·.1))))) kvs ws := en.mono fun t xs h => by rw [upd_ne (un h hw)]; exact h
      generalize upd H1 wt (.lst (nms ((ws.drop (j + 1)).map (·.1)))) = H2 at s2 h2D h2w en2
      -- the columns behind it
      refine ⟨_, rfl, a, rfl, ⟨_, same_l s2 ha⟩, fun L nL => ?_⟩
      refine lc_list (xs := us) (fun i H3 => Same H2 (wo H3 L) ∧ H3 L = some (.lst (nms (bsF (ps.take i) c)))) ⟨?_, upd_same⟩ (fun i H3 _ z => same_l (s2.trans (z.1.trans (wo_le L))) ha) ?_ ?_
      · rw [wo_upd]
        exact fun b o e => by rw [wo_ne (ne_of_none e nL)]; exact e
      · rintro i v H3 hv ⟨q1, q2⟩
        obtain ⟨⟨x, y⟩, hxy, dv⟩ := dps_pat dp hv
        have il : i < ps.length := (List.getElem?_eq_some_iff.mp hxy).1
        obtain ⟨t, rfl, ht⟩ := dp_p (dp_same (s2.trans (q1.trans (wo_le L))) _ _ dv)
        refine ⟨t, _, rfl, ht, rfl, _, _, rfl, _, _, rfl, rfl, rfl, ?_⟩
        refine ⟨_, rfl, _, rfl, rfl, _, rfl, ?_⟩
        rw [bsF_step hxy]
        by_cases e : x = c
        · subst e
          rw [show decide (V.int (x : Int) = V.int (x : Int)) = true from decide_eq_true rfl, if_pos (show x = x from rfl)]
          have bl := bsF_len (ps.take i) x
          rw [List.length_take] at bl
          have big : (nms (bsF (ps.take i) x)).length < sizeLine := Nat.lt_of_lt_of_le (show (nms (bsF (ps.take i) x)).length < 100000 by rw [nms_len]; omega) (by decide)
          refine iteT ?_
          refine ⟨_, rfl, _, q2, big, ?_, ?_⟩
          · rw [wo_upd]
            exact q1
          · rw [upd_same, nms_app]
            rfl
        · rw [show decide (V.int (x : Int) = V.int (c : Int)) = false from decide_eq_false (fun z => e (by injection z with z; omega)), if_neg e, List.append_nil]
          exact iteF ⟨q1, q2⟩
      rintro H3 ⟨q1, q2⟩
      rw [ul, List.take_length] at q2
      have s23 : Same H2 H3 := q1.trans (wo_le L)
      rw [nms_ints] at q2
      refine ⟨L, _, rfl, SqL.of q2, fun ns' p2 pm st2 n2 => ?_⟩
      obtain ⟨bs, rfl, pm2⟩ := nats_of pm
      rw [← nms_ints]
      have bsl : bs.Pairwise (· ≤ ·) := by
        rw [List.pairwise_map] at st2
        exact st2.imp fun h => by omega
      have hbs : ∀ b, b ∈ bs ↔ (c, b) ∈ ps := fun b => by
        rw [pm2.mem_iff]
        exact mem_take_bs
      have s24 : Same H2 (upd H3 p2 (.lst (nms bs))) := s23.trans (same_new n2)
      have h4p : (upd H3 p2 (.lst (nms bs))) p2 = some (.lst (nms bs)) := upd_same
      have n2' : H2 p2 = none := s23.free n2
      generalize upd H3 p2 (.lst (nms bs)) = H4 at s24 h4p
      have pD : p2 ≠ D := (ne_of_none h2D n2').symm
      have pw : p2 ≠ wt := (ne_of_none h2w n2').symm
      refine ⟨p2, rfl, ⟨_, SqL.of h4p⟩, ?_⟩
      have cm : (c, cw) ∈ ws := List.mem_of_getElem? hc
      refine for_list (xs := nms bs) (fun i σ' H' => ∃ (kvs : List (Key × V)) (nb : List Nat) (y5 y6 y7 : Option V), σ' = [some (.ref a), some (.int (st : Int)), some (.ref D), some (.ref wt), some (.int (c : Int)), y5, y6, y7] ∧ Same H H' ∧ H' p2 = some (.lst (nms bs)) ∧ H' D = some (.dK kvs) ∧ Ents H' kvs (ws ++ nws cw nb) ∧ H' wt = some (.lst (nms (((ws ++ nws cw nb).drop (j + 1)).map (·.1)))) ∧ TI ps ws c cw bs i nb)
        ⟨kvs, [], y5, y6, y7, rfl, s2.trans s24, h4p, s24 _ _ h2D, by rw [show nws cw [] = [] from rfl, List.append_nil]; exact en2.mono fun t xs h => s24 _ _ h, by rw [show nws cw [] = [] from rfl, List.append_nil]; exact s24 _ _ h2w, TI.start⟩
        (fun i σ' H' _ ⟨_, _, _, _, _, _, _, z, _⟩ => SqL.of z) ?_ ?_
      · rintro i v σ' H5 hv ⟨kvs, nb, y5, y6, y7, rfl, s5, g0, g1, g2, g3, ti⟩
        obtain ⟨b, hb, rfl⟩ : ∃ b, bs[i]? = some b ∧ v = .int (b : Int) := by
          rw [nms, List.getElem?_map] at hv
          cases z : bs[i]? with
          | none => rw [z] at hv; cases hv
          | some m => rw [z] at hv; exact ⟨m, rfl, (Option.some.inj hv).symm⟩
        have hbp : (c, b) ∈ ps := (hbs b).mp (List.mem_of_getElem? hb)
        have nbs : ∀ x ∈ nb, x < 6 := fun x hx => (hps _ ((hbs x).mp (List.mem_of_mem_take (ti.sub x hx)))).2
        have ndk : ((ws ++ nws cw nb).map (·.1)).Nodup := by
          rw [List.map_append, nws_keys]
          refine List.nodup_append.mpr ⟨inv.nd, ti.inc.imp (fun h => by omega), fun x hx y hy e => ?_⟩
          subst e
          exact ti.new x hy hx
        have lt6 : ∀ e ∈ ws ++ nws cw nb, e.1 < 6 := fun e he => by
          rcases List.mem_append.mp he with z | z
          · exact inv.lt e z
          · exact nbs _ (nws_mem.mp z).1
        have few := few6' ndk lt6
        have kl := g2.len
        refine ⟨_, rfl, _, rfl, D, _, rfl, DGet.k (k := Sum.inl (b : Int)) g1, _, rfl, ?_⟩
        by_cases hm : b ∈ (ws ++ nws cw nb).map (·.1)
        · obtain ⟨⟨b', u⟩, hu2, rfl⟩ := List.mem_map.mp hm
          obtain ⟨t, e3, _⟩ := g2.some ndk hu2
          rw [e3]
          exact iteF ⟨kvs, nb, _, _, _, rfl, s5, g0, g1, g2, g3, ti.old hb hm⟩
        · rw [g2.none hm]
          refine iteT ?_
          obtain ⟨t, e3, h3⟩ := g2.some ndk (List.mem_append_left _ cm)
          have gc := DGet.k (k := Sum.inl (c : Int)) g1
          rw [e3] at gc
          refine ⟨_, rfl, _, rfl, D, _, rfl, gc, t, _, rfl, .inl (SqT.of h3), _, rfl, ?_, fun t5 nt5 => ?_⟩
          · have := inv.len j _ hc
            exact Nat.le_of_lt (small1000 (by rw [List.length_append, nms_len]; simp only [List.length_singleton] at this ⊢; omega))
          have t5D : t5 ≠ D := (ne_of_none g1 nt5).symm
          have t5w : t5 ≠ wt := (ne_of_none g3 nt5).symm
          have t5p : t5 ≠ p2 := (ne_of_none g0 nt5).symm
          have nt5' : H t5 = none := s5.free nt5
          refine ⟨_, rfl, _, rfl, D, _, rfl, DPut.k (k := Sum.inl (b : Int)) (by rw [upd_ne t5D.symm]; exact g1) (small1000 (by omega)), ?_⟩
          rw [putK_new _ (g2.none hm)]
          have g3' : (upd (upd H5 t5 (.tup (nms cw ++ [.int (b : Int)]))) D (.dK (kvs ++ [(Sum.inl (b : Int), .ref t5)]))) wt = some (.lst (nms (((ws ++ nws cw nb).drop (j + 1)).map (·.1)))) := by
            rw [upd_ne wD, upd_ne t5w.symm]
            exact g3
          refine ⟨_, rfl, .inl ⟨rfl, _, SqL.of g3'⟩, _, rfl, wt, _, _, rfl, rfl, g3', small1000 (by rw [nms_len, List.length_map, List.length_drop]; omega), ?_⟩
          have eq1 : ws ++ nws cw (nb ++ [b]) = (ws ++ nws cw nb) ++ [(b, cw ++ [b])] := by
            unfold nws
            rw [List.map_append, List.append_assoc]
            rfl
          refine ⟨kvs ++ [(Sum.inl (b : Int), .ref t5)], nb ++ [b], _, _, _, rfl, same_mut (same_mut (s5.trans (same_new nt5)) nD) nwt0, ?_, ?_, ?_, ?_, ti.add bsl hb hm⟩
          · rw [upd_ne pw, upd_ne pD, upd_ne t5p.symm]
            exact g0
          · rw [upd_ne wD.symm]
            exact upd_same
          · rw [eq1]
            refine Ents.app (g2.mono fun t xs h => ?_) ⟨rfl, ⟨t5, rfl, ?_⟩, trivial⟩
            · rw [upd_ne (un h g3), upd_ne (ud h g1), upd_ne (ne_of_none h nt5)]
              exact h
            · rw [upd_ne t5w, upd_ne t5D, upd_same, nms_app]
              rfl
          · have eq2 : (ws ++ nws cw (nb ++ [b])).drop (j + 1) = (ws ++ nws cw nb).drop (j + 1) ++ [(b, cw ++ [b])] := by
              rw [eq1]
              exact List.drop_append_of_le_length (by rw [List.length_append]; omega)
            rw [upd_same, eq2, List.map_append, nms_app]
            rfl
      · rintro σ' H5 ⟨kvs, nb, y5, y6, y7, rfl, s5, g0, g1, g2, g3, ti⟩
        rw [nms_len] at ti
        exact ⟨kvs, _, _, _, _, _, rfl, s5, g1, g2, g3, inv.turn hc hbs hps ti⟩
    · have e1 : (!(nms ((ws.drop j).map (·.1))).isEmpty) = false := by
        rw [List.drop_eq_nil_of_le (by omega)]
        rfl
      rw [e1]
      refine iteF ⟨_, rfl, q D kvs ws H1 s1 nD hD en (inv.out (by omega))⟩
end
end CC
namespace CC
open PySem L2
abbrev sReached : Stmt := tp 27
theorem wk_of {ps : List (Nat × Nat)} {a b : Nat} (h : Rch ps a b) : ∃ w, Wk ps a b w := by
  induction h with
  | refl => exact ⟨_, .one⟩
  | step _ h ih =>
    obtain ⟨w, hw⟩ := ih
    exact ⟨_, hw.step h⟩
theorem rch_of {ps : List (Nat × Nat)} {a b : Nat} {w : List Nat} (h : Wk ps a b w) : Rch ps a b := by
  induction h with
  | one => exact .refl
  | step _ h ih => exact ih.step h
theorem FW.keys {ps : List (Nat × Nat)} {st : Nat} {ws : List (Nat × List Nat)} (h : FW ps st ws) (c : Nat) : c ∈ ws.map (·.1) ↔ Rch ps st c := by
  constructor
  · intro z
    obtain ⟨e, he, rfl⟩ := List.mem_map.mp z
    exact rch_of (h.wk e he)
  · intro z
    obtain ⟨w, hw⟩ := wk_of z
    obtain ⟨v, hv, _⟩ := h.fst c w hw
    exact List.mem_map.mpr ⟨_, hv, rfl⟩
def spReached (K : PySem.W.Frag) : Sp := fun vs H Q _ => ∃ (a : Addr) (us : List V) (ps : List (Nat × Nat)) (st : Nat), vs = [.ref a, .int (st : Int)] ∧ SqL K H a us ∧ DpAll K H us (ps.map prd) ∧ (∀ x ∈ ps, x.1 < 6 ∧ x.2 < 6) ∧ st < 6 ∧ ps.length ≤ 1000 ∧
  ∀ (p : Addr) (fs : List Nat) (H' : Hp), Same H H' → H p = none → H' p = some (.lst (nms fs)) → (∀ c, c ∈ fs ↔ Rch ps st c) → fs.Pairwise (· < ·) → Q (.ref p) H'
section
variable {P : Program} {w : World} {K : PySem.W.Frag} {mg : Str → Option Value} {base : Heap} {kA : Addr}
theorem scReached : FnScope ["pairs", "start"] ["pairs", "start"] (defScope sReached) := ⟨rfl, rfl, rfl, by decide +kernel, rfl, by decide +kernel, by decide +kernel⟩
theorem ok_reached {f : Addr} {fd : FuncData} {k : Nat} (F : Fun K "reached" "reached" sReached f fd) (T : Glb K mg kA) (cF : Cal P w K mg base "first_ways" ["pairs", "start"] (spFw K) 1) : FnOk P w K mg base CX0 (k + 2) f fd ["pairs", "start"] (spReached K) := by
  have GF := cF.ok (k + 1) (by omega)
  refine F.ok scReached (fun vs H Q E h => ?_) (fun cdv A outer s H vs Q E hr h => ?_)
  · obtain ⟨a, us, ps, st, rfl, _⟩ := h
    rfl
  · obtain ⟨a, us, ps, st, rfl, ha, dp, hps, hst, hpl, q⟩ := h
    refine ⟨_, pss_one (ps_ret (pe_callB cr_sortedI (by rfl) T.srt (by decide +kernel) (pa_cons (pe_callTy (call_listD rfl) (by rfl) T.lst (by decide +kernel) (pa_cons (pe_call GF hr rfl cF.g cF.kp cF.b .nil pass0 (pa_cons (pv 0) (pa_cons (pv 1) pa_nil))) pa_nil)) pa_nil))), ?_⟩
    refine ⟨_, rfl, _, rfl, a, us, ps, st, rfl, ha, dp, hps, hst, hpl, fun D kvs ws H1 s1 nD hD en fw => ?_⟩
    refine ⟨D, kvs, rfl, .inl hD, fun p np => ?_⟩
    rw [en.keys, nms_ints]
    have s2 : Same H1 (upd H1 p (.lst (((ws.map (·.1)).map fun (n : Nat) => (n : Int)).map V.int))) := same_new np
    have h2 : (upd H1 p (.lst (((ws.map (·.1)).map fun (n : Nat) => (n : Int)).map V.int))) p = some (.lst (((ws.map (·.1)).map fun (n : Nat) => (n : Int)).map V.int)) := upd_same
    generalize upd H1 p (.lst (((ws.map (·.1)).map fun (n : Nat) => (n : Int)).map V.int)) = H2 at s2 h2
    refine ⟨p, _, rfl, SqL.of h2, fun ns' p2 pm st2 n2 => ?_⟩
    obtain ⟨ms, rfl, pm2⟩ := nats_of pm
    rw [← nms_ints]
    refine q p2 ms _ ((s1.trans s2).trans (same_new n2)) ((s1.trans s2).free n2) upd_same (fun c => ?_) ?_
    · rw [pm2.mem_iff]
      exact fw.keys c
    · have nd : ms.Nodup := pm2.nodup_iff.mpr fw.nd
      have le : ms.Pairwise (· ≤ ·) := by
        rw [List.pairwise_map] at st2
        exact st2.imp fun h => by omega
      exact (le.and nd).imp fun h => by omega
end
end CC
/-! ### groups of columns, by a table of what is reached -/
namespace CC
open PySem L2
def grpM (M : Nat → Nat → Bool) (w a : Nat) : List Nat := (List.range w).filter fun b => M a b && M b a
def clsM (M : Nat → Nat → Bool) (w : Nat) : List (List Nat) := ((List.range w).filter fun a => (grpM M w a).head? == some a).map (grpM M w)
section
variable {M N : Nat → Nat → Bool} {w a b : Nat}
theorem grp_congr (h : ∀ x y, x < w → y < w → M x y = N x y) (ha : a < w) : grpM M w a = grpM N w a := by
  unfold grpM
  refine List.filter_congr fun b hb => ?_
  have hb := List.mem_range.mp hb
  rw [h a b ha hb, h b a hb ha]
theorem cls_congr (h : ∀ x y, x < w → y < w → M x y = N x y) : clsM M w = clsM N w := by
  unfold clsM
  have e : ((List.range w).filter fun a => (grpM M w a).head? == some a) = ((List.range w).filter fun a => (grpM N w a).head? == some a) := by
    refine List.filter_congr fun b hb => ?_
    rw [grp_congr h (List.mem_range.mp hb)]
  rw [e]
  refine List.map_congr_left fun b hb => ?_
  exact grp_congr h (List.mem_range.mp (List.mem_filter.mp hb).1)
theorem grp_mem : b ∈ grpM M w a ↔ b < w ∧ M a b = true ∧ M b a = true := by
  unfold grpM
  rw [List.mem_filter, List.mem_range, Bool.and_eq_true]
theorem grp_inc : (grpM M w a).Pairwise (· < ·) := List.Pairwise.filter _ List.pairwise_lt_range
theorem grp_lt {x : Nat} (h : x ∈ grpM M w a) : x < w := (grp_mem.mp h).1
theorem grp_len : (grpM M w a).length ≤ w := by
  unfold grpM
  have := List.length_filter_le (fun b => M a b && M b a) (List.range w)
  rwa [List.length_range] at this
theorem inc_eq : ∀ {l m : List Nat}, l.Pairwise (· < ·) → m.Pairwise (· < ·) → (∀ x, x ∈ l ↔ x ∈ m) → l = m
  | [], [], _, _, _ => rfl
  | [], y :: m, _, _, h => absurd ((h y).mpr List.mem_cons_self) (by simp)
  | x :: l, [], _, _, h => absurd ((h x).mp List.mem_cons_self) (by simp)
  | x :: l, y :: m, hl, hm, h => by
    rw [List.pairwise_cons] at hl hm
    have e : x = y := by
      rcases List.mem_cons.mp ((h x).mp List.mem_cons_self) with z | z
      · exact z
      · rcases List.mem_cons.mp ((h y).mpr List.mem_cons_self) with q | q
        · exact q.symm
        · have := hm.1 x z
          have := hl.1 y q
          omega
    subst e
    rw [inc_eq hl.2 hm.2 fun z => ?_]
    constructor
    · intro hz
      rcases List.mem_cons.mp ((h z).mp (List.mem_cons_of_mem _ hz)) with q | q
      · have := hl.1 z hz
        omega
      · exact q
    · intro hz
      rcases List.mem_cons.mp ((h z).mpr (List.mem_cons_of_mem _ hz)) with q | q
      · have := hm.1 z hz
        omega
      · exact q
/-- what is told of M for a law: it leads from each column to itself, and on -/
structure Eqr (M : Nat → Nat → Bool) (w : Nat) : Prop where
  refl : ∀ x, x < w → M x x = true
  trans : ∀ x y z, x < w → y < w → z < w → M x y = true → M y z = true → M x z = true
theorem Eqr.self (h : Eqr M w) (ha : a < w) : a ∈ grpM M w a := grp_mem.mpr ⟨ha, h.refl a ha, h.refl a ha⟩
theorem Eqr.same (h : Eqr M w) (ha : a < w) (hb : b ∈ grpM M w a) : grpM M w b = grpM M w a := by
  obtain ⟨b1, b2, b3⟩ := grp_mem.mp hb
  refine inc_eq grp_inc grp_inc fun x => ?_
  rw [grp_mem, grp_mem]
  constructor
  · rintro ⟨x1, x2, x3⟩
    exact ⟨x1, h.trans _ _ _ ha b1 x1 b2 x2, h.trans _ _ _ x1 b1 ha x3 b3⟩
  · rintro ⟨x1, x2, x3⟩
    exact ⟨x1, h.trans _ _ _ b1 ha x1 b3 x2, h.trans _ _ _ x1 ha b1 x3 b2⟩
theorem Eqr.head (h : Eqr M w) (ha : a < w) : ∃ c, (grpM M w a).head? = some c ∧ c ≤ a ∧ c ∈ grpM M w a := by
  cases e : grpM M w a with
  | nil =>
    have := h.self ha
    rw [e] at this
    cases this
  | cons c r =>
    refine ⟨c, rfl, ?_, List.mem_cons_self⟩
    have m := h.self ha
    have i := grp_inc (M := M) (w := w) (a := a)
    rw [e] at m i
    rcases List.mem_cons.mp m with z | z
    · omega
    · have := (List.pairwise_cons.mp i).1 a z
      omega
/-- the groups of the columns below i, each once -/
def clsTo (M : Nat → Nat → Bool) (w i : Nat) : List (List Nat) := ((List.range i).filter fun a => (grpM M w a).head? == some a).map (grpM M w)
theorem clsTo_step (i : Nat) : clsTo M w (i + 1) = clsTo M w i ++ (if ((grpM M w i).head? == some i) = true then [grpM M w i] else []) := by
  unfold clsTo
  rw [List.range_succ, List.filter_append, List.map_append]
  by_cases e : ((grpM M w i).head? == some i) = true
  · rw [if_pos e, List.filter_cons_of_pos (p := fun a => (grpM M w a).head? == some a) e]
    rfl
  · rw [if_neg e, List.filter_cons_of_neg (p := fun a => (grpM M w a).head? == some a) e]
    rfl
theorem Eqr.seen (h : Eqr M w) {i : Nat} (hi : i < w) : grpM M w i ∈ clsTo M w i ↔ ¬ ((grpM M w i).head? == some i) = true := by
  obtain ⟨c, c1, c2, c3⟩ := h.head hi
  rw [c1]
  constructor
  · intro m e
    have e : c = i := by simpa using e
    subst e
    unfold clsTo at m
    obtain ⟨x, hx, ex⟩ := List.mem_map.mp m
    have hx1 := List.mem_range.mp (List.mem_filter.mp hx).1
    have mx : x ∈ grpM M w c := by
      rw [← ex]
      exact h.self (by omega)
    cases q : grpM M w c with
    | nil => rw [q] at c3; cases c3
    | cons y r =>
      rw [q] at c1 mx
      have ey : y = c := by simpa using c1
      have i2 := grp_inc (M := M) (w := w) (a := c)
      rw [q] at i2
      rcases List.mem_cons.mp mx with z | z
      · omega
      · have := (List.pairwise_cons.mp i2).1 x z
        omega
  · intro e
    have ne : ¬ c = i := fun z => e (by rw [z]; simp)
    have cw : c < w := grp_lt c3
    have es := h.same hi c3
    unfold clsTo
    refine List.mem_map.mpr ⟨c, List.mem_filter.mpr ⟨List.mem_range.mpr (by omega), ?_⟩, es⟩
    rw [es, c1]
    simp
theorem clsTo_heads (i : Nat) : (clsTo M w i).Pairwise fun x y => ∃ a b, x.head? = some a ∧ y.head? = some b ∧ a < b := by
  unfold clsTo
  rw [List.pairwise_map]
  have p : ((List.range i).filter fun a => (grpM M w a).head? == some a).Pairwise (· < ·) := List.Pairwise.filter _ List.pairwise_lt_range
  refine (List.pairwise_iff_forall_sublist.mpr fun {x y} hs => ?_)
  have hx : x ∈ (List.range i).filter fun a => (grpM M w a).head? == some a := hs.subset (by simp)
  have hy : y ∈ (List.range i).filter fun a => (grpM M w a).head? == some a := hs.subset (by simp)
  have lt := List.pairwise_iff_forall_sublist.mp p hs
  exact ⟨x, y, by simpa using (List.mem_filter.mp hx).2, by simpa using (List.mem_filter.mp hy).2, lt⟩
theorem clsTo_len (i : Nat) : (clsTo M w i).length ≤ i := by
  unfold clsTo
  rw [List.length_map]
  have := List.length_filter_le (fun a => (grpM M w a).head? == some a) (List.range i)
  rwa [List.length_range] at this
end
end CC
namespace CC
open PySem L2
theorem lc_enum {K : PySem.W.Frag} {a : Addr} {xs : List V} {g : TG} {tt : TT} {te : TE} {vs : List Nat} {σ : L2.St} {H1 : Hp} {D : Addr} {N : Hp → Prop} (Pv : Nat → Hp → Prop) (h0 : Pv 0 (upd H1 D (.lst []))) (hl : ∀ i H, i ≤ xs.length → Pv i H → SqL K H a xs)
    (hs : ∀ i x t H, xs[i]? = some x → Pv i H → H t = none → g (.ref t) (wipe σ vs) (upd H t (.tup [.int (i : Nat), x])) fun τ H2 => wipe τ vs = wipe σ vs ∧ tt τ H2 fun b H3 => if b = true then te τ H3 fun y H4 => ∃ acc, H4 D = some (.lst acc) ∧ acc.length < sizeLine ∧ Pv (i + 1) (upd H4 D (.lst (acc ++ [y]))) else Pv (i + 1) H3)
    (hd : ∀ H, Pv xs.length H → N H) :
    ∃ W : Nat → Nat → Hp → Prop, (∃ m, W 0 m (upd H1 D (.lst []))) ∧ ∀ i m H, W i m H → ((Ite K a).stop i H ∧ N H) ∨ ((Ite K a).go i H ∧ ∃ Nx : Hp → Prop, (∀ H', Nx H' → ∃ m', m' < m ∧ W (i + 1) m' H') ∧ ∀ x H', (Ite K a).yld i H x H' →
      g x (wipe σ vs) H' fun τ H2 => wipe τ vs = wipe σ vs ∧ tt τ H2 fun b H3 => if b = true then te τ H3 fun y H4 => ∃ acc, H4 D = some (.lst acc) ∧ acc.length < sizeLine ∧ Nx (upd H4 D (.lst (acc ++ [y]))) else Nx H3) := by
  refine ⟨fun i m H => m = xs.length - i ∧ i ≤ xs.length ∧ Pv i H, ⟨xs.length, by simp, Nat.zero_le _, h0⟩, ?_⟩
  rintro i m H ⟨rfl, hi, p⟩
  have q := hl i H hi p
  by_cases lt : i < xs.length
  · refine .inr ⟨⟨xs, xs[i], q, by simp [lt]⟩, Pv (i + 1), fun H' p' => ⟨xs.length - (i + 1), by omega, rfl, lt, p'⟩, fun x H' y => ?_⟩
    obtain ⟨t, v, rfl, nt, rfl, hv⟩ := y
    exact hs i v t H (hv xs q) p nt
  · have e : i = xs.length := by omega
    subst e
    exact .inl ⟨⟨xs, q, Nat.le_refl _⟩, hd H p⟩
end CC
namespace CC
open PySem L2
/-! ### what follows -/
inductive RT (S : Nat → Nat → Prop) (a : Nat) : Nat → Prop
  | refl : RT S a a
  | step {b c : Nat} : RT S a b → S b c → RT S a c
theorem rch_rt {ps : List (Nat × Nat)} {S : Nat → Nat → Prop} (h : ∀ x y, (x, y) ∈ ps ↔ S x y) {a b : Nat} : Rch ps a b ↔ RT S a b := by
  constructor
  · intro r
    induction r with
    | refl => exact .refl
    | step _ q ih => exact ih.step ((h _ _).mp q)
  · intro r
    induction r with
    | refl => exact .refl
    | step _ q ih => exact ih.step ((h _ _).mpr q)
theorem RT.trans {S : Nat → Nat → Prop} {a b c : Nat} (h1 : RT S a b) (h2 : RT S b c) : RT S a c := by
  induction h2 with
  | refl => exact h1
  | step _ h ih => exact ih.step h
/-- a given rule, or one that can be turned round -/
def Lk (rs : List R) (k : Bool) (x y : Nat) : Prop := (⟨k, x, y⟩ : R) ∈ rs ∨ ((⟨k, y, x⟩ : R) ∈ rs ∧ Rch (rs.map down) x y ∧ Rch (rs.map down) y x)
def Fol (rs : List R) (r : R) : Prop := RT (Lk rs r.k) r.a r.b
def lsd (fs : List Nat) : PyData := .list (fs.map fun (n : Nat) => PyData.int (n : Int))
theorem lsd_at {K : PySem.W.Frag} {H : Hp} {v : V} {fs : List Nat} (h : Dp K H v (lsd fs)) : ∃ p, v = .ref p ∧ SqL K H p (nms fs) := by
  obtain ⟨p, us, rfl, h1, h2⟩ := dp_l h
  rw [nms_dps h2] at h1
  exact ⟨p, rfl, h1⟩
abbrev sLinks : Stmt := tp 29
abbrev sFollows : Stmt := tp 30
abbrev sCall : Stmt := inClass (tp 40) 7
def spLinks (K : PySem.W.Frag) : Sp := fun vs H Q _ => ∃ (w : Nat) (g : Addr) (us : List V) (rs : List R) (k : Bool), vs = [.int (w : Int), .ref g, .str (kd k)] ∧ SqT K H g us ∧ DpAll K H us (rs.map R.d) ∧ (∀ r ∈ rs, r.ok w) ∧ w ≤ 6 ∧ rs.length ≤ 60 ∧
  ∀ (p : Addr) (us' : List V) (ps : List (Nat × Nat)) (H' : Hp), Same H H' → H p = none → H' p = some (.lst us') → DpAll K (wo H' p) us' (ps.map prd) → (∀ x y, (x, y) ∈ ps ↔ Lk rs k x y) → ps.length ≤ 120 → Q (.ref p) H'
theorem kd_ne (j k : Bool) : decide (V.str (kd j) = V.str (kd k)) = decide (j = k) := by
  cases j <;> cases k <;> decide +kernel
def pk (rs : List R) (k : Bool) : List (Nat × Nat) := (rs.filter fun r => decide (r.k = k)).map fun r => (r.a, r.b)
theorem pk_mem {rs : List R} {k : Bool} {x y : Nat} : (x, y) ∈ pk rs k ↔ (⟨k, x, y⟩ : R) ∈ rs := by
  simp only [pk, List.mem_map, List.mem_filter, decide_eq_true_eq, Prod.mk.injEq]
  constructor
  · rintro ⟨r, ⟨h1, rfl⟩, rfl, rfl⟩
    exact h1
  · intro h
    exact ⟨_, ⟨h, rfl⟩, rfl, rfl⟩
theorem pk_step {rs : List R} {k : Bool} {i : Nat} {r : R} (h : rs[i]? = some r) : pk (rs.take (i + 1)) k = pk (rs.take i) k ++ (if r.k = k then [(r.a, r.b)] else []) := by
  rw [SG.take_one h, pk, List.filter_append, List.map_append]
  by_cases e : r.k = k
  · simp [pk, e]
  · simp [pk, e]
/-- those of the pairs that are turned, by the lists of what lies below -/
def trn (fss : List (List Nat)) (ps : List (Nat × Nat)) : List (Nat × Nat) := (ps.filter fun p => decide (p.1 ∈ fss.getD p.2 []) && decide (p.2 ∈ fss.getD p.1 [])).map fun p => (p.2, p.1)
theorem trn_step {fss : List (List Nat)} {ps : List (Nat × Nat)} {i : Nat} {p : Nat × Nat} (h : ps[i]? = some p) : trn fss (ps.take (i + 1)) = trn fss (ps.take i) ++ (if (decide (p.1 ∈ fss.getD p.2 []) && decide (p.2 ∈ fss.getD p.1 [])) = true then [(p.2, p.1)] else []) := by
  rw [SG.take_one h, trn, List.filter_append, List.map_append]
  by_cases e : (decide (p.1 ∈ fss.getD p.2 []) && decide (p.2 ∈ fss.getD p.1 [])) = true
  · rw [if_pos e]
    simp only [trn, List.filter_cons, e, if_true, List.filter_nil, List.map_cons, List.map_nil]
  · rw [if_neg e]
    simp only [trn, List.filter_cons, e, if_false, List.filter_nil, List.map_nil]
    rfl
theorem down_lt {rs : List R} {w : Nat} (h : ∀ r ∈ rs, r.ok w) : ∀ x ∈ rs.map down, x.1 < w ∧ x.2 < w := fun x hx => by
  obtain ⟨r, hr, rfl⟩ := List.mem_map.mp hx
  have := h r hr
  unfold down
  cases r.k
  · exact ⟨this.2.1, this.1⟩
  · exact ⟨this.1, this.2.1⟩
theorem getD_left {α : Type} {l r : List α} {i : Nat} {d : α} (h : i < l.length) : (l ++ r).getD i d = l.getD i d := by
  simp [List.getD, List.getElem?_append_left h]
theorem getD_last {α : Type} {l : List α} {x d : α} : (l ++ [x]).getD l.length d = x := by
  simp [List.getD]
section
variable {P : Program} {w : World} {K : PySem.W.Frag} {mg : Str → Option Value} {base : Heap} {kA : Addr}
abbrev nLk : List Str := ["width", "rules", "kind", "steps", "below", "pairs", "turned", "column", "word", "a", "b"]
theorem scLinks : FnScope nLk ["width", "rules", "kind"] (defScope sLinks) := ⟨rfl, rfl, rfl, by decide +kernel, rfl, by decide +kernel, by decide +kernel⟩
theorem ok_links {f : Addr} {fd : FuncData} {k : Nat} (F : Fun K "links" "links" sLinks f fd) (T : Glb K mg kA) (cD : Cal P w K mg base "steps_down" ["rules"] (spDown K) 1)
 (cR : Cal P w K mg base "reached" ["pairs", "start"] (spReached K) 2) : FnOk P w K mg base CX0 (k + 3) f fd ["width", "rules", "kind"] (spLinks K) := by
  have GD := cD.ok (k + 2) (by omega)
  have GR := cR.ok (k + 2) (by omega)
  refine F.ok scLinks (fun vs H Q E h => ?_) (fun cdv A outer s H vs Q E hr h => ?_)
  · obtain ⟨w, g, us, rs, k, rfl, _⟩ := h
    rfl
  · obtain ⟨w, g, us, rs, kk, rfl, hg, dp, ho, hw, hl, q⟩ := h
    have n := scLinks.nd
    refine ⟨_, pss_cons (ps_set (i := 3) n rfl (.inr rfl) (pe_call GD hr rfl cD.g cD.kp cD.b .nil pass0 (pa_cons (pv 1) pa_nil)))
      (pss_cons (ps_set (i := 4) n rfl (.inr rfl) (pe_lc (own := [("column", 7)]) (g := gName 7) (tt := tYes) rfl n (pi_range1 (by rfl) T.rng (pa_cons (pv 0) pa_nil)) (blkOk_by (N := nLk) (sc := defScope sLinks) (by decide +kernel))
          (fun _ _ _ _ _ => pg_name (i := 7) n rfl (.inl rfl)) (fun _ _ _ _ _ => pts_nil) (fun _ _ _ _ _ => pe_call GR hr rfl cR.g cR.kp cR.b .nil pass0 (pa_cons (pv 3) (pa_cons (pv 7) pa_nil)))))
      (pss_cons (ps_setLc (i := 5) (own := [("word", 8), ("a", 9), ("b", 10)]) (g := g3 K 8 9 10) (tt := tTest (tOp rEq (tVar 8) (tVar 2))) rfl n rfl rfl (sw_true rfl rfl rfl (by decide +kernel)) (pi_tup (pv 1)) (blkOk_by (N := nLk) (sc := defScope sLinks) (by decide +kernel))
          (fun _ _ _ _ _ => pg_tup rfl (pgs_cons (pg_name (i := 8) n rfl (.inl rfl)) (pgs_cons (pg_name (i := 9) n rfl (.inl rfl)) (pgs_cons (pg_name (i := 10) n rfl (.inl rfl)) pgs_nil))))
          (fun _ _ _ _ _ => pts_one (pt_cmpR op_eq (pv 8) (pv 2) (nomark _))) (fun _ _ _ _ _ => pe_tup (pa_cons (pv 9) (pa_cons (pv 10) pa_nil))))
      (pss_cons (ps_setLc (i := 6) (own := [("a", 9), ("b", 10)]) (g := g2 K 9 10) (tt := tAnd (tTest (tOp (rIn K false) (tVar 9) (tOp (rIxL K) (tVar 4) (tVar 10)))) (tTest (tOp (rIn K false) (tVar 10) (tOp (rIxL K) (tVar 4) (tVar 9))))) rfl n rfl rfl (sw_true rfl rfl rfl (by decide +kernel)) (pi_list (pv 5)) (blkOk_by (N := nLk) (sc := defScope sLinks) (by decide +kernel))
          (fun _ _ _ _ _ => pg_tup rfl (pgs_cons (pg_name (i := 9) n rfl (.inl rfl)) (pgs_cons (pg_name (i := 10) n rfl (.inl rfl)) pgs_nil)))
          (fun _ _ _ _ _ => pts_one (PW.pt (pw_and (pt_cmpR op_in_seq (pv 9) (pe_ix ix_list (pv 4) (pv 10) (fun _ _ => rfl)) (by rfl)) (pw_and1 (pt_cmpR op_in_seq (pv 10) (pe_ix ix_list (pv 4) (pv 9) (fun _ _ => rfl)) (by rfl))))))
          (fun _ _ _ _ _ => pe_tup (pa_cons (pv 10) (pa_cons (pv 9) pa_nil))))
      (pss_one (ps_ret (pe_op op_cat (pv 5) (pv 6))))))), ?_⟩
    have ul : us.length = rs.length := by rw [dps_len dp, List.length_map]
    -- steps
    refine ⟨_, rfl, g, us, rs, rfl, hg, dp, hl, fun sa su H1 s1 nsa hsa dsa => ?_⟩
    have dsa1 : DpAll K H1 su ((rs.map down).map prd) := dps_same (wo_le sa) _ _ dsa
    have dlt := down_lt ho
    have dl6 : ∀ x ∈ rs.map down, x.1 < 6 ∧ x.2 < 6 := fun x hx => ⟨Nat.lt_of_lt_of_le (dlt x hx).1 hw, Nat.lt_of_lt_of_le (dlt x hx).2 hw⟩
    -- below
    refine ⟨_, rfl, _, rfl, by omega, by omega, fun B nB => ?_⟩
    refine lc_range (lo := 0) (n := ((w : Nat) : Int).toNat) (fun i H2 => ∃ fss : List (List Nat), MadeF lsd K H1 B i H2 fss ∧ fss.length = i ∧ ∀ c, c < i → ∀ x, x ∈ fss.getD c [] ↔ Rch (rs.map down) c x) ⟨[], MadeF.start, rfl, fun c hc => absurd hc (Nat.not_lt_zero _)⟩ ?_ ?_
    · rintro i H2 hi ⟨fss, p, fl, ff⟩
      have iw : i < w := by omega
      have o2 := p.old nB
      refine ⟨rfl, yes_if ?_⟩
      refine ⟨_, rfl, _, rfl, sa, su, rs.map down, i, by rw [Int.zero_add]; rfl, SqL.of (o2 _ _ hsa), dps_same o2 _ _ dsa1, dl6, by omega, by rw [List.length_map]; omega, fun pr fs H3 s3 npr hpr hfs _ => ?_⟩
      obtain ⟨us2, _, pB, _⟩ := id p
      have prB : pr ≠ B := (ne_of_none pB npr).symm
      obtain ⟨acc, a1, a2, a3⟩ := p.push (r := fs) (y := .ref pr) (m := i + 1) (by omega) (Nat.lt_succ_self _) s3 (.lst (.inl (.inl (by rw [wo_ne prB]; exact hpr))) (dps_nms fs))
      refine ⟨acc, a1, a2, fss ++ [fs], a3, by rw [List.length_append, fl]; rfl, fun c hc x => ?_⟩
      by_cases e : c < i
      · rw [getD_left (by omega)]
        exact ff c e x
      · have : c = i := by omega
        subst this
        rw [← fl, getD_last]
        rw [fl]
        exact hfs x
    rintro H2 ⟨fss, pB, fl, ff⟩
    have ew : ((w : Nat) : Int).toNat = w := by omega
    rw [ew] at fl ff pB
    have o2 := pB.old nB
    obtain ⟨bu, _, hB, dB, _⟩ := pB
    have dB2 : DpAll K H2 bu (fss.map lsd) := dps_same (wo_le B) _ _ dB
    have s2 : Same H H2 := s1.trans o2
    -- pairs
    refine ⟨_, rfl, g, rfl, ⟨_, same_t s2 hg⟩, fun D3 n3 => ?_⟩
    refine lc_tup (xs := us) (fun i H3 => MadeF prd K H2 D3 i H3 (pk (rs.take i) kk)) MadeF.start (fun i H3 _ z => same_t (s2.trans (z.old n3)) hg) ?_ ?_
    · intro i v H3 hv p
      obtain ⟨r, hr2, dr⟩ := dps_rat dp hv
      have il : i < rs.length := (List.getElem?_eq_some_iff.mp hr2).1
      obtain ⟨t, rfl, ht⟩ := dp_r (dp_same (s2.trans (p.old n3)) _ _ dr)
      refine ⟨t, _, rfl, ht, rfl, _, _, rfl, _, _, rfl, _, _, rfl, rfl, rfl, ?_⟩
      refine ⟨_, rfl, _, rfl, rfl, _, rfl, ?_⟩
      rw [show decide (V.str (kd r.k) = V.str (kd kk)) = decide (r.k = kk) from kd_ne _ _, pk_step hr2]
      by_cases e : r.k = kk
      · rw [decide_eq_true e, if_pos e]
        refine iteT ⟨_, rfl, _, rfl, (by show 2 ≤ sizeLine; decide), fun t2 n2 => ?_⟩
        exact p.push (r := (r.a, r.b)) (by omega) (Nat.lt_succ_self _) (same_new n2) (p_dp (p.tup n2))
      · rw [decide_eq_false e, if_neg e]
        exact iteF (p.up (by omega) (by simp))
    intro H3 p3
    rw [ul, List.take_length] at p3
    have o3 := p3.old n3
    obtain ⟨pu, _, hP, dP, _⟩ := p3
    have dP3 : DpAll K H3 pu ((pk rs kk).map prd) := dps_same (wo_le D3) _ _ dP
    have pl : pu.length = (pk rs kk).length := by rw [dps_len dP3, List.length_map]
    have pkl : (pk rs kk).length ≤ 60 := by
      unfold pk
      rw [List.length_map]
      exact Nat.le_trans (List.length_filter_le _ _) hl
    -- turned
    refine ⟨_, rfl, D3, rfl, ⟨_, SqL.of hP⟩, fun D4 n4 => ?_⟩
    refine lc_list (xs := pu) (fun i H4 => MadeF prd K H3 D4 i H4 (trn fss ((pk rs kk).take i))) MadeF.start (fun i H4 _ z => SqL.of (z.old n4 _ _ hP)) ?_ ?_
    · intro i v H4 hv p
      obtain ⟨⟨x, y⟩, hxy, dv⟩ := dps_pat dP3 hv
      have il : i < (pk rs kk).length := (List.getElem?_eq_some_iff.mp hxy).1
      have o4 := p.old n4
      obtain ⟨t, rfl, ht⟩ := dp_p (dp_same o4 _ _ dv)
      have hm := ho _ (pk_mem.mp (List.mem_of_getElem? hxy))
      have get : ∀ c, c < w → ∃ pc, bu[c]? = some (.ref pc) ∧ SqL K H4 pc (nms (fss.getD c [])) := fun c hc => by
        have hc2 : c < fss.length := by omega
        have e1 : (fss.map lsd)[c]? = some (lsd (fss.getD c [])) := by
          rw [List.getElem?_map, List.getElem?_eq_getElem hc2]
          simp [List.getD, List.getElem?_eq_getElem hc2]
        obtain ⟨u, u1, u2⟩ := dps_to dB2 e1
        obtain ⟨pc, rfl, hpc⟩ := lsd_at (dp_same (o3.trans o4) _ _ u2)
        exact ⟨pc, u1, hpc⟩
      obtain ⟨p1, b1, l1⟩ := get y hm.2.1
      obtain ⟨p2, b2, l2⟩ := get x hm.1
      have hB4 : SqL K H4 B bu := SqL.of (o4 _ _ (o3 _ _ hB))
      refine ⟨t, _, rfl, ht, rfl, _, _, rfl, _, _, rfl, rfl, rfl, ?_⟩
      refine ⟨_, rfl, _, rfl, _, rfl, B, bu, _, _, rfl, rfl, hB4, atI_nat b1, p1, _, rfl, .inl l1, rfl, nms_flat _, _, rfl, ?_⟩
      rw [show inV (V.int (x : Int)) (nms (fss.getD y [])) = decide (x ∈ fss.getD y []) from nms_in _ _]
      have stp : trn fss ((pk rs kk).take (i + 1)) = trn fss ((pk rs kk).take i) ++ (if (decide (x ∈ fss.getD y []) && decide (y ∈ fss.getD x [])) = true then [(y, x)] else []) := trn_step hxy
      by_cases e : x ∈ fss.getD y []
      · rw [decide_eq_true e]
        refine iteT ⟨_, rfl, _, rfl, _, rfl, B, bu, _, _, rfl, rfl, hB4, atI_nat b2, p2, _, rfl, .inl l2, rfl, nms_flat _, _, rfl, ?_⟩
        rw [show inV (V.int (y : Int)) (nms (fss.getD x [])) = decide (y ∈ fss.getD x []) from nms_in _ _]
        by_cases e2 : y ∈ fss.getD x []
        · rw [decide_eq_true e2]
          rw [if_pos (by rw [decide_eq_true e, decide_eq_true e2]; rfl)] at stp
          rw [stp]
          refine iteT ⟨_, rfl, _, rfl, (by show 2 ≤ sizeLine; decide), fun t2 n2 => ?_⟩
          exact p.push (r := (y, x)) (by omega) (Nat.lt_succ_self _) (same_new n2) (p_dp (p.tup n2))
        · rw [decide_eq_false e2]
          rw [if_neg (by rw [decide_eq_false e2, Bool.and_false]; exact Bool.false_ne_true)] at stp
          rw [stp]
          exact iteF (p.up (by omega) (by simp))
      · rw [decide_eq_false e]
        rw [if_neg (by rw [decide_eq_false e]; exact Bool.false_ne_true)] at stp
        rw [stp]
        refine iteF ?_
        exact iteF (p.up (by omega) (by simp))
    intro H4 p4
    rw [pl, List.take_length] at p4
    have o4 := p4.old n4
    obtain ⟨tu, _, hT, dT, _⟩ := p4
    have trl : (trn fss (pk rs kk)).length ≤ 60 := by
      unfold trn
      rw [List.length_map]
      exact Nat.le_trans (List.length_filter_le _ _) pkl
    have tul : tu.length = (trn fss (pk rs kk)).length := by rw [dps_len dT, List.length_map]
    refine ⟨_, rfl, _, rfl, D3, D4, pu, tu, rfl, rfl, o4 _ _ hP, hT, Nat.le_of_lt (small1000 (by omega)), fun p5 n5 => ?_⟩
    have m5 : Same H4 (upd H4 p5 (.lst (pu ++ tu))) := same_new n5
    have toV : Same H4 (wo (upd H4 p5 (.lst (pu ++ tu))) p5) := fun b o e => by
      rw [wo_ne (ne_of_none e n5)]
      exact m5 _ _ e
    have sH : Same H H4 := s2.trans (o3.trans o4)
    refine q p5 (pu ++ tu) (pk rs kk ++ trn fss (pk rs kk)) _ (sH.trans m5) (sH.free n5) upd_same ?_ (fun x y => ?_) (by rw [List.length_append]; omega)
    · rw [List.map_append]
      exact dps_app (dps_same (o4.trans toV) _ _ dP3) (dps_same ((wo_le D4).trans toV) _ _ dT)
    · rw [List.mem_append, pk_mem]
      unfold Lk
      refine or_congr Iff.rfl ?_
      simp only [trn, List.mem_map, List.mem_filter, Bool.and_eq_true, decide_eq_true_eq, Prod.mk.injEq]
      constructor
      · rintro ⟨⟨a, b⟩, ⟨h1, h2, h3⟩, rfl, rfl⟩
        have hm := ho _ (pk_mem.mp h1)
        exact ⟨pk_mem.mp h1, (ff _ hm.2.1 _).mp h2, (ff _ hm.1 _).mp h3⟩
      · rintro ⟨h1, h2, h3⟩
        have hm := ho _ h1
        exact ⟨(y, x), ⟨pk_mem.mpr h1, (ff _ hm.2.1 _).mpr h2, (ff _ hm.1 _).mpr h3⟩, rfl, rfl⟩
end
end CC
namespace CC
open PySem L2 TL
/-- a property of an own class: a field's value -/
structure Prp (P : Program) (w : World) (K : PySem.W.Frag) (mg : Str → Option Value) (base : Heap) (C : Addr) (f fld : Str) where
  p : Addr
  g : Addr
  fd : FuncData
  hp : PropOf K C f p g
  ok : ∀ k, 1 ≤ k → FnOk P w K mg base CX0 k g fd ["self"] (getSp C fld)
  b : Binds K fd ["self"] []
/-- a property, by its promise -/
structure PrpG (P : Program) (w : World) (K : PySem.W.Frag) (mg : Str → Option Value) (base : Heap) (C : Addr) (f : Str) (sp : Sp) where
  p : Addr
  g : Addr
  fd : FuncData
  hp : PropOf K C f p g
  ok : ∀ k, 1 ≤ k → FnOk P w K mg base CX0 k g fd ["self"] sp
  b : Binds K fd ["self"] []
end CC
namespace CC
open PySem L2
abbrev sPW : Stmt := inClass (tp 40) 1
abbrev sPR : Stmt := inClass (tp 40) 2
section
variable {P : Program} {w : World} {K : PySem.W.Frag} {mg : Str → Option Value} {base : Heap} {kA : Addr}
theorem scPW : FnScope ["self"] ["self"] (defScope sPW) := ⟨rfl, rfl, rfl, by decide +kernel, rfl, by decide +kernel, by decide +kernel⟩
theorem scPR : FnScope ["self"] ["self"] (defScope sPR) := ⟨rfl, rfl, rfl, by decide +kernel, rfl, by decide +kernel, by decide +kernel⟩
theorem ok_pw {f C : Addr} {fd : FuncData} {k : Nat} (F : Fun K "width" "Rules.width" sPW f fd) (TC : Txt1 K mg C) : FnOk P w K mg base CX0 (k + 1) f fd ["self"] (getSp C "span") := by
  refine F.ok scPW (fun vs H Q E h => ?_) (fun cdv A outer s H vs Q E hr h => ?_)
  · obtain ⟨a, dx, fs, v, rfl, _⟩ := h
    rfl
  · obtain ⟨a, dx, fs, v, rfl, ea, l, q⟩ := h
    exact ⟨_, pss_one (ps_ret (pe_fld (pv 0) rfl)), _, rfl, a, C, dx, fs, v, rfl, ea, TC.cl, TC.nS, l, q⟩
theorem ok_pr {f C : Addr} {fd : FuncData} {k : Nat} (F : Fun K "rules" "Rules.rules" sPR f fd) (TC : Txt1 K mg C) : FnOk P w K mg base CX0 (k + 1) f fd ["self"] (getSp C "given") := by
  refine F.ok scPR (fun vs H Q E h => ?_) (fun cdv A outer s H vs Q E hr h => ?_)
  · obtain ⟨a, dx, fs, v, rfl, _⟩ := h
    rfl
  · obtain ⟨a, dx, fs, v, rfl, ea, l, q⟩ := h
    exact ⟨_, pss_one (ps_ret (pe_fld (pv 0) rfl)), _, rfl, a, C, dx, fs, v, rfl, ea, TC.cl, TC.nG, l, q⟩
end
end CC
namespace CC
open PySem L2
def asgVal1 : Stmt → Expr
  | .Assign _ v _ => v
  | _ => .Constant .none 0 ⟨0, 0, 0, 0⟩
def lcSc1 : Expr → Scope
  | .ListComp _ _ sc _ => sc
  | _ => { kind := .function, names := [], isGenerator := false, isCoroutine := false }
abbrev sChk : Stmt := tp 49
def spChk (K : PySem.W.Frag) (C : Addr) : Sp := fun vs H Q _ => ∃ (x : Addr) (w : Nat) (rs : List R), vs = [.ref x] ∧ RulesAt K C H x w rs ∧ Q .non H
def MIs (M : Nat → Nat → Bool) (w : Nat) (ps : List (Nat × Nat)) : Prop := ∀ x y, x < w → y < w → (M x y = true ↔ Rch ps x y)
/-- a new tuple of groups -/
def NewG (K : PySem.W.Frag) (H : Hp) (w : Nat) (ps : List (Nat × Nat)) (Q : VK) : Prop := ∀ (v : V) (M : Nat → Nat → Bool) (H' : Hp), Same H H' → Dp K H' v (.tuple ((clsM M w).map gd)) → MIs M w ps → Q v H'
def spCls (K : PySem.W.Frag) : Sp := fun vs H Q _ => ∃ (w : Nat) (a : Addr) (us : List V) (ps : List (Nat × Nat)), vs = [.int (w : Int), .ref a] ∧ w ≤ 6 ∧ SqL K H a us ∧ DpAll K H us (ps.map prd) ∧ (∀ x ∈ ps, x.1 < w ∧ x.2 < w) ∧ ps.length ≤ 1000 ∧ NewG K H w ps Q
def spGrp (K : PySem.W.Frag) (C : Addr) : Sp := fun vs H Q _ => ∃ (x : Addr) (w : Nat) (rs : List R), vs = [.ref x] ∧ RulesAt K C H x w rs ∧ (∀ r ∈ rs, r.ok w) ∧ w ≤ 6 ∧ rs.length ≤ 60 ∧ NewG K H w (rs.map down) Q
theorem down_ltw {rs : List R} {w : Nat} (ho : ∀ r ∈ rs, r.ok w) : ∀ x ∈ rs.map down, x.1 < w ∧ x.2 < w := fun x hx => by
  obtain ⟨r, hr, rfl⟩ := List.mem_map.mp hx
  have := ho r hr
  unfold down
  cases r.k
  · exact ⟨this.2.1, this.1⟩
  · exact ⟨this.1, this.2.1⟩
section
variable {P : Program} {w : World} {K : PySem.W.Frag} {mg : Str → Option Value} {base : Heap} {kA : Addr}
theorem scChk : FnScope ["rules"] ["rules"] (defScope sChk) := ⟨rfl, rfl, rfl, by decide +kernel, rfl, by decide +kernel, by decide +kernel⟩
theorem ok_chk {f C : Addr} {fd : FuncData} {k : Nat} (F : Fun K "check_rules" "check_rules" sChk f fd) (T : Glb K mg kA) (TC : Txt1 K mg C) (ic : C8.InsC K C) : FnOk P w K mg base CX0 (k + 1) f fd ["rules"] (spChk K C) := by
  refine F.ok scChk (fun vs H Q E h => ?_) (fun cdv A outer s H vs Q E hr h => ?_)
  · obtain ⟨x, w, rs, rfl, _⟩ := h
    rfl
  · obtain ⟨x, w, rs, rfl, ⟨dx, g, us, h1, _, _⟩, q⟩ := h
    refine ⟨_, pss_one (ps_if (pt_not (pt_val (pe_callB (C8.call_isC ic) (by rfl) T.isi (by decide +kernel) (pa_cons (pv 0) (pa_cons (pe_glob (v := .ref C) rfl TC.mgC rfl) pa_nil))))) (pss_one ps_never) pss_nil), ?_⟩
    exact ⟨_, rfl, x, dx, _, rfl, h1, _, rfl, iteF q⟩
end
end CC
namespace CC
open PySem L2
abbrev sCls : Stmt := tp 28
section
variable {P : Program} {w : World} {K : PySem.W.Frag} {mg : Str → Option Value} {base : Heap} {kA : Addr}
abbrev nCl : List Str := ["width", "pairs", "ends", "mates", "column", "a", "b", "some"]
theorem scCls : FnScope nCl ["width", "pairs"] (defScope sCls) := ⟨rfl, rfl, rfl, by decide +kernel, rfl, by decide +kernel, by decide +kernel⟩
abbrev scCl1 : Scope := lcSc1 (asgVal1 ((defBody sCls).getD 1 (.Pass ⟨0, 0, 0, 0⟩)))
theorem ok_cls {f : Addr} {fd : FuncData} {k : Nat} (F : Fun K "classes_of" "classes_of" sCls f fd) (T : Glb K mg kA) (cR : Cal P w K mg base "reached" ["pairs", "start"] (spReached K) 2) : FnOk P w K mg base CX0 (k + 3) f fd ["width", "pairs"] (spCls K) := by
  have GR := cR.ok (k + 2) (by omega)
  refine F.ok scCls (fun vs H Q E h => ?_) (fun cdv A outer s H vs Q E hr h => ?_)
  · obtain ⟨w, a, us, ps, rfl, _⟩ := h
    rfl
  · obtain ⟨w, pa_, us, ps, rfl, hw, ha, dp, hps, hpl, q⟩ := h
    have n := scCls.nd
    refine ⟨_, pss_cons (ps_set (i := 2) n rfl (.inr rfl) (pe_lc (own := [("column", 4)]) (g := gName 4) (tt := tYes) (te := tCall (spReached K) [] E0 (tCons (tVar 1) (tCons (tVar 4) tNil))) rfl n (pi_range1 (by rfl) T.rng (pa_cons (pv 0) pa_nil)) (blkOk_by (N := nCl) (sc := defScope sCls) (by decide +kernel))
        (fun _ _ _ _ _ => pg_name (i := 4) n rfl (.inl rfl)) (fun _ _ _ _ _ => pts_nil) (fun _ _ _ _ _ => pe_call GR hr rfl cR.g cR.kp cR.b .nil pass0 (pa_cons (pv 1) (pa_cons (pv 4) pa_nil)))))
      (pss_cons (ps_setLc (i := 3) (own := [("a", 5)]) (g := gName 5) (tt := tYes) (te := tCB (rTupOf K) (tCons (tLc (iList K (tOp (rIxL K) (tVar 2) (tVar 5))) (gName 6) (tTest (tOp (rIn K false) (tVar 5) (tOp (rIxL K) (tVar 2) (tVar 6)))) (tVar 6) [6]) tNil)) rfl n rfl rfl (sw_true rfl rfl rfl (by decide +kernel)) (pi_range1 (by rfl) T.rng (pa_cons (pv 0) pa_nil)) (blkOk_by (N := nCl) (sc := defScope sCls) (by decide +kernel))
        (fun _ _ _ _ _ => pg_name (i := 5) n rfl (.inr rfl)) (fun _ _ _ _ _ => pts_nil)
        (fun _ _ _ _ _ => pe_callTy call_tuple_of (by rfl) T.tup (by decide +kernel) (pa_cons (pe_lc (own := [("b", 6)]) (g := gName 6) (tt := tTest (tOp (rIn K false) (tVar 5) (tOp (rIxL K) (tVar 2) (tVar 6)))) rfl n (pi_list (pe_ix ix_list (pv 2) (pv 5) (fun _ _ => rfl))) (blkOk_by (N := nCl) (sc := relS scCl1 (defScope sCls)) (by decide +kernel))
          (fun _ _ _ _ _ => pg_name (i := 6) n rfl (.inl rfl)) (fun _ _ _ _ _ => pts_one (pt_cmpR op_in_seq (pv 5) (pe_ix ix_list (pv 2) (pv 6) (fun _ _ => rfl)) (by rfl))) (fun _ _ _ _ _ => pv 6)) pa_nil)))
      (pss_one (ps_ret (pe_callTy call_tuple_of (by rfl) T.tup (by decide +kernel) (pa_cons (pe_lc (own := [("column", 4), ("some", 7)]) (g := g2 K 4 7) (tt := tTest (tOp rEq (tOp (rIxT K) (tVar 7) (tC (.int 0))) (tVar 4))) rfl n (pi_enum (by rfl) T.enu (pa_cons (pv 3) pa_nil)) (blkOk_by (N := nCl) (sc := defScope sCls) (by decide +kernel))
        (fun _ _ _ _ _ => pg_tup rfl (pgs_cons (pg_name (i := 4) n rfl (.inl rfl)) (pgs_cons (pg_name (i := 7) n rfl (.inl rfl)) pgs_nil))) (fun _ _ _ _ _ => pts_one (pt_cmpR op_eq (pe_ix ix_tup (pv 7) pe_int (fun _ _ => rfl)) (pv 4) (nomark _))) (fun _ _ _ _ _ => pv 7)) pa_nil))))), ?_⟩
    have ew : ((w : Nat) : Int).toNat = w := by omega
    have hps6 : ∀ x ∈ ps, x.1 < 6 ∧ x.2 < 6 := fun x hx => ⟨Nat.lt_of_lt_of_le (hps x hx).1 hw, Nat.lt_of_lt_of_le (hps x hx).2 hw⟩
    -- ends
    refine ⟨_, rfl, _, rfl, by omega, by omega, fun B nB => ?_⟩
    refine lc_range (lo := 0) (n := ((w : Nat) : Int).toNat) (fun i H2 => ∃ fss : List (List Nat), MadeF lsd K H B i H2 fss ∧ fss.length = i ∧ ∀ c, c < i → (∀ x, x ∈ fss.getD c [] ↔ Rch ps c x) ∧ (fss.getD c []).Pairwise (· < ·)) ⟨[], MadeF.start, rfl, fun c hc => absurd hc (Nat.not_lt_zero _)⟩ ?_ ?_
    · rintro i H2 hi ⟨fss, p, fl, ff⟩
      have o2 := p.old nB
      refine ⟨rfl, yes_if ?_⟩
      refine ⟨_, rfl, _, rfl, pa_, us, ps, i, by rw [Int.zero_add]; rfl, same_l o2 ha, dps_same o2 _ _ dp, hps6, by omega, hpl, fun pr fs H3 s3 npr hpr hfs hsr => ?_⟩
      obtain ⟨us2, _, pB, _⟩ := id p
      have prB : pr ≠ B := (ne_of_none pB npr).symm
      obtain ⟨acc, a1, a2, a3⟩ := p.push (r := fs) (y := .ref pr) (m := i + 1) (by omega) (Nat.lt_succ_self _) s3 (.lst (.inl (.inl (by rw [wo_ne prB]; exact hpr))) (dps_nms fs))
      refine ⟨acc, a1, a2, fss ++ [fs], a3, by rw [List.length_append, fl]; rfl, fun c hc => ?_⟩
      by_cases e : c < i
      · rw [getD_left (by omega)]
        exact ff c e
      · have : c = i := by omega
        subst this
        rw [← fl, getD_last]
        rw [fl]
        exact ⟨hfs, hsr⟩
    rintro H2 ⟨fss, pB, fl, ff⟩
    rw [ew] at fl ff pB
    have o2 := pB.old nB
    obtain ⟨bu, _, hB, dB, _⟩ := pB
    have dB2 : DpAll K H2 bu (fss.map lsd) := dps_same (wo_le B) _ _ dB
    have get : ∀ {H4 : Hp}, Same H2 H4 → ∀ c, c < w → ∃ pc, bu[c]? = some (.ref pc) ∧ SqL K H4 pc (nms (fss.getD c [])) := fun {H4} o4 c hc => by
      have hc2 : c < fss.length := by omega
      have e1 : (fss.map lsd)[c]? = some (lsd (fss.getD c [])) := by
        rw [List.getElem?_map, List.getElem?_eq_getElem hc2]
        simp [List.getD, List.getElem?_eq_getElem hc2]
      obtain ⟨u, u1, u2⟩ := dps_to dB2 e1
      obtain ⟨pc, rfl, hpc⟩ := lsd_at (dp_same o4 _ _ u2)
      exact ⟨pc, u1, hpc⟩
    obtain ⟨M, hM⟩ : ∃ M : Nat → Nat → Bool, M = fun x y => decide (y ∈ fss.getD x []) := ⟨_, rfl⟩
    have mis : MIs M w ps := fun x y hx hy => by
      rw [hM, decide_eq_true_eq]
      exact (ff x hx).1 y
    have row_is : ∀ c, c < w → fss.getD c [] = (List.range w).filter (M c) := fun c hc => by
      refine inc_eq (ff c hc).2 (List.Pairwise.filter _ List.pairwise_lt_range) fun x => ?_
      rw [List.mem_filter, List.mem_range, hM, decide_eq_true_eq]
      exact ⟨fun z => ⟨Rch.lt hps hc (((ff c hc).1 x).mp z), z⟩, fun z => z.2⟩
    have grp_is : ∀ c, c < w → (fss.getD c []).filter (fun b => decide (c ∈ fss.getD b [])) = grpM M w c := fun c hc => by
      rw [row_is c hc, List.filter_filter]
      unfold grpM
      refine List.filter_congr fun b hb => ?_
      rw [Bool.and_comm]
      rw [hM]
    -- mates
    refine ⟨_, rfl, _, rfl, by omega, by omega, fun D3 n3 => ?_⟩
    refine lc_range (lo := 0) (n := ((w : Nat) : Int).toNat) (fun i H3 => MadeF gd K H2 D3 i H3 ((List.range i).map (grpM M w))) MadeF.start ?_ ?_
    · intro i H3 hi p
      have iw : i < w := by omega
      have o3 := p.old n3
      refine ⟨rfl, yes_if ?_⟩
      rw [Int.zero_add]
      obtain ⟨p1, b1, l1⟩ := get o3 i iw
      refine ⟨_, rfl, _, rfl, B, bu, _, _, rfl, rfl, SqL.of (o3 _ _ hB), atI_nat b1, p1, rfl, ⟨_, l1⟩, fun D4 n4 => ?_⟩
      refine lc_list (xs := nms (fss.getD i [])) (fun j H4 => Same H3 (wo H4 D4) ∧ H4 D4 = some (.lst (nms (((fss.getD i []).take j).filter fun b => decide (i ∈ fss.getD b []))))) ⟨?_, upd_same⟩ (fun j H4 _ z => same_l (z.1.trans (wo_le D4)) l1) ?_ ?_
      · rw [wo_upd]
        exact fun b o e => by rw [wo_ne (ne_of_none e n4)]; exact e
      · rintro j v H4 hv ⟨q1, q2⟩
        obtain ⟨b, hb, rfl⟩ : ∃ b, (fss.getD i [])[j]? = some b ∧ v = .int (b : Int) := by
          rw [nms, List.getElem?_map] at hv
          cases z : (fss.getD i [])[j]? with
          | none => rw [z] at hv; cases hv
          | some m => rw [z] at hv; exact ⟨m, rfl, (Option.some.inj hv).symm⟩
        have hbm : b ∈ fss.getD i [] := List.mem_of_getElem? hb
        have bw : b < w := Rch.lt hps iw (((ff i iw).1 b).mp hbm)
        have o4 : Same H2 H4 := o3.trans (q1.trans (wo_le D4))
        obtain ⟨p2, b2, l2⟩ := get o4 b bw
        refine ⟨rfl, ?_⟩
        refine ⟨_, rfl, _, rfl, _, rfl, B, bu, _, _, rfl, rfl, SqL.of (o4 _ _ hB), atI_nat b2, p2, _, rfl, .inl l2, rfl, nms_flat _, _, rfl, ?_⟩
        rw [show inV (V.int (i : Int)) (nms (fss.getD b [])) = decide (i ∈ fss.getD b []) from nms_in _ _, take1 hb, List.filter_append]
        by_cases e : i ∈ fss.getD b []
        · rw [decide_eq_true e, List.filter_cons_of_pos (p := fun b => decide (i ∈ fss.getD b [])) (decide_eq_true e)]
          have fl6 : (fss.getD i []).length ≤ 6 := by
            rw [row_is i iw]
            have := List.length_filter_le (M i) (List.range w)
            rw [List.length_range] at this
            omega
          have big : (nms (((fss.getD i []).take j).filter fun b => decide (i ∈ fss.getD b []))).length < sizeLine := small1000 (by
            rw [nms_len]
            have := List.length_filter_le (fun b => decide (i ∈ fss.getD b [])) ((fss.getD i []).take j)
            rw [List.length_take] at this
            omega)
          refine iteT ?_
          refine ⟨_, rfl, _, q2, big, ?_, ?_⟩
          · rw [wo_upd]
            exact q1
          · rw [upd_same, nms_app]
            rfl
        · rw [decide_eq_false e, List.filter_cons_of_neg (p := fun b => decide (i ∈ fss.getD b [])) (by rw [decide_eq_false e]; exact Bool.false_ne_true)]
          refine iteF ⟨q1, ?_⟩
          rw [q2]
          simp
      rintro H4 ⟨q1, q2⟩
      rw [nms_len, List.take_length, grp_is i iw] at q2
      have s34 : Same H3 H4 := q1.trans (wo_le D4)
      refine ⟨D4, _, rfl, .inl ⟨SqL.of q2, fun l nl => ?_⟩⟩
      have s35 : Same H3 (upd H4 l (.tup (nms (grpM M w i)))) := s34.trans (same_new nl)
      rw [List.range_succ, List.map_append]
      refine p.push (r := grpM M w i) (by omega) (Nat.lt_succ_self _) s35 (dp_gd ?_)
      obtain ⟨us2, _, pD, _⟩ := id p
      have lD : l ≠ D3 := (ne_of_none (s34 _ _ pD) nl).symm
      rw [wo_upd_ne _ lD]
      exact .inl (.inl upd_same)
    intro H3 p3
    rw [ew] at p3
    have o3 := p3.old n3
    obtain ⟨mu, _, hMt, dM, _⟩ := p3
    have dM3 : DpAll K H3 mu (((List.range w).map (grpM M w)).map gd) := dps_same (wo_le D3) _ _ dM
    have mul : mu.length = w := by rw [dps_len dM3, List.length_map, List.length_map, List.length_range]
    -- the tuple
    refine ⟨_, rfl, D3, _, rfl, SqL.of hMt, fun D5 n5 => ?_⟩
    refine lc_enum (xs := mu) (fun i H4 => MadeF gd K H3 D5 i H4 (clsTo M w i)) MadeF.start (fun i H4 _ z => SqL.of (z.old n5 _ _ hMt)) ?_ ?_
    · intro i v t H4 hv p nt
      have iw : i < w := by
        have := (List.getElem?_eq_some_iff.mp hv).1
        omega
      obtain ⟨d, d1, d2⟩ := dps_at dM3 hv
      have ed : d = gd (grpM M w i) := by
        rw [List.getElem?_map, List.getElem?_map, List.getElem?_range iw] at d1
        exact (Option.some.inj d1).symm
      subst ed
      have o4 := p.old n5
      obtain ⟨t2, rfl, ht2⟩ := gd_at (dp_same (o4.trans (same_new (o := .tup [.int (i : Nat), v]) nt)) _ _ d2)
      have ht0 : (upd H4 t (.tup [.int (i : Nat), .ref t2])) t = some (.tup [.int (i : Nat), .ref t2]) := upd_same
      have d3 := dp_same (o4.trans (same_new (o := .tup [.int (i : Nat), .ref t2]) nt)) _ _ d2
      have s45 : Same H4 (upd H4 t (.tup [.int (i : Nat), .ref t2])) := same_new nt
      generalize upd H4 t (.tup [.int (i : Nat), .ref t2]) = H5 at ht2 ht0 d3 s45
      have eqr : Eqr M w := ⟨fun x hx => (mis x x hx hx).mpr .refl, fun x y z hx hy hz h1 h2 => (mis x z hx hz).mpr (((mis x y hx hy).mp h1).trans ((mis y z hy hz).mp h2))⟩
      obtain ⟨c, c1, c2, c3⟩ := eqr.head iw
      have at0 : atI (nms (grpM M w i)) 0 = some (.int (c : Int)) := by
        refine atI_nat (j := 0) ?_
        rw [nms, List.getElem?_map, ← List.head?_eq_getElem?, c1]
        rfl
      refine ⟨t, _, rfl, .inl (.inl ht0), rfl, _, _, rfl, _, _, rfl, rfl, rfl, ?_⟩
      refine ⟨_, rfl, t2, _, _, _, rfl, rfl, ht2, at0, _, rfl, rfl, _, rfl, ?_⟩
      rw [clsTo_step, c1]
      by_cases e : c = i
      · subst e
        rw [show decide (V.int (c : Int) = V.int (c : Int)) = true from decide_eq_true rfl, if_pos (show (some c == some c) = true by simp)]
        refine iteT ⟨_, rfl, ?_⟩
        refine p.push (r := grpM M w c) (by omega) (Nat.lt_succ_self _) s45 (dp_same ?_ _ _ d2)
        have nD5 : H3 D5 = none := n5
        exact fun b o e => by
          rw [wo_ne (ne_of_none e nD5)]
          exact s45 _ _ (o4 _ _ e)
      · rw [show decide (V.int (c : Int) = V.int (i : Int)) = false from decide_eq_false (fun z => e (by injection z with z; omega)), if_neg (show ¬ (some c == some i) = true by simpa using e), List.append_nil]
        exact iteF (p.keep s45 (by omega) rfl)
    intro H4 p4
    rw [mul] at p4
    have o4 := p4.old n5
    obtain ⟨cu, _, hC, dC, _⟩ := p4
    refine ⟨D5, cu, rfl, .inl ⟨SqL.of hC, fun l nl => ?_⟩⟩
    have sH : Same H H4 := o2.trans (o3.trans o4)
    refine q (.ref l) M _ (sH.trans (same_new nl)) (.tup (.inl (.inl upd_same)) (dps_same ((wo_le D5).trans (same_new nl)) _ _ dC)) mis
end
end CC
namespace CC
open PySem L2
/-! ### classes_of, its tuples tracked (they are the keys of dicts) -/
inductive TupA (H : Hp) : List V → List (List Nat) → Prop
  | nil : TupA H [] []
  | cons {a : Addr} {m : List Nat} {us : List V} {rs : List (List Nat)} : H a = some (.tup (nms m)) → TupA H us rs → TupA H (.ref a :: us) (m :: rs)
section
variable {H H' : Hp} {us : List V} {rs : List (List Nat)}
theorem TupA.same (t : TupA H us rs) (e : Same H H') : TupA H' us rs := by
  induction t with
  | nil => exact .nil
  | cons h _ ih => exact .cons (e _ _ h) ih
theorem TupA.len (t : TupA H us rs) : us.length = rs.length := by
  induction t with
  | nil => rfl
  | cons _ _ ih => rw [List.length_cons, List.length_cons, ih]
theorem TupA.app {a : Addr} {m : List Nat} (t : TupA H us rs) (h : H a = some (.tup (nms m))) : TupA H (us ++ [.ref a]) (rs ++ [m]) := by
  induction t with
  | nil => exact .cons h .nil
  | cons h2 _ ih => exact .cons h2 ih
theorem TupA.at_ (t : TupA H us rs) : ∀ {i : Nat} {v : V}, us[i]? = some v → ∃ a m, v = .ref a ∧ rs[i]? = some m ∧ H a = some (.tup (nms m)) := by
  induction t with
  | nil => intro i v h; simp at h
  | cons h2 _ ih =>
    intro i v h
    cases i with
    | zero => simp at h; subst h; exact ⟨_, _, rfl, rfl, h2⟩
    | succ i => exact ih (by simpa using h)
theorem TupA.dps {K : PySem.W.Frag} (t : TupA H us rs) : DpAll K H us (rs.map gd) := by
  induction t with
  | nil => exact .nil
  | cons h _ ih => exact .cons (dp_gd (.inl (.inl h))) ih
end
def MadeT (H0 : Hp) (D : Addr) (n : Nat) (H : Hp) (rs : List (List Nat)) : Prop := ∃ us, Same (wo H0 D) (wo H D) ∧ H D = some (.lst us) ∧ TupA (wo H D) us rs ∧ us.length ≤ n
section
variable {H0 H H' : Hp} {D : Addr} {n m : Nat} {rs rs' : List (List Nat)}
theorem MadeT.start : MadeT H0 D 0 (upd H0 D (.lst [])) [] := ⟨[], by rw [wo_upd]; exact Same.refl _, upd_same, .nil, Nat.le_refl _⟩
theorem MadeT.push {r : List Nat} {y : Addr} (p : MadeT H0 D n H rs) (h9 : n < 100000) (hm : n < m) (q3 : Same H H') (q1 : (wo H' D) y = some (.tup (nms r))) : ∃ acc, H' D = some (.lst acc) ∧ acc.length < sizeLine ∧ MadeT H0 D m (upd H' D (.lst (acc ++ [.ref y]))) (rs ++ [r]) := by
  obtain ⟨us, p1, p2, p3, p4⟩ := p
  refine ⟨us, q3 _ _ p2, Nat.lt_of_le_of_lt p4 (Nat.lt_of_lt_of_le h9 (by decide)), us ++ [.ref y], ?_, upd_same, ?_, ?_⟩
  · rw [wo_upd]
    exact p1.trans (wo_same q3)
  · rw [wo_upd]
    exact (p3.same (wo_same q3)).app q1
  · rw [List.length_append]
    exact Nat.le_trans (Nat.succ_le_succ p4) hm
theorem MadeT.keep (p : MadeT H0 D n H rs) (q3 : Same H H') (h : n ≤ m) (e : rs = rs') : MadeT H0 D m H' rs' := by
  obtain ⟨us, p1, p2, p3, p4⟩ := p
  subst e
  exact ⟨us, p1.trans (wo_same q3), q3 _ _ p2, p3.same (wo_same q3), Nat.le_trans p4 h⟩
theorem MadeT.old (p : MadeT H0 D n H rs) (h : H0 D = none) : Same H0 H := fun b o e => by
  obtain ⟨us, p1, _⟩ := p
  exact wo_le D _ _ (p1 b o (by rw [wo_ne (ne_of_none e h)]; exact e))
end
def spClsT (K : PySem.W.Frag) : Sp := fun vs H Q _ => ∃ (w : Nat) (a : Addr) (us : List V) (ps : List (Nat × Nat)), vs = [.int (w : Int), .ref a] ∧ w ≤ 6 ∧ SqL K H a us ∧ DpAll K H us (ps.map prd) ∧ (∀ x ∈ ps, x.1 < w ∧ x.2 < w) ∧ ps.length ≤ 1000 ∧
  ∀ (l : Addr) (cu : List V) (M : Nat → Nat → Bool) (H' : Hp), Same H H' → H l = none → H' l = some (.tup cu) → TupA H' cu (clsM M w) → MIs M w ps → Q (.ref l) H'
section
variable {P : Program} {w : World} {K : PySem.W.Frag} {mg : Str → Option Value} {base : Heap} {kA : Addr}
theorem ok_clsT {f : Addr} {fd : FuncData} {k : Nat} (F : Fun K "classes_of" "classes_of" sCls f fd) (T : Glb K mg kA) (cR : Cal P w K mg base "reached" ["pairs", "start"] (spReached K) 2) : FnOk P w K mg base CX0 (k + 3) f fd ["width", "pairs"] (spClsT K) := by
  have GR := cR.ok (k + 2) (by omega)
  refine F.ok scCls (fun vs H Q E h => ?_) (fun cdv A outer s H vs Q E hr h => ?_)
  · obtain ⟨w, a, us, ps, rfl, _⟩ := h
    rfl
  · obtain ⟨w, pa_, us, ps, rfl, hw, ha, dp, hps, hpl, q⟩ := h
    have n := scCls.nd
    refine ⟨_, pss_cons (ps_set (i := 2) n rfl (.inr rfl) (pe_lc (own := [("column", 4)]) (g := gName 4) (tt := tYes) (te := tCall (spReached K) [] E0 (tCons (tVar 1) (tCons (tVar 4) tNil))) rfl n (pi_range1 (by rfl) T.rng (pa_cons (pv 0) pa_nil)) (blkOk_by (N := nCl) (sc := defScope sCls) (by decide +kernel))
        (fun _ _ _ _ _ => pg_name (i := 4) n rfl (.inl rfl)) (fun _ _ _ _ _ => pts_nil) (fun _ _ _ _ _ => pe_call GR hr rfl cR.g cR.kp cR.b .nil pass0 (pa_cons (pv 1) (pa_cons (pv 4) pa_nil)))))
      (pss_cons (ps_setLc (i := 3) (own := [("a", 5)]) (g := gName 5) (tt := tYes) (te := tCB (rTupOf K) (tCons (tLc (iList K (tOp (rIxL K) (tVar 2) (tVar 5))) (gName 6) (tTest (tOp (rIn K false) (tVar 5) (tOp (rIxL K) (tVar 2) (tVar 6)))) (tVar 6) [6]) tNil)) rfl n rfl rfl (sw_true rfl rfl rfl (by decide +kernel)) (pi_range1 (by rfl) T.rng (pa_cons (pv 0) pa_nil)) (blkOk_by (N := nCl) (sc := defScope sCls) (by decide +kernel))
        (fun _ _ _ _ _ => pg_name (i := 5) n rfl (.inr rfl)) (fun _ _ _ _ _ => pts_nil)
        (fun _ _ _ _ _ => pe_callTy call_tuple_of (by rfl) T.tup (by decide +kernel) (pa_cons (pe_lc (own := [("b", 6)]) (g := gName 6) (tt := tTest (tOp (rIn K false) (tVar 5) (tOp (rIxL K) (tVar 2) (tVar 6)))) rfl n (pi_list (pe_ix ix_list (pv 2) (pv 5) (fun _ _ => rfl))) (blkOk_by (N := nCl) (sc := relS scCl1 (defScope sCls)) (by decide +kernel))
          (fun _ _ _ _ _ => pg_name (i := 6) n rfl (.inl rfl)) (fun _ _ _ _ _ => pts_one (pt_cmpR op_in_seq (pv 5) (pe_ix ix_list (pv 2) (pv 6) (fun _ _ => rfl)) (by rfl))) (fun _ _ _ _ _ => pv 6)) pa_nil)))
      (pss_one (ps_ret (pe_callTy call_tuple_of (by rfl) T.tup (by decide +kernel) (pa_cons (pe_lc (own := [("column", 4), ("some", 7)]) (g := g2 K 4 7) (tt := tTest (tOp rEq (tOp (rIxT K) (tVar 7) (tC (.int 0))) (tVar 4))) rfl n (pi_enum (by rfl) T.enu (pa_cons (pv 3) pa_nil)) (blkOk_by (N := nCl) (sc := defScope sCls) (by decide +kernel))
        (fun _ _ _ _ _ => pg_tup rfl (pgs_cons (pg_name (i := 4) n rfl (.inl rfl)) (pgs_cons (pg_name (i := 7) n rfl (.inl rfl)) pgs_nil))) (fun _ _ _ _ _ => pts_one (pt_cmpR op_eq (pe_ix ix_tup (pv 7) pe_int (fun _ _ => rfl)) (pv 4) (nomark _))) (fun _ _ _ _ _ => pv 7)) pa_nil))))), ?_⟩
    have ew : ((w : Nat) : Int).toNat = w := by omega
    have hps6 : ∀ x ∈ ps, x.1 < 6 ∧ x.2 < 6 := fun x hx => ⟨Nat.lt_of_lt_of_le (hps x hx).1 hw, Nat.lt_of_lt_of_le (hps x hx).2 hw⟩
    -- ends
    refine ⟨_, rfl, _, rfl, by omega, by omega, fun B nB => ?_⟩
    refine lc_range (lo := 0) (n := ((w : Nat) : Int).toNat) (fun i H2 => ∃ fss : List (List Nat), MadeF lsd K H B i H2 fss ∧ fss.length = i ∧ ∀ c, c < i → (∀ x, x ∈ fss.getD c [] ↔ Rch ps c x) ∧ (fss.getD c []).Pairwise (· < ·)) ⟨[], MadeF.start, rfl, fun c hc => absurd hc (Nat.not_lt_zero _)⟩ ?_ ?_
    · rintro i H2 hi ⟨fss, p, fl, ff⟩
      have o2 := p.old nB
      refine ⟨rfl, yes_if ?_⟩
      refine ⟨_, rfl, _, rfl, pa_, us, ps, i, by rw [Int.zero_add]; rfl, same_l o2 ha, dps_same o2 _ _ dp, hps6, by omega, hpl, fun pr fs H3 s3 npr hpr hfs hsr => ?_⟩
      obtain ⟨us2, _, pB, _⟩ := id p
      have prB : pr ≠ B := (ne_of_none pB npr).symm
      obtain ⟨acc, a1, a2, a3⟩ := p.push (r := fs) (y := .ref pr) (m := i + 1) (by omega) (Nat.lt_succ_self _) s3 (.lst (.inl (.inl (by rw [wo_ne prB]; exact hpr))) (dps_nms fs))
      refine ⟨acc, a1, a2, fss ++ [fs], a3, by rw [List.length_append, fl]; rfl, fun c hc => ?_⟩
      by_cases e : c < i
      · rw [getD_left (by omega)]
        exact ff c e
      · have : c = i := by omega
        subst this
        rw [← fl, getD_last]
        rw [fl]
        exact ⟨hfs, hsr⟩
    rintro H2 ⟨fss, pB, fl, ff⟩
    rw [ew] at fl ff pB
    have o2 := pB.old nB
    obtain ⟨bu, _, hB, dB, _⟩ := pB
    have dB2 : DpAll K H2 bu (fss.map lsd) := dps_same (wo_le B) _ _ dB
    have get : ∀ {H4 : Hp}, Same H2 H4 → ∀ c, c < w → ∃ pc, bu[c]? = some (.ref pc) ∧ SqL K H4 pc (nms (fss.getD c [])) := fun {H4} o4 c hc => by
      have hc2 : c < fss.length := by omega
      have e1 : (fss.map lsd)[c]? = some (lsd (fss.getD c [])) := by
        rw [List.getElem?_map, List.getElem?_eq_getElem hc2]
        simp [List.getD, List.getElem?_eq_getElem hc2]
      obtain ⟨u, u1, u2⟩ := dps_to dB2 e1
      obtain ⟨pc, rfl, hpc⟩ := lsd_at (dp_same o4 _ _ u2)
      exact ⟨pc, u1, hpc⟩
    obtain ⟨M, hM⟩ : ∃ M : Nat → Nat → Bool, M = fun x y => decide (y ∈ fss.getD x []) := ⟨_, rfl⟩
    have mis : MIs M w ps := fun x y hx hy => by
      rw [hM, decide_eq_true_eq]
      exact (ff x hx).1 y
    have row_is : ∀ c, c < w → fss.getD c [] = (List.range w).filter (M c) := fun c hc => by
      refine inc_eq (ff c hc).2 (List.Pairwise.filter _ List.pairwise_lt_range) fun x => ?_
      rw [List.mem_filter, List.mem_range, hM, decide_eq_true_eq]
      exact ⟨fun z => ⟨Rch.lt hps hc (((ff c hc).1 x).mp z), z⟩, fun z => z.2⟩
    have grp_is : ∀ c, c < w → (fss.getD c []).filter (fun b => decide (c ∈ fss.getD b [])) = grpM M w c := fun c hc => by
      rw [row_is c hc, List.filter_filter]
      unfold grpM
      refine List.filter_congr fun b hb => ?_
      rw [Bool.and_comm]
      rw [hM]
    -- mates
    refine ⟨_, rfl, _, rfl, by omega, by omega, fun D3 n3 => ?_⟩
    refine lc_range (lo := 0) (n := ((w : Nat) : Int).toNat) (fun i H3 => MadeT H2 D3 i H3 ((List.range i).map (grpM M w))) MadeT.start ?_ ?_
    · intro i H3 hi p
      have iw : i < w := by omega
      have o3 := p.old n3
      refine ⟨rfl, yes_if ?_⟩
      rw [Int.zero_add]
      obtain ⟨p1, b1, l1⟩ := get o3 i iw
      refine ⟨_, rfl, _, rfl, B, bu, _, _, rfl, rfl, SqL.of (o3 _ _ hB), atI_nat b1, p1, rfl, ⟨_, l1⟩, fun D4 n4 => ?_⟩
      refine lc_list (xs := nms (fss.getD i [])) (fun j H4 => Same H3 (wo H4 D4) ∧ H4 D4 = some (.lst (nms (((fss.getD i []).take j).filter fun b => decide (i ∈ fss.getD b []))))) ⟨?_, upd_same⟩ (fun j H4 _ z => same_l (z.1.trans (wo_le D4)) l1) ?_ ?_
      · rw [wo_upd]
        exact fun b o e => by rw [wo_ne (ne_of_none e n4)]; exact e
      · rintro j v H4 hv ⟨q1, q2⟩
        obtain ⟨b, hb, rfl⟩ : ∃ b, (fss.getD i [])[j]? = some b ∧ v = .int (b : Int) := by
          rw [nms, List.getElem?_map] at hv
          cases z : (fss.getD i [])[j]? with
          | none => rw [z] at hv; cases hv
          | some m => rw [z] at hv; exact ⟨m, rfl, (Option.some.inj hv).symm⟩
        have hbm : b ∈ fss.getD i [] := List.mem_of_getElem? hb
        have bw : b < w := Rch.lt hps iw (((ff i iw).1 b).mp hbm)
        have o4 : Same H2 H4 := o3.trans (q1.trans (wo_le D4))
        obtain ⟨p2, b2, l2⟩ := get o4 b bw
        refine ⟨rfl, ?_⟩
        refine ⟨_, rfl, _, rfl, _, rfl, B, bu, _, _, rfl, rfl, SqL.of (o4 _ _ hB), atI_nat b2, p2, _, rfl, .inl l2, rfl, nms_flat _, _, rfl, ?_⟩
        rw [show inV (V.int (i : Int)) (nms (fss.getD b [])) = decide (i ∈ fss.getD b []) from nms_in _ _, take1 hb, List.filter_append]
        by_cases e : i ∈ fss.getD b []
        · rw [decide_eq_true e, List.filter_cons_of_pos (p := fun b => decide (i ∈ fss.getD b [])) (decide_eq_true e)]
          have fl6 : (fss.getD i []).length ≤ 6 := by
            rw [row_is i iw]
            have := List.length_filter_le (M i) (List.range w)
            rw [List.length_range] at this
            omega
          have big : (nms (((fss.getD i []).take j).filter fun b => decide (i ∈ fss.getD b []))).length < sizeLine := small1000 (by
            rw [nms_len]
            have := List.length_filter_le (fun b => decide (i ∈ fss.getD b [])) ((fss.getD i []).take j)
            rw [List.length_take] at this
            omega)
          refine iteT ?_
          refine ⟨_, rfl, _, q2, big, ?_, ?_⟩
          · rw [wo_upd]
            exact q1
          · rw [upd_same, nms_app]
            rfl
        · rw [decide_eq_false e, List.filter_cons_of_neg (p := fun b => decide (i ∈ fss.getD b [])) (by rw [decide_eq_false e]; exact Bool.false_ne_true)]
          refine iteF ⟨q1, ?_⟩
          rw [q2]
          simp
      rintro H4 ⟨q1, q2⟩
      rw [nms_len, List.take_length, grp_is i iw] at q2
      have s34 : Same H3 H4 := q1.trans (wo_le D4)
      refine ⟨D4, _, rfl, .inl ⟨SqL.of q2, fun l nl => ?_⟩⟩
      have s35 : Same H3 (upd H4 l (.tup (nms (grpM M w i)))) := s34.trans (same_new nl)
      rw [List.range_succ, List.map_append]
      refine p.push (r := grpM M w i) (by omega) (Nat.lt_succ_self _) s35 ?_
      obtain ⟨us2, _, pD, _⟩ := id p
      have lD : l ≠ D3 := (ne_of_none (s34 _ _ pD) nl).symm
      rw [wo_upd_ne _ lD]
      exact upd_same
    intro H3 p3
    rw [ew] at p3
    have o3 := p3.old n3
    obtain ⟨mu, _, hMt, dM, _⟩ := p3
    have dM3 : TupA H3 mu ((List.range w).map (grpM M w)) := dM.same (wo_le D3)
    have mul : mu.length = w := by rw [dM3.len, List.length_map, List.length_range]
    -- the tuple
    refine ⟨_, rfl, D3, _, rfl, SqL.of hMt, fun D5 n5 => ?_⟩
    refine lc_enum (xs := mu) (fun i H4 => MadeT H3 D5 i H4 (clsTo M w i)) MadeT.start (fun i H4 _ z => SqL.of (z.old n5 _ _ hMt)) ?_ ?_
    · intro i v t H4 hv p nt
      have iw : i < w := by
        have := (List.getElem?_eq_some_iff.mp hv).1
        omega
      obtain ⟨t2, m2, rfl, d1, d2⟩ := dM3.at_ hv
      have ed : m2 = grpM M w i := by
        rw [List.getElem?_map, List.getElem?_range iw] at d1
        exact (Option.some.inj d1).symm
      subst ed
      have o4 := p.old n5
      have ht0 : (upd H4 t (.tup [.int (i : Nat), .ref t2])) t = some (.tup [.int (i : Nat), .ref t2]) := upd_same
      have d3 := (o4.trans (same_new (o := .tup [.int (i : Nat), .ref t2]) nt)) _ _ d2
      have ht2 : SqT K (upd H4 t (.tup [.int (i : Nat), .ref t2])) t2 (nms (grpM M w i)) := .inl (.inl d3)
      have s45 : Same H4 (upd H4 t (.tup [.int (i : Nat), .ref t2])) := same_new nt
      generalize upd H4 t (.tup [.int (i : Nat), .ref t2]) = H5 at ht2 ht0 d3 s45
      have eqr : Eqr M w := ⟨fun x hx => (mis x x hx hx).mpr .refl, fun x y z hx hy hz h1 h2 => (mis x z hx hz).mpr (((mis x y hx hy).mp h1).trans ((mis y z hy hz).mp h2))⟩
      obtain ⟨c, c1, c2, c3⟩ := eqr.head iw
      have at0 : atI (nms (grpM M w i)) 0 = some (.int (c : Int)) := by
        refine atI_nat (j := 0) ?_
        rw [nms, List.getElem?_map, ← List.head?_eq_getElem?, c1]
        rfl
      refine ⟨t, _, rfl, .inl (.inl ht0), rfl, _, _, rfl, _, _, rfl, rfl, rfl, ?_⟩
      refine ⟨_, rfl, t2, _, _, _, rfl, rfl, ht2, at0, _, rfl, rfl, _, rfl, ?_⟩
      rw [clsTo_step, c1]
      by_cases e : c = i
      · subst e
        rw [show decide (V.int (c : Int) = V.int (c : Int)) = true from decide_eq_true rfl, if_pos (show (some c == some c) = true by simp)]
        refine iteT ⟨_, rfl, ?_⟩
        refine p.push (r := grpM M w c) (by omega) (Nat.lt_succ_self _) s45 ?_
        rw [wo_ne (ne_of_none d2 n5)]
        exact s45 _ _ (o4 _ _ d2)
      · rw [show decide (V.int (c : Int) = V.int (i : Int)) = false from decide_eq_false (fun z => e (by injection z with z; omega)), if_neg (show ¬ (some c == some i) = true by simpa using e), List.append_nil]
        exact iteF (p.keep s45 (by omega) rfl)
    intro H4 p4
    rw [mul] at p4
    have o4 := p4.old n5
    obtain ⟨cu, _, hC, dC, _⟩ := p4
    refine ⟨D5, cu, rfl, .inl ⟨SqL.of hC, fun l nl => ?_⟩⟩
    have sH : Same H H4 := o2.trans (o3.trans o4)
    have nl0 : H l = none := sH.free nl
    exact q l cu M _ (sH.trans (same_new nl)) nl0 upd_same (dC.same ((wo_le D5).trans (same_new nl))) mis
end
end CC
/-! a dict comprehension whose keys are tuples -/
namespace DCT
open PySem PySem.Spec PyProof.Rows L2
/-- one more entry, its key a tuple -/
def Ent (D : Addr) (y v : V) (H G : Hp) : Prop := ∃ kvs k b, H D = some (.dT kvs) ∧ y = .ref b ∧ H b = some (.tup (k.map kV)) ∧ kvs.length < sizeLine ∧ G = upd H D (.dT (putK kvs k v))
/-- the comprehension puts one entry -/
theorem put_entry {X : Cx} {pins : List (Addr × Obj)} {σ : L2.St} {H G : Hp} {s : Shared} {E : Value → Shared → Prop} {D : Addr} {y v : V} {key val : Value} {Q : Unit → Shared → Prop} (hu : X.A.units + 1 < cLine)
    (I : Inv X pins σ H s) (g : Ent D y v H G) (ry : RelV y key) (rv : RelV v val)
    (next : ∀ s', Inv X pins σ G s' → Q () s') : wpAny (model X.prog X.w) X.A (dictSet D key val) Q E s := by
  obtain ⟨kvs, k, b, eD, rfl, eb, few, rfl⟩ := g
  obtain rfl : key = Value.ref b := ry
  obtain ⟨few2, big, xs, rel, at_⟩ := dt_of I.hok eD
  have room : xs.length ≤ sizeLine := (Paired.length rel) ▸ few2
  have after : (putK kvs k v).length ≤ sizeLine := Nat.le_trans (length_putK kvs k v) few
  refine wpAny_dictSet_heap (hsz := room) (Nat.lt_of_succ_lt hu) (key_of I.hok eb) at_ (fun h' at' same => next _ ?_)
  obtain ⟨o, es, ep, ho, c1, c2, c3, _, c4⟩ := at'
  have key : KT (upd H D (.dT (putK kvs k v))) (putK kvs k v) _ := (rel.put k eb rv).keeps fun c ys ec => (upd_ne (ne_of ec eD (fun z => nomatch z))).trans ec
  exact d_write I (by rw [eD]; exact True.intro) same ⟨o, ho⟩ ⟨after, big, _, key, o, es, ep, ho, c1, c2, c3, c4⟩
/-- what the comprehension tells: Wv at each turn, falling in its second number -/
def tDcT (wi : TI) (g : TG) (tt : TT) (tk tv : TE) (own : List Nat) : TE := fun σ G Q => wi σ G fun J G1 => ∀ D, G1 D = none →
  ∃ Wv : Nat → Nat → Hp → Prop, (∃ top, Wv 0 top (upd G1 D (.dT []))) ∧ ∀ i top G2, Wv i top G2 →
    (J.stop i G2 ∧ Q (.ref D) G2) ∨ (J.go i G2 ∧ ∃ Nx : Hp → Prop, (∀ G3, Nx G3 → ∃ less, less < top ∧ Wv (i + 1) less G3) ∧
      ∀ x G3, J.yld i G2 x G3 → g x (wipe σ own) G3 fun σ2 G4 => wipe σ2 own = wipe σ own ∧
        tt σ2 G4 fun ok G5 => if ok = true then tk σ2 G5 fun y G6 => tv σ2 G6 fun z G7 => ∃ G8, Ent D y z G7 G8 ∧ Nx G8 else Nx G5)
section
variable {X : Cx} {kx vx tg iter : Expr} {ifs : List Expr} {scope : Scope} {own : List (Str × Nat)} {pos : Pos} {wi : TI} {g : TG} {tt : TT} {tk tv : TE}
/-- the context of a comprehension's block -/
abbrev Blk (X : Cx) (scope : Scope) (t : Shared) (G : Hp) (C : Addr) (cl : List (Str × Addr)) (fp : List Addr) : Cx := X.blk t G scope (compEnvC scope cl C X.env) fp
theorem core {pins : List (Addr × Obj)} {t : Shared} {σ : L2.St} {G : Hp} {Q : VK} {at_ : Pos} {use : Option (Value → Sem Unit)} {Qf : Value → Shared → Prop} (hu : X.A.units + 1 < cLine) (hc : X.calm = true) (hN : X.N.Nodup) (I : Inv X pins σ G t) (hi : PI X tg iter wi) (ok : BlkOk X.N X.env.scope scope own)
    (hg : ∀ t G C cl fp, PG (Blk X scope t G C cl fp) tg g) (ht : ∀ t G C cl fp, PTs (Blk X scope t G C cl fp) ifs tt) (hk : ∀ t G C cl fp, PE (Blk X scope t G C cl fp) kx tk) (he : ∀ t G C cl fp, PE (Blk X scope t G C cl fp) vx tv)
    (hs : ∀ x, foldedSetIterable iter X.env x = pure x) (h : tDcT wi g tt tk tv (own.map (·.2)) σ G Q)
    (fin : ∀ D C t' m G', Inv X pins σ G' t' → Q (.ref D) G' → t'.heap.Ns C m → FpOk X pins G' C → compPost (model X.prog X.w) X.A X.xe use Qf (.ref D) C (.ok .next) t') :
    wpAny (model X.prog X.w) X.A (comprehension (.DictComp kx vx [⟨tg, iter, ifs, 0⟩] scope pos) scope X.env at_ newDict false (eval iter X.env) use) Qf X.xe t := by
  have cells : ∀ y ∈ scope.names, y.2 = .free → ∃ c, X.env.cells.lookup y.1 = some c := fun y hy e => (ok.free y hy e).elim (fun k => I.ok.has _ (.inl k)) (fun k => I.ok.has _ (.inr k))
  refine wpAny_comprehension_free (use := use) rfl hs (closure_ok cells) ok.kind (fun y hy e => by rw [ok.uniq y hy, e]) (thn (hi.run pins t σ G _ I h) fun _ _ hx => thn hx fun _ t2 h2 => ?_)
  obtain ⟨it, fp, tn, J, G2, rfl, I2, T, at2, free2, q⟩ := h2
  refine wpAny_newObj_type ?_; refine newEnv_comp ?_
  obtain ⟨Wv, ⟨top, w0⟩, turn⟩ := q t2.heap.objs.size (I2.hok.fresh (Nat.le_refl _))
  generalize hD : t2.heap.objs.size = D at w0 turn ⊢
  generalize et3 : ({ t2 with heap := t2.heap.push { cls := .type "dict", data := .dict #[] } } : Shared) = t3
  have hp3 : t3.heap = t2.heap.push { cls := .type "dict", data := .dict #[] } := by rw [← et3]
  have I3 : Inv X pins σ (upd G2 D (.dT [])) t3 := by
    subst hD et3
    exact I2.laid (t' := t2.toks) (fun _ _ e => Heap.get?_push_of_some _ e) (Nat.le_refl _) (dt_empty t2.heap I2.big)
  have low : ∀ b ∈ fp, b < t2.heap.objs.size := fun b hb => (T.obj _ _ at2 b hb).elim fun o e => Heap.lt_size e.1
  have free3 : ∀ b ∈ fp, FpOk X pins (upd G2 D (.dT [])) b ∧ b < t3.heap.objs.size := fun b hb =>
    ⟨⟨(upd_ne (hD ▸ Nat.ne_of_lt (low b hb))).trans (free2 b hb).1, (free2 b hb).2⟩, hp3 ▸ (Heap.size_push (h := t2.heap) (o := { cls := .type "dict", data := .dict #[] })) ▸ Nat.lt_succ_of_lt (low b hb)⟩
  have at3 : tn 0 t3.heap := T.keep _ _ _ at2 fun b _ o e => hp3 ▸ Heap.get?_push_of_some _ e
  have I4 := block_start I3 ok hN free3
  obtain ⟨cl, ecl⟩ : ∃ cl, cl = cellsFrom (t3.heap.objs.size + 1) scope.names (cloFrom X.env.cells scope.names []) := ⟨_, rfl⟩
  have pg := hg t3 (upd G2 D (.dT [])) t3.heap.objs.size cl fp
  have pt := ht t3 (upd G2 D (.dT [])) t3.heap.objs.size cl fp
  have pk := hk t3 (upd G2 D (.dT [])) t3.heap.objs.size cl fp
  have pe := he t3 (upd G2 D (.dT [])) t3.heap.objs.size cl fp
  show codeAny _ _ (.compStart (.DictComp kx vx [⟨tg, iter, ifs, 0⟩] scope pos) 0 (.ref it) (.ref D) (compEnvC scope (cellsFrom (t3.heap.objs.size + 1) scope.names (cloFrom X.env.cells scope.names [])) t3.heap.objs.size X.env))
    (compPost (model X.prog X.w) X.A X.xe use Qf (.ref D) t3.heap.objs.size) { t3 with heap := pushCells (t3.heap.push { cls := .type "dict", data := .dict #[] }) scope.names }
  rw [← ecl] at I4 ⊢
  have none3 : ∀ b ∈ fp, (upd G2 D (.dT [])) b = none := fun b hb => (free3 b hb).1.1
  unfold Blk at pg pt pk pe
  generalize ece : compEnvC scope cl t3.heap.objs.size X.env = ce at I4 pg pt pk pe ⊢
  have where_ : ce.locals = t3.heap.objs.size := by rw [← ece]; rfl
  generalize upd G2 D (.dT []) = G3 at I3 I4 pg pt pk pe w0 none3 free3
  generalize et4 : ({ t3 with heap := pushCells (t3.heap.push { cls := .type "dict", data := .dict #[] }) scope.names } : Shared) = t4 at I4 ⊢
  have at4 : tn 0 t4.heap := T.keep _ _ _ at3 fun b _ o e => et4 ▸ pushCells_keeps _ _ _ _ (Heap.get?_push_of_some _ e)
  have calm4 : ∀ {σ' : L2.St} {G' : Hp} {t' : Shared}, Inv (X.blk t3 G3 scope ce fp) [] σ' G' t' → (∀ b ∈ fp, G' b = none) → ∀ b ∈ fp, FpOk (X.blk t3 G3 scope ce fp) [] G' b := fun {σ' G' t'} I' no b hb =>
    ⟨no b hb, (I'.ok.exf b hb).1, I'.ok.exfs b hb, .inl hb, (fun x c e => (I'.ok.exf b hb).2 x c e), fun p hp => nomatch (show p ∈ ([] : List (Addr × Obj)) from by simpa using hp)⟩
  have loop : codeAny (model X.prog X.w) X.A (.compLoop (.DictComp kx vx [⟨tg, iter, ifs, 0⟩] scope pos) 0 (.ref it) (.ref D) ce)
      (compPost (model X.prog X.w) X.A X.xe use Qf (.ref D) t3.heap.objs.size) t4 := by
    refine compLoop_anyD (fun n t' => ∃ i G', Inv (X.blk t3 G3 scope ce fp) [] (wipe σ (own.map (·.2))) G' t' ∧ tn i t'.heap ∧ (∀ b ∈ fp, G' b = none) ∧ Wv i n G') ?_ top ⟨0, G3, I4, at4, none3, w0⟩
    rintro n t5 ⟨i, G5, I5, at5, no5, w5⟩
    rcases turn i n G5 w5 with ⟨stop, qq⟩ | ⟨go, Nx, less, step⟩
    · refine thnF (T.done (X.blk t3 G3 scope ce fp) rfl rfl rfl hc i [] t5 _ G5 (fun _ _ => False) I5 (calm4 I5 no5) at5 stop) fun r t6 ⟨hr, I6⟩ => ?_
      subst hr
      have I7 : Inv X pins σ G5 t6 := I3.call' (ch := fp) I6.os I6.base I6.hok I6.bare fun b hb =>
        have z := (free3 b hb).1
        ⟨z.2.2.2.1, z.2.1, z.2.2.2.2.1, z.2.2.2.2.2⟩
      have gone : G5 t3.heap.objs.size = none := where_ ▸ (show G5 ce.locals = none from I6.free)
      obtain ⟨m, names, _⟩ := I6.loc
      exact fin D _ t6 m G5 I7 qq (where_ ▸ (show t6.heap.Ns ce.locals m from names)) (I3.fpOk (Nat.le_refl _) gone)
    · refine thnF (T.item (X.blk t3 G3 scope ce fp) rfl rfl rfl hc i [] t5 _ G5 (fun _ _ => False) I5 (calm4 I5 no5) at5 go) fun r t6 ⟨u, hr, h6⟩ => ?_
      subst hr
      refine thnF h6 fun _ t7 ⟨x, G7, I7, r7, y7, at7, no7⟩ => ?_
      have J7 := I7.pinned (calm4 I7 no7) (T.obj _ _ at7)
      refine thnF (pg.run _ t7 _ G7 x u _ J7 r7 (step x G7 y7)) fun _ t8 ⟨σ8, G8, I8, same8, q8⟩ => thnF (pt.run _ t8 σ8 G8 _ I8 q8) fun b t9 ⟨G9, I9, q9⟩ => ?_
      have again : ∀ {t' : Shared} {G' : Hp}, Inv (X.blk t3 G3 scope ce fp) ([] ++ pinsAt fp t7.heap) σ8 G' t' → Nx G' →
          ∃ m, m < n ∧ ∃ i G', Inv (X.blk t3 G3 scope ce fp) [] (wipe σ (own.map (·.2))) G' t' ∧ tn i t'.heap ∧ (∀ b ∈ fp, G' b = none) ∧ Wv i m G' := fun {t' G'} I' nx => by
        obtain ⟨m', lt, w'⟩ := less G' nx
        have held : ∀ b ∈ fp, ∀ o, t7.heap.get? b = some o → t'.heap.get? b = some o ∧ G' b = none := fun b hb o e =>
          have z := I'.pin (b, o) (List.mem_append_right _ (List.mem_append_right _ (mem_pinsAt hb e)))
          ⟨z.1, z.2.1⟩
        have len : (wipe σ (own.map (·.2))).length = σ8.length := by rw [← same8, wipe_length]
        exact ⟨m', lt, i + 1, G', (I'.unpinned (pins := [])).weak len (fun j v e => (wipe_some (same8 ▸ e)).1), T.keep _ _ _ at7 (fun b hb o e => (held b hb o e).1), (fun b hb => (T.obj _ _ at7 b hb).elim fun o e => (held b hb o e.1).2), w'⟩
      cases b with
      | false => exact again I9 q9
      | true => exact thnF (pk.run _ t9 σ8 G9 _ I9 q9) fun z t10 ⟨yk, G10, I10, r10, q10⟩ => thnF (pe.run _ t10 σ8 G10 _ I10 q10) fun z2 t11 ⟨yv, G11, I11, r11, G12, ent, nx⟩ =>
          put_entry (X := X.blk t3 G3 scope ce fp) hu I11 ent r10 r11 fun t12 I12 => again I12 nx
  exact codeAny_compStart_dict loop (T.self X.A 0 _ _ _ at4 loop)
/-- a dict comprehension with tuples as its keys -/
theorem pe_dcT (hu : X.A.units + 1 < cLine) (hc : X.calm = true) (hN : X.N.Nodup) (hi : PI X tg iter wi) (ok : BlkOk X.N X.env.scope scope own)
    (hg : ∀ t G C cl fp, PG (Blk X scope t G C cl fp) tg g) (ht : ∀ t G C cl fp, PTs (Blk X scope t G C cl fp) ifs tt) (hk : ∀ t G C cl fp, PE (Blk X scope t G C cl fp) kx tk) (he : ∀ t G C cl fp, PE (Blk X scope t G C cl fp) vx tv)
    (hs : ∀ x, foldedSetIterable iter X.env x = pure x := by intro _; rfl) : PE X (.DictComp kx vx [⟨tg, iter, ifs, 0⟩] scope pos) (tDcT wi g tt tk tv (own.map (·.2))) := by
  constructor
  intro pins t σ G Q I h
  rw [arm_eval_DictComp]
  refine core hu hc hN I hi ok hg ht hk he hs h fun D C t' m G' I' q hn f => ⟨m, hn, fun h2 but => ?_⟩
  exact ⟨.ref D, G', I'.turned (t' := t'.toks) (fun b o hb e => (but.2 b hb).trans e) f.1 f.2.1 f.2.2.2.1 f.2.2.2.2.1 f.2.2.2.2.2, rfl, q⟩
end
end DCT
/-! a dict comprehension with tuples as keys, over a tuple that stays; entries that are new -/
namespace DCT
open PySem PySem.Spec PyProof.Rows L2
theorem over_tup {K : PySem.W.Frag} {a D : Addr} {xs : List V} {g : TG} {tt : TT} {tk tv : TE} {own : List Nat} {σ : L2.St} {G1 : Hp} {Qd : Hp → Prop} (Pv : Nat → Hp → Prop) (first : Pv 0 (upd G1 D (.dT [])))
    (stays : ∀ i G, i ≤ xs.length → Pv i G → SqT K G a xs)
    (turn : ∀ i x G, xs[i]? = some x → Pv i G → g x (wipe σ own) G fun σ2 G2 => wipe σ2 own = wipe σ own ∧ tt σ2 G2 fun ok G3 => if ok = true then tk σ2 G3 fun y G4 => tv σ2 G4 fun z G5 => ∃ G6, Ent D y z G5 G6 ∧ Pv (i + 1) G6 else Pv (i + 1) G3)
    (last : ∀ G, Pv xs.length G → Qd G) :
    ∃ Wv : Nat → Nat → Hp → Prop, (∃ top, Wv 0 top (upd G1 D (.dT []))) ∧ ∀ i top G2, Wv i top G2 →
      ((Itt K a).stop i G2 ∧ Qd G2) ∨ ((Itt K a).go i G2 ∧ ∃ Nx : Hp → Prop, (∀ G3, Nx G3 → ∃ less, less < top ∧ Wv (i + 1) less G3) ∧
        ∀ x G3, (Itt K a).yld i G2 x G3 → g x (wipe σ own) G3 fun σ2 G4 => wipe σ2 own = wipe σ own ∧
          tt σ2 G4 fun ok G5 => if ok = true then tk σ2 G5 fun y G6 => tv σ2 G6 fun z G7 => ∃ G8, Ent D y z G7 G8 ∧ Nx G8 else Nx G5) := by
  refine ⟨fun i top G => top + i = xs.length ∧ Pv i G, ⟨xs.length, rfl, first⟩, fun i top G2 ⟨e, p⟩ => ?_⟩
  have q := stays i G2 (by omega) p
  rcases Nat.eq_zero_or_pos top with z | z
  · obtain rfl : i = xs.length := by omega
    exact .inl ⟨⟨xs, q, Nat.le_refl _⟩, last G2 p⟩
  · have lt : i < xs.length := by omega
    refine .inr ⟨⟨xs, xs[i], q, by simp [lt]⟩, Pv (i + 1), fun G3 p3 => ⟨top - 1, by omega, by omega, p3⟩, fun x G3 y => ?_⟩
    obtain ⟨rfl, y⟩ := y
    exact turn i x _ (y xs q) p
/-- a key that was not there comes last -/
theorem put_new {κ : Type} [DecidableEq κ] {kvs : List (κ × V)} {k : κ} {v : V} (h : valV kvs k = none) : putK kvs k v = kvs ++ [(k, v)] := by
  unfold putK
  refine if_neg fun there => ?_
  obtain ⟨p, hp, e⟩ := List.any_eq_true.mp there
  unfold valV at h
  exact List.find?_eq_none.mp (Option.map_eq_none_iff.mp h) p hp e
theorem val_none {κ : Type} [DecidableEq κ] {kvs : List (κ × V)} {k : κ} (h : ∀ p ∈ kvs, p.1 ≠ k) : valV kvs k = none := by
  unfold valV
  rw [Option.map_eq_none_iff, List.find?_eq_none]
  intro p hp e
  exact h p hp (of_decide_eq_true e)
/-- an entry with a new key -/
theorem ent_new {D b : Addr} {H : Hp} {kvs : List (List Key × V)} {k : List Key} {v : V} (hD : H D = some (.dT kvs)) (hb : H b = some (.tup (k.map kV))) (few : kvs.length < sizeLine) (new : ∀ p ∈ kvs, p.1 ≠ k) : Ent D (.ref b) v H (upd H D (.dT (kvs ++ [(k, v)]))) := by
  rw [← put_new (v := v) (val_none new)]
  exact ⟨kvs, k, b, hD, rfl, hb, few, rfl⟩
end DCT
namespace CC
open PySem L2
/-! ### dicts whose keys are tuples of columns, by what each entry is -/
def kyN (m : List Nat) : List Key := m.map fun (n : Nat) => (Sum.inl (n : Int) : Key)
theorem kyN_kV (m : List Nat) : (kyN m).map kV = nms m := by
  unfold kyN nms
  rw [List.map_map]
  rfl
theorem kyN_inj : ∀ {a b : List Nat}, kyN a = kyN b → a = b
  | [], [], _ => rfl
  | [], _ :: _, h => by simp [kyN] at h
  | _ :: _, [], h => by simp [kyN] at h
  | x :: a, y :: b, h => by
    simp only [kyN, List.map_cons, List.cons.injEq, Sum.inl.injEq] at h
    rw [show x = y by omega, kyN_inj (a := a) (b := b) h.2]
inductive EntA (Pd : Hp → List Nat → V → Prop) (H : Hp) : List (List Key × V) → List (List Nat) → Prop
  | nil : EntA Pd H [] []
  | cons {c : List Nat} {v : V} {kvs : List (List Key × V)} {cs : List (List Nat)} : Pd H c v → EntA Pd H kvs cs → EntA Pd H ((kyN c, v) :: kvs) (c :: cs)
section
variable {Pd Pd' : Hp → List Nat → V → Prop} {H H' : Hp} {kvs : List (List Key × V)} {cs : List (List Nat)} {c : List Nat} {v : V}
theorem EntA.map (f : ∀ c v, Pd H c v → Pd' H' c v) (t : EntA Pd H kvs cs) : EntA Pd' H' kvs cs := by
  induction t with
  | nil => exact .nil
  | cons h _ ih => exact .cons (f _ _ h) ih
theorem EntA.app (t : EntA Pd H kvs cs) (h : Pd H c v) : EntA Pd H (kvs ++ [(kyN c, v)]) (cs ++ [c]) := by
  induction t with
  | nil => exact .cons h .nil
  | cons h2 _ ih => exact .cons h2 ih
theorem EntA.keys (t : EntA Pd H kvs cs) : kvs.map (·.1) = cs.map kyN := by
  induction t with
  | nil => rfl
  | cons _ _ ih => rw [List.map_cons, List.map_cons, ih]
theorem EntA.len (t : EntA Pd H kvs cs) : kvs.length = cs.length := by
  have := congrArg List.length t.keys
  rwa [List.length_map, List.length_map] at this
/-- a key that is not among them -/
theorem EntA.new (t : EntA Pd H kvs cs) (h : c ∉ cs) : ∀ p ∈ kvs, p.1 ≠ kyN c := fun p hp e => by
  have m : kyN c ∈ cs.map kyN := by
    rw [← t.keys, ← e]
    exact List.mem_map.mpr ⟨p, hp, rfl⟩
  obtain ⟨d, hd, e2⟩ := List.mem_map.mp m
  rw [kyN_inj e2] at hd
  exact h hd
theorem EntA.get (t : EntA Pd H kvs cs) (h : c ∈ cs) : ∃ v, valV kvs (kyN c) = some v ∧ Pd H c v := by
  induction t with
  | nil => cases h
  | @cons d u kvs cs h2 _ ih =>
    by_cases e : kyN d = kyN c
    · have e2 := kyN_inj e
      subst e2
      exact ⟨u, valV_pos rfl, h2⟩
    · obtain ⟨v, h3, h4⟩ := ih ((List.mem_cons.mp h).resolve_left fun z => e (by rw [z]))
      refine ⟨v, ?_, h4⟩
      unfold valV at h3 ⊢
      rw [List.find?_cons_of_neg (by simpa using e)]
      exact h3
/-- one more entry -/
theorem EntA.put {D b : Addr} (t : EntA Pd (wo H D) kvs cs) (hD : H D = some (.dT kvs)) (hb : H b = some (.tup (nms c))) (few : cs.length < 1000) (new : c ∉ cs) (h : Pd (wo H D) c v) :
    ∃ G, DCT.Ent D (.ref b) v H G ∧ G = upd H D (.dT (kvs ++ [(kyN c, v)])) ∧ EntA Pd (wo G D) (kvs ++ [(kyN c, v)]) (cs ++ [c]) := by
  refine ⟨_, DCT.ent_new hD (by rw [kyN_kV]; exact hb) (by rw [t.len]; exact Nat.lt_of_lt_of_le few (by decide)) (t.new new), rfl, ?_⟩
  rw [wo_upd]
  exact t.app h
end
end CC
/-! rows as data: equal, in, shaped; the last of several equal rows taken out -/
namespace RW
open PySem L2 CC
theorem eqv_nums : ∀ m l : List Nat, PyData.eqvAll (m.map fun (n : Nat) => PyData.int (n : Int)) (l.map fun (n : Nat) => PyData.int (n : Int)) = decide (m = l)
  | [], [] => by simp [PyData.eqvAll]
  | [], _ :: _ => by simp [PyData.eqvAll]
  | _ :: _, [] => by simp [PyData.eqvAll]
  | a :: m, b :: l => by
    have ih := eqv_nums m l
    simp only [List.map_cons, PyData.eqvAll, PyData.eqv, ih]
    by_cases e : a = b
    · subst e
      simp
    · simp only [List.cons.injEq, e, false_and, decide_false, Bool.and_eq_false_imp, beq_iff_eq]
      intro z
      exact absurd (by omega) e
theorem gd_eqv (m l : List Nat) : PyData.eqv (gd m) (gd l) = decide (m = l) := by
  show PyData.eqvAll _ _ = _
  exact eqv_nums m l
theorem gds_any (ms : List (List Nat)) (m : List Nat) : ((ms.map gd).any fun z => PyData.eqv z (gd m)) = decide (m ∈ ms) := by
  induction ms with
  | nil => simp
  | cons x ms ih =>
    rw [List.map_cons, List.any_cons, ih, gd_eqv]
    by_cases h : x = m
    · simp [h]
    · have : ¬ m = x := fun z => h z.symm
      simp [h, this]
theorem nums_lay (m : List Nat) : PyData.canLayAll0 (m.map fun (n : Nat) => PyData.int (n : Int)) = true ∧ PyData.depthAll (m.map fun (n : Nat) => PyData.int (n : Int)) = 0 := by
  induction m with
  | nil => simp [PyData.canLayAll0, PyData.depthAll]
  | cons x m ih => simp [PyData.canLayAll0, PyData.depthAll, PyData.canLay0, PyData.depth, ih.1, ih.2]
theorem gd_shp (m : List Nat) : SeqAt.shaped (gd m) = true := by
  show ((gd m).canLay0 && decide ((gd m).depth ≤ 64)) = true
  simp [gd, PyData.canLay0, PyData.depth, (nums_lay m).1, (nums_lay m).2]
theorem gdl_lay (ms : List (List Nat)) : PyData.canLayAll0 (ms.map gd) = true ∧ PyData.depthAll (ms.map gd) ≤ 1 := by
  induction ms with
  | nil => simp [PyData.canLayAll0, PyData.depthAll]
  | cons m ms ih =>
    have g := nums_lay m
    simp only [List.map_cons, PyData.canLayAll0, PyData.depthAll, gd, PyData.canLay0, PyData.depth, g.1, g.2, Bool.true_and]
    refine ⟨ih.1, ?_⟩
    have := ih.2
    unfold gd at this
    omega
theorem gdl_shp (ms : List (List Nat)) : SeqAt.shaped (.list (ms.map gd)) = true := by
  have h := gdl_lay ms
  show ((PyData.list (ms.map gd)).canLay0 && decide ((PyData.list (ms.map gd)).depth ≤ 64)) = true
  simp only [PyData.canLay0, PyData.depth, h.1, Bool.true_and]
  exact decide_eq_true (by have := h.2; omega)
/-- the rows without the last one that is equal to this one -/
def dropR (rows : List (List Nat)) (row : List Nat) : List (List Nat) := (rows.reverse.erase row).reverse
theorem dropR_len {rows : List (List Nat)} {row : List Nat} (h : row ∈ rows) : (dropR rows row).length + 1 = rows.length := by
  unfold dropR
  have hm : row ∈ rows.reverse := List.mem_reverse.mpr h
  have := List.length_pos_of_mem h
  rw [List.length_reverse, List.length_erase_of_mem hm, List.length_reverse]
  omega
theorem dropR_mem {rows : List (List Nat)} {row x : List Nat} (h : x ∈ dropR rows row) : x ∈ rows := by
  unfold dropR at h
  exact List.mem_reverse.mp (List.mem_of_mem_erase (List.mem_reverse.mp h))
theorem dropR_at {rows : List (List Nat)} {row : List Nat} {p : Nat} (h : rows[p]? = some row) (last : ∀ j, p < j → rows[j]? ≠ some row) : rows.eraseIdx p = dropR rows row := by
  have pl := (List.getElem?_eq_some_iff.mp h).1
  have hp : rows[p] = row := (List.getElem?_eq_some_iff.mp h).2
  have e : rows = rows.take p ++ row :: rows.drop (p + 1) := by
    rw [← hp, ← List.drop_eq_getElem_cons pl, List.take_append_drop]
  have nb : row ∉ rows.drop (p + 1) := fun z => by
    obtain ⟨i, hi⟩ := List.mem_iff_getElem?.mp z
    rw [List.getElem?_drop] at hi
    exact last _ (by omega) hi
  have ta : (rows.take p).length = p := by rw [List.length_take]; omega
  have e1 : rows.eraseIdx p = rows.take p ++ rows.drop (p + 1) := List.eraseIdx_eq_take_drop_succ ..
  rw [e1]
  generalize rows.take p = a at e
  generalize rows.drop (p + 1) = b at e nb
  subst e
  unfold dropR
  rw [List.reverse_append, List.reverse_cons, List.append_assoc, List.erase_append_right _ (by simpa using nb)]
  simp
theorem cut_step {rows : List (List Nat)} {i p : Nat} {x : List Nat} (h : rows[i]? = some x) : (rows.take (i + 1)).eraseIdx p = (rows.take i).eraseIdx p ++ (if i = p then [] else [x]) := by
  have il := (List.getElem?_eq_some_iff.mp h).1
  have ta : (rows.take i).length = i := by rw [List.length_take]; omega
  rw [List.take_succ, h]
  show (rows.take i ++ [x]).eraseIdx p = _
  by_cases e : i = p
  · subst e
    rw [if_pos rfl, List.append_nil, List.eraseIdx_append_of_length_le (by omega), ta, Nat.sub_self, List.eraseIdx_of_length_le (l := rows.take i) (by omega)]
    simp
  · rw [if_neg e]
    by_cases lt : p < i
    · rw [List.eraseIdx_append_of_lt_length (by omega)]
    · rw [List.eraseIdx_append_of_length_le (by omega), List.eraseIdx_of_length_le (l := rows.take i) (by omega), List.eraseIdx_of_length_le (l := [x]) (by simp; omega)]
/-- the places of a row among the first i -/
structure Plc (rows : List (List Nat)) (row : List Nat) (i : Nat) (ns : List Nat) : Prop where
  is : ∀ j ∈ ns, j < i ∧ rows[j]? = some row
  all : ∀ j, j < i → rows[j]? = some row → j ∈ ns
  up : ns.Pairwise (· < ·)
theorem Plc.nil {rows : List (List Nat)} {row : List Nat} : Plc rows row 0 [] := ⟨(fun j hj => nomatch hj), (fun j hj => absurd hj (Nat.not_lt_zero _)), List.Pairwise.nil⟩
theorem Plc.yes {rows : List (List Nat)} {row : List Nat} {i : Nat} {ns : List Nat} (h : Plc rows row i ns) (e : rows[i]? = some row) : Plc rows row (i + 1) (ns ++ [i]) := by
  refine ⟨fun j hj => ?_, fun j hj ej => ?_, List.pairwise_append.mpr ⟨h.up, by simp, fun a ha b hb => ?_⟩⟩
  · rcases List.mem_append.mp hj with z | z
    · exact ⟨Nat.lt_succ_of_lt (h.is j z).1, (h.is j z).2⟩
    · rw [List.mem_singleton.mp z]
      exact ⟨Nat.lt_succ_self _, e⟩
  · by_cases z : j = i
    · rw [z]
      exact List.mem_append_right _ (List.mem_singleton.mpr rfl)
    · exact List.mem_append_left _ (h.all j (by omega) ej)
  · rw [List.mem_singleton.mp hb]
    exact (h.is a ha).1
theorem Plc.no {rows : List (List Nat)} {row : List Nat} {i : Nat} {ns : List Nat} (h : Plc rows row i ns) (e : rows[i]? ≠ some row) : Plc rows row (i + 1) ns := by
  refine ⟨fun j hj => ⟨Nat.lt_succ_of_lt (h.is j hj).1, (h.is j hj).2⟩, fun j hj ej => ?_, h.up⟩
  by_cases z : j = i
  · rw [z] at ej
    exact absurd ej e
  · exact h.all j (by omega) ej
theorem Plc.len {rows : List (List Nat)} {row : List Nat} {i : Nat} {ns : List Nat} (h : Plc rows row i ns) (hi : i ≤ 400) : ns.length ≤ 400 := by
  have nd : ns.Nodup := h.up.imp fun z => Nat.ne_of_lt z
  have := SG.sub_len (r := List.range i) nd fun x hx => List.mem_range.mpr (h.is x hx).1
  rw [List.length_range] at this
  omega
/-- the last of them -/
theorem Plc.last {rows : List (List Nat)} {row : List Nat} {ns : List Nat} (h : Plc rows row rows.length ns) (hm : row ∈ rows) : ∃ ms p, ns = ms ++ [p] ∧ rows.eraseIdx p = dropR rows row := by
  obtain ⟨i, hi⟩ := List.mem_iff_getElem?.mp hm
  have im := h.all i (List.getElem?_eq_some_iff.mp hi).1 hi
  have ne : ns ≠ [] := fun z => by rw [z] at im; cases im
  obtain ⟨ms, p, rfl⟩ : ∃ u x, ns = u ++ [x] := ⟨_, _, (List.dropLast_concat_getLast ne).symm⟩
  refine ⟨ms, p, rfl, dropR_at (h.is p (by simp)).2 fun j hj ej => ?_⟩
  have jm := h.all j (List.getElem?_eq_some_iff.mp ej).1 ej
  rcases List.mem_append.mp jm with z | z
  · have := (List.pairwise_append.mp h.up).2.2 j z p (by simp)
    omega
  · rw [List.mem_singleton.mp z] at hj
    omega
end RW
namespace CC
open PySem L2 TL
theorem lc_zipT {K : PySem.W.Frag} {a b : Addr} {xs ys : List V} {g : TG} {tt : TT} {te : TE} {vs : List Nat} {σ : L2.St} {H1 : Hp} {D : Addr} {Qd : Hp → Prop} (hn : ys.length ≤ xs.length) (Pv : Nat → Hp → Prop) (h0 : Pv 0 (upd H1 D (.lst []))) (hl : ∀ i H, Pv i H → SqT K H a xs ∧ SqT K H b ys)
    (hs : ∀ i x y T H, xs[i]? = some x → ys[i]? = some y → Pv i H → H T = none → g (.ref T) (wipe σ vs) (upd H T (.tup [x, y])) fun σ2 H2 => wipe σ2 vs = wipe σ vs ∧ tt σ2 H2 fun b H3 =>
      if b = true then te σ2 H3 fun y H4 => ∃ acc, H4 D = some (.lst acc) ∧ acc.length < sizeLine ∧ Pv (i + 1) (upd H4 D (.lst (acc ++ [y]))) else Pv (i + 1) H3) (hd : ∀ H, Pv ys.length H → Qd H) :
    ∃ W : Nat → Nat → Hp → Prop, (∃ m, W 0 m (upd H1 D (.lst []))) ∧ ∀ i m H, W i m H →
      ((RZ.ItzT K a b).stop i H ∧ Qd H) ∨ ((RZ.ItzT K a b).go i H ∧ ∃ Nx : Hp → Prop, (∀ H', Nx H' → ∃ m', m' < m ∧ W (i + 1) m' H') ∧ ∀ x H', (RZ.ItzT K a b).yld i H x H' → g x (wipe σ vs) H' fun σ2 H2 => wipe σ2 vs = wipe σ vs ∧ tt σ2 H2 fun b H3 =>
        if b = true then te σ2 H3 fun y H4 => ∃ acc, H4 D = some (.lst acc) ∧ acc.length < sizeLine ∧ Nx (upd H4 D (.lst (acc ++ [y]))) else Nx H3) := by
  refine ⟨fun i m H => m = ys.length - i ∧ i ≤ ys.length ∧ Pv i H, ⟨ys.length, by simp, Nat.zero_le _, h0⟩, ?_⟩
  rintro i m H ⟨rfl, hi, p⟩
  obtain ⟨q1, q2⟩ := hl i H p
  by_cases lt : i < ys.length
  · have g1 : xs[i]? = some xs[i] := List.getElem?_eq_getElem (by omega)
    have g2 : ys[i]? = some ys[i] := List.getElem?_eq_getElem lt
    refine .inr ⟨⟨xs, ys, _, _, q1, q2, g1, g2⟩, Pv (i + 1), fun H' p' => ⟨ys.length - (i + 1), by omega, rfl, lt, p'⟩, fun v H' y => ?_⟩
    obtain ⟨T, x, y, rfl, nT, rfl, h1, h2⟩ := y
    exact hs i x y T H (h1 xs q1) (h2 ys q2) p nT
  · have e : i = ys.length := by omega
    subst e
    exact .inl ⟨⟨xs, ys, q1, q2, .inr (Nat.le_refl _)⟩, hd H p⟩
theorem iteT' {p q : Prop} {b : Bool} (h : b = true) (x : p) : if b = true then p else q := by
  rw [if_pos h]
  exact x
theorem iteF' {p q : Prop} {b : Bool} (h : b = false) (x : q) : if b = true then p else q := by
  rw [if_neg (by rw [h]; decide)]
  exact x
end CC
namespace CC
open PySem L2
/-! ### classes_below: for each class the others that it leads to -/
abbrev sCb : Stmt := tp 32
abbrev nCb : List Str := ["width", "pairs", "classes", "ends", "one", "other"]
/-- the other classes that a class leads to -/
def belM (M : Nat → Nat → Bool) (cs : List (List Nat)) (c : List Nat) : List (List Nat) := cs.filter fun o => decide (o ≠ c) && M (c.headD 0) (o.headD 0)
/-- an entry of ends -/
def EndP (ps : List (Nat × Nat)) (H : Hp) (c : List Nat) (v : V) : Prop := ∃ p fs, v = .ref p ∧ H p = some (.lst (nms fs)) ∧ ∀ x, x ∈ fs ↔ Rch ps (c.headD 0) x
/-- an entry of what there is below -/
def BelP (f : List Nat → List (List Nat)) (H : Hp) (c : List Nat) (v : V) : Prop := ∃ l us, v = .ref l ∧ H l = some (.lst us) ∧ TupA H us (f c)
theorem EndP.same {ps : List (Nat × Nat)} {H H' : Hp} {c : List Nat} {v : V} (h : EndP ps H c v) (e : Same H H') : EndP ps H' c v := by
  obtain ⟨p, fs, h1, h2, h3⟩ := h
  exact ⟨p, fs, h1, e _ _ h2, h3⟩
theorem BelP.same {f : List Nat → List (List Nat)} {H H' : Hp} {c : List Nat} {v : V} (h : BelP f H c v) (e : Same H H') : BelP f H' c v := by
  obtain ⟨l, us, h1, h2, h3⟩ := h
  exact ⟨l, us, h1, e _ _ h2, h3.same e⟩
section
variable {M : Nat → Nat → Bool} {w i : Nat} {c : List Nat}
theorem TupA.out {H : Hp} {D : Addr} {kvs : List (List Key × V)} {us : List V} {rs : List (List Nat)} (t : TupA H us rs) (hD : H D = some (.dT kvs)) : TupA (wo H D) us rs := by
  induction t with
  | nil => exact .nil
  | @cons a m _ _ h _ ih =>
    have ne : a ≠ D := fun z => by
      rw [z, hD] at h
      cases h
    exact .cons ((wo_ne ne).trans h) ih
theorem cls_memB (h : c ∈ clsM M w) : ∃ a t, a < w ∧ c = a :: t := by
  unfold clsM at h
  obtain ⟨a, ha, rfl⟩ := List.mem_map.mp h
  obtain ⟨h1, h2⟩ := List.mem_filter.mp ha
  have h3 : (grpM M w a).head? = some a := by simpa using h2
  cases e : grpM M w a with
  | nil => rw [e] at h3; cases h3
  | cons b t =>
    rw [e] at h3
    cases h3
    exact ⟨_, t, List.mem_range.mp h1, rfl⟩
theorem cls_nodupB : (clsM M w).Nodup := (show (clsTo M w w).Nodup from (clsTo_heads w).imp fun ⟨a, b, h1, h2, lt⟩ e => by
  subst e
  rw [h1] at h2
  injection h2 with h2
  omega)
theorem cls_len : (clsM M w).length ≤ w := clsTo_len w
theorem take_new {cs : List (List Nat)} (nd : cs.Nodup) (h : cs[i]? = some c) : c ∉ cs.take i := fun m => by
  obtain ⟨j, hj, e⟩ := List.mem_iff_getElem.mp m
  rw [List.length_take] at hj
  rw [List.getElem_take] at e
  obtain ⟨hi, e2⟩ := List.getElem?_eq_some_iff.mp h
  exact List.pairwise_iff_getElem.mp nd j i (by omega) hi (by omega) (e.trans e2.symm)
end
def spCb (K : PySem.W.Frag) : Sp := fun vs H Q _ => ∃ (w : Nat) (a : Addr) (us : List V) (ps : List (Nat × Nat)), vs = [.int (w : Int), .ref a] ∧ w ≤ 6 ∧ SqL K H a us ∧ DpAll K H us (ps.map prd) ∧ (∀ x ∈ ps, x.1 < w ∧ x.2 < w) ∧ ps.length ≤ 1000 ∧
  ∀ (d : Addr) (kvs : List (List Key × V)) (M : Nat → Nat → Bool) (H' : Hp), Same H H' → H d = none → H' d = some (.dT kvs) → EntA (BelP (belM M (clsM M w))) H' kvs (clsM M w) → MIs M w ps → Q (.ref d) H'
def retVal1 : Stmt → Expr
  | .Return (some v) _ => v
  | _ => .Constant .none 0 ⟨0, 0, 0, 0⟩
def dcSc1 : Expr → Scope
  | .DictComp _ _ _ sc _ => sc
  | _ => { kind := .function, names := [], isGenerator := false, isCoroutine := false }
abbrev scCb1 : Scope := dcSc1 (retVal1 ((defBody sCb).getD 2 (.Pass ⟨0, 0, 0, 0⟩)))
section
variable {P : Program} {w : World} {K : PySem.W.Frag} {mg : Str → Option Value} {base : Heap} {kA : Addr}
theorem scCb : FnScope nCb ["width", "pairs"] (defScope sCb) := ⟨rfl, rfl, rfl, by decide +kernel, rfl, by decide +kernel, by decide +kernel⟩
theorem ok_cb {f : Addr} {fd : FuncData} {k : Nat} (F : Fun K "classes_below" "classes_below" sCb f fd) (T : Glb K mg kA) (cC : Cal P w K mg base "classes_of" ["width", "pairs"] (spClsT K) 3) (cR : Cal P w K mg base "reached" ["pairs", "start"] (spReached K) 2) : FnOk P w K mg base CX0 (k + 4) f fd ["width", "pairs"] (spCb K) := by
  have GC := cC.ok (k + 3) (by omega)
  have GR := cR.ok (k + 3) (by omega)
  refine F.ok scCb (fun vs H Q E h => ?_) (fun cdv A outer s H vs Q E hr h => ?_)
  · obtain ⟨w, a, us, ps, rfl, _⟩ := h
    rfl
  · obtain ⟨w, pa_, us, ps, rfl, hw, ha, dp, hps, hpl, q⟩ := h
    have n := scCb.nd
    have hu1 : (A.deeper (PyProof.Rows.envOfC (Str.ofString "classes_below") (defScope sCb) s.heap.objs.size f cdv)).units + 1 < cLine := by
      have := hr.un
      omega
    have hu64 : (A.deeper (PyProof.Rows.envOfC (Str.ofString "classes_below") (defScope sCb) s.heap.objs.size f cdv)).units + 64 < cLine := by
      have := hr.un
      omega
    refine ⟨_, (pss_cons (ps_set (i := 2) n rfl (.inr rfl) (pe_call GC hr rfl cC.g cC.kp cC.b .nil pass0 (pa_cons (pv 0) (pa_cons (pv 1) pa_nil))))
      (pss_cons (ps_set (i := 3) n rfl (.inr rfl) (DCT.pe_dcT (own := [("one", 4)]) (g := gName 4) (tt := tYes) (tk := tVar 4) (tv := tCall (spReached K) [] E0 (tCons (tVar 1) (tCons (tOp (rIxT K) (tVar 4) (tC (.int 0))) tNil))) hu1 rfl n (pi_tup (pv 2)) (blkOk_by (N := nCb) (sc := defScope sCb) (by decide +kernel)) (fun _ _ _ _ _ => (pg_name (i := 4) n rfl (.inl rfl))) (fun _ _ _ _ _ => pts_nil) (fun _ _ _ _ _ => (pv 4)) (fun _ _ _ _ _ => (pe_call GR hr rfl cR.g cR.kp cR.b .nil pass0 (pa_cons (pv 1) (pa_cons (pe_ix ix_tup (pv 4) pe_int (fun _ _ => rfl)) pa_nil))))))
      (pss_one (ps_ret (DCT.pe_dcT (own := [("one", 4)]) (g := gName 4) (tt := tYes) (tk := tVar 4) (tv := tLc (iTup K (tVar 2)) (gName 5) (tAnd (tTest (tOp (rNeD K) (tVar 5) (tVar 4))) (tTest (tOp (rIn K false) (tOp (rIxT K) (tVar 5) (tC (.int 0))) (tDGet (tVar 3) (tVar 4))))) (tVar 5) [5]) hu1 rfl n (pi_tup (pv 2)) (blkOk_by (N := nCb) (sc := defScope sCb) (by decide +kernel)) (fun _ _ _ _ _ => (pg_name (i := 4) n rfl (.inr rfl))) (fun _ _ _ _ _ => pts_nil) (fun _ _ _ _ _ => (pv 4))
        (fun _ _ _ _ _ => (pe_lc (own := [("other", 5)]) (g := gName 5) (tt := (tAnd (tTest (tOp (rNeD K) (tVar 5) (tVar 4))) (tTest (tOp (rIn K false) (tOp (rIxT K) (tVar 5) (tC (.int 0))) (tDGet (tVar 3) (tVar 4)))))) rfl n (pi_tup (pv 2)) (blkOk_by (N := nCb) (sc := relS scCb1 (defScope sCb)) (by decide +kernel)) (fun _ _ _ _ _ => (pg_name (i := 5) n rfl (.inl rfl))) (fun _ _ _ _ _ => pts_one (PW.pt (pw_and (pt_cmpR (r := rNeD K) (op_neD hu64) (pv 5) (pv 4) (nomark _)) (pw_and1 (pt_cmpR op_in_seq (pe_ix ix_tup (pv 5) pe_int (fun _ _ => rfl)) (pe_dget hu1 (pv 3) (pv 4) (fun _ _ => rfl)) (by rfl)))))) (fun _ _ _ _ _ => (pv 5))))))))), ?_⟩
    refine ⟨_, rfl, _, rfl, w, pa_, us, ps, rfl, hw, ha, dp, hps, hpl, fun l cu M H1 s1 nl hl tu mis => ?_⟩
    have hps6 : ∀ x ∈ ps, x.1 < 6 ∧ x.2 < 6 := fun x hx => ⟨Nat.lt_of_lt_of_le (hps x hx).1 hw, Nat.lt_of_lt_of_le (hps x hx).2 hw⟩
    refine ⟨_, rfl, l, rfl, ⟨cu, .inl (.inl hl)⟩, fun D1 nD1 => ?_⟩
    refine DCT.over_tup (xs := cu) (fun i G => ∃ kvs, Same H1 (wo G D1) ∧ G D1 = some (.dT kvs) ∧ EntA (EndP ps) (wo G D1) kvs ((clsM M w).take i)) ⟨[], ?_, upd_same, .nil⟩ (fun i G _ ⟨_, e, _⟩ => .inl (.inl (wo_le D1 _ _ (e _ _ hl)))) ?_ ?_
    · rw [wo_upd]
      exact fun b o e => by
        rw [wo_ne (ne_of_none e nD1)]
        exact e
    · rintro i x G hx ⟨kvs, e, hD, en⟩
      obtain ⟨t, c, rfl, hc, ht⟩ := tu.at_ hx
      obtain ⟨a, tl, aw, ec⟩ := cls_memB (List.mem_of_getElem? hc)
      have o2 := e.trans (wo_le D1)
      have at0 : atI (nms c) 0 = some (.int (a : Int)) := by
        rw [ec]
        exact atI_nat (j := 0) rfl
      refine ⟨rfl, yes_if ?_⟩
      refine ⟨_, rfl, _, rfl, _, rfl, t, _, _, _, rfl, rfl, .inl (.inl (o2 _ _ ht)), at0, pa_, us, ps, a, rfl, same_l (s1.trans o2) ha, dps_same (s1.trans o2) _ _ dp, hps6, by omega, hpl, fun pr fs H3 s3 npr hpr hfs hsr => ?_⟩
      have en3 : EntA (EndP ps) (wo H3 D1) kvs ((clsM M w).take i) := en.map fun c v h => h.same (wo_same s3)
      have hD3 := s3 _ _ hD
      have few : ((clsM M w).take i).length < 1000 := by
        have := cls_len (M := M) (w := w)
        rw [List.length_take]
        omega
      have prD : pr ≠ D1 := (ne_of_none hD npr).symm
      obtain ⟨G6, ent, eG, en6⟩ := en3.put (v := .ref pr) hD3 (s3 _ _ (o2 _ _ ht)) few (take_new cls_nodupB hc) ⟨pr, fs, rfl, by rw [wo_ne prD]; exact hpr, fun x => by rw [ec]; exact hfs x⟩
      refine ⟨G6, ent, _, ?_, by rw [eG]; exact upd_same, ?_⟩
      · rw [eG, wo_upd]
        exact e.trans (wo_same s3)
      · rw [SG.take_one hc]
        exact en6
    rintro G ⟨kvs, e, hD, en⟩
    rw [tu.len, List.take_length] at en
    have o1 : Same H1 G := e.trans (wo_le D1)
    have enG : EntA (EndP ps) G kvs (clsM M w) := en.map fun c v h => h.same (wo_le D1)
    have hlG := o1 _ _ hl
    refine ⟨_, rfl, l, rfl, ⟨cu, .inl (.inl hlG)⟩, fun D2 nD2 => ?_⟩
    refine DCT.over_tup (xs := cu) (fun i G2 => ∃ kvs2, Same G (wo G2 D2) ∧ G2 D2 = some (.dT kvs2) ∧ EntA (BelP (belM M (clsM M w))) (wo G2 D2) kvs2 ((clsM M w).take i)) ⟨[], ?_, upd_same, .nil⟩ (fun i G2 _ ⟨_, e, _⟩ => .inl (.inl (wo_le D2 _ _ (e _ _ hlG)))) ?_ ?_
    · rw [wo_upd]
      exact fun b o e => by
        rw [wo_ne (ne_of_none e nD2)]
        exact e
    · rintro i x G2 hx ⟨kvs2, e2, hD2, en2⟩
      obtain ⟨t, c, rfl, hc, ht⟩ := tu.at_ hx
      have cm := List.mem_of_getElem? hc
      obtain ⟨a, tl, aw, ec⟩ := cls_memB cm
      have o2 := e2.trans (wo_le D2)
      have o12 := o1.trans o2
      refine ⟨rfl, yes_if ?_⟩
      refine ⟨_, rfl, _, rfl, l, rfl, ⟨cu, .inl (.inl (o12 _ _ hl))⟩, fun D3 nD3 => ?_⟩
      refine lc_tup (xs := cu) (fun j G3 => ∃ us3, Same G2 (wo G3 D3) ∧ G3 D3 = some (.lst us3) ∧ TupA (wo G3 D3) us3 (((clsM M w).take j).filter fun o => decide (o ≠ c) && M (c.headD 0) (o.headD 0))) ⟨[], ?_, upd_same, .nil⟩ (fun j G3 _ ⟨_, e, _⟩ => .inl (.inl (wo_le D3 _ _ (e _ _ (o12 _ _ hl))))) ?_ ?_
      · rw [wo_upd]
        exact fun b o e => by
          rw [wo_ne (ne_of_none e nD3)]
          exact e
      · rintro j v G3 hv ⟨us3, e3, h3, t3⟩
        obtain ⟨t', o, rfl, ho, ht'⟩ := tu.at_ hv
        obtain ⟨b, tl', bw, eo⟩ := cls_memB (List.mem_of_getElem? ho)
        have o3 := o12.trans (e3.trans (wo_le D3))
        refine ⟨rfl, ?_⟩
        refine ⟨_, rfl, _, rfl, gd o, gd c, dp_gd (.inl (.inl (o3 _ _ ht'))), dp_gd (.inl (.inl (o3 _ _ ht))), RW.gd_shp _, RW.gd_shp _, ?_⟩
        rw [RW.gd_eqv]
        refine ⟨_, rfl, ?_⟩
        have nx : (clsM M w).take (j + 1) = (clsM M w).take j ++ [o] := SG.take_one ho
        have off : (decide (o ≠ c) && M (c.headD 0) (o.headD 0)) = false → ∃ us4, Same G2 (wo G3 D3) ∧ G3 D3 = some (.lst us4) ∧ TupA (wo G3 D3) us4 (((clsM M w).take (j + 1)).filter fun o => decide (o ≠ c) && M (c.headD 0) (o.headD 0)) := fun z => by
          refine ⟨us3, e3, h3, ?_⟩
          rw [nx, List.filter_append, List.filter_cons_of_neg (by rw [z]; exact Bool.false_ne_true), List.filter_nil, List.append_nil]
          exact t3
        by_cases oc : o = c
        · refine iteF' (by rw [decide_eq_true oc]; rfl) (iteF (off (by rw [oc]; simp)))
        · refine iteT' (by rw [decide_eq_false oc]; rfl) ?_
          obtain ⟨_, gv, p, fs, rfl, hp, hfs⟩ := enG.get cm
          have o23 := o2.trans (e3.trans (wo_le D3))
          have at0 : atI (nms o) 0 = some (.int (b : Int)) := by
            rw [eo]
            exact atI_nat (j := 0) rfl
          have mem : decide (b ∈ fs) = M a b := by
            rw [Bool.eq_iff_iff, decide_eq_true_iff, hfs, mis a b aw bw, ec]
            rfl
          refine ⟨_, rfl, t', _, _, _, rfl, rfl, .inl (.inl (o3 _ _ ht')), at0, _, rfl, _, rfl, D1, .ref p, rfl, (by rw [← gv]; exact DGet.t (o23 _ _ hD) (by rw [kyN_kV]; exact o3 _ _ ht)), p, nms fs, rfl, .inl (SqL.of (o23 _ _ hp)), rfl, nms_flat _, _, rfl, ?_⟩
          rw [show inV (V.int (b : Int)) (nms fs) = decide (b ∈ fs) from nms_in _ _, mem]
          by_cases m : M a b = true
          · rw [m]
            refine iteT ⟨_, rfl, us3, h3, ?_, us3 ++ [.ref t'], by rw [wo_upd]; exact e3, upd_same, ?_⟩
            · rw [t3.len]
              have := List.length_filter_le (fun o => decide (o ≠ c) && M (c.headD 0) (o.headD 0)) ((clsM M w).take j)
              rw [List.length_take] at this
              have := cls_len (M := M) (w := w)
              exact small1000 (by omega)
            · rw [wo_upd, nx, List.filter_append, List.filter_cons_of_pos (by rw [Bool.and_eq_true]; exact ⟨decide_eq_true oc, by rw [ec, eo]; exact m⟩), List.filter_nil]
              exact t3.app (e3 _ _ (o12 _ _ ht'))
          · rw [Bool.not_eq_true] at m
            rw [m]
            exact iteF (off (by rw [show M (c.headD 0) (o.headD 0) = false from by rw [ec, eo]; exact m, Bool.and_false]))
      rintro G3 ⟨us3, e3, h3, t3⟩
      rw [tu.len, List.take_length] at t3
      have o23 := e3.trans (wo_le D3)
      have hD2' := o23 _ _ hD2
      have few : ((clsM M w).take i).length < 1000 := by
        have := cls_len (M := M) (w := w)
        rw [List.length_take]
        omega
      have ne32 : D3 ≠ D2 := fun z => by
        rw [z, hD2'] at h3
        cases h3
      obtain ⟨G6, ent, eG, en6⟩ := (en2.map fun c v h => h.same (wo_same o23)).put (v := .ref D3) hD2' (o23 _ _ (o12 _ _ ht)) few (take_new cls_nodupB hc) ⟨D3, us3, rfl, (wo_ne ne32).trans h3, (t3.same (wo_le D3)).out hD2'⟩
      refine ⟨G6, ent, _, ?_, by rw [eG]; exact upd_same, ?_⟩
      · rw [eG, wo_upd]
        exact e2.trans (wo_same o23)
      · rw [SG.take_one hc]
        exact en6
    rintro G2 ⟨kvs2, e2, hD2, en2⟩
    rw [tu.len, List.take_length] at en2
    exact q D2 kvs2 M G2 (s1.trans (o1.trans (e2.trans (wo_le D2)))) ((s1.trans o1).free nD2) hD2 (en2.map fun c v h => h.same (wo_le D2)) mis
end
end CC
namespace CC
open PySem L2
/-! ### the links of a kind, beside the steps down (for the rows of a model) -/
section
variable {rs : List R} {x y : Nat}
/-- a link that leads down -/
def Sdn (rs : List R) : Bool → Nat → Nat → Prop
  | true, x, y => Lk rs true x y
  | false, x, y => Lk rs false y x
theorem sdn_rch {k : Bool} (h : Sdn rs k x y) : Rch (rs.map down) x y := by
  cases k with
  | true =>
    rcases (show Lk rs true x y from h) with h | ⟨_, h, _⟩
    · exact .step .refl (List.mem_map.mpr ⟨_, h, rfl⟩)
    · exact h
  | false =>
    rcases (show Lk rs false y x from h) with h | ⟨_, _, h⟩
    · exact .step .refl (List.mem_map.mpr ⟨_, h, rfl⟩)
    · exact h
/-- in a ring a link can be turned round -/
theorem sdn_turn {k : Bool} (h : Sdn rs k x y) (back : Rch (rs.map down) y x) : Sdn rs k y x := by
  have there := sdn_rch h
  cases k with
  | true =>
    rcases (show Lk rs true x y from h) with h | ⟨h, _⟩
    · exact .inr ⟨h, back, there⟩
    · exact .inl h
  | false =>
    rcases (show Lk rs false y x from h) with h | ⟨h, _⟩
    · exact .inr ⟨h, there, back⟩
    · exact .inl h
theorem rt_rch {k : Bool} (h : RT (Sdn rs k) x y) : Rch (rs.map down) x y := by
  induction h with
  | refl => exact .refl
  | step _ s ih => exact ih.trans (sdn_rch s)
theorem rt_turnS {k : Bool} (h : RT (Sdn rs k) x y) (back : Rch (rs.map down) y x) : RT (Sdn rs k) y x := by
  induction h with
  | refl => exact .refl
  | step p s ih =>
    have b1 := (sdn_rch s).trans back
    have b2 := back.trans (rt_rch p)
    exact RT.trans (RT.refl.step (sdn_turn s b2)) (ih b1)
/-- what is below by links of a kind, and does not lead back by them, does not lead back at all -/
theorem rt_lower {k : Bool} (h : RT (Sdn rs k) x y) (no : ¬ RT (Sdn rs k) y x) : Rch (rs.map down) x y ∧ ¬ Rch (rs.map down) y x :=
  ⟨rt_rch h, fun b => no (rt_turnS h b)⟩
/-- how many columns there are walks to -/
noncomputable def rcn (ps : List (Nat × Nat)) (x : Nat) : Nat := by
  classical
  exact ((List.range 6).filter fun y => decide (Rch ps x y)).length
theorem filter_lt {p q : Nat → Bool} : ∀ l : List Nat, (∀ y ∈ l, p y = true → q y = true) → (∃ y ∈ l, q y = true ∧ p y = false) → (l.filter p).length < (l.filter q).length
  | [], _, h => by
    obtain ⟨y, hy, _⟩ := h
    cases hy
  | a :: l, sub, h => by
    have sub' : ∀ y ∈ l, p y = true → q y = true := fun y hy => sub y (List.mem_cons_of_mem _ hy)
    have le : ∀ m : List Nat, (∀ y ∈ m, p y = true → q y = true) → (m.filter p).length ≤ (m.filter q).length := by
      intro m
      induction m with
      | nil => intro _; exact Nat.le_refl _
      | cons b m ih =>
        intro hm
        have i := ih fun y hy => hm y (List.mem_cons_of_mem _ hy)
        have hb := hm b List.mem_cons_self
        cases e : p b <;> cases e2 : q b <;> simp_all <;> omega
    obtain ⟨y, hy, q1, p1⟩ := h
    rcases List.mem_cons.mp hy with e | hy
    · subst e
      rw [List.filter_cons_of_pos q1, List.filter_cons_of_neg (by rw [p1]; exact Bool.false_ne_true)]
      exact Nat.lt_succ_of_le (le l sub')
    · have i := filter_lt l sub' ⟨y, hy, q1, p1⟩
      have ha := sub a List.mem_cons_self
      cases e : p a <;> cases e2 : q a <;> simp_all <;> omega
/-- a column below has walks to fewer columns -/
theorem rcn_lt {ps : List (Nat × Nat)} (ok : ∀ z ∈ ps, z.1 < 6 ∧ z.2 < 6) (hx : x < 6) (h : Rch ps x y) (no : ¬ Rch ps y x) : rcn ps y < rcn ps x := by
  classical
  unfold rcn
  refine filter_lt _ (fun z _ hz => ?_) ⟨x, List.mem_range.mpr hx, by simpa using Rch.refl, by simpa using no⟩
  simp only [decide_eq_true_eq] at hz ⊢
  exact h.trans hz
end
end CC
namespace GD
open PySem PySem.Spec PyProof.Rows L2
section
variable {P : Program} {w : World} {K : PySem.W.Frag} {mg : Str → Option Value} {base : Heap} {k : Nat} {f c : Addr} {fd : FuncData} {ps : List Str} {sp : Sp}
/-- the plain promise of a def whose code object is known -/
theorem FunC.ok {x q : Str} {st : Stmt} {N : List Str} (F : FunC K x q st f fd c) (S : FnScope N ps (defScope st)) (few : ∀ vs H Q E, sp vs H Q E → vs.length = ps.length)
    (body : ∀ (A : Around) (out : List Env) (s : Shared) (H : Hp) (vs : List V) (Q : VK) (E : XK), Room k (A.deeper (envOfC q (defScope st) s.heap.objs.size f (.ref c))) → sp vs H Q E →
      ∃ t, PSs (cxOf CX0 P w K mg base N q (defScope st) f (.ref c) A out s H E).nox (defBody st) t ∧ t { nx := fun _ H' => Q .non H', rt := Q } (start N vs) H) : FnOk P w K mg base CX0 (k + 1) f fd ps sp := by
  obtain ⟨oc, od, kV, doc, pm, an, ct, osl, rfl, look, hcd⟩ := F.ex
  refine fn_of look hcd S few fun A out s H vs Q E hr h => ?_
  obtain ⟨t, d, r⟩ := body A out s H vs Q E hr h
  exact ⟨t, d.nox, r⟩
end
end GD
namespace CC
open PySem L2 LamX PyProof.Rows
/-! ### lowest_first -/
abbrev sLow : Stmt := tp 33
abbrev nLow : List Str := ["width", "rules", "steps", "group"]
abbrev qLow : Str := (envOfC "lowest_first" (defScope sLow) 0 0 .none).qual ++ "<lambda>"
/-- how many columns a class leads to -/
def keyM (M : Nat → Nat → Bool) (w : Nat) (c : List Nat) : Nat := ((List.range w).filter fun y => M (c.headD 0) y).length
theorem perm_lift {α β : Type} {f : α → β} {m l : List β} (h : m.Perm l) : ∀ as : List α, as.map f = l → ∃ bs : List α, bs.Perm as ∧ bs.map f = m := by
  induction h with
  | nil => intro as e; exact ⟨as, .refl _, e⟩
  | cons x _ ih =>
    intro as e
    cases as with
    | nil => cases e
    | cons a as =>
      rw [List.map_cons, List.cons.injEq] at e
      obtain ⟨bs, p, q⟩ := ih as e.2
      exact ⟨a :: bs, p.cons a, by rw [List.map_cons, q, e.1]⟩
  | swap x y l =>
    intro as e
    cases as with
    | nil => cases e
    | cons a as =>
      cases as with
      | nil => simp at e
      | cons b as =>
        simp only [List.map_cons, List.cons.injEq] at e
        exact ⟨b :: a :: as, .swap a b as, by simp only [List.map_cons, e.1, e.2.1, e.2.2]⟩
  | trans _ _ ih1 ih2 =>
    intro as e
    obtain ⟨bs, p, q⟩ := ih2 as e
    obtain ⟨cs, p2, q2⟩ := ih1 bs q
    exact ⟨cs, p2.trans p, q2⟩
theorem TupA.zip {H : Hp} {us : List V} {rs : List (List Nat)} (t : TupA H us rs) : ∀ p ∈ us.zip rs, ∃ a, p.1 = .ref a ∧ H a = some (.tup (nms p.2)) := by
  induction t with
  | nil => intro p hp; cases hp
  | cons h _ ih =>
    intro p hp
    rcases List.mem_cons.mp hp with rfl | hp
    · exact ⟨_, rfl, h⟩
    · exact ih p hp
theorem TupA.of {H : Hp} : ∀ ps : List (V × List Nat), (∀ p ∈ ps, ∃ a, p.1 = .ref a ∧ H a = some (.tup (nms p.2))) → TupA H (ps.map (·.1)) (ps.map (·.2))
  | [], _ => .nil
  | p :: ps, h => by
    obtain ⟨a, e, ha⟩ := h p (List.mem_cons_self ..)
    rw [List.map_cons, List.map_cons, e]
    exact .cons ha (TupA.of ps fun q hq => h q (List.mem_cons_of_mem _ hq))
theorem TupA.extN {H H' : Hp} {us : List V} {rs : List (List Nat)} (e : ExtN H H') (t : TupA H us rs) : TupA H' us rs := by
  induction t with
  | nil => exact .nil
  | cons h _ ih => exact .cons (ext_tup e h) ih
theorem nt_none {H : Hp} {b : Addr} (h : H b = none) : nt H b = none := by
  unfold nt
  rw [h]
  rfl
abbrev rLenQ (K : PySem.W.Frag) : List V → Hp → VK → Prop := fun xs H Q => ∃ p ys, xs = [.ref p] ∧ (SqL K H p ys ∨ SqT K H p ys) ∧ Q (.int ys.length) H
abbrev tKey (K : PySem.W.Frag) : TE := tCB (rLenQ K) (tCons (tCall (spReached K) [] E0 (tCons (tVar 2) (tCons (tOp (rIxT K) (tVar 3) (tC (.int 0))) tNil))) tNil)
def spLow (K : PySem.W.Frag) (Ts : List (Addr × Str)) : Sp := fun vs H Q _ => ∃ (w : Nat) (g : Addr) (us : List V) (rs : List R), vs = [.int (w : Int), .ref g] ∧ w ≤ 6 ∧ SqT K H g us ∧ DpAll K H us (rs.map R.d) ∧ (∀ r ∈ rs, r.ok w) ∧ rs.length ≤ 60 ∧ Tabs Ts H ∧
  ∀ (p : Addr) (us' : List V) (gs : List (List Nat)) (M : Nat → Nat → Bool) (H' : Hp), ExtN H H' → Tabs Ts H' → nt H p = none → H' p = some (.lst us') → TupA H' us' gs → MIs M w (rs.map down) → gs.Perm (clsM M w) → gs.Pairwise (fun a b => keyM M w a ≤ keyM M w b) → Q (.ref p) H'
theorem downs_ok {w : Nat} {rs : List R} (h : ∀ r ∈ rs, r.ok w) : ∀ x ∈ rs.map down, x.1 < w ∧ x.2 < w := fun x hx => by
  obtain ⟨r, hr, rfl⟩ := List.mem_map.mp hx
  obtain ⟨h1, h2, _⟩ := h r hr
  unfold down
  split
  · exact ⟨h1, h2⟩
  · exact ⟨h2, h1⟩
section
variable {P : Program} {w : World} {K : PySem.W.Frag} {mg : Str → Option Value} {base : Heap} {kA : Addr}
theorem scLow : FnScope nLow ["width", "rules"] (defScope sLow) := ⟨rfl, rfl, rfl, by decide +kernel, rfl, by decide +kernel, by decide +kernel⟩
theorem ok_low {f c Pt : Addr} {fd : FuncData} {k : Nat} {Ts : List (Addr × Str)} (F : GD.FunC K "lowest_first" "lowest_first" sLow f fd c) (tb : TabB base mg c Pt) (hmT : (Pt, qLow) ∈ Ts) (hu : ∀ p ∈ Ts, p.1 = Pt → p.2 = qLow) (T : Glb K mg kA)
    (cD : Cal P w K mg base "steps_down" ["rules"] (spDown K) 1) (cC : Cal P w K mg base "classes_of" ["width", "pairs"] (spClsT K) 3) (cR : Cal P w K mg base "reached" ["pairs", "start"] (spReached K) 2) : FnOk P w K mg base CX0 (k + 6) f fd ["width", "rules"] (spLow K Ts) := by
  have GD_ := cD.ok (k + 5) (by omega)
  have GC := cC.ok (k + 5) (by omega)
  have GR := cR.ok (k + 2) (by omega)
  refine F.ok scLow (fun vs H Q E h => ?_) (fun A outer s H vs Q E hr h => ?_)
  · obtain ⟨w, g, us, rs, rfl, _⟩ := h
    rfl
  · obtain ⟨w, g, us, rs, rfl, hw, hg, dp, hrs, hl, tabs, q⟩ := h
    have n := scLow.nd
    refine ⟨_, pss_cons (ps_set (i := 2) n rfl (.inr rfl) (pe_call GD_ hr rfl cD.g cD.kp cD.b .nil pass0 (pa_cons (pv 1) pa_nil)))
      (pss_one (ps_ret (SLK.pe_sortL (k := k + 2) (ip := 3) (by rfl) T.srt (pa_cons (pe_callTy call_list_of (by rfl) T.lst (by decide +kernel) (pa_cons (pe_call GC hr rfl cC.g cC.kp cC.b .nil pass0 (pa_cons (pv 0) (pa_cons (pv 2) pa_nil))) pa_nil)) pa_nil)
        tb rfl hmT hu hr (SLK.lam1_by (sc := defScope sLow) (by decide +kernel)) n rfl rfl (fun _ _ _ _ _ _ => rfl)
        (fun A s H f c' hr' => show PE _ _ (tKey K) from pe_callB call_len_seq (by rfl) T.len PySem.boot_len (pa_cons (pe_call GR hr' rfl cR.g cR.kp cR.b .nil pass0 (pa_cons (pv 2) (pa_cons (pe_ix ix_tup (pv 3) pe_int (fun _ _ => rfl)) pa_nil))) pa_nil))))), ?_⟩
    refine ⟨_, rfl, g, us, rs, rfl, hg, dp, hl, fun st su H1 s1 nst hst dst => ?_⟩
    have hps : ∀ x ∈ rs.map down, x.1 < w ∧ x.2 < w := downs_ok hrs
    have hps6 : ∀ x ∈ rs.map down, x.1 < 6 ∧ x.2 < 6 := fun x hx => ⟨Nat.lt_of_lt_of_le (hps x hx).1 hw, Nat.lt_of_lt_of_le (hps x hx).2 hw⟩
    have dl : (rs.map down).length ≤ 1000 := by rw [List.length_map]; omega
    have dst1 : DpAll K H1 su ((rs.map down).map prd) := dps_same (wo_le st) _ _ dst
    refine ⟨_, rfl, _, rfl, w, st, su, rs.map down, rfl, hw, SqL.of hst, dst1, hps, dl, fun l cu M H2 s2 nl hcu tu mis => ?_⟩
    refine ⟨l, cu, rfl, .inr (.inl (.inl hcu)), fun l2 nl2 => ?_⟩
    have s3 : Same H2 (upd H2 l2 (.lst cu)) := same_new nl2
    have hl2 : (upd H2 l2 (.lst cu)) l2 = some (.lst cu) := upd_same
    generalize upd H2 l2 (.lst cu) = H3 at s3 hl2
    refine ⟨l2, cu, (clsM M w).map fun c => (keyM M w c : Int), rfl, SqL.of hl2, by rw [List.length_map, tu.len], (((tabs.ext s1).ext s2).ext s3), fun H4 e4 t4 => ?_⟩
    have o13 : Same H1 H3 := s2.trans s3
    have st4 := ext_lst e4 (o13 _ _ hst)
    have dst4 : DpAll K H4 su ((rs.map down).map prd) := dps_ext e4 _ _ (dps_same o13 _ _ dst1)
    have tu4 : TupA H4 cu (clsM M w) := TupA.extN e4 (tu.same s3)
    refine ⟨fun i G => Same H4 G, Same.refl _, fun i G e => ExtN.of e, fun i x m G hx hm e => ?_, fun G p zs e np pz oz => ?_⟩
    · obtain ⟨t, c, rfl, hc, ht⟩ := tu4.at_ hx
      rw [List.getElem?_map, hc] at hm
      cases hm
      obtain ⟨a, tl, aw, ec⟩ := cls_memB (List.mem_of_getElem? hc)
      have at0 : atI (nms c) 0 = some (.int (a : Int)) := by
        rw [ec]
        exact atI_nat (j := 0) rfl
      refine ⟨_, rfl, _, rfl, t, _, _, _, rfl, rfl, .inl (.inl (e _ _ ht)), at0, st, su, rs.map down, a, rfl, SqL.of (e _ _ st4), dps_same e _ _ dst4, hps6, by omega, dl, fun pr fs G1 e1 npr hpr hfs hsr => ?_⟩
      refine ⟨pr, _, rfl, .inl (SqL.of hpr), ?_, e.trans e1⟩
      have el : fs = (List.range w).filter fun y => M (c.headD 0) y := by
        refine inc_eq hsr (List.Pairwise.filter _ List.pairwise_lt_range) fun y => ?_
        rw [List.mem_filter, List.mem_range, hfs, ec]
        constructor
        · intro z
          have yw := Rch.lt hps aw z
          exact ⟨yw, (mis a y aw yw).mpr z⟩
        · exact fun z => (mis a y aw z.1).mp z.2
      show V.int ((nms fs).length : Int) = V.int (keyM M w c : Int)
      rw [nms_len, el]
      rfl
    · have pz' : zs.Perm ((cu.zip (clsM M w)).map fun p => (p.1, (keyM M w p.2 : Int))) := by
        have e5 : ((cu.zip (clsM M w)).map fun p => (p.1, (keyM M w p.2 : Int))) = cu.zip ((clsM M w).map fun c => (keyM M w c : Int)) := by
          rw [List.zip_map_right]
          rfl
        rw [e5]
        exact pz
      obtain ⟨bs, pb, eb⟩ := perm_lift pz' _ rfl
      have hz1 : zs.map (·.1) = bs.map (·.1) := by
        rw [← eb, List.map_map]
        rfl
      have each : ∀ p ∈ bs, ∃ a, p.1 = V.ref a ∧ H4 a = some (.tup (nms p.2)) := fun p hp => tu4.zip p (pb.mem_iff.mp hp)
      have new : Same G (upd G p (.lst (zs.map (·.1)))) := same_new np
      have perm2 : (bs.map (·.2)).Perm (clsM M w) := by
        have := pb.map (·.2)
        rwa [List.map_snd_zip (by rw [tu4.len]; exact Nat.le_refl _)] at this
      have ord : (bs.map (·.2)).Pairwise (fun a b => keyM M w a ≤ keyM M w b) := by
        rw [← eb, List.pairwise_map] at oz
        rw [List.pairwise_map]
        exact oz.imp fun {a b} h => by
          have h : (keyM M w a.2 : Int) ≤ (keyM M w b.2 : Int) := h
          omega
      have ext : ExtN H (upd G p (.lst (zs.map (·.1)))) := (ExtN.of (s1.trans o13)).trans (e4.trans ((ExtN.of e).trans (ExtN.of new)))
      have np0 : nt H p = none := (ext_nt ((ExtN.of (s1.trans o13)).trans (e4.trans (ExtN.of e)))).free (nt_none np)
      refine q p (bs.map (·.1)) (bs.map (·.2)) M _ ext ((t4.ext e).ext new) np0 (by rw [← hz1]; exact upd_same) ?_ mis perm2 ord
      exact (TupA.of bs each).same (e.trans new)
end
end CC
namespace CC
open PySem L2
/-! ### the numbers of classes -/
/-- a dict of ints by tuples of columns -/
def mapK (f : List Nat → Nat) (cs : List (List Nat)) : List (List Key × V) := cs.map fun c => (kyN c, V.int (f c : Int))
section
variable {f : List Nat → Nat} {cs ds : List (List Nat)} {c : List Nat}
theorem mapK_val (h : c ∈ cs) : valV (mapK f cs) (kyN c) = some (.int (f c : Int)) := by
  induction cs with
  | nil => cases h
  | cons d cs ih =>
    by_cases e : kyN d = kyN c
    · rw [← kyN_inj e]
      exact valV_pos (p := (kyN d, V.int (f d : Int))) rfl
    · have m := (List.mem_cons.mp h).resolve_left fun z => e (by rw [z])
      exact (valV_neg (p := (kyN d, V.int (f d : Int))) (r := mapK f cs) e).trans (ih m)
theorem mapK_app : mapK f (cs ++ ds) = mapK f cs ++ mapK f ds := by
  unfold mapK
  rw [List.map_append]
theorem mapK_new (h : c ∉ cs) : ∀ p ∈ mapK f cs, p.1 ≠ kyN c := fun p hp e => by
  obtain ⟨d, hd, rfl⟩ := List.mem_map.mp hp
  rw [kyN_inj e] at hd
  exact h hd
theorem mapK_none (h : c ∉ cs) : valV (mapK f cs) (kyN c) = none := DCT.val_none (mapK_new h)
theorem mapK_len : (mapK f cs).length = cs.length := List.length_map ..
end
def inGr (g c : List Nat) : Bool := decide (c.headD 0 ∈ g)
def maxL (l : List Nat) : Nat := l.foldl max 0
theorem foldl_max_le : ∀ (l : List Nat) (a x : Nat), (x ≤ a ∨ x ∈ l) → x ≤ l.foldl max a
  | [], a, x, h => by
    rcases h with h | h
    · exact h
    · cases h
  | b :: l, a, x, h => by
    rw [List.foldl_cons]
    refine foldl_max_le l (max a b) x ?_
    rcases h with h | h
    · exact .inl (by omega)
    · rcases List.mem_cons.mp h with h | h
      · exact .inl (by omega)
      · exact .inr h
theorem foldl_max_mem : ∀ (l : List Nat) (a : Nat), l.foldl max a = a ∨ l.foldl max a ∈ l
  | [], a => .inl rfl
  | b :: l, a => by
    rw [List.foldl_cons]
    rcases foldl_max_mem l (max a b) with h | h
    · rw [h]
      by_cases q : a ≤ b
      · exact .inr (by rw [Nat.max_eq_right q]; exact List.mem_cons_self)
      · exact .inl (Nat.max_eq_left (by omega))
    · exact .inr (List.mem_cons_of_mem _ h)
theorem le_maxL {l : List Nat} {x : Nat} (h : x ∈ l) : x ≤ maxL l := foldl_max_le l 0 x (.inr h)
theorem maxL_mem {l : List Nat} (h : l ≠ []) : maxL l ∈ l := by
  rcases foldl_max_mem l 0 with q | q
  · cases l with
    | nil => exact absurd rfl h
    | cons b l =>
      have := le_maxL (l := b :: l) List.mem_cons_self
      have e : maxL (b :: l) = 0 := q
      have : b = 0 := by omega
      rw [e, ← this]
      exact List.mem_cons_self
  · exact q
theorem maxL_is {l : List Nat} {m : Nat} (h : m ∈ l) (le : ∀ y ∈ l, y ≤ m) : m = maxL l := Nat.le_antisymm (le_maxL h) (le _ (maxL_mem fun z => by rw [z] at h; cases h))
section
variable (MS MN MG : Nat → Nat → Bool) (w : Nat)
def sumB (M : Nat → Nat → Bool) (w : Nat) (r : List Nat → Nat) (c : List Nat) : Nat := ((belM M (clsM M w) c).map r).sum
def listG (r n : List Nat → Nat) (g : List Nat) : List Nat := (((clsM MS w).filter (inGr g)).map fun c => 2 + sumB MS w r c) ++ ((clsM MN w).filter (inGr g)).map fun d => 1 + sumB MN w n d
def cnF : Nat → (List Nat → Nat) × (List Nat → Nat)
  | 0 => (fun _ => 0, fun _ => 0)
  | k + 1 => (fun c => maxL (listG MS MN w (cnF k).1 (cnF k).2 (grpM MG w (c.headD 0))) - 1 - sumB MS w (cnF k).1 c, fun d => maxL (listG MS MN w (cnF k).1 (cnF k).2 (grpM MG w (d.headD 0))) - sumB MN w (cnF k).2 d)
/-- r and n of the document -/
def rM : List Nat → Nat := (cnF MS MN MG w 7).1
def nM : List Nat → Nat := (cnF MS MN MG w 7).2
/-- N of a group -/
def NM (g : List Nat) : Nat := maxL (listG MS MN w (rM MS MN MG w) (nM MS MN MG w) g)
structure Lay : Prop where
  g : Eqr MG w
  s : Eqr MS w
  n : Eqr MN w
  w6 : w ≤ 6
  sg : ∀ x y, x < w → y < w → MS x y = true → MG x y = true
  ng : ∀ x y, x < w → y < w → MN x y = true → MG x y = true
  st : ∀ x y, x < w → y < w → MS x y = true → MG y x = true → MS y x = true
  nt : ∀ x y, x < w → y < w → MN x y = true → MG y x = true → MN y x = true
end
section
variable {MS MN MG M : Nat → Nat → Bool} {w : Nat} {c d g h : List Nat}
theorem cls_grp (hc : c ∈ clsM M w) : c.headD 0 < w ∧ c = grpM M w (c.headD 0) := by
  unfold clsM at hc
  obtain ⟨a, ha, rfl⟩ := List.mem_map.mp hc
  obtain ⟨h1, h2⟩ := List.mem_filter.mp ha
  have h3 : (grpM M w a).head? = some a := by simpa using h2
  have h4 : (grpM M w a).headD 0 = a := by rw [List.headD_eq_head?_getD, h3]; rfl
  rw [h4]
  exact ⟨List.mem_range.mp h1, rfl⟩
theorem cls_of (e : Eqr M w) {a : Nat} (ha : a < w) : grpM M w a ∈ clsM M w := by
  obtain ⟨b, h1, h2, h3⟩ := e.head ha
  have s := e.same ha h3
  have bw := grp_lt h3
  unfold clsM
  refine List.mem_map.mpr ⟨b, List.mem_filter.mpr ⟨List.mem_range.mpr bw, ?_⟩, s⟩
  rw [s, h1]
  simp
theorem cls_eq (e : Eqr M w) {a : Nat} (hc : c ∈ clsM M w) (ha : a ∈ c) : c = grpM M w a := by
  obtain ⟨h1, h2⟩ := cls_grp hc
  rw [h2] at ha
  rw [e.same h1 ha]
  exact h2
theorem cls_self (e : Eqr M w) (hc : c ∈ clsM M w) : c.headD 0 ∈ c := by
  obtain ⟨h1, h2⟩ := cls_grp hc
  have := e.self h1
  rwa [← h2] at this
theorem cls_lt (hc : c ∈ clsM M w) {a : Nat} (ha : a ∈ c) : a < w := by
  rw [(cls_grp hc).2] at ha
  exact grp_lt ha
/-- columns with walks to and fro lead to equally many -/
theorem key_mutual (e : Eqr MG w) (hx : c.headD 0 < w) (hy : d.headD 0 < w) (h1 : MG (c.headD 0) (d.headD 0) = true) (h2 : MG (d.headD 0) (c.headD 0) = true) : keyM MG w c = keyM MG w d := by
  unfold keyM
  refine congrArg List.length (List.filter_congr fun z hz => ?_)
  have hz := List.mem_range.mp hz
  rw [Bool.eq_iff_iff]
  exact ⟨fun q => e.trans _ _ _ hy hx hz h2 q, fun q => e.trans _ _ _ hx hy hz h1 q⟩
theorem key_grp (e : Eqr MG w) (hg : g ∈ clsM MG w) (hc : c.headD 0 ∈ g) : keyM MG w g = keyM MG w c := by
  obtain ⟨h1, h2⟩ := cls_grp hg
  rw [h2] at hc
  obtain ⟨h3, h4, h5⟩ := grp_mem.mp hc
  exact key_mutual e h1 h3 h4 h5
theorem key_pos (e : Eqr MG w) (hx : c.headD 0 < w) : 0 < keyM MG w c := by
  unfold keyM
  exact List.length_pos_of_mem (List.mem_filter.mpr ⟨List.mem_range.mpr hx, e.refl _ hx⟩)
theorem key_le : keyM MG w c ≤ w := by
  unfold keyM
  have := List.length_filter_le (fun y => MG (c.headD 0) y) (List.range w)
  rwa [List.length_range] at this
/-- what is below leads to fewer columns -/
theorem key_below (e : Eqr MG w) (eM : Eqr M w) (sg : ∀ x y, x < w → y < w → M x y = true → MG x y = true) (st : ∀ x y, x < w → y < w → M x y = true → MG y x = true → M y x = true) (hc : c ∈ clsM M w) (hd : d ∈ belM M (clsM M w) c) : keyM MG w d < keyM MG w c := by
  unfold belM at hd
  obtain ⟨hd, q⟩ := List.mem_filter.mp hd
  rw [Bool.and_eq_true, decide_eq_true_eq] at q
  obtain ⟨c1, c2⟩ := cls_grp hc
  obtain ⟨d1, d2⟩ := cls_grp hd
  have no : ¬ MG (d.headD 0) (c.headD 0) = true := fun z => by
    have m := st _ _ c1 d1 q.2 z
    have : d.headD 0 ∈ grpM M w (c.headD 0) := grp_mem.mpr ⟨d1, q.2, m⟩
    refine q.1 ?_
    rw [d2, c2, ← eM.same c1 this]
  have there := sg _ _ c1 d1 q.2
  unfold keyM
  refine filter_lt _ (fun z hz p => ?_) ⟨c.headD 0, List.mem_range.mpr c1, e.refl _ c1, by simpa using no⟩
  exact e.trans _ _ _ c1 d1 (List.mem_range.mp hz) there p
theorem Lay.belS (L : Lay MS MN MG w) (hc : c ∈ clsM MS w) (hd : d ∈ belM MS (clsM MS w) c) : keyM MG w d < keyM MG w c := key_below L.g L.s L.sg L.st hc hd
theorem Lay.belN (L : Lay MS MN MG w) (hc : c ∈ clsM MN w) (hd : d ∈ belM MN (clsM MN w) c) : keyM MG w d < keyM MG w c := key_below L.g L.n L.ng L.nt hc hd
theorem bel_mem {cs : List (List Nat)} (h : d ∈ belM M cs c) : d ∈ cs := (List.mem_filter.mp h).1
theorem sum_congr {r r' : List Nat → Nat} {l : List (List Nat)} (h : ∀ d ∈ l, r d = r' d) : (l.map r).sum = (l.map r').sum := by rw [List.map_congr_left h]
theorem inGr_mutual (L : Lay MS MN MG w) {a : Nat} (ha : a < w) (hc : c.headD 0 < w) (h : inGr (grpM MG w a) c = true) : keyM MG w c = keyM MG w [a] := by
  have h : c.headD 0 ∈ grpM MG w a := of_decide_eq_true h
  obtain ⟨h1, h2, h3⟩ := grp_mem.mp h
  exact key_mutual (c := c) (d := [a]) L.g hc ha h3 h2
theorem list_congr {r r' n n' : List Nat → Nat} (h1 : ∀ c ∈ clsM MS w, inGr g c = true → sumB MS w r c = sumB MS w r' c) (h2 : ∀ c ∈ clsM MN w, inGr g c = true → sumB MN w n c = sumB MN w n' c) : listG MS MN w r n g = listG MS MN w r' n' g := by
  unfold listG
  rw [List.map_congr_left (f := fun c => 2 + sumB MS w r c) (g := fun c => 2 + sumB MS w r' c) fun c hc => ?_, List.map_congr_left (f := fun c => 1 + sumB MN w n c) (g := fun c => 1 + sumB MN w n' c) fun c hc => ?_]
  · obtain ⟨a, b⟩ := List.mem_filter.mp hc
    rw [h2 c a b]
  · obtain ⟨a, b⟩ := List.mem_filter.mp hc
    rw [h1 c a b]
theorem cnF_stays (L : Lay MS MN MG w) : ∀ k, (∀ c ∈ clsM MS w, keyM MG w c ≤ k → (cnF MS MN MG w (k + 1)).1 c = (cnF MS MN MG w k).1 c) ∧ ∀ c ∈ clsM MN w, keyM MG w c ≤ k → (cnF MS MN MG w (k + 1)).2 c = (cnF MS MN MG w k).2 c
  | 0 => ⟨fun c hc h => by have := key_pos L.g (cls_grp hc).1; omega, fun c hc h => by have := key_pos L.g (cls_grp hc).1; omega⟩
  | k + 1 => by
    obtain ⟨i1, i2⟩ := cnF_stays L k
    have s1 : ∀ c ∈ clsM MS w, keyM MG w c ≤ k + 1 → sumB MS w (cnF MS MN MG w (k + 1)).1 c = sumB MS w (cnF MS MN MG w k).1 c := fun c hc h => sum_congr fun d hd => i1 d (bel_mem hd) (by have := L.belS hc hd; omega)
    have s2 : ∀ c ∈ clsM MN w, keyM MG w c ≤ k + 1 → sumB MN w (cnF MS MN MG w (k + 1)).2 c = sumB MN w (cnF MS MN MG w k).2 c := fun c hc h => sum_congr fun d hd => i2 d (bel_mem hd) (by have := L.belN hc hd; omega)
    have same : ∀ c : List Nat, c.headD 0 < w → keyM MG w c ≤ k + 1 → listG MS MN w (cnF MS MN MG w (k + 1)).1 (cnF MS MN MG w (k + 1)).2 (grpM MG w (c.headD 0)) = listG MS MN w (cnF MS MN MG w k).1 (cnF MS MN MG w k).2 (grpM MG w (c.headD 0)) := fun c hc h => by
      have kc : keyM MG w [c.headD 0] = keyM MG w c := rfl
      refine list_congr (fun d hd q => s1 d hd ?_) (fun d hd q => s2 d hd ?_)
      · have := inGr_mutual L hc (cls_grp hd).1 q
        omega
      · have := inGr_mutual L hc (cls_grp hd).1 q
        omega
    refine ⟨fun c hc h => ?_, fun c hc h => ?_⟩
    · show maxL _ - 1 - sumB MS w (cnF MS MN MG w (k + 1)).1 c = maxL _ - 1 - sumB MS w (cnF MS MN MG w k).1 c
      rw [same c (cls_grp hc).1 h, s1 c hc h]
    · show maxL _ - sumB MN w (cnF MS MN MG w (k + 1)).2 c = maxL _ - sumB MN w (cnF MS MN MG w k).2 c
      rw [same c (cls_grp hc).1 h, s2 c hc h]
/-- the document's r(C) -/
theorem Lay.r_eq (L : Lay MS MN MG w) (hc : c ∈ clsM MS w) : rM MS MN MG w c = NM MS MN MG w (grpM MG w (c.headD 0)) - 1 - sumB MS w (rM MS MN MG w) c :=
  ((cnF_stays L 7).1 c hc (by have := key_le (MG := MG) (w := w) (c := c); have := L.w6; omega)).symm
theorem Lay.n_eq (L : Lay MS MN MG w) (hc : c ∈ clsM MN w) : nM MS MN MG w c = NM MS MN MG w (grpM MG w (c.headD 0)) - sumB MN w (nM MS MN MG w) c :=
  ((cnF_stays L 7).2 c hc (by have := key_le (MG := MG) (w := w) (c := c); have := L.w6; omega)).symm
theorem Lay.own (L : Lay MS MN MG w) (hc : c.headD 0 < w) : inGr (grpM MG w (c.headD 0)) c = true := decide_eq_true (L.g.self hc)
theorem Lay.s_le (L : Lay MS MN MG w) (hc : c ∈ clsM MS w) (h : inGr g c = true) : 2 + sumB MS w (rM MS MN MG w) c ≤ NM MS MN MG w g :=
  le_maxL (List.mem_append_left _ (List.mem_map.mpr ⟨c, List.mem_filter.mpr ⟨hc, h⟩, rfl⟩))
theorem Lay.n_le (L : Lay MS MN MG w) (hc : c ∈ clsM MN w) (h : inGr g c = true) : 1 + sumB MN w (nM MS MN MG w) c ≤ NM MS MN MG w g :=
  le_maxL (List.mem_append_right _ (List.mem_map.mpr ⟨c, List.mem_filter.mpr ⟨hc, h⟩, rfl⟩))
/-- a class of a group: the group is its own -/
theorem Lay.grp (L : Lay MS MN MG w) (hg : g ∈ clsM MG w) (h : inGr g c = true) : g = grpM MG w (c.headD 0) := cls_eq L.g hg (of_decide_eq_true h)
theorem Lay.r_sum (L : Lay MS MN MG w) (hc : c ∈ clsM MS w) : rM MS MN MG w c + 1 + sumB MS w (rM MS MN MG w) c = NM MS MN MG w (grpM MG w (c.headD 0)) := by
  have h1 := L.r_eq hc
  have h2 := L.s_le hc (L.own (cls_grp hc).1)
  omega
theorem Lay.n_sum (L : Lay MS MN MG w) (hc : c ∈ clsM MN w) : nM MS MN MG w c + sumB MN w (nM MS MN MG w) c = NM MS MN MG w (grpM MG w (c.headD 0)) := by
  have h1 := L.n_eq hc
  have h2 := L.n_le hc (L.own (cls_grp hc).1)
  omega
theorem Lay.r_pos (L : Lay MS MN MG w) (hc : c ∈ clsM MS w) : 1 ≤ rM MS MN MG w c := by
  have h1 := L.r_eq hc
  have h2 := L.s_le hc (L.own (cls_grp hc).1)
  omega
theorem Lay.n_pos (L : Lay MS MN MG w) (hc : c ∈ clsM MN w) : 1 ≤ nM MS MN MG w c := by
  have h1 := L.n_eq hc
  have h2 := L.n_le hc (L.own (cls_grp hc).1)
  omega
/-- in each group there is a settling class -/
theorem Lay.some (L : Lay MS MN MG w) (hg : g ∈ clsM MG w) : ∃ c ∈ clsM MS w, inGr g c = true := by
  obtain ⟨h1, h2⟩ := cls_grp hg
  have hc := cls_of L.s h1
  obtain ⟨c1, c2⟩ := cls_grp hc
  have m := cls_self L.s hc
  refine ⟨_, hc, decide_eq_true ?_⟩
  obtain ⟨_, a, b⟩ := grp_mem.mp m
  have q : (grpM MS w (g.headD 0)).headD 0 ∈ grpM MG w (g.headD 0) := grp_mem.mpr ⟨c1, L.sg _ _ h1 c1 a, L.sg _ _ c1 h1 b⟩
  rwa [← h2] at q
/-- the classes of the groups so far -/
def doneC (cs gs : List (List Nat)) : List (List Nat) := gs.flatMap fun g => cs.filter (inGr g)
theorem done_app {cs gs : List (List Nat)} : doneC cs (gs ++ [g]) = doneC cs gs ++ cs.filter (inGr g) := by
  unfold doneC
  rw [List.flatMap_append, List.flatMap_cons, List.flatMap_nil, List.append_nil]
/-- what is below a class of the next group is done -/
theorem below_done {gs : List (List Nat)} {i : Nat} (e : Eqr MG w) (pm : gs.Perm (clsM MG w)) (od : gs.Pairwise fun a b => keyM MG w a ≤ keyM MG w b) (hg : gs[i]? = some g) (hc : inGr g c = true) (hd : d ∈ clsM M w) (lt : keyM MG w d < keyM MG w c) : d ∈ doneC (clsM M w) (gs.take i) := by
  have gm := pm.mem_iff.mp (List.mem_of_getElem? hg)
  have d1 := (cls_grp hd).1
  have hm : grpM MG w (d.headD 0) ∈ clsM MG w := cls_of e d1
  obtain ⟨j, hj⟩ := List.mem_iff_getElem?.mp (pm.mem_iff.mpr hm)
  have k1 := key_grp e gm (of_decide_eq_true hc)
  have k2 := key_grp (c := d) e hm (e.self d1)
  obtain ⟨hi2, ei⟩ := List.getElem?_eq_some_iff.mp hg
  obtain ⟨hj2, ej⟩ := List.getElem?_eq_some_iff.mp hj
  have ji : j < i := by
    refine Nat.lt_of_not_le fun z => ?_
    rcases Nat.eq_or_lt_of_le z with q | q
    · subst q
      rw [hg] at hj
      cases hj
      omega
    · have := List.pairwise_iff_getElem.mp od i j hi2 hj2 q
      rw [ei, ej] at this
      omega
  refine List.mem_flatMap.mpr ⟨grpM MG w (d.headD 0), ?_, List.mem_filter.mpr ⟨hd, decide_eq_true (e.self d1)⟩⟩
  exact List.mem_iff_getElem?.mpr ⟨j, by rw [List.getElem?_take_of_lt ji]; exact hj⟩
/-- a class of the next group is not done -/
theorem new_done {gs : List (List Nat)} {i : Nat} (e : Eqr MG w) (pm : gs.Perm (clsM MG w)) (hg : gs[i]? = some g) (hc : inGr g c = true) : c ∉ doneC (clsM M w) (gs.take i) := fun z => by
  obtain ⟨g', h1, h2⟩ := List.mem_flatMap.mp z
  obtain ⟨_, h3⟩ := List.mem_filter.mp h2
  have gm := pm.mem_iff.mp (List.mem_of_getElem? hg)
  have gm' := pm.mem_iff.mp (List.mem_of_mem_take h1)
  have : g = g' := (cls_eq e gm (of_decide_eq_true hc)).trans (cls_eq e gm' (of_decide_eq_true h3)).symm
  subst this
  exact take_new ((pm.nodup_iff).mpr cls_nodupB) hg h1
theorem done_all {gs : List (List Nat)} (e : Eqr MG w) (pm : gs.Perm (clsM MG w)) (hd : d ∈ clsM M w) : d ∈ doneC (clsM M w) gs :=
  have d1 := (cls_grp hd).1
  List.mem_flatMap.mpr ⟨grpM MG w (d.headD 0), pm.mem_iff.mpr (cls_of e d1), List.mem_filter.mpr ⟨hd, decide_eq_true (e.self d1)⟩⟩
theorem done_sub {cs gs : List (List Nat)} (h : d ∈ doneC cs gs) : d ∈ cs := by
  obtain ⟨_, _, h⟩ := List.mem_flatMap.mp h
  exact (List.mem_filter.mp h).1
theorem done_len {cs gs : List (List Nat)} : (doneC cs gs).length ≤ gs.length * cs.length := by
  unfold doneC
  induction gs with
  | nil => exact Nat.zero_le _
  | cons g gs ih =>
    rw [List.flatMap_cons, List.length_append, List.length_cons, Nat.succ_mul]
    have := List.length_filter_le (inGr g) cs
    omega
end
end CC
/-! walks of dicts that are locked; a dict comprehension over any walk -/
namespace DCT
open PySem PySem.Spec PyProof.Rows L2
theorem over_it {J : It} {n : Nat} {Gd : Hp → Prop} {Y : Nat → Hp → V → Hp → Prop} {D : Addr} {g : TG} {tt : TT} {tk tv : TE} {own : List Nat} {σ : L2.St} {G1 : Hp} {Qd : Hp → Prop} (w : Walk J n Gd Y) (Pv : Nat → Hp → Prop) (first : Pv 0 (upd G1 D (.dT [])))
    (stays : ∀ i G, i ≤ n → Pv i G → Gd G)
    (turn : ∀ i x G G', i < n → Pv i G → Y i G x G' → g x (wipe σ own) G' fun σ2 G2 => wipe σ2 own = wipe σ own ∧ tt σ2 G2 fun ok G3 => if ok = true then tk σ2 G3 fun y G4 => tv σ2 G4 fun z G5 => ∃ G6, Ent D y z G5 G6 ∧ Pv (i + 1) G6 else Pv (i + 1) G3)
    (last : ∀ G, Pv n G → Qd G) :
    ∃ Wv : Nat → Nat → Hp → Prop, (∃ top, Wv 0 top (upd G1 D (.dT []))) ∧ ∀ i top G2, Wv i top G2 →
      (J.stop i G2 ∧ Qd G2) ∨ (J.go i G2 ∧ ∃ Nx : Hp → Prop, (∀ G3, Nx G3 → ∃ less, less < top ∧ Wv (i + 1) less G3) ∧
        ∀ x G3, J.yld i G2 x G3 → g x (wipe σ own) G3 fun σ2 G4 => wipe σ2 own = wipe σ own ∧
          tt σ2 G4 fun ok G5 => if ok = true then tk σ2 G5 fun y G6 => tv σ2 G6 fun z G7 => ∃ G8, Ent D y z G7 G8 ∧ Nx G8 else Nx G5) := by
  refine ⟨fun i top G => top + i = n ∧ Pv i G, ⟨n, rfl, first⟩, fun i top G2 ⟨e, p⟩ => ?_⟩
  have q := stays i G2 (by omega) p
  rcases Nat.eq_zero_or_pos top with z | z
  · obtain rfl : i = n := by omega
    exact .inl ⟨w.stops G2 q, last G2 p⟩
  · have lt : i < n := by omega
    exact .inr ⟨w.goes i G2 lt q, Pv (i + 1), fun G3 p3 => ⟨top - 1, by omega, by omega, p3⟩, fun x G3 y => turn i x G2 G3 lt p (w.yields i G2 x G3 lt q y)⟩
end DCT
namespace CC
open PySem L2
section
variable {H G H' : Hp} {d b : Addr} {u x : HO}
theorem wo_lock : Same (wo H d) (upd H d x) := fun b o e => by
  by_cases z : b = d
  · subst z
    unfold wo at e
    rw [if_pos rfl] at e
    cases e
  · rw [upd_ne z]
    rw [wo_ne z] at e
    exact e
theorem same_unlock (h : H d = some u) (e : Same (wo H d) G) : Same H (upd G d u) := fun b o q => by
  by_cases z : b = d
  · subst z
    rw [upd_same, ← q, h]
  · rw [upd_ne z]
    exact e _ _ (by rw [wo_ne z]; exact q)
theorem lock_new (h : H d = some u) (n : upd H d x b = none) : H b = none ∧ b ≠ d := by
  have ne : b ≠ d := fun z => by rw [z, upd_same] at n; cases n
  rw [upd_ne ne] at n
  exact ⟨n, ne⟩
variable {Pd : Hp → List Nat → V → Prop} {kvs : List (List Key × V)} {cs : List (List Nat)} {f : List Nat → List (List Nat)}
theorem EntA.at_ (t : EntA Pd H kvs cs) : ∀ {i : Nat} {k : List Key} {v : V}, kvs[i]? = some (k, v) → ∃ c, cs[i]? = some c ∧ k = kyN c ∧ Pd H c v := by
  induction t with
  | nil => intro i k v h; simp at h
  | cons h2 _ ih =>
    intro i k v h
    cases i with
    | zero => simp at h; obtain ⟨rfl, rfl⟩ := h; exact ⟨_, rfl, rfl, h2⟩
    | succ i => exact ih (by simpa using h)
theorem BelP.wo {c : List Nat} {v : V} {kv : List (List Key × V)} (h : BelP f H c v) (hd : H d = some (.dT kv)) : BelP f (wo H d) c v := by
  obtain ⟨l, us, rfl, h2, h3⟩ := h
  have ne : l ≠ d := fun z => by
    rw [z, hd] at h2
    cases h2
  exact ⟨l, us, rfl, (wo_ne ne).trans h2, h3.out hd⟩
theorem EntA.wo_ {kv : List (List Key × V)} (t : EntA (BelP f) H kvs cs) (hd : H d = some (.dT kv)) : EntA (BelP f) (wo H d) kvs cs := by
  induction t with
  | nil => exact .nil
  | cons h _ ih => exact .cons (h.wo hd) ih
theorem EntA.same {cs : List (List Nat)} (t : EntA (BelP f) H kvs cs) (e : Same H H') : EntA (BelP f) H' kvs cs := t.map fun _ _ h => h.same e
theorem mapK_at {r : List Nat → Nat} {cs : List (List Nat)} {i : Nat} {k : List Key} {v : V} (h : (mapK r cs)[i]? = some (k, v)) : ∃ c, cs[i]? = some c ∧ k = kyN c ∧ v = .int (r c : Int) := by
  unfold mapK at h
  rw [List.getElem?_map] at h
  cases e : cs[i]? with
  | none => rw [e] at h; cases h
  | some c => rw [e] at h; cases h; exact ⟨c, rfl, rfl, rfl⟩
theorem sum_ints (r : List Nat → Nat) : ∀ l : List (List Nat), (l.map fun c => ((r c : Nat) : Int)).sum = ((l.map r).sum : Int)
  | [] => rfl
  | c :: l => by
    rw [List.map_cons, List.sum_cons, sum_ints r l, List.map_cons, List.sum_cons]
    omega
/-- look-ups in a locked dict -/
theorem DGet.lk {a b : Addr} {o : Obj} {k : List Key} (e : H a = some (.frz o (.dT kvs))) (eb : H b = some (.tup (k.map kV))) : DGet H a (.ref b) (valV kvs k) := .inr ⟨kvs, k, b, .inr ⟨o, e⟩, rfl, eb, rfl⟩
end
end CC
namespace CC
open PySem L2
/-! ### class_numbers -/
abbrev sCn : Stmt := tp 34
abbrev nCn : List Str := ["ordered", "settling", "naming", "fresh", "named", "group", "settled", "lying", "many", "one", "other"]
def forBody : Stmt → List Stmt
  | .For _ _ b _ _ => b
  | _ => []
def asgVal2 : Stmt → Expr
  | .Assign _ v _ => v
  | _ => .Constant .none 0 ⟨0, 0, 0, 0⟩
abbrev scCn1 : Scope := dcSc1 (asgVal2 ((forBody ((defBody sCn).getD 2 (.Pass ⟨0, 0, 0, 0⟩))).getD 0 (.Pass ⟨0, 0, 0, 0⟩)))
abbrev scCn2 : Scope := dcSc1 (asgVal2 ((forBody ((defBody sCn).getD 2 (.Pass ⟨0, 0, 0, 0⟩))).getD 1 (.Pass ⟨0, 0, 0, 0⟩)))
abbrev tIn9 (K : PySem.W.Frag) : TT := tTest (tOp (rIn K false) (tOp (rIxT K) (tVar 9) (tC (.int 0))) (tVar 5))
abbrev tSum (K : PySem.W.Frag) (a b : Nat) : TE := tCB (rSum K) (tCons (tLc (iList K (tDGet (tVar a) (tVar 9))) (gName 10) tYes (tDGet (tVar b) (tVar 10)) [10]) tNil)
def spCn (K : PySem.W.Frag) : Sp := fun vs H Q _ => ∃ (p d1 d2 : Addr) (us : List V) (kv1 kv2 : List (List Key × V)) (MS MN MG : Nat → Nat → Bool) (w : Nat) (gs : List (List Nat)), vs = [.ref p, .ref d1, .ref d2] ∧ H p = some (.lst us) ∧ TupA H us gs ∧
  H d1 = some (.dT kv1) ∧ EntA (BelP (belM MS (clsM MS w))) H kv1 (clsM MS w) ∧ H d2 = some (.dT kv2) ∧ EntA (BelP (belM MN (clsM MN w))) H kv2 (clsM MN w) ∧ Lay MS MN MG w ∧ gs.Perm (clsM MG w) ∧ gs.Pairwise (fun a b => keyM MG w a ≤ keyM MG w b) ∧
  ∀ (T F N : Addr) (H' : Hp), Same H H' → H T = none → H F = none → H N = none → H' T = some (.tup [.ref F, .ref N]) → H' F = some (.dT (mapK (rM MS MN MG w) (doneC (clsM MS w) gs))) → H' N = some (.dT (mapK (nM MS MN MG w) (doneC (clsM MN w) gs))) → Q (.ref T) H'
section
variable {P : Program} {w : World} {K : PySem.W.Frag} {mg : Str → Option Value} {base : Heap} {kA : Addr}
theorem scCnM : FnScope nCn ["ordered", "settling", "naming"] (defScope sCn) := ⟨rfl, rfl, rfl, by decide +kernel, rfl, by decide +kernel, by decide +kernel⟩
theorem ok_cn {f : Addr} {fd : FuncData} {k : Nat} (F : Fun K "class_numbers" "class_numbers" sCn f fd) (T : Glb K mg kA) : FnOk P w K mg base CX0 (k + 1) f fd ["ordered", "settling", "naming"] (spCn K) := by
  refine F.ok scCnM (fun vs H Q E h => ?_) (fun cdv A outer s H vs Q E hr h => ?_)
  · obtain ⟨p, d1, d2, us, kv1, kv2, MS, MN, MG, w, gs, rfl, _⟩ := h
    rfl
  · obtain ⟨p, d1, d2, us, kv1, kv2, MS, MN, MG, w, gs, rfl, hp, tg, h1, e1, h2, e2, L0, pm, ord, q⟩ := h
    have n := scCnM.nd
    have hu1 : (A.deeper (PyProof.Rows.envOfC (Str.ofString "class_numbers") (defScope sCn) s.heap.objs.size f cdv)).units + 1 < cLine := by
      have := hr.un
      omega
    have hw6 := L0.w6
    refine ⟨_, (pss_cons (ps_set (i := 3) n rfl (.inr rfl) pe_dnewT)
      (pss_cons (ps_set (i := 4) n rfl (.inr rfl) pe_dnewT)
      (pss_cons (ps_for PassesOwn.never rfl (pi_list (pv 0)) (pg_name (i := 5) n rfl (.inr rfl))
        (pss_cons (ps_set (i := 6) n rfl (.inr rfl) (pe_lock (DCT.pe_dcT (own := [("one", 9)]) (g := gName 9) (tt := tIn9 K) (tk := tVar 9) (tv := tSum K 1 3) hu1 rfl n (pi_keys (pv 1)) (blkOk_by (N := nCn) (sc := defScope sCn) (by decide +kernel)) (fun _ _ _ _ _ => (pg_name (i := 9) n rfl (.inl rfl))) (fun _ _ _ _ _ => pts_one (pt_cmpR op_in_seq (pe_ix ix_tup (pv 9) pe_int (fun _ _ => rfl)) (pv 5) (by rfl))) (fun _ _ _ _ _ => (pv 9)) (fun _ _ _ _ _ => show PE _ _ (tSum K 1 3) from pe_callB (cr_sum rfl) (by rfl) T.sum (by decide +kernel) (pa_cons (pe_lc (own := [("other", 10)]) (g := gName 10) (tt := tYes) (te := tDGet (tVar 3) (tVar 10)) rfl n (pi_list (pe_dget hu1 (pv 1) (pv 9) (fun _ _ => rfl))) (blkOk_by (N := nCn) (sc := relS scCn1 (defScope sCn)) (by decide +kernel)) (fun _ _ _ _ _ => (pg_name (i := 10) n rfl (.inl rfl))) (fun _ _ _ _ _ => pts_nil) (fun _ _ _ _ _ => (pe_dget hu1 (pv 3) (pv 10) (fun _ _ => rfl)))) pa_nil)))))
        (pss_cons (ps_set (i := 7) n rfl (.inr rfl) (pe_lock (DCT.pe_dcT (own := [("one", 9)]) (g := gName 9) (tt := tIn9 K) (tk := tVar 9) (tv := tSum K 2 4) hu1 rfl n (pi_keys (pv 2)) (blkOk_by (N := nCn) (sc := defScope sCn) (by decide +kernel)) (fun _ _ _ _ _ => (pg_name (i := 9) n rfl (.inl rfl))) (fun _ _ _ _ _ => pts_one (pt_cmpR op_in_seq (pe_ix ix_tup (pv 9) pe_int (fun _ _ => rfl)) (pv 5) (by rfl))) (fun _ _ _ _ _ => (pv 9)) (fun _ _ _ _ _ => show PE _ _ (tSum K 2 4) from pe_callB (cr_sum rfl) (by rfl) T.sum (by decide +kernel) (pa_cons (pe_lc (own := [("other", 10)]) (g := gName 10) (tt := tYes) (te := tDGet (tVar 4) (tVar 10)) rfl n (pi_list (pe_dget hu1 (pv 2) (pv 9) (fun _ _ => rfl))) (blkOk_by (N := nCn) (sc := relS scCn2 (defScope sCn)) (by decide +kernel)) (fun _ _ _ _ _ => (pg_name (i := 10) n rfl (.inl rfl))) (fun _ _ _ _ _ => pts_nil) (fun _ _ _ _ _ => (pe_dget hu1 (pv 4) (pv 10) (fun _ _ => rfl)))) pa_nil)))))
        (pss_cons (ps_set (i := 8) n rfl (.inl rfl) (pe_callB (cr_max rfl) (by rfl) T.max (by decide +kernel) (pa_cons (pe_op op_cat (pe_lock (pe_lc (own := [("one", 9)]) (g := gName 9) (tt := tYes) (te := tOp (rI0 fun i j => .int (i + j)) (tC (.int 2)) (tDGet (tVar 6) (tVar 9))) rfl n (pi_keys (pv 6)) (blkOk_by (N := nCn) (sc := defScope sCn) (by decide +kernel)) (fun _ _ _ _ _ => (pg_name (i := 9) n rfl (.inl rfl))) (fun _ _ _ _ _ => pts_nil) (fun _ _ _ _ _ => (pe_op op_add pe_int (pe_dget hu1 (pv 6) (pv 9) (fun _ _ => rfl)))))) (pe_lock (pe_lc (own := [("one", 9)]) (g := gName 9) (tt := tYes) (te := tOp (rI0 fun i j => .int (i + j)) (tC (.int 1)) (tDGet (tVar 7) (tVar 9))) rfl n (pi_keys (pv 7)) (blkOk_by (N := nCn) (sc := defScope sCn) (by decide +kernel)) (fun _ _ _ _ _ => (pg_name (i := 9) n rfl (.inl rfl))) (fun _ _ _ _ _ => pts_nil) (fun _ _ _ _ _ => (pe_op op_add pe_int (pe_dget hu1 (pv 7) (pv 9) (fun _ _ => rfl))))))) pa_nil)))
        (pss_cons (ps_lock (ps_for PassesOwn.never rfl (pi_keys (pv 6)) (pg_name (i := 9) n rfl (.inl rfl))
          (pss_one (ps_dput hu1 (pv 3) (pv 9) (pe_op op_sub (pe_op op_sub (pv 8) pe_int) (pe_dget hu1 (pv 6) (pv 9) (fun _ _ => rfl))) rfl))))
        (pss_one (ps_lock (ps_for PassesOwn.never rfl (pi_keys (pv 7)) (pg_name (i := 9) n rfl (.inl rfl))
          (pss_one (ps_dput hu1 (pv 4) (pv 9) (pe_op op_sub (pv 8) (pe_dget hu1 (pv 7) (pv 9) (fun _ _ => rfl))) rfl))))))))))
      (pss_one (ps_ret (pe_tup (pa_cons (pv 3) (pa_cons (pv 4) pa_nil)))))))), ?_⟩
    refine fun F nF => ?_
    refine fun N nN => ?_
    have sF : Same H (upd H F (.dT [])) := same_new nF
    have sN : Same (upd H F (.dT [])) (upd (upd H F (.dT [])) N (.dT [])) := same_new nN
    have FN : F ≠ N := ne_of_none (upd_same (H := H) (o := .dT [])) nN
    have nN0 : H N = none := sF.free nN
    have d1F : d1 ≠ F := ne_of_none h1 nF
    have d2F : d2 ≠ F := ne_of_none h2 nF
    have d1N : d1 ≠ N := ne_of_none h1 nN0
    have d2N : d2 ≠ N := ne_of_none h2 nN0
    refine ⟨_, rfl, p, rfl, ⟨us, SqL.of (sN _ _ (sF _ _ hp))⟩, ?_⟩
    refine for_list (xs := us) (fun i σ' G => ∃ v5 v6 v7 v8 v9, σ' = [some (.ref p), some (.ref d1), some (.ref d2), some (.ref F), some (.ref N), v5, v6, v7, v8, v9, none] ∧ Same H G ∧ G F = some (.dT (mapK (rM MS MN MG w) (doneC (clsM MS w) (gs.take i)))) ∧ G N = some (.dT (mapK (nM MS MN MG w) (doneC (clsM MN w) (gs.take i)))))
      ⟨_, _, _, _, _, rfl, sF.trans sN, sN _ _ upd_same, upd_same⟩ (fun i σ' G _ z => by
        obtain ⟨_, _, _, _, _, _, z, _⟩ := z
        exact SqL.of (z _ _ hp)) ?_ ?_
    · rintro i0 x σ0 H1 hx ⟨v5, v6, v7, v8, v9, rfl, o1, hF1, hN1⟩
      obtain ⟨t, g, rfl, hg, ht0⟩ := tg.at_ hx
      have gm := pm.mem_iff.mp (List.mem_of_getElem? hg)
      refine ⟨d1, .dT kv1, o1 _ _ h1, trivial, fun od => ?_⟩
      have lD : (upd H1 d1 (.frz od (.dT kv1))) d1 = some (.frz od (.dT kv1)) := upd_same
      have oL : Same (wo H1 d1) (upd H1 d1 (.frz od (.dT kv1))) := wo_lock
      have eE : EntA (BelP (belM MS (clsM MS w))) (upd H1 d1 (.frz od (.dT kv1))) kv1 (clsM MS w) := ((EntA.same e1 o1).wo_ (o1 _ _ h1)).same oL
      have ntd : t ≠ d1 := fun z => by
        rw [z, h1] at ht0
        cases ht0
      have tL : (upd H1 d1 (.frz od (.dT kv1))) t = some (.tup (nms g)) := oL _ _ ((wo_ne ntd).trans (o1 _ _ ht0))
      have fL : (upd H1 d1 (.frz od (.dT kv1))) F = some (.dT (mapK (rM MS MN MG w) (doneC (clsM MS w) (gs.take i0)))) := oL _ _ ((wo_ne (Ne.symm d1F)).trans hF1)
      refine ⟨_, rfl, d1, od, rfl, .inr ⟨kv1, lD, fun D nLk => ?_⟩⟩
      refine DCT.over_it walk_keysT (fun i G => Same (upd H1 d1 (.frz od (.dT kv1))) G ∧ G D = some (.dT (mapK (sumB MS w (rM MS MN MG w)) (((clsM MS w).take i).filter (inGr g))))) ⟨same_new nLk, upd_same⟩ (fun i G _ z => z.1 _ _ lD) ?_ ?_
      · rintro i x G0 G hi ⟨sG, hO⟩ ⟨rfl, ky, v, qa, hkv, rfl, hqa⟩
        obtain ⟨c, hc, rfl, _⟩ := eE.at_ hkv
        rw [kyN_kV] at hqa
        have cm := List.mem_of_getElem? hc
        obtain ⟨a0, tl, aw, ec⟩ := cls_memB cm
        have at0 : atI (nms c) 0 = some (.int ((c.headD 0 : Nat) : Int)) := by
          rw [ec]
          exact atI_nat (j := 0) rfl
        refine ⟨rfl, ?_⟩
        refine ⟨_, rfl, qa, _, _, _, rfl, rfl, .inl (.inl hqa), at0, _, rfl, t, nms g, rfl, .inr (.inl (.inl (sG _ _ tL))), rfl, nms_flat _, _, rfl, ?_⟩
        rw [show inV (V.int ((c.headD 0 : Nat) : Int)) (nms g) = inGr g c from nms_in _ _, SG.take_one hc, List.filter_append]
        by_cases m : inGr g c = true
        · rw [m, List.filter_cons_of_pos m, List.filter_nil]
          obtain ⟨v', gv, bl, bu, rfl, hbl, tb⟩ := eE.get cm
          refine iteT ⟨_, rfl, _, rfl, _, rfl, d1, _, rfl, (by rw [← gv]; exact DGet.lk (sG _ _ lD) (by rw [kyN_kV]; exact hqa)), bl, rfl, ⟨_, SqL.of (sG _ _ hbl)⟩, fun D3 n3 => ?_⟩
          refine lc_list (xs := bu) (fun j G3 => Same G G3 ∧ G3 D3 = some (.lst ((((belM MS (clsM MS w) c).take j).map fun o => (((rM MS MN MG w) o : Nat) : Int)).map V.int))) ⟨same_new n3, upd_same⟩ (fun j G3 _ z => SqL.of (z.1 _ _ (sG _ _ hbl))) ?_ ?_
          · rintro j x3 G3 hx ⟨s3, h3⟩
            obtain ⟨t', o, rfl, ho, ht'⟩ := tb.at_ hx
            have om := List.mem_of_getElem? ho
            have od_ : o ∈ doneC (clsM MS w) (gs.take i0) := below_done L0.g pm ord hg m (bel_mem om) (L0.belS cm om)
            refine ⟨rfl, yes_if ⟨_, rfl, _, rfl, F, _, rfl, (by rw [← mapK_val (f := (rM MS MN MG w)) od_]; exact DGet.t (s3 _ _ (sG _ _ fL)) (by rw [kyN_kV]; exact s3 _ _ (sG _ _ ht'))), _, h3, ?_, same_mut s3 n3, ?_⟩⟩
            · rw [List.length_map, List.length_map, List.length_take]
              have l1 : (belM MS (clsM MS w) c).length ≤ (clsM MS w).length := List.length_filter_le _ _
              have l2 := cls_len (M := MS) (w := w)
              exact small1000 (by omega)
            · rw [upd_same, SG.take_one ho, List.map_append, List.map_append]
              rfl
          rintro G3 ⟨s3, h3⟩
          rw [tb.len, List.take_length] at h3
          refine ⟨D3, _, rfl, SqL.of h3, ?_⟩
          rw [sum_ints]
          have hO3 := s3 _ _ hO
          refine ⟨_, DCT.ent_new hO3 (by rw [kyN_kV]; exact s3 _ _ hqa) ?_ (mapK_new fun z => ?_), same_mut (sG.trans s3) nLk, ?_⟩
          · rw [mapK_len]
            have l1 := List.length_filter_le (inGr g) ((clsM MS w).take i)
            have l2 := cls_len (M := MS) (w := w)
            rw [List.length_take] at l1
            exact small1000 (by omega)
          · exact take_new cls_nodupB hc (List.mem_filter.mp z).1
          · rw [upd_same, mapK_app]
            rfl
        · rw [Bool.not_eq_true] at m
          rw [m, List.filter_cons_of_neg (by rw [m]; exact Bool.false_ne_true), List.filter_nil, List.append_nil]
          exact iteF ⟨sG, hO⟩
      rintro G ⟨sG, hO⟩
      rw [eE.len, List.take_length] at hO
      refine ⟨sG _ _ lD, ?_⟩
      have o2 : Same H1 (upd G d1 (.dT kv1)) := same_unlock (o1 _ _ h1) (oL.trans sG)
      obtain ⟨nE1, nEd⟩ := lock_new (o1 _ _ h1) nLk
      have hD : (upd G d1 (.dT kv1)) D = some (.dT (mapK (sumB MS w (rM MS MN MG w)) ((clsM MS w).filter (inGr g)))) := by
        rw [upd_ne nEd]
        exact hO
      have nD : H1 D = none := nE1
      clear lD oL eE tL fL sG hO nLk nE1 nEd
      generalize upd G d1 (.dT kv1) = H2 at o2 hD ⊢
      have o02 := o1.trans o2
      have hN2 := o2 _ _ hN1
      have hF2 := o2 _ _ hF1
      have FD : F ≠ D := ne_of_none hF1 nD
      have ND : N ≠ D := ne_of_none hN1 nD
      clear o2
      refine ⟨d2, .dT kv2, o02 _ _ h2, trivial, fun od => ?_⟩
      have lD : (upd H2 d2 (.frz od (.dT kv2))) d2 = some (.frz od (.dT kv2)) := upd_same
      have oL : Same (wo H2 d2) (upd H2 d2 (.frz od (.dT kv2))) := wo_lock
      have eE : EntA (BelP (belM MN (clsM MN w))) (upd H2 d2 (.frz od (.dT kv2))) kv2 (clsM MN w) := ((EntA.same e2 o02).wo_ (o02 _ _ h2)).same oL
      have ntd : t ≠ d2 := fun z => by
        rw [z, h2] at ht0
        cases ht0
      have tL : (upd H2 d2 (.frz od (.dT kv2))) t = some (.tup (nms g)) := oL _ _ ((wo_ne ntd).trans (o02 _ _ ht0))
      have fL : (upd H2 d2 (.frz od (.dT kv2))) N = some (.dT (mapK (nM MS MN MG w) (doneC (clsM MN w) (gs.take i0)))) := oL _ _ ((wo_ne (Ne.symm d2N)).trans hN2)
      refine ⟨_, rfl, d2, od, rfl, .inr ⟨kv2, lD, fun E nLk => ?_⟩⟩
      refine DCT.over_it walk_keysT (fun i G => Same (upd H2 d2 (.frz od (.dT kv2))) G ∧ G E = some (.dT (mapK (sumB MN w (nM MS MN MG w)) (((clsM MN w).take i).filter (inGr g))))) ⟨same_new nLk, upd_same⟩ (fun i G _ z => z.1 _ _ lD) ?_ ?_
      · rintro i x G0 G hi ⟨sG, hO⟩ ⟨rfl, ky, v, qa, hkv, rfl, hqa⟩
        obtain ⟨c, hc, rfl, _⟩ := eE.at_ hkv
        rw [kyN_kV] at hqa
        have cm := List.mem_of_getElem? hc
        obtain ⟨a0, tl, aw, ec⟩ := cls_memB cm
        have at0 : atI (nms c) 0 = some (.int ((c.headD 0 : Nat) : Int)) := by
          rw [ec]
          exact atI_nat (j := 0) rfl
        refine ⟨rfl, ?_⟩
        refine ⟨_, rfl, qa, _, _, _, rfl, rfl, .inl (.inl hqa), at0, _, rfl, t, nms g, rfl, .inr (.inl (.inl (sG _ _ tL))), rfl, nms_flat _, _, rfl, ?_⟩
        rw [show inV (V.int ((c.headD 0 : Nat) : Int)) (nms g) = inGr g c from nms_in _ _, SG.take_one hc, List.filter_append]
        by_cases m : inGr g c = true
        · rw [m, List.filter_cons_of_pos m, List.filter_nil]
          obtain ⟨v', gv, bl, bu, rfl, hbl, tb⟩ := eE.get cm
          refine iteT ⟨_, rfl, _, rfl, _, rfl, d2, _, rfl, (by rw [← gv]; exact DGet.lk (sG _ _ lD) (by rw [kyN_kV]; exact hqa)), bl, rfl, ⟨_, SqL.of (sG _ _ hbl)⟩, fun D3 n3 => ?_⟩
          refine lc_list (xs := bu) (fun j G3 => Same G G3 ∧ G3 D3 = some (.lst ((((belM MN (clsM MN w) c).take j).map fun o => (((nM MS MN MG w) o : Nat) : Int)).map V.int))) ⟨same_new n3, upd_same⟩ (fun j G3 _ z => SqL.of (z.1 _ _ (sG _ _ hbl))) ?_ ?_
          · rintro j x3 G3 hx ⟨s3, h3⟩
            obtain ⟨t', o, rfl, ho, ht'⟩ := tb.at_ hx
            have om := List.mem_of_getElem? ho
            have od_ : o ∈ doneC (clsM MN w) (gs.take i0) := below_done L0.g pm ord hg m (bel_mem om) (L0.belN cm om)
            refine ⟨rfl, yes_if ⟨_, rfl, _, rfl, N, _, rfl, (by rw [← mapK_val (f := (nM MS MN MG w)) od_]; exact DGet.t (s3 _ _ (sG _ _ fL)) (by rw [kyN_kV]; exact s3 _ _ (sG _ _ ht'))), _, h3, ?_, same_mut s3 n3, ?_⟩⟩
            · rw [List.length_map, List.length_map, List.length_take]
              have l1 : (belM MN (clsM MN w) c).length ≤ (clsM MN w).length := List.length_filter_le _ _
              have l2 := cls_len (M := MN) (w := w)
              exact small1000 (by omega)
            · rw [upd_same, SG.take_one ho, List.map_append, List.map_append]
              rfl
          rintro G3 ⟨s3, h3⟩
          rw [tb.len, List.take_length] at h3
          refine ⟨D3, _, rfl, SqL.of h3, ?_⟩
          rw [sum_ints]
          have hO3 := s3 _ _ hO
          refine ⟨_, DCT.ent_new hO3 (by rw [kyN_kV]; exact s3 _ _ hqa) ?_ (mapK_new fun z => ?_), same_mut (sG.trans s3) nLk, ?_⟩
          · rw [mapK_len]
            have l1 := List.length_filter_le (inGr g) ((clsM MN w).take i)
            have l2 := cls_len (M := MN) (w := w)
            rw [List.length_take] at l1
            exact small1000 (by omega)
          · exact take_new cls_nodupB hc (List.mem_filter.mp z).1
          · rw [upd_same, mapK_app]
            rfl
        · rw [Bool.not_eq_true] at m
          rw [m, List.filter_cons_of_neg (by rw [m]; exact Bool.false_ne_true), List.filter_nil, List.append_nil]
          exact iteF ⟨sG, hO⟩
      rintro G ⟨sG, hO⟩
      rw [eE.len, List.take_length] at hO
      refine ⟨sG _ _ lD, ?_⟩
      have o2 : Same H2 (upd G d2 (.dT kv2)) := same_unlock (o02 _ _ h2) (oL.trans sG)
      obtain ⟨nE1, nEd⟩ := lock_new (o02 _ _ h2) nLk
      have hE : (upd G d2 (.dT kv2)) E = some (.dT (mapK (sumB MN w (nM MS MN MG w)) ((clsM MN w).filter (inGr g)))) := by
        rw [upd_ne nEd]
        exact hO
      have nE : H2 E = none := nE1
      clear lD oL eE tL fL sG hO nLk nE1 nEd
      generalize upd G d2 (.dT kv2) = H3 at o2 hE ⊢
      have o03 := o02.trans o2
      have hN3 := o2 _ _ hN2
      have hF3 := o2 _ _ hF2
      have hD3 := o2 _ _ hD
      have FE : F ≠ E := ne_of_none hF2 nE
      have NE : N ≠ E := ne_of_none hN2 nE
      have DE : D ≠ E := ne_of_none hD nE
      clear o2
      refine ⟨D, _, hD3, trivial, fun od => ?_⟩
      have lD : (upd H3 D (.frz od (.dT (mapK (sumB MS w (rM MS MN MG w)) ((clsM MS w).filter (inGr g)))))) D = some (.frz od (.dT (mapK (sumB MS w (rM MS MN MG w)) ((clsM MS w).filter (inGr g))))) := upd_same
      refine ⟨_, rfl, D, od, rfl, .inr ⟨_, lD, fun X1 nLk => ?_⟩⟩
      refine lc_it walk_keysT (fun i G => Same (upd H3 D (.frz od (.dT (mapK (sumB MS w (rM MS MN MG w)) ((clsM MS w).filter (inGr g)))))) G ∧ G X1 = some (.lst (((((clsM MS w).filter (inGr g)).take i).map fun c => (((2 + sumB MS w (rM MS MN MG w) c : Nat) : Int))).map V.int))) ⟨same_new nLk, upd_same⟩ (fun i G _ z => z.1 _ _ lD) ?_ ?_
      · rintro i x G0 G hi ⟨sG, hO⟩ ⟨rfl, ky, v, qa, hkv, rfl, hqa⟩
        obtain ⟨c, hc, rfl, rfl⟩ := mapK_at hkv
        have cm := List.mem_of_getElem? hc
        refine ⟨rfl, yes_if ⟨_, rfl, _, rfl, D, _, rfl, (by rw [← mapK_val (f := sumB MS w (rM MS MN MG w)) cm]; exact DGet.lk (sG _ _ lD) hqa), _, _, rfl, rfl, _, hO, ?_, same_mut sG nLk, ?_⟩⟩
        · rw [List.length_map, List.length_map, List.length_take]
          have l1 := List.length_filter_le (inGr g) (clsM MS w)
          have l2 := cls_len (M := MS) (w := w)
          exact small1000 (by omega)
        · rw [upd_same, SG.take_one hc, List.map_append, List.map_append]
          have e9 : ((2 : Int) + (sumB MS w (rM MS MN MG w) c : Int)) = ((2 + sumB MS w (rM MS MN MG w) c : Nat) : Int) := by omega
          exact congrArg (fun z => some (HO.lst (((((clsM MS w).filter (inGr g)).take i).map fun c => (((2 + sumB MS w (rM MS MN MG w) c : Nat) : Int))).map V.int ++ [V.int z]))) e9
      rintro G ⟨sG, hO⟩
      rw [mapK_len, List.take_length] at hO
      refine ⟨sG _ _ lD, ?_⟩
      have o2 : Same H3 (upd G D (.dT (mapK (sumB MS w (rM MS MN MG w)) ((clsM MS w).filter (inGr g))))) := same_unlock hD3 (wo_lock.trans sG)
      obtain ⟨nE1, nEd⟩ := lock_new hD3 nLk
      have hX1 : (upd G D (.dT (mapK (sumB MS w (rM MS MN MG w)) ((clsM MS w).filter (inGr g))))) X1 = some (.lst ((((clsM MS w).filter (inGr g)).map fun c => (((2 + sumB MS w (rM MS MN MG w) c : Nat) : Int))).map V.int)) := by
        rw [upd_ne nEd]
        exact hO
      clear lD sG hO nLk nE1 nEd
      generalize upd G D (.dT (mapK (sumB MS w (rM MS MN MG w)) ((clsM MS w).filter (inGr g)))) = H4 at o2 hX1 ⊢
      have o04 := o03.trans o2
      have hN4 := o2 _ _ hN3
      have hF4 := o2 _ _ hF3
      have hD4 := o2 _ _ hD3
      have hE4 := o2 _ _ hE
      clear o2
      refine ⟨E, _, hE4, trivial, fun od => ?_⟩
      have lD : (upd H4 E (.frz od (.dT (mapK (sumB MN w (nM MS MN MG w)) ((clsM MN w).filter (inGr g)))))) E = some (.frz od (.dT (mapK (sumB MN w (nM MS MN MG w)) ((clsM MN w).filter (inGr g))))) := upd_same
      refine ⟨_, rfl, E, od, rfl, .inr ⟨_, lD, fun X2 nLk => ?_⟩⟩
      refine lc_it walk_keysT (fun i G => Same (upd H4 E (.frz od (.dT (mapK (sumB MN w (nM MS MN MG w)) ((clsM MN w).filter (inGr g)))))) G ∧ G X2 = some (.lst (((((clsM MN w).filter (inGr g)).take i).map fun c => (((1 + sumB MN w (nM MS MN MG w) c : Nat) : Int))).map V.int))) ⟨same_new nLk, upd_same⟩ (fun i G _ z => z.1 _ _ lD) ?_ ?_
      · rintro i x G0 G hi ⟨sG, hO⟩ ⟨rfl, ky, v, qa, hkv, rfl, hqa⟩
        obtain ⟨c, hc, rfl, rfl⟩ := mapK_at hkv
        have cm := List.mem_of_getElem? hc
        refine ⟨rfl, yes_if ⟨_, rfl, _, rfl, E, _, rfl, (by rw [← mapK_val (f := sumB MN w (nM MS MN MG w)) cm]; exact DGet.lk (sG _ _ lD) hqa), _, _, rfl, rfl, _, hO, ?_, same_mut sG nLk, ?_⟩⟩
        · rw [List.length_map, List.length_map, List.length_take]
          have l1 := List.length_filter_le (inGr g) (clsM MN w)
          have l2 := cls_len (M := MN) (w := w)
          exact small1000 (by omega)
        · rw [upd_same, SG.take_one hc, List.map_append, List.map_append]
          have e9 : ((1 : Int) + (sumB MN w (nM MS MN MG w) c : Int)) = ((1 + sumB MN w (nM MS MN MG w) c : Nat) : Int) := by omega
          exact congrArg (fun z => some (HO.lst (((((clsM MN w).filter (inGr g)).take i).map fun c => (((1 + sumB MN w (nM MS MN MG w) c : Nat) : Int))).map V.int ++ [V.int z]))) e9
      rintro G ⟨sG, hO⟩
      rw [mapK_len, List.take_length] at hO
      refine ⟨sG _ _ lD, ?_⟩
      have o2 : Same H4 (upd G E (.dT (mapK (sumB MN w (nM MS MN MG w)) ((clsM MN w).filter (inGr g))))) := same_unlock hE4 (wo_lock.trans sG)
      obtain ⟨nE1, nEd⟩ := lock_new hE4 nLk
      have hX2 : (upd G E (.dT (mapK (sumB MN w (nM MS MN MG w)) ((clsM MN w).filter (inGr g))))) X2 = some (.lst ((((clsM MN w).filter (inGr g)).map fun c => (((1 + sumB MN w (nM MS MN MG w) c : Nat) : Int))).map V.int)) := by
        rw [upd_ne nEd]
        exact hO
      clear lD sG hO nLk nE1 nEd
      generalize upd G E (.dT (mapK (sumB MN w (nM MS MN MG w)) ((clsM MN w).filter (inGr g)))) = H5 at o2 hX2 ⊢
      have o05 := o04.trans o2
      have hN5 := o2 _ _ hN4
      have hF5 := o2 _ _ hF4
      have hD5 := o2 _ _ hD4
      have hE5 := o2 _ _ hE4
      have hX15 := o2 _ _ hX1
      clear o2
      have len6 : ((clsM MS w).filter (inGr g)).length ≤ 6 ∧ ((clsM MN w).filter (inGr g)).length ≤ 6 := by
        have a1 := List.length_filter_le (inGr g) (clsM MS w)
        have a2 := List.length_filter_le (inGr g) (clsM MN w)
        have b1 := cls_len (M := MS) (w := w)
        have b2 := cls_len (M := MN) (w := w)
        omega
      refine ⟨X1, X2, _, _, rfl, rfl, hX15, hX2, ?_, fun X3 n3 => ?_⟩
      · rw [List.length_map, List.length_map, List.length_map, List.length_map]
        exact Nat.le_of_lt (small1000 (by omega))
      have cat : ((((clsM MS w).filter (inGr g)).map fun c => (((2 + sumB MS w (rM MS MN MG w) c : Nat) : Int))).map V.int) ++ ((((clsM MN w).filter (inGr g)).map fun c => (((1 + sumB MN w (nM MS MN MG w) c : Nat) : Int))).map V.int) = ((listG MS MN w (rM MS MN MG w) (nM MS MN MG w) g).map fun (m : Nat) => (m : Int)).map V.int := by
        unfold listG
        rw [List.map_append, List.map_append, List.map_map, List.map_map, List.map_map, List.map_map, List.map_map, List.map_map]
        rfl
      have s3 := same_new (o := .lst (((((clsM MS w).filter (inGr g)).map fun c => (((2 + sumB MS w (rM MS MN MG w) c : Nat) : Int))).map V.int) ++ ((((clsM MN w).filter (inGr g)).map fun c => (((1 + sumB MN w (nM MS MN MG w) c : Nat) : Int))).map V.int))) n3
      obtain ⟨c0, hc0, m0⟩ := L0.some gm
      have mem0 : 2 + sumB MS w (rM MS MN MG w) c0 ∈ listG MS MN w (rM MS MN MG w) (nM MS MN MG w) g := List.mem_append_left _ (List.mem_map.mpr ⟨c0, List.mem_filter.mpr ⟨hc0, m0⟩, rfl⟩)
      refine ⟨X3, _, rfl, SqL.of (upd_same.trans (by rw [cat])), ?_, fun m hm hle => ?_⟩
      · rw [List.length_map]
        exact List.length_pos_of_mem mem0
      obtain ⟨m', hm', rfl⟩ := List.mem_map.mp hm
      have em : m' = NM MS MN MG w g := maxL_is hm' fun y hy => by
        have := hle y (List.mem_map.mpr ⟨y, hy, rfl⟩)
        omega
      subst em
      have o06 := o05.trans s3
      have hN6 := s3 _ _ hN5
      have hF6 := s3 _ _ hF5
      have hD6 := s3 _ _ hD5
      have hE6 := s3 _ _ hE5
      clear s3 hX1 hX15 hX2
      generalize upd H5 X3 _ = H6 at o06 hN6 hF6 hD6 hE6 ⊢
      refine ⟨D, .dT (mapK (sumB MS w (rM MS MN MG w)) ((clsM MS w).filter (inGr g))), hD6, trivial, fun od => ?_⟩
      have lD : (upd H6 D (.frz od (.dT (mapK (sumB MS w (rM MS MN MG w)) ((clsM MS w).filter (inGr g)))))) D = some (.frz od (.dT (mapK (sumB MS w (rM MS MN MG w)) ((clsM MS w).filter (inGr g))))) := upd_same
      have lF : (upd H6 D (.frz od (.dT (mapK (sumB MS w (rM MS MN MG w)) ((clsM MS w).filter (inGr g)))))) F = some (.dT (mapK (rM MS MN MG w) (doneC (clsM MS w) (gs.take i0)))) := (upd_ne FD).trans hF6
      refine ⟨_, rfl, D, od, rfl, .inr ⟨_, lD, ?_⟩⟩
      refine for_it walk_keysT (fun i σ' G => ∃ v9, σ' = [some (.ref p), some (.ref d1), some (.ref d2), some (.ref F), some (.ref N), some (.ref t), some (.ref D), some (.ref E), some (.int (NM MS MN MG w g : Int)), v9, none] ∧ Same (wo (upd H6 D (.frz od (.dT (mapK (sumB MS w (rM MS MN MG w)) ((clsM MS w).filter (inGr g)))))) F) (wo G F) ∧ G F = some (.dT (mapK (rM MS MN MG w) (doneC (clsM MS w) (gs.take i0) ++ ((clsM MS w).filter (inGr g)).take i)))) ⟨_, rfl, Same.refl _, by rw [List.take_zero, List.append_nil]; exact lF⟩ (fun i σ' G _ z => by
        obtain ⟨_, _, z2, _⟩ := z
        exact wo_le F _ _ (z2 _ _ ((wo_ne (Ne.symm FD)).trans lD))) ?_ ?_
      · rintro i x σ' G0 G hi ⟨v9, rfl, sG, hG⟩ ⟨rfl, ky, v, qa, hkv, rfl, hqa⟩
        obtain ⟨c, hc, rfl, rfl⟩ := mapK_at hkv
        have cm := List.mem_of_getElem? hc
        obtain ⟨cm2, m⟩ := List.mem_filter.mp cm
        have gD := wo_le F _ _ (sG _ _ ((wo_ne (Ne.symm FD)).trans lD))
        have few : (mapK (rM MS MN MG w) (doneC (clsM MS w) (gs.take i0) ++ ((clsM MS w).filter (inGr g)).take i)).length < sizeLine := by
          rw [mapK_len, List.length_append, List.length_take]
          have l1 := List.length_filter_le (inGr g) (clsM MS w)
          have l2 := cls_len (M := MS) (w := w)
          have l3 := done_len (cs := clsM MS w) (gs := gs.take i0)
          have l4 : (gs.take i0).length ≤ 6 := by
            rw [List.length_take]
            have := pm.length_eq
            have := cls_len (M := MG) (w := w)
            omega
          have l5 : (gs.take i0).length * (clsM MS w).length ≤ 6 * 6 := Nat.mul_le_mul l4 (by omega)
          exact small1000 (by omega)
        have new : c ∉ doneC (clsM MS w) (gs.take i0) ++ ((clsM MS w).filter (inGr g)).take i := fun z => by
          rcases List.mem_append.mp z with z | z
          · exact new_done L0.g pm hg m z
          · exact take_new (cls_nodupB.filter _) hc z
        refine ⟨_, rfl, _, _, rfl, rfl, _, rfl, _, rfl, D, _, rfl, (by rw [← mapK_val (f := sumB MS w (rM MS MN MG w)) cm]; exact DGet.lk gD hqa), _, _, rfl, rfl, _, rfl, _, rfl, F, _, rfl, DPut.t hG hqa few, _, rfl, ?_, ?_⟩
        · rw [wo_upd]
          exact sG
        · rw [upd_same, DCT.put_new (mapK_none new), SG.take_one hc, ← List.append_assoc, mapK_app (cs := doneC (clsM MS w) (gs.take i0) ++ ((clsM MS w).filter (inGr g)).take i)]
          have e1 := L0.r_sum cm2
          rw [← L0.grp gm m] at e1
          have e2 := L0.s_le cm2 m
          have e3 : ((NM MS MN MG w g : Nat) : Int) - 1 - (sumB MS w (rM MS MN MG w) c : Int) = ((rM MS MN MG w) c : Int) := by omega
          exact congrArg (fun z => some (HO.dT (mapK (rM MS MN MG w) (doneC (clsM MS w) (gs.take i0) ++ ((clsM MS w).filter (inGr g)).take i) ++ [(kyN c, V.int z)]))) e3
      rintro σ' G ⟨v9, rfl, sG, hG⟩
      rw [mapK_len, List.take_length, ← done_app, ← SG.take_one hg] at hG
      have gD := wo_le F _ _ (sG _ _ ((wo_ne (Ne.symm FD)).trans lD))
      refine ⟨gD, ?_⟩
      have keep : ∀ b o, b ≠ F → H6 b = some o → (upd G D (.dT (mapK (sumB MS w (rM MS MN MG w)) ((clsM MS w).filter (inGr g))))) b = some o := fun b o ne q => by
        by_cases z : b = D
        · subst z
          rw [upd_same]
          exact hD6.symm.trans q
        · rw [upd_ne z]
          exact wo_le F _ _ (sG _ _ ((wo_ne ne).trans ((upd_ne z).trans q)))
      have put : (upd G D (.dT (mapK (sumB MS w (rM MS MN MG w)) ((clsM MS w).filter (inGr g))))) F = some (.dT (mapK (rM MS MN MG w) (doneC (clsM MS w) (gs.take (i0 + 1))))) := (upd_ne FD).trans hG
      have hE7 := keep _ _ (Ne.symm FE) hE6
      have hN7 := keep _ _ (Ne.symm FN) hN6
      have o07 : Same H (upd G D (.dT (mapK (sumB MS w (rM MS MN MG w)) ((clsM MS w).filter (inGr g))))) := fun b o e => keep b o (ne_of_none e nF) (o06 _ _ e)
      clear keep gD lD lF sG hG
      generalize upd G D (.dT (mapK (sumB MS w (rM MS MN MG w)) ((clsM MS w).filter (inGr g)))) = H7 at put hE7 hN7 o07 ⊢
      have hF7 := put
      clear put
      refine ⟨E, .dT (mapK (sumB MN w (nM MS MN MG w)) ((clsM MN w).filter (inGr g))), hE7, trivial, fun od => ?_⟩
      have lD : (upd H7 E (.frz od (.dT (mapK (sumB MN w (nM MS MN MG w)) ((clsM MN w).filter (inGr g)))))) E = some (.frz od (.dT (mapK (sumB MN w (nM MS MN MG w)) ((clsM MN w).filter (inGr g))))) := upd_same
      have lF : (upd H7 E (.frz od (.dT (mapK (sumB MN w (nM MS MN MG w)) ((clsM MN w).filter (inGr g)))))) N = some (.dT (mapK (nM MS MN MG w) (doneC (clsM MN w) (gs.take i0)))) := (upd_ne NE).trans hN7
      refine ⟨_, rfl, E, od, rfl, .inr ⟨_, lD, ?_⟩⟩
      refine for_it walk_keysT (fun i σ' G => ∃ v9, σ' = [some (.ref p), some (.ref d1), some (.ref d2), some (.ref F), some (.ref N), some (.ref t), some (.ref D), some (.ref E), some (.int (NM MS MN MG w g : Int)), v9, none] ∧ Same (wo (upd H7 E (.frz od (.dT (mapK (sumB MN w (nM MS MN MG w)) ((clsM MN w).filter (inGr g)))))) N) (wo G N) ∧ G N = some (.dT (mapK (nM MS MN MG w) (doneC (clsM MN w) (gs.take i0) ++ ((clsM MN w).filter (inGr g)).take i)))) ⟨_, rfl, Same.refl _, by rw [List.take_zero, List.append_nil]; exact lF⟩ (fun i σ' G _ z => by
        obtain ⟨_, _, z2, _⟩ := z
        exact wo_le N _ _ (z2 _ _ ((wo_ne (Ne.symm NE)).trans lD))) ?_ ?_
      · rintro i x σ' G0 G hi ⟨v9, rfl, sG, hG⟩ ⟨rfl, ky, v, qa, hkv, rfl, hqa⟩
        obtain ⟨c, hc, rfl, rfl⟩ := mapK_at hkv
        have cm := List.mem_of_getElem? hc
        obtain ⟨cm2, m⟩ := List.mem_filter.mp cm
        have gD := wo_le N _ _ (sG _ _ ((wo_ne (Ne.symm NE)).trans lD))
        have few : (mapK (nM MS MN MG w) (doneC (clsM MN w) (gs.take i0) ++ ((clsM MN w).filter (inGr g)).take i)).length < sizeLine := by
          rw [mapK_len, List.length_append, List.length_take]
          have l1 := List.length_filter_le (inGr g) (clsM MN w)
          have l2 := cls_len (M := MN) (w := w)
          have l3 := done_len (cs := clsM MN w) (gs := gs.take i0)
          have l4 : (gs.take i0).length ≤ 6 := by
            rw [List.length_take]
            have := pm.length_eq
            have := cls_len (M := MG) (w := w)
            omega
          have l5 : (gs.take i0).length * (clsM MN w).length ≤ 6 * 6 := Nat.mul_le_mul l4 (by omega)
          exact small1000 (by omega)
        have new : c ∉ doneC (clsM MN w) (gs.take i0) ++ ((clsM MN w).filter (inGr g)).take i := fun z => by
          rcases List.mem_append.mp z with z | z
          · exact new_done L0.g pm hg m z
          · exact take_new (cls_nodupB.filter _) hc z
        refine ⟨_, rfl, _, rfl, _, rfl, E, _, rfl, (by rw [← mapK_val (f := sumB MN w (nM MS MN MG w)) cm]; exact DGet.lk gD hqa), _, _, rfl, rfl, _, rfl, _, rfl, N, _, rfl, DPut.t hG hqa few, _, rfl, ?_, ?_⟩
        · rw [wo_upd]
          exact sG
        · rw [upd_same, DCT.put_new (mapK_none new), SG.take_one hc, ← List.append_assoc, mapK_app (cs := doneC (clsM MN w) (gs.take i0) ++ ((clsM MN w).filter (inGr g)).take i)]
          have e1 := L0.n_sum cm2
          rw [← L0.grp gm m] at e1
          have e2 := L0.n_le cm2 m
          have e3 : ((NM MS MN MG w g : Nat) : Int) - (sumB MN w (nM MS MN MG w) c : Int) = ((nM MS MN MG w) c : Int) := by omega
          exact congrArg (fun z => some (HO.dT (mapK (nM MS MN MG w) (doneC (clsM MN w) (gs.take i0) ++ ((clsM MN w).filter (inGr g)).take i) ++ [(kyN c, V.int z)]))) e3
      rintro σ' G ⟨v9, rfl, sG, hG⟩
      rw [mapK_len, List.take_length, ← done_app, ← SG.take_one hg] at hG
      have gD := wo_le N _ _ (sG _ _ ((wo_ne (Ne.symm NE)).trans lD))
      refine ⟨gD, ?_⟩
      have keep : ∀ b o, b ≠ N → H7 b = some o → (upd G E (.dT (mapK (sumB MN w (nM MS MN MG w)) ((clsM MN w).filter (inGr g))))) b = some o := fun b o ne q => by
        by_cases z : b = E
        · subst z
          rw [upd_same]
          exact hE7.symm.trans q
        · rw [upd_ne z]
          exact wo_le N _ _ (sG _ _ ((wo_ne ne).trans ((upd_ne z).trans q)))
      have put : (upd G E (.dT (mapK (sumB MN w (nM MS MN MG w)) ((clsM MN w).filter (inGr g))))) N = some (.dT (mapK (nM MS MN MG w) (doneC (clsM MN w) (gs.take (i0 + 1))))) := (upd_ne NE).trans hG
      exact ⟨_, _, _, _, _, rfl, fun b o e => keep b o (ne_of_none e nN0) (o07 _ _ e), keep _ _ FN hF7, put⟩
    rintro σ0 G ⟨v5, v6, v7, v8, v9, rfl, o1, hF1, hN1⟩
    rw [tg.len, List.take_length] at hF1 hN1
    refine ⟨_, rfl, _, rfl, (by show 2 ≤ sizeLine; decide), fun T nT => ?_⟩
    have s2 : Same G (upd G T (.tup [.ref F, .ref N])) := same_new nT
    exact q T F N _ (o1.trans s2) (o1.free nT) nF nN0 upd_same (s2 _ _ hF1) (s2 _ _ hN1)
end
end CC
namespace CC
open PySem L2
/-! ### how large the numbers of classes are; the values of columns -/
section
variable {α : Type}
theorem sum_sub {l m : List Nat} (h : l.Sublist m) : l.sum ≤ m.sum := by
  induction h with
  | slnil => exact Nat.le_refl _
  | cons a _ ih => rw [List.sum_cons]; omega
  | cons_cons a _ ih => rw [List.sum_cons, List.sum_cons]; omega
theorem sum_leM {f g : α → Nat} : ∀ l : List α, (∀ x ∈ l, f x ≤ g x) → (l.map f).sum ≤ (l.map g).sum
  | [], _ => Nat.le_refl _
  | a :: l, h => by
    rw [List.map_cons, List.map_cons, List.sum_cons, List.sum_cons]
    have := h a List.mem_cons_self
    have := sum_leM l fun x hx => h x (List.mem_cons_of_mem _ hx)
    omega
theorem sum_lt {f g : α → Nat} : ∀ l : List α, l ≠ [] → (∀ x ∈ l, f x + 1 ≤ g x) → (l.map f).sum + 1 ≤ (l.map g).sum
  | [], h, _ => absurd rfl h
  | a :: l, _, h => by
    rw [List.map_cons, List.map_cons, List.sum_cons, List.sum_cons]
    have := h a List.mem_cons_self
    have := sum_leM (f := f) (g := g) l fun x hx => by have := h x (List.mem_cons_of_mem _ hx); omega
    omega
theorem grow {f key : Nat → Nat} {l : List Nat} (o : l.Pairwise fun a b => key a ≤ key b) (h : ∀ x ∈ l, f x ≤ max 2 (1 + ((l.filter fun y => decide (key y < key x)).map f).sum)) :
    ∀ i, 1 ≤ i → i ≤ l.length → 2 * (1 + ((l.take i).map f).sum) ≤ 3 * 2 ^ i
  | 0, h1, _ => absurd h1 (by omega)
  | i + 1, _, h2 => by
    have hi : i < l.length := h2
    have hx := h l[i] (List.getElem_mem hi)
    have e1 : l.take (i + 1) = l.take i ++ [l[i]] := by rw [List.take_add_one, List.getElem?_eq_getElem hi]; rfl
    have e2 : (l.filter fun y => decide (key y < key l[i])) = (l.take i).filter fun y => decide (key y < key l[i]) := by
      have : l = l.take i ++ l.drop i := (List.take_append_drop i l).symm
      have no : ((l.drop i).filter fun y => decide (key y < key l[i])) = [] := by
        rw [List.filter_eq_nil_iff]
        intro y hy
        obtain ⟨j, hj, ey⟩ := List.mem_iff_getElem.mp hy
        rw [List.getElem_drop] at ey
        rw [decide_eq_true_eq]
        rcases Nat.eq_zero_or_pos j with z | z
        · subst z
          rw [← ey]
          exact Nat.lt_irrefl _
        · have := List.pairwise_iff_getElem.mp o i (i + j) hi (by rw [List.length_drop] at hj; omega) (by omega)
          rw [ey] at this
          omega
      calc (l.filter fun y => decide (key y < key l[i])) = (l.take i ++ l.drop i).filter (fun y => decide (key y < key l[i])) := by rw [← this]
        _ = _ := by rw [List.filter_append, no, List.append_nil]
    have e3 : (((l.take i).filter fun y => decide (key y < key l[i])).map f).sum ≤ ((l.take i).map f).sum := sum_sub (List.Sublist.map f List.filter_sublist)
    rw [e2] at hx
    rw [e1, List.map_append, List.sum_append, List.map_cons, List.map_nil, List.sum_cons, List.sum_nil]
    have p2 : 2 ^ (i + 1) = 2 * 2 ^ i := by rw [Nat.pow_succ]; omega
    by_cases z : i = 0
    · subst z
      rw [List.take_zero] at e3 ⊢
      simp only [List.map_nil, List.sum_nil] at e3 ⊢
      simp only [Nat.zero_add, Nat.pow_one]
      rw [List.take_zero] at hx
      simp only [List.filter_nil, List.map_nil, List.sum_nil] at hx
      omega
    · have ih := grow o h i (by omega) (by omega)
      have pos : 2 ≤ 2 ^ i := by
        calc 2 = 2 ^ 1 := rfl
          _ ≤ 2 ^ i := Nat.pow_le_pow_right (by omega) (by omega)
      omega
end
section
variable {MS MN MG M : Nat → Nat → Bool} {w : Nat} {c d g h : List Nat}
/-- N of a column's group -/
def fN (MS MN MG : Nat → Nat → Bool) (w x : Nat) : Nat := NM MS MN MG w (grpM MG w x)
theorem heads_sub : ((clsM M w).map fun c => c.headD 0).Sublist (List.range w) := by
  unfold clsM
  rw [List.map_map]
  have e : (((List.range w).filter fun a => (grpM M w a).head? == some a).map ((fun c => c.headD 0) ∘ grpM M w)) = ((List.range w).filter fun a => (grpM M w a).head? == some a) := by
    rw [List.map_congr_left (g := id) fun a ha => ?_, List.map_id]
    obtain ⟨h1, h2⟩ := List.mem_filter.mp ha
    have h3 : (grpM M w a).head? = some a := by simpa using h2
    show (grpM M w a).headD 0 = a
    rw [List.headD_eq_head?_getD, h3]
    rfl
  rw [e]
  exact List.filter_sublist
theorem bel_heads {p : Nat → Bool} (h : ∀ d ∈ belM M (clsM M w) c, p (d.headD 0) = true) : ((belM M (clsM M w) c).map fun d => d.headD 0).Sublist ((List.range w).filter p) := by
  have s : ((belM M (clsM M w) c).map fun d => d.headD 0).Sublist (List.range w) := (List.Sublist.map _ List.filter_sublist).trans heads_sub
  have e : (((belM M (clsM M w) c).map fun d => d.headD 0).filter p) = (belM M (clsM M w) c).map fun d => d.headD 0 := by
    rw [List.filter_eq_self]
    intro x hx
    obtain ⟨d, hd, rfl⟩ := List.mem_map.mp hx
    exact h d hd
  rw [← e]
  exact List.Sublist.filter p s
theorem Lay.f_le (L : Lay MS MN MG w) {x : Nat} (hx : x < w) : fN MS MN MG w x ≤ max 2 (1 + (((List.range w).filter fun y => decide (keyM MG w [y] < keyM MG w [x])).map (fN MS MN MG w)).sum) := by
  have hg : grpM MG w x ∈ clsM MG w := cls_of L.g hx
  obtain ⟨c0, hc0, m0⟩ := L.some hg
  have ne : listG MS MN w (rM MS MN MG w) (nM MS MN MG w) (grpM MG w x) ≠ [] := List.ne_nil_of_mem (List.mem_append_left _ (List.mem_map.mpr ⟨c0, List.mem_filter.mpr ⟨hc0, m0⟩, rfl⟩))
  have mem := maxL_mem ne
  have ef : fN MS MN MG w x = maxL (listG MS MN w (rM MS MN MG w) (nM MS MN MG w) (grpM MG w x)) := rfl
  rw [← ef] at mem
  have key1 : ∀ d : List Nat, keyM MG w [d.headD 0] = keyM MG w d := fun _ => rfl
  rcases List.mem_append.mp mem with q | q
  · obtain ⟨c, hc, e⟩ := List.mem_map.mp q
    obtain ⟨cm, m⟩ := List.mem_filter.mp hc
    have kc := inGr_mutual L hx (cls_grp cm).1 m
    have sub := bel_heads (M := MS) (w := w) (c := c) (p := fun y => decide (keyM MG w [y] < keyM MG w [x])) fun d hd => decide_eq_true (by rw [key1, ← kc]; exact L.belS cm hd)
    have s2 := sum_sub (sub.map (fN MS MN MG w))
    rw [List.map_map] at s2
    by_cases z : belM MS (clsM MS w) c = []
    · have e : 2 + sumB MS w (rM MS MN MG w) c = fN MS MN MG w x := e
      unfold sumB at e
      rw [z] at e
      simp only [List.map_nil, List.sum_nil] at e
      omega
    · have s1 := sum_lt (f := rM MS MN MG w) (g := fN MS MN MG w ∘ fun d => d.headD 0) _ z fun d hd => by
        have := L.r_sum (bel_mem hd)
        show rM MS MN MG w d + 1 ≤ NM MS MN MG w (grpM MG w (d.headD 0))
        omega
      have e : 2 + sumB MS w (rM MS MN MG w) c = fN MS MN MG w x := e
      unfold sumB at e
      omega
  · obtain ⟨c, hc, e⟩ := List.mem_map.mp q
    obtain ⟨cm, m⟩ := List.mem_filter.mp hc
    have kc := inGr_mutual L hx (cls_grp cm).1 m
    have sub := bel_heads (M := MN) (w := w) (c := c) (p := fun y => decide (keyM MG w [y] < keyM MG w [x])) fun d hd => decide_eq_true (by rw [key1, ← kc]; exact L.belN cm hd)
    have s2 := sum_sub (sub.map (fN MS MN MG w))
    rw [List.map_map] at s2
    have s1 := sum_leM (f := nM MS MN MG w) (g := fN MS MN MG w ∘ fun d => d.headD 0) (belM MN (clsM MN w) c) fun d hd => by
      have := L.n_sum (bel_mem hd)
      show nM MS MN MG w d ≤ NM MS MN MG w (grpM MG w (d.headD 0))
      omega
    have e : 1 + sumB MN w (nM MS MN MG w) c = fN MS MN MG w x := e
    unfold sumB at e
    omega
theorem Lay.f_sum (L : Lay MS MN MG w) : ((List.range w).map (fN MS MN MG w)).sum ≤ 95 := by
  obtain ⟨l, el⟩ : ∃ l, l = (List.range w).mergeSort (fun a b => decide (keyM MG w [a] ≤ keyM MG w [b])) := ⟨_, rfl⟩
  have pl : l.Perm (List.range w) := by rw [el]; exact List.mergeSort_perm _ _
  have ol : l.Pairwise fun a b => keyM MG w [a] ≤ keyM MG w [b] := by
    rw [el]
    refine (List.pairwise_mergeSort (le := fun a b => decide (keyM MG w [a] ≤ keyM MG w [b])) (fun a b c h1 h2 => ?_) (fun a b => ?_) _).imp fun h => of_decide_eq_true h
    · have h1 := of_decide_eq_true h1
      have h2 := of_decide_eq_true h2
      exact decide_eq_true (by omega)
    · rw [Bool.or_eq_true, decide_eq_true_eq, decide_eq_true_eq]
      omega
  have es : ((List.range w).map (fN MS MN MG w)).sum = (l.map (fN MS MN MG w)).sum := ((pl.map _).sum_nat).symm
  rw [es]
  have len : l.length = w := by rw [pl.length_eq, List.length_range]
  rcases Nat.eq_zero_or_pos w with z | z
  · have : l = [] := List.length_eq_zero_iff.mp (by omega)
    rw [this]
    exact Nat.zero_le _
  · have b := grow (f := fN MS MN MG w) (key := fun a => keyM MG w [a]) ol (fun x hx => by
      have hx := List.mem_range.mp (pl.mem_iff.mp hx)
      have := L.f_le hx
      rw [((pl.filter fun y => decide (keyM MG w [y] < keyM MG w [x])).map (fN MS MN MG w)).sum_nat]
      exact this) w z (by omega)
    rw [← len, List.take_length, len] at b
    have p6 : 2 ^ w ≤ 2 ^ 6 := Nat.pow_le_pow_right (by omega) L.w6
    omega
theorem Lay.n_all (L : Lay MS MN MG w) : ((clsM MN w).map (nM MS MN MG w)).sum ≤ 95 := by
  have s1 := sum_leM (f := nM MS MN MG w) (g := fN MS MN MG w ∘ fun d => d.headD 0) (clsM MN w) fun d hd => by
    have := L.n_sum hd
    show nM MS MN MG w d ≤ NM MS MN MG w (grpM MG w (d.headD 0))
    omega
  have s2 := sum_sub ((heads_sub (M := MN) (w := w)).map (fN MS MN MG w))
  rw [List.map_map] at s2
  have := L.f_sum
  omega
theorem Lay.r_all (L : Lay MS MN MG w) : ((clsM MS w).map (rM MS MN MG w)).sum ≤ 95 := by
  have s1 := sum_leM (f := rM MS MN MG w) (g := fN MS MN MG w ∘ fun d => d.headD 0) (clsM MS w) fun d hd => by
    have := L.r_sum hd
    show rM MS MN MG w d ≤ NM MS MN MG w (grpM MG w (d.headD 0))
    omega
  have s2 := sum_sub ((heads_sub (M := MS) (w := w)).map (fN MS MN MG w))
  rw [List.map_map] at s2
  have := L.f_sum
  omega
/-! the names -/
/-- where the names of a class begin -/
def stM (n : List Nat → Nat) (cs : List (List Nat)) (c : List Nat) : Nat := ((cs.take (cs.idxOf c)).map n).sum
def nmsM (n : List Nat → Nat) (cs : List (List Nat)) (c : List Nat) : List Nat := List.range' (stM n cs c) (n c)
def flatM (M : Nat → Nat → Bool) (w : Nat) (n : List Nat → Nat) (c : List Nat) : List Nat := (c :: belM M (clsM M w) c).flatMap (nmsM n (clsM M w))
/-- the values of the columns of a class -/
def valM (M : Nat → Nat → Bool) (w : Nat) (n : List Nat → Nat) (c : List Nat) : List Nat := (flatM M w n c).mergeSort fun a b => decide (a ≤ b)
variable {n : List Nat → Nat} {cs : List (List Nat)}
theorem stM_at (nd : cs.Nodup) {i : Nat} (hc : cs[i]? = some c) : stM n cs c = ((cs.take i).map n).sum := by
  obtain ⟨hi, e⟩ := List.getElem?_eq_some_iff.mp hc
  unfold stM
  rw [← e, nd.idxOf_getElem]
theorem rgV_nms (a k : Nat) : rgV (a : Int) ((a : Int) + (k : Int)) = nms (List.range' a k) := by
  unfold rgV nms
  have e : ((a : Int) + (k : Int) - (a : Int)).toNat = k := by omega
  rw [e, List.range'_eq_map_range, List.map_map]
  refine List.map_congr_left fun i _ => ?_
  show V.int ((a : Int) + (i : Int)) = V.int ((a + i : Nat) : Int)
  rw [Int.natCast_add]
theorem nms_int2 (l : List Nat) : nms l = (l.map fun (m : Nat) => (m : Int)).map V.int := by
  unfold nms
  rw [List.map_map]
  rfl
theorem valM_perm : (valM M w n c).Perm (flatM M w n c) := List.mergeSort_perm _ _
theorem valM_inc : (valM M w n c).Pairwise (· ≤ ·) := by
  refine (List.pairwise_mergeSort (le := fun a b : Nat => decide (a ≤ b)) (fun a b c h1 h2 => ?_) (fun a b => ?_) _).imp fun h => of_decide_eq_true h
  · have h1 := of_decide_eq_true h1
    have h2 := of_decide_eq_true h2
    exact decide_eq_true (by omega)
  · rw [Bool.or_eq_true, decide_eq_true_eq, decide_eq_true_eq]
    omega
theorem valM_is {ns : List Int} (p : ns.Perm ((flatM M w n c).map fun (m : Nat) => (m : Int))) (o : ns.Pairwise (· ≤ ·)) : ns.map V.int = nms (valM M w n c) := by
  rw [nms_int2]
  refine congrArg (List.map V.int) (List.Perm.eq_of_pairwise (le := (· ≤ ·)) (fun a b _ _ h1 h2 => Int.le_antisymm h1 h2) o ?_ (p.trans (valM_perm.map _).symm))
  rw [List.pairwise_map]
  exact valM_inc.imp fun h => by omega
theorem flat_len : (flatM M w n c).length = n c + sumB M w n c := by
  unfold flatM sumB
  rw [List.flatMap_cons, List.length_append]
  have e1 : ∀ d, (nmsM n (clsM M w) d).length = n d := fun d => List.length_range' ..
  rw [e1, List.length_flatMap, List.map_congr_left (g := n) fun d _ => e1 d]
theorem valM_len : (valM M w n c).length = n c + sumB M w n c := by rw [valM_perm.length_eq, flat_len]
/-- names lie below the sum of all n -/
theorem nms_below (nd : cs.Nodup) (hc : c ∈ cs) {x : Nat} (hx : x ∈ nmsM n cs c) : x < (cs.map n).sum := by
  obtain ⟨i, hi⟩ := List.mem_iff_getElem?.mp hc
  unfold nmsM at hx
  rw [stM_at nd hi, List.mem_range'_1] at hx
  have e : ((cs.take (i + 1)).map n).sum = ((cs.take i).map n).sum + n c := by
    rw [List.take_add_one, hi, List.map_append, List.sum_append]
    simp
  have s := sum_sub ((List.take_sublist (i + 1) cs).map n)
  omega
theorem val_below (hc : c ∈ clsM M w) {x : Nat} (hx : x ∈ valM M w n c) : x < ((clsM M w).map n).sum := by
  have hx := valM_perm.mem_iff.mp hx
  obtain ⟨d, hd, hx⟩ := List.mem_flatMap.mp hx
  refine nms_below cls_nodupB ?_ hx
  rcases List.mem_cons.mp hd with rfl | hd
  · exact hc
  · exact bel_mem hd
end
end CC
namespace CC
open PySem L2
/-- a walk, whatever is done at each turn -/
theorem any_it {J : It} {n : Nat} {Gd : Hp → Prop} {Y : Nat → Hp → V → Hp → Prop} {B : (Hp → Prop) → V → Hp → Prop} {H0 : Hp} {Qd : Hp → Prop} (w : Walk J n Gd Y) (Pv : Nat → Hp → Prop) (first : Pv 0 H0) (stays : ∀ i G, i ≤ n → Pv i G → Gd G)
    (turn : ∀ i x G G', i < n → Pv i G → Y i G x G' → B (Pv (i + 1)) x G') (last : ∀ G, Pv n G → Qd G) :
    ∃ W : Nat → Nat → Hp → Prop, (∃ m, W 0 m H0) ∧ ∀ i m H, W i m H → (J.stop i H ∧ Qd H) ∨ (J.go i H ∧ ∃ Nx : Hp → Prop, (∀ H', Nx H' → ∃ m', m' < m ∧ W (i + 1) m' H') ∧ ∀ x H', J.yld i H x H' → B Nx x H') := by
  refine ⟨fun i top G => top + i = n ∧ Pv i G, ⟨n, rfl, first⟩, fun i top G2 ⟨e, p⟩ => ?_⟩
  have q := stays i G2 (by omega) p
  rcases Nat.eq_zero_or_pos top with z | z
  · obtain rfl : i = n := by omega
    exact .inl ⟨w.stops G2 q, last G2 p⟩
  · have lt : i < n := by omega
    exact .inr ⟨w.goes i G2 lt q, Pv (i + 1), fun G3 p3 => ⟨top - 1, by omega, by omega, p3⟩, fun x G3 y => turn i x G2 G3 lt p (w.yields i G2 x G3 lt q y)⟩
/-! ### column_values -/
abbrev sCv : Stmt := tp 35
abbrev nCv : List Str := ["naming", "named", "names", "start", "one", "values", "column", "other", "name"]
def NamP (n : List Nat → Nat) (cs : List (List Nat)) (H : Hp) (c : List Nat) (v : V) : Prop := ∃ l, v = .ref l ∧ H l = some (.lst (nms (nmsM n cs c)))
theorem NamP.same {n : List Nat → Nat} {cs : List (List Nat)} {H H' : Hp} {c : List Nat} {v : V} (h : NamP n cs H c v) (e : Same H H') : NamP n cs H' c v := by
  obtain ⟨l, h1, h2⟩ := h
  exact ⟨l, h1, e _ _ h2⟩
/-- the values of column x, in the dict of all -/
def ValAt (M : Nat → Nat → Bool) (w : Nat) (n : List Nat → Nat) (H : Hp) (kvs : List (Key × V)) (x : Nat) : Prop := ∃ l, valV kvs (Sum.inl (x : Int)) = some (.ref l) ∧ H l = some (.lst (nms (valM M w n (grpM M w x))))
theorem ValAt.same {M : Nat → Nat → Bool} {w : Nat} {n : List Nat → Nat} {H H' : Hp} {kvs : List (Key × V)} {x : Nat} (h : ValAt M w n H kvs x) (e : Same H H') : ValAt M w n H' kvs x := by
  obtain ⟨l, h1, h2⟩ := h
  exact ⟨l, h1, e _ _ h2⟩
def spCv (K : PySem.W.Frag) : Sp := fun vs H Q _ => ∃ (d N : Addr) (kv : List (List Key × V)) (ds : List (List Nat)) (n : List Nat → Nat) (M : Nat → Nat → Bool) (w : Nat), vs = [.ref d, .ref N] ∧ N ≠ d ∧ H d = some (.dT kv) ∧ EntA (BelP (belM M (clsM M w))) H kv (clsM M w) ∧ H N = some (.dT (mapK n ds)) ∧ (∀ c ∈ clsM M w, c ∈ ds) ∧
  ((clsM M w).map n).sum ≤ 400 ∧ w ≤ 6 ∧ Eqr M w ∧ ∀ (D : Addr) (kvs : List (Key × V)) (H' : Hp), Same H H' → H D = none → H' D = some (.dK kvs) → (∀ x, x < w → ValAt M w n H' kvs x) → Q (.ref D) H'
theorem nm_at2 {l : List Nat} {i : Nat} {v : V} (h : (nms l)[i]? = some v) : ∃ b, l[i]? = some b ∧ v = .int (b : Int) := by
  rw [nms, List.getElem?_map] at h
  cases z : l[i]? with
  | none => rw [z] at h; cases h
  | some m => rw [z] at h; exact ⟨m, rfl, (Option.some.inj h).symm⟩
theorem wo_mono {H H' : Hp} {d : Addr} (e : Same (wo H d) (wo H' d)) : Same (wo H d) H' := e.trans (wo_le d)
section
variable {P : Program} {w : World} {K : PySem.W.Frag} {mg : Str → Option Value} {base : Heap} {kA : Addr}
theorem scCv : FnScope nCv ["naming", "named"] (defScope sCv) := ⟨rfl, rfl, rfl, by decide +kernel, rfl, by decide +kernel, by decide +kernel⟩
theorem ok_cv {f : Addr} {fd : FuncData} {k : Nat} (F : Fun K "column_values" "column_values" sCv f fd) (T : Glb K mg kA) : FnOk P w K mg base CX0 (k + 1) f fd ["naming", "named"] (spCv K) := by
  refine F.ok scCv (fun vs H Q E h => ?_) (fun cdv A outer s H vs Q E hr h => ?_)
  · obtain ⟨d, N, kv, ds, nn, M, w, rfl, _⟩ := h
    rfl
  · obtain ⟨d, N, kv, ds, nn, M, w, rfl, Nd, hd, en, hN, sub, tot, hw, eqr, q⟩ := h
    have n := scCv.nd
    have hu1 : (A.deeper (PyProof.Rows.envOfC (Str.ofString "column_values") (defScope sCv) s.heap.objs.size f cdv)).units + 1 < cLine := by
      have := hr.un
      omega
    refine ⟨_, (pss_cons (ps_set (i := 2) n rfl (.inr rfl) pe_dnewT)
      (pss_cons (ps_set (i := 3) n rfl (.inl rfl) pe_int)
      (pss_cons (ps_lock (ps_for PassesOwn.never rfl (pi_keys (pv 0)) (pg_name (i := 4) n rfl (.inl rfl))
        (pss_cons (ps_dput hu1 (pv 2) (pv 4) (pe_listRg rfl (by rfl) T.lst (prg_2 (by rfl) T.rng (pv 3) (pe_op op_add (pv 3) (pe_dget hu1 (pv 1) (pv 4) (fun _ _ => rfl))))) rfl)
        (pss_one (ps_aug (i := 3) n rfl (.inl rfl) (pe_dget hu1 (pv 1) (pv 4) (fun _ _ => rfl)) ip_add)))))
      (pss_cons (ps_set (i := 5) n rfl (.inl rfl) pe_dnewK)
      (pss_cons (ps_lock (ps_for PassesOwn.never rfl (pi_keys (pv 0)) (pg_name (i := 4) n rfl (.inl rfl))
        (pss_one (ps_for PassesOwn.never rfl (pi_tup (pv 4)) (pg_name (i := 6) n rfl (.inl rfl))
        (pss_one (ps_dput hu1 (pv 5) (pv 6) (pe_callB cr_sortedI (by rfl) T.srt (by decide +kernel) (pa_cons (pe_lc2 (own := [("other", 7), ("name", 8)]) (vs1 := [8]) (g := gName 7) (g1 := gName 8) (tt := tYes) (tt1 := tYes) (wi1 := iList K (tDGet (tVar 2) (tVar 7))) (te := tVar 8) rfl n (pi_list (pe_lst (pa_cons (pv 4) (StX.pa_star (pe_dget hu1 (pv 0) (pv 4) (fun _ _ => rfl)) pa_nil)))) (blkOk_by (N := nCv) (sc := defScope sCv) (by decide +kernel)) (by decide) (fun _ _ _ _ _ => (pg_name (i := 7) n rfl (.inl rfl))) (fun _ _ _ _ _ => pts_nil) (fun _ _ _ _ _ => (pi_list (pe_dget hu1 (pv 2) (pv 7) (fun _ _ => rfl)))) (fun _ _ _ _ _ => (pg_name (i := 8) n rfl (.inl rfl))) (fun _ _ _ _ _ => pts_nil) (fun _ _ _ _ _ => (pv 8))) pa_nil)) rfl))))))
      (pss_one (ps_ret (pv 5)))))))), ?_⟩
    have few6 := cls_len (M := M) (w := w)
    have nle : ∀ c ∈ clsM M w, nn c ≤ 400 := fun c hc => by
      have := sum_sub (List.Sublist.map nn (List.singleton_sublist.mpr hc))
      simp only [List.map_cons, List.map_nil, List.sum_cons, List.sum_nil] at this
      omega
    refine fun F nF => ?_
    have sF : Same H (upd H F (.dT [])) := same_new nF
    have hF0 : (upd H F (.dT [])) F = some (.dT []) := upd_same
    have dF : d ≠ F := ne_of_none hd nF
    generalize upd H F (.dT []) = H1 at sF hF0 ⊢
    -- the names
    refine ⟨d, .dT kv, sF _ _ hd, trivial, fun od => ?_⟩
    have lD : (upd H1 d (.frz od (.dT kv))) d = some (.frz od (.dT kv)) := upd_same
    have oL : Same (wo H1 d) (upd H1 d (.frz od (.dT kv))) := wo_lock
    have eE : EntA (BelP (belM M (clsM M w))) (upd H1 d (.frz od (.dT kv))) kv (clsM M w) := ((EntA.same en sF).wo_ (sF _ _ hd)).same oL
    have lN : (upd H1 d (.frz od (.dT kv))) N = some (.dT (mapK nn ds)) := (upd_ne Nd).trans (sF _ _ hN)
    have lF : (upd H1 d (.frz od (.dT kv))) F = some (.dT []) := (upd_ne (Ne.symm dF)).trans hF0
    have NF : N ≠ F := ne_of_none hN nF
    refine ⟨_, rfl, d, od, rfl, .inr ⟨kv, lD, ?_⟩⟩
    refine for_it walk_keysT (fun i σ' G => ∃ v4 kvs, σ' = [some (.ref d), some (.ref N), some (.ref F), some (.int ((((clsM M w).take i).map nn).sum : Int)), v4, none, none, none, none] ∧ Same (wo (upd H1 d (.frz od (.dT kv))) F) (wo G F) ∧ G F = some (.dT kvs) ∧ EntA (NamP nn (clsM M w)) (wo G F) kvs ((clsM M w).take i)) ⟨_, [], rfl, Same.refl _, lF, .nil⟩ (fun i σ' G _ z => by
      obtain ⟨_, _, _, z2, _⟩ := z
      exact wo_le F _ _ (z2 _ _ ((wo_ne dF).trans lD))) ?_ ?_
    · rintro i x σ' G0 G hi ⟨v4, kvs, rfl, sG, hG, eG⟩ ⟨rfl, ky, v, qa, hkv, rfl, hqa⟩
      obtain ⟨c, hc, rfl, _⟩ := eE.at_ hkv
      rw [kyN_kV] at hqa
      have cm := List.mem_of_getElem? hc
      have gN := wo_le F _ _ (sG _ _ ((wo_ne NF).trans lN))
      have nget : ∀ {G' : Hp}, G' N = some (.dT (mapK nn ds)) → G' qa = some (.tup (nms c)) → DGet G' N (.ref qa) (some (.int (nn c : Int))) := fun h1 h2 => by
        rw [← mapK_val (f := nn) (sub c cm)]
        exact DGet.t h1 (by rw [kyN_kV]; exact h2)
      have e0 : (((clsM M w).take (i + 1)).map nn).sum = (((clsM M w).take i).map nn).sum + nn c := by
        rw [SG.take_one hc, List.map_append, List.sum_append]
        simp
      have le0 : (((clsM M w).take (i + 1)).map nn).sum ≤ 400 := Nat.le_trans (sum_sub ((List.take_sublist _ _).map nn)) tot
      refine ⟨_, rfl, _, rfl, _, rfl, _, rfl, N, _, rfl, nget gN hqa, _, _, rfl, rfl, _, _, rfl, rfl, RgOk.of_le (by omega) (by omega) (by omega) (by omega), fun l nl => ?_⟩
      rw [rgV_nms]
      have s2 : Same G (upd G l (.lst (nms (List.range' (((clsM M w).take i).map nn).sum (nn c))))) := same_new nl
      have hl : (upd G l (.lst (nms (List.range' (((clsM M w).take i).map nn).sum (nn c))))) l = some (.lst (nms (nmsM nn (clsM M w) c))) := by
        unfold nmsM
        rw [stM_at cls_nodupB hc]
        exact upd_same
      generalize upd G l (.lst (nms (List.range' (((clsM M w).take i).map nn).sum (nn c)))) = G2 at s2 hl ⊢
      have lF2 : l ≠ F := fun z => by
        rw [z, hG] at nl
        cases nl
      have G2F := s2 _ _ hG
      obtain ⟨G6, ent, eG6, en6⟩ := (eG.map fun c v h => h.same (wo_same s2)).put (v := .ref l) G2F (s2 _ _ hqa) (by rw [List.length_take]; omega) (take_new cls_nodupB hc) ⟨l, rfl, (wo_ne lF2).trans hl⟩
      refine ⟨_, rfl, _, rfl, F, _, rfl, DPut.t G2F (by rw [kyN_kV]; exact s2 _ _ hqa) (by rw [eG.len, List.length_take]; exact small1000 (by omega)), ?_⟩
      rw [DCT.put_new (DCT.val_none (eG.new (take_new cls_nodupB hc))), ← eG6]
      have s6 : Same (wo G2 F) G6 := by
        rw [eG6]
        exact wo_lock
      refine ⟨_, rfl, _, rfl, _, rfl, N, _, rfl, nget (s6 _ _ ((wo_ne NF).trans (s2 _ _ gN))) (s6 _ _ ((wo_ne (fun z => by rw [z, hG] at hqa; cases hqa)).trans (s2 _ _ hqa))), _, _, rfl, rfl, some (.ref qa), _, ?_, ?_, by rw [eG6]; exact upd_same, ?_⟩
      · have e9 : ((((clsM M w).take (i + 1)).map nn).sum : Int) = (((clsM M w).take i).map nn).sum + (nn c : Int) := by omega
        rw [e9]
        rfl
      · rw [eG6, wo_upd]
        exact sG.trans (wo_same s2)
      · rw [SG.take_one hc]
        exact en6
    rintro σ' G ⟨v4, kvsF, rfl, sG, hG, eG⟩
    rw [eE.len, List.take_length] at eG
    rw [eE.len, List.take_length]
    have gD := wo_le F _ _ (sG _ _ ((wo_ne dF).trans lD))
    refine ⟨gD, ?_⟩
    have o2 : Same H (upd G d (.dT kv)) := fun b o e => by
      by_cases z : b = d
      · subst z
        rw [upd_same]
        exact (hd.symm.trans e)
      · rw [upd_ne z]
        exact wo_le F _ _ (sG _ _ ((wo_ne (ne_of_none e nF)).trans ((upd_ne z).trans (sF _ _ e))))
    have hF2 : (upd G d (.dT kv)) F = some (.dT kvsF) := (upd_ne (Ne.symm dF)).trans hG
    have en2 : EntA (NamP nn (clsM M w)) (upd G d (.dT kv)) kvsF (clsM M w) := eG.map fun c v ⟨l, h1, h2⟩ => ⟨l, h1, by
      have h3 := wo_le F _ _ h2
      rw [upd_ne fun z => by rw [z, gD] at h3; cases h3]
      exact h3⟩
    clear sG hG eG gD lD oL eE lN lF
    generalize upd G d (.dT kv) = H2 at o2 hF2 en2 ⊢
    -- the values
    refine fun D5 n5 => ?_
    have s5 : Same H2 (upd H2 D5 (.dK [])) := same_new n5
    have h5 : (upd H2 D5 (.dK [])) D5 = some (.dK []) := upd_same
    have F5 : F ≠ D5 := ne_of_none hF2 n5
    have d5 : d ≠ D5 := ne_of_none (o2 _ _ hd) n5
    generalize upd H2 D5 (.dK []) = H3 at s5 h5 ⊢
    have o3 := o2.trans s5
    refine ⟨d, .dT kv, o3 _ _ hd, trivial, fun od => ?_⟩
    have lD : (upd H3 d (.frz od (.dT kv))) d = some (.frz od (.dT kv)) := upd_same
    have oL : Same (wo H3 d) (upd H3 d (.frz od (.dT kv))) := wo_lock
    have eE : EntA (BelP (belM M (clsM M w))) (upd H3 d (.frz od (.dT kv))) kv (clsM M w) := ((EntA.same en o3).wo_ (o3 _ _ hd)).same oL
    have lF : (upd H3 d (.frz od (.dT kv))) F = some (.dT kvsF) := (upd_ne (Ne.symm dF)).trans (s5 _ _ hF2)
    have l5 : (upd H3 d (.frz od (.dT kv))) D5 = some (.dK []) := (upd_ne (Ne.symm d5)).trans h5
    have eN : EntA (NamP nn (clsM M w)) (upd H3 d (.frz od (.dT kv))) kvsF (clsM M w) := en2.map fun c v ⟨l, h1, h2⟩ => ⟨l, h1, by
      have h3 := s5 _ _ h2
      rw [upd_ne fun z => by rw [z, o3 _ _ hd] at h3; cases h3]
      exact h3⟩
    refine ⟨_, rfl, d, od, rfl, .inr ⟨kv, lD, ?_⟩⟩
    refine for_it walk_keysT (fun i σ' G => ∃ v4 v6 kvs, σ' = [some (.ref d), some (.ref N), some (.ref F), some (.int ((((clsM M w)).map nn).sum : Int)), v4, some (.ref D5), v6, none, none] ∧ Same (wo (upd H3 d (.frz od (.dT kv))) D5) (wo G D5) ∧ G D5 = some (.dK kvs) ∧ kvs.length ≤ 6 * i ∧ ∀ x, x < w → grpM M w x ∈ (clsM M w).take i → ValAt M w nn (wo G D5) kvs x) ⟨_, _, [], rfl, Same.refl _, l5, Nat.zero_le _, fun x _ z => by simp at z⟩ (fun i σ' G _ z => by
      obtain ⟨_, _, _, _, z2, _⟩ := z
      exact wo_le D5 _ _ (z2 _ _ ((wo_ne d5).trans lD))) ?_ ?_
    · rintro i x σ' G0 G hi ⟨v4, v6, kvs, rfl, sG, hG, len, va⟩ ⟨rfl, ky, v, qa, hkv, rfl, hqa⟩
      obtain ⟨c, hc, rfl, _⟩ := eE.at_ hkv
      rw [kyN_kV] at hqa
      have cm := List.mem_of_getElem? hc
      have ci : i < (clsM M w).length := (List.getElem?_eq_some_iff.mp hc).1
      have c6 : c.length ≤ 6 := by
        rw [(cls_grp cm).2]
        exact Nat.le_trans grp_len hw
      have q5 : qa ≠ D5 := fun z => by
        rw [z, hG] at hqa
        cases hqa
      refine ⟨_, rfl, qa, rfl, ⟨_, .inl (.inl hqa)⟩, ?_⟩
      refine for_tup (xs := nms c) (fun j σ2 G2 => ∃ v6 kvs, σ2 = [some (.ref d), some (.ref N), some (.ref F), some (.int ((((clsM M w)).map nn).sum : Int)), some (.ref qa), some (.ref D5), v6, none, none] ∧ Same (wo G D5) (wo G2 D5) ∧ G2 D5 = some (.dK kvs) ∧ kvs.length ≤ 6 * i + j ∧ ∀ x, x < w → (grpM M w x ∈ (clsM M w).take i ∨ x ∈ c.take j) → ValAt M w nn (wo G2 D5) kvs x)
        ⟨_, kvs, rfl, Same.refl _, hG, len, fun x hx z => va x hx (z.resolve_right fun q => by simp at q)⟩ (fun j σ2 G2 _ z => by
        obtain ⟨_, _, _, z2, _⟩ := z
        exact .inl (.inl (wo_le D5 _ _ (z2 _ _ ((wo_ne q5).trans hqa))))) ?_ ?_
      · rintro j x σ2 G2 hx ⟨v6, kvs2, rfl, s2, h2, len2, va2⟩
        obtain ⟨y, hy, rfl⟩ := nm_at2 hx
        have ym := List.mem_of_getElem? hy
        have yj : j < c.length := (List.getElem?_eq_some_iff.mp hy).1
        have yw := cls_lt cm ym
        have cy : c = grpM M w y := cls_eq eqr cm ym
        have o22 : Same (wo (upd H3 d (.frz od (.dT kv))) D5) (wo G2 D5) := sG.trans s2
        have g2d := wo_le D5 _ _ (o22 _ _ ((wo_ne d5).trans lD))
        have g2F := wo_le D5 _ _ (o22 _ _ ((wo_ne F5).trans lF))
        have g2q := wo_le D5 _ _ (s2 _ _ ((wo_ne q5).trans hqa))
        obtain ⟨v', gv, bl, bu, rfl, hbl, tb⟩ := eE.get cm
        have bl5 : bl ≠ D5 := fun z => by
          rw [z, l5] at hbl
          cases hbl
        have keepT : ∀ {b : Addr} {xs : List V}, (upd H3 d (.frz od (.dT kv))) b = some (.tup xs) → G2 b = some (.tup xs) := fun {b xs} e => wo_le D5 _ _ (o22 _ _ ((wo_ne fun z => by rw [z, l5] at e; cases e).trans e))
        have g2b := wo_le D5 _ _ (o22 _ _ ((wo_ne bl5).trans hbl))
        refine ⟨_, rfl, _, rfl, _, rfl, d, _, rfl, (by rw [← gv]; exact DGet.lk g2d (by rw [kyN_kV]; exact g2q)), bl, bu, rfl, .inr (SqL.of g2b), ?_⟩
        have tb2 : TupA G2 bu (belM M (clsM M w) c) := by
          have go : ∀ {us : List V} {rs : List (List Nat)}, TupA (upd H3 d (.frz od (.dT kv))) us rs → TupA G2 us rs := fun t => by
            induction t with
            | nil => exact .nil
            | cons h _ ih => exact .cons (keepT h) ih
          exact go tb
        have bl6 : bu.length ≤ 6 := by
          rw [tb2.len]
          have l1 : (belM M (clsM M w) c).length ≤ (clsM M w).length := List.length_filter_le _ _
          omega
        refine ⟨Nat.le_of_lt (small1000 (by simp; omega)), fun a0 na0 => ?_⟩
        have s3 : Same G2 (upd G2 a0 (.lst (.ref qa :: (bu ++ [])))) := same_new na0
        have h3 : (upd G2 a0 (.lst (.ref qa :: (bu ++ [])))) a0 = some (.lst (.ref qa :: bu)) := by
          rw [upd_same, List.append_nil]
        have tb3 : TupA G2 (.ref qa :: bu) (c :: belM M (clsM M w) c) := .cons g2q tb2
        generalize upd G2 a0 (.lst (.ref qa :: (bu ++ []))) = G3 at s3 h3 ⊢
        refine ⟨a0, rfl, ⟨_, SqL.of h3⟩, fun D6 n6 => ?_⟩
        have mems : ∀ o ∈ c :: belM M (clsM M w) c, o ∈ clsM M w := fun o ho => by
          rcases List.mem_cons.mp ho with rfl | ho
          · exact cm
          · exact bel_mem ho
        have flen : ∀ (l : List (List Nat)), (l.flatMap (nmsM nn (clsM M w))).length = (l.map nn).sum := fun l => by
          rw [List.length_flatMap]
          exact congrArg List.sum (List.map_congr_left fun d _ => List.length_range' ..)
        have tot7 : ((c :: belM M (clsM M w) c).map nn).sum ≤ 800 := by
          rw [List.map_cons, List.sum_cons]
          have s1 := sum_sub (((List.filter_sublist (p := fun o => decide (o ≠ c) && M (c.headD 0) (o.headD 0)) (l := clsM M w))).map nn)
          have s2 : ((belM M (clsM M w) c).map nn).sum ≤ ((clsM M w).map nn).sum := s1
          have := nle c cm
          omega
        refine any_it (walk_list (K := K) (xs := .ref qa :: bu)) (fun i6 G6 => Same G3 (wo G6 D6) ∧ G6 D6 = some (.lst (nms (((c :: belM M (clsM M w) c).take i6).flatMap (nmsM nn (clsM M w)))))) ⟨?_, upd_same⟩ (fun i6 G6 _ z => SqL.of (wo_le D6 _ _ (z.1 _ _ h3))) ?_ ?_
        · rw [wo_upd]
          exact fun b o e => by
            rw [wo_ne (ne_of_none e n6)]
            exact e
        · rintro i6 x6 G60 G6 hi6 ⟨s6, h6⟩ ⟨rfl, hx6⟩
          obtain ⟨t', o, rfl, ho, ht'⟩ := tb3.at_ hx6
          have om := mems o (List.mem_of_getElem? ho)
          have o6 := s3.trans (s6.trans (wo_le D6))
          obtain ⟨v8, gv8, ln, rfl, hln⟩ := eN.get om
          have ln5 : ln ≠ D5 := fun z => by
            rw [z, l5] at hln
            cases hln
          have g6ln := o6 _ _ (wo_le D5 _ _ (o22 _ _ ((wo_ne ln5).trans hln)))
          refine ⟨rfl, yes_if ⟨_, rfl, _, rfl, F, _, rfl, (by rw [← gv8]; exact DGet.t (o6 _ _ g2F) (by rw [kyN_kV]; exact o6 _ _ ht')), ln, rfl, ⟨_, SqL.of g6ln⟩, ?_⟩⟩
          refine any_it (walk_list (K := K) (xs := nms (nmsM nn (clsM M w) o))) (fun j7 G7 => Same G3 (wo G7 D6) ∧ G7 D6 = some (.lst (nms (((c :: belM M (clsM M w) c).take i6).flatMap (nmsM nn (clsM M w)) ++ (nmsM nn (clsM M w) o).take j7)))) ⟨s6, by rw [List.take_zero, List.append_nil]; exact h6⟩ (fun j7 G7 _ z => SqL.of (wo_le D6 _ _ (z.1 _ _ (s3 _ _ (wo_le D5 _ _ (o22 _ _ ((wo_ne ln5).trans hln))))))) ?_ ?_
          · rintro j7 x7 G70 G7 hj7 ⟨s7, h7⟩ ⟨rfl, hx7⟩
            obtain ⟨z, hz, rfl⟩ := nm_at2 hx7
            refine ⟨rfl, yes_if ⟨_, rfl, _, h7, ?_, ?_, ?_⟩⟩
            · rw [nms_len, List.length_append, List.length_take, flen]
              have s1 := sum_sub ((List.take_sublist i6 (c :: belM M (clsM M w) c)).map nn)
              have l1 : (nmsM nn (clsM M w) o).length = nn o := List.length_range' ..
              have := nle o om
              exact Nat.lt_of_lt_of_le (show _ < 10000 by omega) (by decide)
            · rw [wo_upd]
              exact s7
            · rw [upd_same, SG.take_one hz, ← List.append_assoc]
              simp only [nms_app]
              rfl
          rintro G7 ⟨s7, h7⟩
          rw [nms_len, List.take_length] at h7
          refine ⟨s7, ?_⟩
          rw [h7, SG.take_one ho, List.flatMap_append, List.flatMap_cons, List.flatMap_nil, List.append_nil]
        rintro G6 ⟨s6, h6⟩
        rw [tb3.len, List.take_length] at h6
        have h6 : G6 D6 = some (.lst (nms (flatM M w nn c))) := h6
        refine ⟨D6, _, rfl, SqL.of (h6.trans (by rw [nms_int2])), fun ns' p7 pm7 od7 n7 => ?_⟩
        rw [valM_is pm7 od7]
        have s7 : Same G6 (upd G6 p7 (.lst (nms (valM M w nn c)))) := same_new n7
        have h7 : (upd G6 p7 (.lst (nms (valM M w nn c)))) p7 = some (.lst (nms (valM M w nn c))) := upd_same
        generalize upd G6 p7 (.lst (nms (valM M w nn c))) = G8 at s7 h7 ⊢
        have o8 : Same G2 G8 := s3.trans ((s6.trans (wo_le D6)).trans s7)
        have p75 : p7 ≠ D5 := fun z => by
          have := (s3.trans (s6.trans (wo_le D6))) _ _ h2
          rw [← z, n7] at this
          cases this
        have h85 := o8 _ _ h2
        refine ⟨_, rfl, _, rfl, D5, _, rfl, DPut.k (k := Sum.inl (y : Int)) h85 (small1000 (by omega)), _, _, rfl, ?_, upd_same, ?_, fun x hxw hxm => ?_⟩
        · rw [wo_upd]
          exact s2.trans (wo_same o8)
        · have := length_putK kvs2 (Sum.inl (y : Int) : Key) (.ref p7)
          omega
        · rw [wo_upd]
          by_cases xy : x = y
          · subst xy
            refine ⟨p7, by rw [valV_put, if_pos rfl], ?_⟩
            rw [← cy]
            exact (wo_ne p75).trans h7
          · have old : grpM M w x ∈ (clsM M w).take i ∨ x ∈ c.take j := by
              rcases hxm with z | z
              · exact .inl z
              · rw [SG.take_one hy] at z
                rcases List.mem_append.mp z with z | z
                · exact .inr z
                · exact absurd (List.mem_singleton.mp z) xy
            obtain ⟨l, e1, e2⟩ := va2 x hxw old
            refine ⟨l, ?_, (wo_same o8) _ _ e2⟩
            rw [valV_put, if_neg fun z => xy (by injection z with z; omega)]
            exact e1
      · rintro σ2 G2 ⟨v6, kvs2, rfl, s2, h2, len2, va2⟩
        rw [nms_len] at len2 va2
        rw [List.take_length] at va2
        refine ⟨_, _, kvs2, rfl, sG.trans s2, h2, by omega, fun x hxw hxm => va2 x hxw ?_⟩
        rw [SG.take_one hc] at hxm
        rcases List.mem_append.mp hxm with z | z
        · exact .inl z
        · rw [← List.mem_singleton.mp z]
          exact .inr (eqr.self hxw)
    rintro σ' G ⟨v4, v6, kvs, rfl, sG, hG, len, va⟩
    rw [eE.len, List.take_length] at va
    have gD := wo_le D5 _ _ (sG _ _ ((wo_ne d5).trans lD))
    refine ⟨gD, ?_⟩
    refine ⟨_, rfl, q D5 kvs _ (fun b o e => ?_) (o2.free n5) ((upd_ne (Ne.symm d5)).trans hG) fun x hx => ?_⟩
    · by_cases z : b = d
      · subst z
        rw [upd_same]
        exact (hd.symm.trans e)
      · rw [upd_ne z]
        exact wo_le D5 _ _ (sG _ _ ((wo_ne (ne_of_none (o2 _ _ e) n5)).trans ((upd_ne z).trans (o3 _ _ e))))
    · obtain ⟨l, e1, e2⟩ := va x hx (cls_of eqr hx)
      have e3 := wo_le D5 _ _ e2
      refine ⟨l, e1, ?_⟩
      rw [upd_ne fun z => by rw [z, gD] at e3; cases e3]
      exact e3
end
end CC
namespace CC
open PySem L2
/-! ### the rows of a model -/
section
variable (MS MN MG : Nat → Nat → Bool) (w : Nat)
/-- a row for the settling class c gives column x its next value -/
def risB (c : List Nat) (x : Nat) : Bool := decide (grpM MS w x = c) || decide (c ∈ belM MS (clsM MS w) (grpM MS w x))
/-- how many such rows there are, for the classes cs -/
def useM (cs : List (List Nat)) (x : Nat) : Nat := ((cs.filter fun c => risB MS w c x).map (rM MS MN MG w)).sum
def colM (x : Nat) : List Nat := valM MN w (nM MS MN MG w) (grpM MN w x)
/-- the t-th row for c, behind those of cs -/
def rowM (cs : List (List Nat)) (c : List Nat) (t : Nat) : List Nat := (List.range w).map fun x => (colM MS MN MG w x).getD (if risB MS w c x then useM MS MN MG w cs x + t + 1 else 0) 0
def rowsOf (cs : List (List Nat)) (c : List Nat) (m : Nat) : List (List Nat) := (List.range m).map (rowM MS MN MG w cs c)
def row0 : List Nat := (List.range w).map fun x => (colM MS MN MG w x).getD 0 0
/-- the rows for the first i classes, behind the first row -/
def rowsTo (i : Nat) : List (List Nat) := row0 MS MN MG w :: (List.range i).flatMap fun j => rowsOf MS MN MG w ((clsM MS w).take j) ((clsM MS w).getD j []) (rM MS MN MG w ((clsM MS w).getD j []))
def rowsM : List (List Nat) := rowsTo MS MN MG w (clsM MS w).length
end
section
variable {MS MN MG M : Nat → Nat → Bool} {w x : Nat} {c d g h : List Nat} {cs : List (List Nat)}
theorem sum_split (r : List Nat → Nat) (q : List Nat → Bool) (S : List Nat) (hq : q S = false) : ∀ l : List (List Nat), l.Nodup → ((l.filter fun c => decide (S = c) || q c).map r).sum = (if S ∈ l then r S else 0) + ((l.filter q).map r).sum
  | [], _ => rfl
  | a :: l, nd => by
    rw [List.nodup_cons] at nd
    have ih := sum_split r q S hq l nd.2
    by_cases e : S = a
    · subst e
      rw [List.filter_cons_of_pos (by simp), List.filter_cons_of_neg (p := q) (by rw [hq]; decide), List.map_cons, List.sum_cons, ih, if_neg nd.1, if_pos List.mem_cons_self]
      omega
    · have m : (S ∈ a :: l) = (S ∈ l) := by
        rw [List.mem_cons]
        exact propext ⟨fun z => z.resolve_left e, .inr⟩
      cases z : q a with
      | true =>
        rw [List.filter_cons_of_pos (by rw [z]; simp), List.filter_cons_of_pos (p := q) z, List.map_cons, List.sum_cons, List.map_cons, List.sum_cons, ih]
        simp only [m]
        omega
      | false =>
        rw [List.filter_cons_of_neg (by rw [z]; simpa using e), List.filter_cons_of_neg (p := q) (by rw [z]; decide), ih]
        simp only [m]
/-- all in all each column has N less one rows in which it rises -/
theorem Lay.use_all (L : Lay MS MN MG w) (hx : x < w) : useM MS MN MG w (clsM MS w) x + 1 = fN MS MN MG w x := by
  have hS := cls_of L.s hx
  have e1 : ((clsM MS w).filter fun c => risB MS w c x) = (clsM MS w).filter fun c => decide (grpM MS w x = c) || (decide (c ≠ grpM MS w x) && MS ((grpM MS w x).headD 0) (c.headD 0)) := by
    refine List.filter_congr fun c hc => ?_
    unfold risB belM
    congr 1
    rw [Bool.eq_iff_iff, decide_eq_true_iff, List.mem_filter]
    exact ⟨fun z => z.2, fun z => ⟨hc, z⟩⟩
  unfold useM
  rw [e1, sum_split (rM MS MN MG w) _ _ (by simp) _ cls_nodupB, if_pos hS]
  have s := L.r_sum hS
  have hh : (grpM MS w x).headD 0 ∈ grpM MG w x := by
    obtain ⟨h1, h2, h3⟩ := grp_mem.mp (cls_self L.s hS)
    exact grp_mem.mpr ⟨h1, L.sg _ _ hx h1 h2, L.sg _ _ h1 hx h3⟩
  rw [L.g.same hx hh] at s
  unfold sumB belM at s
  unfold fN
  omega
theorem Lay.col_len (L : Lay MS MN MG w) (hx : x < w) : (colM MS MN MG w x).length = fN MS MN MG w x := by
  have hN := cls_of L.n hx
  unfold colM
  rw [valM_len]
  have s := L.n_sum hN
  have hh : (grpM MN w x).headD 0 ∈ grpM MG w x := by
    obtain ⟨h1, h2, h3⟩ := grp_mem.mp (cls_self L.n hN)
    exact grp_mem.mpr ⟨h1, L.ng _ _ hx h1 h2, L.ng _ _ h1 hx h3⟩
  rw [L.g.same hx hh] at s
  exact s
theorem use_mono (h : cs.Sublist (clsM MS w)) : useM MS MN MG w cs x ≤ useM MS MN MG w (clsM MS w) x := sum_sub ((List.Sublist.filter _ h).map _)
theorem use_snoc : useM MS MN MG w (cs ++ [c]) x = useM MS MN MG w cs x + if risB MS w c x then rM MS MN MG w c else 0 := by
  unfold useM
  rw [List.filter_append, List.map_append, List.sum_append]
  by_cases z : risB MS w c x = true
  · rw [List.filter_cons_of_pos (p := fun c => risB MS w c x) z, if_pos z]
    simp
  · rw [List.filter_cons_of_neg (p := fun c => risB MS w c x) z, if_neg z]
    simp
/-- an index of a row is one of the column's values -/
theorem Lay.ix_lt (L : Lay MS MN MG w) {i t : Nat} (hx : x < w) (hc : (clsM MS w)[i]? = Option.some c) (ht : t < rM MS MN MG w c) : (if risB MS w c x then useM MS MN MG w ((clsM MS w).take i) x + t + 1 else 0) < (colM MS MN MG w x).length := by
  rw [L.col_len hx, ← L.use_all hx]
  split
  · rename_i z
    have s := use_mono (MN := MN) (MG := MG) (x := x) (List.take_sublist (i + 1) (clsM MS w))
    have e : (clsM MS w).take (i + 1) = (clsM MS w).take i ++ [c] := SG.take_one hc
    rw [e, use_snoc, if_pos z] at s
    omega
  · omega
theorem Lay.col_pos (L : Lay MS MN MG w) (hx : x < w) : 0 < (colM MS MN MG w x).length := by
  rw [L.col_len hx, ← L.use_all hx]
  omega
theorem Lay.col_small (L : Lay MS MN MG w) (hx : x < w) {v : Nat} (hv : v ∈ colM MS MN MG w x) : v < 95 := by
  have := val_below (cls_of L.n hx) hv
  have := L.n_all
  omega
/-- the columns that rise with c, in the program's order -/
def risL (MS : Nat → Nat → Bool) (w : Nat) (c : List Nat) : List Nat := ((clsM MS w).filter fun o => decide (o = c) || decide (c ∈ belM MS (clsM MS w) o)).flatten
theorem risL_mem (e : Eqr MS w) : x ∈ risL MS w c ↔ x < w ∧ risB MS w c x = true := by
  unfold risL risB
  rw [List.mem_flatten]
  constructor
  · rintro ⟨o, ho, hx⟩
    obtain ⟨om, q⟩ := List.mem_filter.mp ho
    rw [← cls_eq e om hx]
    exact ⟨cls_lt om hx, q⟩
  · rintro ⟨hx, q⟩
    exact ⟨grpM MS w x, List.mem_filter.mpr ⟨cls_of e hx, q⟩, e.self hx⟩
theorem flat_nodupM (e : Eqr MS w) : ∀ l : List (List Nat), l.Nodup → (∀ o ∈ l, o ∈ clsM MS w) → l.flatten.Nodup
  | [], _, _ => List.nodup_nil
  | o :: l, nd, h => by
    rw [List.nodup_cons] at nd
    have om := h o List.mem_cons_self
    rw [List.flatten_cons, List.nodup_append]
    refine ⟨?_, flat_nodupM e l nd.2 fun p hp => h p (List.mem_cons_of_mem _ hp), fun a ha b hb ab => ?_⟩
    · rw [(cls_grp om).2]
      exact grp_inc.imp fun h => Nat.ne_of_lt h
    · subst ab
      obtain ⟨p, hp, hap⟩ := List.mem_flatten.mp hb
      have : o = p := (cls_eq e om ha).trans (cls_eq e (h p (List.mem_cons_of_mem _ hp)) hap).symm
      subst this
      exact nd.1 hp
theorem risL_nodup (e : Eqr MS w) : (risL MS w c).Nodup := flat_nodupM e _ (cls_nodupB.filter _) fun o ho => (List.mem_filter.mp ho).1
theorem nodup_le : ∀ (l D : List Nat), l.Nodup → (∀ x ∈ l, x ∈ D) → l.length ≤ D.length
  | [], _, _, _ => Nat.zero_le _
  | x :: l, D, nd, h => by
    rw [List.nodup_cons] at nd
    have xd := h x List.mem_cons_self
    have ih := nodup_le l (D.erase x) nd.2 fun y hy => (List.mem_erase_of_ne fun e => nd.1 (by rw [← e]; exact hy)).mpr (h y (List.mem_cons_of_mem _ hy))
    rw [List.length_erase_of_mem xd] at ih
    have := List.length_pos_of_mem xd
    rw [List.length_cons]
    omega
theorem risL_len (e : Eqr MS w) (w6 : w ≤ 6) : (risL MS w c).length ≤ 6 := by
  have h := nodup_le (risL MS w c) (List.range w) (risL_nodup e) fun x hx => List.mem_range.mpr ((risL_mem e).mp hx).1
  rw [List.length_range] at h
  omega
theorem rowsTo_succ {i : Nat} (hc : (clsM MS w)[i]? = some c) : rowsTo MS MN MG w (i + 1) = rowsTo MS MN MG w i ++ rowsOf MS MN MG w ((clsM MS w).take i) c (rM MS MN MG w c) := by
  unfold rowsTo
  rw [List.range_succ, List.flatMap_append, List.cons_append, List.flatMap_cons, List.flatMap_nil, List.append_nil]
  have e : (clsM MS w).getD i [] = c := by
    rw [List.getD_eq_getElem?_getD, hc]
    rfl
  rw [e]
theorem rowsOf_succ {m : Nat} : rowsOf MS MN MG w cs c (m + 1) = rowsOf MS MN MG w cs c m ++ [rowM MS MN MG w cs c m] := by
  unfold rowsOf
  rw [List.range_succ, List.map_append]
  rfl
theorem rowsTo_len : ∀ i, i ≤ (clsM MS w).length → (rowsTo MS MN MG w i).length = 1 + (((clsM MS w).take i).map (rM MS MN MG w)).sum
  | 0, _ => rfl
  | i + 1, h => by
    have hc : (clsM MS w)[i]? = some (clsM MS w)[i] := List.getElem?_eq_getElem h
    rw [rowsTo_succ hc, List.length_append, rowsTo_len i (by omega), SG.take_one hc, List.map_append, List.sum_append]
    have : (rowsOf MS MN MG w ((clsM MS w).take i) (clsM MS w)[i] (rM MS MN MG w (clsM MS w)[i])).length = rM MS MN MG w (clsM MS w)[i] := by
      unfold rowsOf
      rw [List.length_map, List.length_range]
    rw [this]
    simp
    omega
theorem Lay.rows_len (L : Lay MS MN MG w) {i : Nat} (h : i ≤ (clsM MS w).length) : (rowsTo MS MN MG w i).length ≤ 96 := by
  rw [rowsTo_len i h]
  have s := sum_sub ((List.take_sublist i (clsM MS w)).map (rM MS MN MG w))
  have := L.r_all
  omega
theorem getD_lt {l : List Nat} {k : Nat} (h : k < l.length) : l.getD k 0 ∈ l := by
  rw [List.getD_eq_getElem?_getD, List.getElem?_eq_getElem h]
  exact List.getElem_mem h
end
end CC
namespace CC
open PySem L2 LamX PyProof.Rows
/-! ### model_rows -/
abbrev sMr : Stmt := tp 36
abbrev nMr : List Str := ["width", "rules", "settling", "naming", "fresh", "named", "values", "rows", "used", "one", "rising", "turn", "column", "places", "a", "b", "other", "place"]
def rGetN (K : PySem.W.Frag) : V → V → Hp → VK → Prop := fun x y H Q => ∃ p xs j v, x = .ref p ∧ y = .int ((j : Nat) : Int) ∧ SqL K H p xs ∧ xs[j]? = some v ∧ Q v H
theorem get_listN {X : Cx} : PGet X (rGetN X.K) := by
  intro pins s σ H o i ov iv Q I ro ri h
  obtain ⟨p, xs, j, v, rfl, rfl, hs, hv, q⟩ := h
  cases ro
  obtain ⟨t, rfl⟩ := ri
  obtain ⟨its, r, pl, hz⟩ := I.list hs
  obtain ⟨u, hu, ru⟩ := r.get hv
  have hj := (List.getElem?_eq_some_iff.mp hv).1
  have hz : xs.length ≤ 16777216 := by rw [sizeLine_eq] at hz; exact hz
  exact wpAny_getItem_list pl.isList (by omega) (by omega) (by simpa using hu) ⟨v, H, I, ru, q⟩
/-- what the tables of reached columns say of the rules -/
structure ModM (rs : List R) (MS MN MG : Nat → Nat → Bool) (w : Nat) : Prop where
  s : ∀ x y, x < w → y < w → (MS x y = true ↔ RT (Sdn rs true) x y)
  n : ∀ x y, x < w → y < w → (MN x y = true ↔ RT (Sdn rs false) x y)
  g : ∀ x y, x < w → y < w → (MG x y = true ↔ Rch (rs.map down) x y)
theorem ModM.lay {rs : List R} {MS MN MG : Nat → Nat → Bool} {w : Nat} (h : ModM rs MS MN MG w) (w6 : w ≤ 6) : Lay MS MN MG w where
  g := ⟨fun x hx => (h.g x x hx hx).mpr .refl, fun x y z hx hy hz a b => (h.g x z hx hz).mpr (((h.g x y hx hy).mp a).trans ((h.g y z hy hz).mp b))⟩
  s := ⟨fun x hx => (h.s x x hx hx).mpr .refl, fun x y z hx hy hz a b => (h.s x z hx hz).mpr (((h.s x y hx hy).mp a).trans ((h.s y z hy hz).mp b))⟩
  n := ⟨fun x hx => (h.n x x hx hx).mpr .refl, fun x y z hx hy hz a b => (h.n x z hx hz).mpr (((h.n x y hx hy).mp a).trans ((h.n y z hy hz).mp b))⟩
  w6 := w6
  sg := fun x y hx hy a => (h.g x y hx hy).mpr (rt_rch ((h.s x y hx hy).mp a))
  ng := fun x y hx hy a => (h.g x y hx hy).mpr (rt_rch ((h.n x y hx hy).mp a))
  st := fun x y hx hy a b => (h.s y x hy hx).mpr (rt_turnS ((h.s x y hx hy).mp a) ((h.g y x hy hx).mp b))
  nt := fun x y hx hy a b => (h.n y x hy hx).mpr (rt_turnS ((h.n x y hx hy).mp a) ((h.g y x hy hx).mp b))
theorem links_lt {rs : List R} {w : Nat} {k : Bool} {x y : Nat} (ok : ∀ r ∈ rs, r.ok w) (h : Lk rs k x y) : x < w ∧ y < w := by
  rcases h with h | ⟨h, _⟩
  · obtain ⟨a, b, _⟩ := ok _ h
    exact ⟨a, b⟩
  · obtain ⟨a, b, _⟩ := ok _ h
    exact ⟨b, a⟩
theorem set_rng (f : Nat → Nat) (w x v : Nat) : ((List.range w).map f).set x v = (List.range w).map fun y => if y = x then v else f y := by
  refine List.ext_getElem (by simp) fun i h1 h2 => ?_
  rw [List.getElem_set]
  simp only [List.getElem_map, List.getElem_range]
  by_cases e : x = i
  · rw [if_pos e, if_pos e.symm]
  · rw [if_neg e, if_neg fun z => e z.symm]
theorem nms_setM (l : List Nat) (x v : Nat) : (nms l).set x (.int (v : Int)) = nms (l.set x v) := by
  unfold nms
  rw [List.map_set]
theorem rng_at (f : Nat → Nat) {w x : Nat} (h : x < w) : ((List.range w).map f)[x]? = some (f x) := by
  rw [List.getElem?_map, List.getElem?_range h]
  rfl
theorem nms_rng (f : Nat → Nat) {w x : Nat} (h : x < w) : (nms ((List.range w).map f))[x]? = some (.int (f x : Int)) := by
  unfold nms
  rw [List.getElem?_map, rng_at f h]
  rfl
theorem rng_take (f : Nat → Nat) {w x : Nat} (h : x < w) : ((List.range w).map f).take (x + 1) = ((List.range w).map f).take x ++ [f x] := SG.take_one (rng_at f h)
theorem nms_getDM {l : List Nat} {k : Nat} (h : k < l.length) : (nms l)[k]? = some (.int ((l.getD k 0 : Nat) : Int)) := by
  unfold nms
  rw [List.getElem?_map, List.getElem?_eq_getElem h, List.getD_eq_getElem?_getD, List.getElem?_eq_getElem h]
  rfl
theorem flat6 : ∀ l : List (List Nat), (∀ o ∈ l, o.length ≤ 6) → l.flatten.length ≤ 6 * l.length
  | [], _ => Nat.zero_le _
  | o :: l, h => by
    have a := h o List.mem_cons_self
    have b := flat6 l fun p hp => h p (List.mem_cons_of_mem _ hp)
    rw [List.flatten_cons, List.length_append, List.length_cons]
    omega
theorem cls_six {M : Nat → Nat → Bool} {w : Nat} {c : List Nat} (hw : w ≤ 6) (hc : c ∈ clsM M w) : c.length ≤ 6 := by
  rw [(cls_grp hc).2]
  exact Nat.le_trans grp_len hw
theorem TupA.T {H H' : Hp} {us : List V} {rs : List (List Nat)} (e : SameT H H') (t : TupA H us rs) : TupA H' us rs := by
  induction t with
  | nil => exact .nil
  | cons h _ ih => exact .cons (e.tup _ _ h) ih
theorem upd_lstT {H : Hp} {U : Addr} {xs : List V} {o : HO} (h : H U = some (.lst xs)) : SameT H (upd H U o) := by
  constructor
  · intro b ys e
    rw [upd_ne (ne_of e h (by intro z; cases z))]
    exact e
  · intro b o ys e
    rw [upd_ne (ne_of e h (by intro z; cases z))]
    exact e
end CC
/-! ### set comprehensions, by a kind of sets -/
namespace SC
open PySem PySem.Spec PyProof.Rows L2
abbrev bareS (w : World) : Obj := { cls := .type "set", dict := none, data := .set #[] 0 (.fresh 0 0 (!w.params.followText "set-order")) }
/-- what stands at the place of a set while it is filled, and what one more member makes of it -/
structure Fam (α : Type) where
  ob : Program → World → Addr → α → HO
  ini : α
  new : ∀ (P : Program) (w : World) (H : Hp) (h : Heap), ObjOk P w H (h.push (bareS w)) h.objs.size (ob P w h.objs.size ini)
  put : PySem.W.Frag → Around → Hp → α → V → α → Prop
  add : ∀ {X : Cx} {pins : List (Addr × Obj)} {σ : L2.St} {H : Hp} {s : Shared} {E : Value → Shared → Prop} {D : Addr} {a b : α} {y : V} {v : Value} {Q : Value → Shared → Prop}, Inv X pins σ H s → H D = some (ob X.prog X.w D a) → put X.K X.A H a y b → RelV y v →
    (∀ s', Inv X pins σ (upd H D (ob X.prog X.w D b)) s' → Q .none s') → wpAny (model X.prog X.w) X.A (call (.builtin "set.add") [.ref D, v]) Q E s
section
variable {X : Cx} {α : Type}
def tSF (F : Fam α) (P : Program) (w : World) (K : PySem.W.Frag) (A : Around) (wi : TI) (g : TG) (tt : TT) (te : TE) (vs : List Nat) : TE := fun σ H Q => wi σ H fun J H1 => ∀ D, H1 D = none → ∃ W : Nat → Nat → Hp → Prop, (∃ m, W 0 m (upd H1 D (F.ob P w D F.ini))) ∧
  ∀ i m H, W i m H → (J.stop i H ∧ Q (.ref D) H) ∨ (J.go i H ∧ ∃ Nx : Hp → Prop, (∀ H', Nx H' → ∃ m', m' < m ∧ W (i + 1) m' H') ∧ ∀ x H', J.yld i H x H' → g x (wipe σ vs) H' fun σ2 H2 => wipe σ2 vs = wipe σ vs ∧ tt σ2 H2 fun b H3 =>
    if b = true then te σ2 H3 fun y H4 => ∃ c c' : α, H4 D = some (F.ob P w D c) ∧ F.put K A H4 c y c' ∧ Nx (upd H4 D (F.ob P w D c')) else Nx H3)
theorem core (F : Fam α) {pins : List (Addr × Obj)} {s : Shared} {σ : L2.St} {H : Hp} {Q : VK} {elt tg iter : Expr} {ifs : List Expr} {scope : Scope} {own : List (PySem.Str × Nat)} {pos pos' : Pos} {wi : TI} {g : TG} {tt : TT} {te : TE} {Qf : Value → Shared → Prop} {use : Option (Value → Sem Unit)}
    (calm : X.calm = true) (nd : X.N.Nodup) (I0 : Inv X pins σ H s) (walk : PI X tg iter wi) (bo : BlkOk X.N X.env.scope scope own)
    (aim : ∀ s H C cl fp, PG (X.blk s H scope (compEnvC scope cl C X.env) fp) tg g) (tst : ∀ s H C cl fp, PTs (X.blk s H scope (compEnvC scope cl C X.env) fp) ifs tt)
    (val : ∀ s H C cl fp, PE (X.blk s H scope (compEnvC scope cl C X.env) fp) elt te) (plain : ∀ x, foldedSetIterable iter X.env x = pure x)
    (ask : tSF F X.prog X.w X.K X.A wi g tt te (own.map (·.2)) σ H Q)
    (out : ∀ D C s' m H', Inv X pins σ H' s' → Q (.ref D) H' → s'.heap.Ns C m → FpOk X pins H' C → compPost (model X.prog X.w) X.A X.xe use Qf (.ref D) C (.ok .next) s') :
    wpAny (model X.prog X.w) X.A (comprehension (.SetComp elt [⟨tg, iter, ifs, 0⟩] scope pos) scope X.env pos' (newSet (.type "set")) false (eval iter X.env) use) Qf X.xe s := by
  have clo : ∀ y ∈ scope.names, y.2 = .free → ∃ c, X.env.cells.lookup y.1 = some c := fun y my ey => by
    rcases bo.free y my ey with z | z
    · exact I0.ok.has _ (.inl z)
    · exact I0.ok.has _ (.inr z)
  refine wpAny_comprehension_free (use := use) rfl plain (closure_ok clo) bo.kind (fun y my ey => by rw [bo.uniq y my, ey]) (thn (walk.run pins s σ H _ I0 ask) fun v0 sa ha => thn ha fun v1 sb hb => ?_)
  obtain ⟨itA, fp, tn, J, Hb, rfl, Ib, Tn, stb, fpb, qb⟩ := hb
  refine PpSet.newSet_ok (newEnv_comp ?_)
  obtain ⟨D, eD⟩ : ∃ D, D = sb.heap.objs.size := ⟨_, rfl⟩
  have freeD : Hb D = none := Ib.hok.fresh (Nat.le_of_eq eD.symm)
  obtain ⟨W, ⟨m0, w0⟩, turn⟩ := qb D freeD
  obtain ⟨sc, esc⟩ : ∃ sc : Shared, sc = { sb with heap := sb.heap.push (bareS X.w) } := ⟨_, rfl⟩
  have Ic : Inv X pins σ (upd Hb D (F.ob X.prog X.w D F.ini)) sc := by
    rw [esc]
    refine Ib.laid (t' := sb.toks) (fun b o e => Heap.get?_push_of_some _ e) (Nat.le_of_eq eD.symm) ?_
    rw [eD]
    exact F.new _ _ _ _
  have hc : sc.heap = sb.heap.push (bareS X.w) := by rw [esc]
  have below : ∀ b ∈ fp, b < sb.heap.objs.size := fun b mb => by
    obtain ⟨o, e, _⟩ := Tn.obj _ _ stb b mb
    exact Heap.lt_size e
  have fpc : ∀ b ∈ fp, FpOk X pins (upd Hb D (F.ob X.prog X.w D F.ini)) b ∧ b < sc.heap.objs.size := fun b mb => by
    have lt := below b mb
    refine ⟨⟨?_, (fpb b mb).2⟩, by rw [hc, Heap.size_push]; exact Nat.lt_succ_of_lt lt⟩
    rw [upd_ne (by rw [eD]; exact Nat.ne_of_lt lt)]
    exact (fpb b mb).1
  have stc : tn 0 sc.heap := Tn.keep _ _ _ stb fun b _ o e => by rw [hc]; exact Heap.get?_push_of_some _ e
  have Id := block_start Ic bo nd fpc
  have hereG := aim sc (upd Hb D (F.ob X.prog X.w D F.ini)) sc.heap.objs.size (cellsFrom (sc.heap.objs.size + 1) scope.names (cloFrom X.env.cells scope.names [])) fp
  have hereT := tst sc (upd Hb D (F.ob X.prog X.w D F.ini)) sc.heap.objs.size (cellsFrom (sc.heap.objs.size + 1) scope.names (cloFrom X.env.cells scope.names [])) fp
  have hereE := val sc (upd Hb D (F.ob X.prog X.w D F.ini)) sc.heap.objs.size (cellsFrom (sc.heap.objs.size + 1) scope.names (cloFrom X.env.cells scope.names [])) fp
  rw [← eD, ← esc]
  have offH : ∀ b ∈ fp, (upd Hb D (F.ob X.prog X.w D F.ini)) b = none := fun b mb => (fpc b mb).1.1
  show codeAny _ _ (.compStart (.SetComp elt [⟨tg, iter, ifs, 0⟩] scope pos) 0 (.ref itA) (.ref D) (compEnvC scope (cellsFrom (sc.heap.objs.size + 1) scope.names (cloFrom X.env.cells scope.names [])) sc.heap.objs.size X.env)) _ { sc with heap := pushCells (sc.heap.push { cls := .type "dict", data := .dict #[] }) scope.names }
  generalize hce : compEnvC scope (cellsFrom (sc.heap.objs.size + 1) scope.names (cloFrom X.env.cells scope.names [])) sc.heap.objs.size X.env = ce at Id hereG hereT hereE ⊢
  have locs : ce.locals = sc.heap.objs.size := by subst hce; rfl
  generalize upd Hb D (F.ob X.prog X.w D F.ini) = Hc at Ic Id hereG hereT hereE w0 offH fpc
  generalize hsd : ({ sc with heap := pushCells (sc.heap.push { cls := .type "dict", data := .dict #[] }) scope.names } : Shared) = sd at Id ⊢
  have std : tn 0 sd.heap := Tn.keep _ _ _ stc fun b _ o e => by rw [← hsd]; exact pushCells_keeps _ _ _ _ (Heap.get?_push_of_some _ e)
  have own1 : ∀ {σ' : L2.St} {H' : Hp} {s' : Shared}, Inv (X.blk sc Hc scope ce fp) [] σ' H' s' → (∀ b ∈ fp, H' b = none) → ∀ b ∈ fp, FpOk (X.blk sc Hc scope ce fp) [] H' b := fun {_ H' _} Ie off b mb =>
    ⟨off b mb, (Ie.ok.exf b mb).1, Ie.ok.exfs b mb, .inl mb, fun x c e => (Ie.ok.exf b mb).2 x c e, fun p hp => absurd (show p ∈ ([] : List (Addr × Obj)) ++ [] from hp) (by simp)⟩
  have loop : codeAny (model X.prog X.w) X.A (.compLoop (.SetComp elt [⟨tg, iter, ifs, 0⟩] scope pos) 0 (.ref itA) (.ref D) ce) (compPost (model X.prog X.w) X.A X.xe use Qf (.ref D) sc.heap.objs.size) sd := by
    refine PpSet.compLoopS_any (fun k st => ∃ i He, Inv (X.blk sc Hc scope ce fp) [] (wipe σ (own.map (·.2))) He st ∧ tn i st.heap ∧ (∀ b ∈ fp, He b = none) ∧ W i k He) ?_ m0 ⟨0, Hc, Id, std, offH, w0⟩
    rintro k se ⟨i, He, Ie, ste, offe, we⟩
    rcases turn i k He we with ⟨atEnd, fin⟩ | ⟨onward, Nx, back, next⟩
    · refine thnF (Tn.done (X.blk sc Hc scope ce fp) rfl rfl rfl calm i [] se _ He (fun _ _ => False) Ie (own1 Ie offe) ste atEnd) fun r sf ⟨er, If⟩ => ?_
      subst er
      have Ig : Inv X pins σ He sf := Ic.call' (ch := fp) If.os If.base If.hok If.bare fun b mb => ⟨(fpc b mb).1.2.2.2.1, (fpc b mb).1.2.1, (fpc b mb).1.2.2.2.2.1, (fpc b mb).1.2.2.2.2.2⟩
      have noC : He sc.heap.objs.size = none := locs ▸ (show He ce.locals = none from If.free)
      obtain ⟨nm, nsf, _⟩ := If.loc
      have nsf : sf.heap.Ns sc.heap.objs.size nm := locs ▸ (show sf.heap.Ns ce.locals nm from nsf)
      exact out D sc.heap.objs.size sf nm He Ig fin nsf (Ic.fpOk (Nat.le_refl _) noC)
    · refine thnF (Tn.item (X.blk sc Hc scope ce fp) rfl rfl rfl calm i [] se _ He (fun _ _ => False) Ie (own1 Ie offe) ste onward) fun r sf ⟨u, er, hf⟩ => ?_
      subst er
      refine thnF hf fun _ sg ⟨x, Hg, Ig, rg, yg, stg, offg⟩ => ?_
      refine thnF (hereG.run _ sg _ Hg x u _ (Ig.pinned (own1 Ig offg) (Tn.obj _ _ stg)) rg (next x Hg yg)) fun _ sh ⟨σh, Hh, Ih, wh, qh⟩ => ?_
      refine thnF (hereT.run _ sh σh Hh _ Ih qh) fun b si ⟨Hi, Ii, qi⟩ => ?_
      have over : ∀ {st : Shared} {Ht : Hp}, Inv (X.blk sc Hc scope ce fp) ([] ++ pinsAt fp sg.heap) σh Ht st → Nx Ht → ∃ m, m < k ∧ ∃ i He, Inv (X.blk sc Hc scope ce fp) [] (wipe σ (own.map (·.2))) He st ∧ tn i st.heap ∧ (∀ b ∈ fp, He b = none) ∧ W i m He := fun {st Ht} It nx => by
        obtain ⟨m1, lt1, w1⟩ := back Ht nx
        have held : ∀ b ∈ fp, ∀ o, sg.heap.get? b = some o → st.heap.get? b = some o ∧ Ht b = none := fun b mb o e =>
          have z := It.pin (b, o) (List.mem_append_right _ (List.mem_append_right _ (mem_pinsAt mb e)))
          ⟨z.1, z.2.1⟩
        have ln : (wipe σ (own.map (·.2))).length = σh.length := by rw [← wh, wipe_length]
        refine ⟨m1, lt1, i + 1, Ht, (It.unpinned (pins := [])).weak ln (fun j v e => ?_), Tn.keep _ _ _ stg fun b mb o e => (held b mb o e).1, fun b mb => ?_, w1⟩
        · rw [← wh] at e
          exact (wipe_some e).1
        · obtain ⟨o, e, _⟩ := Tn.obj _ _ stg b mb
          exact (held b mb o e).2
      cases b with
      | false =>
        rw [if_neg (by decide)] at qi ⊢
        exact over Ii qi
      | true =>
        rw [if_pos rfl] at qi ⊢
        refine thnF (hereE.run _ si σh Hi _ Ii qi) fun z sj ⟨yv, Hj, Ij, rj, c, c', atD, pt, nx⟩ => ?_
        exact F.add (X := X.blk sc Hc scope ce fp) Ij atD pt rj fun sk Ik => over Ik nx
  exact PpSet.codeAny_compStart_set loop (Tn.self X.A 0 _ _ _ std loop)
/-- {elt for target in iter if ..} -/
theorem pe_setc (F : Fam α) {elt tg iter : Expr} {ifs : List Expr} {scope : Scope} {own : List (PySem.Str × Nat)} {pos : Pos} {wi : TI} {g : TG} {tt : TT} {te : TE} (calm : X.calm = true) (nd : X.N.Nodup) (walk : PI X tg iter wi) (bo : BlkOk X.N X.env.scope scope own)
    (aim : ∀ s H C cl fp, PG (X.blk s H scope (compEnvC scope cl C X.env) fp) tg g) (tst : ∀ s H C cl fp, PTs (X.blk s H scope (compEnvC scope cl C X.env) fp) ifs tt)
    (val : ∀ s H C cl fp, PE (X.blk s H scope (compEnvC scope cl C X.env) fp) elt te) (plain : ∀ x, foldedSetIterable iter X.env x = pure x := by intro _; rfl) :
    PE X (.SetComp elt [⟨tg, iter, ifs, 0⟩] scope pos) (tSF F X.prog X.w X.K X.A wi g tt te (own.map (·.2))) := by
  refine ⟨fun pins s σ H Q I0 ask => ?_⟩
  rw [PpSet.eval_SetComp]
  refine core F calm nd I0 walk bo aim tst val plain ask fun D C s1 m H1 I1 q hn fpC => ⟨m, hn, fun h2 sb => ?_⟩
  exact ⟨.ref D, H1, I1.turned (t' := s1.toks) (fun b o hb e => (sb.2 b hb).trans e) fpC.1 fpC.2.1 fpC.2.2.2.1 fpC.2.2.2.2.1 fpC.2.2.2.2.2, rfl, q⟩
end
/-- sets of ints -/
def famI : Fam ((Int → Bool) × Nat) where
  ob := fun _ w a c => SetO w a c.1 c.2
  ini := (fun _ => false, 0)
  new := fun P w H h => setO_new (setR_fresh w)
  put := fun _ _ _ c y c' => ∃ k : Int, y = .int k ∧ c.2 + 1 < scanBound ∧ c' = (fun j => c.1 j || decide (j = k), if c.1 k = true then c.2 else c.2 + 1)
  add := by
    intro X pins σ H s E D a b y v Q I hD pt rv q
    obtain ⟨k, rfl, room, rfl⟩ := pt
    obtain ⟨tk, rfl⟩ := rv
    refine setR_add (setO_get I hD) room fun h' sb new => q _ ?_
    have ⟨o, _, _, _, ho, _⟩ := new
    exact I.write (e := D) (t' := s.toks + 1) (by rw [hD]; trivial) (.inl rfl) (fun b u hb hu => (sb.2 b hb).trans hu) ⟨o, ho⟩ (setO_new new)
/-- {elt for target in iter if ..}, elt an int -/
def tSI (w : World) (wi : TI) (g : TG) (tt : TT) (te : TE) (vs : List Nat) : TE := fun σ H Q => wi σ H fun J H1 => ∀ D, H1 D = none → ∃ W : Nat → Nat → Hp → Prop, (∃ m, W 0 m (upd H1 D (SetO w D (fun _ => false) 0))) ∧
  ∀ i m H, W i m H → (J.stop i H ∧ Q (.ref D) H) ∨ (J.go i H ∧ ∃ Nx : Hp → Prop, (∀ H', Nx H' → ∃ m', m' < m ∧ W (i + 1) m' H') ∧ ∀ x H', J.yld i H x H' → g x (wipe σ vs) H' fun σ2 H2 => wipe σ2 vs = wipe σ vs ∧ tt σ2 H2 fun b H3 =>
    if b = true then te σ2 H3 fun y H4 => ∃ c c' : (Int → Bool) × Nat, H4 D = some (SetO w D c.1 c.2) ∧ (∃ k : Int, y = .int k ∧ c.2 + 1 < scanBound ∧ c' = (fun j => c.1 j || decide (j = k), if c.1 k = true then c.2 else c.2 + 1)) ∧ Nx (upd H4 D (SetO w D c'.1 c'.2)) else Nx H3)
theorem pe_setI {X : Cx} {elt tg iter : Expr} {ifs : List Expr} {scope : Scope} {own : List (PySem.Str × Nat)} {pos : Pos} {wi : TI} {g : TG} {tt : TT} {te : TE} (calm : X.calm = true) (nd : X.N.Nodup) (walk : PI X tg iter wi) (bo : BlkOk X.N X.env.scope scope own)
    (aim : ∀ s H C cl fp, PG (X.blk s H scope (compEnvC scope cl C X.env) fp) tg g) (tst : ∀ s H C cl fp, PTs (X.blk s H scope (compEnvC scope cl C X.env) fp) ifs tt)
    (val : ∀ s H C cl fp, PE (X.blk s H scope (compEnvC scope cl C X.env) fp) elt te) (plain : ∀ x, foldedSetIterable iter X.env x = pure x := by intro _; rfl) :
    PE X (.SetComp elt [⟨tg, iter, ifs, 0⟩] scope pos) (tSI X.w wi g tt te (own.map (·.2))) := ⟨fun pins s σ H Q I h => (pe_setc famI calm nd walk bo aim tst val plain).run pins s σ H Q I h⟩
end SC
namespace CC
open PySem L2 TL
/-- the different ones, in the order in which they come -/
def firsts : List Nat → List Nat
  | l => l.foldl (fun acc x => if x ∈ acc then acc else acc ++ [x]) []
def dn (l : List Nat) : Nat := (firsts l).length
def colN (rows : List (List Nat)) (c : Nat) : List Nat := rows.map fun r => r.getD c 0
theorem firsts_snoc (l : List Nat) (x : Nat) : firsts (l ++ [x]) = if x ∈ firsts l then firsts l else firsts l ++ [x] := by
  unfold firsts
  rw [List.foldl_append]
  rfl
theorem firsts_mem : ∀ (n : Nat) (l : List Nat), l.length = n → ∀ y, y ∈ firsts l ↔ y ∈ l
  | 0, l, h, y => by
    rw [List.length_eq_zero_iff.mp h]
    simp [firsts]
  | n + 1, l, h, y => by
    have ne : l ≠ [] := fun e => by rw [e] at h; cases h
    obtain ⟨u, x, rfl⟩ : ∃ u x, l = u ++ [x] := ⟨_, _, (List.dropLast_concat_getLast ne).symm⟩
    have hu : u.length = n := by
      rw [List.length_append, List.length_singleton] at h
      omega
    have ih := firsts_mem n u hu
    rw [firsts_snoc, List.mem_append, List.mem_singleton]
    by_cases e : x ∈ firsts u
    · rw [if_pos e, ih y]
      constructor
      · exact .inl
      · rintro (z | rfl)
        · exact z
        · exact (ih _).mp e
    · rw [if_neg e, List.mem_append, List.mem_singleton, ih y]
theorem mem_firsts {l : List Nat} {y : Nat} : y ∈ firsts l ↔ y ∈ l := firsts_mem _ l rfl y
theorem dn_snoc (l : List Nat) (x : Nat) : dn (l ++ [x]) = if x ∈ l then dn l else dn l + 1 := by
  unfold dn
  rw [firsts_snoc]
  by_cases e : x ∈ l
  · rw [if_pos e, if_pos (mem_firsts.mpr e)]
  · rw [if_neg e, if_neg (fun z => e (mem_firsts.mp z)), List.length_append, List.length_singleton]
theorem dn_le (l : List Nat) : ∀ n, dn (l.take n) ≤ n
  | 0 => by simp [dn, firsts]
  | n + 1 => by
    cases h : l[n]? with
    | none =>
      rw [List.take_of_length_le (by have := List.getElem?_eq_none_iff.mp h; omega), ← List.take_of_length_le (i := n) (l := l) (by have := List.getElem?_eq_none_iff.mp h; omega)]
      exact Nat.le_succ_of_le (dn_le l n)
    | some x =>
      rw [List.take_succ, h]
      show dn (l.take n ++ [x]) ≤ _
      rw [dn_snoc]
      have := dn_le l n
      split <;> omega
/-- the members of a set of such numbers -/
def memI (l : List Nat) : Int → Bool := fun k => decide (∃ n ∈ l, (n : Int) = k)
theorem memI_at (l : List Nat) (x : Nat) : memI l (x : Int) = decide (x ∈ l) := by
  unfold memI
  rw [Bool.eq_iff_iff, decide_eq_true_eq, decide_eq_true_eq]
  constructor
  · rintro ⟨n, hn, e⟩
    have : n = x := by omega
    exact this ▸ hn
  · exact fun h => ⟨x, h, rfl⟩
theorem memI_snoc (l : List Nat) (x : Nat) : (fun j => memI l j || decide (j = (x : Int))) = memI (l ++ [x]) := by
  funext j
  unfold memI
  rw [Bool.eq_iff_iff, Bool.or_eq_true, decide_eq_true_eq, decide_eq_true_eq, decide_eq_true_eq]
  constructor
  · rintro (⟨n, hn, e⟩ | e)
    · exact ⟨n, List.mem_append_left _ hn, e⟩
    · exact ⟨x, List.mem_append_right _ (List.mem_singleton.mpr rfl), e.symm⟩
  · rintro ⟨n, hn, e⟩
    rcases List.mem_append.mp hn with z | z
    · exact .inl ⟨n, z, e⟩
    · rw [List.mem_singleton.mp z] at e
      exact .inr e.symm
theorem colN_take {rows : List (List Nat)} {c i : Nat} {r : List Nat} (h : rows[i]? = some r) : colN (rows.take (i + 1)) c = colN (rows.take i) c ++ [r.getD c 0] := by
  unfold colN
  rw [take1 h, List.map_append]
  rfl
/-- over a tuple -/
theorem si_tup {w : World} {K : PySem.W.Frag} {a : Addr} {xs : List V} {g : TG} {tt : TT} {te : TE} {vs : List Nat} {σ : L2.St} {H1 : Hp} {D : Addr} {Qd : Hp → Prop} (Pv : Nat → Hp → Prop) (h0 : Pv 0 (upd H1 D (SetO w D (fun _ => false) 0))) (hl : ∀ i H, i ≤ xs.length → Pv i H → SqT K H a xs)
    (hs : ∀ i x H, xs[i]? = some x → Pv i H → g x (wipe σ vs) H fun σ2 H2 => wipe σ2 vs = wipe σ vs ∧ tt σ2 H2 fun b H3 => if b = true then te σ2 H3 fun y H4 => ∃ c c' : (Int → Bool) × Nat, H4 D = some (SetO w D c.1 c.2) ∧ (∃ k : Int, y = .int k ∧ c.2 + 1 < scanBound ∧ c' = (fun j => c.1 j || decide (j = k), if c.1 k = true then c.2 else c.2 + 1)) ∧ Pv (i + 1) (upd H4 D (SetO w D c'.1 c'.2)) else Pv (i + 1) H3) (hd : ∀ H, Pv xs.length H → Qd H) :
    ∃ W : Nat → Nat → Hp → Prop, (∃ m, W 0 m (upd H1 D (SetO w D (fun _ => false) 0))) ∧ ∀ i m H, W i m H → ((Itt K a).stop i H ∧ Qd H) ∨ ((Itt K a).go i H ∧ ∃ Nx : Hp → Prop, (∀ H', Nx H' → ∃ m', m' < m ∧ W (i + 1) m' H') ∧ ∀ x H', (Itt K a).yld i H x H' → g x (wipe σ vs) H' fun σ2 H2 => wipe σ2 vs = wipe σ vs ∧ tt σ2 H2 fun b H3 =>
      if b = true then te σ2 H3 fun y H4 => ∃ c c' : (Int → Bool) × Nat, H4 D = some (SetO w D c.1 c.2) ∧ (∃ k : Int, y = .int k ∧ c.2 + 1 < scanBound ∧ c' = (fun j => c.1 j || decide (j = k), if c.1 k = true then c.2 else c.2 + 1)) ∧ Nx (upd H4 D (SetO w D c'.1 c'.2)) else Nx H3) := by
  refine ⟨fun i m H => m = xs.length - i ∧ i ≤ xs.length ∧ Pv i H, ⟨xs.length, by simp, Nat.zero_le _, h0⟩, ?_⟩
  rintro i m H ⟨rfl, hi, p⟩
  have q := hl i H hi p
  by_cases lt : i < xs.length
  · refine .inr ⟨⟨xs, xs[i], q, by simp [lt]⟩, Pv (i + 1), fun H' p' => ⟨xs.length - (i + 1), by omega, rfl, lt, p'⟩, fun x H' y => ?_⟩
    obtain ⟨e, y⟩ := y
    subst e
    exact hs i x _ (y xs q) p
  · have e : i = xs.length := by omega
    subst e
    exact .inl ⟨⟨xs, q, Nat.le_refl _⟩, hd H p⟩
/-- len of a set of ints -/
def rLenI (w : World) : List V → Hp → VK → Prop := fun xs H Q => ∃ (a : Addr) (S : Int → Bool) (n : Nat), xs = [.ref a] ∧ H a = some (SetO w a S n) ∧ n ≤ 1000 ∧ Q (.int (n : Int)) H
theorem call_lenI {X : Cx} : CallR X (.builtin "len") (rLenI X.w) := by
  intro pins s σ H xs us Q I r h
  obtain ⟨a, S, n, rfl, ha, hn, q⟩ := h
  rw [Vals.ref1 r]
  obtain ⟨o, es, ep, t, ho, hex, hd, _, _, _, hb, hf, e, _⟩ := setO_get I ha
  exact PySem.call_len_set ho hex hd hf (by rw [e]; omega) ⟨.int (n : Int), H, I.tok _, ⟨_, by rw [e]⟩, q⟩
end CC
namespace CC
/-- what law and document say of a rule and rows -/
def HoldsR (rows : List (List Nat)) (r : R) : Prop :=
  if r.k then ∀ x ∈ rows, ∀ y ∈ rows, y.getD r.a 0 = x.getD r.a 0 → y.getD r.b 0 = x.getD r.b 0
  else ∀ x ∈ rows, ∃ y ∈ rows, y.getD r.b 0 = x.getD r.a 0
theorem firsts_nodup : ∀ (n : Nat) (l : List Nat), l.length = n → (firsts l).Nodup
  | 0, l, h => by
    rw [List.length_eq_zero_iff.mp h]
    simp [firsts]
  | n + 1, l, h => by
    have ne : l ≠ [] := fun e => by rw [e] at h; cases h
    obtain ⟨u, x, rfl⟩ : ∃ u x, l = u ++ [x] := ⟨_, _, (List.dropLast_concat_getLast ne).symm⟩
    have hu : u.length = n := by
      rw [List.length_append, List.length_singleton] at h
      omega
    have ih := firsts_nodup n u hu
    rw [firsts_snoc]
    by_cases e : x ∈ firsts u
    · rw [if_pos e]
      exact ih
    · rw [if_neg e]
      refine List.nodup_append.mpr ⟨ih, by simp, fun y hy z hz ez => ?_⟩
      rw [List.mem_singleton.mp hz] at ez
      exact e (ez ▸ hy)
theorem nodup_firsts (l : List Nat) : (firsts l).Nodup := firsts_nodup _ l rfl
theorem sub_len : ∀ {u v : List Nat}, u.Nodup → (∀ x ∈ u, x ∈ v) → u.length ≤ v.length
  | [], _, _, _ => Nat.zero_le _
  | x :: u, v, h, s => by
    obtain ⟨h1, h2⟩ := List.nodup_cons.mp h
    have hx := s x List.mem_cons_self
    have := sub_len (u := u) (v := v.erase x) h2 fun y hy => (List.mem_erase_of_ne (a := y) (b := x) fun e => h1 (by rw [← e]; exact hy)).mpr (s y (List.mem_cons_of_mem _ hy))
    have l := List.length_erase_of_mem hx
    have : 0 < v.length := List.length_pos_of_mem hx
    rw [List.length_cons]
    omega
theorem dn_sub {u v : List Nat} (s : ∀ x ∈ u, x ∈ v) : dn u ≤ dn v := sub_len (nodup_firsts u) fun x hx => mem_firsts.mpr (s x (mem_firsts.mp hx))
theorem dn_img {u v : List Nat} (g : Nat → Nat) (s : ∀ x ∈ u, ∃ y ∈ v, g y = x) : dn u ≤ dn v := by
  have : (firsts u).length ≤ ((firsts v).map g).length := sub_len (nodup_firsts u) fun x hx => by
    obtain ⟨y, hy, e⟩ := s x (mem_firsts.mp hx)
    exact List.mem_map.mpr ⟨y, mem_firsts.mpr hy, e⟩
  rwa [List.length_map] at this
theorem holds_dn {rows : List (List Nat)} {r : R} (h : HoldsR rows r) : dn (colN rows (down r).2) ≤ dn (colN rows (down r).1) := by
  obtain ⟨k, a, b⟩ := r
  cases k
  · show dn (colN rows a) ≤ dn (colN rows b)
    refine dn_sub fun x hx => ?_
    obtain ⟨r, hr, rfl⟩ := List.mem_map.mp hx
    obtain ⟨y, hy, e⟩ := (h : ∀ x ∈ rows, ∃ y ∈ rows, y.getD b 0 = x.getD a 0) r hr
    exact List.mem_map.mpr ⟨y, hy, e⟩
  · show dn (colN rows b) ≤ dn (colN rows a)
    have h' : ∀ x ∈ rows, ∀ y ∈ rows, y.getD a 0 = x.getD a 0 → y.getD b 0 = x.getD b 0 := h
    refine dn_img (fun v => ((rows.find? fun r => r.getD a 0 == v).map fun r => r.getD b 0).getD 0) fun x hx => ?_
    obtain ⟨r, hr, rfl⟩ := List.mem_map.mp hx
    refine ⟨r.getD a 0, List.mem_map.mpr ⟨r, hr, rfl⟩, ?_⟩
    cases e : rows.find? (fun s => s.getD a 0 == r.getD a 0) with
    | none =>
      have := List.find?_eq_none.mp e r hr
      simp at this
    | some y =>
      have e1 := List.find?_some e
      have e2 := List.mem_of_find?_eq_some e
      exact h' r hr y e2 (eq_of_beq e1)
/-- columns a walk leads to have no more values -/
theorem rch_dn {rows : List (List Nat)} {rs : List R} (h : ∀ r ∈ rs, HoldsR rows r) : ∀ {a b : Nat}, (a, b) ∈ rs.map down → dn (colN rows b) ≤ dn (colN rows a) := by
  intro a b hab
  obtain ⟨r, hr, e⟩ := List.mem_map.mp hab
  have := holds_dn (h r hr)
  rw [e] at this
  exact this
end CC
namespace CC
open PySem L2
/-! ### in the rows of a model exactly the rules hold that follow -/
section
variable {MS MN MG M : Nat → Nat → Bool} {w x a b : Nat} {c d : List Nat} {n : List Nat → Nat} {cs : List (List Nat)}
theorem take_sum {i j : Nat} (hi : cs[i]? = some c) (lt : i < j) : ((cs.take i).map n).sum + n c ≤ ((cs.take j).map n).sum := by
  have e : ((cs.take (i + 1)).map n).sum = ((cs.take i).map n).sum + n c := by
    rw [List.take_add_one, hi, List.map_append, List.sum_append]
    simp
  have t : (cs.take (i + 1)).Sublist (cs.take j) := by
    rw [show cs.take (i + 1) = (cs.take j).take (i + 1) by rw [List.take_take, Nat.min_eq_left (by omega)]]
    exact List.take_sublist _ _
  have s := sum_sub (t.map n)
  omega
/-- different classes have different names -/
theorem nms_disj (nd : cs.Nodup) (hc : c ∈ cs) (hd : d ∈ cs) {v : Nat} (h1 : v ∈ nmsM n cs c) (h2 : v ∈ nmsM n cs d) : c = d := by
  obtain ⟨i, hi⟩ := List.mem_iff_getElem?.mp hc
  obtain ⟨j, hj⟩ := List.mem_iff_getElem?.mp hd
  unfold nmsM at h1 h2
  rw [stM_at nd hi, List.mem_range'_1] at h1
  rw [stM_at nd hj, List.mem_range'_1] at h2
  rcases Nat.lt_trichotomy i j with lt | e | lt
  · have := take_sum (n := n) hi lt
    omega
  · rw [e, hj] at hi
    injection hi with hi
    exact hi.symm
  · have := take_sum (n := n) hj lt
    omega
theorem flat_sub (hc : c ∈ clsM M w) : ∀ d ∈ c :: belM M (clsM M w) c, d ∈ clsM M w := fun d hd => by
  rcases List.mem_cons.mp hd with rfl | hd
  · exact hc
  · exact bel_mem hd
theorem flat_nodupV (hc : c ∈ clsM M w) : (flatM M w n c).Nodup := by
  have nd : (c :: belM M (clsM M w) c).Nodup := by
    refine List.nodup_cons.mpr ⟨fun z => ?_, cls_nodupB.filter _⟩
    have := (List.mem_filter.mp z).2
    simp at this
  have all := flat_sub hc
  unfold flatM
  refine List.pairwise_flatMap.mpr ⟨fun d _ => List.nodup_range', ?_⟩
  refine List.Pairwise.imp_of_mem (fun {d e} hd he ne v hv u hu z => ?_) nd
  subst z
  exact ne (nms_disj cls_nodupB (all d hd) (all e he) hv hu)
theorem Lay.col_nodup (L : Lay MS MN MG w) (hx : x < w) : (colM MS MN MG w x).Nodup := valM_perm.nodup_iff.mpr (flat_nodupV (cls_of L.n hx))
theorem getD_injN {l : List Nat} (nd : l.Nodup) {i j : Nat} (hi : i < l.length) (hj : j < l.length) (e : l.getD i 0 = l.getD j 0) : i = j := by
  rw [List.getD_eq_getElem?_getD, List.getD_eq_getElem?_getD, List.getElem?_eq_getElem hi, List.getElem?_eq_getElem hj] at e
  have e : l[i] = l[j] := e
  have h1 := nd.idxOf_getElem i hi
  have h2 := nd.idxOf_getElem j hj
  rw [← h1, ← h2, e]
/-- at or below the class of x -/
theorem bel_iff (e : Eqr M w) (hx : x < w) {d : Nat} (hd : d < w) : (grpM M w x = grpM M w d ∨ grpM M w d ∈ belM M (clsM M w) (grpM M w x)) ↔ M x d = true := by
  have cx := cls_of e hx
  have cd := cls_of e hd
  obtain ⟨x1, x2, x3⟩ := grp_mem.mp (cls_self e cx)
  obtain ⟨d1, d2, d3⟩ := grp_mem.mp (cls_self e cd)
  constructor
  · rintro (h | h)
    · have : d ∈ grpM M w x := by
        rw [h]
        exact e.self hd
      exact (grp_mem.mp this).2.1
    · have := (List.mem_filter.mp h).2
      rw [Bool.and_eq_true] at this
      exact e.trans _ _ _ hx x1 hd x2 (e.trans _ _ _ x1 d1 hd this.2 d3)
  · intro h
    by_cases h' : M d x = true
    · exact .inl (e.same hx (grp_mem.mpr ⟨hd, h, h'⟩)).symm
    · refine .inr (List.mem_filter.mpr ⟨cd, ?_⟩)
      rw [Bool.and_eq_true, decide_eq_true_eq]
      refine ⟨fun z => h' ?_, e.trans _ _ _ x1 hx d1 x3 (e.trans _ _ _ hx hd d1 h d2)⟩
      have : d ∈ grpM M w x := by
        rw [← z]
        exact e.self hd
      exact (grp_mem.mp this).2.2
theorem ris_iff (e : Eqr MS w) (hx : x < w) {d : Nat} (hd : d < w) : risB MS w (grpM MS w d) x = true ↔ MS x d = true := by
  rw [← bel_iff e hx hd]
  unfold risB
  rw [Bool.or_eq_true, decide_eq_true_eq, decide_eq_true_eq]
/-- what rises below, rises above -/
theorem ris_up (e : Eqr MS w) (ha : a < w) (hb : b < w) (h : MS a b = true) (hc : c ∈ clsM MS w) (r : risB MS w c b = true) : risB MS w c a = true := by
  obtain ⟨h1, h2⟩ := cls_grp hc
  rw [h2] at r ⊢
  exact (ris_iff e ha h1).mpr (e.trans _ _ _ ha hb h1 h ((ris_iff e hb h1).mp r))
/-! the rows -/
theorem rows_mem {p : List Nat} : p ∈ rowsM MS MN MG w ↔ p = row0 MS MN MG w ∨ ∃ j c t, (clsM MS w)[j]? = some c ∧ t < rM MS MN MG w c ∧ p = rowM MS MN MG w ((clsM MS w).take j) c t := by
  unfold rowsM rowsTo
  rw [List.mem_cons]
  refine or_congr Iff.rfl ?_
  rw [List.mem_flatMap]
  constructor
  · rintro ⟨j, hj, hp⟩
    have hj := List.mem_range.mp hj
    unfold rowsOf at hp
    obtain ⟨t, ht, rfl⟩ := List.mem_map.mp hp
    refine ⟨j, (clsM MS w).getD j [], t, ?_, List.mem_range.mp ht, rfl⟩
    rw [List.getD_eq_getElem?_getD, List.getElem?_eq_getElem hj]
    rfl
  · rintro ⟨j, c, t, hc, ht, rfl⟩
    have hj := (List.getElem?_eq_some_iff.mp hc).1
    have e : (clsM MS w).getD j [] = c := by
      rw [List.getD_eq_getElem?_getD, hc]
      rfl
    refine ⟨j, List.mem_range.mpr hj, ?_⟩
    rw [e]
    unfold rowsOf
    exact List.mem_map.mpr ⟨t, List.mem_range.mpr ht, rfl⟩
theorem row0_at (hx : x < w) : (row0 MS MN MG w).getD x 0 = (colM MS MN MG w x).getD 0 0 := by
  unfold row0
  rw [List.getD_eq_getElem?_getD, rng_at _ hx]
  rfl
theorem row_at {t : Nat} (hx : x < w) : (rowM MS MN MG w cs c t).getD x 0 = (colM MS MN MG w x).getD (if risB MS w c x then useM MS MN MG w cs x + t + 1 else 0) 0 := by
  unfold rowM
  rw [List.getD_eq_getElem?_getD, rng_at _ hx]
  rfl
theorem use_take {i j : Nat} (hi : (clsM MS w)[i]? = some c) (r : risB MS w c x = true) (lt : i < j) : useM MS MN MG w ((clsM MS w).take i) x + rM MS MN MG w c ≤ useM MS MN MG w ((clsM MS w).take j) x := by
  have e : (clsM MS w).take (i + 1) = (clsM MS w).take i ++ [c] := SG.take_one hi
  have s := use_snoc (MN := MN) (MG := MG) (cs := (clsM MS w).take i) (c := c) (x := x) (MS := MS) (w := w)
  rw [if_pos r, ← e] at s
  rw [← s]
  have t : ((clsM MS w).take (i + 1)).Sublist ((clsM MS w).take j) := by
    rw [show (clsM MS w).take (i + 1) = ((clsM MS w).take j).take (i + 1) by rw [List.take_take, Nat.min_eq_left (by omega)]]
    exact List.take_sublist _ _
  exact sum_sub ((List.Sublist.filter _ t).map _)
/-- a row is known by a value that rises -/
theorem ix_eq {i j t s : Nat} (hi : (clsM MS w)[i]? = some c) (hj : (clsM MS w)[j]? = some d) (ht : t < rM MS MN MG w c) (hs : s < rM MS MN MG w d) (rc : risB MS w c x = true) (rd : risB MS w d x = true) (e : useM MS MN MG w ((clsM MS w).take i) x + t + 1 = useM MS MN MG w ((clsM MS w).take j) x + s + 1) : i = j ∧ c = d ∧ t = s := by
  rcases Nat.lt_trichotomy i j with lt | z | lt
  · have := use_take (MN := MN) (MG := MG) hi rc lt
    omega
  · subst z
    rw [hi] at hj
    injection hj with hj
    exact ⟨rfl, hj, by omega⟩
  · have := use_take (MN := MN) (MG := MG) hj rd lt
    omega
theorem Lay.settles_iff (L : Lay MS MN MG w) (ha : a < w) (hb : b < w) : (∀ p ∈ rowsM MS MN MG w, ∀ q ∈ rowsM MS MN MG w, q.getD a 0 = p.getD a 0 → q.getD b 0 = p.getD b 0) ↔ MS a b = true := by
  constructor
  · intro h
    have hc := cls_of L.s hb
    obtain ⟨j, hj⟩ := List.mem_iff_getElem?.mp hc
    have rp := L.r_pos hc
    have rb : risB MS w (grpM MS w b) b = true := (ris_iff L.s hb hb).mpr (L.s.refl b hb)
    have h1 := h _ (rows_mem.mpr (.inl rfl)) _ (rows_mem.mpr (.inr ⟨j, _, 0, hj, rp, rfl⟩))
    rw [row0_at ha, row0_at hb, row_at ha, row_at hb] at h1
    by_cases ra : risB MS w (grpM MS w b) a = true
    · exact (ris_iff L.s ha hb).mp ra
    · rw [if_neg ra] at h1
      have l := L.ix_lt hb hj rp
      have := getD_injN (L.col_nodup hb) l (L.col_pos hb) (h1 rfl)
      rw [if_pos rb] at this
      omega
  · intro h p hp q hq e
    have ris0 : ∀ c ∈ clsM MS w, risB MS w c a ≠ true → risB MS w c b ≠ true := fun c hc z y => z (ris_up L.s ha hb h hc y)
    rcases rows_mem.mp hp with rfl | ⟨i, c, t, hi, ht, rfl⟩
    · rcases rows_mem.mp hq with rfl | ⟨j, d, s, hj, hs, rfl⟩
      · rfl
      · rw [row0_at ha, row_at ha] at e
        have e := getD_injN (L.col_nodup ha) (L.ix_lt ha hj hs) (L.col_pos ha) e
        have ra : risB MS w d a ≠ true := fun z => by
          rw [if_pos z] at e
          omega
        rw [row0_at hb, row_at hb, if_neg (ris0 d (List.mem_of_getElem? hj) ra)]
    · rcases rows_mem.mp hq with rfl | ⟨j, d, s, hj, hs, rfl⟩
      · rw [row0_at ha, row_at ha] at e
        have e := getD_injN (L.col_nodup ha) (L.col_pos ha) (L.ix_lt ha hi ht) e
        have ra : risB MS w c a ≠ true := fun z => by
          rw [if_pos z] at e
          omega
        rw [row0_at hb, row_at hb, if_neg (ris0 c (List.mem_of_getElem? hi) ra)]
      · rw [row_at ha, row_at ha] at e
        have e := getD_injN (L.col_nodup ha) (L.ix_lt ha hj hs) (L.ix_lt ha hi ht) e
        by_cases rc : risB MS w c a = true
        · by_cases rd : risB MS w d a = true
          · rw [if_pos rc, if_pos rd] at e
            obtain ⟨rfl, rfl, rfl⟩ := ix_eq hi hj ht hs rc rd e.symm
            rfl
          · rw [if_pos rc, if_neg rd] at e
            omega
        · by_cases rd : risB MS w d a = true
          · rw [if_neg rc, if_pos rd] at e
            omega
          · rw [row_at hb, row_at hb, if_neg (ris0 c (List.mem_of_getElem? hi) rc), if_neg (ris0 d (List.mem_of_getElem? hj) rd)]
/-- all values of a column are used -/
theorem Lay.cover (L : Lay MS MN MG w) (hx : x < w) {v : Nat} (hv : v ∈ colM MS MN MG w x) : ∃ q ∈ rowsM MS MN MG w, q.getD x 0 = v := by
  have go : ∀ k i, i < 1 + useM MS MN MG w ((clsM MS w).take k) x → ∃ q ∈ rowsM MS MN MG w, q.getD x 0 = (colM MS MN MG w x).getD i 0 := by
    intro k
    induction k with
    | zero =>
      intro i hi
      have : i = 0 := by
        have : useM MS MN MG w ((clsM MS w).take 0) x = 0 := rfl
        omega
      subst this
      exact ⟨_, rows_mem.mpr (.inl rfl), row0_at hx⟩
    | succ k ih =>
      intro i hi
      by_cases hk : k < (clsM MS w).length
      · have hc : (clsM MS w)[k]? = Option.some (clsM MS w)[k] := List.getElem?_eq_getElem hk
        have e : (clsM MS w).take (k + 1) = (clsM MS w).take k ++ [(clsM MS w)[k]] := SG.take_one hc
        rw [e, use_snoc] at hi
        by_cases lt : i < 1 + useM MS MN MG w ((clsM MS w).take k) x
        · exact ih i lt
        · by_cases r : risB MS w (clsM MS w)[k] x = true
          · rw [if_pos r] at hi
            refine ⟨_, rows_mem.mpr (.inr ⟨k, _, i - 1 - useM MS MN MG w ((clsM MS w).take k) x, hc, by omega, rfl⟩), ?_⟩
            rw [row_at hx, if_pos r]
            congr 1
            omega
          · rw [if_neg r] at hi
            omega
      · rw [List.take_of_length_le (by omega)] at hi
        refine ih i ?_
        rw [List.take_of_length_le (by omega)]
        exact hi
  obtain ⟨i, hi, e⟩ := List.getElem_of_mem hv
  have l := L.col_len hx
  have u := L.use_all hx
  obtain ⟨q, hq, e'⟩ := go (clsM MS w).length i (by rw [List.take_length]; omega)
  refine ⟨q, hq, e'.trans ?_⟩
  rw [List.getD_eq_getElem?_getD, List.getElem?_eq_getElem hi, e]
  rfl
theorem Lay.row_col (L : Lay MS MN MG w) (hx : x < w) {p : List Nat} (hp : p ∈ rowsM MS MN MG w) : p.getD x 0 ∈ colM MS MN MG w x := by
  rcases rows_mem.mp hp with rfl | ⟨i, c, t, hi, ht, rfl⟩
  · rw [row0_at hx]
    exact getD_lt (L.col_pos hx)
  · rw [row_at hx]
    exact getD_lt (L.ix_lt hx hi ht)
theorem Lay.col_mem (L : Lay MS MN MG w) (hx : x < w) {v : Nat} : v ∈ colM MS MN MG w x ↔ ∃ d, d < w ∧ MN x d = true ∧ v ∈ nmsM (nM MS MN MG w) (clsM MN w) (grpM MN w d) := by
  unfold colM
  rw [valM_perm.mem_iff]
  unfold flatM
  rw [List.mem_flatMap]
  constructor
  · rintro ⟨c, hc, hv⟩
    obtain ⟨h1, h2⟩ := cls_grp (flat_sub (cls_of L.n hx) c hc)
    rw [h2] at hc hv
    refine ⟨_, h1, (bel_iff L.n hx h1).mp ?_, hv⟩
    rcases List.mem_cons.mp hc with e | h
    · exact .inl e.symm
    · exact .inr h
  · rintro ⟨d, hd, m, hv⟩
    refine ⟨_, ?_, hv⟩
    rcases (bel_iff L.n hx hd).mpr m with e | h
    · rw [e]
      exact List.mem_cons_self
    · exact List.mem_cons_of_mem _ h
theorem Lay.within_iff (L : Lay MS MN MG w) (ha : a < w) (hb : b < w) : (∀ p ∈ rowsM MS MN MG w, ∃ q ∈ rowsM MS MN MG w, q.getD b 0 = p.getD a 0) ↔ MN b a = true := by
  constructor
  · intro h
    have hN := cls_of L.n ha
    have np := L.n_pos hN
    have hv : stM (nM MS MN MG w) (clsM MN w) (grpM MN w a) ∈ nmsM (nM MS MN MG w) (clsM MN w) (grpM MN w a) := by
      unfold nmsM
      rw [List.mem_range'_1]
      omega
    obtain ⟨p, hp, ep⟩ := L.cover ha ((L.col_mem ha).mpr ⟨a, ha, L.n.refl a ha, hv⟩)
    obtain ⟨q, hq, eq⟩ := h p hp
    have m := L.row_col hb hq
    rw [eq, ep] at m
    obtain ⟨d, hd, md, hv'⟩ := (L.col_mem hb).mp m
    have e := nms_disj cls_nodupB hN (cls_of L.n hd) hv hv'
    have : d ∈ grpM MN w a := by
      rw [e]
      exact L.n.self hd
    obtain ⟨_, _, z⟩ := grp_mem.mp this
    exact L.n.trans _ _ _ hb hd ha md z
  · intro h p hp
    obtain ⟨d, hd, md, hv⟩ := (L.col_mem ha).mp (L.row_col ha hp)
    exact L.cover hb ((L.col_mem hb).mpr ⟨d, hd, L.n.trans _ _ _ hb ha hd h md, hv⟩)
/-- each column has as many different values as its group's number says -/
theorem Lay.dn_col (L : Lay MS MN MG w) (hx : x < w) : dn (colN (rowsM MS MN MG w) x) = fN MS MN MG w x := by
  rw [← L.col_len hx]
  refine Nat.le_antisymm (sub_len (nodup_firsts _) fun v hv => ?_) (sub_len (L.col_nodup hx) fun v hv => ?_)
  · obtain ⟨p, hp, rfl⟩ := List.mem_map.mp (mem_firsts.mp hv)
    exact L.row_col hx hp
  · obtain ⟨q, hq, e⟩ := L.cover hx hv
    exact mem_firsts.mpr (List.mem_map.mpr ⟨q, hq, e⟩)
theorem rt_rev {S : Nat → Nat → Prop} {x y : Nat} (h : RT (fun a b => S b a) x y) : RT S y x := by
  induction h with
  | refl => exact .refl
  | step _ s ih => exact RT.trans (RT.refl.step s) ih
theorem ModM.settled {rs : List R} (h : ModM rs MS MN MG w) (ha : a < w) (hb : b < w) : MS a b = true ↔ Fol rs ⟨true, a, b⟩ := by
  rw [h.s a b ha hb]
  have : Sdn rs true = Lk rs true := by
    funext x y
    rfl
  rw [this]
  exact Iff.rfl
theorem ModM.named {rs : List R} (h : ModM rs MS MN MG w) (ha : a < w) (hb : b < w) : MN b a = true ↔ Fol rs ⟨false, a, b⟩ := by
  rw [h.n b a hb ha]
  have : Sdn rs false = fun x y => Lk rs false y x := by
    funext x y
    rfl
  rw [this]
  exact ⟨fun z => rt_rev z, fun z => rt_rev (S := fun x y => Lk rs false y x) z⟩
/-- in the rows of a model exactly the rules hold that follow -/
theorem ModM.holds {rs : List R} (h : ModM rs MS MN MG w) (w6 : w ≤ 6) {r : R} (ok : r.ok w) : HoldsR (rowsM MS MN MG w) r ↔ Fol rs r := by
  have L := h.lay w6
  obtain ⟨k, a, b⟩ := r
  obtain ⟨ha, hb, _⟩ := ok
  cases k with
  | true => exact (L.settles_iff ha hb).trans (h.settled ha hb)
  | false => exact (L.within_iff ha hb).trans (h.named ha hb)
end
end CC
namespace CC
open PySem PySem.Spec PyProof.Rows L2
def rInDT (K : PySem.W.Frag) : R2 := fun x y H Q => ∃ d ds, Dp K H x d ∧ Dp K H y (.tuple ds) ∧ SeqAt.shaped d = true ∧ SeqAt.shaped (.list ds) = true ∧ Q (.bl (ds.any fun z => PyData.eqv z d)) H
def rNotInDT (K : PySem.W.Frag) : R2 := fun x y H Q => ∃ d ds, Dp K H x d ∧ Dp K H y (.tuple ds) ∧ SeqAt.shaped d = true ∧ SeqAt.shaped (.list ds) = true ∧ Q (.bl (!ds.any fun z => PyData.eqv z d)) H
section
variable {X : Cx}
theorem op_inDT (hu : X.A.units + 65 < cLine) : OpR X (compareOp .In) (rInDT X.K) := by
  intro pins s σ H x y v u Q I rx ry h
  obtain ⟨d, ds, hd, he, sd, se, q⟩ := h
  obtain ⟨as, r1⟩ := Dp.reads I d x v hd rx
  obtain ⟨bs, r2⟩ := Dp.reads I (.tuple ds) y u he ry
  exact SeqAt.in_tuple_reads r2 r1 (SeqAt.canLay_of_shaped se) (SeqAt.canLay_of_shaped sd) (room_in_shaped sd hu) ⟨.bl _, H, I, rfl, q⟩
theorem op_notInDT (hu : X.A.units + 65 < cLine) : OpR X (compareOp .NotIn) (rNotInDT X.K) := by
  intro pins s σ H x y v u Q I rx ry h
  obtain ⟨d, ds, hd, he, sd, se, q⟩ := h
  obtain ⟨as, r1⟩ := Dp.reads I d x v hd rx
  obtain ⟨bs, r2⟩ := Dp.reads I (.tuple ds) y u he ry
  exact SeqAt.notIn_tuple_reads r2 r1 (SeqAt.canLay_of_shaped se) (SeqAt.canLay_of_shaped sd) (room_in_shaped sd hu) ⟨.bl _, H, I, rfl, q⟩
end
end CC
namespace CC
open PySem PySem.Spec PyProof.Rows L2
/-! ### x in a tuple of data, C(e, *y), an own + -/
section
variable {X : Cx}
variable {CX : CXT} {k : Nat} {f C : Addr} {sp : Sp} {E : XK} {x : Str} {e : Expr} {es : List Expr} {t : TA} {p pos : Pos}
theorem pe_makeRS (M : Mk X.K C f) (F : FnR X.prog X.w X.K X.mg X.base CX k f sp) (hr : Room (k + 1) X.A) (hg : Gl X x) (hm : X.mg x = some (.ref C)) (hx : Passes CX X E) (ha : PA X (e :: es) t) (hdb : (x == ("__debug__" : Str)) = false := by decide)
    (he : starEach (e :: es) X.env = (false, eval e X.env) :: starEach es X.env := by rfl) (hst : (backTo pos (starEach es X.env)).any (·.1) = true := by rfl) : PE X (.Call (.Name x p) (e :: es) [] pos) (StX.tMakeR C sp E t) := by
  refine ⟨fun pins s σ H Q I h => ?_⟩
  refine wpAny_Call_Name_kw (ld_glob I hg hm ?_ hdb)
  refine PySem.W.callWith_S2 (h₀ := X.base) I.ok.mod.kin M.kp (thn (ha.run pos pins s σ H _ I h) fun us s1 ⟨vs, H1, I1, r, q⟩ => ⟨I1.kIn, ?_⟩) he hst
  exact StX.run_makeR M F hr hx I1 r q
def rOwnB (C : Addr) (sp : Sp) (E : XK) : R2 := fun x y H Q => ∃ a dx fs b dy gs, x = .ref a ∧ y = .ref b ∧ H a = some (.ins C dx fs) ∧ H b = some (.ins C dy gs) ∧ sp [x, y] H Q E
theorem op_ownB {op : Operator} {g : Addr} (hc : PySem.W.selfFirst X.K C = true) (hs : PySem.W.findIn X.K (.ref C) (PySem.dunder op.info.2) = some (some (.ref g))) (hf : PySem.W.isFn X.K (.ref g) = true) (F : FnR X.prog X.w X.K X.mg X.base CX k g sp)
    (hr : Room k X.A) (hx : Passes CX X E) : OpR X (binaryOp op) (rOwnB C sp E) := by
  intro pins s σ H x y v u Q I rx ry h
  obtain ⟨a, dx, fs, b, dy, gs, rfl, rfl, ha, hb, q⟩ := h
  cases (show v = Value.ref a from rx)
  cases (show u = Value.ref b from ry)
  obtain ⟨mA, J, _⟩ := ins_get I.hok ha
  obtain ⟨mB, J', _⟩ := ins_get I.hok hb
  obtain ⟨od, J, _⟩ := J.look
  obtain ⟨od', J', _⟩ := J'.look
  obtain ⟨m, hF⟩ := I.fr
  refine PySem.W.binop_K (op := op) hF I.ok.mod.kin J J'.type hc hs hf ?_
  refine wpAny_mono (wpAny_call (run_fnR (us := [.ref a, .ref b]) (vs := [.ref a, .ref b]) F hr hx I (.cons rfl (.cons rfl .nil)) q)) (fun w s' z => ?_) fun _ _ x => x
  obtain ⟨z', H', I', rz, qz⟩ := z
  exact SlX.cmpback rz ⟨z', H', I', rz, qz⟩
end
def addR (rs ts : List R) : List R := rs ++ ts.filter fun t => !decide (t ∈ rs)
theorem addR_ok {w : Nat} {rs ts : List R} (h1 : ∀ r ∈ rs, r.ok w) (h2 : ∀ r ∈ ts, r.ok w) : ∀ r ∈ addR rs ts, r.ok w := fun r hr => by
  rcases List.mem_append.mp hr with z | z
  · exact h1 r z
  · exact h2 r (List.mem_filter.mp z).1
theorem addR_nodup {rs ts : List R} (h1 : rs.Nodup) (h2 : ts.Nodup) : (addR rs ts).Nodup := by
  refine List.nodup_append.mpr ⟨h1, h2.filter _, fun a ha b hb e => ?_⟩
  subst e
  have := (List.mem_filter.mp hb).2
  rw [decide_eq_true ha] at this
  cases this
theorem addR_mem {rs ts : List R} {r : R} : r ∈ addR rs ts ↔ r ∈ rs ∨ r ∈ ts := by
  unfold addR
  rw [List.mem_append, List.mem_filter]
  constructor
  · rintro (h | h)
    · exact .inl h
    · exact .inr h.1
  · rintro (h | h)
    · exact .inl h
    · by_cases e : r ∈ rs
      · exact .inl e
      · exact .inr ⟨h, by rw [decide_eq_false e]; rfl⟩
end CC
namespace GF
open PySem PySem.Spec PyProof.Rows L2
section
variable {M : Model} {A : Around} {R : GenEnd} {Y : Protocol} {n : Nat} {s₀ : Shared} {c : Code} {fs : List Frame} {s : Shared} {env : Env} {K : Flow → Sem PySem.Fin} {J : Value → Sem PySem.Fin} {gd : Bool → Bool} {lv : List Value → List Value}
theorem seg_For {tg iter : Expr} {body : List Stmt} {pos : Pos} (hs : ∀ x, foldedSetIterable iter env x = pure x)
    (h : wpAny M (A.over c fs) (eval iter env) (fun x s1 => wpAny M (A.over c fs) (pyIter x) (fun it s2 => ∀ p, Seg M A R Y n s₀ (.forLoop tg it body [] env) (M.den (.forLoop tg it body [] env)) (.ret (fun r => ((match r with | .ok f => (.pure f : Sem Flow) | .error e => .raise e).onRaise (cameBack env)).wrap K J gd lv) none (gd false) (lv []) c p [] :: fs) s2) (fun x s' => Seg M A R Y n s₀ c (J x) fs s') s1) (fun x s' => Seg M A R Y n s₀ c (J x) fs s') s) :
    Seg M A R Y n s₀ c ((exec (.For tg iter body [] pos) env).wrap K J gd lv) fs s := by
  rw [exec_For]
  show Seg M A R Y n s₀ c (.at pos fun _ => (eval iter env >>= fun v => (foldedSetIterable iter env v >>= fun x => (standAt iter.pos >>= fun _ => (holding [x] (pyIter x) >>= fun it => runOwn (.forLoop tg it body [] env) env)))).wrap K J gd lv) fs s
  refine seg_at ?_
  rw [Sem.bind_eq_wrap', Sem.wrap_wrap]
  refine seg_wrap (wpAny_mono h (fun x s1 h1 => ?_) fun _ _ z => z)
  rw [hs x]
  show Seg M A R Y n s₀ c (.at iter.pos fun _ => (holding [x] (pyIter x) >>= fun it => runOwn (.forLoop tg it body [] env) env).wrap K J (gd ∘ id) (lv ∘ id)) fs s1
  refine seg_at ?_
  rw [Sem.bind_eq_wrap', Sem.wrap_wrap]
  refine seg_wrap (wpAny_holding (wpAny_mono h1 (fun it s2 h2 => ?_) fun _ _ z => z))
  exact seg_call h2
end
section
variable {prog : Program} {w : World} {A : Around} {R : GenEnd} {Y : Protocol} {n : Nat} {s₀ : Shared} {fs : List Frame} {s : Shared} {env : Env}
/-- an exception within a loop's turn -/
abbrev Out (env : Env) (e : Value) : Sem PySem.Fin := (do noteFrame e env; theTreesLotGoes e : Sem Unit).wrap (fun _ => .raise e) .raise id id
abbrev Back (tg : Expr) (it : Value) (body : List Stmt) (env : Env) (f : Flow) : Sem PySem.Fin := match f with
  | .next | .cont => .pure (.again (.forLoop tg it body [] env))
  | .brk => .pure (.done .next)
  | .ret v => .pure (.done (.ret v))
theorem seg_forLoop {tg : Expr} {it : Value} {body : List Stmt}
    (h : wpAny (model prog w) (A.over (.forLoop tg it body [] env) fs) (pyNext it) (fun r s1 => match r with
        | none => Seg (model prog w) A R Y n s₀ (.block [] env) ((model prog w).den (.block [] env)) fs s1
        | some v => wpAny (model prog w) (A.over (.forLoop tg it body [] env) fs) (letOwnedTupleGo tg it v) (fun _ s2 =>
            wpAny (model prog w) (A.over (.forLoop tg it body [] env) fs) (assign tg env v) (fun _ s3 =>
              Seg (model prog w) A R Y n s₀ (.forLoop tg it body [] env) ((execs body env).wrap (Back tg it body env) (Out env) id id) fs s3)
              (fun x s' => Seg (model prog w) A R Y n s₀ (.forLoop tg it body [] env) (Out env x) fs s') s2)
            (fun x s' => Seg (model prog w) A R Y n s₀ (.forLoop tg it body [] env) (Out env x) fs s') s1)
      (fun x s' => Seg (model prog w) A R Y n s₀ (.forLoop tg it body [] env) (Out env x) fs s') s) :
    Seg (model prog w) A R Y n s₀ (.forLoop tg it body [] env) ((model prog w).den (.forLoop tg it body [] env)) fs s := by
  show Seg _ A R Y n s₀ _ ((forTurn tg it body [] env).onRaise (fun x => do noteFrame x env; theTreesLotGoes x)) fs s
  have eH : (fun e => ((do noteFrame e env; theTreesLotGoes e : Sem Unit).bind fun _ => (.raise e : Sem PySem.Fin))) = Out env := funext fun e => Sem.bind_eq_wrap _ _
  unfold forTurn
  rw [Sem.onRaise_eq_wrap, eH]
  refine seg_at ?_
  rw [Sem.bind_eq_wrap', Sem.onRaise_eq_wrap]
  show Seg _ A R Y n s₀ _ (Sem.wrap Sem.pure (Out env) id id (Sem.wrap _ Sem.raise id id (Sem.wrap Sem.pure _ id id (pyNext it)))) fs s
  rw [Sem.wrap_wrap, Sem.wrap_wrap]
  refine seg_wrap (wpAny_mono h (fun r s1 h1 => ?_) fun e s' h' => ?_)
  · cases r with
    | none => exact seg_again rfl h1
    | some v =>
      show Seg _ A R Y n s₀ _ (Sem.wrap Sem.pure (Out env) id id (letOwnedTupleGo tg it v >>= fun _ => (assign tg env v >>= fun _ => (execs body env >>= fun f => _)))) fs s1
      rw [Sem.bind_eq_wrap', Sem.wrap_wrap]
      refine seg_wrap (wpAny_mono h1 (fun _ s2 h2 => ?_) fun _ _ z => z)
      rw [Sem.bind_eq_wrap', Sem.wrap_wrap]
      refine seg_wrap (wpAny_mono h2 (fun _ s3 h3 => ?_) fun _ _ z => z)
      rw [Sem.bind_eq_wrap', Sem.wrap_wrap]
      refine Eq.mp (congrArg (fun z => Seg (model prog w) A R Y n s₀ (.forLoop tg it body [] env) z fs s3) (Sem.wrap_congr (execs body env) (K := Back tg it body env) (H := Out env) id id (fun f => ?_) (fun e => rfl))) h3
      cases f <;> rfl
  · exact seg_at h'
end
/-! ### for and if in a generator's body -/
def tGFor (wi : TI) (g : TG) (tb : TGn) : TGn := fun D ys σ H => wi σ H fun J H1 => ∃ W : Nat → Nat → List V → L2.St → Hp → Prop, (∃ m, W 0 m ys σ H1) ∧ ∀ i m ys σ H, W i m ys σ H →
  (J.stop i H ∧ D.nx ys σ H) ∨ (J.go i H ∧ ∃ N : List V → L2.St → Hp → Prop, (∀ ys' σ' H', N ys' σ' H' → ∃ m', m' < m ∧ W (i + 1) m' ys' σ' H') ∧ ∀ x H', J.yld i H x H' → g x σ H' fun σ2 H2 => tb { D with nx := N, ct := N, bk := D.nx } ys σ2 H2)
section
variable {X : Cx}
theorem gs_for {tg iter : Expr} {body : List Stmt} {wi : TI} {g : TG} {tb : TGn} {pos : Pos} (hp : PassesOwn (model X.prog X.w) X.A X.env X.xe) (hc : X.calm = true) (hi : PI X tg iter wi) (hg : PG X tg g) (hb : GSs X body tb)
    (hs : ∀ x, foldedSetIterable iter X.env x = pure x := by intro _; rfl) : GS X (.For tg iter body [] pos) (tGFor wi g tb) := by
  refine ⟨fun A S ip R n ys s₀ c fs K J gd lv s σ H D g1 hn k hI ht => ?_⟩
  obtain ⟨acc0, c0, r0, I0⟩ := hI
  refine seg_For hs ?_
  rw [g1.over]
  refine wpAny_mono (hi.run _ s σ H _ I0 ht) (fun v s1 h1 => wpAny_mono h1 (fun itv s2 h2 p => ?_) fun x s' hx => k.exc n s₀ x s' hx) fun x s' hx => k.exc n s₀ x s' hx
  obtain ⟨it, fp, tn, Jt, H2, e, I2, T, st2, f2, W, ⟨m0, w0⟩, turn⟩ := h2
  subst e
  -- the iterator's own objects lie apart from the consumer's list, whatever stands in it
  have stat : ∀ {acc : Array Value} {cc : Nat} {H' : Hp}, (∀ b ∈ fp, H' b = none) → ∀ b ∈ fp, FpOk X ((S, lstObj acc cc) :: ip) H' b := fun {acc cc H'} hz b hb => by
    obtain ⟨_, z1, z2, z3, z4, z5⟩ := f2 b hb
    refine ⟨hz b hb, z1, z2, z3, z4, fun q hq => ?_⟩
    rcases List.mem_append.mp hq with y | y
    · exact z5 q (List.mem_append_left _ y)
    · rcases List.mem_cons.mp y with y | y
      · rw [y]
        exact z5 (S, lstObj acc0 c0) (List.mem_append_right _ List.mem_cons_self)
      · exact z5 q (List.mem_append_right _ (List.mem_cons_of_mem _ y))
  have gl := fun (kk : Result → Sem PySem.Fin) => gc_loop (k := kk) (c' := .forLoop tg (.ref it) body [] X.env) (l := lv []) (kp := []) (p := p) g1 rfl rfl
  have loop : ∀ (m i n : Nat) (ys : List V) (s₀ s : Shared) (σ : L2.St) (H : Hp) (acc : Array Value) (cc : Nat), n + ys.length = sizeLine → W i m ys σ H → Vals ys acc.toList → Inv X ((S, lstObj acc cc) :: ip) σ H s → tn i s.heap → (∀ b ∈ fp, H b = none) →
      Seg (model X.prog X.w) A R (GY X S) n s₀ (.forLoop tg (.ref it) body [] X.env) ((model X.prog X.w).den (.forLoop tg (.ref it) body [] X.env))
        (.ret (fun r => ((match r with | .ok f => (.pure f : Sem Flow) | .error e => .raise e).onRaise (cameBack X.env)).wrap K J gd lv) none (gd false) (lv []) c p [] :: fs) s := by
    intro m
    induction m using Nat.strongRecOn with
    | ind m ih =>
      intro i n ys s₀ s σ H acc cc hn w r I st fr
      have ee : ∀ (n : Nat) (s₀ : Shared) (x : Value) (s' : Shared), X.xe x s' → Seg (model X.prog X.w) A R (GY X S) n s₀ (.forLoop tg (.ref it) body [] X.env) (Out X.env x)
          (.ret (fun r => ((match r with | .ok f => (.pure f : Sem Flow) | .error e => .raise e).onRaise (cameBack X.env)).wrap K J gd lv) none (gd false) (lv []) c p [] :: fs) s' := fun n s₀ x s' hx => by
        refine seg_wrap ?_
        rw [(gl _).over]
        exact wpAny_bind (wpAny_mono (hp x s' hx) (fun _ s2 hq => wpAny_theTreesLotGoes (seg_leaf (.error x) (seg_cameBack g1 k hq))) fun y s2 hq => seg_leaf (.error y) (seg_cameBack g1 k hq))
      refine seg_forLoop ?_
      rw [(gl _).over]
      rcases turn i m ys σ H w with ⟨stop, qn⟩ | ⟨go, N, hN, step⟩
      · refine wpAny_mono (T.done X rfl rfl rfl hc i _ s σ H X.xe I (stat fr) st stop) (fun q s4 z => ?_) fun x s' hx => ee n s₀ x s' hx
        obtain ⟨rfl, I4⟩ := z
        show Seg _ A R _ n s₀ _ (.pure (.done .next)) _ s4
        exact seg_leaf (.ok .next) (k.ok n ys s₀ s4 .next hn ⟨σ, H, ⟨acc, cc, r, I4⟩, qn⟩)
      · refine wpAny_mono (T.item X rfl rfl rfl hc i _ s σ H X.xe I (stat fr) st go) (fun q s4 z => ?_) fun x s' hx => ee n s₀ x s' hx
        obtain ⟨u, rfl, h4⟩ := z
        refine wpAny_mono h4 (fun _ s5 z => ?_) fun x s' hx => ee n s₀ x s' hx
        obtain ⟨x, H5, I5, r5, y5, st5, fr5⟩ := z
        have I5p := I5.pinned (stat fr5) (T.obj _ _ st5)
        refine wpAny_mono (hg.run _ s5 σ H5 x u _ I5p r5 (step x H5 y5)) (fun _ s6 z => ?_) fun x s' hx => ee n s₀ x s' hx
        obtain ⟨σ6, H6, I6, q6⟩ := z
        have gb : GC X S (ip ++ pinsAt fp s5.heap) A (.forLoop tg (.ref it) body [] X.env) (.ret (fun r => ((match r with | .ok f => (.pure f : Sem Flow) | .error e => .raise e).onRaise (cameBack X.env)).wrap K J gd lv) none (gd false) (lv []) c p [] :: fs) id := by
          obtain ⟨a1, a2, a3, a4, a5, a6, a7⟩ := gl (fun r => ((match r with | .ok f => (.pure f : Sem Flow) | .error e => .raise e).onRaise (cameBack X.env)).wrap K J gd lv)
          refine ⟨a1, fun q hq => ?_, a3, a4, a5, a6, a7⟩
          rcases List.mem_append.mp hq with y | y
          · exact a2 q y
          · obtain ⟨hb, _⟩ := of_pinsAt y
            obtain ⟨_, _, _, _, _, z5⟩ := f2 _ hb
            exact (z5 (S, lstObj acc0 c0) (List.mem_append_right _ List.mem_cons_self)).symm
        have back : ∀ {acc7 : Array Value} {c7 : Nat} {σ7 : L2.St} {H7 : Hp} {s7 : Shared}, Inv X ((S, lstObj acc7 c7) :: (ip ++ pinsAt fp s5.heap)) σ7 H7 s7 → Inv X ((S, lstObj acc7 c7) :: ip) σ7 H7 s7 ∧ tn (i + 1) s7.heap ∧ ∀ b ∈ fp, H7 b = none := fun {acc7 c7 σ7 H7 s7} I7 => by
          have pin : ∀ b ∈ fp, ∀ o, s5.heap.get? b = some o → s7.heap.get? b = some o ∧ H7 b = none := fun b hb o e => by
            have z := I7.pin (b, o) (List.mem_append_right _ (List.mem_cons_of_mem _ (List.mem_append_right _ (mem_pinsAt hb e))))
            exact ⟨z.1, z.2.1⟩
          refine ⟨Inv.unpinned (pins := (S, lstObj acc7 c7) :: ip) (pl := pinsAt fp s5.heap) I7, T.keep _ _ _ st5 fun b hb o e => (pin b hb o e).1, fun b hb => ?_⟩
          obtain ⟨o, e, _⟩ := T.obj _ _ st5 b hb
          exact (pin b hb o e).2
        refine hb.run A S (ip ++ pinsAt fp s5.heap) R n ys s₀ _ _ _ _ id id s6 σ6 H6 { D with nx := N, ct := N, bk := D.nx } gb hn ⟨fun n7 ys7 s07 s7 f hn7 z => ?_, fun n7 s07 x s7 hx => ee n7 s07 x s7 hx⟩ ⟨acc, cc, r, I6⟩ q6
        cases f with
        | next =>
          obtain ⟨σ7, H7, ⟨acc7, c7, r7, I7⟩, n7'⟩ := z
          obtain ⟨m', hm, w7⟩ := hN ys7 σ7 H7 n7'
          obtain ⟨b1, b2, b3⟩ := back I7
          exact seg_again rfl (ih m' hm (i + 1) n7 ys7 s07 s7 σ7 H7 acc7 c7 hn7 w7 r7 b1 b2 b3)
        | cont =>
          obtain ⟨σ7, H7, ⟨acc7, c7, r7, I7⟩, n7'⟩ := z
          obtain ⟨m', hm, w7⟩ := hN ys7 σ7 H7 n7'
          obtain ⟨b1, b2, b3⟩ := back I7
          exact seg_again rfl (ih m' hm (i + 1) n7 ys7 s07 s7 σ7 H7 acc7 c7 hn7 w7 r7 b1 b2 b3)
        | brk =>
          obtain ⟨σ7, H7, ⟨acc7, c7, r7, I7⟩, q7⟩ := z
          exact seg_leaf (.ok .next) (k.ok n7 ys7 s07 s7 .next hn7 ⟨σ7, H7, ⟨acc7, c7, r7, (back I7).1⟩, q7⟩)
        | ret v =>
          obtain ⟨x7, σ7, H7, ⟨acc7, c7, r7, I7⟩, rv, q7⟩ := z
          exact seg_leaf (.ok (.ret v)) (k.ok n7 ys7 s07 s7 (.ret v) hn7 ⟨x7, σ7, H7, ⟨acc7, c7, r7, (back I7).1⟩, rv, q7⟩)
  exact loop m0 0 n ys s₀ s2 σ H2 acc0 c0 hn w0 r0 I2 st2 fun b hb => (f2 b hb).1
def tGIf (tc : TT) (t u : TGn) : TGn := fun D ys σ H => tc σ H fun b H1 => if b = true then t D ys σ H1 else u D ys σ H1
theorem gs_if {test : Expr} {body orelse : List Stmt} {tc : TT} {t u : TGn} {pos : Pos} (hc : PT X test tc) (ha : GSs X body t) (hb : GSs X orelse u) : GS X (.If test body orelse pos) (tGIf tc t u) := by
  refine ⟨fun A S ip R n ys s₀ c fs K J gd lv s σ H D g1 hn k hI ht => ?_⟩
  obtain ⟨acc, cc, r, I⟩ := hI
  show Seg _ A R _ n s₀ c (.at pos fun _ => (isTrue test X.env (eval test X.env) >>= fun b => if b = true then execs body X.env else execs orelse X.env).wrap K J gd lv) fs s
  refine seg_at ?_
  rw [Sem.bind_eq_wrap', Sem.wrap_wrap]
  refine seg_wrap ?_
  rw [g1.over]
  refine wpAny_mono (hc.run _ s σ H _ I ht) (fun b s1 z => ?_) fun x s' hx => k.exc n s₀ x s' hx
  obtain ⟨H1, I1, q1⟩ := z
  cases b with
  | true =>
    rw [if_pos rfl] at q1
    exact ha.run A S ip R n ys s₀ c fs K J gd lv s1 σ H1 D g1 hn k ⟨acc, cc, r, I1⟩ q1
  | false =>
    rw [if_neg Bool.false_ne_true] at q1
    exact hb.run A S ip R n ys s₀ c fs K J gd lv s1 σ H1 D g1 hn k ⟨acc, cc, r, I1⟩ q1
end
end GF
namespace CC
open PySem L2 GF
abbrev sFol : Stmt := tp 50
/-- what follows, ascending -/
def folL (F : R → Bool) (w : Nat) : List R := (allR w).filter F
def FIs (F : R → Bool) (w : Nat) (rs : List R) : Prop := ∀ r, r.ok w → (F r = true ↔ Fol rs r)
theorem fol_congr {F G : R → Bool} {w : Nat} {rs : List R} (h1 : FIs F w rs) (h2 : FIs G w rs) : folL F w = folL G w := by
  unfold folL
  refine List.filter_congr fun r hr => ?_
  have ok := mem_allR.mp hr
  exact Bool.eq_iff_iff.mpr ((h1 r ok).trans (h2 r ok).symm)
theorem folL_mem {F : R → Bool} {w : Nat} {rs : List R} (h : FIs F w rs) {r : R} : r ∈ folL F w ↔ r.ok w ∧ Fol rs r := by
  unfold folL
  rw [List.mem_filter, mem_allR]
  exact ⟨fun z => ⟨z.1, (h r z.1).mp z.2⟩, fun z => ⟨z.1, (h r z.1).mpr z.2⟩⟩
def spFolG (K : PySem.W.Frag) (C : Addr) : SpG := fun vs H Q _ => ∃ (x : Addr) (w : Nat) (rs : List R), vs = [.ref x] ∧ RulesAt K C H x w rs ∧ (∀ r ∈ rs, r.ok w) ∧ w ≤ 6 ∧ rs.length ≤ 60 ∧ ∀ (us : List V) (F : R → Bool) (H' : Hp), Same H H' → DpAll K H' us ((folL F w).map R.d) → FIs F w rs → Q us H'
/-- a generator def that keeps a promise -/
structure CalY (P : Program) (w : World) (K : PySem.W.Frag) (mg : Str → Option Value) (base : Heap) (x : Str) (ps : List Str) (sp : SpG) (l : Nat) where
  f : Addr
  fd : FuncData
  ok : ∀ k, l ≤ k → GFn P w K mg base k f fd ps sp
  kp : PySem.W.keepIn K (.ref f) = true
  b : Binds K fd ps []
  g : mg x = some (.ref f)
def calY {P : Program} {w : World} {K : PySem.W.Frag} {mg : Str → Option Value} {base : Heap} {x : Str} {st : Stmt} {ps : List Str} {sp : SpG} {l : Nat} (d : Df K mg x st ps) (h : ∀ k, GFn P w K mg base (k + l) d.f d.fd ps sp) : CalY P w K mg base x ps sp l :=
  ⟨d.f, d.fd, fun k hk => (Nat.sub_add_cancel hk) ▸ h (k - l), d.F.kp, d.b, d.g⟩
theorem pass0X {X : Cx} : Passes (CX X.prog X.w) X E0 := fun _ _ _ _ _ _ _ h => by
  obtain ⟨_, _, _, _, _, _, _, _, _, _, _, _, z⟩ := h
  exact z.elim
theorem nostop0 {K : PySem.W.Frag} : NoStop K E0 := fun _ _ _ h => h.elim
theorem for_listG {K : PySem.W.Frag} {a : Addr} {xs : List V} {g : TG} {tb : TGn} {D : GEnds} {ys : List V} {σ : L2.St} {H : Hp} (Pv : Nat → List V → L2.St → Hp → Prop) (h0 : Pv 0 ys σ H) (hl : ∀ i ys σ H, i ≤ xs.length → Pv i ys σ H → SqL K H a xs)
    (hs : ∀ i x ys σ H, xs[i]? = some x → Pv i ys σ H → g x σ H fun σ2 H2 => tb { D with nx := Pv (i + 1), ct := Pv (i + 1), bk := D.nx } ys σ2 H2) (hd : ∀ ys σ H, Pv xs.length ys σ H → D.nx ys σ H) :
    ∃ W : Nat → Nat → List V → L2.St → Hp → Prop, (∃ m, W 0 m ys σ H) ∧ ∀ i m ys σ H, W i m ys σ H →
      ((Itl K a).stop i H ∧ D.nx ys σ H) ∨ ((Itl K a).go i H ∧ ∃ N : List V → L2.St → Hp → Prop, (∀ ys' σ' H', N ys' σ' H' → ∃ m', m' < m ∧ W (i + 1) m' ys' σ' H') ∧ ∀ x H', (Itl K a).yld i H x H' → g x σ H' fun σ2 H2 => tb { D with nx := N, ct := N, bk := D.nx } ys σ2 H2) := by
  refine ⟨fun i m ys σ H => m = xs.length - i ∧ i ≤ xs.length ∧ Pv i ys σ H, ⟨xs.length, by simp, Nat.zero_le _, h0⟩, ?_⟩
  rintro i m ys σ H ⟨rfl, hi, p⟩
  have q := hl i ys σ H hi p
  by_cases lt : i < xs.length
  · refine .inr ⟨⟨xs, xs[i], q, by simp [lt]⟩, Pv (i + 1), fun ys' σ' H' p' => ⟨xs.length - (i + 1), by omega, rfl, lt, p'⟩, fun x H' y => ?_⟩
    obtain ⟨e, y⟩ := y
    subst e
    exact hs i x ys σ _ (y xs q) p
  · have e : i = xs.length := by omega
    subst e
    exact .inl ⟨⟨xs, q, Nat.le_refl _⟩, hd ys σ H p⟩
theorem for_tupG {K : PySem.W.Frag} {a : Addr} {xs : List V} {g : TG} {tb : TGn} {D : GEnds} {ys : List V} {σ : L2.St} {H : Hp} (Pv : Nat → List V → L2.St → Hp → Prop) (h0 : Pv 0 ys σ H) (hl : ∀ i ys σ H, i ≤ xs.length → Pv i ys σ H → SqT K H a xs)
    (hs : ∀ i x ys σ H, xs[i]? = some x → Pv i ys σ H → g x σ H fun σ2 H2 => tb { D with nx := Pv (i + 1), ct := Pv (i + 1), bk := D.nx } ys σ2 H2) (hd : ∀ ys σ H, Pv xs.length ys σ H → D.nx ys σ H) :
    ∃ W : Nat → Nat → List V → L2.St → Hp → Prop, (∃ m, W 0 m ys σ H) ∧ ∀ i m ys σ H, W i m ys σ H →
      ((Itt K a).stop i H ∧ D.nx ys σ H) ∨ ((Itt K a).go i H ∧ ∃ N : List V → L2.St → Hp → Prop, (∀ ys' σ' H', N ys' σ' H' → ∃ m', m' < m ∧ W (i + 1) m' ys' σ' H') ∧ ∀ x H', (Itt K a).yld i H x H' → g x σ H' fun σ2 H2 => tb { D with nx := N, ct := N, bk := D.nx } ys σ2 H2) := by
  refine ⟨fun i m ys σ H => m = xs.length - i ∧ i ≤ xs.length ∧ Pv i ys σ H, ⟨xs.length, by simp, Nat.zero_le _, h0⟩, ?_⟩
  rintro i m ys σ H ⟨rfl, hi, p⟩
  have q := hl i ys σ H hi p
  by_cases lt : i < xs.length
  · refine .inr ⟨⟨xs, xs[i], q, by simp [lt]⟩, Pv (i + 1), fun ys' σ' H' p' => ⟨xs.length - (i + 1), by omega, rfl, lt, p'⟩, fun x H' y => ?_⟩
    obtain ⟨e, y⟩ := y
    subst e
    exact hs i x ys σ _ (y xs q) p
  · have e : i = xs.length := by omega
    subst e
    exact .inl ⟨⟨xs, q, Nat.le_refl _⟩, hd ys σ H p⟩
theorem for_rangeG {lo : Int} {n : Nat} {g : TG} {tb : TGn} {D : GEnds} {ys : List V} {σ : L2.St} {H : Hp} (Pv : Nat → List V → L2.St → Hp → Prop) (h0 : Pv 0 ys σ H)
    (hs : ∀ i ys σ H, i < n → Pv i ys σ H → g (.int (lo + i)) σ H fun σ2 H2 => tb { D with nx := Pv (i + 1), ct := Pv (i + 1), bk := D.nx } ys σ2 H2) (hd : ∀ ys σ H, Pv n ys σ H → D.nx ys σ H) :
    ∃ W : Nat → Nat → List V → L2.St → Hp → Prop, (∃ m, W 0 m ys σ H) ∧ ∀ i m ys σ H, W i m ys σ H →
      ((Itr lo n).stop i H ∧ D.nx ys σ H) ∨ ((Itr lo n).go i H ∧ ∃ N : List V → L2.St → Hp → Prop, (∀ ys' σ' H', N ys' σ' H' → ∃ m', m' < m ∧ W (i + 1) m' ys' σ' H') ∧ ∀ x H', (Itr lo n).yld i H x H' → g x σ H' fun σ2 H2 => tb { D with nx := N, ct := N, bk := D.nx } ys σ2 H2) := by
  refine ⟨fun i m ys σ H => m = n - i ∧ i ≤ n ∧ Pv i ys σ H, ⟨n, by simp, Nat.zero_le _, h0⟩, ?_⟩
  rintro i m ys σ H ⟨rfl, hi, p⟩
  by_cases lt : i < n
  · refine .inr ⟨lt, Pv (i + 1), fun ys' σ' H' p' => ⟨n - (i + 1), by omega, rfl, lt, p'⟩, fun x H' y => ?_⟩
    obtain ⟨e1, e2⟩ := y
    subst e1 e2
    exact hs i ys σ _ lt p
  · have e : i = n := by omega
    subst e
    exact .inl ⟨Nat.le_refl _, hd ys σ H p⟩
section
variable {P : Program} {w : World} {K : PySem.W.Frag} {mg : Str → Option Value} {base : Heap} {kA : Addr}
abbrev nFol : List Str := ["rules", "kind", "pairs", "a", "b"]
theorem scFol : GScope nFol ["rules"] (defScope sFol) := ⟨rfl, rfl, rfl, by decide +kernel, rfl, by decide +kernel, by decide +kernel⟩
theorem ok_fol {f C : Addr} {fd : FuncData} {k : Nat} (F : Fun K "following" "following" sFol f fd) (T : Glb K mg kA) (TC : Txt1 K mg C) (pW : Prp P w K mg base C "width" "span") (pR : Prp P w K mg base C "rules" "given") (cK : Cal P w K mg base "check_rules" ["rules"] (spChk K C) 1) (cL : Cal P w K mg base "links" ["width", "rules", "kind"] (spLinks K) 3) (cR : Cal P w K mg base "reached" ["pairs", "start"] (spReached K) 2) : GFn P w K mg base (k + 4) f fd ["rules"] (spFolG K C) := by
  have GK := cK.ok (k + 3) (by omega)
  have GL := cL.ok (k + 3) (by omega)
  have GR := cR.ok (k + 3) (by omega)
  obtain ⟨oc, od, kV, doc, pm, an, cdv, ct, osl, rfl, lk, hcd⟩ := F.ex
  refine gfn_of lk hcd scFol (fun vs H Q E h => ?_) (fun A outer s H vs Q E pn hr h => ?_)
  · obtain ⟨x, w, rs, rfl, _⟩ := h
    rfl
  · obtain ⟨x, w, rs, rfl, ra, ho, hw, hl, q⟩ := h
    obtain ⟨dx, g, us, h1, h2, h3⟩ := id ra
    have n := scFol.nd
    refine ⟨_, gss_cons (gs_ps (ps_expr (pe_call GK hr rfl cK.g cK.kp cK.b .nil pass0 (pa_cons (pv 0) pa_nil))))
      (gss_cons (gs_for owns_gcx rfl (pi_tup (pe_glob (v := .ref kA) rfl T.knd rfl)) (pg_name (i := 1) n rfl (.inl rfl))
        (gss_cons (gs_ps (ps_set (i := 2) n rfl (.inl rfl) (pe_call GL hr rfl cL.g cL.kp cL.b .nil pass0 (pa_cons (pe_prop (pv 0) TC.cl pW.hp (pW.ok (k + 2) (by omega)) hr pW.b .nil pass0 rfl) (pa_cons (pe_prop (pv 0) TC.cl pR.hp (pR.ok (k + 2) (by omega)) hr pR.b .nil pass0 rfl) (pa_cons (pv 1) pa_nil))))))
        (gss_cons (gs_for owns_gcx rfl (pi_range1 (by rfl) T.rng (pa_cons (pe_prop (pv 0) TC.cl pW.hp (pW.ok (k + 2) (by omega)) hr pW.b .nil pass0 rfl) pa_nil)) (pg_name (i := 3) n rfl (.inl rfl))
          (gss_cons (gs_for owns_gcx rfl (pi_list (pe_call GR hr rfl cR.g cR.kp cR.b .nil pass0 (pa_cons (pv 2) (pa_cons (pv 3) pa_nil)))) (pg_name (i := 4) n rfl (.inl rfl))
            (gss_cons (gs_if (pt_cmpR op_ne (pv 3) (pv 4) (nomark _)) (gss_cons (gs_yield (pe_tup (pa_cons (pv 1) (pa_cons (pv 3) (pa_cons (pv 4) pa_nil))))) gss_nil) gss_nil) gss_nil)) gss_nil)) gss_nil))) gss_nil), ?_⟩
    obtain ⟨F, hF⟩ : ∃ F : R → Bool, ∀ r, F r = true ↔ Fol rs r := by
      classical
      exact ⟨fun r => decide (Fol rs r), fun r => decide_eq_true_iff⟩
    have hk : ∀ H, SqT K H kA [.str "settles", .str "within"] := fun H => .inr T.kseq
    have ew : ((w : Nat) : Int).toNat = w := by omega
    refine ⟨_, rfl, x, w, rs, rfl, ra, ?_⟩
    refine ⟨kA, rfl, ⟨_, hk _⟩, ?_⟩
    refine for_tupG (xs := [.str "settles", .str "within"]) (fun i ys σ H' => ∃ y1 y2 y3 y4, σ = [some (.ref x), y1, y2, y3, y4] ∧ Same H H' ∧ DpAll K H' ys ((([true, false].take i).flatMap fun k => (List.range w).flatMap fun a => (row w a k).filter F).map R.d) ∧ ys.length ≤ 36 * i)
      ⟨none, none, none, none, rfl, Same.refl _, .nil, Nat.zero_le _⟩ (fun i ys σ H' _ _ => hk _) ?_ ?_
    · rintro i v ys σ H1 hv ⟨y1, y2, y3, y4, rfl, s1, dy, yl⟩
      obtain ⟨kk, rfl, hi, tk⟩ : ∃ kk : Bool, v = .str (kd kk) ∧ i < 2 ∧ [true, false].take (i + 1) = [true, false].take i ++ [kk] := by
        match i, hv with
        | 0, hv =>
          simp at hv
          exact ⟨true, hv.symm, by decide, rfl⟩
        | 1, hv =>
          simp at hv
          exact ⟨false, hv.symm, by decide, rfl⟩
        | n + 2, hv => simp at hv
      rw [tk, List.flatMap_append]
      generalize ([true, false].take i).flatMap (fun k => (List.range w).flatMap fun a => (row w a k).filter F) = pre at dy
      -- pairs
      refine ⟨_, rfl, x, dx, _, rfl, s1 _ _ h1, x, dx, _, _, rfl, s1 _ _ h1, flds_span _ _, ?_⟩
      refine ⟨_, rfl, x, dx, _, rfl, s1 _ _ h1, x, dx, _, _, rfl, s1 _ _ h1, flds_given _ _, ?_⟩
      refine ⟨_, rfl, w, g, us, rs, kk, rfl, .inl (.inl (s1 _ _ h2)), dps_same s1 _ _ h3, ho, hw, hl, fun p pu ps H2 s2 np hp dps hps pl => ?_⟩
      have dps2 : DpAll K H2 pu (ps.map prd) := dps_same (wo_le p) _ _ dps
      have plt : ∀ z ∈ ps, z.1 < w ∧ z.2 < w := fun z hz => by
        obtain ⟨z1, z2⟩ := z
        have hz := (hps z1 z2).mp hz
        rcases hz with hz | ⟨hz, _⟩
        · exact ⟨(ho _ hz).1, (ho _ hz).2.1⟩
        · exact ⟨(ho _ hz).2.1, (ho _ hz).1⟩
      have plt6 : ∀ z ∈ ps, z.1 < 6 ∧ z.2 < 6 := fun z hz => ⟨Nat.lt_of_lt_of_le (plt z hz).1 hw, Nat.lt_of_lt_of_le (plt z hz).2 hw⟩
      have s12 := s1.trans s2
      -- for a in range(rules.width)
      refine ⟨_, rfl, x, dx, _, rfl, s12 _ _ h1, x, dx, _, _, rfl, s12 _ _ h1, flds_span _ _, ?_⟩
      refine ⟨_, rfl, by omega, by omega, ?_⟩
      refine for_rangeG (lo := 0) (n := ((w : Nat) : Int).toNat) (fun a ys σ H' => ∃ y3 y4, σ = [some (.ref x), some (.str (kd kk)), some (.ref p), y3, y4] ∧ Same H2 H' ∧ DpAll K H' ys ((pre ++ (List.range a).flatMap fun a => (row w a kk).filter F).map R.d) ∧ ys.length ≤ 36 * i + 6 * a)
        ⟨y3, y4, rfl, Same.refl _, by rw [List.range_zero, List.flatMap_nil, List.append_nil]; exact dps_same s2 _ _ dy, by omega⟩ ?_ ?_
      · rintro a ys σ H3 ha ⟨y3, y4, rfl, s3, dy3, yl3⟩
        have aw : a < w := by omega
        rw [Int.zero_add]
        refine ⟨_, rfl, _, rfl, p, pu, ps, a, rfl, SqL.of (s3 _ _ hp), dps_same s3 _ _ dps2, plt6, by omega, by omega, fun pr fs H4 s4 npr hpr hfs hsr => ⟨pr, rfl, ⟨_, SqL.of hpr⟩, ?_⟩⟩
        have fs_is : fs = (List.range w).filter (fun b => F ⟨kk, a, b⟩) := by
          refine inc_eq hsr (List.Pairwise.filter _ List.pairwise_lt_range) fun b => ?_
          rw [List.mem_filter, List.mem_range, hF, hfs]
          constructor
          · intro z
            exact ⟨Rch.lt plt aw z, (rch_rt hps).mp z⟩
          · rintro ⟨_, z⟩
            exact (rch_rt hps).mpr z
        have fl : fs.length ≤ 6 := by
          rw [fs_is]
          have := List.length_filter_le (fun b => F ⟨kk, a, b⟩) (List.range w)
          rw [List.length_range] at this
          omega
        refine for_listG (xs := nms fs) (fun j ys σ H' => ∃ y4, σ = [some (.ref x), some (.str (kd kk)), some (.ref p), some (.int (a : Int)), y4] ∧ Same H4 H' ∧ DpAll K H' ys (((pre ++ (List.range a).flatMap fun a => (row w a kk).filter F) ++ (((fs.take j).filter fun b => decide (a ≠ b)).map fun b => (⟨kk, a, b⟩ : R))).map R.d) ∧ ys.length ≤ 36 * i + 6 * a + j)
          ⟨y4, rfl, Same.refl _, by rw [List.take_zero, List.filter_nil, List.map_nil, List.append_nil]; exact dps_same s4 _ _ dy3, by omega⟩ (fun j ys σ H' _ ⟨_, _, z, _⟩ => SqL.of (z _ _ hpr)) ?_ ?_
        · rintro j v ys σ H5 hv ⟨y4, rfl, s5, dy5, yl5⟩
          obtain ⟨b, hb, rfl⟩ : ∃ b, fs[j]? = some b ∧ v = .int (b : Int) := by
            rw [nms, List.getElem?_map] at hv
            cases z : fs[j]? with
            | none => rw [z] at hv; cases hv
            | some m => rw [z] at hv; exact ⟨m, rfl, (Option.some.inj hv).symm⟩
          have jl : j < fs.length := (List.getElem?_eq_some_iff.mp hb).1
          refine ⟨_, rfl, _, rfl, rfl, _, rfl, ?_⟩
          rw [take1 hb, List.filter_append]
          by_cases e : a = b
          · have e1 : (!decide (V.int (a : Int) = V.int (b : Int))) = false := by rw [e]; simp
            rw [e1, List.filter_cons_of_neg (p := fun b => decide (a ≠ b)) (by simp [e]), List.filter_nil, List.append_nil]
            exact iteF ⟨_, rfl, s5, dy5, by omega⟩
          · have e1 : (!decide (V.int (a : Int) = V.int (b : Int))) = true := by
              rw [decide_eq_false (fun q => e (by injection q with q; omega))]
              rfl
            rw [e1, List.filter_cons_of_pos (p := fun b => decide (a ≠ b)) (decide_eq_true e), List.filter_nil]
            refine iteT ⟨small1000 (by omega), ?_⟩
            refine ⟨_, rfl, _, rfl, _, rfl, (by show 3 ≤ sizeLine; decide), fun t nt => ?_⟩
            refine ⟨_, rfl, s5.trans (same_new nt), ?_, by rw [List.length_append]; simp only [List.length_singleton]; omega⟩
            rw [List.map_append (f := fun b => (⟨kk, a, b⟩ : R)), ← List.append_assoc, List.map_append]
            exact dps_app (dps_same (same_new nt) _ _ dy5) (dps_one (r_dp (r := ⟨kk, a, b⟩) (.inl (.inl upd_same))))
        · rintro ys σ H5 ⟨y4, rfl, s5, dy5, yl5⟩
          rw [nms_len, List.take_length] at dy5
          refine ⟨_, _, rfl, s3.trans (s4.trans s5), ?_, by rw [nms_len] at yl5; omega⟩
          have er : (row w a kk).filter F = (fs.filter fun b => decide (a ≠ b)).map fun b => (⟨kk, a, b⟩ : R) := by
            rw [fs_is, List.filter_filter]
            unfold row
            rw [List.filter_map, List.filter_filter]
            congr 1
            refine List.filter_congr fun b _ => ?_
            rw [Bool.and_comm]
            rfl
          rw [List.range_succ, List.flatMap_append, List.flatMap_cons, List.flatMap_nil, List.append_nil, ← List.append_assoc, er]
          exact dy5
      · rintro ys σ H3 ⟨y3, y4, rfl, s3, dy3, yl3⟩
        rw [ew] at dy3 yl3
        refine ⟨_, _, _, _, rfl, s12.trans s3, ?_, by omega⟩
        rw [List.flatMap_cons, List.flatMap_nil, List.append_nil]
        exact dy3
    · rintro ys σ H1 ⟨y1, y2, y3, y4, rfl, s1, dy, yl⟩
      refine q ys F H1 s1 ?_ fun r _ => hF r
      have ef : folL F w = ([true, false].take 2).flatMap fun k => (List.range w).flatMap fun a => (row w a k).filter F := by
        unfold folL allR
        simp only [List.filter_flatMap]
        rfl
      rw [ef]
      exact dy
end
end CC
namespace CC
open PySem PySem.Spec PyProof.Rows L2
abbrev sAdd : Stmt := inClass (tp 40) 8
def spAdd (K : PySem.W.Frag) (C : Addr) : Sp := fun vs H Q _ => ∃ (x y : Addr) (w : Nat) (rs ts : List R), vs = [.ref x, .ref y] ∧ RulesAt K C H x w rs ∧ RulesAt K C H y w ts ∧ 1 ≤ w ∧ w ≤ 6 ∧ (∀ r ∈ rs, r.ok w) ∧ (∀ r ∈ ts, r.ok w) ∧ rs.Nodup ∧ ts.Nodup ∧
  ∀ (z : Addr) (H' : Hp), Same H H' → H z = none → RulesAt K C H' z w (addR rs ts) → Q (.ref z) H'
/-- rules + rules -/
structure AddR (P : Program) (w : World) (K : PySem.W.Frag) (mg : Str → Option Value) (base : Heap) (C : Addr) (l : Nat) where
  fA : Addr
  sf : PySem.W.selfFirst K C = true
  fi : PySem.W.findIn K (.ref C) "__add__" = some (some (.ref fA))
  fn : PySem.W.isFn K (.ref fA) = true
  ok : ∀ k, l ≤ k → FnR P w K mg base CX0 k fA (spAdd K C)
section
variable {P : Program} {w : World} {K : PySem.W.Frag} {mg : Str → Option Value} {base : Heap} {kA : Addr}
abbrev nAd : List Str := ["self", "other", "added", "joined", "rule"]
theorem scAdd : FnScope nAd ["self", "other"] (defScope sAdd) := ⟨rfl, rfl, rfl, by decide +kernel, rfl, by decide +kernel, by decide +kernel⟩
theorem ok_add {f C : Addr} {fd : FuncData} {k : Nat} (F : Fun K "__add__" "Rules.__add__" sAdd f fd) (T : Glb K mg kA) (TC : Txt1 K mg C) (ic : C8.InsC K C) (m : MakeR P w K mg base C 4) : FnOk P w K mg base CX0 (k + 6) f fd ["self", "other"] (spAdd K C) := by
  have GN := m.ok (k + 4) (by omega)
  refine F.ok scAdd (fun vs H Q E h => ?_) (fun cdv A outer s H vs Q E hr h => ?_)
  · obtain ⟨x, y, w, rs, ts, rfl, _⟩ := h
    rfl
  · obtain ⟨x, y, w, rs, ts, rfl, ⟨dx, g, us, h1, h2, h3⟩, ⟨dy, g', us', h1', h2', h3'⟩, w1, w6, ho, ho', nd, nd', q⟩ := h
    have n := scAdd.nd
    have hu65 : (A.deeper (PyProof.Rows.envOfC (Str.ofString "Rules.__add__") (defScope sAdd) s.heap.objs.size f cdv)).units + 65 < cLine := by
      have := hr.un
      omega
    refine ⟨_, (pss_cons (ps_if (pt_not (pt_val (pe_callB (C8.call_isC ic) (by rfl) T.isi (by decide +kernel) (pa_cons (pv 1) (pa_cons (pe_glob (v := .ref C) rfl TC.mgC rfl) pa_nil))))) (pss_one ps_never) pss_nil)
      (pss_cons (ps_if (pt_cmpR op_ne (pe_fld (pv 0) rfl) (pe_fld (pv 1) rfl) (nomark _)) (pss_one ps_never) pss_nil)
      (pss_cons (ps_setLc (i := 2) (own := [("rule", 4)]) (g := gName 4) (tt := tTest (tOp (rNotInDT K) (tVar 4) (tFld K (tVar 0) "given"))) rfl n rfl rfl (sw_true rfl rfl rfl (by decide +kernel)) (pi_tup (pe_fld (pv 1) rfl)) (blkOk_by (N := nAd) (sc := defScope sAdd) (by decide +kernel))
        (fun _ _ _ _ _ => (pg_name (i := 4) n rfl (.inl rfl))) (fun _ _ _ _ _ => pts_one (pt_cmpR (op_notInDT hu65) (pv 4) (pe_fld (pv 0) rfl) (by rfl))) (fun _ _ _ _ _ => (pv 4)))
      (pss_cons (ps_set (i := 3) n rfl (.inl rfl) (pe_lst (StX.pa_star (pe_fld (pv 0) rfl) (StX.pa_star (pv 2) pa_nil))))
      (pss_one (ps_ret (pe_makeRS m.M GN hr rfl TC.mgC pass0 (pa_cons (pe_fld (pv 0) rfl) (StX.pa_star (pv 3) pa_nil))))))))), ?_⟩
    have rl := few_rules w6 ho nd
    have rl' := few_rules w6 ho' nd'
    have ul : us.length = rs.length := by rw [dps_len h3, List.length_map]
    have ul' : us'.length = ts.length := by rw [dps_len h3', List.length_map]
    refine ⟨_, rfl, y, dy, _, rfl, h1', _, rfl, iteF ?_⟩
    refine ⟨_, rfl, x, C, dx, _, _, rfl, h1, TC.cl, TC.nS, flds_span _ _, _, rfl, y, C, dy, _, _, rfl, h1', TC.cl, TC.nS, flds_span _ _, rfl, _, rfl, ?_⟩
    rw [show (!decide (V.int (w : Int) = V.int (w : Int))) = false by simp]
    refine iteF ?_
    refine ⟨_, rfl, y, C, dy, _, _, rfl, h1', TC.cl, TC.nG, flds_given _ _, g', rfl, ⟨_, .inl (.inl h2')⟩, fun D nD => ?_⟩
    refine lc_tup (xs := us') (fun i H1 => MadeF R.d K H D i H1 ((ts.take i).filter fun t => !decide (t ∈ rs))) MadeF.start (fun i H1 _ z => .inl (.inl (z.old nD _ _ h2'))) ?_ ?_
    · rintro i v H1 hv mo
      obtain ⟨r, hr2, dr⟩ := dps_rat h3' hv
      have il : i < ts.length := (List.getElem?_eq_some_iff.mp hr2).1
      have o := mo.old nD
      obtain ⟨uo, _, hDo, _⟩ := id mo
      refine ⟨rfl, _, rfl, _, rfl, x, C, dx, _, _, rfl, o _ _ h1, TC.cl, TC.nG, flds_given _ _, r.d, rs.map R.d, dp_same o _ _ dr, .tup (.inl (.inl (o _ _ h2))) (dps_same o _ _ h3), rd_shaped _, rds_shaped _, _, rfl, ?_⟩
      rw [rds_any, SG.take_one hr2, List.filter_append]
      by_cases e : r ∈ rs
      · rw [decide_eq_true e, List.filter_cons_of_neg (by rw [decide_eq_true e]; decide), List.filter_nil, List.append_nil]
        exact iteF (mo.keep (Same.refl _) (by omega) rfl)
      · rw [decide_eq_false e, List.filter_cons_of_pos (by rw [decide_eq_false e]; rfl), List.filter_nil]
        refine iteT ⟨_, rfl, ?_⟩
        exact mo.push (r := r) (m := i + 1) (by omega) (Nat.lt_succ_self _) (Same.refl _) (rd_T ((same_T o).trans (wo_T hDo)) dr)
    rintro H1 mo
    have o := mo.old nD
    rw [ul', List.take_length] at mo
    obtain ⟨uo, _, hDo, dDo, ulo⟩ := mo
    refine ⟨_, rfl, x, C, dx, _, _, rfl, o _ _ h1, TC.cl, TC.nG, flds_given _ _, g, us, rfl, .inl (.inl (.inl (o _ _ h2))), _, rfl, D, uo, rfl, .inr (SqL.of hDo), ?_⟩
    refine ⟨?_, fun jo njo => ?_⟩
    · rw [List.append_nil, List.length_append]
      exact Nat.le_of_lt (small1000 (by omega))
    rw [List.append_nil]
    have s2 : Same H1 (upd H1 jo (.lst (us ++ uo))) := same_new njo
    have hjo : (upd H1 jo (.lst (us ++ uo))) jo = some (.lst (us ++ uo)) := upd_same
    have dj : DpAll K (upd H1 jo (.lst (us ++ uo))) (us ++ uo) ((addR rs ts).map R.d) := by
      unfold addR
      rw [List.map_append]
      exact dps_app (dps_same (o.trans s2) _ _ h3) (dps_same ((wo_le D).trans s2) _ _ dDo)
    generalize upd H1 jo (.lst (us ++ uo)) = H2 at s2 hjo dj
    have s02 : Same H H2 := o.trans s2
    have oka := addR_ok ho ho'
    have nda := addR_nodup nd nd'
    have rla := few_rules w6 oka nda
    have ula : (us ++ uo).length = (addR rs ts).length := by rw [dps_len dj, List.length_map]
    refine ⟨_, rfl, x, C, dx, _, _, rfl, s02 _ _ h1, TC.cl, TC.nS, flds_span _ _, _, rfl, jo, _, rfl, .inr (SqL.of hjo), fun z dz nz ndz ne => ?_⟩
    rw [List.append_nil]
    refine ⟨[.ref z, .int (w : Int)], us ++ uo, rfl, rfl, Nat.le_of_lt (small1000 (by omega)), fun t nt => ?_⟩
    have gx : z ≠ t := fun e => by rw [← e, upd_same] at nt; cases nt
    have gdx : dz ≠ t := fun e => by rw [← e, upd_ne ne, upd_same] at nt; cases nt
    have ng1 : H2 t = none := by
      rw [upd_ne gx.symm, upd_ne gdx.symm] at nt
      exact nt
    have keep : ∀ b o, H2 b = some o → (upd (upd (upd H2 dz (.own z)) z (.ins C dz [])) t (.tup (us ++ uo))) b = some o := fun b o e => by
      rw [upd_ne (ne_of_none e ng1), upd_ne (ne_of_none e nz), upd_ne (ne_of_none e ndz)]
      exact e
    refine ⟨z, dz, w, t, us ++ uo, addR rs ts, rfl, by rw [upd_ne gx]; exact upd_same, w1, w6, upd_same, dps_same ?_ _ _ dj, oka, nda, fun H' k1 k2 => ⟨rfl, q z H' ?_ ?_ ⟨dz, t, us ++ uo, k2, ?_, ?_⟩⟩⟩
    · exact fun b o e => by
        rw [wo_ne (ne_of_none e nz)]
        exact keep b o e
    · exact fun b o e => k1 b o (keep b o (s02 _ _ e)) (ne_of_none (s02 _ _ e) nz)
    · exact s02.free nz
    · exact k1 t _ upd_same gx.symm
    · refine dps_same (fun b o e => ?_) _ _ dj
      exact k1 b o (keep b o e) (ne_of_none e nz)
end
end CC
/-! data that may be shown and compared: weight at most m, depth at most n -/
namespace GD
open PySem L2
structure SD (m n : Nat) (d : PyData) : Prop where
  lay : d.canLay0 = true
  shw : d.showable = true
  lvs : d.leavesShort 13 = true
  dep : d.depth ≤ n
  wt : d.weight ≤ m
theorem SD.up {m n m' n' : Nat} {d : PyData} (h : SD m n d) (h1 : m ≤ m') (h2 : n ≤ n') : SD m' n' d := ⟨h.lay, h.shw, h.lvs, Nat.le_trans h.dep h2, Nat.le_trans h.wt h1⟩
theorem SD.non : SD 0 0 .none := ⟨by simp [PyData.canLay0], by simp [PyData.showable], by simp [PyData.leavesShort], by simp [PyData.depth], by simp [PyData.weight]⟩
theorem SD.bl (b : Bool) : SD 0 0 (.bool b) := ⟨by simp [PyData.canLay0], by simp [PyData.showable], by simp [PyData.leavesShort], by simp [PyData.depth], by simp [PyData.weight]⟩
theorem SD.nat {n : Nat} (hn : n < 1000000) : SD 20 0 (.int (n : Int)) := by
  have hl : n.log2 < 20 := by
    by_cases z : n = 0
    · subst z; decide
    · exact (Nat.log2_lt z).mpr (by omega)
  have hl2 : (n : Int).natAbs.log2 < 1920 := by
    rw [Int.natAbs_natCast]
    omega
  refine ⟨by simp [PyData.canLay0], ?_, ?_, by simp [PyData.depth], ?_⟩
  · unfold PyData.showable
    exact decide_eq_true hl2
  · unfold PyData.leavesShort
    refine decide_eq_true ?_
    show (Str.ofString (toString (n : Int))).length ≤ 13
    have e := int_text_length_le10 (a := (n : Int)) (k := 6) (by decide) (by rw [Int.natAbs_natCast]; exact hn)
    rw [ofString_length]
    omega
  · unfold PyData.weight
    rw [Int.natAbs_natCast]
    split <;> omega
theorem SD.int {i : Int} (h0 : 0 ≤ i) (h1 : i < 1000000) : SD 20 0 (.int i) := by
  obtain ⟨n, rfl⟩ : ∃ n : Nat, i = (n : Int) := ⟨i.toNat, by omega⟩
  exact SD.nat (by omega)
theorem SD.str {x : Str} {m : Nat} (h : PyData.strOk x = true) (hl : x.length ≤ m) (hc : ∀ c ∈ x.cps.toList, c < 16 ^ 8) : SD m 0 (.str x) := by
  refine ⟨by simp [PyData.canLay0, h], by simp [PyData.showable], ?_, by simp [PyData.depth], ?_⟩
  · simpa only [PyData.leavesShort, List.all_eq_true, decide_eq_true_eq] using hc
  · simp only [PyData.weight]
    exact hl
theorem SD.all {m n : Nat} : ∀ {ds : List PyData}, (∀ d ∈ ds, SD m n d) → PyData.canLayAll0 ds = true ∧ PyData.showableAll ds = true ∧ PyData.leavesShortAll 13 ds = true ∧ PyData.depthAll ds ≤ n ∧ PyData.weightAll ds ≤ ds.length * (m + 1)
  | [], _ => by simp [PyData.canLayAll0, PyData.showableAll, PyData.leavesShortAll, PyData.depthAll, PyData.weightAll]
  | d :: ds, h => by
    have h1 := h d List.mem_cons_self
    obtain ⟨a1, a2, a3, a4, a5⟩ := SD.all (ds := ds) fun e he => h e (List.mem_cons_of_mem _ he)
    have := h1.dep
    have := h1.wt
    refine ⟨?_, ?_, ?_, ?_, ?_⟩
    · simp [PyData.canLayAll0, h1.lay, a1]
    · simp [PyData.showableAll, h1.shw, a2]
    · simp [PyData.leavesShortAll, h1.lvs, a3]
    · simp only [PyData.depthAll]; omega
    · simp only [PyData.weightAll, List.length_cons, Nat.add_mul]; omega
theorem SD.list {m n k : Nat} {ds : List PyData} (h : ∀ d ∈ ds, SD m n d) (hk : ds.length ≤ k) : SD (k * (m + 1)) (n + 1) (.list ds) := by
  obtain ⟨a1, a2, a3, a4, a5⟩ := SD.all h
  have : ds.length * (m + 1) ≤ k * (m + 1) := Nat.mul_le_mul_right _ hk
  refine ⟨by simp [PyData.canLay0, a1], by simp [PyData.showable, a2], by simp [PyData.leavesShort, a3], ?_, ?_⟩
  · simp only [PyData.depth]; omega
  · simp only [PyData.weight]; omega
theorem SD.tuple {m n k : Nat} {ds : List PyData} (h : ∀ d ∈ ds, SD m n d) (hk : ds.length ≤ k) : SD (k * (m + 1)) (n + 1) (.tuple ds) := by
  obtain ⟨a1, a2, a3, a4, a5⟩ := SD.all h
  have : ds.length * (m + 1) ≤ k * (m + 1) := Nat.mul_le_mul_right _ hk
  refine ⟨by simp [PyData.canLay0, a1], by simp [PyData.showable, a2], by simp [PyData.leavesShort, a3], ?_, ?_⟩
  · simp only [PyData.depth]; omega
  · simp only [PyData.weight]; omega
theorem SD.shaped {m n : Nat} {d : PyData} (h : SD m n d) (hn : n ≤ 64) : SeqAt.shaped d = true := by
  show (d.canLay0 && decide (d.depth ≤ 64)) = true
  rw [h.lay, Bool.true_and]
  exact decide_eq_true (Nat.le_trans h.dep hn)
theorem SD.fits {m n : Nat} {d : PyData} (h : SD m n d) (hm : m ≤ 2 ^ 20) : d.shown.length ≤ sizeLine := PyData.shown_fits (B := 13) (by decide) (by decide) h.lvs (Nat.le_trans h.wt hm)
theorem SD.nodict {m n : Nat} {d : PyData} (h : SD m n d) : d.hasDict = false := PyData.hasDict_of_canLay d h.lay
end GD
namespace GD
open PySem L2 CC
/-- a def that keeps a promise where nothing is being shown -/
structure CalG (P : Program) (w : World) (K : PySem.W.Frag) (mg : Str → Option Value) (base : Heap) (x : Str) (ps : List Str) (sp : Sp) (l : Nat) where
  f : Addr
  fd : FuncData
  ok : ∀ k, l ≤ k → FnG P w K mg base CX0 k f fd ps sp
  kp : PySem.W.keepIn K (.ref f) = true
  b : Binds K fd ps []
  g : mg x = some (.ref f)
def calG {P : Program} {w : World} {K : PySem.W.Frag} {mg : Str → Option Value} {base : Heap} {x : Str} {st : Stmt} {ps : List Str} {sp : Sp} {l : Nat} (d : Df K mg x st ps) (h : ∀ k, FnG P w K mg base CX0 (k + l) d.f d.fd ps sp) : CalG P w K mg base x ps sp l :=
  ⟨d.f, d.fd, fun k hk => (Nat.sub_add_cancel hk) ▸ h (k - l), d.F.kp, d.b, d.g⟩
/-- two values that are the same data -/
def spEqD (K : PySem.W.Frag) : Sp := fun vs H Q _ => ∃ (v u : V) (d : PyData), vs = [v, u] ∧ Dp K H v d ∧ Dp K H u d ∧ SD 1000000 64 d ∧ Q (.bl true) H
theorem hu66 {k : Nat} {A : Around} (hr : Room k A) : A.units + 66 < cLine := by
  have := hr.un
  omega
end GD
namespace CC
open PySem L2
theorem sd_r {w : Nat} {r : R} (hw : w ≤ 6) (h : r.ok w) : GD.SD 63 1 r.d := by
  refine GD.SD.tuple (m := 20) (n := 0) (k := 3) (fun d hd => ?_) (by show 3 ≤ 3; decide)
  have h1 := h.1
  have h2 := h.2.1
  rcases List.mem_cons.mp hd with rfl | hd
  · cases r.k
    · exact GD.SD.str (by decide +kernel) (by decide +kernel) (by decide +kernel)
    · exact GD.SD.str (by decide +kernel) (by decide +kernel) (by decide +kernel)
  · rcases List.mem_cons.mp hd with rfl | hd
    · exact GD.SD.nat (by omega)
    · rcases List.mem_cons.mp hd with rfl | hd
      · exact GD.SD.nat (by omega)
      · cases hd
theorem sd_rs {w : Nat} {rs : List R} (hw : w ≤ 6) (ho : ∀ r ∈ rs, r.ok w) (hl : rs.length ≤ 60) : GD.SD 3840 2 (.list (rs.map R.d)) :=
  GD.SD.list (m := 63) (n := 1) (k := 60) (fun d hd => by
    obtain ⟨r, hr, rfl⟩ := List.mem_map.mp hd
    exact sd_r hw (ho r hr)) (by rw [List.length_map]; exact hl)
theorem eqvAll_rs : ∀ m l : List R, PyData.eqvAll (m.map R.d) (l.map R.d) = decide (m = l)
  | [], [] => by simp [PyData.eqvAll]
  | [], _ :: _ => by simp [PyData.eqvAll]
  | _ :: _, [] => by simp [PyData.eqvAll]
  | x :: m, y :: l => by
    simp only [List.map_cons, PyData.eqvAll, eqvAll_rs m l, rd_eqv]
    by_cases h : x = y
    · subst h
      simp
    · simp [h]
theorem rs_eqv (m l : List R) : PyData.eqv (.list (m.map R.d)) (.list (l.map R.d)) = decide (m = l) := by
  simp only [PyData.eqv]
  exact eqvAll_rs m l
theorem RulesAt.ran {K : PySem.W.Frag} {C : Addr} {H H' : Hp} {x s : Addr} {w : Nat} {rs : List R} (h : RulesAt K C H x w rs) (hs : Src H s) (r : Ran H H' s) (T : SameT H H') : RulesAt K C H' x w rs := by
  obtain ⟨o, hs1, a, b, c, rfl, _⟩ := hs
  obtain ⟨dx, g, us, h1, h2, h3⟩ := h
  exact ⟨dx, g, us, r.at_ h1 (ne_of h1 hs1 (by intro z; cases z)), r.at_ h2 (ne_of h2 hs1 (by intro z; cases z)), rds_T T h3⟩
end CC
namespace CC
open PySem L2
def spFollows (K : PySem.W.Frag) : Sp := fun vs H Q _ => ∃ (w : Nat) (g : Addr) (us : List V) (rs : List R) (v : V) (r : R), vs = [.int (w : Int), .ref g, v] ∧ SqT K H g us ∧ DpAll K H us (rs.map R.d) ∧ (∀ r ∈ rs, r.ok w) ∧ w ≤ 6 ∧ rs.length ≤ 60 ∧ Dp K H v r.d ∧ r.ok w ∧
  ∀ (b : Bool) (H' : Hp), Same H H' → (b = true ↔ Fol rs r) → Q (.bl b) H'
def spCall (K : PySem.W.Frag) (C : Addr) : Sp := fun vs H Q _ => ∃ (x : Addr) (w : Nat) (rs : List R) (v : V) (r : R), vs = [.ref x, v] ∧ RulesAt K C H x w rs ∧ (∀ r ∈ rs, r.ok w) ∧ w ≤ 6 ∧ rs.length ≤ 60 ∧ Dp K H v r.d ∧ r.ok w ∧
  ∀ (b : Bool) (H' : Hp), Same H H' → (b = true ↔ Fol rs r) → Q (.bl b) H'
theorem lk_lt {rs : List R} {w : Nat} (ho : ∀ r ∈ rs, r.ok w) {k : Bool} {x y : Nat} (h : Lk rs k x y) : x < w ∧ y < w := by
  rcases h with h | ⟨h, _⟩
  · exact ⟨(ho _ h).1, (ho _ h).2.1⟩
  · exact ⟨(ho _ h).2.1, (ho _ h).1⟩
/-- rules(rule) -/
structure CallC (P : Program) (w : World) (K : PySem.W.Frag) (mg : Str → Option Value) (base : Heap) (C : Addr) (l : Nat) where
  fC : Addr
  cC : StX.CallO K C fC
  ok : ∀ k, l ≤ k → FnR P w K mg base CX0 k fC (spCall K C)
section
variable {P : Program} {w : World} {K : PySem.W.Frag} {mg : Str → Option Value} {base : Heap} {kA : Addr}
abbrev nFo : List Str := ["width", "rules", "rule", "kind", "first", "second"]
theorem scFollows : FnScope nFo ["width", "rules", "rule"] (defScope sFollows) := ⟨rfl, rfl, rfl, by decide +kernel, rfl, by decide +kernel, by decide +kernel⟩
theorem ok_follows {f : Addr} {fd : FuncData} {k : Nat} (F : Fun K "follows" "follows" sFollows f fd) (T : Glb K mg kA) (cL : Cal P w K mg base "links" ["width", "rules", "kind"] (spLinks K) 3)
 (cR : Cal P w K mg base "reached" ["pairs", "start"] (spReached K) 2) :
    FnOk P w K mg base CX0 (k + 4) f fd ["width", "rules", "rule"] (spFollows K) := by
  have GL := cL.ok (k + 3) (by omega)
  have GR := cR.ok (k + 3) (by omega)
  refine F.ok scFollows (fun vs H Q E h => ?_) (fun cdv A outer s H vs Q E hr h => ?_)
  · obtain ⟨w, g, us, rs, v, r, rfl, _⟩ := h
    rfl
  · obtain ⟨w, g, us, rs, v, r, rfl, hg, dp, ho, hw, hl, dv, hr2, q⟩ := h
    have n := scFollows.nd
    obtain ⟨t, rfl, ht⟩ := dp_r dv
    refine ⟨_, pss_cons (ps_asg (pv 2) (pg_tup rfl (pgs_cons (pg_name (i := 3) n rfl (.inl rfl)) (pgs_cons (pg_name (i := 4) n rfl (.inl rfl)) (pgs_cons (pg_name (i := 5) n rfl (.inl rfl)) pgs_nil)))))
      (pss_one (ps_ret (pe_cmpR op_in_seq (pv 5) (pe_call GR hr rfl cR.g cR.kp cR.b .nil pass0 (pa_cons (pe_call GL hr rfl cL.g cL.kp cL.b .nil pass0 (pa_cons (pv 0) (pa_cons (pv 1) (pa_cons (pv 3) pa_nil)))) (pa_cons (pv 4) pa_nil))) (by rfl)))), ?_⟩
    refine ⟨_, rfl, t, _, rfl, ht, rfl, _, _, rfl, _, _, rfl, _, _, rfl, rfl, ?_⟩
    refine ⟨_, rfl, _, rfl, _, rfl, _, rfl, w, g, us, rs, r.k, rfl, hg, dp, ho, hw, hl, fun p us' ps H1 s1 np hp dps hps pl => ?_⟩
    refine ⟨_, rfl, p, us', ps, r.a, rfl, SqL.of hp, dps_same (wo_le p) _ _ dps, fun x hx => ?_, Nat.lt_of_lt_of_le hr2.1 hw, by omega, fun p2 fs H2 s2 np2 hp2 hfs _ => ?_⟩
    · obtain ⟨x1, x2⟩ := x
      have := lk_lt ho ((hps x1 x2).mp hx)
      exact ⟨Nat.lt_of_lt_of_le this.1 hw, Nat.lt_of_lt_of_le this.2 hw⟩
    · refine ⟨p2, _, rfl, .inl (SqL.of hp2), rfl, nms_flat _, ?_⟩
      show Q (.bl (inV (V.int (r.b : Int)) (nms fs))) H2
      rw [nms_in]
      refine q _ H2 (s1.trans s2) ?_
      rw [decide_eq_true_eq, hfs]
      exact rch_rt hps
abbrev nCa : List Str := ["self", "rule"]
theorem scCall : FnScope nCa ["self", "rule"] (defScope sCall) := ⟨rfl, rfl, rfl, by decide +kernel, rfl, by decide +kernel, by decide +kernel⟩
theorem ok_call {f C : Addr} {fd : FuncData} {k : Nat} (F : Fun K "__call__" "Rules.__call__" sCall f fd) (T : Glb K mg kA) (TC : Txt1 K mg C) (cF : Cal P w K mg base "follows" ["width", "rules", "rule"] (spFollows K) 4)
 (cU : Cal P w K mg base "is_rule" ["width", "thing"] (spIsRule K) 3) :
    FnOk P w K mg base CX0 (k + 5) f fd ["self", "rule"] (spCall K C) := by
  have GF := cF.ok (k + 4) (by omega)
  have GU := cU.ok (k + 4) (by omega)
  refine F.ok scCall (fun vs H Q E h => ?_) (fun cdv A outer s H vs Q E hr h => ?_)
  · obtain ⟨x, w, rs, v, r, rfl, _⟩ := h
    rfl
  · obtain ⟨x, w, rs, v, r, rfl, ⟨dx, g, us, h1, h2, h3⟩, ho, hw, hl, dv, hr2, q⟩ := h
    refine ⟨_, pss_cons (ps_if (pt_not (pt_val (pe_call GU hr rfl cU.g cU.kp cU.b .nil pass0 (pa_cons (pe_fld (pv 0) rfl) (pa_cons (pv 1) pa_nil))))) (pss_one ps_never) pss_nil)
      (pss_one (ps_ret (pe_call GF hr rfl cF.g cF.kp cF.b .nil pass0 (pa_cons (pe_fld (pv 0) rfl) (pa_cons (pe_fld (pv 0) rfl) (pa_cons (pv 1) pa_nil)))))), ?_⟩
    refine ⟨_, rfl, x, C, dx, _, _, rfl, h1, TC.cl, TC.nS, flds_span _ _, _, rfl, w, v, r, rfl, dv, hr2, _, rfl, iteF ?_⟩
    refine ⟨_, rfl, x, C, dx, _, _, rfl, h1, TC.cl, TC.nS, flds_span _ _, _, rfl, x, C, dx, _, _, rfl, h1, TC.cl, TC.nG, flds_given _ _, _, rfl, ?_⟩
    exact ⟨w, g, us, rs, v, r, rfl, .inl (.inl h2), h3, ho, hw, hl, dv, hr2, q⟩
end
end CC
namespace CC
open PySem L2 TL
def Given (K : PySem.W.Frag) (H : Hp) (g : Addr) (w : Nat) (rs : List R) : Prop := ∃ us, SqL K H g us ∧ DpAll K H us (rs.map R.d) ∧ (∀ r ∈ rs, r.ok w) ∧ rs.Nodup ∧ 1 ≤ w ∧ w ≤ 6
def spList (K : PySem.W.Frag) (C : Addr) : Sp := fun vs H Q _ => ∃ (w : Nat) (g : Addr) (rs : List R), vs = [.int (w : Int), .ref g] ∧ Given K H g w rs ∧ ∀ (x : Addr) (H' : Hp), Same H H' → H x = none → RulesAt K C H' x w rs → Q (.ref x) H'
def lineP (r : R) : Str := num r.a ++ " " ++ kd r.k ++ " " ++ num r.b ++ "\n"
theorem lineP_eq (r : R) : lineP r = lineS r ++ "\n" := by
  refine ext_tl ?_
  unfold lineP lineS
  simp only [tl_app]
  rw [show tl Str.empty = [] by rfl, List.nil_append]
theorem lens2_all : ((allR 6).all fun r => decide ((num r.a).length ≤ 20) && decide ((num r.a ++ " ").length ≤ 20) && decide ((num r.a ++ " " ++ kd r.k).length ≤ 20) && decide ((num r.a ++ " " ++ kd r.k ++ " ").length ≤ 20) && decide ((num r.a ++ " " ++ kd r.k ++ " " ++ num r.b).length ≤ 20) && decide ((num r.b).length ≤ 20) && decide ((kd r.k).length ≤ 20)) = true := by decide +kernel
end CC
namespace CC
open PySem L2
theorem folL_ok {F : R → Bool} {w : Nat} : ∀ r ∈ folL F w, r.ok w := fun r hr => mem_allR.mp (List.mem_filter.mp hr).1
theorem folL_nodup {F : R → Bool} {w : Nat} (hw : w ≤ 6) : (folL F w).Nodup := (allR_nodup hw).filter _
end CC
/-! ### what follows from what follows -/
namespace CC
open PySem L2
section
variable {rs ts : List R} {k : Bool} {x y a b : Nat} {r t : R}
def Dr (k : Bool) (D : List (Nat × Nat)) (x y : Nat) : Prop := if k then Rch D x y else Rch D y x
theorem Dr.trans {D : List (Nat × Nat)} {c : Nat} (h1 : Dr k D a b) (h2 : Dr k D b c) : Dr k D a c := by
  cases k
  · exact Rch.trans (show Rch D c b from h2) (show Rch D b a from h1)
  · exact Rch.trans (show Rch D a b from h1) (show Rch D b c from h2)
theorem rch_one {D : List (Nat × Nat)} (h : (x, y) ∈ D) : Rch D x y := Rch.refl.step h
theorem lk_dr (h : Lk rs k x y) : Dr k (rs.map down) x y := by
  rcases h with h | ⟨_, h1, h2⟩
  · have m : down ⟨k, x, y⟩ ∈ rs.map down := List.mem_map_of_mem h
    cases k
    · exact rch_one m
    · exact rch_one m
  · cases k
    · exact h2
    · exact h1
theorem rt_dr (h : RT (Lk rs k) a b) : Dr k (rs.map down) a b := by
  induction h with
  | refl => cases k <;> exact Rch.refl
  | step _ l ih => exact ih.trans (lk_dr l)
theorem lk_turn (h : Lk rs k x y) (h1 : Dr k (rs.map down) x y) (h2 : Dr k (rs.map down) y x) : Lk rs k y x := by
  rcases h with h | ⟨h, _, _⟩
  · cases k
    · exact .inr ⟨h, h1, h2⟩
    · exact .inr ⟨h, h2, h1⟩
  · exact .inl h
theorem rt_turn (h : RT (Lk rs k) a b) : Dr k (rs.map down) b a → RT (Lk rs k) b a := by
  induction h with
  | refl => exact fun _ => .refl
  | @step b c p l ih =>
    intro q
    have l1 := lk_dr l
    have p1 := rt_dr p
    exact (RT.refl.step (lk_turn l l1 (q.trans p1))).trans (ih (l1.trans q))
theorem fol_self (h : r ∈ rs) : Fol rs r := RT.refl.step (.inl h)
theorem down_eq (r : R) : Dr r.k (rs.map down) r.a r.b ↔ Rch (rs.map down) (down r).1 (down r).2 := by
  obtain ⟨k, a, b⟩ := r
  cases k <;> exact Iff.rfl
theorem rch_sub (h : ∀ t ∈ ts, Fol rs t) (q : Rch (ts.map down) x y) : Rch (rs.map down) x y := by
  induction q with
  | refl => exact .refl
  | step _ m ih =>
    obtain ⟨t, ht, e⟩ := List.mem_map.mp m
    have z := (down_eq t).mp (rt_dr (h t ht))
    rw [e] at z
    exact ih.trans z
theorem rch_mono (h : ∀ r ∈ rs, r ∈ ts) (q : Rch (rs.map down) x y) : Rch (ts.map down) x y := q.mono fun z hz => by
  obtain ⟨t, ht, rfl⟩ := List.mem_map.mp hz
  exact List.mem_map_of_mem (h t ht)
theorem rt_mono (h : ∀ r ∈ rs, r ∈ ts) (q : RT (Lk rs k) a b) : RT (Lk ts k) a b := by
  induction q with
  | refl => exact .refl
  | step _ l ih =>
    refine ih.step ?_
    rcases l with l | ⟨l, l1, l2⟩
    · exact .inl (h _ l)
    · exact .inr ⟨h _ l, rch_mono h l1, rch_mono h l2⟩
theorem fol_mono (h : ∀ r ∈ rs, r ∈ ts) (q : Fol rs r) : Fol ts r := rt_mono h q
theorem rt_sub (h : ∀ t ∈ ts, Fol rs t) (q : RT (Lk ts k) a b) : RT (Lk rs k) a b := by
  induction q with
  | refl => exact .refl
  | step _ l ih =>
    refine ih.trans ?_
    rcases l with l | ⟨l, l1, l2⟩
    · exact h _ l
    · refine rt_turn (h _ l) ?_
      have e1 := rch_sub h l1
      have e2 := rch_sub h l2
      show Dr k (rs.map down) _ _
      cases k
      · exact e2
      · exact e1
theorem fol_sub (h : ∀ t ∈ ts, Fol rs t) (q : Fol ts r) : Fol rs r := rt_sub h q
theorem fol_same (h1 : ∀ r ∈ rs, r ∈ ts) (h2 : ∀ t ∈ ts, Fol rs t) : Fol ts r ↔ Fol rs r := ⟨fol_sub h2, fol_mono h1⟩
theorem mis_same {M : Nat → Nat → Bool} {w : Nat} (h1 : ∀ r ∈ rs, r ∈ ts) (h2 : ∀ t ∈ ts, Fol rs t) (h : MIs M w (ts.map down)) : MIs M w (rs.map down) := fun x y hx hy => (h x y hx hy).trans ⟨rch_sub h2, rch_mono h1⟩
theorem fis_same {F : R → Bool} {w : Nat} (h1 : ∀ r ∈ rs, r ∈ ts) (h2 : ∀ t ∈ ts, Fol rs t) (h : FIs F w ts) : FIs F w rs := fun r hr => (h r hr).trans (fol_same h1 h2)
end
end CC
/-! sorted(xs), xs a list of data that are alike -/
namespace SoD
open PySem PySem.Spec PyProof.Rows L2 PySem.W
/-- x is not behind y -/
def dle : PyData → PyData → Bool := dataLe false id
theorem each_pairs {X : Cx} {pins : List (Addr × Obj)} {σ : L2.St} {H : Hp} {s : Shared} (I : Inv X pins σ H s) : ∀ {ds : List PyData} {xs : List V} {us : List Value}, DpAll X.K H xs ds → Vals xs us →
    EachIs (fun v d => ∃ as, Reads s.heap v d as) us ds ∧ EachIs (fun (v : Value) (b : V × PyData) => RelV b.1 v ∧ Dp X.K H b.1 b.2 ∧ ∃ as, Reads s.heap v b.2 as) us (xs.zip ds)
  | [], _, _, h, r => by
    cases h
    cases r
    exact ⟨.nil, .nil⟩
  | d :: ds, _, _, h, r => by
    cases h with
    | cons h1 h2 =>
      cases r with
      | cons r1 r2 =>
        obtain ⟨a1, a2⟩ := each_pairs I h2 r2
        obtain ⟨as, z⟩ := Dp.reads I d _ _ h1 r1
        exact ⟨.cons ⟨as, z⟩ a1, .cons ⟨r1, h1, as, z⟩ a2⟩
theorem each_vals {K : PySem.W.Frag} {H : Hp} {R : Value → PyData → Prop} : ∀ {us : List Value} {bs : List (V × PyData)}, EachIs (fun (v : Value) (b : V × PyData) => RelV b.1 v ∧ Dp K H b.1 b.2 ∧ R v b.2) us bs → Vals (bs.map (·.1)) us ∧ DpAll K H (bs.map (·.1)) (bs.map (·.2))
  | _, _, .nil => ⟨.nil, .nil⟩
  | _, _, .cons h r => by
    obtain ⟨a1, a2⟩ := each_vals r
    exact ⟨.cons h.1 a1, .cons h.2.1 a2⟩
def rSortedD (K : PySem.W.Frag) : List V → Hp → VK → Prop := fun vs H Q => ∃ (a : Addr) (xs : List V) (ds : List PyData), vs = [V.ref a] ∧ SqL K H a xs ∧ DpAll K H xs ds ∧ AllAlike ds ∧ Sortable ds ∧ (∀ d ∈ ds, d.depth ≤ 60) ∧
  ∀ (ys : List V) (p : Addr), DpAll K H ys (ds.mergeSort dle) → H p = none → Q (.ref p) (upd H p (.lst ys))
theorem cr_sortedD {X : Cx} (hu : X.A.units + 64 < cLine) : CallR X (.builtin "sorted") (rSortedD X.K) := by
  intro pins s σ H vs us Q I r h
  obtain ⟨a, xs, ds, rfl, hs, hd, hal, hk, dep, q⟩ := h
  obtain ⟨its, rv, hl, hz⟩ := I.list hs
  obtain ⟨u, rfl, ru⟩ := vals1 r
  obtain rfl : u = Value.ref a := ru
  have keep : ∀ b o, s.heap.get? b = some o → (sortingHeap (copyHeap s.heap its) (s.heap.objs.size + 1) its).get? b = some o := fun b o e => sorting_copy_old e
  have go := fun (κ : PyProof.Rows.KeyKind) (S : SortsAt X.prog X.w X.A.in1.in1 { s with heap := sortingHeap (copyHeap s.heap its) (s.heap.objs.size + 1) its } κ its) => sorted_vals (E := X.xe) (Q := EP X pins σ Q) (κ := κ) hl.isList S (by rw [← rv.length]; exact hz)
  generalize sortingHeap (copyHeap s.heap its) (s.heap.objs.size + 1) its = h1 at keep go
  have I1 : Inv X pins σ H { s with heap := h1 } := I.kept (t' := s.toks) keep
  obtain ⟨e1, e2⟩ := each_pairs I1 hd rv
  have S := SortsAt.data (prog := X.prog) (w := X.w) (A := X.A.in1.in1) (s := { s with heap := h1 }) e1 hal hk (fun d hd => by
    have := dep d hd
    show X.A.units + 1 + 1 + d.depth < cLine
    omega)
  have lx : xs.length = ds.length := by
    have l1 := e1.length
    rw [rv.length, l1]
  refine go _ S ?_
  have z1 : (xs.zip ds).map (·.2) = ds := List.map_snd_zip (by omega)
  have kk : EachIs (fun v (b : V × PyData) => (dataKind h1 ds).keyOf v = some (keyToks b.2)) its (xs.zip ds) := by
    refine EachIs.of_zip e2.length fun p hp => ?_
    obtain ⟨_, _, as, z⟩ := e2.zip p hp
    have m2 : p.2 ∈ xs.zip ds := (List.of_mem_zip hp).2
    exact dataKind_some hal (List.of_mem_zip m2).2 z
  have out := sortVals_each (κ := dataKind h1 ds) (rev := false) (fun b : V × PyData => keyToks b.2) e2 kk
  obtain ⟨v1, v2⟩ := each_vals (R := fun v d => ∃ as, Reads h1 v d as) out
  have em : ((xs.zip ds).mergeSort (sortLe (dataKind h1 ds).toKeyOrd false fun b : V × PyData => keyToks b.2)).map (·.2) = ds.mergeSort dle := by
    have := sort_maps (r := sortLe (dataKind h1 ds).toKeyOrd false fun b : V × PyData => keyToks b.2) (s := dle) (fun b : V × PyData => b.2) (l := xs.zip ds) (fun _ _ _ _ => rfl)
    rw [z1] at this
    exact this
  rw [em] at v2
  have ol : (sortVals (dataKind h1 ds) false its its).length = its.length := sortVals_length false rfl
  generalize sortVals (dataKind h1 ds) false its its = res at v1 ol
  obtain ⟨n, hn⟩ := sortedAll_at s.heap its res.toArray
  obtain ⟨ys, v1, v2⟩ : ∃ ys : List V, Vals ys res ∧ DpAll X.K H ys (ds.mergeSort dle) := ⟨_, v1, v2⟩
  refine ⟨.ref (s.heap.objs.size + 1), upd H (s.heap.objs.size + 1) (.lst ys), I.laid (t' := s.toks) (fun b o e => sortedAll_old e) (Nat.le_succ _) ⟨?_, res, n, v1, hn⟩, rfl, q _ _ v2 (I.hok.fresh (Nat.le_succ _))⟩
  rw [v1.length, ol, ← rv.length]
  exact hz
end SoD
namespace CC
open PySem L2
def rkey (r : R) : Nat := (if r.k then 0 else 36) + r.a * 6 + r.b
theorem it1 : PyProof.Rows.itemLt (.inr (kd true).cps.toList) (.inr (kd false).cps.toList) = true := by decide +kernel
theorem it2 : PyProof.Rows.itemLt (.inr (kd false).cps.toList) (.inr (kd true).cps.toList) = false := by decide +kernel
theorem it3 (k : Bool) : PyProof.Rows.itemLt (.inr (kd k).cps.toList) (.inr (kd k).cps.toList) = false := PyProof.Rows.itemOrd.irrefl (.inr (kd k).cps.toList)
theorem dle_r {r s : R} (h1 : r.ok 6) (h2 : s.ok 6) : SoD.dle r.d s.d = decide (rkey r ≤ rkey s) := by
  obtain ⟨k, a, b⟩ := r
  obtain ⟨k', a', b'⟩ := s
  obtain ⟨l1, l2, _⟩ := h1
  obtain ⟨l3, l4, _⟩ := h2
  simp only at l1 l2 l3 l4
  show (!PyProof.Rows.lexLt PyProof.Rows.itemOrd (PySem.W.keyToks (R.d ⟨k', a', b'⟩)) (PySem.W.keyToks (R.d ⟨k, a, b⟩))) = _
  have i1 : ∀ x : Int, PyProof.Rows.itemLt (.inl x) (.inl x) = false := fun x => PyProof.Rows.itemOrd.irrefl (.inl x)
  have i2 : ∀ x y : Nat, PyProof.Rows.itemLt (.inl (x : Int)) (.inl (y : Int)) = decide (x < y) := fun x y => by
    show decide ((x : Int) < (y : Int)) = _
    by_cases h : x < y
    · rw [decide_eq_true h, decide_eq_true (by omega)]
    · rw [decide_eq_false h, decide_eq_false (by omega)]
  have lx : ∀ (x y : Int ⊕ List Nat) (r t : List (Int ⊕ List Nat)), PyProof.Rows.lexLt PyProof.Rows.itemOrd (x :: r) (y :: t) = (PyProof.Rows.itemLt x y || (!PyProof.Rows.itemLt y x && PyProof.Rows.lexLt PyProof.Rows.itemOrd r t)) := fun x y r t => PyProof.Rows.lex_cons (O := PyProof.Rows.itemOrd) x y r t
  have i3 : PyProof.Rows.lexLt PyProof.Rows.itemOrd [] [] = false := rfl
  simp only [R.d, PySem.W.keyToks, PySem.W.keyToksAll, List.cons_append, List.nil_append, lx, i1, i2, Bool.false_or, Bool.not_false, Bool.true_and]
  rw [Bool.eq_iff_iff]
  cases k <;> cases k' <;> simp only [it1, it2, it3, i3, rkey, Bool.true_or, Bool.false_or, Bool.not_false, Bool.not_true, Bool.false_and, Bool.true_and, Bool.or_false, Bool.and_false, if_true, if_false, Bool.not_eq_true', decide_eq_true_eq, Bool.or_eq_false_iff, Bool.and_eq_false_iff, decide_eq_false_iff_not, Bool.not_eq_false', reduceCtorEq] <;> first | omega | (refine ⟨fun h => h.elim, fun h => ?_⟩; omega) | (refine ⟨fun _ => ?_, fun _ => trivial⟩; omega)
theorem rkey_inj {r s : R} (h1 : r.ok 6) (h2 : s.ok 6) (e : rkey r = rkey s) : r = s := by
  obtain ⟨k, a, b⟩ := r
  obtain ⟨k', a', b'⟩ := s
  obtain ⟨l1, l2, _⟩ := h1
  obtain ⟨l3, l4, _⟩ := h2
  simp only at l1 l2 l3 l4
  have : k = k' ∧ a = a' ∧ b = b' := by
    cases k <;> cases k' <;> simp [rkey] at e ⊢ <;> omega
  rw [this.1, this.2.1, this.2.2]
theorem allR_asc {w : Nat} (hw : w ≤ 6) : (allR w).Pairwise fun r s => rkey r < rkey s := by
  have h : ∀ w ∈ List.range 7, (allR w).Pairwise fun r s => rkey r < rkey s := by decide +kernel
  exact h w (List.mem_range.mpr (by omega))
theorem asc_eq {L L' : List R} (h1 : L.Pairwise fun r s => rkey r < rkey s) (h2 : L'.Pairwise fun r s => rkey r < rkey s) (h : ∀ r, r ∈ L ↔ r ∈ L') : L = L' := by
  have nd : ∀ {l : List R}, (l.Pairwise fun r s => rkey r < rkey s) → l.Nodup := fun h => h.imp fun h e => by rw [e] at h; exact Nat.lt_irrefl _ h
  refine List.Perm.eq_of_pairwise (le := fun r s => rkey r < rkey s) (fun a b _ _ h1 h2 => (Nat.lt_asymm h1 h2).elim) h1 h2 ?_
  exact (List.perm_ext_iff_of_nodup (nd h1) (nd h2)).mpr h
/-- sorted of such rules -/
theorem rs_sort {L L' : List R} (p : L.Perm L') (s : L'.Pairwise fun r s => rkey r < rkey s) (ok : ∀ r ∈ L', r.ok 6) : (L.map R.d).mergeSort SoD.dle = L'.map R.d := by
  have pm : ((L.map R.d).mergeSort SoD.dle).Perm (L'.map R.d) := (List.mergeSort_perm _ _).trans (p.map _)
  refine List.Perm.eq_of_pairwise (le := fun a b => SoD.dle a b = true) (fun a b ha hb h1 h2 => ?_) (PySem.W.sort_pairwise (show PySem.W.TotalLe SoD.dle from PySem.W.sortLe_total (PyProof.Rows.listOrd PyProof.Rows.itemOrd) false fun b : PyData => PySem.W.keyToks b) _) ?_ pm
  · obtain ⟨r, hr, rfl⟩ := List.mem_map.mp (pm.mem_iff.mp ha)
    obtain ⟨s, hs, rfl⟩ := List.mem_map.mp hb
    rw [dle_r (ok r hr) (ok s hs), decide_eq_true_eq] at h1
    rw [dle_r (ok s hs) (ok r hr), decide_eq_true_eq] at h2
    rw [rkey_inj (ok r hr) (ok s hs) (by omega)]
  · rw [List.pairwise_map]
    refine s.imp_of_mem fun {a b} ha hb h => ?_
    rw [dle_r (ok a ha) (ok b hb)]
    exact decide_eq_true (by omega)
theorem rs_alike (L : List R) : PySem.W.AllAlike (L.map R.d) := by
  intro d hd d' hd'
  obtain ⟨r, _, rfl⟩ := List.mem_map.mp hd
  obtain ⟨s, _, rfl⟩ := List.mem_map.mp hd'
  simp [R.d, PySem.W.alike, PySem.W.alikeAll]
theorem rs_dep (L : List R) : ∀ d ∈ L.map R.d, d.depth ≤ 60 := fun d hd => by
  obtain ⟨r, _, rfl⟩ := List.mem_map.mp hd
  have := rd_shaped r
  simp [R.d, PyData.depth, PyData.depthAll]
theorem rs_sortable (L : List R) : PySem.W.Sortable (L.map R.d) := .inl fun d hd => by
  obtain ⟨r, _, rfl⟩ := List.mem_map.mp hd
  exact ⟨_, _, rfl⟩
/-- such rules, ascending -/
def ascR (rs : List R) : List R := (allR 6).filter fun r => decide (r ∈ rs)
theorem mem_ascR {rs : List R} (ok : ∀ r ∈ rs, r.ok 6) {r : R} : r ∈ ascR rs ↔ r ∈ rs := by
  unfold ascR
  rw [List.mem_filter, mem_allR, decide_eq_true_iff]
  exact ⟨fun h => h.2, fun h => ⟨ok r h, h⟩⟩
theorem ascR_perm {rs : List R} (ok : ∀ r ∈ rs, r.ok 6) (nd : rs.Nodup) : rs.Perm (ascR rs) :=
  (List.perm_ext_iff_of_nodup nd ((allR_nodup (by decide)).filter _)).mpr fun r => (mem_ascR ok).symm
theorem sort_ascR {rs : List R} (ok : ∀ r ∈ rs, r.ok 6) (nd : rs.Nodup) : (rs.map R.d).mergeSort SoD.dle = (ascR rs).map R.d :=
  rs_sort (ascR_perm ok nd) ((allR_asc (by decide)).filter _) fun r hr => ok r ((mem_ascR ok).mp hr)
theorem ascR_eq {rs ts : List R} (ok : ∀ r ∈ rs, r.ok 6) (nd : rs.Nodup) (ok' : ∀ r ∈ ts, r.ok 6) (nd' : ts.Nodup) : ascR rs = ascR ts ↔ rs.Perm ts := by
  constructor
  · intro h
    exact (ascR_perm ok nd).trans (h ▸ (ascR_perm ok' nd').symm)
  · intro h
    unfold ascR
    exact List.filter_congr fun r _ => by rw [decide_eq_decide]; exact h.mem_iff
end CC
namespace CC
open PySem L2
/-- the first of the shortest walks, if there is one -/
def WkIs (ps : List (Nat × Nat)) (a b : Nat) : Option (List Nat) → Prop
  | none => ∀ q, ¬ Wk ps a b q
  | some u => Wk ps a b u ∧ u.length ≤ 6 ∧ ∀ q, Wk ps a b q → u = q ∨ SS u q
def wkd : Option (List Nat) → PyData
  | none => .none
  | some u => gd u
theorem wk_uniq {ps : List (Nat × Nat)} {a b : Nat} : ∀ {o o' : Option (List Nat)}, WkIs ps a b o → WkIs ps a b o' → o = o'
  | none, none, _, _ => rfl
  | none, some u, h, h' => (h u h'.1).elim
  | some u, none, h, h' => (h' u h.1).elim
  | some u, some v, h, h' => by
    rcases h.2.2 v h'.1 with e | e
    · rw [e]
    · rcases h'.2.2 u h.1 with e' | e'
      · rw [e']
      · exact (e.trans e').irr.elim
theorem wk_lt {ps : List (Nat × Nat)} {w a b : Nat} {u : List Nat} (hp : ∀ x ∈ ps, x.1 < w ∧ x.2 < w) (ha : a < w) (h : Wk ps a b u) : b < w ∧ ∀ x ∈ u, x < w := by
  induction h with
  | one => exact ⟨ha, fun x hx => by rw [List.mem_singleton.mp hx]; exact ha⟩
  | step _ m ih =>
    have := (hp _ m).2
    refine ⟨this, fun x hx => ?_⟩
    rcases List.mem_append.mp hx with z | z
    · exact ih.2 x z
    · rw [List.mem_singleton.mp z]
      exact this
theorem nms_inj {u v : List Nat} (h : nms u = nms v) : u = v := by
  unfold nms at h
  exact (List.map_inj_right (fun a b e => by injection e with e; omega)).mp h
end CC
namespace CC
open PySem L2
def spWalk (K : PySem.W.Frag) (C : Addr) : Sp := fun vs H Q _ => ∃ (x : Addr) (w : Nat) (rs : List R) (a b : Nat), vs = [.ref x, .int (a : Int), .int (b : Int)] ∧ RulesAt K C H x w rs ∧ (∀ r ∈ rs, r.ok w) ∧ w ≤ 6 ∧ rs.length ≤ 60 ∧ a < w ∧ b < w ∧
  ∀ (v : V) (o : Option (List Nat)) (H' : Hp), Same H H' → WkIs (rs.map down) a b o → Dp K H' v (wkd o) → Q v H'
section
variable {P : Program} {w : World} {K : PySem.W.Frag} {mg : Str → Option Value} {base : Heap} {kA : Addr}
abbrev nWa : List Str := ["rules", "a", "b", "walks"]
end
end CC
namespace CC
open PySem L2
theorem folL_asc {F : R → Bool} {w : Nat} (hw : w ≤ 6) : (folL F w).Pairwise fun r s => rkey r < rkey s := (allR_asc hw).filter _
/-! ### columns under other names -/
section
variable {rs : List R} {π σ : Nat → Nat} {w : Nat}
def ren (π : Nat → Nat) (r : R) : R := ⟨r.k, π r.a, π r.b⟩
theorem down_ren (r : R) : down (ren π r) = (π (down r).1, π (down r).2) := by
  obtain ⟨k, a, b⟩ := r
  cases k <;> rfl
theorem rch_ren {x y : Nat} (h : Rch (rs.map down) x y) : Rch ((rs.map (ren π)).map down) (π x) (π y) := by
  induction h with
  | refl => exact .refl
  | step _ m ih =>
    obtain ⟨r, hr, e⟩ := List.mem_map.mp m
    refine ih.step (List.mem_map.mpr ⟨ren π r, List.mem_map_of_mem hr, ?_⟩)
    rw [down_ren, e]
theorem rt_ren {k : Bool} {x y : Nat} (h : RT (Lk rs k) x y) : RT (Lk (rs.map (ren π)) k) (π x) (π y) := by
  induction h with
  | refl => exact .refl
  | step _ l ih =>
    refine ih.step ?_
    rcases l with l | ⟨l, l1, l2⟩
    · exact .inl (List.mem_map.mpr ⟨_, l, rfl⟩)
    · exact .inr ⟨List.mem_map.mpr ⟨_, l, rfl⟩, rch_ren l1, rch_ren l2⟩
theorem fol_ren {r : R} (h : Fol rs r) : Fol (rs.map (ren π)) (ren π r) := rt_ren h
theorem ren_back (hb : ∀ i, i < w → σ (π i) = i) (ho : ∀ r ∈ rs, r.ok w) : (rs.map (ren π)).map (ren σ) = rs := by
  rw [List.map_map]
  have : ∀ r ∈ rs, (ren σ ∘ ren π) r = r := fun r hr => by
    obtain ⟨k, a, b⟩ := r
    have := ho _ hr
    show (⟨k, σ (π a), σ (π b)⟩ : R) = _
    rw [hb a this.1, hb b this.2.1]
  rw [List.map_congr_left this]
  simp
theorem fol_ren_iff (hb : ∀ i, i < w → σ (π i) = i) (ho : ∀ r ∈ rs, r.ok w) {r : R} (hr : r.ok w) : Fol (rs.map (ren π)) (ren π r) ↔ Fol rs r := by
  refine ⟨fun h => ?_, fol_ren⟩
  have := fol_ren (π := σ) h
  rw [ren_back hb ho] at this
  have e : ren σ (ren π r) = r := by
    obtain ⟨k, a, b⟩ := r
    show (⟨k, σ (π a), σ (π b)⟩ : R) = _
    rw [hb a hr.1, hb b hr.2.1]
  rwa [e] at this
theorem rch_ren_iff (hb : ∀ i, i < w → σ (π i) = i) (ho : ∀ r ∈ rs, r.ok w) {x y : Nat} (hx : x < w) (hy : y < w) : Rch ((rs.map (ren π)).map down) (π x) (π y) ↔ Rch (rs.map down) x y := by
  refine ⟨fun h => ?_, rch_ren⟩
  have := rch_ren (π := σ) h
  rwa [ren_back hb ho, hb x hx, hb y hy] at this
/-- an order of the columns -/
structure Perm6 (w : Nat) (π σ : Nat → Nat) : Prop where
  lt : ∀ i, i < w → π i < w
  lt' : ∀ i, i < w → σ i < w
  bk : ∀ i, i < w → σ (π i) = i
  fw : ∀ i, i < w → π (σ i) = i
theorem Perm6.ok (p : Perm6 w π σ) {r : R} (h : r.ok w) : (ren π r).ok w := ⟨p.lt _ h.1, p.lt _ h.2.1, fun e => h.2.2 (by
  have := congrArg σ e
  rwa [show σ (ren π r).a = r.a from p.bk _ h.1, show σ (ren π r).b = r.b from p.bk _ h.2.1] at this)⟩
theorem Perm6.symm (p : Perm6 w π σ) : Perm6 w σ π := ⟨p.lt', p.lt, p.fw, p.bk⟩
theorem ren_ren (p : Perm6 w π σ) {r : R} (h : r.ok w) : ren σ (ren π r) = r := by
  obtain ⟨k, a, b⟩ := r
  show (⟨k, σ (π a), σ (π b)⟩ : R) = _
  rw [p.bk a h.1, p.bk b h.2.1]
theorem ren_nodup (p : Perm6 w π σ) (ho : ∀ r ∈ rs, r.ok w) (nd : rs.Nodup) : (rs.map (ren π)).Nodup := by
  refine List.pairwise_map.mpr (nd.imp_of_mem fun {a b} ha hb ne e => ne ?_)
  rw [← ren_ren p (ho a ha), ← ren_ren p (ho b hb), e]
theorem ren_ok (p : Perm6 w π σ) (ho : ∀ r ∈ rs, r.ok w) : ∀ r ∈ rs.map (ren π), r.ok w := fun r hr => by
  obtain ⟨s, hs, rfl⟩ := List.mem_map.mp hr
  exact p.ok (ho s hs)
/-- all that follows under the other names -/
theorem fol_about {F G : R → Bool} (p : Perm6 w π σ) (hw : w ≤ 6) (ho : ∀ r ∈ rs, r.ok w) (hF : FIs F w rs) (hG : FIs G w (rs.map (ren π))) : ((folL F w).map (ren π)).Perm (folL G w) := by
  refine (List.perm_ext_iff_of_nodup (ren_nodup p folL_ok (folL_nodup hw)) (folL_nodup hw)).mpr fun r => ?_
  rw [folL_mem hG, List.mem_map]
  constructor
  · rintro ⟨s, hs, rfl⟩
    obtain ⟨h1, h2⟩ := (folL_mem hF).mp hs
    exact ⟨p.ok h1, fol_ren h2⟩
  · rintro ⟨h1, h2⟩
    refine ⟨ren σ r, (folL_mem hF).mpr ⟨p.symm.ok h1, ?_⟩, ren_ren p.symm h1⟩
    rw [← fol_ren_iff p.bk ho (p.symm.ok h1), ren_ren p.symm h1]
    exact h2
end
/-! ### rules of the other kind, the other way round -/
section
variable {rs : List R} {w : Nat}
def oth (r : R) : R := ⟨!r.k, r.b, r.a⟩
theorem oth_oth (r : R) : oth (oth r) = r := by
  obtain ⟨k, a, b⟩ := r
  cases k <;> rfl
theorem oth_inj {r s : R} (h : oth r = oth s) : r = s := by rw [← oth_oth r, ← oth_oth s, h]
theorem oth_ok {r : R} (h : r.ok w) : (oth r).ok w := ⟨h.2.1, h.1, fun e => h.2.2 e.symm⟩
theorem down_oth (rs : List R) : (rs.map oth).map down = rs.map down := by
  rw [List.map_map]
  refine List.map_congr_left fun r _ => ?_
  obtain ⟨k, a, b⟩ := r
  cases k <;> rfl
theorem oth_mem {r : R} : oth r ∈ rs.map oth ↔ r ∈ rs := ⟨fun h => by
  obtain ⟨s, hs, e⟩ := List.mem_map.mp h
  rwa [← oth_inj e], fun h => List.mem_map_of_mem h⟩
theorem lk_oth {k : Bool} {x y : Nat} (h : Lk rs k x y) : Lk (rs.map oth) (!k) y x := by
  unfold Lk at *
  rw [down_oth]
  rcases h with h | ⟨h, h1, h2⟩
  · exact .inl (oth_mem.mpr h)
  · exact .inr ⟨oth_mem.mpr h, h2, h1⟩
theorem rt_oth {k : Bool} {x y : Nat} (h : RT (Lk rs k) x y) : RT (Lk (rs.map oth) (!k)) y x := by
  induction h with
  | refl => exact .refl
  | step _ l ih => exact (RT.refl.step (lk_oth l)).trans ih
theorem map_oth_oth (rs : List R) : (rs.map oth).map oth = rs := by
  rw [List.map_map]
  have : ∀ r ∈ rs, (oth ∘ oth) r = r := fun r _ => oth_oth r
  rw [List.map_congr_left this]
  simp
theorem fol_oth {r : R} : Fol (rs.map oth) (oth r) ↔ Fol rs r := by
  refine ⟨fun h => ?_, fun h => rt_oth h⟩
  have := rt_oth h
  rw [map_oth_oth] at this
  show RT (Lk rs r.k) r.a r.b
  have e : (!(oth r).k) = r.k := by
    show (!(!r.k)) = r.k
    simp
  rw [e] at this
  exact this
theorem oth_nodup (nd : rs.Nodup) : (rs.map oth).Nodup := List.pairwise_map.mpr (nd.imp fun ne e => ne (oth_inj e))
theorem oths_ok (ho : ∀ r ∈ rs, r.ok w) : ∀ r ∈ rs.map oth, r.ok w := fun r hr => by
  obtain ⟨s, hs, rfl⟩ := List.mem_map.mp hr
  exact oth_ok (ho s hs)
theorem fol_turned {F G : R → Bool} (hw : w ≤ 6) (hF : FIs F w rs) (hG : FIs G w (rs.map oth)) : ((folL F w).map oth).Perm (folL G w) := by
  refine (List.perm_ext_iff_of_nodup (oth_nodup (folL_nodup hw)) (folL_nodup hw)).mpr fun r => ?_
  rw [folL_mem hG, List.mem_map]
  constructor
  · rintro ⟨s, hs, rfl⟩
    obtain ⟨h1, h2⟩ := (folL_mem hF).mp hs
    exact ⟨oth_ok h1, fol_oth.mpr h2⟩
  · rintro ⟨h1, h2⟩
    refine ⟨oth r, (folL_mem hF).mpr ⟨oth_ok h1, ?_⟩, oth_oth r⟩
    rw [← fol_oth, oth_oth]
    exact h2
end
end CC
/-! ### groups under other names, and with a column more -/
namespace CC
open PySem L2
theorem mis_eqr {M : Nat → Nat → Bool} {w : Nat} {ps : List (Nat × Nat)} (mis : MIs M w ps) : Eqr M w := ⟨fun x hx => (mis x x hx hx).mpr .refl, fun x y z hx hy hz h1 h2 => (mis x z hx hz).mpr (((mis x y hx hy).mp h1).trans ((mis y z hy hz).mp h2))⟩
def hdsM (M : Nat → Nat → Bool) (w : Nat) : List Nat := (List.range w).filter fun a => (grpM M w a).head? == some a
theorem cls_hds (M : Nat → Nat → Bool) (w : Nat) : clsM M w = (hdsM M w).map (grpM M w) := rfl
theorem hds_lt {M : Nat → Nat → Bool} {w a : Nat} (h : a ∈ hdsM M w) : a < w ∧ (grpM M w a).head? = some a := ⟨List.mem_range.mp (List.mem_filter.mp h).1, by simpa using (List.mem_filter.mp h).2⟩
theorem Eqr.mem_cls {M : Nat → Nat → Bool} {w : Nat} (h : Eqr M w) {m : List Nat} : m ∈ clsM M w ↔ ∃ a, a < w ∧ m = grpM M w a := by
  rw [cls_hds, List.mem_map]
  constructor
  · rintro ⟨a, ha, rfl⟩
    exact ⟨a, (hds_lt ha).1, rfl⟩
  · rintro ⟨a, ha, rfl⟩
    obtain ⟨c, h1, _, h3⟩ := h.head ha
    have hc := grp_lt h3
    refine ⟨c, List.mem_filter.mpr ⟨List.mem_range.mpr hc, ?_⟩, h.same ha h3⟩
    rw [h.same ha h3, h1]
    simp
theorem cls_heads (M : Nat → Nat → Bool) (w : Nat) : (clsM M w).Pairwise fun x y => ∃ a b, x.head? = some a ∧ y.head? = some b ∧ a < b := clsTo_heads (M := M) (w := w) w
theorem cls_nodup (M : Nat → Nat → Bool) (w : Nat) : (clsM M w).Nodup := (cls_heads M w).imp fun {x y} h e => by
  obtain ⟨a, b, h1, h2, h3⟩ := h
  rw [e, h2] at h1
  cases h1
  exact Nat.lt_irrefl _ h3
section
variable {M M' : Nat → Nat → Bool} {w : Nat} {π σ : Nat → Nat}
theorem grp_img (p : Perm6 w π σ) (hM : ∀ x y, x < w → y < w → M' (π x) (π y) = M x y) {a x : Nat} (ha : a < w) : x ∈ grpM M' w (π a) ↔ ∃ y ∈ grpM M w a, x = π y := by
  rw [grp_mem]
  constructor
  · rintro ⟨h1, h2, h3⟩
    refine ⟨σ x, grp_mem.mpr ⟨p.lt' x h1, ?_, ?_⟩, (p.fw x h1).symm⟩
    · rw [← hM a (σ x) ha (p.lt' x h1), p.fw x h1]
      exact h2
    · rw [← hM (σ x) a (p.lt' x h1) ha, p.fw x h1]
      exact h3
  · rintro ⟨y, hy, rfl⟩
    obtain ⟨h1, h2, h3⟩ := grp_mem.mp hy
    exact ⟨p.lt y h1, by rw [hM a y ha h1]; exact h2, by rw [hM y a h1 ha]; exact h3⟩
/-- a group's columns under the other names, sorted -/
theorem grp_sorted (p : Perm6 w π σ) (hM : ∀ x y, x < w → y < w → M' (π x) (π y) = M x y) {a : Nat} (ha : a < w) {ms : List Nat} (pm : ms.Perm ((grpM M w a).map π)) (le : ms.Pairwise (· ≤ ·)) : ms = grpM M' w (π a) := by
  have nd : ((grpM M w a).map π).Nodup := by
    refine List.pairwise_map.mpr (grp_inc.imp_of_mem fun {x y} hx hy h e => ?_)
    have := congrArg σ e
    rw [p.bk x (grp_lt hx), p.bk y (grp_lt hy)] at this
    omega
  have lt : ms.Pairwise (· < ·) := (le.and (pm.nodup_iff.mpr nd)).imp fun h => by
    have := h.1
    have := h.2
    omega
  refine inc_eq lt grp_inc fun x => ?_
  rw [pm.mem_iff, List.mem_map, grp_img p hM ha]
  constructor
  · rintro ⟨y, hy, rfl⟩
    exact ⟨y, hy, rfl⟩
  · rintro ⟨y, hy, rfl⟩
    exact ⟨y, hy, rfl⟩
theorem cls_perm (p : Perm6 w π σ) (hM : ∀ x y, x < w → y < w → M' (π x) (π y) = M x y) (e : Eqr M w) (e' : Eqr M' w) : ((hdsM M w).map fun a => grpM M' w (π a)).Perm (clsM M' w) := by
  refine (List.perm_ext_iff_of_nodup ?_ (cls_nodup M' w)).mpr fun m => ?_
  · refine List.pairwise_map.mpr ((List.Pairwise.filter _ (List.pairwise_lt_range (n := w))).imp_of_mem fun {a b} ha hb lt eq => ?_)
    obtain ⟨a1, a2⟩ := hds_lt (M := M) ha
    obtain ⟨b1, b2⟩ := hds_lt (M := M) hb
    have : π a ∈ grpM M' w (π b) := by
      rw [← eq]
      exact e'.self (p.lt a a1)
    obtain ⟨y, hy, ey⟩ := (grp_img p hM b1).mp this
    have := congrArg σ ey
    rw [p.bk a a1, p.bk y (grp_lt hy)] at this
    subst this
    have es := e.same b1 hy
    rw [es, b2] at a2
    cases a2
    omega
  · rw [e'.mem_cls, List.mem_map]
    constructor
    · rintro ⟨a, ha, rfl⟩
      exact ⟨π a, p.lt a (hds_lt ha).1, rfl⟩
    · rintro ⟨b, hb, rfl⟩
      obtain ⟨c, h1, _, h3⟩ := e.head (p.lt' b hb)
      have hc := grp_lt h3
      refine ⟨c, List.mem_filter.mpr ⟨List.mem_range.mpr hc, ?_⟩, ?_⟩
      · rw [e.same (p.lt' b hb) h3, h1]
        simp
      · have : π c ∈ grpM M' w b := by
          have := (grp_img p hM (p.lt' b hb)).mpr ⟨c, h3, rfl⟩
          rwa [p.fw b hb] at this
        exact e'.same hb this
end
theorem alike_ints2 : ∀ m l : List Nat, PySem.W.alikeAll (m.map fun (n : Nat) => PyData.int (n : Int)) (l.map fun (n : Nat) => PyData.int (n : Int)) = true
  | [], _ => by simp [PySem.W.alikeAll]
  | _ :: _, [] => by simp [PySem.W.alikeAll]
  | x :: m, y :: l => by simp [PySem.W.alikeAll, PySem.W.alike, alike_ints2 m l]
theorem dle_hd {m l : List Nat} {a b : Nat} (h1 : m.head? = some a) (h2 : l.head? = some b) (h : a < b) : SoD.dle (gd m) (gd l) = true ∧ SoD.dle (gd l) (gd m) = false := by
  cases m with
  | nil => cases h1
  | cons x m =>
    cases l with
    | nil => cases h2
    | cons y l =>
      have e1 : x = a := by simpa using h1
      have e2 : y = b := by simpa using h2
      subst e1 e2
      have hi : ¬ (y : Int) < (x : Int) := by omega
      have hj : (x : Int) < (y : Int) := by omega
      constructor
      · show (!PyProof.Rows.lexLt PyProof.Rows.itemOrd (PySem.W.keyToks (gd (y :: l))) (PySem.W.keyToks (gd (x :: m)))) = true
        simp [gd, PySem.W.keyToks, PySem.W.keyToksAll, PyProof.Rows.lexLt, PyProof.Rows.itemLt, hi, hj]
        try omega
      · show (!PyProof.Rows.lexLt PyProof.Rows.itemOrd (PySem.W.keyToks (gd (x :: m))) (PySem.W.keyToks (gd (y :: l)))) = false
        simp [gd, PySem.W.keyToks, PySem.W.keyToksAll, PyProof.Rows.lexLt, PyProof.Rows.itemLt, hi, hj]
        try omega
theorem gd_sort {L L' : List (List Nat)} (p : L.Perm L') (s : L'.Pairwise fun x y => ∃ a b, x.head? = some a ∧ y.head? = some b ∧ a < b) : (L.map gd).mergeSort SoD.dle = L'.map gd := by
  have pm : ((L.map gd).mergeSort SoD.dle).Perm (L'.map gd) := (List.mergeSort_perm _ _).trans (p.map _)
  refine List.Perm.eq_of_pairwise (le := fun a b => SoD.dle a b = true) (fun a b ha hb h1 h2 => ?_) (PySem.W.sort_pairwise (show PySem.W.TotalLe SoD.dle from PySem.W.sortLe_total (PyProof.Rows.listOrd PyProof.Rows.itemOrd) false fun b : PyData => PySem.W.keyToks b) _) ?_ pm
  · obtain ⟨m, hm, rfl⟩ := List.mem_map.mp (pm.mem_iff.mp ha)
    obtain ⟨l, hl, rfl⟩ := List.mem_map.mp hb
    by_cases e : m = l
    · rw [e]
    · obtain ⟨i, hi, rfl⟩ := List.getElem_of_mem hm
      obtain ⟨j, hj, rfl⟩ := List.getElem_of_mem hl
      have q := List.pairwise_iff_getElem.mp s
      rcases Nat.lt_trichotomy i j with lt | eq | lt
      · obtain ⟨a, b, z1, z2, z3⟩ := q i j hi hj lt
        rw [(dle_hd z1 z2 z3).2] at h2
        cases h2
      · subst eq
        rfl
      · obtain ⟨a, b, z1, z2, z3⟩ := q j i hj hi lt
        rw [(dle_hd z1 z2 z3).2] at h1
        cases h1
  · rw [List.pairwise_map]
    exact s.imp fun ⟨a, b, z1, z2, z3⟩ => (dle_hd z1 z2 z3).1
/-! ### a column more -/
section
variable {rs : List R} {w : Nat}
theorem rch_top (ho : ∀ r ∈ rs, r.ok w) {x y : Nat} (h : Rch (rs.map down) x y) : x = y ∨ (x < w ∧ y < w) := by
  induction h with
  | refl => exact .inl rfl
  | @step b c _ m ih =>
    have := down_ltw ho _ m
    rcases ih with e | e
    · exact .inr ⟨by rw [e]; exact this.1, this.2⟩
    · exact .inr ⟨e.1, this.2⟩
theorem fol_top (ho : ∀ r ∈ rs, r.ok w) {r : R} (hr : r.a ≠ r.b) (h : Fol rs r) : r.ok w := by
  have : r.a = r.b ∨ (r.a < w ∧ r.b < w) := by
    have : ∀ {x y : Nat}, RT (Lk rs r.k) x y → x = y ∨ (x < w ∧ y < w) := fun h => by
      induction h with
      | refl => exact .inl rfl
      | step _ l ih =>
        have := lk_lt ho l
        rcases ih with e | e
        · exact .inr ⟨by rw [e]; exact this.1, this.2⟩
        · exact .inr ⟨e.1, this.2⟩
    exact this h
  rcases this with e | e
  · exact (hr e).elim
  · exact ⟨e.1, e.2, hr⟩
theorem ok_up {r : R} (h : r.ok w) : r.ok (w + 1) := ⟨Nat.lt_succ_of_lt h.1, Nat.lt_succ_of_lt h.2.1, h.2.2⟩
theorem fol_wide {F G : R → Bool} (hw : w ≤ 5) (ho : ∀ r ∈ rs, r.ok w) (hF : FIs F w rs) (hG : FIs G (w + 1) rs) : folL G (w + 1) = folL F w := by
  refine asc_eq (folL_asc (by omega)) (folL_asc (by omega)) fun r => ?_
  rw [folL_mem hG, folL_mem hF]
  constructor
  · rintro ⟨h1, h2⟩
    exact ⟨fol_top ho h1.2.2 h2, h2⟩
  · rintro ⟨h1, h2⟩
    exact ⟨ok_up h1, h2⟩
theorem cls_wide {M N : Nat → Nat → Bool} (ho : ∀ r ∈ rs, r.ok w) (hM : MIs M w (rs.map down)) (hN : MIs N (w + 1) (rs.map down)) : clsM N (w + 1) = clsM M w ++ [[w]] := by
  have g1 : ∀ a, a < w → grpM N (w + 1) a = grpM M w a := fun a ha => by
    refine inc_eq grp_inc grp_inc fun b => ?_
    rw [grp_mem, grp_mem]
    constructor
    · rintro ⟨h1, h2, h3⟩
      have r1 := (hN a b (by omega) h1).mp h2
      have hb : b < w := by
        rcases rch_top ho r1 with e | e
        · omega
        · exact e.2
      exact ⟨hb, (hM a b ha hb).mpr r1, (hM b a hb ha).mpr ((hN b a h1 (by omega)).mp h3)⟩
    · rintro ⟨h1, h2, h3⟩
      exact ⟨by omega, (hN a b (by omega) (by omega)).mpr ((hM a b ha h1).mp h2), (hN b a (by omega) (by omega)).mpr ((hM b a h1 ha).mp h3)⟩
  have g2 : grpM N (w + 1) w = [w] := by
    refine inc_eq grp_inc (by simp) fun b => ?_
    rw [grp_mem, List.mem_singleton]
    constructor
    · rintro ⟨h1, h2, _⟩
      rcases rch_top ho ((hN w b (by omega) h1).mp h2) with e | e
      · exact e.symm
      · omega
    · rintro rfl
      exact ⟨by omega, (hN b b (by omega) (by omega)).mpr .refl, (hN b b (by omega) (by omega)).mpr .refl⟩
  rw [cls_hds, cls_hds]
  unfold hdsM
  rw [List.range_succ, List.filter_append, List.map_append]
  have e1 : (List.range w).filter (fun a => (grpM N (w + 1) a).head? == some a) = (List.range w).filter (fun a => (grpM M w a).head? == some a) := List.filter_congr fun a ha => by rw [g1 a (List.mem_range.mp ha)]
  have e2 : [w].filter (fun a => (grpM N (w + 1) a).head? == some a) = [w] := by
    rw [List.filter_cons_of_pos (by rw [g2]; simp)]
    rfl
  rw [e1, e2, List.map_singleton, g2]
  congr 1
  exact List.map_congr_left fun a ha => g1 a (List.mem_range.mp (List.mem_filter.mp ha).1)
end
end CC
namespace CC
open PySem L2
/-! ### with the columns in another order the numbers of values go along -/
def phiM (M' : Nat → Nat → Bool) (π : Nat → Nat) (w : Nat) (c : List Nat) : List Nat := grpM M' w (π (c.headD 0))
section
variable {M M' : Nat → Nat → Bool} {π σ : Nat → Nat} {w a x y : Nat} {c d : List Nat}
theorem grp_eqI (e : Eqr M w) (hx : x < w) (hy : y < w) : grpM M w x = grpM M w y ↔ M x y = true ∧ M y x = true := by
  constructor
  · intro h
    have : y ∈ grpM M w x := by
      rw [h]
      exact e.self hy
    exact (grp_mem.mp this).2
  · intro h
    exact (e.same hx (grp_mem.mpr ⟨hy, h⟩)).symm
/-- the first column of a class stands for its columns -/
theorem hd_rel (e : Eqr M w) (hx : x < w) : (grpM M w x).headD 0 < w ∧ M x ((grpM M w x).headD 0) = true ∧ M ((grpM M w x).headD 0) x = true := grp_mem.mp (cls_self e (cls_of e hx))
theorem rel_hd (e : Eqr M w) (hx : x < w) (hy : y < w) : M ((grpM M w x).headD 0) ((grpM M w y).headD 0) = M x y := by
  obtain ⟨x1, x2, x3⟩ := hd_rel e hx
  obtain ⟨y1, y2, y3⟩ := hd_rel e hy
  rw [Bool.eq_iff_iff]
  exact ⟨fun h => e.trans _ _ _ hx x1 hy x2 (e.trans _ _ _ x1 y1 hy h y3), fun h => e.trans _ _ _ x1 hx y1 x3 (e.trans _ _ _ hx hy y1 h y2)⟩
theorem phi_perm (p : Perm6 w π σ) (hM : ∀ x y, x < w → y < w → M' (π x) (π y) = M x y) (e : Eqr M w) (e' : Eqr M' w) : ((clsM M w).map (phiM M' π w)).Perm (clsM M' w) := by
  have h := cls_perm p hM e e'
  have : (clsM M w).map (phiM M' π w) = (hdsM M w).map fun a => grpM M' w (π a) := by
    rw [cls_hds, List.map_map]
    refine List.map_congr_left fun a ha => ?_
    obtain ⟨h1, h2⟩ := hds_lt (M := M) ha
    show grpM M' w (π ((grpM M w a).headD 0)) = grpM M' w (π a)
    have : (grpM M w a).headD 0 = a := by
      rw [List.headD_eq_head?_getD, h2]
      rfl
    rw [this]
  rw [this]
  exact h
theorem phi_filter (p : Perm6 w π σ) (hM : ∀ x y, x < w → y < w → M' (π x) (π y) = M x y) (e : Eqr M w) (e' : Eqr M' w) (q : List Nat → Bool) (q' : List Nat → Bool) (h : ∀ c ∈ clsM M w, q' (phiM M' π w c) = q c) : (((clsM M w).filter q).map (phiM M' π w)).Perm ((clsM M' w).filter q') := by
  have z := (phi_perm p hM e e').filter q'
  rw [List.filter_map, List.filter_congr (p := q' ∘ phiM M' π w) (q := q) fun c hc => h c hc] at z
  exact z
theorem bel_phi (p : Perm6 w π σ) (hM : ∀ x y, x < w → y < w → M' (π x) (π y) = M x y) (e : Eqr M w) (e' : Eqr M' w) (hc : c ∈ clsM M w) : ((belM M (clsM M w) c).map (phiM M' π w)).Perm (belM M' (clsM M' w) (phiM M' π w c)) := by
  obtain ⟨c1, c2⟩ := cls_grp hc
  refine phi_filter p hM e e' _ _ fun d hd => ?_
  obtain ⟨d1, d2⟩ := cls_grp hd
  have r1 : M' ((phiM M' π w c).headD 0) ((phiM M' π w d).headD 0) = M (c.headD 0) (d.headD 0) := by
    unfold phiM
    rw [rel_hd e' (p.lt _ c1) (p.lt _ d1), hM _ _ c1 d1]
  have r2 : (phiM M' π w d ≠ phiM M' π w c) ↔ d ≠ c := by
    refine not_congr ?_
    unfold phiM
    rw [grp_eqI e' (p.lt _ d1) (p.lt _ c1), hM _ _ d1 c1, hM _ _ c1 d1, ← grp_eqI e d1 c1, ← d2, ← c2]
  rw [r1, decide_eq_decide.mpr r2]
theorem sum_phi (p : Perm6 w π σ) (hM : ∀ x y, x < w → y < w → M' (π x) (π y) = M x y) (e : Eqr M w) (e' : Eqr M' w) (hc : c ∈ clsM M w) {r r' : List Nat → Nat} (h : ∀ d ∈ belM M (clsM M w) c, r' (phiM M' π w d) = r d) : sumB M' w r' (phiM M' π w c) = sumB M w r c := by
  unfold sumB
  rw [← ((bel_phi p hM e e' hc).map r').sum_nat, List.map_map, List.map_congr_left (f := r' ∘ phiM M' π w) (g := r) h]
theorem maxL_perm {l l' : List Nat} (p : l.Perm l') : maxL l = maxL l' := by
  by_cases h : l = []
  · subst h
    rw [p.nil_eq]
  · exact maxL_is (p.mem_iff.mp (maxL_mem h)) fun y hy => le_maxL (p.mem_iff.mpr hy)
end
section
variable {MS MN MG MS' MN' MG' : Nat → Nat → Bool} {π σ : Nat → Nat} {w : Nat}
structure Moved (MS MN MG MS' MN' MG' : Nat → Nat → Bool) (π : Nat → Nat) (w : Nat) : Prop where
  s : ∀ x y, x < w → y < w → MS' (π x) (π y) = MS x y
  n : ∀ x y, x < w → y < w → MN' (π x) (π y) = MN x y
  g : ∀ x y, x < w → y < w → MG' (π x) (π y) = MG x y
theorem inGr_phi (p : Perm6 w π σ) {M M' : Nat → Nat → Bool} (hM : ∀ x y, x < w → y < w → M' (π x) (π y) = M x y) (hG : ∀ x y, x < w → y < w → MG' (π x) (π y) = MG x y) (g : Eqr MG w) (g' : Eqr MG' w) (e' : Eqr M' w) (sg : ∀ x y, x < w → y < w → M' x y = true → MG' x y = true) {a : Nat} (ha : a < w) {c : List Nat} (hc : c ∈ clsM M w) :
    inGr (grpM MG' w (π a)) (phiM M' π w c) = inGr (grpM MG w a) c := by
  obtain ⟨c1, _⟩ := cls_grp hc
  obtain ⟨h1, h2, h3⟩ := hd_rel e' (p.lt _ c1)
  have m1 := sg _ _ (p.lt _ c1) h1 h2
  have m2 := sg _ _ h1 (p.lt _ c1) h3
  unfold inGr
  rw [decide_eq_decide, grp_mem, grp_mem]
  show ((phiM M' π w c).headD 0 < w ∧ MG' (π a) ((phiM M' π w c).headD 0) = true ∧ MG' ((phiM M' π w c).headD 0) (π a) = true) ↔ _
  unfold phiM
  rw [← hG _ _ ha c1, ← hG _ _ c1 ha]
  have pa := p.lt _ ha
  have pc := p.lt _ c1
  exact ⟨fun z => ⟨c1, g'.trans _ _ _ pa h1 pc z.2.1 m2, g'.trans _ _ _ pc h1 pa m1 z.2.2⟩, fun z => ⟨h1, g'.trans _ _ _ pa pc h1 z.2.1 m1, g'.trans _ _ _ h1 pc pa m2 z.2.2⟩⟩
theorem NM_phi (p : Perm6 w π σ) (L : Lay MS MN MG w) (L' : Lay MS' MN' MG' w) (h : Moved MS MN MG MS' MN' MG' π w) {a : Nat} (ha : a < w)
    (hs : ∀ c ∈ clsM MS w, keyM MG w c < keyM MG w [a] → rM MS' MN' MG' w (phiM MS' π w c) = rM MS MN MG w c) (hn : ∀ c ∈ clsM MN w, keyM MG w c < keyM MG w [a] → nM MS' MN' MG' w (phiM MN' π w c) = nM MS MN MG w c) :
    NM MS' MN' MG' w (grpM MG' w (π a)) = NM MS MN MG w (grpM MG w a) := by
  have a1 := (phi_filter p h.s L.s L'.s (inGr (grpM MG w a)) (inGr (grpM MG' w (π a))) fun c hc => inGr_phi p h.s h.g L.g L'.g L'.s L'.sg ha hc).map fun c => 2 + sumB MS' w (rM MS' MN' MG' w) c
  have a2 := (phi_filter p h.n L.n L'.n (inGr (grpM MG w a)) (inGr (grpM MG' w (π a))) fun c hc => inGr_phi p h.n h.g L.g L'.g L'.n L'.ng ha hc).map fun c => 1 + sumB MN' w (nM MS' MN' MG' w) c
  rw [List.map_map] at a1 a2
  unfold NM listG
  refine (maxL_perm (a1.append a2)).symm.trans ?_
  have b1 : ((clsM MS w).filter (inGr (grpM MG w a))).map ((fun c => 2 + sumB MS' w (rM MS' MN' MG' w) c) ∘ phiM MS' π w) = ((clsM MS w).filter (inGr (grpM MG w a))).map fun c => 2 + sumB MS w (rM MS MN MG w) c := List.map_congr_left fun c hc => by
    obtain ⟨cm, m⟩ := List.mem_filter.mp hc
    have k := inGr_mutual L ha (cls_grp cm).1 m
    show 2 + sumB MS' w (rM MS' MN' MG' w) (phiM MS' π w c) = 2 + sumB MS w (rM MS MN MG w) c
    rw [sum_phi p h.s L.s L'.s cm fun d hd => hs d (bel_mem hd) (k ▸ L.belS cm hd)]
  have b2 : ((clsM MN w).filter (inGr (grpM MG w a))).map ((fun c => 1 + sumB MN' w (nM MS' MN' MG' w) c) ∘ phiM MN' π w) = ((clsM MN w).filter (inGr (grpM MG w a))).map fun c => 1 + sumB MN w (nM MS MN MG w) c := List.map_congr_left fun c hc => by
    obtain ⟨cm, m⟩ := List.mem_filter.mp hc
    have k := inGr_mutual L ha (cls_grp cm).1 m
    show 1 + sumB MN' w (nM MS' MN' MG' w) (phiM MN' π w c) = 1 + sumB MN w (nM MS MN MG w) c
    rw [sum_phi p h.n L.n L'.n cm fun d hd => hn d (bel_mem hd) (k ▸ L.belN cm hd)]
  rw [b1, b2]
theorem num_phi (p : Perm6 w π σ) (L : Lay MS MN MG w) (L' : Lay MS' MN' MG' w) (h : Moved MS MN MG MS' MN' MG' π w) : ∀ k, (∀ c ∈ clsM MS w, keyM MG w c ≤ k → rM MS' MN' MG' w (phiM MS' π w c) = rM MS MN MG w c) ∧ ∀ c ∈ clsM MN w, keyM MG w c ≤ k → nM MS' MN' MG' w (phiM MN' π w c) = nM MS MN MG w c
  | 0 => ⟨fun c hc z => by have := key_pos (c := c) L.g (cls_grp hc).1; omega, fun c hc z => by have := key_pos (c := c) L.g (cls_grp hc).1; omega⟩
  | k + 1 => by
    obtain ⟨i1, i2⟩ := num_phi p L L' h k
    have key1 : ∀ c : List Nat, keyM MG w [c.headD 0] = keyM MG w c := fun _ => rfl
    have grp : ∀ {M' : Nat → Nat → Bool}, Eqr M' w → (∀ x y, x < w → y < w → M' x y = true → MG' x y = true) → ∀ {x}, x < w → grpM MG' w ((grpM M' w (π x)).headD 0) = grpM MG' w (π x) := fun e' sg x hx => by
      obtain ⟨h1, h2, h3⟩ := hd_rel e' (p.lt x hx)
      exact (grp_eqI L'.g h1 (p.lt x hx)).mpr ⟨sg _ _ h1 (p.lt x hx) h3, sg _ _ (p.lt x hx) h1 h2⟩
    refine ⟨fun c hc le => ?_, fun c hc le => ?_⟩
    · obtain ⟨c1, c2⟩ := cls_grp hc
      have hc' : phiM MS' π w c ∈ clsM MS' w := cls_of L'.s (p.lt _ c1)
      rw [L.r_eq hc, L'.r_eq hc', sum_phi p h.s L.s L'.s hc fun d hd => i1 d (bel_mem hd) (by have := L.belS hc hd; omega)]
      rw [show grpM MG' w ((phiM MS' π w c).headD 0) = grpM MG' w (π (c.headD 0)) from grp L'.s L'.sg c1]
      rw [NM_phi p L L' h c1 (fun d hd lt => i1 d hd (by rw [key1] at lt; omega)) fun d hd lt => i2 d hd (by rw [key1] at lt; omega)]
    · obtain ⟨c1, c2⟩ := cls_grp hc
      have hc' : phiM MN' π w c ∈ clsM MN' w := cls_of L'.n (p.lt _ c1)
      rw [L.n_eq hc, L'.n_eq hc', sum_phi p h.n L.n L'.n hc fun d hd => i2 d (bel_mem hd) (by have := L.belN hc hd; omega)]
      rw [show grpM MG' w ((phiM MN' π w c).headD 0) = grpM MG' w (π (c.headD 0)) from grp L'.n L'.ng c1]
      rw [NM_phi p L L' h c1 (fun d hd lt => i1 d hd (by rw [key1] at lt; omega)) fun d hd lt => i2 d hd (by rw [key1] at lt; omega)]
/-- each column has as many values as the one that it became -/
theorem fN_phi (p : Perm6 w π σ) (L : Lay MS MN MG w) (L' : Lay MS' MN' MG' w) (h : Moved MS MN MG MS' MN' MG' π w) {a : Nat} (ha : a < w) : fN MS' MN' MG' w (π a) = fN MS MN MG w a := by
  obtain ⟨i1, i2⟩ := num_phi p L L' h w
  exact NM_phi p L L' h ha (fun c hc _ => i1 c hc key_le) fun c hc _ => i2 c hc key_le
theorem ModM.moved {rs : List R} (p : Perm6 w π σ) (ho : ∀ r ∈ rs, r.ok w) (h : ModM rs MS MN MG w) (h' : ModM (rs.map (ren π)) MS' MN' MG' w) : Moved MS MN MG MS' MN' MG' π w := by
  have b : ∀ {p q : Bool} {X Y : Prop}, (p = true ↔ X) → (q = true ↔ Y) → (X ↔ Y) → p = q := fun {p q X Y} a c d => by
    rw [Bool.eq_iff_iff]
    exact a.trans (d.trans c.symm)
  have fol : ∀ k x y, x < w → y < w → (Fol (rs.map (ren π)) ⟨k, π x, π y⟩ ↔ Fol rs ⟨k, x, y⟩) := fun k x y hx hy => by
    by_cases e : x = y
    · rw [e]
      exact ⟨fun _ => RT.refl, fun _ => RT.refl⟩
    · exact fol_ren_iff (σ := σ) p.bk ho (r := ⟨k, x, y⟩) ⟨hx, hy, e⟩
  exact ⟨fun x y hx hy => b (h'.settled (p.lt x hx) (p.lt y hy)) (h.settled hx hy) (fol true x y hx hy), fun x y hx hy => b (h'.named (p.lt y hy) (p.lt x hx)) (h.named hy hx) (fol false y x hy hx), fun x y hx hy => b (h'.g _ _ (p.lt x hx) (p.lt y hy)) (h.g x y hx hy) (rch_ren_iff p.bk ho hx hy)⟩
end
end CC
namespace CC
open PySem L2
/-! ### the rows of a model depend on the columns' walks alone -/
def Agr (w : Nat) (M M' : Nat → Nat → Bool) : Prop := ∀ x y, x < w → y < w → M x y = M' x y
section
variable {M M' MS MN MG MS' MN' MG' : Nat → Nat → Bool} {w : Nat}
theorem Agr.grp (h : Agr w M M') {x : Nat} (hx : x < w) : grpM M w x = grpM M' w x := grp_congr h hx
theorem Agr.cls (h : Agr w M M') : clsM M w = clsM M' w := by
  unfold clsM
  rw [List.filter_congr (q := fun a => (grpM M' w a).head? == some a) fun a ha => by rw [h.grp (List.mem_range.mp ha)]]
  exact List.map_congr_left fun a ha => h.grp (List.mem_range.mp (List.mem_filter.mp ha).1)
theorem Agr.bel (h : Agr w M M') {cs : List (List Nat)} {c : List Nat} (hc : c.headD 0 < w) (hs : ∀ o ∈ cs, o.headD 0 < w) : belM M cs c = belM M' cs c :=
  List.filter_congr fun o ho => by rw [h _ _ hc (hs o ho)]
theorem cls_hd : ∀ o ∈ clsM M w, o.headD 0 < w := fun _ ho => (cls_grp ho).1
theorem Agr.sum (h : Agr w M M') {r r' : List Nat → Nat} (hr : ∀ c ∈ clsM M w, r c = r' c) {c : List Nat} (hc : c.headD 0 < w) : sumB M w r c = sumB M' w r' c := by
  unfold sumB
  rw [← h.cls, ← h.bel hc cls_hd]
  exact sum_congr fun d hd => hr d (bel_mem hd)
theorem list_agr (hs : Agr w MS MS') (hn : Agr w MN MN') {r r' n n' : List Nat → Nat} (hr : ∀ c ∈ clsM MS w, r c = r' c) (hq : ∀ c ∈ clsM MN w, n c = n' c) (g : List Nat) : listG MS MN w r n g = listG MS' MN' w r' n' g := by
  unfold listG
  rw [← hs.cls, ← hn.cls]
  rw [List.map_congr_left (f := fun c => 2 + sumB MS w r c) (g := fun c => 2 + sumB MS' w r' c) fun c hc => by rw [hs.sum hr (cls_hd c (List.mem_filter.mp hc).1)], List.map_congr_left (f := fun c => 1 + sumB MN w n c) (g := fun c => 1 + sumB MN' w n' c) fun c hc => by rw [hn.sum hq (cls_hd c (List.mem_filter.mp hc).1)]]
theorem cnF_agr (hs : Agr w MS MS') (hn : Agr w MN MN') (hg : Agr w MG MG') : ∀ k, (∀ c ∈ clsM MS w, (cnF MS MN MG w k).1 c = (cnF MS' MN' MG' w k).1 c) ∧ ∀ c ∈ clsM MN w, (cnF MS MN MG w k).2 c = (cnF MS' MN' MG' w k).2 c
  | 0 => ⟨fun _ _ => rfl, fun _ _ => rfl⟩
  | k + 1 => by
    obtain ⟨i1, i2⟩ := cnF_agr hs hn hg k
    refine ⟨fun c hc => ?_, fun c hc => ?_⟩
    · show maxL _ - 1 - sumB MS w (cnF MS MN MG w k).1 c = maxL _ - 1 - sumB MS' w (cnF MS' MN' MG' w k).1 c
      rw [list_agr hs hn i1 i2, hg.grp (cls_hd c hc), hs.sum i1 (cls_hd c hc)]
    · show maxL _ - sumB MN w (cnF MS MN MG w k).2 c = maxL _ - sumB MN' w (cnF MS' MN' MG' w k).2 c
      rw [list_agr hs hn i1 i2, hg.grp (cls_hd c hc), hn.sum i2 (cls_hd c hc)]
theorem st_agr {n n' : List Nat → Nat} {cs : List (List Nat)} (h : ∀ c ∈ cs, n c = n' c) (c : List Nat) : stM n cs c = stM n' cs c := by
  unfold stM
  exact sum_congr fun d hd => h d (List.mem_of_mem_take hd)
theorem val_agr (hn : Agr w MN MN') {n n' : List Nat → Nat} (h : ∀ c ∈ clsM MN w, n c = n' c) {c : List Nat} (hc : c ∈ clsM MN w) : valM MN w n c = valM MN' w n' c := by
  have one : ∀ d ∈ c :: belM MN (clsM MN w) c, nmsM n (clsM MN w) d = nmsM n' (clsM MN w) d := fun d hd => by
    have dm : d ∈ clsM MN w := by
      rcases List.mem_cons.mp hd with rfl | hd
      · exact hc
      · exact bel_mem hd
    unfold nmsM
    rw [st_agr h, h d dm]
  have e : flatM MN w n c = flatM MN' w n' c := by
    unfold flatM
    rw [← hn.cls, ← hn.bel (cls_hd c hc) cls_hd, List.flatMap_def, List.flatMap_def, List.map_congr_left one]
  unfold valM
  rw [e]
theorem rows_agr (L : Lay MS MN MG w) (hs : Agr w MS MS') (hn : Agr w MN MN') (hg : Agr w MG MG') : rowsM MS MN MG w = rowsM MS' MN' MG' w := by
  have er : ∀ c ∈ clsM MS w, rM MS MN MG w c = rM MS' MN' MG' w c := (cnF_agr hs hn hg 7).1
  have en : ∀ c ∈ clsM MN w, nM MS MN MG w c = nM MS' MN' MG' w c := (cnF_agr hs hn hg 7).2
  have col : ∀ x, x < w → colM MS MN MG w x = colM MS' MN' MG' w x := fun x hx => by
    unfold colM
    rw [val_agr hn en (cls_of L.n hx), hn.grp hx]
  have ris : ∀ c x, x < w → risB MS w c x = risB MS' w c x := fun c x hx => by
    unfold risB
    rw [← hs.grp hx, ← hs.cls, hs.bel (cls_hd _ (cls_of L.s hx)) cls_hd]
  have use : ∀ (cs : List (List Nat)) x, (∀ c ∈ cs, c ∈ clsM MS w) → x < w → useM MS MN MG w cs x = useM MS' MN' MG' w cs x := fun cs x sub hx => by
    unfold useM
    rw [List.filter_congr (q := fun c => risB MS' w c x) fun c _ => ris c x hx]
    exact sum_congr fun c hc => er c (sub c (List.mem_filter.mp hc).1)
  have row : ∀ (cs : List (List Nat)) c t, (∀ c ∈ cs, c ∈ clsM MS w) → rowM MS MN MG w cs c t = rowM MS' MN' MG' w cs c t := fun cs c t sub => by
    unfold rowM
    refine List.map_congr_left fun x hx => ?_
    have hx := List.mem_range.mp hx
    rw [col x hx, ris c x hx, use cs x sub hx]
  have r0 : row0 MS MN MG w = row0 MS' MN' MG' w := by
    unfold row0
    refine List.map_congr_left fun x hx => ?_
    rw [col x (List.mem_range.mp hx)]
  unfold rowsM rowsTo
  rw [r0, ← hs.cls, List.flatMap_def, List.flatMap_def]
  refine congrArg (List.cons _) (congrArg List.flatten (List.map_congr_left fun j hj => ?_))
  have hj := List.mem_range.mp hj
  have hc : (clsM MS w).getD j [] ∈ clsM MS w := by
    rw [List.getD_eq_getElem?_getD, List.getElem?_eq_getElem hj]
    exact List.getElem_mem hj
  unfold rowsOf
  rw [er _ hc]
  exact List.map_congr_left fun t _ => row _ _ t fun d hd => List.mem_of_mem_take hd
/-- equal rules in whatever order: equal tables -/
theorem ModM.agr {rs rs' : List R} (h : ModM rs MS MN MG w) (h' : ModM rs' MS' MN' MG' w) (e : ∀ r, r ∈ rs ↔ r ∈ rs') : Agr w MS MS' ∧ Agr w MN MN' ∧ Agr w MG MG' := by
  have d : ∀ x, x ∈ rs.map down ↔ x ∈ rs'.map down := fun x => by
    rw [List.mem_map, List.mem_map]
    exact ⟨fun ⟨r, a, b⟩ => ⟨r, (e r).mp a, b⟩, fun ⟨r, a, b⟩ => ⟨r, (e r).mpr a, b⟩⟩
  have rc : ∀ x y, Rch (rs.map down) x y ↔ Rch (rs'.map down) x y := fun x y => ⟨fun q => q.mono fun z hz => (d z).mp hz, fun q => q.mono fun z hz => (d z).mpr hz⟩
  have sd : ∀ k, Sdn rs k = Sdn rs' k := fun k => by
    funext x y
    unfold Sdn Lk
    simp only [e, rc]
  have b : ∀ {p q : Bool} {X : Prop}, (p = true ↔ X) → (q = true ↔ X) → p = q := fun {p q X} a c => by
    rw [Bool.eq_iff_iff]
    exact a.trans c.symm
  refine ⟨fun x y hx hy => b (h.s x y hx hy) ?_, fun x y hx hy => b (h.n x y hx hy) ?_, fun x y hx hy => b (h.g x y hx hy) ?_⟩
  · rw [sd]
    exact h'.s x y hx hy
  · rw [sd]
    exact h'.n x y hx hy
  · rw [rc]
    exact h'.g x y hx hy
theorem ModM.rows {rs rs' : List R} (w6 : w ≤ 6) (h : ModM rs MS MN MG w) (h' : ModM rs' MS' MN' MG' w) (e : ∀ r, r ∈ rs ↔ r ∈ rs') : rowsM MS MN MG w = rowsM MS' MN' MG' w := by
  obtain ⟨a, b, c⟩ := h.agr h' e
  exact rows_agr (h.lay w6) a b c
end
end CC
namespace CC
open PySem L2
/-! ### equal rules following: equal tables -/
theorem ModM.rowsF {rs rs' : List R} {w : Nat} {MS MN MG MS' MN' MG' : Nat → Nat → Bool} (w6 : w ≤ 6) (h : ModM rs MS MN MG w) (h' : ModM rs' MS' MN' MG' w) (e : ∀ t, Fol rs t ↔ Fol rs' t) : rowsM MS MN MG w = rowsM MS' MN' MG' w := by
  have b : ∀ {p q : Bool} {X Y : Prop}, (p = true ↔ X) → (q = true ↔ Y) → (X ↔ Y) → p = q := fun {p q X Y} a c d => by
    rw [Bool.eq_iff_iff]
    exact a.trans (d.trans c.symm)
  have rc : ∀ x y, Rch (rs.map down) x y ↔ Rch (rs'.map down) x y := fun x y => ⟨rch_sub fun t ht => (e t).mp (fol_self ht), rch_sub fun t ht => (e t).mpr (fol_self ht)⟩
  exact rows_agr (h.lay w6) (fun x y hx hy => b (h.settled hx hy) (h'.settled hx hy) (e _)) (fun x y hx hy => b (h.named hy hx) (h'.named hy hx) (e _)) fun x y hx hy => b (h.g x y hx hy) (h'.g x y hx hy) (rc x y)
end CC
namespace CC
open PySem L2 LamX PyProof.Rows
def spMr (K : PySem.W.Frag) (Ts : List (Addr × Str)) : Sp := fun vs H Q _ => ∃ (w : Nat) (g : Addr) (us : List V) (rs : List R), vs = [.int (w : Int), .ref g] ∧ w ≤ 6 ∧ SqT K H g us ∧ DpAll K H us (rs.map R.d) ∧ (∀ r ∈ rs, r.ok w) ∧ rs.length ≤ 60 ∧ Tabs Ts H ∧
  ∀ (p : Addr) (us' : List V) (MS MN MG : Nat → Nat → Bool) (H' : Hp), ExtN H H' → Tabs Ts H' → nt H p = none → H' p = some (.lst us') → TupA H' us' (rowsM MS MN MG w) → ModM rs MS MN MG w → Q (.ref p) H'
abbrev scMr1 : Scope := lcSc1 (asgVal2 ((forBody ((defBody sMr).getD 6 (.Pass ⟨0, 0, 0, 0⟩))).getD 0 (.Pass ⟨0, 0, 0, 0⟩)))
section
variable {P : Program} {w : World} {K : PySem.W.Frag} {mg : Str → Option Value} {base : Heap} {kA : Addr}
theorem scMr : FnScope nMr ["width", "rules"] (defScope sMr) := ⟨rfl, rfl, rfl, by decide +kernel, rfl, by decide +kernel, by decide +kernel⟩
theorem ok_mr {f : Addr} {fd : FuncData} {k : Nat} {Ts : List (Addr × Str)} (F : Fun K "model_rows" "model_rows" sMr f fd) (T : Glb K mg kA) (cB : Cal P w K mg base "classes_below" ["width", "pairs"] (spCb K) 4) (cL : Cal P w K mg base "links" ["width", "rules", "kind"] (spLinks K) 3)
    (cW : Cal P w K mg base "lowest_first" ["width", "rules"] (spLow K Ts) 6) (cN : Cal P w K mg base "class_numbers" ["ordered", "settling", "naming"] (spCn K) 1) (cV : Cal P w K mg base "column_values" ["naming", "named"] (spCv K) 1) : FnOk P w K mg base CX0 (k + 7) f fd ["width", "rules"] (spMr K Ts) := by
  have GB := cB.ok (k + 6) (by omega)
  have GL := cL.ok (k + 6) (by omega)
  have GW := cW.ok (k + 6) (by omega)
  have GN := cN.ok (k + 6) (by omega)
  have GV := cV.ok (k + 6) (by omega)
  refine F.ok scMr (fun vs H Q E h => ?_) (fun cdv A outer s H vs Q E hr h => ?_)
  · obtain ⟨w, g, us, rs, rfl, _⟩ := h
    rfl
  · obtain ⟨w, g, us, rs, rfl, hw, hg, dp, ok, hl, tabs, q⟩ := h
    have n := scMr.nd
    have hu1 : (A.deeper (PyProof.Rows.envOfC (Str.ofString "model_rows") (defScope sMr) s.heap.objs.size f cdv)).units + 1 < cLine := by
      have := hr.un
      omega
    have hu64 : (A.deeper (PyProof.Rows.envOfC (Str.ofString "model_rows") (defScope sMr) s.heap.objs.size f cdv)).units + 64 < cLine := by
      have := hr.un
      omega
    have hu65 : (A.deeper (PyProof.Rows.envOfC (Str.ofString "model_rows") (defScope sMr) s.heap.objs.size f cdv)).units + 65 < cLine := by
      have := hr.un
      omega
    refine ⟨_, (pss_cons (ps_set (i := 2) n rfl (.inr rfl) (pe_call GB hr rfl cB.g cB.kp cB.b .nil pass0 (pa_cons (pv 0) (pa_cons (pe_call GL hr rfl cL.g cL.kp cL.b .nil pass0 (pa_cons (pv 0) (pa_cons (pv 1) (pa_cons pe_str pa_nil)))) pa_nil))))
      (pss_cons (ps_set (i := 3) n rfl (.inl rfl) (pe_call GB hr rfl cB.g cB.kp cB.b .nil pass0 (pa_cons (pv 0) (pa_cons (pe_lc (own := [("a", 14), ("b", 15)]) (g := g2 K 14 15) (tt := tYes) (te := tTup (tCons (tVar 15) (tCons (tVar 14) tNil))) rfl n (pi_list (pe_call GL hr rfl cL.g cL.kp cL.b .nil pass0 (pa_cons (pv 0) (pa_cons (pv 1) (pa_cons pe_str pa_nil))))) (blkOk_by (N := nMr) (sc := defScope sMr) (by decide +kernel)) (fun _ _ _ _ _ => (pg_tup rfl (pgs_cons (pg_name (i := 14) n rfl (.inl rfl)) (pgs_cons (pg_name (i := 15) n rfl (.inl rfl)) pgs_nil)))) (fun _ _ _ _ _ => pts_nil) (fun _ _ _ _ _ => (pe_tup (pa_cons (pv 15) (pa_cons (pv 14) pa_nil))))) pa_nil))))
      (pss_cons (ps_asg (pe_call GN hr rfl cN.g cN.kp cN.b .nil pass0 (pa_cons (pe_call GW hr rfl cW.g cW.kp cW.b .nil pass0 (pa_cons (pv 0) (pa_cons (pv 1) pa_nil))) (pa_cons (pv 2) (pa_cons (pv 3) pa_nil)))) (pg_tup rfl (pgs_cons (pg_name (i := 4) n rfl (.inl rfl)) (pgs_cons (pg_name (i := 5) n rfl (.inl rfl)) pgs_nil))))
      (pss_cons (ps_set (i := 6) n rfl (.inr rfl) (pe_call GV hr rfl cV.g cV.kp cV.b .nil pass0 (pa_cons (pv 3) (pa_cons (pv 5) pa_nil))))
      (pss_cons (ps_set (i := 7) n rfl (.inl rfl) (pe_lst (pa_cons (pe_callTy call_tuple_of (by rfl) T.tup (by decide +kernel) (pa_cons (pe_lc (own := [("column", 12)]) (g := gName 12) (tt := tYes) (te := tOp (rIxL K) (tDGet (tVar 6) (tVar 12)) (tC (.int 0))) rfl n (pi_range1 (by rfl) T.rng (pa_cons (pv 0) pa_nil)) (blkOk_by (N := nMr) (sc := defScope sMr) (by decide +kernel)) (fun _ _ _ _ _ => (pg_name (i := 12) n rfl (.inl rfl))) (fun _ _ _ _ _ => pts_nil) (fun _ _ _ _ _ => (pe_ix ix_list (pe_dget hu1 (pv 6) (pv 12) (fun _ _ => rfl)) pe_int (fun _ _ => rfl)))) pa_nil)) pa_nil)))
      (pss_cons (ps_set (i := 8) n rfl (.inr rfl) (pe_lc (own := [("column", 12)]) (g := gName 12) (tt := tYes) (te := tC (.int 0)) rfl n (pi_range1 (by rfl) T.rng (pa_cons (pv 0) pa_nil)) (blkOk_by (N := nMr) (sc := defScope sMr) (by decide +kernel)) (fun _ _ _ _ _ => (pg_name (i := 12) n rfl (.inl rfl))) (fun _ _ _ _ _ => pts_nil) (fun _ _ _ _ _ => pe_int)))
      (pss_cons (ps_lock (ps_for PassesOwn.never rfl (pi_keys (pv 2)) (pg_name (i := 9) n rfl (.inr rfl))
        (pss_cons (ps_set (i := 10) n rfl (.inr rfl) (pe_lc2 (own := [("other", 16), ("column", 12)]) (vs1 := [12]) (g := gName 16) (g1 := gName 12) (tt := tOr (tTest (tOp (rEqD K) (tVar 16) (tVar 9))) (tTest (tOp (rInD K) (tVar 9) (tDGet (tVar 2) (tVar 16))))) (tt1 := tYes) (wi1 := iTup K (tVar 16)) (te := tVar 12) rfl n (pi_keys (pv 2)) (blkOk_by (N := nMr) (sc := defScope sMr) (by decide +kernel)) (by decide)
          (fun _ _ _ _ _ => (pg_name (i := 16) n rfl (.inl rfl))) (fun _ _ _ _ _ => pts_one (PW.pt (pw_or (pt_cmpR (r := rEqD K) (op_eqD hu64) (pv 16) (pv 9) (nomark _)) (pw_or1 (pt_cmpR (r := rInD K) (op_inD hu65) (pv 9) (pe_dget hu1 (pv 2) (pv 16) (fun _ _ => rfl)) (by rfl)))))) (fun _ _ _ _ _ => (pi_tup (pv 16))) (fun _ _ _ _ _ => (pg_name (i := 12) n rfl (.inl rfl))) (fun _ _ _ _ _ => pts_nil) (fun _ _ _ _ _ => (pv 12))))
      (pss_one (ps_for PassesOwn.never rfl (pi_range1 (by rfl) T.rng (pa_cons (pe_dget hu1 (pv 4) (pv 9) (fun _ _ => rfl)) pa_nil)) (pg_name (i := 11) n rfl (.inl rfl))
        (pss_cons (ps_for PassesOwn.never rfl (pi_list (pv 10)) (pg_name (i := 12) n rfl (.inl rfl))
        (pss_one (ps_augS (pv 8) (pv 12) get_listN pe_int ip_add set_list)))
      (pss_cons (ps_setLc (i := 13) (own := [("column", 12)]) (g := gName 12) (tt := tYes) (te := tIf (tTest (tOp (rIn K false) (tVar 12) (tVar 10))) (tOp (rIxL K) (tVar 8) (tVar 12)) (tC (.int 0))) rfl n rfl rfl (sw_true rfl rfl rfl (by decide +kernel)) (pi_range1 (by rfl) T.rng (pa_cons (pv 0) pa_nil)) (blkOk_by (N := nMr) (sc := defScope sMr) (by decide +kernel))
            (fun _ _ _ _ _ => (pg_name (i := 12) n rfl (.inl rfl))) (fun _ _ _ _ _ => pts_nil) (fun _ _ _ _ _ => (pe_ifExp (pt_cmpR op_in_seq (pv 12) (pv 10) (by rfl)) (pe_ix ix_list (pv 8) (pv 12) (fun _ _ => rfl)) pe_int)))
      (pss_one (ps_expr (pe_bm PySem.F.plainAttrs_list PySem.F.slot_list_append PySem.F.type_list_append mt_append (pv 7) (pa_cons (pe_callTy call_tuple_of (by rfl) T.tup (by decide +kernel) (pa_cons (pe_lc (own := [("column", 12), ("place", 17)]) (g := g2 K 12 17) (tt := tYes) (te := tOp (rIxL K) (tDGet (tVar 6) (tVar 12)) (tVar 17)) rfl n (pi_enum (by rfl) T.enu (pa_cons (pv 13) pa_nil)) (blkOk_by (N := nMr) (sc := defScope sMr) (by decide +kernel)) (fun _ _ _ _ _ => (pg_tup rfl (pgs_cons (pg_name (i := 12) n rfl (.inl rfl)) (pgs_cons (pg_name (i := 17) n rfl (.inl rfl)) pgs_nil)))) (fun _ _ _ _ _ => pts_nil) (fun _ _ _ _ _ => (pe_ix ix_list (pe_dget hu1 (pv 6) (pv 12) (fun _ _ => rfl)) (pv 17) (fun _ _ => rfl)))) pa_nil)) pa_nil)))))))))))
      (pss_one (ps_ret (pv 7)))))))))), ?_⟩
    -- settling
    refine ⟨_, rfl, _, rfl, _, rfl, w, g, us, rs, true, rfl, hg, dp, ok, hw, hl, fun p1 u1 ps1 Ha sa na ha da e1 l1 => ?_⟩
    refine ⟨w, p1, u1, ps1, rfl, hw, SqL.of ha, dps_same (wo_le p1) _ _ da, fun x hx => links_lt ok ((e1 x.1 x.2).mp hx), by omega, fun d1 kv1 MS H1 s1 nd1 hd1 en1 m1 => ?_⟩
    have o1 := sa.trans s1
    -- naming
    refine ⟨_, rfl, _, rfl, _, rfl, w, g, us, rs, false, rfl, same_t o1 hg, dps_same o1 _ _ dp, ok, hw, hl, fun p2 u2 ps2 Hb sb nb hb db e2 l2 => ?_⟩
    have o2 := o1.trans sb
    have db2 : DpAll K Hb u2 (ps2.map prd) := dps_same (wo_le p2) _ _ db
    have ul2 : u2.length = ps2.length := by rw [dps_len db2, List.length_map]
    refine ⟨p2, rfl, ⟨_, SqL.of hb⟩, fun Dn nDn => ?_⟩
    refine lc_list (xs := u2) (fun i G => MadeF prd K Hb Dn i G ((ps2.take i).map fun p => (p.2, p.1))) MadeF.start (fun i G _ z => SqL.of (z.old nDn _ _ hb)) ?_ ?_
    · intro i v G hv mo
      obtain ⟨⟨x, y⟩, hxy, dv⟩ := dps_pat db2 hv
      have il : i < ps2.length := (List.getElem?_eq_some_iff.mp hxy).1
      obtain ⟨t, rfl, ht⟩ := dp_p (dp_same (mo.old nDn) _ _ dv)
      refine ⟨t, _, rfl, ht, rfl, _, _, rfl, _, _, rfl, rfl, rfl, yes_if ?_⟩
      refine ⟨_, rfl, _, rfl, (by show 2 ≤ sizeLine; decide), fun t2 n2 => ?_⟩
      rw [SG.take_one hxy, List.map_append]
      exact mo.push (r := (y, x)) (by omega) (Nat.lt_succ_self _) (same_new n2) (p_dp (mo.tup n2))
    intro G mo
    rw [ul2, List.take_length] at mo
    have s2 := mo.old nDn
    obtain ⟨us3, _, hDn, dDn, _⟩ := mo
    have mem3 : ∀ x y, (x, y) ∈ ps2.map (fun p => (p.2, p.1)) ↔ Lk rs false y x := fun x y => by
      rw [← e2 y x, List.mem_map]
      exact ⟨fun ⟨p, hp, e⟩ => by cases e; exact hp, fun h => ⟨_, h, rfl⟩⟩
    refine ⟨w, Dn, us3, ps2.map fun p => (p.2, p.1), rfl, hw, SqL.of hDn, dps_same (wo_le Dn) _ _ dDn, fun x hx => (links_lt ok ((mem3 x.1 x.2).mp hx)).symm, by rw [List.length_map]; omega, fun d2 kv2 MN H2 s3 nd2 hd2 en2 m2 => ?_⟩
    have o12 : Same H1 H2 := sb.trans (s2.trans s3)
    have o02 := o1.trans o12
    -- numbers
    refine ⟨_, rfl, _, rfl, w, g, us, rs, rfl, hw, same_t o02 hg, dps_same o02 _ _ dp, ok, hl, tabs.ext o02, fun pl ul gs MG H3 e3 t3 npl hpl tgs m3 perm ord => ?_⟩
    have mod : ModM rs MS MN MG w := by
      refine ⟨fun x y hx hy => (m1 x y hx hy).trans (rch_rt (S := Sdn rs true) fun a b => e1 a b), fun x y hx hy => (m2 x y hx hy).trans (rch_rt (S := Sdn rs false) fun a b => mem3 a b), m3⟩
    have L := mod.lay hw
    have hd13 := e3 _ _ (o12 _ _ hd1) (tb_no rfl)
    have hd23 := e3 _ _ hd2 (tb_no rfl)
    have belE : ∀ {f : List Nat → List (List Nat)} {kvs : List (List Key × V)} {cs : List (List Nat)}, EntA (BelP f) H2 kvs cs → EntA (BelP f) H3 kvs cs := fun t => t.map fun c v ⟨l, ws, h1, h2, h3⟩ => ⟨l, ws, h1, ext_lst e3 h2, h3.extN e3⟩
    have en13 := belE (EntA.same en1 o12)
    have en23 := belE en2
    refine ⟨_, rfl, _, rfl, pl, d1, d2, ul, kv1, kv2, MS, MN, MG, w, gs, rfl, hpl, tgs, hd13, en13, hd23, en23, L, perm, ord, fun Tt Fr Nm H4 s4 nTt nFr nNm hTt hFr hNm => ?_⟩
    refine ⟨Tt, _, rfl, .inl (.inl hTt), rfl, _, _, rfl, _, _, rfl, rfl, ?_⟩
    -- values
    have hd14 := s4 _ _ hd13
    have hd24 := s4 _ _ hd23
    have en14 := EntA.same en13 s4
    refine ⟨_, rfl, _, rfl, d2, Nm, kv2, _, nM MS MN MG w, MN, w, rfl, (fun z => by rw [z, hd23] at nNm; cases nNm), hd24, EntA.same en23 s4, hNm, fun c hc => done_all L.g perm hc, Nat.le_trans L.n_all (by decide), hw, L.n, fun Vd vk H5 s5 nVd hVd va => ?_⟩
    have ext5 : ExtN H H5 := (ExtN.of o02).trans (e3.trans (ExtN.of (s4.trans s5)))
    have t5 : Tabs Ts H5 := (t3.ext s4).ext s5
    have hd15 := s5 _ _ hd14
    have en15 := EntA.same en14 s5
    have hFr5 := s5 _ _ hFr
    have get : ∀ {G : Hp} (x : Nat), x < w → Same (wo H5 d1) G → ∃ l, DGet G Vd (.int (x : Int)) (some (.ref l)) ∧ SqL K G l (nms (colM MS MN MG w x)) := fun {G} x hx e => by
      obtain ⟨l, vl, hl⟩ := va x hx
      have nl : l ≠ d1 := fun z => by rw [z, hd15] at hl; cases hl
      have nV : Vd ≠ d1 := fun z => by rw [z, hd15] at hVd; cases hVd
      refine ⟨l, ?_, SqL.of (e _ _ ((wo_ne nl).trans hl))⟩
      rw [← vl]
      exact DGet.k (k := Sum.inl (x : Int)) (e _ _ ((wo_ne nV).trans hVd))
    have ew : ((w : Nat) : Int).toNat = w := by omega
    -- the first row
    refine ⟨_, rfl, _, rfl, by omega, by omega, fun D6 n6 => ?_⟩
    refine lc_range (lo := 0) (n := ((w : Nat) : Int).toNat) (fun i G => Same H5 G ∧ G D6 = some (.lst (nms ((row0 MS MN MG w).take i)))) ⟨same_new n6, upd_same⟩ ?_ ?_
    · rintro i G hi ⟨sG, hG⟩
      have iw : i < w := by omega
      obtain ⟨l, dg, hs⟩ := get i iw (Same.trans (wo_le d1) sG)
      refine ⟨rfl, yes_if ?_⟩
      rw [Int.zero_add]
      refine ⟨_, rfl, _, rfl, Vd, _, rfl, dg, l, _, _, _, rfl, rfl, hs, atI_nat (j := 0) (nms_getDM (L.col_pos iw)), _, hG, ?_, same_mut sG n6, ?_⟩
      · rw [nms_len, List.length_take]
        exact small1000 (by omega)
      · rw [upd_same]
        unfold row0
        rw [rng_take _ iw, nms_app]
        rfl
    rintro H6 ⟨s6, h6⟩
    rw [ew] at h6
    have r0len : (row0 MS MN MG w).length = w := by
      unfold row0
      rw [List.length_map, List.length_range]
    rw [List.take_of_length_le (by omega)] at h6
    refine ⟨D6, _, rfl, .inl ⟨SqL.of h6, fun t0 nt0 => ?_⟩⟩
    have s7 : Same H6 (upd H6 t0 (.tup (nms (row0 MS MN MG w)))) := same_new nt0
    have h7 : (upd H6 t0 (.tup (nms (row0 MS MN MG w)))) t0 = some (.tup (nms (row0 MS MN MG w))) := upd_same
    generalize upd H6 t0 (.tup (nms (row0 MS MN MG w))) = H7 at s7 h7 ⊢
    refine ⟨(by show 1 ≤ sizeLine; decide), fun Rr nR => ?_⟩
    have s8 : Same H7 (upd H7 Rr (.lst [.ref t0])) := same_new nR
    have h8 : (upd H7 Rr (.lst [.ref t0])) Rr = some (.lst [.ref t0]) := upd_same
    have nR5 : H5 Rr = none := (s6.trans s7).free nR
    have ht8 := s8 _ _ h7
    generalize upd H7 Rr (.lst [.ref t0]) = H8 at s8 h8 ht8 ⊢
    have o58 : Same H5 H8 := s6.trans (s7.trans s8)
    -- the counts
    refine ⟨_, rfl, _, rfl, by omega, by omega, fun U nU => ?_⟩
    refine lc_range (lo := 0) (n := ((w : Nat) : Int).toNat) (fun i G => Same H8 G ∧ G U = some (.lst (nms (((List.range w).map (useM MS MN MG w [])).take i)))) ⟨same_new nU, upd_same⟩ ?_ ?_
    · rintro i G hi ⟨sG, hG⟩
      have iw : i < w := by omega
      refine ⟨rfl, yes_if ⟨_, hG, ?_, same_mut sG nU, ?_⟩⟩
      · rw [nms_len, List.length_take]
        exact small1000 (by omega)
      · rw [upd_same, rng_take _ iw, nms_app]
        rfl
    rintro H9 ⟨s9, h9⟩
    rw [ew, List.take_of_length_le (by rw [List.length_map, List.length_range]; omega)] at h9
    have o59 : Same H5 H9 := o58.trans s9
    have nU5 : H5 U = none := o58.free nU
    have RU : Rr ≠ U := ne_of_none h8 nU
    have hR9 := s9 _ _ h8
    have ht9 := s9 _ _ ht8
    have hd19 := o59 _ _ hd15
    have Rd1 : Rr ≠ d1 := fun z => by rw [z, hd15] at nR5; cases nR5
    have Ud1 : U ≠ d1 := fun z => by rw [z, hd15] at nU5; cases nU5
    have FrN : Fr ≠ d1 := fun z => by rw [← z, nFr] at hd13; cases hd13
    have enW : EntA (BelP (belM MS (clsM MS w))) (wo H5 d1) kv1 (clsM MS w) := en15.wo_ hd15
    refine ⟨d1, .dT kv1, hd19, trivial, fun od => ?_⟩
    refine ⟨_, rfl, d1, od, rfl, .inr ⟨kv1, upd_same, ?_⟩⟩
    refine for_it walk_keysT (fun i σ' G => ∃ v9 v10 v11 v12 v13 us', σ' = [some (.int (w : Int)), some (.ref g), some (.ref d1), some (.ref d2), some (.ref Fr), some (.ref Nm), some (.ref Vd), some (.ref Rr), some (.ref U), v9, v10, v11, v12, v13, none, none, none, none] ∧ Same (wo H5 d1) G ∧ G d1 = some (.frz od (.dT kv1)) ∧ G Rr = some (.lst us') ∧ TupA G us' (rowsTo MS MN MG w i) ∧ G U = some (.lst (nms ((List.range w).map (useM MS MN MG w ((clsM MS w).take i))))))
      ⟨_, _, _, _, _, [.ref t0], rfl, (wo_same o59).trans wo_lock, upd_same, (upd_ne Rd1).trans hR9, .cons ((upd_ne fun z => by rw [z, hd19] at ht9; cases ht9).trans ht9) .nil, (upd_ne Ud1).trans h9⟩ (fun i σ' G _ z => by
        obtain ⟨_, _, _, _, _, _, _, _, z2, _⟩ := z
        exact z2) ?_ ?_
    · rintro i x σ' G0 G hi ⟨v9, v10, v11, v12, v13, us9, rfl, oG, gd1, gR, tR, gU⟩ ⟨rfl, ky, v, qa, hkv, rfl, hqa⟩
      obtain ⟨c, hc, rfl, _⟩ := enW.at_ hkv
      rw [kyN_kV] at hqa
      have cm := List.mem_of_getElem? hc
      have ci : i < (clsM MS w).length := (List.getElem?_eq_some_iff.mp hc).1
      -- the columns that rise
      refine ⟨_, rfl, d1, od, rfl, .inr ⟨kv1, gd1, fun D nD => ?_⟩⟩
      refine any_it walk_keysT (fun j G2 => Same G G2 ∧ G2 D = some (.lst (nms (((clsM MS w).take j).filter fun o => decide (o = c) || decide (c ∈ belM MS (clsM MS w) o)).flatten))) ⟨same_new nD, upd_same⟩ (fun j G2 _ z => z.1 _ _ gd1) ?_ ?_
      · rintro j x2 G20 G2 hj ⟨s2, h2⟩ ⟨rfl, ky2, v2, qb, hkv2, rfl, hqb⟩
        obtain ⟨o, ho, rfl, _⟩ := enW.at_ hkv2
        rw [kyN_kV] at hqb
        have om := List.mem_of_getElem? ho
        obtain ⟨v', gv, bl, bu, rfl, hbl, tb⟩ := enW.get om
        refine ⟨rfl, ?_⟩
        refine ⟨_, rfl, _, rfl, gd o, gd c, dp_gd (.inl (.inl hqb)), dp_gd (.inl (.inl (s2 _ _ hqa))), RW.gd_shp _, RW.gd_shp _, ?_⟩
        rw [RW.gd_eqv]
        refine ⟨_, rfl, ?_⟩
        by_cases oc : o = c
        · have tst : (decide (o = c) || decide (c ∈ belM MS (clsM MS w) o)) = true := by rw [decide_eq_true oc]; rfl
          refine iteT' (decide_eq_true oc) (iteT ?_)
          refine ⟨_, rfl, qb, rfl, ⟨_, .inl (.inl hqb)⟩, ?_⟩
          refine any_it (walk_tup (K := K) (xs := nms o)) (fun k7 G7 => Same G G7 ∧ SameT G2 G7 ∧ G7 D = some (.lst (nms ((((clsM MS w).take j).filter fun o => decide (o = c) || decide (c ∈ belM MS (clsM MS w) o)).flatten ++ o.take k7)))) ⟨s2, same_T (Same.refl _), by rw [List.take_zero, List.append_nil]; exact h2⟩ (fun k7 G7 _ z => .inl (.inl (z.2.1.tup _ _ hqb))) ?_ ?_
          · rintro k7 x7 G70 G7 hk7 ⟨s7, sT7, h7⟩ ⟨rfl, hx7⟩
            obtain ⟨z, hz, rfl⟩ := nm_at2 hx7
            refine ⟨rfl, yes_if ⟨_, rfl, _, h7, ?_, same_mut s7 nD, sT7.trans (upd_lstT h7), ?_⟩⟩
            · rw [nms_len, List.length_append, List.length_take]
              have l1 := flat6 (((clsM MS w).take j).filter fun o => decide (o = c) || decide (c ∈ belM MS (clsM MS w) o)) fun p hp => cls_six hw (List.mem_of_mem_take (List.mem_filter.mp hp).1)
              have l2 := cls_six hw om
              have l3 := List.length_filter_le (fun o => decide (o = c) || decide (c ∈ belM MS (clsM MS w) o)) ((clsM MS w).take j)
              have l4 := cls_len (M := MS) (w := w)
              rw [List.length_take] at l3
              exact small1000 (by omega)
            · rw [upd_same, SG.take_one hz, ← List.append_assoc]
              simp only [nms_app]
              rfl
          rintro G7 ⟨s7, _, h7⟩
          rw [nms_len, List.take_length] at h7
          refine ⟨s7, ?_⟩
          rw [h7, SG.take_one ho, List.filter_append, List.filter_cons_of_pos (p := fun o => decide (o = c) || decide (c ∈ belM MS (clsM MS w) o)) tst, List.filter_nil, List.flatten_append, List.flatten_cons, List.flatten_nil, List.append_nil]
        · refine iteF' (decide_eq_false oc) ?_
          refine ⟨_, rfl, _, rfl, _, rfl, d1, _, rfl, (by rw [← gv]; exact DGet.lk (s2 _ _ gd1) (by rw [kyN_kV]; exact hqb)), gd c, (belM MS (clsM MS w) o).map gd, dp_gd (.inl (.inl (s2 _ _ hqa))), .lst (SqL.of (s2 _ _ (oG _ _ hbl))) ((tb.same (oG.trans s2)).dps), RW.gd_shp _, RW.gdl_shp _, ?_⟩
          rw [RW.gds_any]
          refine ⟨_, rfl, ?_⟩
          by_cases ob : c ∈ belM MS (clsM MS w) o
          · have tst : (decide (o = c) || decide (c ∈ belM MS (clsM MS w) o)) = true := by rw [decide_eq_true ob, Bool.or_true]
            refine iteT' (decide_eq_true ob) ?_
            refine ⟨_, rfl, qb, rfl, ⟨_, .inl (.inl hqb)⟩, ?_⟩
            refine any_it (walk_tup (K := K) (xs := nms o)) (fun k7 G7 => Same G G7 ∧ SameT G2 G7 ∧ G7 D = some (.lst (nms ((((clsM MS w).take j).filter fun o => decide (o = c) || decide (c ∈ belM MS (clsM MS w) o)).flatten ++ o.take k7)))) ⟨s2, same_T (Same.refl _), by rw [List.take_zero, List.append_nil]; exact h2⟩ (fun k7 G7 _ z => .inl (.inl (z.2.1.tup _ _ hqb))) ?_ ?_
            · rintro k7 x7 G70 G7 hk7 ⟨s7, sT7, h7⟩ ⟨rfl, hx7⟩
              obtain ⟨z, hz, rfl⟩ := nm_at2 hx7
              refine ⟨rfl, yes_if ⟨_, rfl, _, h7, ?_, same_mut s7 nD, sT7.trans (upd_lstT h7), ?_⟩⟩
              · rw [nms_len, List.length_append, List.length_take]
                have l1 := flat6 (((clsM MS w).take j).filter fun o => decide (o = c) || decide (c ∈ belM MS (clsM MS w) o)) fun p hp => cls_six hw (List.mem_of_mem_take (List.mem_filter.mp hp).1)
                have l2 := cls_six hw om
                have l3 := List.length_filter_le (fun o => decide (o = c) || decide (c ∈ belM MS (clsM MS w) o)) ((clsM MS w).take j)
                have l4 := cls_len (M := MS) (w := w)
                rw [List.length_take] at l3
                exact small1000 (by omega)
              · rw [upd_same, SG.take_one hz, ← List.append_assoc]
                simp only [nms_app]
                rfl
            rintro G7 ⟨s7, _, h7⟩
            rw [nms_len, List.take_length] at h7
            refine ⟨s7, ?_⟩
            rw [h7, SG.take_one ho, List.filter_append, List.filter_cons_of_pos (p := fun o => decide (o = c) || decide (c ∈ belM MS (clsM MS w) o)) tst, List.filter_nil, List.flatten_append, List.flatten_cons, List.flatten_nil, List.append_nil]
          · refine iteF' (decide_eq_false ob) ⟨s2, ?_⟩
            rw [h2, SG.take_one ho, List.filter_append, List.filter_cons_of_neg (p := fun o => decide (o = c) || decide (c ∈ belM MS (clsM MS w) o)) (by rw [decide_eq_false ob, decide_eq_false oc]; decide), List.filter_nil, List.append_nil]
      rintro G2 ⟨s2, h2⟩
      rw [enW.len, List.take_length] at h2
      have h2 : G2 D = some (.lst (nms (risL MS w c))) := h2
      have oG2 := oG.trans s2
      have gd12 := s2 _ _ gd1
      have gR2 := s2 _ _ gR
      have gU2 := s2 _ _ gU
      have tR2 := tR.same s2
      have qa2 := s2 _ _ hqa
      have DR : Rr ≠ D := ne_of_none gR nD
      have DU : U ≠ D := ne_of_none gU nD
      have rc95 : rM MS MN MG w c ≤ 95 := by
        have s := sum_sub (List.Sublist.map (rM MS MN MG w) (List.singleton_sublist.mpr cm))
        simp only [List.map_cons, List.map_nil, List.sum_cons, List.sum_nil] at s
        have := L.r_all
        omega
      have er : ((rM MS MN MG w c : Nat) : Int).toNat = rM MS MN MG w c := by omega
      clear s2 tR hqa gd1 gR gU oG nD
      -- its rows
      refine ⟨_, rfl, _, rfl, Fr, _, rfl, (by rw [← mapK_val (f := rM MS MN MG w) (done_all L.g perm cm)]; exact DGet.t (oG2 _ _ ((wo_ne FrN).trans hFr5)) (by rw [kyN_kV]; exact qa2)), _, rfl, by omega, by omega, ?_⟩
      refine for_range (lo := 0) (n := ((rM MS MN MG w c : Nat) : Int).toNat) (fun t σ' G => ∃ v11 v12 v13 us', σ' = [some (.int (w : Int)), some (.ref g), some (.ref d1), some (.ref d2), some (.ref Fr), some (.ref Nm), some (.ref Vd), some (.ref Rr), some (.ref U), some (.ref qa), some (.ref D), v11, v12, v13, none, none, none, none] ∧ Same (wo H5 d1) G ∧ G d1 = some (.frz od (.dT kv1)) ∧ G qa = some (.tup (nms c)) ∧ G D = some (.lst (nms (risL MS w c))) ∧ G Rr = some (.lst us') ∧ TupA G us' (rowsTo MS MN MG w i ++ rowsOf MS MN MG w ((clsM MS w).take i) c t) ∧ G U = some (.lst (nms ((List.range w).map fun x => useM MS MN MG w ((clsM MS w).take i) x + if risB MS w c x then t else 0))))
        ⟨_, _, _, us9, rfl, oG2, gd12, qa2, h2, gR2, by rw [show rowsOf MS MN MG w ((clsM MS w).take i) c 0 = [] from rfl, List.append_nil]; exact tR2, ?_⟩ ?_ ?_
      · rw [gU2]
        refine congrArg (fun l => some (HO.lst (nms l))) (List.map_congr_left fun x _ => ?_)
        split <;> rfl
      · rintro t σ' G ht ⟨v11, v12, v13, us3, rfl, oG, gd1, hqa, gD, gR, tR, gU⟩
        have ht : t < rM MS MN MG w c := by omega
        -- one more
        refine ⟨_, rfl, D, rfl, ⟨_, SqL.of gD⟩, ?_⟩
        refine for_list (xs := nms (risL MS w c)) (fun j σ3 G3 => ∃ v12, σ3 = [some (.int (w : Int)), some (.ref g), some (.ref d1), some (.ref d2), some (.ref Fr), some (.ref Nm), some (.ref Vd), some (.ref Rr), some (.ref U), some (.ref qa), some (.ref D), some (.int (0 + (t : Int))), v12, v13, none, none, none, none] ∧ (∀ b, b ≠ U → G3 b = G b) ∧ G3 U = some (.lst (nms ((List.range w).map fun x => useM MS MN MG w ((clsM MS w).take i) x + (if risB MS w c x then t else 0) + if x ∈ (risL MS w c).take j then 1 else 0))))
          ⟨_, rfl, fun _ _ => rfl, by simpa using gU⟩ (fun j σ3 G3 _ z => by
            obtain ⟨_, _, z2, _⟩ := z
            exact SqL.of ((z2 D (Ne.symm DU)).trans gD)) ?_ ?_
        · rintro j x σ3 G3 hx ⟨v12, rfl, e3, h3⟩
          obtain ⟨y, hy, rfl⟩ := nm_at2 hx
          have yr := (risL_mem L.s).mp (List.mem_of_getElem? hy)
          have yn : y ∉ (risL MS w c).take j := fun z => by
            obtain ⟨m, hm, em⟩ := List.mem_iff_getElem.mp z
            rw [List.length_take] at hm
            rw [List.getElem_take] at em
            obtain ⟨hj, ej⟩ := List.getElem?_eq_some_iff.mp hy
            exact List.pairwise_iff_getElem.mp (risL_nodup (c := c) L.s) m j (by omega) hj (by omega) (em.trans ej.symm)
          refine ⟨_, rfl, _, rfl, U, _, y, _, rfl, rfl, SqL.of h3, nms_rng _ yr.1, _, _, rfl, rfl, U, _, _, y, rfl, rfl, h3, ?_, _, rfl, fun b hb => (upd_ne hb).trans (e3 b hb), ?_⟩
          · unfold ixN
            rw [if_pos (by omega), if_pos (by rw [nms_len, List.length_map, List.length_range]; omega)]
            rfl
          · rw [upd_same]
            have e9 : ∀ a : Nat, V.int ((a : Int) + 1) = V.int ((a + 1 : Nat) : Int) := fun a => rfl
            rw [e9, nms_setM, set_rng]
            refine congrArg (fun l => some (HO.lst (nms l))) (List.map_congr_left fun x _ => ?_)
            rw [SG.take_one hy]
            by_cases xy : x = y
            · subst xy
              rw [if_pos rfl, if_neg yn, if_pos (List.mem_append_right _ List.mem_cons_self)]
            · rw [if_neg xy]
              by_cases xm : x ∈ (risL MS w c).take j
              · rw [if_pos xm, if_pos (List.mem_append_left _ xm)]
              · rw [if_neg xm, if_neg fun z => (List.mem_append.mp z).elim xm fun z => xy (List.mem_singleton.mp z)]
        rintro σ3 G3 ⟨v12', rfl, e3, h3⟩
        rw [nms_len, List.take_length] at h3
        have h3 : G3 U = some (.lst (nms ((List.range w).map fun x => useM MS MN MG w ((clsM MS w).take i) x + if risB MS w c x then t + 1 else 0))) := by
          rw [h3]
          refine congrArg (fun l => some (HO.lst (nms l))) (List.map_congr_left fun x hx => ?_)
          have hx := List.mem_range.mp hx
          by_cases rb : risB MS w c x = true
          · rw [if_pos rb, if_pos rb, if_pos ((risL_mem L.s).mpr ⟨hx, rb⟩)]
            omega
          · rw [if_neg rb, if_neg rb, if_neg fun z => rb ((risL_mem L.s).mp z).2]
        have o3 : Same (wo H5 d1) G3 := fun b o e => by
          have nb : b ≠ U := fun z => by
            rw [z, wo_ne Ud1, nU5] at e
            cases e
          rw [e3 b nb]
          exact oG b o e
        have g3d1 := (e3 d1 (Ne.symm Ud1)).trans gd1
        have g3D := (e3 D (Ne.symm DU)).trans gD
        have g3R := (e3 Rr RU).trans gR
        have eqG : G3 = upd G U (.lst (nms ((List.range w).map fun x => useM MS MN MG w ((clsM MS w).take i) x + if risB MS w c x then t + 1 else 0))) := by
          funext b
          by_cases nb : b = U
          · rw [nb, h3, upd_same]
          · rw [e3 b nb, upd_ne nb]
        have sT : SameT G G3 := by
          rw [eqG]
          exact upd_lstT gU
        have tR3 := tR.T sT
        have qa3 := sT.tup _ _ hqa
        clear eqG sT e3 gU gD gR tR hqa gd1 oG
        -- the places
        refine ⟨_, rfl, _, rfl, by omega, by omega, fun Pp nP => ?_⟩
        refine lc_range (lo := 0) (n := ((w : Nat) : Int).toNat) (fun j G4 => Same G3 G4 ∧ G4 Pp = some (.lst (nms (((List.range w).map fun x => if risB MS w c x then useM MS MN MG w ((clsM MS w).take i) x + t + 1 else 0).take j)))) ⟨same_new nP, upd_same⟩ ?_ ?_
        · rintro j G4 hj ⟨s4', h4⟩
          have jw : j < w := by omega
          refine ⟨rfl, yes_if ?_⟩
          rw [Int.zero_add (j : Int)]
          refine ⟨_, rfl, _, rfl, D, _, rfl, .inl (SqL.of (s4' _ _ g3D)), rfl, nms_flat _, _, rfl, ?_⟩
          rw [show inV (V.int ((j : Nat) : Int)) (nms (risL MS w c)) = decide (j ∈ risL MS w c) from nms_in _ _]
          have fewP : (nms (((List.range w).map fun x => if risB MS w c x then useM MS MN MG w ((clsM MS w).take i) x + t + 1 else 0).take j)).length < sizeLine := by
            rw [nms_len, List.length_take]
            exact small1000 (by omega)
          by_cases rb : risB MS w c j = true
          · refine iteT' (decide_eq_true ((risL_mem L.s).mpr ⟨jw, rb⟩)) ?_
            refine ⟨_, rfl, _, rfl, U, _, _, _, rfl, rfl, SqL.of (s4' _ _ h3), atI_nat (nms_rng _ jw), _, h4, fewP, same_mut s4' nP, ?_⟩
            rw [upd_same, rng_take _ jw, nms_app, if_pos rb, if_pos rb]
            rfl
          · refine iteF' (decide_eq_false fun z => rb ((risL_mem L.s).mp z).2) ?_
            refine ⟨_, h4, fewP, same_mut s4' nP, ?_⟩
            rw [upd_same, rng_take _ jw, nms_app, if_neg rb]
            rfl
        rintro G4 ⟨s4', h4⟩
        rw [ew, List.take_of_length_le (by rw [List.length_map, List.length_range]; omega)] at h4
        -- the row
        have g4R := s4' _ _ g3R
        refine ⟨_, rfl, .inl ⟨rfl, _, SqL.of g4R⟩, _, rfl, Pp, _, rfl, SqL.of h4, fun Dr nDr => ?_⟩
        refine lc_enum (xs := nms ((List.range w).map fun x => if risB MS w c x then useM MS MN MG w ((clsM MS w).take i) x + t + 1 else 0)) (fun j G5 => Same G4 G5 ∧ G5 Dr = some (.lst (nms ((rowM MS MN MG w ((clsM MS w).take i) c t).take j)))) ⟨same_new nDr, upd_same⟩ (fun j G5 _ z => SqL.of (z.1 _ _ h4)) ?_ ?_
        · rintro j v tp G5 hv ⟨s5', h5⟩ ntp
          have jw : j < w := by
            have := (List.getElem?_eq_some_iff.mp hv).1
            rw [nms_len, List.length_map, List.length_range] at this
            exact this
          rw [nms_rng _ jw] at hv
          cases hv
          obtain ⟨l, dg, hs⟩ := get j jw (o3.trans (s4'.trans (s5'.trans (same_new (o := .tup [.int ((j : Nat) : Int), .int (((if risB MS w c j then useM MS MN MG w ((clsM MS w).take i) j + t + 1 else 0 : Nat)) : Int)]) ntp))))
          have s6' := same_new (o := .tup [.int ((j : Nat) : Int), .int (((if risB MS w c j then useM MS MN MG w ((clsM MS w).take i) j + t + 1 else 0 : Nat)) : Int)]) ntp
          refine ⟨tp, _, rfl, .inl (.inl upd_same), rfl, _, _, rfl, _, _, rfl, rfl, rfl, yes_if ?_⟩
          refine ⟨_, rfl, _, rfl, Vd, _, rfl, dg, _, rfl, l, _, _, _, rfl, rfl, hs, atI_nat (nms_getDM (L.ix_lt jw hc ht)), _, s6' _ _ h5, ?_, same_mut (s5'.trans s6') nDr, ?_⟩
          · rw [nms_len, List.length_take]
            exact small1000 (by omega)
          · rw [upd_same]
            unfold rowM
            rw [rng_take _ jw, nms_app]
            rfl
        rintro G5 ⟨s5', h5⟩
        rw [nms_len, List.length_map, List.length_range, List.take_of_length_le (by unfold rowM; rw [List.length_map, List.length_range]; omega)] at h5
        refine ⟨Dr, _, rfl, .inl ⟨SqL.of h5, fun tt ntt => ?_⟩⟩
        have s6' : Same G5 (upd G5 tt (.tup (nms (rowM MS MN MG w ((clsM MS w).take i) c t)))) := same_new ntt
        have h6' : (upd G5 tt (.tup (nms (rowM MS MN MG w ((clsM MS w).take i) c t)))) tt = some (.tup (nms (rowM MS MN MG w ((clsM MS w).take i) c t))) := upd_same
        generalize upd G5 tt (.tup (nms (rowM MS MN MG w ((clsM MS w).take i) c t))) = G6 at s6' h6' ⊢
        have o36 : Same G3 G6 := s4'.trans (s5'.trans s6')
        have g6R := o36 _ _ g3R
        have lenR : us3.length ≤ 200 := by
          rw [tR3.len, List.length_append]
          have l1 := L.rows_len (i := i) (by omega)
          have l2 : (rowsOf MS MN MG w ((clsM MS w).take i) c t).length = t := by
            unfold rowsOf
            rw [List.length_map, List.length_range]
          omega
        refine ⟨Rr, us3, .ref tt, rfl, rfl, g6R, small1000 (by omega), _, _, _, us3 ++ [.ref tt], rfl, fun b o e => ?_, (upd_ne (Ne.symm Rd1)).trans (o36 _ _ g3d1), ?_, (upd_ne (Ne.symm DR)).trans (o36 _ _ g3D), upd_same, ?_, (upd_ne (Ne.symm RU)).trans (o36 _ _ h3)⟩
        · have nb : b ≠ Rr := fun z => by
            rw [z, wo_ne Rd1, nR5] at e
            cases e
          rw [upd_ne nb]
          exact (o3.trans o36) b o e
        · exact (upd_lstT g6R).tup _ _ (o36 _ _ qa3)
        · rw [rowsOf_succ, ← List.append_assoc]
          exact ((tR3.same o36).T (upd_lstT g6R)).app ((upd_lstT g6R).tup _ _ h6')
      rintro σ' G ⟨v11, v12, v13, us3, rfl, oG, gd1, hqa, gD, gR, tR, gU⟩
      rw [er] at tR gU
      refine ⟨_, _, _, _, _, us3, rfl, oG, gd1, gR, by rw [rowsTo_succ hc]; exact tR, ?_⟩
      rw [gU, SG.take_one hc]
      refine congrArg (fun l => some (HO.lst (nms l))) (List.map_congr_left fun x _ => ?_)
      rw [use_snoc]
    rintro σ' G ⟨v9, v10, v11, v12, v13, us9, rfl, oG, gd1, gR, tR, gU⟩
    rw [enW.len] at tR
    refine ⟨gd1, ?_⟩
    have s5G : Same H5 (upd G d1 (.dT kv1)) := same_unlock hd15 oG
    refine ⟨_, rfl, q Rr us9 MS MN MG _ (ext5.trans (ExtN.of s5G)) (t5.ext s5G) ?_ ((upd_ne Rd1).trans gR) ?_ mod⟩
    · exact (ext_nt ext5).free (nt_none nR5)
    · have un : ∀ {us : List V} {rs : List (List Nat)}, TupA G us rs → TupA (upd G d1 (.dT kv1)) us rs := fun t => by
        induction t with
        | nil => exact .nil
        | cons h _ ih => exact .cons ((upd_ne fun z => by rw [z, gd1] at h; cases h).trans h) ih
      exact un tR
end
end CC
namespace CC
open PySem L2 TL
/-- Table(width, *rows), the rows good ones -/
theorem mkT_go {K : PySem.W.Frag} {C : Addr} {H : Hp} {w : Nat} {us : List V} {rows : List (List Nat)} {x dx : Addr} {Q : VK} {E : XK} (w1 : 1 ≤ w) (w6 : w ≤ 6) (ok : ∀ r ∈ rows, RowOk w r) (few : rows.length ≤ 400) (dp : DpAll K H us (rows.map gd)) (nx : H x = none) (ndx : H dx = none) (ne : dx ≠ x)
    (q : ∀ H', Same H H' → TableAt K C H' x w rows → Q .non H') : spTInitR K C (V.ref x :: V.int (w : Int) :: (us ++ [])) (upd (upd H dx (.own x)) x (.ins C dx [])) Q E := by
  have ul : us.length = rows.length := by rw [dps_len dp, List.length_map]
  rw [List.append_nil]
  refine ⟨[.ref x, .int (w : Int)], us, rfl, rfl, Nat.le_of_lt (small1000 (by omega)), fun g ng => ?_⟩
  have gx : x ≠ g := fun z => by rw [← z, upd_same] at ng; cases ng
  have gdx : dx ≠ g := fun z => by rw [← z, upd_ne ne, upd_same] at ng; cases ng
  have ng1 : H g = none := by
    rw [upd_ne gx.symm, upd_ne gdx.symm] at ng
    exact ng
  have keep : ∀ b o, H b = some o → (upd (upd (upd H dx (.own x)) x (.ins C dx [])) g (.tup us)) b = some o := fun b o e => by
    rw [upd_ne (ne_of_none e ng1), upd_ne (ne_of_none e nx), upd_ne (ne_of_none e ndx)]
    exact e
  refine ⟨x, dx, w, g, us, rows, rfl, by rw [upd_ne gx]; exact upd_same, w1, w6, upd_same, dps_same ?_ _ _ dp, ok, few, fun H' k1 k2 => q H' ?_ ⟨dx, g, us, k2, ?_, ?_⟩⟩
  · exact fun b o e => by
      rw [wo_ne (ne_of_none e nx)]
      exact keep b o e
  · exact fun b o e => k1 b o (keep b o e) (ne_of_none e nx)
  · exact k1 g _ upd_same gx.symm
  · exact dps_same (fun b o e => k1 b o (keep b o e) (ne_of_none e nx)) _ _ dp
end CC
namespace CC
open PySem L2 LamX PyProof.Rows TL
/-! ### model -/
abbrev sMdl : Stmt := tp 51
abbrev nMdl : List Str := ["rules", "rows"]
theorem Lay.row_ok {MS MN MG : Nat → Nat → Bool} {w : Nat} (L : Lay MS MN MG w) : ∀ r ∈ rowsM MS MN MG w, RowOk w r := by
  have one : ∀ f : Nat → Nat, (∀ x, x < w → f x < (colM MS MN MG w x).length) → RowOk w ((List.range w).map fun x => (colM MS MN MG w x).getD (f x) 0) := fun f hf => by
    refine ⟨by rw [List.length_map, List.length_range], fun v hv => ?_⟩
    obtain ⟨x, hx, rfl⟩ := List.mem_map.mp hv
    have hx := List.mem_range.mp hx
    have := L.col_small hx (getD_lt (hf x hx))
    omega
  intro r hr
  unfold rowsM rowsTo at hr
  rcases List.mem_cons.mp hr with rfl | hr
  · exact one (fun _ => 0) fun x hx => L.col_pos hx
  · obtain ⟨j, hj, hr⟩ := List.mem_flatMap.mp hr
    have hj := List.mem_range.mp hj
    unfold rowsOf at hr
    obtain ⟨t, ht, rfl⟩ := List.mem_map.mp hr
    have ht := List.mem_range.mp ht
    have hc : (clsM MS w)[j]? = Option.some ((clsM MS w).getD j []) := by
      rw [List.getD_eq_getElem?_getD, List.getElem?_eq_getElem hj]
      rfl
    exact one (fun x => if risB MS w ((clsM MS w).getD j []) x then useM MS MN MG w ((clsM MS w).take j) x + t + 1 else 0) fun x hx => L.ix_lt hx hc ht
def spMdl (K : PySem.W.Frag) (C Z : Addr) (Ts : List (Addr × Str)) : Sp := fun vs H Q _ => ∃ (x : Addr) (w : Nat) (rs : List R), vs = [.ref x] ∧ RulesAt K C H x w rs ∧ (∀ r ∈ rs, r.ok w) ∧ 1 ≤ w ∧ w ≤ 6 ∧ rs.length ≤ 60 ∧ Tabs Ts H ∧
  ∀ (z : Addr) (MS MN MG : Nat → Nat → Bool) (H' : Hp), ExtN H H' → Tabs Ts H' → nt H z = none → TableAt K Z H' z w (rowsM MS MN MG w) → ModM rs MS MN MG w → Q (.ref z) H'
section
variable {P : Program} {w : World} {K : PySem.W.Frag} {mg : Str → Option Value} {base : Heap} {kA : Addr}
theorem RulesAt.extN {H H' : Hp} {C x : Addr} {w : Nat} {rs : List R} (h : RulesAt K C H x w rs) (e : ExtN H H') : RulesAt K C H' x w rs := by
  obtain ⟨dx, g, us, h1, h2, h3⟩ := h
  exact ⟨dx, g, us, e _ _ h1 (tb_no rfl), e _ _ h2 (tb_no rfl), dps_ext e _ _ h3⟩
theorem scMdl : FnScope nMdl ["rules"] (defScope sMdl) := ⟨rfl, rfl, rfl, by decide +kernel, rfl, by decide +kernel, by decide +kernel⟩
theorem ok_mdl {f C Z : Addr} {fd : FuncData} {k : Nat} {Ts : List (Addr × Str)} (F : Fun K "model" "model" sMdl f fd) (TC : Txt1 K mg C) (TZ : TxtT K mg Z) (pW : Prp P w K mg base C "width" "span") (pR : Prp P w K mg base C "rules" "given") (cK : Cal P w K mg base "check_rules" ["rules"] (spChk K C) 1)
    (cM : Cal P w K mg base "model_rows" ["width", "rules"] (spMr K Ts) 7) (m : MakeT P w K mg base Z 3) : FnOk P w K mg base CX0 (k + 8) f fd ["rules"] (spMdl K C Z Ts) := by
  have GK := cK.ok (k + 7) (by omega)
  have GM := cM.ok (k + 7) (by omega)
  have GT := m.ok (k + 6) (by omega)
  refine F.ok scMdl (fun vs H Q E h => ?_) (fun cdv A outer s H vs Q E hr h => ?_)
  · obtain ⟨x, w, rs, rfl, _⟩ := h
    rfl
  · obtain ⟨x, w, rs, rfl, ra, ho, w1, hw, hl, tabs, q⟩ := h
    obtain ⟨dx, g, us, h1, h2, h3⟩ := id ra
    have n := scMdl.nd
    refine ⟨_, pss_cons (ps_expr (pe_call GK hr rfl cK.g cK.kp cK.b .nil pass0 (pa_cons (pv 0) pa_nil)))
      (pss_cons (ps_set (i := 1) n rfl (.inl rfl) (pe_call GM hr rfl cM.g cM.kp cM.b .nil pass0 (pa_cons (pe_prop (pv 0) TC.cl pW.hp (pW.ok (k + 6) (by omega)) hr pW.b .nil pass0 rfl) (pa_cons (pe_prop (pv 0) TC.cl pR.hp (pR.ok (k + 6) (by omega)) hr pR.b .nil pass0 rfl) pa_nil))))
      (pss_one (ps_ret (pe_makeRS m.M GT hr rfl TZ.mgC pass0 (pa_cons (pe_prop (pv 0) TC.cl pW.hp (pW.ok (k + 6) (by omega)) hr pW.b .nil pass0 rfl) (StX.pa_star (pv 1) pa_nil)))))), ?_⟩
    refine ⟨_, rfl, x, w, rs, rfl, ra, ?_⟩
    refine ⟨_, rfl, x, dx, _, rfl, h1, x, dx, _, _, rfl, h1, flds_span _ _, ?_⟩
    refine ⟨_, rfl, x, dx, _, rfl, h1, x, dx, _, _, rfl, h1, flds_given _ _, ?_⟩
    refine ⟨w, g, us, rs, rfl, hw, .inl (.inl h2), h3, ho, hl, tabs, fun p up MS MN MG H1 e1 t1 np hp tp mod => ?_⟩
    have L := mod.lay hw
    have h1' := e1 _ _ h1 (tb_no rfl)
    refine ⟨_, rfl, x, dx, _, rfl, h1', x, dx, _, _, rfl, h1', flds_span _ _, _, rfl, p, up, rfl, .inr (SqL.of hp), fun z dz nz ndz ne => ?_⟩
    have few : (rowsM MS MN MG w).length ≤ 400 := Nat.le_trans (L.rows_len (Nat.le_refl _)) (by decide)
    refine mkT_go w1 hw (rows := rowsM MS MN MG w) L.row_ok few tp.dps nz ndz ne fun H3 s3 t3 => ⟨rfl, q z MS MN MG H3 (e1.trans (ExtN.of s3)) (t1.ext s3) ((ext_nt e1).free (nt_none nz)) t3 mod⟩
end
end CC
/-! ### a pen: draws that are counted -/
namespace CC
open PySem L2 TL
abbrev sPen : Stmt := tp 54
abbrev sPDraw : Stmt := tp 55
abbrev sPRule : Stmt := tp 56
def IsPen (c : Nat) (o : HO) : Prop := ∃ (a : Int) (b z : Nat), o = .lst [.int a, .int (b : Int), .int (z : Int)] ∧ b < 2147483648 ∧ z ≤ c
def Pen (H : Hp) (s : Addr) (c : Nat) : Prop := ∃ o, H s = some o ∧ IsPen c o
theorem IsPen.mono {c c' : Nat} {o : HO} (h : IsPen c o) (hc : c ≤ c') : IsPen c' o := by
  obtain ⟨a, b, z, e, h1, h2⟩ := h
  exact ⟨a, b, z, e, h1, Nat.le_trans h2 hc⟩
theorem Pen.mono {H : Hp} {s : Addr} {c c' : Nat} (h : Pen H s c) (hc : c ≤ c') : Pen H s c' := by
  obtain ⟨o, h1, h2⟩ := h
  exact ⟨o, h1, h2.mono hc⟩
theorem Pen.lst {H : Hp} {s : Addr} {c : Nat} (h : Pen H s c) : ∃ us, H s = some (.lst us) := by
  obtain ⟨o, h1, a, b, z, e, _⟩ := h
  exact ⟨_, by rw [h1, e]⟩
theorem Pen.same {H H' : Hp} {s : Addr} {c : Nat} (h : Pen H s c) (e : Same H H') : Pen H' s c := by
  obtain ⟨o, h1, h2⟩ := h
  exact ⟨o, e _ _ h1, h2⟩
structure RanP (H H' : Hp) (s : Addr) (c : Nat) : Prop where
  same : Same (wo H s) (wo H' s)
  src : Pen H' s c
section
variable {H H1 H2 : Hp} {s b : Addr} {c c' : Nat} {o : HO}
theorem RanP.refl (h : Pen H s c) : RanP H H s c := ⟨Same.refl _, h⟩
theorem RanP.one (h : IsPen c o) : RanP H (upd H s o) s c := ⟨by rw [wo_upd]; exact Same.refl _, o, upd_same, h⟩
theorem RanP.trans (a : RanP H H1 s c) (b : RanP H1 H2 s c') : RanP H H2 s c' := ⟨a.same.trans b.same, b.src⟩
theorem RanP.grow (a : RanP H H1 s c) (b : Same H1 H2) : RanP H H2 s c := ⟨a.same.trans (wo_same b), a.src.same b⟩
theorem RanP.mono (a : RanP H H1 s c) (h : c ≤ c') : RanP H H1 s c' := ⟨a.same, a.src.mono h⟩
theorem RanP.at_ (a : RanP H H1 s c) (h : H b = some o) (n : b ≠ s) : H1 b = some o := wo_le s _ _ (a.same b o (by rw [wo_ne n]; exact h))
theorem RanP.free (a : RanP H H1 s c) (h : H1 b = none) : H b = none := by
  by_cases e : b = s
  · obtain ⟨o, h1, _⟩ := a.src
    rw [e, h1] at h
    cases h
  · cases z : H b with
    | none => rfl
    | some o =>
      rw [a.at_ z e] at h
      cases h
theorem RanP.ne (a : RanP H H1 s c) (h : H1 b = none) : b ≠ s := fun e => by
  obtain ⟨o, h1, _⟩ := a.src
  rw [e, h1] at h
  cases h
theorem RanP.T (r : RanP H H1 s c) (h : Pen H s c') : SameT H H1 := by
  obtain ⟨us, hs⟩ := h.lst
  constructor
  · intro b xs e
    exact r.at_ e (ne_of e hs (by intro z; cases z))
  · intro b o xs e
    exact r.at_ e (ne_of e hs (by intro z; cases z))
/-- a list beside the pen changes -/
theorem RanP.put {us : List V} {p : Addr} (r : RanP H H1 s c) (hp : H p = none) (n : p ≠ s) : RanP H (upd H1 p o) s c := by
  refine ⟨fun b u e => ?_, ?_⟩
  · have hb : b ≠ s := fun z => by
      rw [z, wo_at] at e
      cases e
    have bp : b ≠ p := fun z => by
      rw [wo_ne hb, z, hp] at e
      cases e
    have := r.same b u e
    rw [wo_ne hb] at this ⊢
    rw [upd_ne bp]
    exact this
  · obtain ⟨o', h1, h2⟩ := r.src
    exact ⟨o', by rw [upd_ne (Ne.symm n)]; exact h1, h2⟩
end
def spPen : Sp := fun vs H Q _ => ∃ z : Int, vs = [.int z] ∧ ∀ p o, H p = none → IsPen 0 o → Q (.ref p) (upd H p o)
def spPDraw : Sp := fun vs H Q _ => ∃ (s : Addr) (m c : Nat), vs = [.ref s, .int (m : Int)] ∧ Pen H s c ∧ c < 1000000 ∧ 0 < m ∧ m < 1000000 ∧ ∀ (r : Nat) (H' : Hp), r < m → RanP H H' s (c + 1) → Q (.int (r : Int)) H'
def spPRule (K : PySem.W.Frag) : Sp := fun vs H Q _ => ∃ (s : Addr) (w c : Nat), vs = [.ref s, .int (w : Int)] ∧ Pen H s c ∧ c < 900000 ∧ 2 ≤ w ∧ w ≤ 6 ∧ ∀ (t : Addr) (r : R) (H' : Hp), r.ok w → RanP H H' s (c + 3) → H t = none → t ≠ s → Dp K H' (.ref t) r.d → Q (.ref t) H'
section
variable {P : Program} {w : World} {K : PySem.W.Frag} {mg : Str → Option Value} {base : Heap} {kA : Addr}
theorem scPen : FnScope ["_law_cell"] ["_law_cell"] (defScope sPen) := ⟨rfl, rfl, rfl, by decide +kernel, rfl, by decide +kernel, by decide +kernel⟩
theorem ok_pen {f : Addr} {fd : FuncData} {k : Nat} (F : Fun K "_law_pen" "_law_pen" sPen f fd) (T : Glb K mg kA) : FnOk P w K mg base CX0 (k + 1) f fd ["_law_cell"] spPen := by
  refine F.ok scPen (fun vs H Q E h => ?_) (fun cdv A outer s H vs Q E hr h => ?_)
  · obtain ⟨z, rfl, _⟩ := h
    rfl
  · obtain ⟨z, rfl, q⟩ := h
    refine ⟨_, (pss_one (ps_ret (pe_lst (pa_cons (pe_callB (call_max2 rfl) (by rfl) T.max (by decide +kernel) (pa_cons pe_int (pa_cons (pe_op op_sub (pv 0) (pe_op op_pow pe_int pe_int)) pa_nil))) (pa_cons (pe_op op_mod (pv 0) pe_int) (pa_cons pe_int pa_nil)))))), ?_⟩
    refine ⟨_, rfl, _, _, rfl, rfl, ⟨by decide, by decide, by decide⟩, _, _, rfl, rfl, _, _, rfl, _, rfl, _, _, rfl, rfl, (by show (0 : Int) < 1000000007; decide), (by show 3 ≤ sizeLine; decide), fun p hp => ?_⟩
    have e : ((z % 1000000007).toNat : Int) = z % 1000000007 := Int.toNat_of_nonneg (by omega)
    have := q p (.lst [.int (if z - 10 ^ Int.toNat 18 > 0 then z - 10 ^ Int.toNat 18 else 0), .int ((z % 1000000007).toNat : Int), .int ((0 : Nat) : Int)]) hp ⟨_, (z % 1000000007).toNat, 0, rfl, by omega, Nat.le_refl _⟩
    rw [e] at this
    exact this
theorem scPDraw : FnScope ["_law_pen_here", "_law_many", "_law_digit", "_law_stir"] ["_law_pen_here", "_law_many"] (defScope sPDraw) := ⟨rfl, rfl, rfl, by decide +kernel, rfl, by decide +kernel, by decide +kernel⟩
theorem nat_r {Q : V → Prop} {m : Nat} {r : Int} (h0 : 0 ≤ r) (h1 : r < (m : Int)) (q : ∀ n : Nat, n < m → Q (.int (n : Int))) : Q (.int r) := by
  have := q r.toNat (by omega)
  rwa [Int.toNat_of_nonneg h0] at this
theorem ok_pdraw {f : Addr} {fd : FuncData} {k : Nat} (F : Fun K "_law_draw" "_law_draw" sPDraw f fd) : FnOk P w K mg base CX0 (k + 1) f fd ["_law_pen_here", "_law_many"] spPDraw := by
  refine F.ok scPDraw (fun vs H Q E h => ?_) (fun cdv A outer s H vs Q E hr h => ?_)
  · obtain ⟨a, m, c, rfl, _⟩ := h
    rfl
  · obtain ⟨a, m, c, rfl, ⟨o, ho, x, y, z, rfl, hy, hz⟩, hc, m0, m1, q⟩ := h
    have n := scPDraw.nd
    have m0' : (0 : Int) < (m : Int) := by omega
    refine ⟨_, (pss_cons (ps_if (pt_cmpR op_gt (pe_ix ix_list (pv 0) pe_int (fun _ _ => rfl)) pe_int (nomark _))
        (pss_cons (ps_set (i := 2) n rfl (.inl rfl) (pe_op op_mod (pe_ix ix_list (pv 0) pe_int (fun _ _ => rfl)) (pv 1)))
        (pss_cons (ps_asg (pe_op op_fdiv (pe_ix ix_list (pv 0) pe_int (fun _ _ => rfl)) (pv 1)) (pg_sub (pv 0) pe_int set_list))
        (pss_one (ps_ret (pv 2))))) pss_nil)
      (pss_cons (ps_asg (pe_op op_add (pe_ix ix_list (pv 0) pe_int (fun _ _ => rfl)) pe_int) (pg_sub (pv 0) pe_int set_list))
      (pss_cons (ps_set (i := 3) n rfl (.inl rfl) (pe_op op_mod (pe_op op_mul (pe_op op_add (pe_ix ix_list (pv 0) pe_int (fun _ _ => rfl)) (pe_op op_mul pe_int (pe_ix ix_list (pv 0) pe_int (fun _ _ => rfl)))) (pe_op op_add pe_int (pe_op op_mul pe_int (pe_ix ix_list (pv 0) pe_int (fun _ _ => rfl))))) pe_int))
      (pss_cons (ps_set (i := 3) n rfl (.inl rfl) (pe_op op_mod (pe_op op_add (pe_op op_add (pe_op op_mul (pv 3) (pv 3)) (pe_op op_mul pe_int (pe_ix ix_list (pv 0) pe_int (fun _ _ => rfl)))) pe_int) pe_int))
      (pss_one (ps_ret (pe_op op_mod (pe_op op_fdiv (pe_op op_mod (pe_op op_mul (pv 3) pe_int) pe_int) pe_int) (pv 1)))))))), ?_⟩
    have hA : SqL K H a [.int x, .int (y : Int), .int (z : Int)] := SqL.of ho
    refine ⟨_, rfl, a, _, _, _, rfl, rfl, hA, rfl, _, _, rfl, rfl, _, rfl, ite2 (fun e => ?_) (fun e => ?_)⟩
    · refine ⟨_, rfl, a, _, _, _, rfl, rfl, hA, rfl, _, rfl, _, _, rfl, rfl, m0', ?_⟩
      refine ⟨_, rfl, a, _, _, _, rfl, rfl, hA, rfl, _, rfl, _, _, rfl, rfl, ⟨m0', by omega⟩, _, rfl, a, _, _, 0, rfl, rfl, ho, rfl, ?_⟩
      refine ⟨_, rfl, ?_⟩
      exact nat_r (Q := fun v => Q v _) (Int.emod_nonneg _ (by omega)) (Int.emod_lt_of_pos _ m0') fun r hr => q r _ hr (.one ⟨_, y, z, rfl, hy, by omega⟩)
    · refine ⟨_, rfl, a, _, _, _, rfl, rfl, hA, rfl, _, _, rfl, rfl, _, rfl, a, _, _, 2, rfl, rfl, ho, rfl, ?_⟩
      have h1 : (upd H a (.lst [.int x, .int (y : Int), .int ((z : Int) + 1)])) a = some (.lst [.int x, .int (y : Int), .int ((z : Int) + 1)]) := upd_same
      have hB := SqL.of (K := K) h1
      refine ⟨_, rfl, a, _, _, _, rfl, rfl, hB, rfl, _, rfl, a, _, _, _, rfl, rfl, hB, rfl, _, _, rfl, rfl, .inl ⟨by decide, by decide⟩, _, _, rfl, rfl, _, rfl, a, _, _, _, rfl, rfl, hB, rfl, _, _, rfl, rfl, .inl ⟨by decide, by decide⟩, _, _, rfl, rfl, _, _, rfl, rfl, .inl ⟨by omega, by omega⟩, _, _, rfl, rfl, (by show (0 : Int) < 2147483647; decide), ?_⟩
      have b0 : 0 ≤ ((y : Int) + 17 * ((z : Int) + 1)) * (69621 + 2 * ((z : Int) + 1)) % 2147483647 := Int.emod_nonneg _ (by decide)
      have b1 : ((y : Int) + 17 * ((z : Int) + 1)) * (69621 + 2 * ((z : Int) + 1)) % 2147483647 < 2147483647 := Int.emod_lt_of_pos _ (by decide)
      refine ⟨_, rfl, _, rfl, _, _, rfl, rfl, .inl ⟨Int.lt_of_lt_of_le (by decide) b0, Int.lt_trans b1 (by decide)⟩, _, rfl, a, _, _, _, rfl, rfl, hB, rfl, _, _, rfl, rfl, .inl ⟨by decide, by decide⟩, _, _, rfl, rfl, _, _, rfl, rfl, _, _, rfl, rfl, (by show (0 : Int) < 2147483629; decide), ?_⟩
      refine ⟨_, rfl, _, _, rfl, rfl, .inr ⟨by decide, by decide⟩, _, _, rfl, rfl, (by show (0 : Int) < 2147483647; decide), _, _, rfl, rfl, ⟨by decide, by decide⟩, _, rfl, _, _, rfl, rfl, m0', ?_⟩
      exact nat_r (Q := fun v => Q v _) (Int.emod_nonneg _ (by omega)) (Int.emod_lt_of_pos _ m0') fun r hr => q r _ hr (.one ⟨_, y, z + 1, by rw [Int.natCast_add]; rfl, hy, by omega⟩)
abbrev nPR : List Str := ["_law_pen_here", "_law_width", "_law_a", "_law_b"]
theorem scPRule : FnScope nPR ["_law_pen_here", "_law_width"] (defScope sPRule) := ⟨rfl, rfl, rfl, by decide +kernel, rfl, by decide +kernel, by decide +kernel⟩
theorem turn_ne {a d w : Nat} (ha : a < w) (hd : d < w - 1) : (a + 1 + d) % w < w ∧ a ≠ (a + 1 + d) % w := by
  refine ⟨Nat.mod_lt _ (by omega), ?_⟩
  by_cases h : a + 1 + d < w
  · rw [Nat.mod_eq_of_lt h]
    omega
  · rw [Nat.mod_eq_sub_mod (by omega), Nat.mod_eq_of_lt (by omega)]
    omega
theorem ok_prule {f : Addr} {fd : FuncData} {k : Nat} (F : Fun K "_law_rule" "_law_rule" sPRule f fd) (cD : Cal P w K mg base "_law_draw" ["_law_pen_here", "_law_many"] spPDraw 1) : FnOk P w K mg base CX0 (k + 2) f fd ["_law_pen_here", "_law_width"] (spPRule K) := by
  have GD := cD.ok (k + 1) (by omega)
  refine F.ok scPRule (fun vs H Q E h => ?_) (fun cdv A outer s H vs Q E hr h => ?_)
  · obtain ⟨s, w, c, rfl, _⟩ := h
    rfl
  · obtain ⟨s, w, c, rfl, hp, hc, w2, w6, q⟩ := h
    have n := scPRule.nd
    refine ⟨_, (pss_cons (ps_set (i := 2) n rfl (.inl rfl) (pe_call GD hr rfl cD.g cD.kp cD.b .nil pass0 (pa_cons (pv 0) (pa_cons (pv 1) pa_nil))))
      (pss_cons (ps_set (i := 3) n rfl (.inl rfl) (pe_op op_mod (pe_op op_add (pe_op op_add (pv 2) pe_int) (pe_call GD hr rfl cD.g cD.kp cD.b .nil pass0 (pa_cons (pv 0) (pa_cons (pe_op op_sub (pv 1) pe_int) pa_nil)))) (pv 1)))
      (pss_one (ps_ret (pe_tup (pa_cons (pe_ix ix_list (pe_lst (pa_cons pe_str (pa_cons pe_str pa_nil))) (pe_call GD hr rfl cD.g cD.kp cD.b .nil pass0 (pa_cons (pv 0) (pa_cons pe_int pa_nil))) (fun _ _ => rfl)) (pa_cons (pv 2) (pa_cons (pv 3) pa_nil)))))))), ?_⟩
    refine ⟨_, rfl, _, rfl, s, w, c, rfl, hp, by omega, by omega, by omega, fun a H1 ha r1 => ?_⟩
    have e1 : ((w : Int) - 1) = ((w - 1 : Nat) : Int) := by omega
    refine ⟨_, rfl, _, _, rfl, rfl, _, rfl, _, rfl, _, _, rfl, rfl, s, w - 1, c + 1, by rw [← e1]; rfl, r1.src, by omega, by omega, by omega, fun d H2 hd r2 => ?_⟩
    refine ⟨_, _, rfl, rfl, _, rfl, _, _, rfl, rfl, (by show (0 : Int) < (w : Int); omega), ?_⟩
    have eb : ((a : Int) + 1 + (d : Int)) % (w : Int) = (((a + 1 + d) % w : Nat) : Int) := by
      rw [Int.natCast_emod]
      rfl
    dsimp only
    rw [eb]
    obtain ⟨hb1, hb2⟩ := turn_ne ha hd
    generalize (a + 1 + d) % w = b at hb1 hb2
    refine ⟨(by show 2 ≤ sizeLine; decide), fun l nl => ?_⟩
    have s3 : Same H2 (upd H2 l (.lst [.str "settles", .str "within"])) := same_new nl
    have hl : (upd H2 l (.lst [.str "settles", .str "within"])) l = some (.lst [.str "settles", .str "within"]) := upd_same
    generalize upd H2 l (.lst [.str "settles", .str "within"]) = H3 at s3 hl
    have r3 := (r1.trans r2).grow s3
    have ls : l ≠ s := fun e => by
      obtain ⟨us, z⟩ := r2.src.lst
      rw [e, z] at nl
      cases nl
    refine ⟨_, rfl, s, 2, c + 1 + 1, rfl, r3.src, by omega, by decide, by decide, fun e H4 he r4 => ?_⟩
    have hl4 := r4.at_ hl ls
    obtain ⟨kb, hk⟩ : ∃ kb : Bool, ([.str "settles", .str "within"] : List V)[e]? = some (.str (kd kb)) := by
      match e, he with
      | 0, _ => exact ⟨true, rfl⟩
      | 1, _ => exact ⟨false, rfl⟩
    refine ⟨l, _, _, _, rfl, rfl, SqL.of hl4, atI_nat hk, _, rfl, _, rfl, (by show 3 ≤ sizeLine; decide), fun t nt => ?_⟩
    have r5 := (r3.trans r4).grow (same_new (o := .tup [.str (kd kb), .int (a : Int), .int (b : Int)]) nt)
    exact q t ⟨kb, a, b⟩ _ ⟨ha, hb1, hb2⟩ r5 (((r3.trans r4).free nt)) ((r3.trans r4).ne nt) (r_dp (r := ⟨kb, a, b⟩) (.inl (.inl upd_same)))
end
end CC
namespace CC
open PySem L2 TL
abbrev sRing : Stmt := tp 57
theorem perm_pull {α : Type} : ∀ {l : List α} {r : Nat} {x : α}, l[r]? = some x → (x :: l.eraseIdx r).Perm l
  | [], _, _, h => by simp at h
  | y :: l, 0, x, h => by
    simp at h
    subst h
    exact List.Perm.refl _
  | y :: l, r + 1, x, h => by
    have h' : l[r]? = some x := by simpa using h
    show (x :: y :: l.eraseIdx r).Perm (y :: l)
    exact (List.Perm.swap y x _).trans ((perm_pull h').cons y)
theorem map_pull {α β : Type} (f : α → β) : ∀ (l : List α) (r : Nat), (l.map f).eraseIdx r = (l.eraseIdx r).map f
  | [], _ => rfl
  | y :: l, 0 => rfl
  | y :: l, r + 1 => congrArg (f y :: ·) (map_pull f l r)
theorem rot_ne {S : List Nat} (nd : S.Nodup) (h2 : 2 ≤ S.length) {i a b : Nat} (ha : S[i]? = some a) (hb : (S.drop 1 ++ S.take 1)[i]? = some b) : a ≠ b ∧ b ∈ S := by
  match S, h2 with
  | x :: y :: r, _ =>
    have eb : (y :: r ++ [x])[i]? = some b := hb
    refine ⟨fun e => ?_, ?_⟩
    · subst e
      by_cases hi : i < (y :: r).length
      · rw [List.getElem?_append_left hi] at eb
        have h1 : (x :: y :: r)[i + 1]? = some a := by simpa using eb
        obtain ⟨l1, e1⟩ := List.getElem?_eq_some_iff.mp ha
        obtain ⟨l2, e2⟩ := List.getElem?_eq_some_iff.mp h1
        have := (List.getElem_inj nd).mp (e1.trans e2.symm)
        omega
      · have hl := (List.getElem?_eq_some_iff.mp eb).1
        rw [List.length_append, List.length_singleton] at hl
        have ei : i = (y :: r).length := by omega
        rw [List.getElem?_append_right (by omega), ei, Nat.sub_self] at eb
        have ex : x = a := by simpa using eb
        subst ex
        obtain ⟨l1, e1⟩ := List.getElem?_eq_some_iff.mp ha
        have := (List.getElem_inj (j := 0) (h₁ := by simp) nd).mp (e1.trans rfl)
        rw [this] at ei
        simp at ei
    · have := List.mem_of_getElem? eb
      simp at this ⊢
      rcases this with h | h | h
      · exact .inr (.inl h)
      · exact .inr (.inr h)
      · exact .inl h
/-- a list of rules in the making, beside a pen -/
structure LP (K : PySem.W.Frag) (H H' : Hp) (s l : Addr) (w m c : Nat) : Prop where
  ran : RanP H H' s c
  new : H l = none
  nes : l ≠ s
  lst : ∃ (us : List V) (rs : List R), H' l = some (.lst us) ∧ DpAll K H' us (rs.map R.d) ∧ (∀ r ∈ rs, r.ok w) ∧ rs.length ≤ m
section
variable {K : PySem.W.Frag} {H H' H'' : Hp} {s l p : Addr} {w m m' c c' : Nat}
theorem LP.grow (a : LP K H H' s l w m c) (e : Same H' H'') : LP K H H'' s l w m c := by
  obtain ⟨us, rs, h1, h2, h3, h4⟩ := a.lst
  exact ⟨a.ran.grow e, a.new, a.nes, us, rs, e _ _ h1, dps_same e _ _ h2, h3, h4⟩
theorem LP.run (a : LP K H H' s l w m c) (e : RanP H' H'' s c') : LP K H H'' s l w m c' := by
  obtain ⟨us, rs, h1, h2, h3, h4⟩ := a.lst
  exact ⟨a.ran.trans e, a.new, a.nes, us, rs, e.at_ h1 a.nes, rds_T (e.T a.ran.src) h2, h3, h4⟩
theorem LP.up (a : LP K H H' s l w m c) (h : m ≤ m') (h2 : c ≤ c') : LP K H H' s l w m' c' := by
  obtain ⟨us, rs, g1, g2, g3, g4⟩ := a.lst
  exact ⟨a.ran.mono h2, a.new, a.nes, us, rs, g1, g2, g3, Nat.le_trans g4 h⟩
theorem LP.fresh (a : RanP H H' s c) (h : H' l = none) : LP K H (upd H' l (.lst [])) s l w 0 c :=
  ⟨a.grow (same_new h), a.free h, a.ne h, [], [], upd_same, .nil, (fun r hr => nomatch hr), Nat.le_refl _⟩
theorem LP.push (a : LP K H H' s l w m c) {v : V} {r : R} (d : Dp K H' v r.d) (hr : r.ok w) : ∃ acc, H' l = some (.lst acc) ∧ acc.length ≤ m ∧ LP K H (upd H' l (.lst (acc ++ [v]))) s l w (m + 1) c := by
  obtain ⟨us, rs, h1, h2, h3, h4⟩ := a.lst
  have ul : us.length = rs.length := by rw [dps_len h2, List.length_map]
  refine ⟨us, h1, by omega, a.ran.put (us := us) a.new a.nes, a.new, a.nes, us ++ [v], rs ++ [r], upd_same, ?_, ?_, ?_⟩
  · rw [List.map_append]
    exact dps_app (rds_T (upd_T h1) h2) (.cons (rd_T (upd_T h1) d) .nil)
  · intro x hx
    rcases List.mem_append.mp hx with z | z
    · exact h3 x z
    · rw [List.mem_singleton.mp z]
      exact hr
  · rw [List.length_append, List.length_singleton]
    omega
/-- another list of the same heap changes -/
theorem LP.put {o : HO} {us : List V} (a : LP K H H' s l w m c) (hp : H' p = some (.lst us)) (hn : H p = none) (n : p ≠ s) (nl : l ≠ p) : LP K H (upd H' p o) s l w m c := by
  obtain ⟨vs, rs, h1, h2, h3, h4⟩ := a.lst
  exact ⟨a.ran.put (us := us) hn n, a.new, a.nes, vs, rs, by rw [upd_ne nl]; exact h1, rds_T (upd_T hp) h2, h3, h4⟩
end
def NewP (K : PySem.W.Frag) (H : Hp) (s : Addr) (w n c : Nat) (Q : VK) : Prop := ∀ (p : Addr) (H' : Hp), LP K H H' s p w n c → Q (.ref p) H'
def spRing (K : PySem.W.Frag) : Sp := fun vs H Q _ => ∃ (s : Addr) (w c : Nat), vs = [.ref s, .int (w : Int)] ∧ Pen H s c ∧ c < 900000 ∧ 2 ≤ w ∧ w ≤ 6 ∧ NewP K H s w 6 (c + 14) Q
section
variable {P : Program} {w : World} {K : PySem.W.Frag} {mg : Str → Option Value} {base : Heap} {kA : Addr}
abbrev nRg : List Str := ["_law_pen_here", "_law_width", "_law_left", "_law_some", "_law_turn", "_law_found", "_law_a", "_law_b", "_law_kind"]
theorem scRing : FnScope nRg ["_law_pen_here", "_law_width"] (defScope sRing) := ⟨rfl, rfl, rfl, by decide +kernel, rfl, by decide +kernel, by decide +kernel⟩
theorem ok_ring {f : Addr} {fd : FuncData} {k : Nat} (F : Fun K "_law_ring" "_law_ring" sRing f fd) (T : Glb K mg kA) (cD : Cal P w K mg base "_law_draw" ["_law_pen_here", "_law_many"] spPDraw 1) : FnOk P w K mg base CX0 (k + 2) f fd ["_law_pen_here", "_law_width"] (spRing K) := by
  have GD := cD.ok (k + 1) (by omega)
  refine F.ok scRing (fun vs H Q E h => ?_) (fun cdv A outer s H vs Q E hr h => ?_)
  · obtain ⟨s, w, c, rfl, _⟩ := h
    rfl
  · obtain ⟨s, w, c, rfl, hp, hc, w2, w6, q⟩ := h
    have n := scRing.nd
    refine ⟨_, (pss_cons (ps_par (i := 2) (j := 3) rfl n rfl rfl (by decide) rfl rfl (pa_cons (pe_listRg rfl (by rfl) T.lst (prg_1 (by rfl) T.rng (pv 1))) (pa_cons (pe_lst pa_nil) pa_nil)) (by rfl))
      (pss_cons (ps_for PassesOwn.never rfl (pi_range1 (by rfl) T.rng (pa_cons (pe_op op_add pe_int (pe_call GD hr rfl cD.g cD.kp cD.b .nil pass0 (pa_cons (pv 0) (pa_cons (pe_op op_sub (pv 1) pe_int) pa_nil)))) pa_nil)) (pg_name (i := 4) n rfl (.inl rfl))
        (pss_one (ps_expr (pe_bm PySem.F.plainAttrs_list PySem.F.slot_list_append PySem.F.type_list_append mt_append (pv 3) (pa_cons (pe_bm PySem.F.plainAttrs_list PySem.F.slot_list_pop PySem.F.type_list_pop mt_popAt (pv 2) (pa_cons (pe_call GD hr rfl cD.g cD.kp cD.b .nil pass0 (pa_cons (pv 0) (pa_cons (pe_callB call_len_seq (by rfl) T.len PySem.boot_len (pa_cons (pv 2) pa_nil)) pa_nil))) pa_nil)) pa_nil)))))
      (pss_cons (ps_set (i := 5) n rfl (.inl rfl) (pe_lst pa_nil))
      (pss_cons (ps_for PassesOwn.never rfl (pi_zip (by rfl) T.zip (pa_cons (pv 3) (pa_cons (pe_op op_cat (pe_slice sl_list (pv 3) (po_some pe_int) po_none) (pe_slice sl_list (pv 3) po_none (po_some pe_int))) pa_nil))) (pg_tup rfl (pgs_cons (pg_name (i := 6) n rfl (.inl rfl)) (pgs_cons (pg_name (i := 7) n rfl (.inl rfl)) pgs_nil)))
        (pss_one (ps_expr (pe_bm PySem.F.plainAttrs_list PySem.F.slot_list_append PySem.F.type_list_append mt_append (pv 5) (pa_cons (pe_ifExp (pt_cmpR op_eq (pe_call GD hr rfl cD.g cD.kp cD.b .nil pass0 (pa_cons (pv 0) (pa_cons pe_int pa_nil))) pe_int (nomark _)) (pe_tup (pa_cons pe_str (pa_cons (pv 6) (pa_cons (pv 7) pa_nil)))) (pe_tup (pa_cons pe_str (pa_cons (pv 7) (pa_cons (pv 6) pa_nil))))) pa_nil)))))
      (pss_cons (ps_if (pt_cmpR op_eq (pe_call GD hr rfl cD.g cD.kp cD.b .nil pass0 (pa_cons (pv 0) (pa_cons pe_int pa_nil))) pe_int (nomark _))
        (pss_cons (ps_asg (pe_ix ix_list (pv 5) pe_int (fun _ _ => rfl)) (pg_tup rfl (pgs_cons (pg_name (i := 8) n rfl (.inl rfl)) (pgs_cons (pg_name (i := 6) n rfl (.inl rfl)) (pgs_cons (pg_name (i := 7) n rfl (.inl rfl)) pgs_nil)))))
        (pss_one (ps_asg (pe_tup (pa_cons (pv 8) (pa_cons (pv 7) (pa_cons (pv 6) pa_nil)))) (pg_sub (pv 5) pe_int set_list))))
        pss_nil)
      (pss_one (ps_ret (pv 5)))))))), ?_⟩
    refine ⟨_, rfl, _, rfl, RgOk.of_le (by omega) (by omega) (by omega) (by omega), fun l nl => ?_⟩
    rw [cols_rg]
    refine ⟨Nat.zero_le _, fun so nso => ⟨_, _, rfl, ?_⟩⟩
    have s1 : Same H (upd (upd H l (.lst (cols w))) so (.lst [])) := (same_new nl).trans (same_new nso)
    have lso : l ≠ so := fun e => by rw [← e, upd_same] at nso; cases nso
    have hl1 : (upd (upd H l (.lst (cols w))) so (.lst [])) l = some (.lst (nms (List.range w))) := by rw [upd_ne lso]; exact upd_same
    have hso1 : (upd (upd H l (.lst (cols w))) so (.lst [])) so = some (.lst (nms [])) := upd_same
    have nso0 : H so = none := by
      have z := nso
      rw [upd_ne (Ne.symm lso)] at z
      exact z
    generalize upd (upd H l (.lst (cols w))) so (.lst []) = H1 at s1 hl1 hso1
    have r1 : RanP H H1 s c := (RanP.refl hp).grow s1
    obtain ⟨pu, hs0⟩ := hp.lst
    have ls : l ≠ s := (ne_of_none hs0 nl).symm
    have sos : so ≠ s := (ne_of_none hs0 nso0).symm
    have e1 : ((w : Int) - 1) = ((w - 1 : Nat) : Int) := by omega
    refine ⟨_, rfl, _, rfl, _, _, rfl, rfl, s, w - 1, c, by rw [← e1]; rfl, r1.src, by omega, by omega, by omega, fun d H2 hd r2 => ?_⟩
    refine ⟨_, _, rfl, rfl, _, rfl, by omega, by omega, ?_⟩
    have en : (2 + (d : Int)).toNat = d + 2 := by omega
    refine for_range (lo := 0) (n := (2 + (d : Int)).toNat) (fun i σ H' => ∃ (y4 : Option V) (L S : List Nat), σ = [some (.ref s), some (.int (w : Int)), some (.ref l), some (.ref so), y4, none, none, none, none] ∧ RanP H H' s (c + 1 + i) ∧ H' l = some (.lst (nms L)) ∧ H' so = some (.lst (nms S)) ∧ S.length = i ∧ S.length + L.length = w ∧ (S ++ L).Nodup ∧ ∀ x ∈ S ++ L, x < w)
      ⟨none, List.range w, [], rfl, (r1.trans r2).mono (by omega), r2.at_ hl1 ls, r2.at_ hso1 sos, rfl, by simp, by simpa using List.nodup_range, by simp⟩ ?_ ?_
    · rintro i σ H3 hi ⟨y4, L, S, rfl, r3, hl3, hso3, sl, sw, nd, lt⟩
      have iw : i < w := by omega
      have Ll : (nms L).length = L.length := nms_len L
      refine ⟨_, rfl, .inl ⟨rfl, _, SqL.of hso3⟩, _, rfl, .inl ⟨rfl, _, SqL.of hl3⟩, _, rfl, _, rfl, l, _, rfl, .inl (SqL.of hl3), ?_⟩
      refine ⟨s, L.length, c + 1 + i, by rw [Ll]; rfl, r3.src, by omega, by omega, by omega, fun r H4 hr4 r4 => ?_⟩
      have hl4 := r4.at_ hl3 ls
      have hso4 := r4.at_ hso3 sos
      have gx : L[r]? = some L[r] := List.getElem?_eq_getElem hr4
      have gv : (nms L)[r]? = some (.int ((L[r] : Nat) : Int)) := by
        rw [nms, List.getElem?_map, gx]
        rfl
      have ix := (ixN_seq (n := (nms L).length) (i := (r : Int)) (j := r) (by
        unfold ixN
        rw [if_pos (by omega), if_pos (by rw [Ll]; omega)]
        simp)).1
      refine ⟨l, _, _, r, _, rfl, rfl, hl4, by omega, by omega, ix, gv, ?_⟩
      have hso5 : (upd H4 l (.lst ((nms L).eraseIdx r))) so = some (.lst (nms S)) := by rw [upd_ne (Ne.symm lso)]; exact hso4
      refine ⟨so, _, _, rfl, rfl, hso5, small1000 (by rw [nms_len]; omega), ?_⟩
      have pm : ((S ++ [L[r]]) ++ L.eraseIdx r).Perm (S ++ L) := by
        rw [List.append_assoc]
        exact (perm_pull gx).append_left S
      refine ⟨_, L.eraseIdx r, S ++ [L[r]], rfl, ?_, ?_, ?_, ?_, ?_, pm.symm.nodup nd, fun x hx => lt x (pm.mem_iff.mp hx)⟩
      · exact ((((r3.trans r4).put (us := []) nl ls).put (us := []) nso0 sos)).mono (by omega)
      · rw [upd_ne lso, upd_same]
        unfold nms
        rw [map_pull]
      · rw [upd_same, nms_app]
        rfl
      · rw [List.length_append, List.length_singleton, sl]
      · rw [List.length_append, List.length_singleton, List.length_eraseIdx_of_lt hr4]
        omega
    rintro σ H3 ⟨y4, L, S, rfl, r3, hl3, hso3, sl, sw, nd, lt⟩
    rw [en] at r3 sl
    have ndS : S.Nodup := (List.nodup_append.mp nd).1
    have ltS : ∀ x ∈ S, x < w := fun x hx => lt x (List.mem_append_left _ hx)
    clear hl3 nd lt
    refine ⟨Nat.zero_le _, fun fo nfo => ?_⟩
    have p4 : LP K H (upd H3 fo (.lst [])) s fo w 0 (c + 1 + (d + 2)) := .fresh r3 nfo
    have hso4 : (upd H3 fo (.lst [])) so = some (.lst (nms S)) := by rw [upd_ne (ne_of_none hso3 nfo)]; exact hso3
    have hfo4 : (upd H3 fo (.lst [])) fo = some (.lst []) := upd_same
    have sofo : so ≠ fo := ne_of_none hso3 nfo
    generalize upd H3 fo (.lst []) = H4 at p4 hso4 hfo4
    refine ⟨_, rfl, _, rfl, 1, rfl, so, _, rfl, SqL.of hso4, fun c1 n1 => ?_⟩
    have cu1 : cutV (nms S) (some 1) none = nms (S.drop 1) := by
      rw [show (1 : Int) = ((1 : Nat) : Int) from rfl, cut_from]
      unfold nms
      rw [List.map_drop]
    rw [cu1]
    have s5 : Same H4 (upd H4 c1 (.lst (nms (S.drop 1)))) := same_new n1
    have hc5 : (upd H4 c1 (.lst (nms (S.drop 1)))) c1 = some (.lst (nms (S.drop 1))) := upd_same
    generalize upd H4 c1 (.lst (nms (S.drop 1))) = H5 at s5 hc5
    refine ⟨_, rfl, 1, rfl, so, _, rfl, SqL.of (s5 _ _ hso4), fun c2 n2 => ?_⟩
    have cu2 : cutV (nms S) none (some 1) = nms (S.take 1) := by
      rw [show (1 : Int) = ((1 : Nat) : Int) from rfl, cut_to]
      unfold nms
      rw [List.map_take]
    rw [cu2]
    have s6 : Same H5 (upd H5 c2 (.lst (nms (S.take 1)))) := same_new n2
    have hc6 : (upd H5 c2 (.lst (nms (S.take 1)))) c2 = some (.lst (nms (S.take 1))) := upd_same
    generalize upd H5 c2 (.lst (nms (S.take 1))) = H6 at s6 hc6
    have ml : (S.drop 1 ++ S.take 1).length = S.length := by
      rw [List.length_append, List.length_drop, List.length_take]
      omega
    refine ⟨c1, c2, _, _, rfl, rfl, s6 _ _ hc5, hc6, (by rw [← List.length_append, ← nms_app, nms_len, ml]; show S.length ≤ sizeLine; have := line63; rw [sizeLine_eq]; omega), fun c3 n3 => ?_⟩
    rw [← nms_app]
    have s7 : Same H6 (upd H6 c3 (.lst (nms (S.drop 1 ++ S.take 1)))) := same_new n3
    have hc7 : (upd H6 c3 (.lst (nms (S.drop 1 ++ S.take 1)))) c3 = some (.lst (nms (S.drop 1 ++ S.take 1))) := upd_same
    generalize upd H6 c3 (.lst (nms (S.drop 1 ++ S.take 1))) = H7 at s7 hc7
    have s47 := s5.trans (s6.trans s7)
    have p7 := p4.grow s47
    have c3s : c3 ≠ s := (p4.ran.grow (s5.trans s6)).ne n3
    have c3fo : fo ≠ c3 := by
      obtain ⟨us, _, hu, _⟩ := (p4.grow (s5.trans s6)).lst
      exact ne_of_none hu n3
    refine ⟨so, c3, _, _, rfl, SqL.of (s47 _ _ hso4), SqL.of hc7, ?_⟩
    refine RZ.for_zipL (xs := nms S) (ys := nms (S.drop 1 ++ S.take 1)) (by rw [nms_len, nms_len, ml]) (fun i σ H' => ∃ (y6 y7 : Option V), σ = [some (.ref s), some (.int (w : Int)), some (.ref l), some (.ref so), y4, some (.ref fo), y6, y7, none] ∧ LP K H H' s fo w i (c + 1 + (d + 2) + i) ∧ H' so = some (.lst (nms S)) ∧ H' c3 = some (.lst (nms (S.drop 1 ++ S.take 1))) ∧ ∃ us, H' fo = some (.lst us) ∧ us.length = i)
      ⟨none, none, rfl, p7.up (Nat.le_refl _) (by omega), s47 _ _ hso4, hc7, [], s47 _ _ hfo4, rfl⟩ (fun i σ H' ⟨_, _, _, _, e1, e2, _⟩ => ⟨SqL.of e1, SqL.of e2⟩) ?_ ?_
    · rintro i x y T2 σ H8 hx hy ⟨y6, y7, rfl, p8, hso8, hc8, us8, hf8, fl8⟩ nT
      obtain ⟨a, ha, rfl⟩ := nms_at hx
      obtain ⟨b, hb, rfl⟩ := nms_at hy
      obtain ⟨hab, bS⟩ := rot_ne ndS (by omega) ha hb
      have aw := ltS a (List.mem_of_getElem? ha)
      have bw := ltS b bS
      have iS := (List.getElem?_eq_some_iff.mp ha).1
      have s9 : Same H8 (upd H8 T2 (.tup [.int (a : Int), .int (b : Int)])) := same_new nT
      have hT : (upd H8 T2 (.tup [.int (a : Int), .int (b : Int)])) T2 = some (.tup [.int (a : Int), .int (b : Int)]) := upd_same
      generalize upd H8 T2 (.tup [.int (a : Int), .int (b : Int)]) = H9 at s9 hT
      have p9 := p8.grow s9
      have hu9 := s9 _ _ hf8
      refine ⟨T2, _, rfl, .inl (.inl hT), rfl, _, _, rfl, _, _, rfl, rfl, ?_⟩
      refine ⟨_, rfl, .inl ⟨rfl, _, SqL.of hu9⟩, ?_⟩
      refine ⟨_, rfl, s, 2, c + 1 + (d + 2) + i, rfl, p9.ran.src, by omega, by decide, by decide, fun e H10 he r10 => ?_⟩
      have p10 := p9.run r10
      have hso10 := r10.at_ (s9 _ _ hso8) sos
      have hc10 := r10.at_ (s9 _ _ hc8) c3s
      have hf10 := r10.at_ hu9 p9.nes
      have fin : ∀ (r : R) (t : Addr), r.ok w → H10 t = none → rAppend (.ref fo) [.ref t] (upd H10 t (.tup [.str (kd r.k), .int (r.a : Int), .int (r.b : Int)])) fun _ H' => ∃ (y6 y7 : Option V), [some (V.ref s), some (.int (w : Int)), some (.ref l), some (.ref so), y4, some (.ref fo), some (.int (a : Int)), some (.int (b : Int)), none] = [some (.ref s), some (.int (w : Int)), some (.ref l), some (.ref so), y4, some (.ref fo), y6, y7, none] ∧ LP K H H' s fo w (i + 1) (c + 1 + (d + 2) + (i + 1)) ∧ H' so = some (.lst (nms S)) ∧ H' c3 = some (.lst (nms (S.drop 1 ++ S.take 1))) ∧ ∃ us, H' fo = some (.lst us) ∧ us.length = i + 1 := fun r t ok nt => by
        have s11 : Same H10 (upd H10 t (.tup [.str (kd r.k), .int (r.a : Int), .int (r.b : Int)])) := same_new nt
        have ht : (upd H10 t (.tup [.str (kd r.k), .int (r.a : Int), .int (r.b : Int)])) t = some (.tup [.str (kd r.k), .int (r.a : Int), .int (r.b : Int)]) := upd_same
        generalize upd H10 t (.tup [.str (kd r.k), .int (r.a : Int), .int (r.b : Int)]) = H11 at s11 ht
        obtain ⟨acc, a1, a2, a3⟩ := (p10.grow s11).push (v := .ref t) (r := r) (r_dp (.inl (.inl ht))) ok
        refine ⟨fo, acc, _, rfl, rfl, a1, small1000 (by omega), _, _, rfl, a3.up (Nat.le_refl _) (by omega), ?_, ?_, _, upd_same, ?_⟩
        · rw [upd_ne sofo]
          exact s11 _ _ hso10
        · rw [upd_ne (Ne.symm c3fo)]
          exact s11 _ _ hc10
        · have z := a1.symm.trans (s11 _ _ hf10)
          cases z
          rw [List.length_append, List.length_singleton, fl8]
      refine ⟨rfl, _, rfl, ite2 (fun _ => ?_) (fun _ => ?_)⟩
      · refine ⟨_, rfl, _, rfl, (by show 3 ≤ sizeLine; decide), fun t nt => ?_⟩
        exact fin ⟨true, a, b⟩ t ⟨aw, bw, hab⟩ nt
      · refine ⟨_, rfl, _, rfl, (by show 3 ≤ sizeLine; decide), fun t nt => ?_⟩
        exact fin ⟨false, b, a⟩ t ⟨bw, aw, Ne.symm hab⟩ nt
    rintro σ H8 ⟨y6, y7, rfl, p8, hso8, hc8, us8, hf8, fl8⟩
    rw [nms_len, sl] at p8 fl8
    refine ⟨_, rfl, s, 4, _, rfl, p8.ran.src, by omega, by decide, by decide, fun e H9 he r9 => ?_⟩
    have p9 := p8.run r9
    refine ⟨rfl, _, rfl, ite2 (fun _ => ?_) (fun _ => ?_)⟩
    · obtain ⟨us, rs, h1, h2, h3, h4⟩ := id p9.lst
      have z : us8 = us := by
        have z := h1.symm.trans (r9.at_ hf8 p8.nes)
        exact (HO.lst.inj (Option.some.inj z)).symm
      rw [z] at fl8
      match us, rs, h2, h3, h4, fl8, h1 with
      | v :: us, r :: rs, .cons d1 d2, h3, h4, _, h1 =>
        obtain ⟨t, rfl, ht⟩ := dp_r d1
        refine ⟨_, rfl, fo, _, 0, _, rfl, rfl, SqL.of h1, atI_nat (j := 0) rfl, t, _, rfl, ht, rfl, _, _, rfl, _, _, rfl, _, _, rfl, rfl, ?_⟩
        refine ⟨_, rfl, _, rfl, _, rfl, (by show 3 ≤ sizeLine; decide), fun t2 n2 => ?_⟩
        have s10 : Same H9 (upd H9 t2 (.tup [.str (kd r.k), .int (r.b : Int), .int (r.a : Int)])) := same_new n2
        have ht2 : (upd H9 t2 (.tup [.str (kd r.k), .int (r.b : Int), .int (r.a : Int)])) t2 = some (.tup [.str (kd r.k), .int (r.b : Int), .int (r.a : Int)]) := upd_same
        generalize upd H9 t2 (.tup [.str (kd r.k), .int (r.b : Int), .int (r.a : Int)]) = H10 at s10 ht2
        refine ⟨_, rfl, fo, _, 0, 0, rfl, rfl, s10 _ _ h1, (by unfold ixN; rw [if_pos (Int.le_refl _), if_pos (by rw [List.length_cons]; omega)]; rfl), _, rfl, q fo _ ?_⟩
        have o := h3 r List.mem_cons_self
        have tT := upd_T (o := .lst (.ref t2 :: us)) (s10 _ _ h1)
        refine ⟨(p9.ran.grow s10).put (us := []) p9.new p9.nes |>.mono (by omega), p9.new, p9.nes, .ref t2 :: us, ⟨r.k, r.b, r.a⟩ :: rs, upd_same, .cons (rd_T tT (r_dp (r := ⟨r.k, r.b, r.a⟩) (.inl (.inl ht2)))) (rds_T tT (dps_same s10 _ _ d2)), ?_, ?_⟩
        · intro x hx
          rcases List.mem_cons.mp hx with rfl | hx
          · exact ⟨o.2.1, o.1, Ne.symm o.2.2⟩
          · exact h3 x (List.mem_cons_of_mem _ hx)
        · rw [List.length_cons] at h4 ⊢
          omega
    · exact ⟨_, rfl, q fo _ (p9.up (by omega) (by omega))⟩
end
end CC
namespace CC
open PySem L2
theorem ra_ins {K : PySem.W.Frag} {C : Addr} {H : Hp} {x : Addr} {w : Nat} {rs : List R} (h : RulesAt K C H x w rs) : ∃ dx fs, H x = some (.ins C dx fs) := by
  obtain ⟨dx, g, us, h1, _⟩ := h
  exact ⟨dx, _, h1⟩
def rNotBl : R2 := fun x y H Q => ∃ a b, x = .bl a ∧ y = .bl b ∧ Q (.bl (!decide (a = b))) H
theorem op_notBl {X : Cx} : OpR X (compareOp .IsNot) rNotBl := op_isnot_bl
def tCallO2 (C : Addr) (sp : Sp) (E : XK) (tf : TE) (t : TA) : TE := fun σ H Q => tf σ H fun y H1 => ∃ a, y = V.ref a ∧ t σ H1 fun vs H2 => ((∃ dx vs, SlX.Slt H2 a C dx vs) ∨ ∃ dx fs, H2 a = some (.ins C dx fs)) ∧ sp (V.ref a :: vs) H2 Q E
theorem pe_callO2 {X : Cx} {CX : CXT} {k : Nat} {C g : Addr} {sp : Sp} {E : XK} {e fe : Expr} {es : List Expr} {tf : TE} {t : TA} {pos : Pos} (hf : PE X fe tf) (c : StX.CallO X.K C g) (F : FnR X.prog X.w X.K X.mg X.base CX k g sp) (hr : Room k X.A) (hx : Passes CX X E) (ha : PA X (e :: es) t)
    (ht : eval (.Call fe (e :: es) [] pos) X.env = (do callWith pos (← eval fe X.env) [] (backTo pos (starEach (e :: es) X.env)) (backToKw pos (keywordEach [] X.env))) := by rfl)
    (he : starEach (e :: es) X.env = (false, eval e X.env) :: starEach es X.env := by rfl) (hpl : (backTo pos (starEach es X.env)).any (·.1) = false := by rfl) : PE X (.Call fe (e :: es) [] pos) (tCallO2 C sp E tf t) :=
  StX.pe_callO hf c F hr hx ha ht he hpl
end CC
namespace CC
open PySem L2 TL
/-! ### what is no width and no text (k05/Ro, Rd, Ir have the same) -/
theorem fn_or {P : Program} {w : World} {K : PySem.W.Frag} {mg : Str → Option Value} {base : Heap} {CX : CXT} {k : Nat} {f : Addr} {fd : FuncData} {ps : List Str} {sp sp' : Sp} (F : FnOk P w K mg base CX k f fd ps sp) (G : FnOk P w K mg base CX k f fd ps sp') :
    FnOk P w K mg base CX k f fd ps (fun vs H Q E => sp vs H Q E ∨ sp' vs H Q E) :=
  ⟨fun vs H Q E h => h.elim (F.len vs H Q E) (G.len vs H Q E), fun A outer s H args us vs Q E hr e0 b r h => h.elim (F.run A outer s H args us vs Q E hr e0 b r) (G.run A outer s H args us vs Q E hr e0 b r)⟩
def noInts : List String := ["NoneType", "bool", "str", "tuple", "list", "dict"]
def noStrs : List String := ["NoneType", "bool", "int", "tuple", "list", "dict"]
def NoInt (K : PySem.W.Frag) (H : Hp) (v : V) : Prop := ∃ n, TyX K H v (.type n) ∧ n ∈ noInts
def NoStr (K : PySem.W.Frag) (H : Hp) (v : V) : Prop := ∃ n, TyX K H v (.type n) ∧ n ∈ noStrs
/-- no width -/
def NoWid (K : PySem.W.Frag) (H : Hp) (v : V) : Prop := NoInt K H v ∨ ∃ z : Int, v = .int z ∧ ¬ (1 ≤ z ∧ z ≤ 6)
def spIsIntX (K : PySem.W.Frag) : Sp := fun vs H Q E => spIsInt vs H Q E ∨ ∃ v, vs = [v] ∧ NoInt K H v ∧ Q (.bl false) H
def spIsWidthX (K : PySem.W.Frag) : Sp := fun vs H Q E => spIsWidth vs H Q E ∨ ∃ v, vs = [v] ∧ NoWid K H v ∧ Q (.bl false) H
def Cal.imp {P : Program} {w : World} {K : PySem.W.Frag} {mg : Str → Option Value} {base : Heap} {x : Str} {ps : List Str} {sp sp' : Sp} {l : Nat} (c : Cal P w K mg base x ps sp l) (h : ∀ vs H Q E, sp' vs H Q E → sp vs H Q E) : Cal P w K mg base x ps sp' l :=
  ⟨c.f, c.fd, fun k hk => (c.ok k hk).imp h, c.kp, c.b, c.g⟩
section
variable {P : Program} {w : World} {K : PySem.W.Frag} {mg : Str → Option Value} {base : Heap} {kA : Addr}
theorem ok_isintX {f : Addr} {fd : FuncData} {k : Nat} (F : Fun K "is_an_integer" "is_an_integer" sIsInt f fd) (T : Glb K mg kA) : FnOk P w K mg base CX0 (k + 1) f fd ["thing"] (spIsIntX K) := by
  refine fn_or (ok_isint F T) ?_
  refine F.ok scIsInt (fun vs H Q E h => ?_) (fun cdv A outer s H vs Q E hr h => ?_)
  · obtain ⟨v, rfl, _⟩ := h
    rfl
  · obtain ⟨v, rfl, ⟨n, ty, hn⟩, q⟩ := h
    refine ⟨_, pss_one (ps_ret (pe_and (pe_callB call_isi (by rfl) T.isi (by decide +kernel) (pa_cons (pv 0) (pa_cons (pe_bltn (v := .ty "int") (by rfl) T.int (by decide +kernel) rfl) pa_nil)))
      (pe_one (pe_not (pe_callB call_isi (by rfl) T.isi (by decide +kernel) (pa_cons (pv 0) (pa_cons (pe_bltn (v := .ty "bool") (by rfl) T.bool (by decide +kernel) rfl) pa_nil))))))), ?_⟩
    by_cases hb : n = "bool"
    · subst hb
      refine ⟨_, rfl, _, _, _, _, true, rfl, .ty _, ty, kit_ty (by decide +kernel), _, rfl, iteT ?_⟩
      exact ⟨_, rfl, _, _, _, _, true, rfl, .ty _, ty, kit_ty (by decide +kernel), _, rfl, q⟩
    · have kb : kitB n "int" = some false := by
        simp only [noInts, List.mem_cons, List.not_mem_nil, or_false] at hn
        rcases hn with rfl | rfl | rfl | rfl | rfl | rfl <;> first | exact (hb rfl).elim | decide +kernel
      exact ⟨_, rfl, _, _, _, _, false, rfl, .ty _, ty, kit_ty kb, _, rfl, iteF q⟩
theorem ok_iswidthX {f : Addr} {fd : FuncData} {k : Nat} (F : Fun K "is_width" "is_width" sIsWidth f fd) (T : Glb K mg kA) (cI : Cal P w K mg base "is_an_integer" ["thing"] (spIsIntX K) 1) : FnOk P w K mg base CX0 (k + 2) f fd ["thing"] (spIsWidthX K) := by
  have GI := cI.ok (k + 1) (by omega)
  refine fn_or (ok_iswidth F T (cI.imp fun _ _ _ _ h => .inl h)) ?_
  refine F.ok scIsWidth (fun vs H Q E h => ?_) (fun cdv A outer s H vs Q E hr h => ?_)
  · obtain ⟨v, rfl, _⟩ := h
    rfl
  · obtain ⟨v, rfl, hv, q⟩ := h
    obtain ⟨tw, hw⟩ := T.wid
    refine ⟨_, pss_one (ps_ret (pe_and (pe_call GI hr rfl cI.g cI.kp cI.b .nil pass0 (pa_cons (pv 0) pa_nil))
      (pe_one (pe_chain op_le op_le pe_int (pv 0) (pe_glob (v := .int 6) rfl hw ⟨_, rfl⟩))))), ?_⟩
    rcases hv with no | ⟨z, rfl, hz⟩
    · exact ⟨_, rfl, .inr ⟨v, rfl, no, _, rfl, iteF q⟩⟩
    · refine ⟨_, rfl, .inl ⟨z, rfl, _, rfl, iteT ?_⟩⟩
      refine ⟨_, rfl, _, _, rfl, rfl, _, rfl, ?_⟩
      by_cases h1 : (1 : Int) ≤ z
      · refine iteT' (decide_eq_true h1) ⟨_, _, rfl, rfl, ?_⟩
        show Q (.bl (decide (z ≤ (6 : Int)))) H
        rw [decide_eq_false (show ¬ z ≤ (6 : Int) from fun h => hz ⟨h1, h⟩)]
        exact q
      · exact iteF' (decide_eq_false h1) q
end
theorem ty_same {K : PySem.W.Frag} {H H' : Hp} {v : V} {t : Value} (e : Same H H') (h : TyX K H v t) : TyX K H' v t := by
  cases h with
  | base b =>
    refine .base ?_
    cases b with
    | non => exact .non
    | bl x => exact .bl x
    | int i => exact .int i
    | str x => exact .str x
    | flt x => exact .flt x
    | lst z => exact .lst (e _ _ z)
    | frz z => exact .frz (e _ _ z)
    | tup z => exact .tup (e _ _ z)
    | dK z => exact .dK (e _ _ z)
    | dT z => exact .dT (e _ _ z)
    | ins z a b c d f => exact .ins (e _ _ z) a b c d f
  | byt b => exact .byt b
  | set z => exact .set (e _ _ z)
  | kList z c => exact .kList z c
  | kTuple z c => exact .kTuple z c
  | kDict z c => exact .kDict z c
  | fTuple z => exact .fTuple (e _ _ z)
  | fDict z => exact .fDict (e _ _ z)
theorem NoStr.same {K : PySem.W.Frag} {H H' : Hp} {v : V} (h : NoStr K H v) (e : Same H H') : NoStr K H' v := by
  obtain ⟨n, ty, hn⟩ := h
  exact ⟨n, ty_same e ty, hn⟩
end CC
namespace CC
open PySem L2 TL
/-! ### _law_mixed of the forties: the same things in a drawn order -/
abbrev sMxp : Stmt := tp 60
def spMxF {α : Type} (f : α → PyData) (K : PySem.W.Frag) : Sp := fun vs H Q _ => ∃ (s l : Addr) (c : Nat) (us : List V) (as : List α), vs = [.ref s, .ref l] ∧ Pen H s c ∧ c < 800000 ∧ SqL K H l us ∧ DpAll K H us (as.map f) ∧ as.length ≤ 60 ∧
  ∀ (p : Addr) (us' : List V) (as' : List α) (H' : Hp), RanP H H' s (c + as.length) → H p = none → p ≠ s → H' p = some (.lst us') → as'.Perm as → DpAll K H' us' (as'.map f) → Q (.ref p) H'
theorem eqv_nilL (ds : List PyData) : (!PyData.eqv (.list ds) (.list [])) = !ds.isEmpty := by
  cases ds with
  | nil => simp [PyData.eqv, PyData.eqvAll]
  | cons d ds => simp [PyData.eqv, PyData.eqvAll]
section
variable {P : Program} {w : World} {K : PySem.W.Frag} {mg : Str → Option Value} {base : Heap} {kA : Addr}
abbrev nMxp : List Str := ["_law_pen_here", "_law_things", "_law_left", "_law_found"]
theorem scMxp : FnScope nMxp ["_law_pen_here", "_law_things"] (defScope sMxp) := ⟨rfl, rfl, rfl, by decide +kernel, rfl, by decide +kernel, by decide +kernel⟩
theorem ok_mxF {α : Type} {g : α → PyData} (fT : ∀ {H H' : Hp} {as : List α} {us : List V}, SameT H H' → DpAll K H us (as.map g) → DpAll K H' us (as.map g)) (fS : ∀ as : List α, SeqAt.shaped (.list (as.map g)) = true) {f : Addr} {fd : FuncData} {k : Nat} (F : Fun K "_law_mixed" "_law_mixed" sMxp f fd) (T : Glb K mg kA) (cD : Cal P w K mg base "_law_draw" ["_law_pen_here", "_law_many"] spPDraw 1) : FnOk P w K mg base CX0 (k + 2) f fd ["_law_pen_here", "_law_things"] (spMxF g K) := by
  have GD := cD.ok (k + 1) (by omega)
  refine F.ok scMxp (fun vs H Q E h => ?_) (fun cdv A outer sh H vs Q E hr h => ?_)
  · obtain ⟨s, l, c, us, as, rfl, _⟩ := h
    rfl
  · obtain ⟨s, l, c, us, as, rfl, hp, hc, hl, dl, al, q⟩ := h
    have n := scMxp.nd
    have hu64 : (A.deeper (PyProof.Rows.envOfC (Str.ofString "_law_mixed") (defScope sMxp) sh.heap.objs.size f cdv)).units + 64 < cLine := by
      have := hr.un
      omega
    refine ⟨_, (pss_cons (ps_par (i := 2) (j := 3) rfl n rfl rfl (by decide) rfl rfl (pa_cons (pe_callTy call_list_of (by rfl) T.lst (by decide +kernel) (pa_cons (pv 1) pa_nil)) (pa_cons (pe_lst pa_nil) pa_nil)) (by rfl))
      (pss_cons (ps_while PassesOwn.never (pt_cmpR (op_neD hu64) (pv 2) (pe_lst pa_nil) (nomark _))
        (pss_one (ps_expr (pe_bm PySem.F.plainAttrs_list PySem.F.slot_list_append PySem.F.type_list_append mt_append (pv 3) (pa_cons (pe_bm PySem.F.plainAttrs_list PySem.F.slot_list_pop PySem.F.type_list_pop mt_popAt (pv 2) (pa_cons (pe_call GD hr rfl cD.g cD.kp cD.b .nil pass0 (pa_cons (pv 0) (pa_cons (pe_callB call_len_seq (by rfl) T.len PySem.boot_len (pa_cons (pv 2) pa_nil)) pa_nil))) pa_nil)) pa_nil)))))
      (pss_one (ps_ret (pv 3))))), ?_⟩
    obtain ⟨pu, hs0⟩ := hp.lst
    refine ⟨_, rfl, l, us, rfl, .inl hl, fun lf nlf => ?_⟩
    have s1 : Same H (upd H lf (.lst us)) := same_new nlf
    have hlf : (upd H lf (.lst us)) lf = some (.lst us) := upd_same
    generalize upd H lf (.lst us) = H1 at s1 hlf
    refine ⟨Nat.zero_le _, fun fo nfo => ⟨_, _, rfl, ?_⟩⟩
    have s2 : Same H1 (upd H1 fo (.lst [])) := same_new nfo
    have hfo : (upd H1 fo (.lst [])) fo = some (.lst []) := upd_same
    have lff : lf ≠ fo := ne_of_none hlf nfo
    have nfo0 : H fo = none := s1.free nfo
    have lfs : lf ≠ s := (ne_of_none hs0 nlf).symm
    have fos : fo ≠ s := (ne_of_none hs0 nfo0).symm
    have hlf2 := s2 _ _ hlf
    generalize upd H1 fo (.lst []) = H2 at s2 hfo hlf2
    have s02 := s1.trans s2
    refine ⟨fun m σ H' => ∃ (ul uf : List V) (a1 a2 : List α), σ = [some (.ref s), some (.ref l), some (.ref lf), some (.ref fo)] ∧ RanP H H' s (c + a2.length) ∧ H' lf = some (.lst ul) ∧ H' fo = some (.lst uf) ∧ DpAll K H' ul (a1.map g) ∧ DpAll K H' uf (a2.map g) ∧ (a2 ++ a1).Perm as ∧ m = a1.length,
      ⟨_, us, [], as, [], rfl, (RanP.refl hp).grow s02, hlf2, hfo, dps_same s02 _ _ dl, .nil, List.Perm.refl _, rfl⟩, ?_⟩
    rintro m σ H3 ⟨ul, uf, a1, a2, rfl, r3, hl3, hf3, dl3, df3, pm, rfl⟩
    have len := pm.length_eq
    rw [List.length_append] at len
    have ull : ul.length = a1.length := by rw [dps_len dl3, List.length_map]
    have ufl : uf.length = a2.length := by rw [dps_len df3, List.length_map]
    refine ⟨_, rfl, Nat.zero_le _, fun E1 nE1 => ?_⟩
    have s4 : Same H3 (upd H3 E1 (.lst [])) := same_new nE1
    refine ⟨.list (a1.map g), .list [], .lst (SqL.of (s4 _ _ hl3)) (dps_same s4 _ _ dl3), .lst (SqL.of upd_same) .nil, fS a1, fS [], _, rfl, ?_⟩
    rw [eqv_nilL]
    have r4 := r3.grow s4
    have hl4 := s4 _ _ hl3
    have hf4 := s4 _ _ hf3
    have dl4 := dps_same s4 _ _ dl3
    have df4 := dps_same s4 _ _ df3
    generalize upd H3 E1 (.lst []) = H4 at s4 r4 hl4 hf4 dl4 df4
    by_cases ne : a1 = []
    · subst ne
      refine iteF' (by rfl) ?_
      rw [List.append_nil] at pm
      exact ⟨_, rfl, q fo uf a2 H4 (r4.mono (by rw [← pm.length_eq]; omega)) nfo0 fos hf4 pm df4⟩
    · have pos : 0 < a1.length := List.length_pos_iff.mpr ne
      refine iteT' (by cases a1 with | nil => exact (ne rfl).elim | cons x xs => rfl) ?_
      refine ⟨fun σ' H' => ∃ (ul uf : List V) (b1 b2 : List α), σ' = [some (.ref s), some (.ref l), some (.ref lf), some (.ref fo)] ∧ RanP H H' s (c + b2.length) ∧ H' lf = some (.lst ul) ∧ H' fo = some (.lst uf) ∧ DpAll K H' ul (b1.map g) ∧ DpAll K H' uf (b2.map g) ∧ (b2 ++ b1).Perm as ∧ b1.length + 1 = a1.length, ?_, ?_⟩
      · rintro σ' H' ⟨ul, uf, b1, b2, rfl, g1, g2, g3, g4, g5, g6, g7⟩
        exact ⟨b1.length, by omega, ul, uf, b1, b2, rfl, g1, g2, g3, g4, g5, g6, rfl⟩
      refine ⟨_, rfl, .inl ⟨rfl, _, SqL.of hf4⟩, _, rfl, .inl ⟨rfl, _, SqL.of hl4⟩, _, rfl, _, rfl, lf, _, rfl, .inl (SqL.of hl4), ?_⟩
      refine ⟨s, ul.length, c + a2.length, rfl, r4.src, by omega, by omega, by omega, fun r H5 hr5 r5 => ?_⟩
      have hl5 := r5.at_ hl4 lfs
      have hf5 := r5.at_ hf4 fos
      have T5 := r5.T r4.src
      have dl5 := fT T5 dl4
      have df5 := fT T5 df4
      have rl : r < a1.length := by omega
      have gv : ul[r]? = some ul[r] := List.getElem?_eq_getElem hr5
      have gx : a1[r]? = some a1[r] := List.getElem?_eq_getElem rl
      have ix := (ixN_seq (n := ul.length) (i := (r : Int)) (j := r) (by
        unfold ixN
        rw [if_pos (by omega), if_pos (by omega)]
        simp)).1
      refine ⟨lf, _, _, r, _, rfl, rfl, hl5, by omega, by omega, ix, gv, ?_⟩
      have hf6 : (upd H5 lf (.lst (ul.eraseIdx r))) fo = some (.lst uf) := by rw [upd_ne (Ne.symm lff)]; exact hf5
      refine ⟨fo, _, _, rfl, rfl, hf6, small1000 (by omega), ?_⟩
      have T6 : SameT H5 (upd (upd H5 lf (.lst (ul.eraseIdx r))) fo (.lst (uf ++ [ul[r]]))) := (upd_T hl5).trans (upd_T hf6)
      have one : DpAll K H5 [ul[r]] ([a1[r]].map g) := by
        obtain ⟨v, hv, dv⟩ := dps_to dl5 (show (a1.map g)[r]? = some (g a1[r]) by rw [List.getElem?_map, gx]; rfl)
        rw [gv] at hv
        injection hv with hv
        rw [hv]
        exact .cons dv .nil
      have out : DpAll K H5 (ul.eraseIdx r) ((a1.eraseIdx r).map g) := by
        rw [List.eraseIdx_eq_take_drop_succ, List.eraseIdx_eq_take_drop_succ, List.map_append, List.map_take, List.map_drop]
        exact dps_app (dps_take r dl5) (dps_drop (r + 1) dl5)
      have both : DpAll K H5 (uf ++ [ul[r]]) ((a2 ++ [a1[r]]).map g) := by
        rw [List.map_append]
        exact dps_app df5 one
      refine ⟨ul.eraseIdx r, uf ++ [ul[r]], a1.eraseIdx r, a2 ++ [a1[r]], rfl, ?_, ?_, upd_same, fT T6 out, fT T6 both, ?_, ?_⟩
      · rw [List.length_append, List.length_singleton, ← Nat.add_assoc]
        exact ((r4.trans r5).put (us := []) nlf lfs).put (us := []) nfo0 fos
      · rw [upd_ne lff]
        exact upd_same
      · rw [List.append_assoc]
        exact ((perm_pull gx).append_left a2).trans pm
      · rw [List.length_eraseIdx_of_lt rl]
        omega
def fI (n : Nat) : PyData := .int (n : Int)
theorem ints_shaped (ns : List Nat) : SeqAt.shaped (.list (ns.map fI)) = true := by
  have e : ∀ ns : List Nat, PyData.canLayAll0 (ns.map fI) = true ∧ PyData.depthAll (ns.map fI) = 0 := by
    intro ns
    induction ns with
    | nil => simp [PyData.canLayAll0, PyData.depthAll]
    | cons n ns ih => simp [fI, PyData.canLayAll0, PyData.canLay0, PyData.depthAll, PyData.depth, ih.1, ih.2]
  simp [SeqAt.shaped, PyData.canLay0, PyData.depth, (e ns).1, (e ns).2]
def spMxp (K : PySem.W.Frag) : Sp := fun vs H Q E => spMxF R.d K vs H Q E ∨ spMxF fI K vs H Q E
theorem ok_mxp {f : Addr} {fd : FuncData} {k : Nat} (F : Fun K "_law_mixed" "_law_mixed" sMxp f fd) (T : Glb K mg kA) (cD : Cal P w K mg base "_law_draw" ["_law_pen_here", "_law_many"] spPDraw 1) : FnOk P w K mg base CX0 (k + 2) f fd ["_law_pen_here", "_law_things"] (spMxp K) :=
  fn_or (ok_mxF (fun e h => rds_T e h) rds_shaped F T cD) (ok_mxF (g := fI) (fun {H H' as us} e h => by
    have := nms_dps (fs := as) h
    rw [this]
    exact dps_nms as) ints_shaped F T cD)
end
end CC
namespace CC
open PySem L2 TL
abbrev sRen : Stmt := tp 61
def piN (ns : List Nat) (i : Nat) : Nat := ns.getD i 0
theorem perm6_of {w : Nat} {ns : List Nat} (hl : ns.length = w) (nd : ns.Nodup) (lt : ∀ x ∈ ns, x < w) : Perm6 w (piN ns) (fun j => ns.idxOf j) := by
  have all : ∀ j, j < w → j ∈ ns := fun j hj => by
    by_cases m : j ∈ ns
    · exact m
    · have := SG.sub_len (r := List.range w) (l := j :: ns) (List.nodup_cons.mpr ⟨m, nd⟩) fun x hx => by
        rcases List.mem_cons.mp hx with z | z
        · rw [z]
          exact List.mem_range.mpr hj
        · exact List.mem_range.mpr (lt x z)
      rw [List.length_range, List.length_cons] at this
      omega
  have at_ : ∀ i (h : i < ns.length), piN ns i = ns[i] := fun i h => by
    unfold piN
    rw [List.getD_eq_getElem?_getD, List.getElem?_eq_getElem h]
    rfl
  refine ⟨fun i hi => ?_, fun i hi => ?_, fun i hi => ?_, fun i hi => ?_⟩
  · rw [at_ i (by omega)]
    exact lt _ (List.getElem_mem _)
  · have := List.idxOf_lt_length_of_mem (all i hi)
    omega
  · rw [at_ i (by omega)]
    exact nd.idxOf_getElem i (by omega)
  · have := List.idxOf_lt_length_of_mem (all i hi)
    rw [at_ _ this]
    exact List.getElem_idxOf this
theorem nms_piN {ns : List Nat} {i : Nat} (h : i < ns.length) : atI (nms ns) (i : Int) = some (.int ((piN ns i : Nat) : Int)) := by
  refine atI_nat ?_
  unfold piN nms
  rw [List.getElem?_map, List.getD_eq_getElem?_getD, List.getElem?_eq_getElem h]
  rfl
def spRen (K : PySem.W.Frag) : Sp := fun vs H Q _ => ∃ (g od : Addr) (us : List V) (rs : List R) (ns : List Nat), vs = [.ref g, .ref od] ∧ SqL K H g us ∧ DpAll K H us (rs.map R.d) ∧ (∀ r ∈ rs, r.a < ns.length ∧ r.b < ns.length) ∧ rs.length ≤ 60 ∧ SqL K H od (nms ns) ∧ NewF R.d K H (rs.map (ren (piN ns))) Q
section
variable {P : Program} {w : World} {K : PySem.W.Frag} {mg : Str → Option Value} {base : Heap} {kA : Addr}
abbrev nRn : List Str := ["_law_some", "_law_places", "_law_kind", "_law_a", "_law_b"]
theorem scRen : FnScope nRn ["_law_some", "_law_places"] (defScope sRen) := ⟨rfl, rfl, rfl, by decide +kernel, rfl, by decide +kernel, by decide +kernel⟩
theorem ok_ren {f : Addr} {fd : FuncData} {k : Nat} (F : Fun K "_law_sent" "_law_sent" sRen f fd) : FnOk P w K mg base CX0 (k + 1) f fd ["_law_some", "_law_places"] (spRen K) := by
  refine F.ok scRen (fun vs H Q E h => ?_) (fun cdv A outer s H vs Q E hr h => ?_)
  · obtain ⟨g, od, us, rs, ns, rfl, _⟩ := h
    rfl
  · obtain ⟨g, od, us, rs, ns, rfl, hg, dp, hn, hl, ho, q⟩ := h
    have n := scRen.nd
    refine ⟨_, (pss_one (ps_ret (pe_lc (own := [("_law_kind", 2), ("_law_a", 3), ("_law_b", 4)]) (g := g3 K 2 3 4) (tt := tYes) (te := tTup (tCons (tVar 2) (tCons (tOp (rIxL K) (tVar 1) (tVar 3)) (tCons (tOp (rIxL K) (tVar 1) (tVar 4)) tNil)))) rfl n (pi_list (pv 0)) (blkOk_by (N := nRn) (sc := defScope sRen) (by decide +kernel))
      (fun _ _ _ _ _ => (pg_tup rfl (pgs_cons (pg_name (i := 2) n rfl (.inl rfl)) (pgs_cons (pg_name (i := 3) n rfl (.inl rfl)) (pgs_cons (pg_name (i := 4) n rfl (.inl rfl)) pgs_nil))))) (fun _ _ _ _ _ => pts_nil) (fun _ _ _ _ _ => (pe_tup (pa_cons (pv 2) (pa_cons (pe_ix ix_list (pv 1) (pv 3) (fun _ _ => rfl)) (pa_cons (pe_ix ix_list (pv 1) (pv 4) (fun _ _ => rfl)) pa_nil)))))))), ?_⟩
    have ul : us.length = rs.length := by rw [dps_len dp, List.length_map]
    refine ⟨_, rfl, g, rfl, ⟨_, hg⟩, fun D nD => ?_⟩
    refine lc_list (xs := us) (fun i H1 => MadeF R.d K H D i H1 ((rs.take i).map (ren (piN ns)))) MadeF.start (fun i H1 _ z => same_l (z.old nD) hg) ?_ ?_
    · rintro i v H1 hv mo
      obtain ⟨r, hr2, dr⟩ := dps_rat dp hv
      have il : i < rs.length := (List.getElem?_eq_some_iff.mp hr2).1
      have o := mo.old nD
      obtain ⟨t, rfl, ht⟩ := dp_r (dp_same o _ _ dr)
      obtain ⟨n1, n2⟩ := hn r (List.mem_of_getElem? hr2)
      refine ⟨t, _, rfl, ht, rfl, _, _, rfl, _, _, rfl, _, _, rfl, rfl, rfl, yes_if ?_⟩
      refine ⟨_, rfl, _, rfl, _, rfl, od, _, _, _, rfl, rfl, same_l o ho, nms_piN n1, _, rfl, _, rfl, od, _, _, _, rfl, rfl, same_l o ho, nms_piN n2, (by show 3 ≤ sizeLine; decide), fun t2 nt2 => ?_⟩
      rw [SG.take_one hr2, List.map_append]
      exact mo.push (r := ren (piN ns) r) (m := i + 1) (by omega) (Nat.lt_succ_self _) (same_new nt2) (r_dp (r := ren (piN ns) r) (mo.tup nt2))
    · rintro H1 mo
      rw [ul, List.take_length] at mo
      exact mo.out nD (Same.refl _) q
end
end CC
namespace CC
open PySem L2 TL LamX PyProof.Rows
/-- what a law with a pen and lambdas keeps: its script, the pen, the tables of code objects -/
structure WP (K : PySem.W.Frag) (Ts : List (Addr × Str)) (H : Hp) (a p : Addr) (ns : List Int) (c : Nat) : Prop where
  scr : SqL K (wo H p) a (ns.map V.int)
  src : Pen H p c
  tab : Tabs Ts H
section
variable {K : PySem.W.Frag} {Ts : List (Addr × Str)} {H H' : Hp} {a p l t : Addr} {ns : List Int} {w v c c' : Nat}
theorem tabs_pen (t : Tabs Ts H) (s : Pen H p c) (r : RanP H H' p c') : Tabs Ts H' := fun q hq => by
  obtain ⟨us, ho⟩ := s.lst
  obtain ⟨ps, h1, h2, h3⟩ := t q hq
  refine ⟨ps, r.at_ h1 (fun z => by rw [z, ho] at h1; cases h1), h2, fun pos cv hc => ?_⟩
  obtain ⟨c, e1, e2⟩ := h3 pos cv hc
  exact ⟨c, e1, r.at_ e2 (fun z => by rw [z, ho] at e2; unfold CodeO at e2; cases e2)⟩
theorem Pen.extN (h : Pen H p c) (e : ExtN H H') : Pen H' p c := by
  obtain ⟨o, h1, h2⟩ := h
  obtain ⟨i1, i2, i3, eo, _⟩ := id h2
  exact ⟨o, e _ _ h1 (fun ps q => by rw [eo] at q; cases q), h2⟩
theorem WP.grow (z : WP K Ts H a p ns c) (e : Same H H') : WP K Ts H' a p ns c := ⟨same_l (wo_same e) z.scr, z.src.same e, z.tab.ext e⟩
theorem WP.run (z : WP K Ts H a p ns c) (r : RanP H H' p c') : WP K Ts H' a p ns c' := ⟨same_l r.same z.scr, r.src, tabs_pen z.tab z.src r⟩
theorem WP.mono (z : WP K Ts H a p ns c) (h : c ≤ c') : WP K Ts H a p ns c' := ⟨z.scr, z.src.mono h, z.tab⟩
theorem WP.ext (z : WP K Ts H a p ns c) (e : ExtN H H') (t : Tabs Ts H') : WP K Ts H' a p ns c := by
  refine ⟨same_l (fun b u q => ?_) (sql_nt z.scr), z.src.extN e, t⟩
  obtain ⟨q, n⟩ := nt_at q
  have bp : b ≠ p := fun y => by
    rw [y, wo_at] at q
    cases q
  rw [wo_ne bp] at q ⊢
  exact e _ _ q (tb_no n)
theorem WP.new {o : HO} (ha : SqL K H a (ns.map V.int)) (t : Tabs Ts H) (np : H p = none) (ho : IsPen 0 o) : WP K Ts (upd H p o) a p ns 0 :=
  ⟨same_l (fun b u e => by rw [wo_ne (ne_of_none e np), upd_ne (ne_of_none e np)]; exact e) ha, ⟨o, upd_same, ho⟩, t.ext (same_new np)⟩
theorem WP.back (z : WP K Ts H a p ns c) : SqL K H a (ns.map V.int) := same_l (wo_le p) z.scr
theorem RulesAt.pen {C r : Addr} {rs : List R} (h : RulesAt K C H r w rs) (s : Pen H p c) (e : RanP H H' p c') : RulesAt K C H' r w rs := by
  obtain ⟨us, hp⟩ := id s.lst
  obtain ⟨dr, gr, ur, r1, r2, r3⟩ := h
  exact ⟨dr, gr, ur, e.at_ r1 (ne_of r1 hp (by intro z; cases z)), (e.T s).tup _ _ r2, rds_T (e.T s) r3⟩
end
end CC
/-! ### an own ==, the != that goes by it, len, + of anything -/
namespace OC
open PySem PySem.Spec PyProof.Rows L2
section
open PySem.W
variable {prog : Program} {w : World} {A : Around} {E : Value → Shared → Prop} {s : Shared} {K : PySem.W.Frag} {x C f L : Addr} {h₀ : Heap} {m : Str → Option Value} {ox : Obj} {od : Obj} {b : Value}
theorem ifBound_b {M : Model} {name : Str} {id : String} {args : List Value} {Q : Option Value → Shared → Prop} (X : K.In s.heap) (I : InstAt s.heap x ox C od) (hs : findIn K (.ref C) name = some (some (.builtin id))) (hb : ∀ self, bindSpecial (.builtin id) self = pure (.builtin id, [self]))
    (h : wpAny M A (call (.builtin id) (.ref x :: args)) (fun v => Q (some v)) E s) : wpAny M A (callSpecialIfBound? (.ref x) name args) Q E s := by
  simp only [callSpecialIfBound?, bindSpecialIfBound?]
  refine wpAny_holding (wpAny_bind (wpAny_bind (wpAny_bind (I.type.here ((looks_findIn X hs).here ?_)))))
  refine wpAny_bind (wpAny_askSetting (wpAny_ite ?_))
  have fin : wpAny M A (call (.builtin id) ([.ref x] ++ args) >>= fun v => pure (some v)) Q E s := wpAny_bind (wpAny_mono h (fun v s' h' => wpAny_pure h') fun _ _ h' => h')
  split
  · exact wpAny_bind ((Looks.of_pure (hb _)).here (wpAny_pure (by exact fin)))
  · exact wpAny_tryCatch (wpAny_bind ((Looks.of_pure (hb _)).here (wpAny_pure (by exact fin))))
open Builtin in
theorem call_ne {Q : Value → Shared → Prop} (hu : A.in1.units < cLine) (X : K.In s.heap) (I : InstAt s.heap x ox C od) (hm : mroIn K C (.type "object") = some true) (hr : findIn K (.ref C) "__eq__" = some (some (.ref f))) (hf : isFn K (.ref f) = true)
    (h : wpAny (model prog w) A.in1 (call (.ref f) [.ref x, b]) (PySem.W.BoolBack fun r s' => Q (.bool (!r)) s') E s) : wpAny (model prog w) A (call (.builtin "object.__ne__") [.ref x, b]) Q E s := by
  refine wpAny_call (codeAny_call_builtin PySem.F.slot_object_ne.plain PySem.F.entry_object_ne (check_slot (i := "object.__ne__") (owner := "object") (n := "__ne__") (by decide +kernel) (by decide +kernel) (I.type.andThen (looks_mroIn X hm)) (PySem.F.args_object_ne_2 _ _) ?_))
  unfold Builtin.«object.__ne__»
  refine wpAny_bind (m := slotArgs "__ne__" 1 _) (wpAny_pure ?_)
  refine wpAny_bind (m := cRoomFor _ _) (wpAny_cRoomFor hu ?_)
  refine wpAny_bind (m := callSpecialIfBound? (.ref x) (Str.ofString "__eq__") _) (ifBound_K X I hr hf (wpAny_mono h (fun r s' hq => ?_) fun _ _ y => y))
  cases r <;> first | exact hq.elim | skip
  exact wpAny_bind (m := truthy (.bool _)) (wpAny_truthy_bool (wpAny_pure hq))
theorem ne_K {Q : Value → Shared → Prop} (hu : A.units + 1 < cLine) (F : Fr h₀ L s.heap m) (X₀ : K.In h₀) (I : InstAt s.heap x ox C od) (hb : Looks (model prog w) s.heap (typeOf b) (.ref C)) (hr : findIn K (.ref C) "__eq__" = some (some (.ref f))) (hf : isFn K (.ref f) = true)
    (hn : findIn K (.ref C) "__ne__" = some (some (.builtin "object.__ne__"))) (hm : mroIn K C (.type "object") = some true)
    (h : wpAny (model prog w) A.in1 (call (.ref f) [.ref x, b]) (PySem.W.BoolBack fun r s' => Q (.bool (!r)) s') E s) : wpAny (model prog w) A (richCompare .NotEq (.ref x) b) Q E s := by
  have X := X₀.keeps F.keep
  have one : wpAny (model prog w) A (tryCompare (.ref x) (cmpInfo .NotEq).2.1 b) (fun r s' => ∃ v, r = some v ∧ Q v s') E s := by
    unfold tryCompare
    refine wpAny_bind (ifBound_b X I hn PySem.F.slot_object_ne.bind (call_ne hu X I hm hr hf (wpAny_mono h (fun v s' hv => ?_) fun _ _ e => e)))
    cases v <;> first | exact hv.elim | exact wpAny_pure ⟨_, rfl, hv⟩
  unfold richCompare
  simp only [oneThing_ref]
  refine wpAny_holding (wpAny_bind (wpAny_cRoomFor (Nat.lt_of_succ_lt hu) ?_))
  refine wpAny_bind (I.type.here (wpAny_bind (hb.here ?_)))
  rw [show (Value.ref C != Value.ref C) = false from by simp]
  simp only [Bool.false_eq_true, if_false]
  refine wpAny_bind (wpAny_pure ?_)
  simp only [Bool.false_eq_true, if_false]
  refine wpAny_bind (wpAny_mono one (fun r s' z => ?_) fun _ _ e => e)
  obtain ⟨v, rfl, hq⟩ := z
  exact wpAny_pure hq
end
section
variable {X : Cx} {CX : CXT} {k : Nat} {f C : Addr} {sp : Sp} {E : XK}
/-- x == y by the own __eq__ -/
theorem op_eqO {g : Addr} (hs : PySem.W.findIn X.K (.ref C) "__eq__" = some (some (.ref g))) (hf : PySem.W.isFn X.K (.ref g) = true) (F : FnR X.prog X.w X.K X.mg X.base CX k g sp) (hr : Room k X.A) (hx : Passes CX X E) : OpR X (compareOp .Eq) (CC.rOwnB C sp E) := by
  intro pins s σ H x y v u Q I rx ry h
  obtain ⟨a, dx, fs, b, dy, gs, rfl, rfl, ha, hb, q⟩ := h
  cases (show v = Value.ref a from rx)
  cases (show u = Value.ref b from ry)
  obtain ⟨mA, J, _⟩ := ins_get I.hok ha
  obtain ⟨mB, J', _⟩ := ins_get I.hok hb
  obtain ⟨od, J, _⟩ := J.look
  obtain ⟨od', J', _⟩ := J'.look
  obtain ⟨m, hF⟩ := I.fr
  refine PySem.W.cmp_K (op := .Eq) (tb := .ref C) hr.units0 hF I.ok.mod.kin J J'.type (by simp [PySem.W.notFirst]) hs hf ?_
  refine wpAny_mono (wpAny_call (run_fnR (us := [.ref a, .ref b]) (vs := [.ref a, .ref b]) F hr hx I (.cons rfl (.cons rfl .nil)) q)) (fun w s' z => ?_) fun _ _ x => x
  obtain ⟨z', H', I', rz, qz⟩ := z
  exact SlX.cmpback rz ⟨z', H', I', rz, qz⟩
/-- x != y by the own __eq__ -/
def rOwnN (C : Addr) (sp : Sp) (E : XK) : R2 := fun x y H Q => ∃ a dx fs b dy gs, x = .ref a ∧ y = .ref b ∧ H a = some (.ins C dx fs) ∧ H b = some (.ins C dy gs) ∧ sp [x, y] H (fun v H' => ∃ c, v = .bl c ∧ Q (.bl (!c)) H') E
theorem op_neO {g : Addr} (hs : PySem.W.findIn X.K (.ref C) "__eq__" = some (some (.ref g))) (hf : PySem.W.isFn X.K (.ref g) = true) (hn : PySem.W.findIn X.K (.ref C) "__ne__" = some (some (.builtin "object.__ne__"))) (hm : PySem.W.mroIn X.K C (.type "object") = some true)
    (F : FnR X.prog X.w X.K X.mg X.base CX k g sp) (hr : Room (k + 1) X.A) (hx : Passes CX X E) : OpR X (compareOp .NotEq) (rOwnN C sp E) := by
  intro pins s σ H x y v u Q I rx ry h
  obtain ⟨a, dx, fs, b, dy, gs, rfl, rfl, ha, hb, q⟩ := h
  cases (show v = Value.ref a from rx)
  cases (show u = Value.ref b from ry)
  obtain ⟨mA, J, _⟩ := ins_get I.hok ha
  obtain ⟨mB, J', _⟩ := ins_get I.hok hb
  obtain ⟨od, J, _⟩ := J.look
  obtain ⟨od', J', _⟩ := J'.look
  obtain ⟨m, hF⟩ := I.fr
  refine ne_K (by have := hr.un; omega) hF I.ok.mod.kin J J'.type hs hf hn hm ?_
  refine wpAny_mono (wpAny_call (SlX.run_at (us := [.ref a, .ref b]) (ws := [.ref a, .ref b]) F hr.in1 I.env0.in1 hx I (.cons rfl (.cons rfl .nil)) q)) (fun w s' z => ?_) fun _ _ x => x
  obtain ⟨z', H', I', rz, c, rfl, qz⟩ := z
  cases rz
  exact ⟨.bl (!c), H', I', rfl, qz⟩
/-- len(x) by the own __len__ -/
def rLenO (C : Addr) (sp : Sp) (E : XK) : List V → Hp → VK → Prop := fun xs H Q => ∃ a dx fs, xs = [.ref a] ∧ H a = some (.ins C dx fs) ∧ sp [.ref a] H (fun v H' => ∃ n : Nat, v = .int (n : Int) ∧ n < 1000000 ∧ Q (.int (n : Int)) H') E
theorem call_lenO {g : Addr} (hs : PySem.W.findIn X.K (.ref C) "__len__" = some (some (.ref g))) (hf : PySem.W.isFn X.K (.ref g) = true) (F : FnR X.prog X.w X.K X.mg X.base CX k g sp) (hr : Room (k + 1) X.A) (hx : Passes CX X E) : CallR X (.builtin "len") (rLenO C sp E) := by
  intro pins s σ H xs us Q I r h
  obtain ⟨a, dx, fs, rfl, ha, q⟩ := h
  rw [Vals.ref1 r]
  obtain ⟨mA, J, _⟩ := ins_get I.hok ha
  obtain ⟨od, J, _⟩ := J.look
  obtain ⟨m, hF⟩ := I.fr
  refine PySem.W.len_K hF I.ok.mod.kin J hs hf ?_
  refine wpAny_mono (wpAny_call (SlX.run_at (us := [.ref a]) (ws := [.ref a]) F hr.in1 I.env0.in1 hx I (.cons rfl .nil) q)) (fun w s' z => ?_) fun _ _ x => x
  obtain ⟨z', H', I', rz, c, rfl, hc, qz⟩ := z
  obtain ⟨t, rfl⟩ := (show ∃ t, w = Value.int (c : Int) t from rz)
  exact ⟨⟨by omega, by omega⟩, .int (c : Int), H', I'.tok _, ⟨_, rfl⟩, qz⟩
end
end OC
/-! sorted(xs), xs a list of data that are alike -/
namespace SoD
open PySem PySem.Spec PyProof.Rows L2 PySem.W
def rSortedTD (K : PySem.W.Frag) : List V → Hp → VK → Prop := fun vs H Q => ∃ (a : Addr) (xs : List V) (ds : List PyData), vs = [V.ref a] ∧ SqT K H a xs ∧ DpAll K H xs ds ∧ AllAlike ds ∧ Sortable ds ∧ (∀ d ∈ ds, d.depth ≤ 60) ∧
  ∀ (ys : List V) (p : Addr), DpAll K H ys (ds.mergeSort dle) → H p = none → Q (.ref p) (upd H p (.lst ys))
section
variable {P : Program} {w : World} {A : Around} {E : Value → Shared → Prop} {s : Shared}
/-- the items of a tuple are put into a new list -/
theorem coll_tup {l : Addr} {vs : List Value} {Q : List Value → Shared → Prop} (hl : IsTup s.heap l vs.toArray) (hz : vs.length ≤ sizeLine) (h : Q vs { s with heap := (s.heap.push (seqObj "list" #[] 0)).update s.heap.objs.size (Obj.mapSeq (· ++ vs.toArray)) }) : wpAny (model P w) A (collect (.ref l)) Q E s := by
  obtain ⟨o, ho, hc, n, hd⟩ := hl
  have ho1 : (s.heap.push (seqObj "list" #[] 0)).get? l = some o := Heap.get?_push_of_some _ ho
  have hn : (s.heap.push (seqObj "list" #[] 0)).get? s.heap.objs.size = some (seqObj "list" #[] 0) := Heap.get?_push_size _ rfl
  unfold collect
  refine wpAny_bind (wpAny_runValue (codeAny_builtin entry_proto_collect' ?_))
  show wpAny (model P w) _ (newList [] >>= fun z => again (.builtin "list.__iadd__" ⟨[z, .ref l], []⟩)) _ _ s
  refine wpAny_bind (wpAny_newList ?_ (Nat.zero_le _))
  refine wpAny_pure ⟨Code.quiet_builtin _ (by decide +kernel), codeAny_builtin entry_list_iadd' ?_⟩
  show wpAny (model P w) _ (Builtin.List.listExtendWith (.ref s.heap.objs.size) (.ref l) (.ref s.heap.objs.size)) _ _ _
  unfold Builtin.List.listExtendWith
  refine wpAny_bind (wpAny_typeOf (T := "tuple") ⟨o, ho1, hc⟩ ?_)
  have h3 : (Value.type "tuple" == Value.type "tuple") = true := by decide
  simp only [h3, Bool.or_true, if_true]
  refine wpAny_bind ?_
  unfold Builtin.List.listItems
  refine wpAny_bind (wpAny_seqItems ho1 hd (wpAny_pure ?_))
  refine wpAny_bind ?_
  refine wpAny_bind (wpAny_seqItems hn rfl (wpAny_pure ?_))
  rw [if_neg (by simp)]
  refine wpAny_bind ?_
  show wpAny _ _ (updateSeq s.heap.objs.size (· ++ vs.toArray)) _ _ _
  refine wpAny_updateSeq hn rfl ?_ (Nat.zero_le _) (by show ((#[] : Array Value) ++ vs.toArray).size ≤ sizeLine + 1; simp only [Array.size_append, List.size_toArray, List.length_nil]; omega)
  refine wpAny_pure ?_
  show wpAny (model P w) A (load s.heap.objs.size >>= fun o => match o.data with | .seq xs _ => pure xs.toList | _ => unsupported "internal:collect") Q E _
  refine wpAny_bind (wpAny_load (get?_update_seq hn _) ?_)
  show wpAny _ _ (pure ((#[] : Array Value) ++ vs.toArray).toList) Q E _
  rw [show ((#[] : Array Value) ++ vs.toArray).toList = vs by simp]
  exact wpAny_pure h
/-- sorted(t), t a tuple -/
theorem sorted_tupV {κ : PyProof.Rows.KeyKind} {l : Addr} {vs : List Value} {Q : Value → Shared → Prop} (hl : IsTup s.heap l vs.toArray) (S : SortsAt P w A.in1.in1 { s with heap := sortingHeap (copyHeap s.heap vs) (s.heap.objs.size + 1) vs } κ vs) (hz : vs.length ≤ sizeLine)
    (h : Q (.ref (s.heap.objs.size + 1)) { s with heap := sortedAll s.heap vs (sortVals κ false vs vs).toArray }) : wpAny (model P w) A (call (.builtin "sorted") [.ref l]) Q E s := by
  refine call_function_entry_kw kind_sorted plain_sorted entry_sorted (args_sorted1 _) ?_
  unfold Builtin.«sorted»
  refine wpAny_bind (m := checkCount "sorted" 1 1 _) (wpAny_pure ?_)
  refine wpAny_bind (coll_tup hl hz ?_)
  refine wpAny_bind (wpAny_newList ?_ hz)
  have hsz : ((s.heap.push (seqObj "list" #[] 0)).update s.heap.objs.size (Obj.mapSeq (· ++ vs.toArray))).objs.size = s.heap.objs.size + 1 := by rw [Heap.size_update, size_push']
  show wpAny _ _ _ _ _ { s with heap := copyHeap s.heap vs }
  rw [hsz]
  refine wpAny_bind (wpAny_holding (wpAny_call_entry_kw slot_list_sort ⟨_, copyHeap_at s.heap vs, rfl⟩ entry_list_sort ?_ (args_list_sort _)))
  refine wpAny_mono (list_sort_vals (P := fun f s' => f = .done (.ret .none) ∧ Q (.ref (s.heap.objs.size + 1)) s') (s := { s with heap := copyHeap s.heap vs }) (copyHeap_at s.heap vs) S hz ⟨rfl, h⟩) (fun f s' hf => ?_) fun _ _ e => e
  obtain ⟨rfl, hq⟩ := hf
  exact ⟨_, rfl, wpAny_pure ⟨_, rfl, hq⟩⟩
end
theorem cr_sortedTD {X : Cx} (hu : X.A.units + 64 < cLine) : CallR X (.builtin "sorted") (rSortedTD X.K) := by
  intro pins s σ H vs us Q I r h
  obtain ⟨a, xs, ds, rfl, hs, hd, hal, hk, dep, q⟩ := h
  obtain ⟨its, rv, hl, hz⟩ := I.tuple hs
  obtain ⟨u, rfl, ru⟩ := vals1 r
  obtain rfl : u = Value.ref a := ru
  have keep : ∀ b o, s.heap.get? b = some o → (sortingHeap (copyHeap s.heap its) (s.heap.objs.size + 1) its).get? b = some o := fun b o e => sorting_copy_old e
  have go := fun (κ : PyProof.Rows.KeyKind) (S : SortsAt X.prog X.w X.A.in1.in1 { s with heap := sortingHeap (copyHeap s.heap its) (s.heap.objs.size + 1) its } κ its) => sorted_tupV (E := X.xe) (Q := EP X pins σ Q) (κ := κ) hl S (by rw [← rv.length]; exact hz)
  generalize sortingHeap (copyHeap s.heap its) (s.heap.objs.size + 1) its = h1 at keep go
  have I1 : Inv X pins σ H { s with heap := h1 } := I.kept (t' := s.toks) keep
  obtain ⟨e1, e2⟩ := each_pairs I1 hd rv
  have S := SortsAt.data (prog := X.prog) (w := X.w) (A := X.A.in1.in1) (s := { s with heap := h1 }) e1 hal hk (fun d hd => by
    have := dep d hd
    show X.A.units + 1 + 1 + d.depth < cLine
    omega)
  have lx : xs.length = ds.length := by
    have l1 := e1.length
    rw [rv.length, l1]
  refine go _ S ?_
  have z1 : (xs.zip ds).map (·.2) = ds := List.map_snd_zip (by omega)
  have kk : EachIs (fun v (b : V × PyData) => (dataKind h1 ds).keyOf v = some (keyToks b.2)) its (xs.zip ds) := by
    refine EachIs.of_zip e2.length fun p hp => ?_
    obtain ⟨_, _, as, z⟩ := e2.zip p hp
    have m2 : p.2 ∈ xs.zip ds := (List.of_mem_zip hp).2
    exact dataKind_some hal (List.of_mem_zip m2).2 z
  have out := sortVals_each (κ := dataKind h1 ds) (rev := false) (fun b : V × PyData => keyToks b.2) e2 kk
  obtain ⟨v1, v2⟩ := each_vals (R := fun v d => ∃ as, Reads h1 v d as) out
  have em : ((xs.zip ds).mergeSort (sortLe (dataKind h1 ds).toKeyOrd false fun b : V × PyData => keyToks b.2)).map (·.2) = ds.mergeSort dle := by
    have := sort_maps (r := sortLe (dataKind h1 ds).toKeyOrd false fun b : V × PyData => keyToks b.2) (s := dle) (fun b : V × PyData => b.2) (l := xs.zip ds) (fun _ _ _ _ => rfl)
    rw [z1] at this
    exact this
  rw [em] at v2
  have ol : (sortVals (dataKind h1 ds) false its its).length = its.length := sortVals_length false rfl
  generalize sortVals (dataKind h1 ds) false its its = res at v1 ol
  obtain ⟨n, hn⟩ := sortedAll_at s.heap its res.toArray
  obtain ⟨ys, v1, v2⟩ : ∃ ys : List V, Vals ys res ∧ DpAll X.K H ys (ds.mergeSort dle) := ⟨_, v1, v2⟩
  refine ⟨.ref (s.heap.objs.size + 1), upd H (s.heap.objs.size + 1) (.lst ys), I.laid (t' := s.toks) (fun b o e => sortedAll_old e) (Nat.le_succ _) ⟨?_, res, n, v1, hn⟩, rfl, q _ _ v2 (I.hok.fresh (Nat.le_succ _))⟩
  rw [v1.length, ol, ← rv.length]
  exact hz
end SoD
namespace CC
open PySem L2 TL
abbrev sREq : Stmt := inClass (tp 40) 5
abbrev sRLen : Stmt := inClass (tp 40) 3
def spREq (K : PySem.W.Frag) (C : Addr) : Sp := fun vs H Q _ => ∃ (x y : Addr) (w v : Nat) (rs ts : List R), vs = [.ref x, .ref y] ∧ RulesAt K C H x w rs ∧ RulesAt K C H y v ts ∧ (∀ r ∈ rs, r.ok 6) ∧ (∀ r ∈ ts, r.ok 6) ∧ rs.Nodup ∧ ts.Nodup ∧
  ∀ (b : Bool) (H' : Hp), Same H H' → (b = true ↔ w = v ∧ rs.Perm ts) → Q (.bl b) H'
def spRLen (K : PySem.W.Frag) (C : Addr) : Sp := fun vs H Q _ => ∃ (x : Addr) (w : Nat) (rs : List R), vs = [.ref x] ∧ RulesAt K C H x w rs ∧ Q (.int (rs.length : Int)) H
/-- rules == rules, rules != rules -/
structure EqO (P : Program) (w : World) (K : PySem.W.Frag) (mg : Str → Option Value) (base : Heap) (C : Addr) (sp : Sp) (l : Nat) where
  f : Addr
  fi : PySem.W.findIn K (.ref C) "__eq__" = some (some (.ref f))
  fn : PySem.W.isFn K (.ref f) = true
  ne : PySem.W.findIn K (.ref C) "__ne__" = some (some (.builtin "object.__ne__"))
  mo : PySem.W.mroIn K C (.type "object") = some true
  ok : ∀ k, l ≤ k → FnR P w K mg base CX0 k f sp
/-- len(rules) -/
structure LenO (P : Program) (w : World) (K : PySem.W.Frag) (mg : Str → Option Value) (base : Heap) (C : Addr) (sp : Sp) (l : Nat) where
  f : Addr
  fi : PySem.W.findIn K (.ref C) "__len__" = some (some (.ref f))
  fn : PySem.W.isFn K (.ref f) = true
  ok : ∀ k, l ≤ k → FnR P w K mg base CX0 k f sp
section
variable {P : Program} {w : World} {K : PySem.W.Frag} {mg : Str → Option Value} {base : Heap} {kA : Addr}
theorem scREq : FnScope ["self", "other"] ["self", "other"] (defScope sREq) := ⟨rfl, rfl, rfl, by decide +kernel, rfl, by decide +kernel, by decide +kernel⟩
theorem ok_req {f C : Addr} {fd : FuncData} {k : Nat} (F : Fun K "__eq__" "Rules.__eq__" sREq f fd) (T : Glb K mg kA) (TC : Txt1 K mg C) (ic : C8.InsC K C) : FnOk P w K mg base CX0 (k + 1) f fd ["self", "other"] (spREq K C) := by
  refine F.ok scREq (fun vs H Q E h => ?_) (fun cdv A outer s H vs Q E hr h => ?_)
  · obtain ⟨x, y, m, v, rs, ts, rfl, _⟩ := h
    rfl
  · obtain ⟨x, y, m, v, rs, ts, rfl, ⟨dx, g, us, h1, h2, h3⟩, ⟨dy, g', us', t1, t2, t3⟩, ho, ho', nd, nd', q⟩ := h
    have hu64 : (A.deeper (PyProof.Rows.envOfC (Str.ofString "Rules.__eq__") (defScope sREq) s.heap.objs.size f cdv)).units + 64 < cLine := by
      have := hr.un
      omega
    refine ⟨_, (pss_cons (ps_if (PW.pt (pw_or (pt_not (pt_val (pe_callB (C8.call_isC ic) (by rfl) T.isi (by decide +kernel) (pa_cons (pv 1) (pa_cons (pe_glob (v := .ref C) rfl TC.mgC rfl) pa_nil))))) (pw_or1 (pt_cmpR op_ne (pe_fld (pv 0) rfl) (pe_fld (pv 1) rfl) (nomark _))))) (pss_one (ps_ret pe_bl)) pss_nil)
      (pss_one (ps_ret (pe_cmpR (op_eqD hu64) (pe_callB (SoD.cr_sortedTD hu64) (by rfl) T.srt (by decide +kernel) (pa_cons (pe_fld (pv 0) rfl) pa_nil)) (pe_callB (SoD.cr_sortedTD hu64) (by rfl) T.srt (by decide +kernel) (pa_cons (pe_fld (pv 1) rfl) pa_nil)) (nomark _))))), ?_⟩
    refine ⟨_, rfl, y, dy, _, rfl, t1, _, rfl, iteF ?_⟩
    refine ⟨_, rfl, x, C, dx, _, _, rfl, h1, TC.cl, TC.nS, flds_span _ _, _, rfl, y, C, dy, _, _, rfl, t1, TC.cl, TC.nS, flds_span _ _, rfl, _, rfl, ?_⟩
    by_cases e : m = v
    · refine iteF' (by rw [e, decide_eq_true rfl]; rfl) ?_
      refine ⟨_, rfl, x, C, dx, _, _, rfl, h1, TC.cl, TC.nG, flds_given _ _, g, us, rs.map R.d, rfl, .inl (.inl h2), h3, rs_alike rs, rs_sortable rs, rs_dep rs, fun ys p dy1 np => ?_⟩
      rw [sort_ascR ho nd] at dy1
      have s1 : Same H (upd H p (.lst ys)) := same_new np
      have hp : (upd H p (.lst ys)) p = some (.lst ys) := upd_same
      have dy2 := dps_same s1 _ _ dy1
      generalize upd H p (.lst ys) = H1 at s1 hp dy2
      refine ⟨_, rfl, y, C, dy, _, _, rfl, s1 _ _ t1, TC.cl, TC.nG, flds_given _ _, g', us', ts.map R.d, rfl, .inl (.inl (s1 _ _ t2)), dps_same s1 _ _ t3, rs_alike ts, rs_sortable ts, rs_dep ts, fun zs p2 dz1 np2 => ?_⟩
      rw [sort_ascR ho' nd'] at dz1
      have s2 : Same H1 (upd H1 p2 (.lst zs)) := same_new np2
      refine ⟨.list ((ascR rs).map R.d), .list ((ascR ts).map R.d), .lst (SqL.of (s2 _ _ hp)) (dps_same s2 _ _ dy2), .lst (SqL.of upd_same) (dps_same s2 _ _ dz1), rds_shaped _, rds_shaped _, ?_⟩
      rw [rs_eqv]
      refine q _ _ (s1.trans s2) ?_
      rw [decide_eq_true_iff, ascR_eq ho nd ho' nd']
      exact ⟨fun h => ⟨e, h⟩, fun h => h.2⟩
    · refine iteT' (by rw [decide_eq_false (fun z => e (by injection z with z; omega))]; rfl) ?_
      exact q false _ (Same.refl _) ⟨(fun z => nomatch z), fun z => (e z.1).elim⟩
theorem scRLen : FnScope ["self"] ["self"] (defScope sRLen) := ⟨rfl, rfl, rfl, by decide +kernel, rfl, by decide +kernel, by decide +kernel⟩
theorem ok_rlen {f C : Addr} {fd : FuncData} {k : Nat} (F : Fun K "__len__" "Rules.__len__" sRLen f fd) (T : Glb K mg kA) (TC : Txt1 K mg C) : FnOk P w K mg base CX0 (k + 1) f fd ["self"] (spRLen K C) := by
  refine F.ok scRLen (fun vs H Q E h => ?_) (fun cdv A outer s H vs Q E hr h => ?_)
  · obtain ⟨x, m, rs, rfl, _⟩ := h
    rfl
  · obtain ⟨x, m, rs, rfl, ⟨dx, g, us, h1, h2, h3⟩, q⟩ := h
    have ul : us.length = rs.length := by rw [dps_len h3, List.length_map]
    refine ⟨_, pss_one (ps_ret (pe_callB call_len_seq (by rfl) T.len PySem.boot_len (pa_cons (pe_fld (pv 0) rfl) pa_nil))), ?_⟩
    refine ⟨_, rfl, x, C, dx, _, _, rfl, h1, TC.cl, TC.nG, flds_given _ _, g, us, rfl, .inr (.inl (.inl h2)), ?_⟩
    rw [ul]
    exact q
end
end CC
namespace CC
open PySem L2 TL
abbrev sDrawn : Stmt := tp 58
section
variable {K : PySem.W.Frag} {H H' H'' : Hp} {s l p a b q : Addr} {w m m' n c c' : Nat}
theorem LP.base (r : RanP H H' s c) (a : LP K H' H'' s l w m c') : LP K H H'' s l w m c' := ⟨r.trans a.ran, r.free a.new, a.nes, a.lst⟩
theorem LP.cat {us vs : List V} {rs ts : List R} (r : RanP H H' s c) (h1 : DpAll K H' us (rs.map R.d)) (h2 : ∀ r ∈ rs, r.ok w) (h3 : rs.length ≤ m) (g1 : DpAll K H' vs (ts.map R.d)) (g2 : ∀ r ∈ ts, r.ok w) (g3 : ts.length ≤ n) (hq : H' q = none) :
    LP K H (upd H' q (.lst (us ++ vs))) s q w (m + n) c := by
  refine ⟨r.grow (same_new hq), r.free hq, r.ne hq, us ++ vs, rs ++ ts, upd_same, ?_, ?_, ?_⟩
  · rw [List.map_append]
    exact dps_app (dps_same (same_new hq) _ _ h1) (dps_same (same_new hq) _ _ g1)
  · intro x hx
    rcases List.mem_append.mp hx with z | z
    · exact h2 x z
    · exact g2 x z
  · rw [List.length_append]
    omega
theorem ins_perm {α : Type} (l : List α) (n : Nat) (x : α) : (l.take n ++ [x] ++ l.drop n).Perm (x :: l) := by
  rw [List.append_assoc]
  have := (List.perm_middle (a := x) (l₁ := l.take n) (l₂ := l.drop n))
  rw [List.take_append_drop] at this
  exact this
end
def spDrawn (K : PySem.W.Frag) : Sp := fun vs H Q _ => ∃ (s : Addr) (m c : Nat), vs = [.ref s, .int (m : Int)] ∧ Pen H s c ∧ c < 800000 ∧ 1 ≤ m ∧ m ≤ 6 ∧ ∀ (t p : Addr) (w : Nat) (us : List V) (rs : List R) (H' : Hp), RanP H H' s (c + 140) → H t = none → t ≠ s → H p = none → p ≠ s → 1 ≤ w → w ≤ m →
  H' t = some (.tup [.int (w : Int), .ref p]) → H' p = some (.lst us) → DpAll K H' us (rs.map R.d) → (∀ r ∈ rs, r.ok w) → rs.Nodup → Q (.ref t) H'
section
variable {P : Program} {w : World} {K : PySem.W.Frag} {mg : Str → Option Value} {base : Heap} {kA : Addr}
abbrev nDr : List Str := ["_law_pen_here", "_law_most", "_law_width", "_law_way", "_law_some", "_law_found", "_law_one", "_law_turn", "_law_kind", "_law_a", "_law_b"]
theorem scDrawn : FnScope nDr ["_law_pen_here", "_law_most"] (defScope sDrawn) := ⟨rfl, rfl, rfl, by decide +kernel, rfl, by decide +kernel, by decide +kernel⟩
theorem ok_drawn {f : Addr} {fd : FuncData} {k : Nat} (F : Fun K "_law_drawn" "_law_drawn" sDrawn f fd) (T : Glb K mg kA) (cD : Cal P w K mg base "_law_draw" ["_law_pen_here", "_law_many"] spPDraw 1) (cR : Cal P w K mg base "_law_rule" ["_law_pen_here", "_law_width"] (spPRule K) 2) (cG : Cal P w K mg base "_law_ring" ["_law_pen_here", "_law_width"] (spRing K) 2) : FnOk P w K mg base CX0 (k + 3) f fd ["_law_pen_here", "_law_most"] (spDrawn K) := by
  have GD := cD.ok (k + 2) (by omega)
  have GR := cR.ok (k + 2) (by omega)
  have GG := cG.ok (k + 2) (by omega)
  refine F.ok scDrawn (fun vs H Q E h => ?_) (fun cdv A outer s H vs Q E hr h => ?_)
  · obtain ⟨s, w, c, rfl, _⟩ := h
    rfl
  · obtain ⟨s, m, c, rfl, hp, hc, m1, m6, q⟩ := h
    have n := scDrawn.nd
    have hu65 := Nat.lt_of_le_of_lt (Nat.le_trans (Nat.add_le_add_left (by decide : 65 ≤ 200) _) (Nat.add_le_add_right (Nat.le_add_right _ (16 * (k + 2))) 200)) hr.un
    refine ⟨_, (pss_cons (ps_asg (pe_tup (pa_cons (pe_op op_add pe_int (pe_call GD hr rfl cD.g cD.kp cD.b .nil pass0 (pa_cons (pv 0) (pa_cons (pv 1) pa_nil)))) (pa_cons (pe_call GD hr rfl cD.g cD.kp cD.b .nil pass0 (pa_cons (pv 0) (pa_cons pe_int pa_nil))) pa_nil))) (pg_tup rfl (pgs_cons (pg_name (i := 2) n rfl (.inr rfl)) (pgs_cons (pg_name (i := 3) n rfl (.inl rfl)) pgs_nil))))
      (pss_cons (ps_set (i := 4) n rfl (.inl rfl) (pe_lst pa_nil))
      (C8.pss_cut (ps_if (PW.pt (pw_and (pt_cmpR op_gt (pv 2) pe_int (nomark _)) (pw_and1 (pt_cmpR op_in_seq (pv 3) (pe_tup (pa_cons pe_int (pa_cons pe_int (pa_cons pe_int pa_nil)))) (by rfl)))))
        (pss_one (ps_setLc (i := 4) (own := [("_law_turn", 7)]) (g := gName 7) (tt := tYes) (te := tCall (spPRule K) [] E0 (tCons (tVar 0) (tCons (tVar 2) tNil))) rfl n rfl rfl (sw_true rfl rfl rfl (by decide +kernel)) (pi_range1 (by rfl) T.rng (pa_cons (pe_op op_add pe_int (pe_call GD hr rfl cD.g cD.kp cD.b .nil pass0 (pa_cons (pv 0) (pa_cons (pe_op op_mul pe_int (pv 3)) pa_nil)))) pa_nil)) (blkOk_by (N := nDr) (sc := defScope sDrawn) (by decide +kernel))
          (fun _ _ _ _ _ => (pg_name (i := 7) n rfl (.inl rfl))) (fun _ _ _ _ _ => pts_nil) (fun _ _ _ _ _ => (pe_call GR hr rfl cR.g cR.kp cR.b .nil pass0 (pa_cons (pv 0) (pa_cons (pv 2) pa_nil))))))
        pss_nil)
      (C8.pss_cut (ps_if (PW.pt (pw_and (pt_cmpR op_gt (pv 2) pe_int (nomark _)) (pw_and1 (pt_cmpR op_eq (pv 3) pe_int (nomark _)))))
        (pss_one (ps_setLc (i := 4) (own := [("_law_kind", 8), ("_law_a", 9), ("_law_b", 10)]) (g := g3 K 8 9 10) (tt := tYes) rfl n rfl rfl (sw_true rfl rfl rfl (by decide +kernel)) (pi_list (pv 4)) (blkOk_by (N := nDr) (sc := defScope sDrawn) (by decide +kernel))
          (fun _ _ _ _ _ => (pg_tup rfl (pgs_cons (pg_name (i := 8) n rfl (.inl rfl)) (pgs_cons (pg_name (i := 9) n rfl (.inl rfl)) (pgs_cons (pg_name (i := 10) n rfl (.inl rfl)) pgs_nil))))) (fun _ _ _ _ _ => pts_nil) (fun _ _ _ _ _ => (pe_tup (pa_cons pe_str (pa_cons (pv 9) (pa_cons (pv 10) pa_nil)))))))
        pss_nil)
      (C8.pss_cut (ps_if (PW.pt (pw_and (pt_cmpR op_gt (pv 2) pe_int (nomark _)) (pw_and1 (pt_cmpR op_gt (pv 3) pe_int (nomark _)))))
        (pss_one (ps_set (i := 4) n rfl (.inl rfl) (pe_op op_cat (pe_call GG hr rfl cG.g cG.kp cG.b .nil pass0 (pa_cons (pv 0) (pa_cons (pv 2) pa_nil))) (pe_lc (own := [("_law_turn", 7)]) (g := gName 7) (tt := tYes) (te := tCall (spPRule K) [] E0 (tCons (tVar 0) (tCons (tVar 2) tNil))) rfl n (pi_range1 (by rfl) T.rng (pa_cons (pe_call GD hr rfl cD.g cD.kp cD.b .nil pass0 (pa_cons (pv 0) (pa_cons pe_int pa_nil))) pa_nil)) (blkOk_by (N := nDr) (sc := defScope sDrawn) (by decide +kernel))
          (fun _ _ _ _ _ => (pg_name (i := 7) n rfl (.inl rfl))) (fun _ _ _ _ _ => pts_nil) (fun _ _ _ _ _ => (pe_call GR hr rfl cR.g cR.kp cR.b .nil pass0 (pa_cons (pv 0) (pa_cons (pv 2) pa_nil))))))))
        pss_nil)
      (C8.pss_cut (ps_if (PW.pt (pw_and (pt_cmpR op_gt (pv 2) pe_int (nomark _)) (pw_and1 (pt_cmpR op_eq (pv 3) pe_int (nomark _)))))
        (pss_one (ps_set (i := 4) n rfl (.inl rfl) (pe_op op_cat (pv 4) (pe_call GG hr rfl cG.g cG.kp cG.b .nil pass0 (pa_cons (pv 0) (pa_cons (pv 2) pa_nil))))))
        pss_nil)
      (pss_cons (ps_set (i := 5) n rfl (.inl rfl) (pe_lst pa_nil))
      (pss_cons (ps_for PassesOwn.never rfl (pi_list (pv 4)) (pg_name (i := 6) n rfl (.inl rfl))
        (pss_one (ps_if (pt_cmpR (op_notInD hu65) (pv 6) (pv 5) (by rfl))
          (pss_one (ps_expr (pe_bm PySem.F.plainAttrs_list PySem.F.slot_list_insert PySem.F.type_list_insert mt_insert (pv 5) (pa_cons (pe_call GD hr rfl cD.g cD.kp cD.b .nil pass0 (pa_cons (pv 0) (pa_cons (pe_op op_add (pe_callB call_len_seq (by rfl) T.len PySem.boot_len (pa_cons (pv 5) pa_nil)) pe_int) pa_nil))) (pa_cons (pv 6) pa_nil)))))
          pss_nil)))
      (pss_one (ps_ret (pe_tup (pa_cons (pv 2) (pa_cons (pv 5) pa_nil))))))))))))), ?_⟩
    refine ⟨_, rfl, _, rfl, s, m, c, rfl, hp, by omega, by omega, by omega, fun d H1 hd r1 => ⟨_, _, rfl, rfl, ?_⟩⟩
    refine ⟨_, rfl, s, 7, c + 1, rfl, r1.src, by omega, by decide, by decide, fun way H2 hway r2 => ?_⟩
    dsimp only
    have ew : (1 + (d : Int)) = ((d + 1 : Nat) : Int) := by omega
    rw [ew]
    have w1 : 1 ≤ d + 1 := by omega
    have wm : d + 1 ≤ m := by omega
    generalize d + 1 = w at w1 wm
    refine ⟨(by show 2 ≤ sizeLine; decide), fun t nt => ?_⟩
    have s3 : Same H2 (upd H2 t (.tup [.int (w : Int), .int (way : Int)])) := same_new nt
    have ht3 : (upd H2 t (.tup [.int (w : Int), .int (way : Int)])) t = some (.tup [.int (w : Int), .int (way : Int)]) := upd_same
    generalize upd H2 t (.tup [.int (w : Int), .int (way : Int)]) = H3 at s3 ht3
    refine ⟨t, _, rfl, .inl (.inl ht3), rfl, _, _, rfl, _, _, rfl, rfl, ?_⟩
    have r3 : RanP H H3 s (c + 2) := (r1.trans r2).grow s3
    refine ⟨Nat.zero_le _, fun so nso => ?_⟩
    have p4 : LP K H (upd H3 so (.lst [])) s so w 0 (c + 2) := .fresh r3 nso
    generalize upd H3 so (.lst []) = H4 at p4
    clear s3 ht3 r3 nso
    let Mid : Nat → Nat → L2.St → Hp → Prop := fun a b σ H' => ∃ (so : Addr) (y5 y6 y7 y8 y9 y10 : Option V), σ = [some (.ref s), some (.int (m : Int)), some (.int (w : Int)), some (.int (way : Int)), some (.ref so), y5, y6, y7, y8, y9, y10] ∧ LP K H H' s so w a b
    -- if width > 1 and way in (1, 2, 3)
    refine ⟨Mid 20 (c + 70), ?_, ?_⟩
    · refine ⟨_, rfl, _, _, rfl, rfl, _, rfl, ite2 (fun e => ?_) (fun _ => iteF ⟨so, _, _, _, _, _, _, rfl, p4.up (by omega) (by omega)⟩)⟩
      have w2 : 2 ≤ w := by
        have := of_decide_eq_true e
        omega
      refine ⟨_, rfl, (by show 3 ≤ sizeLine; decide), fun t2 nt2 => ⟨t2, _, rfl, .inr (.inl (.inl upd_same)), rfl, rfl, _, rfl, ?_⟩⟩
      have p5 := p4.grow (same_new (o := .tup [.int 1, .int 2, .int 3]) nt2)
      generalize upd H4 t2 (.tup [.int 1, .int 2, .int 3]) = H5 at p5
      refine ite2 (fun e2 => ?_) (fun _ => ⟨so, _, _, _, _, _, _, rfl, p5.up (by omega) (by omega)⟩)
      have wy : 1 ≤ way ∧ way ≤ 3 := by
        have z : inV (.int (way : Int)) [.int 1, .int 2, .int 3] = true := e2
        have z2 : inV (.int (way : Int)) (nms [1, 2, 3]) = true := z
        rw [nms_in] at z2
        have := of_decide_eq_true z2
        simp at this
        omega
      refine ⟨_, rfl, _, rfl, _, _, rfl, rfl, .inl ⟨by decide, by decide⟩, s, 3 * way, c + 2, rfl, p5.ran.src, by omega, by omega, by omega, fun d H6 hd r6 => ⟨_, _, rfl, rfl, _, rfl, by omega, by omega, fun D nD => ?_⟩⟩
      have p6 : RanP H H6 s (c + 2 + 1) := p5.ran.trans r6
      refine lc_range (lo := 0) (n := (1 + (d : Int)).toNat) (fun i H' => LP K H H' s D w i (c + 3 + 3 * i)) ((LP.fresh p6 nD).up (Nat.le_refl _) (by omega)) ?_ ?_
      · intro i H7 hi p7
        have i9 : i < 9 := by omega
        refine ⟨rfl, yes_if ?_⟩
        refine ⟨_, rfl, _, rfl, s, w, c + 3 + 3 * i, rfl, p7.ran.src, by omega, w2, by omega, fun t r H8 ok r8 nt ts dt => ?_⟩
        obtain ⟨acc, a1, a2, a3⟩ := (p7.run r8).push dt ok
        exact ⟨acc, a1, small1000 (by omega), a3.up (Nat.le_refl _) (by omega)⟩
      · intro H7 p7
        exact ⟨D, _, _, _, _, _, _, rfl, p7.up (by omega) (by omega)⟩
    rintro σ1 H5 ⟨so, y5, y6, y7, y8, y9, y10, rfl, p5⟩
    -- if width > 1 and way == 3
    refine ⟨Mid 20 (c + 70), ?_, ?_⟩
    · refine ⟨_, rfl, _, _, rfl, rfl, _, rfl, ite2 (fun e => ?_) (fun _ => iteF ⟨so, _, _, _, _, _, _, rfl, p5⟩)⟩
      refine ⟨_, rfl, rfl, _, rfl, ite2 (fun e2 => ?_) (fun _ => ⟨so, _, _, _, _, _, _, rfl, p5⟩)⟩
      obtain ⟨us, rs, h1, h2, h3, h4⟩ := id p5.lst
      have ul : us.length = rs.length := by rw [dps_len h2, List.length_map]
      refine ⟨_, rfl, so, rfl, ⟨_, SqL.of h1⟩, fun D nD => ?_⟩
      have nDs : so ≠ D := ne_of_none h1 nD
      refine lc_list (xs := us) (fun i H' => LP K H H' s D w i (c + 70) ∧ H' so = some (.lst us) ∧ SameT H5 H') ⟨.fresh p5.ran nD, by rw [upd_ne nDs]; exact h1, same_T (same_new nD)⟩ (fun i H' _ z => SqL.of z.2.1) ?_ ?_
      · rintro i v H6 hv ⟨p6, hso, sT⟩
        obtain ⟨r, hr2, dr⟩ := dps_rat (rds_T sT h2) hv
        obtain ⟨t, rfl, ht⟩ := dp_r dr
        have il : i < rs.length := (List.getElem?_eq_some_iff.mp hr2).1
        refine ⟨t, _, rfl, ht, rfl, _, _, rfl, _, _, rfl, _, _, rfl, rfl, rfl, yes_if ?_⟩
        refine ⟨_, rfl, _, rfl, (by show 3 ≤ sizeLine; decide), fun t2 n2 => ?_⟩
        have s7 : Same H6 (upd H6 t2 (.tup [.str "within", .int (r.a : Int), .int (r.b : Int)])) := same_new n2
        have ht2 : (upd H6 t2 (.tup [.str "within", .int (r.a : Int), .int (r.b : Int)])) t2 = some (.tup [.str "within", .int (r.a : Int), .int (r.b : Int)]) := upd_same
        generalize upd H6 t2 (.tup [.str "within", .int (r.a : Int), .int (r.b : Int)]) = H7 at s7 ht2
        obtain ⟨acc, a1, a2, a3⟩ := (p6.grow s7).push (v := .ref t2) (r := ⟨false, r.a, r.b⟩) (r_dp (.inl (.inl ht2))) (h3 r (List.mem_of_getElem? hr2))
        refine ⟨acc, a1, small1000 (by omega), a3, ?_, sT.trans ((same_T s7).trans (upd_T a1))⟩
        rw [upd_ne nDs]
        exact s7 _ _ hso
      · rintro H6 ⟨p6, _, _⟩
        exact ⟨D, _, _, _, _, _, _, rfl, p6.up (by omega) (by omega)⟩
    rintro σ1 H6 ⟨so, y5, y6, y7, y8, y9, y10, rfl, p6⟩
    -- if width > 1 and way > 3
    refine ⟨Mid 20 (c + 70 + 14 + 1 + 6), ?_, ?_⟩
    · refine ⟨_, rfl, _, _, rfl, rfl, _, rfl, ite2 (fun e => ?_) (fun _ => iteF ⟨so, _, _, _, _, _, _, rfl, p6.up (by omega) (by omega)⟩)⟩
      have w2 : 2 ≤ w := by
        have := of_decide_eq_true e
        omega
      refine ⟨_, rfl, _, _, rfl, rfl, _, rfl, ite2 (fun e2 => ?_) (fun _ => ⟨so, _, _, _, _, _, _, rfl, p6.up (by omega) (by omega)⟩)⟩
      refine ⟨_, rfl, _, rfl, s, w, c + 70, rfl, p6.ran.src, by omega, w2, by omega, fun g H7 p7' => ?_⟩
      have p7 := LP.base p6.ran p7'
      refine ⟨_, rfl, s, 3, _, rfl, p7.ran.src, by omega, by decide, by decide, fun d H8 hd r8 => ⟨_, rfl, by omega, by omega, fun D nD => ?_⟩⟩
      have p8 := p7.run r8
      obtain ⟨us, rs, h1, h2, h3, h4⟩ := id p8.lst
      have gD : g ≠ D := ne_of_none h1 nD
      refine lc_range (lo := 0) (n := ((d : Nat) : Int).toNat) (fun i H' => LP K H H' s D w i (c + 70 + 14 + 1 + 3 * i) ∧ H' g = some (.lst us) ∧ SameT H8 H') ⟨.fresh p8.ran nD, by rw [upd_ne gD]; exact h1, same_T (same_new nD)⟩ ?_ ?_
      · rintro i H9 hi ⟨p9, hg, sT⟩
        have i9 : i < 2 := by omega
        refine ⟨rfl, yes_if ?_⟩
        refine ⟨_, rfl, _, rfl, s, w, _, rfl, p9.ran.src, by omega, w2, by omega, fun t r H10 ok r10 nt ts dt => ?_⟩
        obtain ⟨acc, a1, a2, a3⟩ := (p9.run r10).push dt ok
        refine ⟨acc, a1, small1000 (by omega), a3.up (Nat.le_refl _) (by omega), ?_, sT.trans ((r10.T p9.ran.src).trans (upd_T a1))⟩
        rw [upd_ne gD]
        exact r10.at_ hg p8.nes
      · rintro H9 ⟨p9, hg, sT⟩
        obtain ⟨vs, ts, g1, g2, g3, g4⟩ := id p9.lst
        have h2' := rds_T sT h2
        have ul : us.length = rs.length := by rw [dps_len h2, List.length_map]
        have vl : vs.length = ts.length := by rw [dps_len g2, List.length_map]
        refine ⟨g, D, _, _, rfl, rfl, hg, g1, (by rw [sizeLine_eq]; omega), fun z nz => ?_⟩
        exact ⟨z, _, _, _, _, _, _, rfl, (LP.cat p9.ran h2' h3 h4 g2 g3 g4 nz).up (by omega) (by omega)⟩
    rintro σ1 H7 ⟨so, y5, y6, y7, y8, y9, y10, rfl, p7⟩
    -- if width > 1 and way == 6
    refine ⟨Mid 26 (c + 70 + 14 + 1 + 6 + 14), ?_, ?_⟩
    · refine ⟨_, rfl, _, _, rfl, rfl, _, rfl, ite2 (fun e => ?_) (fun _ => iteF ⟨so, _, _, _, _, _, _, rfl, p7.up (by omega) (by omega)⟩)⟩
      have w2 : 2 ≤ w := by
        have := of_decide_eq_true e
        omega
      refine ⟨_, rfl, rfl, _, rfl, ite2 (fun e2 => ?_) (fun _ => ⟨so, _, _, _, _, _, _, rfl, p7.up (by omega) (by omega)⟩)⟩
      refine ⟨_, rfl, _, rfl, _, rfl, s, w, _, rfl, p7.ran.src, by omega, w2, by omega, fun g H8 p8' => ?_⟩
      have p8 := LP.base p7.ran p8'
      obtain ⟨us, rs, h1, h2, h3, h4⟩ := id p7.lst
      have h1' := p8'.ran.at_ h1 p7.nes
      have h2' := rds_T (p8'.ran.T p7.ran.src) h2
      obtain ⟨vs, ts, g1, g2, g3, g4⟩ := id p8.lst
      have ul : us.length = rs.length := by rw [dps_len h2, List.length_map]
      have vl : vs.length = ts.length := by rw [dps_len g2, List.length_map]
      refine ⟨so, g, _, _, rfl, rfl, h1', g1, (by rw [sizeLine_eq]; omega), fun z nz => ?_⟩
      exact ⟨z, _, _, _, _, _, _, rfl, (LP.cat p8.ran h2' h3 h4 g2 g3 g4 nz).up (by omega) (by omega)⟩
    rintro σ1 H8 ⟨so, y5, y6, y7, y8, y9, y10, rfl, p8⟩
    obtain ⟨us, rs, h1, h2, h3, h4⟩ := id p8.lst
    have ul : us.length = rs.length := by rw [dps_len h2, List.length_map]
    refine ⟨Nat.zero_le _, fun fo nfo => ?_⟩
    have sofo : so ≠ fo := ne_of_none h1 nfo
    have s9 : Same H8 (upd H8 fo (.lst [])) := same_new nfo
    have hf9 : (upd H8 fo (.lst [])) fo = some (.lst []) := upd_same
    have nfo0 : H fo = none := p8.ran.free nfo
    have fos : fo ≠ s := p8.ran.ne nfo
    generalize upd H8 fo (.lst []) = H9 at s9 hf9
    refine ⟨_, rfl, so, rfl, ⟨_, SqL.of (s9 _ _ h1)⟩, ?_⟩
    refine for_list (xs := us) (fun i σ H' => ∃ (y6 : Option V) (fu : List V) (fr : List R), σ = [some (.ref s), some (.int (m : Int)), some (.int (w : Int)), some (.int (way : Int)), some (.ref so), some (.ref fo), y6, y7, y8, y9, y10] ∧ RanP H H' s (c + 70 + 14 + 1 + 6 + 14 + i) ∧ H' so = some (.lst us) ∧ SameT H8 H' ∧ H' fo = some (.lst fu) ∧ DpAll K H' fu (fr.map R.d) ∧ (∀ r ∈ fr, r.ok w) ∧ fr.Nodup ∧ fr.length ≤ i)
      ⟨_, [], [], rfl, (p8.ran.grow s9).mono (by omega), s9 _ _ h1, same_T s9, hf9, .nil, (fun r hr => nomatch hr), List.nodup_nil, Nat.le_refl _⟩ (fun i σ H' _ ⟨_, _, _, _, _, z, _⟩ => SqL.of z) ?_ ?_
    · rintro i v σ H10 hv ⟨y6, fu, fr, rfl, r10, hso, sT, hfo, df, okf, ndf, lf⟩
      obtain ⟨r, hr2, dr⟩ := dps_rat (rds_T sT h2) hv
      have il : i < rs.length := (List.getElem?_eq_some_iff.mp hr2).1
      have fl : fu.length = fr.length := by rw [dps_len df, List.length_map]
      refine ⟨_, rfl, _, rfl, r.d, fr.map R.d, dr, .lst (SqL.of hfo) df, rd_shaped r, rds_shaped fr, _, rfl, ?_⟩
      rw [rds_any]
      by_cases e : r ∈ fr
      · rw [decide_eq_true e]
        exact iteF ⟨_, fu, fr, rfl, r10.mono (by omega), hso, sT, hfo, df, okf, ndf, by omega⟩
      · rw [decide_eq_false e]
        refine iteT ?_
        have em : ((fu.length : Int) + 1) = ((fu.length + 1 : Nat) : Int) := by omega
        refine ⟨_, rfl, .inl ⟨rfl, _, SqL.of hfo⟩, _, rfl, _, rfl, fo, _, rfl, .inl (SqL.of hfo), _, _, rfl, rfl, s, fu.length + 1, _, rfl, r10.src, by omega, by omega, by omega, fun j H11 hj r11 => ?_⟩
        have hfo' := r11.at_ hfo fos
        refine ⟨_, rfl, fo, fu, _, _, rfl, rfl, hfo', small1000 (by omega), by omega, by omega, ?_⟩
        have ej : ((j : Nat) : Int).toNat = j := by omega
        have tT : SameT H10 (upd H11 fo (.lst (fu.take (((j : Nat) : Int).toNat) ++ [v] ++ fu.drop (((j : Nat) : Int).toNat)))) := (r11.T r10.src).trans (upd_T hfo')
        have pm := ins_perm fr (((j : Nat) : Int).toNat) r
        refine ⟨_, _, fr.take (((j : Nat) : Int).toNat) ++ [r] ++ fr.drop (((j : Nat) : Int).toNat), rfl, ((r10.trans r11).put (us := []) nfo0 fos).mono (by omega), ?_, sT.trans tT, upd_same, ?_, ?_, ?_, ?_⟩
        · rw [upd_ne sofo]
          exact r11.at_ hso p8.nes
        · have h := rds_T tT df
          rw [List.map_append, List.map_append, List.map_take, List.map_drop]
          exact dps_app (dps_app (dps_take _ h) (.cons (rd_T tT dr) .nil)) (dps_drop _ h)
        · intro x hx
          rcases List.mem_cons.mp (pm.mem_iff.mp hx) with rfl | z
          · exact h3 _ (List.mem_of_getElem? hr2)
          · exact okf x z
        · exact pm.symm.nodup (List.nodup_cons.mpr ⟨e, ndf⟩)
        · rw [pm.length_eq, List.length_cons]
          omega
    rintro σ H10 ⟨y6, fu, fr, rfl, r10, hso, sT, hfo, df, okf, ndf, lf⟩
    refine ⟨_, rfl, _, rfl, (by show 2 ≤ sizeLine; decide), fun t nt => ?_⟩
    have s11 : Same H10 (upd H10 t (.tup [.int (w : Int), .ref fo])) := same_new nt
    exact q t fo w fu fr _ ((r10.grow s11).mono (by omega)) (r10.free nt) (r10.ne nt) nfo0 fos w1 wm upd_same (s11 _ _ hfo) (dps_same s11 _ _ df) okf ndf
end
end CC
namespace CC
open PySem L2 TL
abbrev sTx : Stmt := tp 59
def spTx (K : PySem.W.Frag) : Sp := fun vs H Q _ => ∃ (g : Addr) (us : List V) (rs : List R), vs = [.ref g] ∧ SqL K H g us ∧ DpAll K H us (rs.map R.d) ∧ (∀ r ∈ rs, r.ok 6) ∧ rs.length ≤ 60 ∧ ∀ H', Same H H' → Q (.str (textS rs)) H'
section
variable {P : Program} {w : World} {K : PySem.W.Frag} {mg : Str → Option Value} {base : Heap} {kA : Addr}
abbrev nTx : List Str := ["_law_some", "_law_kind", "_law_a", "_law_b"]
theorem scTx : FnScope nTx ["_law_some"] (defScope sTx) := ⟨rfl, rfl, rfl, by decide +kernel, rfl, by decide +kernel, by decide +kernel⟩
theorem ok_tx {f : Addr} {fd : FuncData} {k : Nat} (F : Fun K "_law_text" "_law_text" sTx f fd) (T : Glb K mg kA) : FnOk P w K mg base CX0 (k + 1) f fd ["_law_some"] (spTx K) := by
  refine F.ok scTx (fun vs H Q E h => ?_) (fun cdv A outer s H vs Q E hr h => ?_)
  · obtain ⟨g, us, rs, rfl, _⟩ := h
    rfl
  · obtain ⟨g, us, rs, rfl, hg, dp, ho6, rl, q⟩ := h
    have n := scTx.nd
    refine ⟨_, (pss_one (ps_ret (pe_join pe_str (pe_lc (own := [("_law_kind", 1), ("_law_a", 2), ("_law_b", 3)]) (g := g3 K 1 2 3) (tt := tYes) rfl n (pi_list (pv 0)) (blkOk_by (N := nTx) (sc := defScope sTx) (by decide +kernel))
        (fun _ _ _ _ _ => (pg_tup rfl (pgs_cons (pg_name (i := 1) n rfl (.inl rfl)) (pgs_cons (pg_name (i := 2) n rfl (.inl rfl)) (pgs_cons (pg_name (i := 3) n rfl (.inl rfl)) pgs_nil))))) (fun _ _ _ _ _ => pts_nil) (fun _ _ _ _ _ => (pe_op op_add_str (pe_op op_add_str (pe_op op_add_str (pe_op op_add_str (pe_op op_add_str (pe_callTy call_str_int (by rfl) T.str (by decide +kernel) (pa_cons (pv 2) pa_nil)) pe_str) (pv 1)) pe_str) (pe_callTy call_str_int (by rfl) T.str (by decide +kernel) (pa_cons (pv 3) pa_nil))) pe_str)))))), ?_⟩
    have ul : us.length = rs.length := by rw [dps_len dp, List.length_map]
    refine ⟨⟨_, rfl⟩, _, rfl, g, rfl, ⟨_, hg⟩, fun D nD => ?_⟩
    refine lc_list (xs := us) (fun i H1 => Same H (wo H1 D) ∧ H1 D = some (.lst (((rs.take i).map fun r => lineS r ++ "\n").map V.str))) ⟨?_, upd_same⟩ (fun i H1 _ z => same_l (z.1.trans (wo_le D)) hg) ?_ ?_
    · rw [wo_upd]
      exact fun b o e => by rw [wo_ne (ne_of_none e nD)]; exact e
    · rintro i v H1 hv ⟨e1, e2⟩
      obtain ⟨r, hr2, dr⟩ := dps_rat dp hv
      have il : i < rs.length := (List.getElem?_eq_some_iff.mp hr2).1
      obtain ⟨t, rfl, ht⟩ := dp_r (dp_same (e1.trans (wo_le D)) _ _ dr)
      have ok := ho6 r (List.mem_of_getElem? hr2)
      have hl := List.all_eq_true.mp lens2_all r (mem_allR.mpr ok)
      simp only [Bool.and_eq_true, decide_eq_true_eq] at hl
      obtain ⟨⟨⟨⟨⟨⟨l1, l2⟩, l3⟩, l4⟩, l5⟩, l6⟩, l7⟩ := hl
      have big : ∀ {a b : Nat}, a ≤ 20 → b ≤ 20 → a + b ≤ sizeLine := fun h1 h2 => Nat.le_trans (Nat.add_le_add h1 h2) (by decide)
      have s1 : (" " : Str).length ≤ 20 := by decide +kernel
      have s2 : ("\n" : Str).length ≤ 20 := by decide +kernel
      refine ⟨t, _, rfl, ht, rfl, _, _, rfl, _, _, rfl, _, _, rfl, rfl, rfl, yes_if ?_⟩
      refine ⟨_, rfl, _, rfl, small6 ok.1, _, _, rfl, rfl, big l1 s1, _, rfl, _, _, rfl, rfl, big l2 l7, _, _, rfl, rfl, big l3 s1, _, rfl, _, rfl, small6 ok.2.1, _, _, rfl, rfl, big l4 l6, _, _, rfl, rfl, big l5 s2, ?_⟩
      refine ⟨_, e2, small1000 (by rw [List.length_map, List.length_map, List.length_take]; omega), ?_, ?_⟩
      · rw [wo_upd]
        exact e1
      · rw [upd_same, SG.take_one hr2, List.map_append, List.map_append]
        show some (HO.lst (_ ++ [V.str (lineP r)])) = some (HO.lst (_ ++ [V.str (lineS r ++ "\n")]))
        rw [lineP_eq]
    rintro H1 ⟨e1, e2⟩
    rw [ul, List.take_length] at e2
    have s1 : Same H H1 := e1.trans (wo_le D)
    refine ⟨_, D, rs.map (fun r => lineS r ++ "\n"), rfl, rfl, .inl (SqL.of e2), ?_, ?_⟩
    · have z : ∀ l : List Nat, (∀ x ∈ l, x ≤ 21) → l.sum ≤ 21 * l.length := by
        intro l
        induction l with
        | nil => intro _; simp
        | cons x l ih =>
          intro h
          have h1 := h x List.mem_cons_self
          have h2 := ih fun y hy => h y (List.mem_cons_of_mem _ hy)
          rw [List.sum_cons, List.length_cons]
          omega
      have z1 := z (((rs.map fun r => lineS r ++ "\n")).map (·.length)) fun x hx => by
        obtain ⟨y, hy, rfl⟩ := List.mem_map.mp hx
        obtain ⟨r, hr2, rfl⟩ := List.mem_map.mp hy
        have := (line_of6 (ho6 r hr2)).1
        rw [len_tl] at this
        rw [len_tl, tl_app, List.length_append]
        have e : (tl ("\n" : Str)).length = 1 := by decide +kernel
        omega
      have e0 : (Str.ofString "").length = 0 := by decide +kernel
      rw [List.length_map, List.length_map] at z1
      rw [e0, Nat.mul_zero]
      omega
    · exact q H1 s1
end
end CC
namespace CC
open PySem L2 TL
abbrev sTW : Stmt := inClass (tp 47) 1
section
variable {P : Program} {w : World} {K : PySem.W.Frag} {mg : Str → Option Value} {base : Heap} {kA : Addr}
theorem scTW : FnScope ["self"] ["self"] (defScope sTW) := ⟨rfl, rfl, rfl, by decide +kernel, rfl, by decide +kernel, by decide +kernel⟩
theorem ok_tw {f C : Addr} {fd : FuncData} {k : Nat} (F : Fun K "width" "Table.width" sTW f fd) (TC : TxtT K mg C) : FnOk P w K mg base CX0 (k + 1) f fd ["self"] (getSp C "span") := by
  refine F.ok scTW (fun vs H Q E h => ?_) (fun cdv A outer s H vs Q E hr h => ?_)
  · obtain ⟨a, dx, fs, v, rfl, _⟩ := h
    rfl
  · obtain ⟨a, dx, fs, v, rfl, ea, l, q⟩ := h
    exact ⟨_, pss_one (ps_ret (pe_fld (pv 0) rfl)), _, rfl, a, C, dx, fs, v, rfl, ea, TC.cl, TC.nS, l, q⟩
end
end CC
namespace CC
open PySem L2 TL
abbrev sTR : Stmt := inClass (tp 47) 2
section
variable {P : Program} {w : World} {K : PySem.W.Frag} {mg : Str → Option Value} {base : Heap} {kA : Addr}
theorem scTRo : FnScope ["self"] ["self"] (defScope sTR) := ⟨rfl, rfl, rfl, by decide +kernel, rfl, by decide +kernel, by decide +kernel⟩
theorem ok_trows {f C : Addr} {fd : FuncData} {k : Nat} (F : Fun K "rows" "Table.rows" sTR f fd) (TC : TxtT K mg C) : FnOk P w K mg base CX0 (k + 1) f fd ["self"] (getSp C "lines") := by
  refine F.ok scTRo (fun vs H Q E h => ?_) (fun cdv A outer s H vs Q E hr h => ?_)
  · obtain ⟨a, dx, fs, v, rfl, _⟩ := h
    rfl
  · obtain ⟨a, dx, fs, v, rfl, ea, l, q⟩ := h
    exact ⟨_, pss_one (ps_ret (pe_fld (pv 0) rfl)), _, rfl, a, C, dx, fs, v, rfl, ea, TC.cl, TC.nL, l, q⟩
end
end CC
namespace CC
open PySem L2 TL
abbrev sTCnt : Stmt := inClass (tp 47) 3
def spTCnt (K : PySem.W.Frag) (C : Addr) : Sp := fun vs H Q _ => ∃ (x : Addr) (w : Nat) (rows : List (List Nat)), vs = [.ref x] ∧ TableAt K C H x w rows ∧ w ≤ 6 ∧ (∀ r ∈ rows, RowOk w r) ∧ rows.length ≤ 400 ∧ ∀ (v : V) (H' : Hp), Same H H' → Dp K H' v (gd ((List.range w).map fun c => dn (colN rows c))) → Q v H'
section
variable {P : Program} {w : World} {K : PySem.W.Frag} {mg : Str → Option Value} {base : Heap} {kA : Addr}
def callArg0 : Expr → Expr
  | .Call _ (a :: _) _ _ => a
  | e => e
abbrev scCn : Scope := lcScT (callArg0 (retVal ((defBody sTCnt).getD 0 (.Pass ⟨0, 0, 0, 0⟩))))
abbrev nCt : List Str := ["self", "column", "row"]
theorem scTCnt : FnScope nCt ["self"] (defScope sTCnt) := ⟨rfl, rfl, rfl, by decide +kernel, rfl, by decide +kernel, by decide +kernel⟩
theorem ok_tcnt {f C : Addr} {fd : FuncData} {k : Nat} (F : Fun K "counts" "Table.counts" sTCnt f fd) (T : Glb K mg kA) (TC : TxtT K mg C) : FnOk P w K mg base CX0 (k + 1) f fd ["self"] (spTCnt K C) := by
  refine F.ok scTCnt (fun vs H Q E h => ?_) (fun cdv A outer s H vs Q E hr h => ?_)
  · obtain ⟨x, m, rows, rfl, _⟩ := h
    rfl
  · obtain ⟨x, m, rows, rfl, ta, w6, ok, few, q⟩ := h
    obtain ⟨dx, g, us, h1, h2, h3⟩ := id ta
    have n := scTCnt.nd
    refine ⟨_, (pss_one (ps_ret (pe_callTy call_tuple_of (by rfl) T.tup (by decide +kernel) (pa_cons (pe_lc (own := [("column", 1)]) (g := gName 1) (tt := tYes) (te := tCB (rLenI w) (tCons (SC.tSI w (iTup K (tFld K (tVar 0) "lines")) (gName 2) tYes (tOp (rIxT K) (tVar 2) (tVar 1)) [2]) tNil)) rfl n (pi_range1 (by rfl) T.rng (pa_cons (pe_fld (pv 0) rfl) pa_nil)) (blkOk_by (N := nCt) (sc := defScope sTCnt) (by decide +kernel))
        (fun _ _ _ _ _ => (pg_name (i := 1) n rfl (.inr rfl))) (fun _ _ _ _ _ => pts_nil) (fun _ _ _ _ _ => (pe_callB call_lenI (by rfl) T.len PySem.boot_len (pa_cons (SC.pe_setI (own := [("row", 2)]) (g := gName 2) (tt := tYes) rfl n (pi_tup (pe_fld (pv 0) rfl)) (blkOk_by (N := nCt) (sc := relS scCn (defScope sTCnt)) (by decide +kernel))
          (fun _ _ _ _ _ => (pg_name (i := 2) n rfl (.inl rfl))) (fun _ _ _ _ _ => pts_nil) (fun _ _ _ _ _ => (pe_ix ix_tup (pv 2) (pv 1) (fun _ _ => rfl)))) pa_nil)))) pa_nil)))), ?_⟩
    have ew : ((m : Nat) : Int).toNat = m := by omega
    have ul : us.length = rows.length := by rw [dps_len h3, List.length_map]
    refine ⟨_, rfl, x, C, dx, _, _, rfl, h1, TC.cl, TC.nS, fldT_span _ _, _, rfl, by omega, by omega, fun D nD => ?_⟩
    refine lc_range (lo := 0) (n := ((m : Nat) : Int).toNat) (fun i H1 => Same H (wo H1 D) ∧ H1 D = some (.lst (nms ((List.range i).map fun c => dn (colN rows c)))) ∧ i ≤ 6) ⟨?_, upd_same, by omega⟩ ?_ ?_
    · rw [wo_upd]
      exact fun b o e => by rw [wo_ne (ne_of_none e nD)]; exact e
    · rintro i H1 hi ⟨e1, e2, e3⟩
      have im : i < m := by omega
      have s1 : Same H H1 := e1.trans (wo_le D)
      rw [Int.zero_add]
      refine ⟨rfl, yes_if ⟨_, rfl, x, C, dx, _, _, rfl, s1 _ _ h1, TC.cl, TC.nL, fldT_lines _ _, g, rfl, ⟨_, .inl (.inl (s1 _ _ h2))⟩, fun D2 nD2 => ?_⟩⟩
      have cut : ∀ j, dn (colN (rows.take j) i) ≤ j := fun j => by
        have e : colN (rows.take j) i = (colN rows i).take j := by
          unfold colN
          rw [List.map_take]
        rw [e]
        exact dn_le _ j
      refine si_tup (xs := us) (fun j H2 => Same H1 (wo H2 D2) ∧ H2 D2 = some (SetO w D2 (memI (colN (rows.take j) i)) (dn (colN (rows.take j) i))) ∧ j ≤ 400) ⟨?_, ?_, by omega⟩ (fun j H2 _ z => .inl (.inl (wo_le D2 _ _ (z.1 _ _ (s1 _ _ h2))))) ?_ ?_
      · rw [wo_upd]
        exact fun b o e => by rw [wo_ne (ne_of_none e nD2)]; exact e
      · rw [upd_same]
        have e : memI (colN (rows.take 0) i) = fun _ => false := by
          funext k
          simp [memI, colN]
        have e' : dn (colN (rows.take 0) i) = 0 := by simp [dn, firsts, colN]
        rw [e, e']
      · rintro j v H2 hv ⟨f1, f2, f3⟩
        obtain ⟨r, hr2, dr⟩ := dps_gat h3 hv
        have jl := (List.getElem?_eq_some_iff.mp hr2).1
        have rok := ok r (List.mem_of_getElem? hr2)
        obtain ⟨t, rfl, ht⟩ := gd_at dr
        have s2 : Same H H2 := s1.trans (f1.trans (wo_le D2))
        have gx : (nms r)[i]? = some (.int ((r.getD i 0 : Nat) : Int)) := by
          rw [nms, List.getElem?_map, List.getD_eq_getElem?_getD, List.getElem?_eq_getElem (by rw [rok.1]; exact im)]
          rfl
        have room : dn (colN (rows.take j) i) + 1 < scanBound := by
          have := cut j
          unfold scanBound
          omega
        refine ⟨rfl, yes_if ⟨_, rfl, _, rfl, t, _, _, _, rfl, rfl, same_t s2 ht, atI_nat gx, (memI (colN (rows.take j) i), dn (colN (rows.take j) i)), _, f2, ⟨_, rfl, room, rfl⟩, ?_, ?_, by omega⟩⟩
        · rw [wo_upd]
          exact f1
        · rw [upd_same]
          show some (SetO w D2 (fun j' => memI (colN (rows.take j) i) j' || decide (j' = ((r.getD i 0 : Nat) : Int))) (if memI (colN (rows.take j) i) ((r.getD i 0 : Nat) : Int) = true then dn (colN (rows.take j) i) else dn (colN (rows.take j) i) + 1)) = _
          rw [memI_snoc, colN_take hr2, dn_snoc, memI_at]
          by_cases e : r.getD i 0 ∈ colN (rows.take j) i
          · rw [decide_eq_true e, if_pos rfl, if_pos e]
          · rw [decide_eq_false e, if_neg (by decide), if_neg e]
      · rintro H2 ⟨f1, f2, _⟩
        rw [ul, List.take_length] at f2
        have s12 : Same H1 H2 := f1.trans (wo_le D2)
        have dl : dn (colN rows i) ≤ 1000 := by
          have := cut rows.length
          rw [List.take_length] at this
          omega
        refine ⟨D2, _, _, rfl, f2, dl, _, s12 _ _ e2, small1000 (by rw [nms_len, List.length_map, List.length_range]; omega), ?_, ?_, by omega⟩
        · rw [wo_upd]
          exact e1.trans (wo_same s12)
        · rw [upd_same, List.range_succ, List.map_append, nms_app]
          rfl
    rintro H1 ⟨e1, e2, _⟩
    rw [ew] at e2
    refine ⟨D, _, rfl, .inl ⟨SqL.of e2, fun t nt => ?_⟩⟩
    exact q (.ref t) _ ((e1.trans (wo_le D)).trans (same_new nt)) (dp_gd (.inl (.inl upd_same)))
end
end CC
namespace CC
open PySem L2 TL
def joinArg : Expr → Expr
  | .Call _ (a :: _) _ _ => a
  | e => e
def rJoin (K : PySem.W.Frag) : V → List V → Hp → VK → Prop := fun x xs H Q => ∃ a p, ∃ ys : List Str, x = .str a ∧ xs = [.ref p] ∧ (SqL K H p (ys.map V.str) ∨ SqT K H p (ys.map V.str)) ∧ (ys.map (·.length)).sum + ys.length * a.length ≤ 16777216 ∧ Q (.str (Txt.join a ys)) H
theorem pe_joinK {X : Cx} {o e : Expr} {to te : TE} {apos pos : Pos} (ho : PE X o to) (he : PE X e te) (hs : starEach [e] X.env = [(false, eval e X.env)] := by rfl) (hbase : attributeBase o "join" X.env (eval o X.env) = eval o X.env := by rfl) (hline : (apos.endLine == pos.line) = true := by rfl) :
    PE X (.Call (.Attribute o "join" apos) [e] [] pos) (tM1 (rJoin X.K) to te) := pe_join ho he hs hbase hline
def rAddSt : R2 := fun x y H Q => ∃ i j, x = .str i ∧ y = .str j ∧ i.length + j.length ≤ sizeLine ∧ Q (.str (i ++ j)) H
theorem op_addSt {X : Cx} : OpR X (binaryOp .Add) rAddSt := op_add_str
theorem sum_le {k : Nat} : ∀ l : List Nat, (∀ x ∈ l, x ≤ k) → l.sum ≤ k * l.length
  | [], _ => by simp
  | x :: l, h => by
    have h1 := h x List.mem_cons_self
    have h2 := sum_le l fun y hy => h y (List.mem_cons_of_mem _ hy)
    rw [List.sum_cons, List.length_cons, Nat.mul_succ]
    omega
section
variable {P : Program} {w : World} {K : PySem.W.Frag} {mg : Str → Option Value} {base : Heap} {kA : Addr}
def rStrI : List V → Hp → VK → Prop := fun xs H Q => ∃ n : Nat, xs = [.int (n : Int)] ∧ n ≤ 9999 ∧ Q (.str (num n)) H
theorem call_strI {X : Cx} : CallR X (.type "str") rStrI := by
  intro pins s σ H xs us Q I r h
  obtain ⟨n, rfl, hn, q⟩ := h
  exact call_str_int pins s σ H _ us Q I r ⟨_, rfl, small10k hn, q⟩
end
end CC
namespace CC
open PySem L2 TL
abbrev sTText : Stmt := inClass (tp 47) 11
def spTText (K : PySem.W.Frag) (C : Addr) : Sp := fun vs H Q _ => ∃ (x : Addr) (w : Nat) (rows : List (List Nat)), vs = [.ref x] ∧ TableAt K C H x w rows ∧ w ≤ 6 ∧ (∀ r ∈ rows, RowOk w r) ∧ rows.length ≤ 400 ∧ ∀ H', Same H H' → Q (.str (textT rows)) H'
/-- table.text() -/
structure TxtTM (P : Program) (w : World) (K : PySem.W.Frag) (mg : Str → Option Value) (base : Heap) (C : Addr) (l : Nat) where
  f : Addr
  fd : FuncData
  m : Meth K C "text" f
  ok : ∀ k, l ≤ k → FnOk P w K mg base CX0 k f fd ["self"] (spTText K C)
  b : Binds K fd ["self"] []
def asgValT : Stmt → Expr
  | .Assign _ v _ => v
  | _ => .Constant .none 0 ⟨0, 0, 0, 0⟩
def tLnT : TE := fun σ H Q => tJs [tFmt (tVar 4), tC (.str "\n")] Str.empty σ H fun out H1 => Q (V.str out) H1
theorem emp_app (x : Str) : Str.empty ++ x = x := by
  refine ext_tl ?_
  show tl _ = tl _
  rw [tl_app]
  rfl
section
variable {P : Program} {w : World} {K : PySem.W.Frag} {mg : Str → Option Value} {base : Heap} {kA : Addr}
abbrev nTx2 : List Str := ["self", "lines", "row", "part", "line"]
theorem scTText : FnScope nTx2 ["self"] (defScope sTText) := ⟨rfl, rfl, rfl, by decide +kernel, rfl, by decide +kernel, by decide +kernel⟩
abbrev scTtI : Scope := lcScT (asgValT ((defBody sTText).getD 0 (.Pass ⟨0, 0, 0, 0⟩)))
theorem ok_ttext {f C : Addr} {fd : FuncData} {k : Nat} (F : Fun K "text" "Table.text" sTText f fd) (T : Glb K mg kA) (TC : TxtT K mg C) : FnOk P w K mg base CX0 (k + 1) f fd ["self"] (spTText K C) := by
  refine F.ok scTText (fun vs H Q E h => ?_) (fun cdv A outer s H vs Q E hr h => ?_)
  · obtain ⟨x, m, rows, rfl, _⟩ := h
    rfl
  · obtain ⟨x, m, rows, rfl, ⟨dx, g, us, h1, h2, h3⟩, w6, ok, few, q⟩ := h
    have n := scTText.nd
    refine ⟨_, (pss_cons (ps_setLc (i := 1) (own := [("row", 2)]) (g := gName 2) (tt := tYes) (te := tM1 (rJoin K) (tC (.str " ")) (tLc (iTup K (tVar 2)) (gName 3) tYes (tCB rStrI (tCons (tVar 3) tNil)) [3])) rfl n rfl rfl (sw_true rfl rfl rfl (by decide +kernel)) (pi_tup (pe_fld (pv 0) rfl)) (blkOk_by (N := nTx2) (sc := defScope sTText) (by decide +kernel))
    (fun _ _ _ _ _ => (pg_name (i := 2) n rfl (.inl rfl))) (fun _ _ _ _ _ => pts_nil) (fun _ _ _ _ _ => (pe_joinK pe_str (pe_lc (own := [("part", 3)]) (g := gName 3) (tt := tYes) rfl n (pi_tup (pv 2)) (blkOk_by (N := nTx2) (sc := relS scTtI (defScope sTText)) (by decide +kernel))
    (fun _ _ _ _ _ => (pg_name (i := 3) n rfl (.inl rfl))) (fun _ _ _ _ _ => pts_nil) (fun _ _ _ _ _ => (pe_callTy call_strI (by rfl) T.str (by decide +kernel) (pa_cons (pv 3) pa_nil)))))))
  (pss_one (ps_ret (pe_join pe_str (pe_lc (own := [("line", 4)]) (g := gName 4) (tt := tYes) (te := tLnT) rfl n (pi_list (pv 1)) (blkOk_by (N := nTx2) (sc := defScope sTText) (by decide +kernel))
    (fun _ _ _ _ _ => (pg_name (i := 4) n rfl (.inl rfl))) (fun _ _ _ _ _ => pts_nil) (fun _ _ _ _ _ => (pe_joined (.cons (pe_fmt (pv 4)) (.cons pe_str .nil))))))))), ?_⟩
    have ul : us.length = rows.length := by rw [dps_len h3, List.length_map]
    refine ⟨_, rfl, x, C, dx, _, _, rfl, h1, TC.cl, TC.nL, fldT_lines _ _, g, rfl, ⟨_, .inl (.inl h2)⟩, fun D nD => ?_⟩
    refine lc_tup (xs := us) (fun i H1 => Same H (wo H1 D) ∧ H1 D = some (.lst (((rows.take i).map rowS).map V.str))) ⟨?_, upd_same⟩ (fun i H1 _ z => .inl (.inl (wo_le D _ _ (z.1 _ _ h2)))) ?_ ?_
    · rw [wo_upd]
      exact fun b o e => by rw [wo_ne (ne_of_none e nD)]; exact e
    · rintro i v H1 hv ⟨e1, e2⟩
      obtain ⟨r, hr2, dr⟩ := dps_gat h3 hv
      have il := (List.getElem?_eq_some_iff.mp hr2).1
      have rok := ok r (List.mem_of_getElem? hr2)
      have s1 : Same H H1 := e1.trans (wo_le D)
      obtain ⟨t, rfl, ht⟩ := gd_at (dp_same s1 _ _ dr)
      have r1 := rok.1
      refine ⟨rfl, yes_if ⟨⟨_, rfl⟩, _, rfl, t, rfl, ⟨_, ht⟩, fun D2 nD2 => ?_⟩⟩
      refine lc_tup (xs := nms r) (fun j H2 => Same H1 (wo H2 D2) ∧ H2 D2 = some (.lst (((r.take j).map num).map V.str))) ⟨?_, upd_same⟩ (fun j H2 _ z => same_t (z.1.trans (wo_le D2)) ht) ?_ ?_
      · rw [wo_upd]
        exact fun b o e => by rw [wo_ne (ne_of_none e nD2)]; exact e
      · rintro j y H2 hy ⟨f1, f2⟩
        obtain ⟨c, hc, rfl⟩ := nms_get? hy
        have jl := (List.getElem?_eq_some_iff.mp hc).1
        refine ⟨rfl, yes_if ⟨_, rfl, c, rfl, rok.2 c (List.mem_of_getElem? hc), _, f2, small1000 (by rw [List.length_map, List.length_map, List.length_take]; omega), ?_, ?_⟩⟩
        · rw [wo_upd]
          exact f1
        · rw [upd_same, take1 hc, List.map_append, List.map_append]
          rfl
      rintro H2 ⟨f1, f2⟩
      rw [nms_len, List.take_length] at f2
      have s2 : Same H1 H2 := f1.trans (wo_le D2)
      have sm : ((r.map num).map (·.length)).sum ≤ 4 * ((r.map num).map (·.length)).length := sum_le _ fun x hx => by
        obtain ⟨y, hy, rfl⟩ := List.mem_map.mp hx
        obtain ⟨c, hc, rfl⟩ := List.mem_map.mp hy
        exact num_len (rok.2 c hc)
      rw [List.length_map, List.length_map] at sm
      refine ⟨_, D2, r.map num, rfl, rfl, .inl (SqL.of f2), ?_, ?_⟩
      · have e0 : ((" " : Str)).length = 1 := by decide +kernel
        show ((r.map num).map (·.length)).sum + (r.map num).length * ((" " : Str)).length ≤ 16777216
        rw [e0, List.length_map]
        omega
      refine ⟨_, s2 _ _ e2, small1000 (by rw [List.length_map, List.length_map, List.length_take]; omega), ?_, ?_⟩
      · rw [wo_upd]
        exact e1.trans (wo_same s2)
      · rw [upd_same, take1 hr2, List.map_append, List.map_append]
        rfl
    rintro H1 ⟨e1, e2⟩
    rw [ul, List.take_length] at e2
    have s1 : Same H H1 := e1.trans (wo_le D)
    have rl : ∀ r ∈ rows, (rowS r ++ "\n").length ≤ 31 := fun r hr => by
      have rl := rowS_len (ok r hr) w6
      rw [len_tl] at rl
      rw [len_tl, tl_app, List.length_append]
      have e : (tl ("\n" : Str)).length = 1 := by decide +kernel
      omega
    have big : ∀ {n : Nat}, n ≤ 40 → n ≤ sizeLine := fun h => Nat.le_trans h (by decide)
    refine ⟨⟨_, rfl⟩, _, rfl, D, rfl, ⟨_, SqL.of e2⟩, fun D4 nD4 => ?_⟩
    refine lc_list (xs := (rows.map rowS).map V.str) (fun i H2 => Same H1 (wo H2 D4) ∧ H2 D4 = some (.lst (((rows.take i).map fun r => rowS r ++ "\n").map V.str))) ⟨?_, upd_same⟩ (fun i H2 _ z => SqL.of (wo_le D4 _ _ (z.1 _ _ e2))) ?_ ?_
    · rw [wo_upd]
      exact fun b o e => by rw [wo_ne (ne_of_none e nD4)]; exact e
    · rintro i v H2 hv ⟨f1, f2⟩
      obtain ⟨r, hr2, rfl⟩ : ∃ r, rows[i]? = some r ∧ v = .str (rowS r) := by
        rw [List.getElem?_map, List.getElem?_map] at hv
        cases z : rows[i]? with
        | none => rw [z] at hv; cases hv
        | some r => rw [z] at hv; exact ⟨r, rfl, (Option.some.inj hv).symm⟩
      have rm := List.mem_of_getElem? hr2
      have il := (List.getElem?_eq_some_iff.mp hr2).1
      have l1 := rl r rm
      have l2 := rowS_len (ok r rm) w6
      refine ⟨rfl, yes_if ⟨_, rfl, .inl ⟨_, rfl, big (by omega), _, rfl, big (by rw [emp_app]; omega), _, rfl, big (by rw [emp_app]; omega), ?_⟩⟩⟩
      refine ⟨_, f2, small1000 (by rw [List.length_map, List.length_map, List.length_take]; omega), ?_, ?_⟩
      · rw [wo_upd]
        exact f1
      · rw [upd_same, take1 hr2, List.map_append, List.map_append]
        show some (HO.lst (_ ++ [V.str (Str.empty ++ rowS r ++ "\n")])) = some (HO.lst (_ ++ [V.str (rowS r ++ "\n")]))
        rw [emp_app]
    rintro H2 ⟨f1, f2⟩
    rw [List.length_map, List.length_map, List.take_length] at f2
    have sm : ((rows.map fun r => rowS r ++ "\n").map (·.length)).sum ≤ 31 * ((rows.map fun r => rowS r ++ "\n").map (·.length)).length := sum_le _ fun x hx => by
      obtain ⟨y, hy, rfl⟩ := List.mem_map.mp hx
      obtain ⟨r, hr, rfl⟩ := List.mem_map.mp hy
      exact rl r hr
    rw [List.length_map, List.length_map] at sm
    refine ⟨_, D4, rows.map (fun r => rowS r ++ "\n"), rfl, rfl, .inl (SqL.of f2), ?_, q H2 (s1.trans (f1.trans (wo_le D4)))⟩
    have e0 : (Str.ofString "").length = 0 := by decide +kernel
    rw [e0, Nat.mul_zero]
    omega
end
end CC
namespace CC
open PySem L2 TL
section
variable {P : Program} {w : World} {K : PySem.W.Frag} {mg : Str → Option Value} {base : Heap} {kA : Addr}
end
end CC
namespace GD
open PySem L2 CC
section
variable {P : Program} {w : World} {K : PySem.W.Frag} {mg : Str → Option Value} {base : Heap} {kA : Addr}
end
end GD
namespace CC
open PySem L2 TL LamX PyProof.Rows
abbrev sRt : Stmt := tp 62
abbrev sLaw : Stmt := tp 63
theorem new_view {H : Hp} {p : Addr} {o : HO} (h : H p = none) : Same H (wo (upd H p o) p) := fun b u e => by
  rw [wo_ne (ne_of_none e h), upd_ne (ne_of_none e h)]
  exact e
theorem eq_refl_rs (rs : List R) : (!PyData.eqv (.list (rs.map R.d)) (.list (rs.map R.d))) = false := by
  rw [SeqAt.eqv_refl _ (SeqAt.canLay_of_shaped (rds_shaped rs))]
  rfl
theorem fldT_txt (w : Nat) (g : Addr) : (fldT w g).lookup ("text" : Str) = none := by
  unfold fldT flT0
  rw [lookup_putF, if_neg (by decide +kernel), lookup_putF, if_neg (by decide +kernel)]
  rfl
theorem t_in {K : PySem.W.Frag} {H : Hp} {C x : Addr} {w : Nat} {rows : List (List Nat)} (h : TableAt K C H x w rows) : ∃ dx g, H x = some (.ins C dx (fldT w g)) := by
  obtain ⟨dx, g, us, h1, h2, h3⟩ := h
  exact ⟨dx, g, h1⟩
theorem eqv_lsd (l : List Nat) : PyData.eqv (lsd l) (lsd l) = true := SeqAt.eqv_refl _ (SeqAt.canLay_of_shaped (ints_shaped l))
/-- what a turn leaves: all but the pen, and the tables -/
structure RanXP (Ts : List (Addr × Str)) (H H' : Hp) (s : Addr) (c : Nat) : Prop where
  same : Same (wo (nt H) s) (wo (nt H') s)
  src : Pen H' s c
  tab : Tabs Ts H'
theorem WP.ranx {K : PySem.W.Frag} {Ts : List (Addr × Str)} {H H' : Hp} {a p : Addr} {ns : List Int} {c c' : Nat} (z : WP K Ts H a p ns c) (r : RanXP Ts H H' p c') : WP K Ts H' a p ns c' := by
  refine ⟨same_l (fun b u q => ?_) (sql_nt z.scr), r.src, r.tab⟩
  obtain ⟨q, n⟩ := nt_at q
  have bp : b ≠ p := fun y => by
    rw [y, wo_at] at q
    cases q
  rw [wo_ne bp] at q ⊢
  have := r.same b u (by rw [wo_ne bp]; exact nt_of q n)
  rw [wo_ne bp] at this
  exact (nt_at this).1
theorem RanXP.of_ran {Ts : List (Addr × Str)} {H H' : Hp} {s : Addr} {c : Nat} (r : RanP H H' s c) (t : Tabs Ts H') : RanXP Ts H H' s c := by
  refine ⟨fun b o e => ?_, r.src, t⟩
  have nb : b ≠ s := fun z => by
    rw [z, wo_at] at e
    cases e
  rw [wo_ne nb] at e ⊢
  obtain ⟨e, n⟩ := nt_at e
  exact nt_of (r.at_ e nb) n
theorem RanXP.ext {Ts : List (Addr × Str)} {H H' H2 : Hp} {s : Addr} {c : Nat} (r : RanXP Ts H H' s c) (e : ExtN H' H2) (t : Tabs Ts H2) : RanXP Ts H H2 s c := ⟨r.same.trans (wo_same (ext_nt e)), r.src.extN e, t⟩
def spRt (K : PySem.W.Frag) (C : Addr) (Ts : List (Addr × Str)) : Sp := fun vs H Q _ => ∃ (s so : Addr) (w c : Nat) (us : List V) (rs : List R), vs = [.ref s, .int (w : Int), .ref so] ∧ Pen H s c ∧ c < 700000 ∧ so ≠ s ∧ H so = some (.lst us) ∧ DpAll K H us (rs.map R.d) ∧ (∀ r ∈ rs, r.ok w) ∧ rs.Nodup ∧ 1 ≤ w ∧ w ≤ 6 ∧ Tabs Ts H ∧
  ∀ H', RanXP Ts H H' s (c + 70) → Q (.bl true) H'
def spLaw (K : PySem.W.Frag) (Ts : List (Addr × Str)) : Sp := fun vs H Q _ => ∃ (a : Addr) (ns : List Int), vs = [.ref a] ∧ SqL K H a (ns.map V.int) ∧ ns.length ≤ 63 ∧ Tabs Ts H ∧ ∀ H', Q (.bl true) H'
section
variable {P : Program} {w : World} {K : PySem.W.Frag} {mg : Str → Option Value} {base : Heap} {kA : Addr}
abbrev nRt : List Str := ["_law_pen_here", "_law_width", "_law_some", "_law_places", "_law_made", "_law_other", "_law_sent_here", "_law_counts", "_law_place"]
theorem scRt : FnScope nRt ["_law_pen_here", "_law_width", "_law_some"] (defScope sRt) := ⟨rfl, rfl, rfl, by decide +kernel, rfl, by decide +kernel, by decide +kernel⟩
theorem ok_rt {k : Nat} {C Z f : Addr} {fd : FuncData} {Ts : List (Addr × Str)} (F : Fun K "_law_right" "_law_right" sRt f fd) (T : Glb K mg kA) (TC : Txt1 K mg C) (TZ : TxtT K mg Z) (rd : ReadR P w K mg base C 6) (eq : EqO P w K mg base C (spREq K C) 1) (tx : TxtTM P w K mg base Z 1) (pC : PrpG P w K mg base Z "counts" (spTCnt K Z))
    (cM : Cal P w K mg base "model" ["rules"] (spMdl K C Z Ts) 8) (cX : Cal P w K mg base "_law_text" ["_law_some"] (spTx K) 1) (cMx : Cal P w K mg base "_law_mixed" ["_law_pen_here", "_law_things"] (spMxp K) 2) (cS : Cal P w K mg base "_law_sent" ["_law_some", "_law_places"] (spRen K) 1) (cF : CalY P w K mg base "following" ["rules"] (spFolG K C) 4) : FnOk P w K mg base CX0 (k + 10) f fd ["_law_pen_here", "_law_width", "_law_some"] (spRt K C Ts) := by
  have GR := rd.ok (k + 9) (by omega)
  have GQ := eq.ok (k + 9) (by omega)
  have GXT := tx.ok (k + 9) (by omega)
  have GM := cM.ok (k + 9) (by omega)
  have GX := cX.ok (k + 9) (by omega)
  have GMx := cMx.ok (k + 9) (by omega)
  have GS := cS.ok (k + 9) (by omega)
  have GF := cF.ok (k + 6) (by omega)
  refine F.ok scRt (fun vs H Q E h => ?_) (fun cdv A outer sh H vs Q E hr h => ?_)
  · obtain ⟨s, so, m, c, us, rs, rfl, _⟩ := h
    rfl
  · obtain ⟨s, so, m, c, us, rs, rfl, hp, hc, sos, hso, ds, ho, nd, w1, w6, tabs, q⟩ := h
    have n := scRt.nd
    have rl := few_rules w6 ho nd
    have hr4 := hr.mono (show k + 6 ≤ k + 9 by omega)
    have hu64 : (A.deeper (PyProof.Rows.envOfC (Str.ofString "_law_right") (defScope sRt) sh.heap.objs.size f cdv)).units + 64 < cLine := by
      have := hr.un
      omega
    refine ⟨_, (pss_cons (ps_set (i := 3) n rfl (.inl rfl) (pe_call GMx hr rfl cMx.g cMx.kp cMx.b .nil pass0 (pa_cons (pv 0) (pa_cons (pe_listRg rfl (by rfl) T.lst (prg_1 (by rfl) T.rng (pv 1))) pa_nil))))
      (pss_cons (ps_par (i := 4) (j := 5) (by rfl) n rfl rfl (by decide) rfl rfl (pa_cons (ClX.pe_cmeth (pe_glob (v := .ref C) rfl TC.mgC rfl) rd.rD rd.cD GR hr pass0 (pa_cons (pv 1) (pa_cons (pe_call GX hr rfl cX.g cX.kp cX.b .nil pass0 (pa_cons (pv 2) pa_nil)) pa_nil))) (pa_cons (ClX.pe_cmeth (pe_glob (v := .ref C) rfl TC.mgC rfl) rd.rD rd.cD GR hr pass0 (pa_cons (pv 1) (pa_cons (pe_call GX hr rfl cX.g cX.kp cX.b .nil pass0 (pa_cons (pe_call GMx hr rfl cMx.g cMx.kp cMx.b .nil pass0 (pa_cons (pv 0) (pa_cons (pv 2) pa_nil))) pa_nil)) pa_nil))) pa_nil)) (by rfl))
      (pss_cons (ps_set (i := 6) n rfl (.inl rfl) (ClX.pe_cmeth (pe_glob (v := .ref C) rfl TC.mgC rfl) rd.rD rd.cD GR hr pass0 (pa_cons (pv 1) (pa_cons (pe_call GX hr rfl cX.g cX.kp cX.b .nil pass0 (pa_cons (pe_call GS hr rfl cS.g cS.kp cS.b .nil pass0 (pa_cons (pv 2) (pa_cons (pv 3) pa_nil))) pa_nil)) pa_nil))))
      (pss_cons (ps_if (pt_cmpR (op_neD hu64) (pe_callB (SoD.cr_sortedD hu64) (by rfl) T.srt (by decide +kernel) (pa_cons (pe_call GS hr rfl cS.g cS.kp cS.b .nil pass0 (pa_cons (pe_listG (pgen_call GF hr4 rfl cF.g cF.kp cF.b .nil (pa_cons (pv 4) pa_nil)) pass0X nostop0 hr (by rfl) T.lst (by decide +kernel)) (pa_cons (pv 3) pa_nil))) pa_nil)) (pe_listG (pgen_call GF hr4 rfl cF.g cF.kp cF.b .nil (pa_cons (pv 6) pa_nil)) pass0X nostop0 hr (by rfl) T.lst (by decide +kernel)) (nomark _)) (pss_one (ps_ret pe_bl)) pss_nil)
      (pss_cons (ps_if (PW.pt (pw_or (pt_cmpR (op_neD hu64) (pe_listG (pgen_call GF hr4 rfl cF.g cF.kp cF.b .nil (pa_cons (pv 5) pa_nil)) pass0X nostop0 hr (by rfl) T.lst (by decide +kernel)) (pe_listG (pgen_call GF hr4 rfl cF.g cF.kp cF.b .nil (pa_cons (pv 4) pa_nil)) pass0X nostop0 hr (by rfl) T.lst (by decide +kernel)) (nomark _)) (pw_or1 (pt_cmpR op_ne (pe_meth0 (pe_call GM hr rfl cM.g cM.kp cM.b .nil pass0 (pa_cons (pv 5) pa_nil)) TZ.cl tx.m GXT hr tx.b .nil pass0) (pe_meth0 (pe_call GM hr rfl cM.g cM.kp cM.b .nil pass0 (pa_cons (pv 4) pa_nil)) TZ.cl tx.m GXT hr tx.b .nil pass0) (nomark _))))) (pss_one (ps_ret pe_bl)) pss_nil)
      (pss_cons (ps_set (i := 7) n rfl (.inr rfl) (pe_prop (pe_call GM hr rfl cM.g cM.kp cM.b .nil pass0 (pa_cons (pv 6) pa_nil)) TZ.cl pC.hp (pC.ok (k + 8) (by omega)) hr pC.b .nil pass0 rfl))
      (pss_one (ps_ret (pe_and (pe_cmpR (r := rEqD K) (op_eqD hu64) (pe_lc (own := [("_law_place", 8)]) (g := gName 8) (tt := tYes) (te := tOp (rIxT K) (tVar 7) (tVar 8)) rfl n (pi_list (pv 3)) (blkOk_by (N := nRt) (sc := defScope sRt) (by decide +kernel)) (fun _ _ _ _ _ => (pg_name (i := 8) n rfl (.inl rfl))) (fun _ _ _ _ _ => pts_nil) (fun _ _ _ _ _ => (pe_ix ix_tup (pv 7) (pv 8) (fun _ _ => rfl)))) (pe_callTy call_list_of (by rfl) T.lst (by decide +kernel) (pa_cons (pe_prop (pe_call GM hr rfl cM.g cM.kp cM.b .nil pass0 (pa_cons (pv 4) pa_nil)) TZ.cl pC.hp (pC.ok (k + 8) (by omega)) hr pC.b .nil pass0 rfl) pa_nil)) (nomark _)) (pe_one (pe_cmpR (OC.op_eqO eq.fi eq.fn GQ hr pass0) (pv 5) (pv 4) (nomark _)))))))))))), ?_⟩
    have ok6 : ∀ {ts : List R}, (∀ r ∈ ts, r.ok m) → ∀ r ∈ ts, r.ok 6 := fun h r hr => (h r hr).up w6
    -- places
    refine ⟨_, rfl, _, rfl, _, rfl, RgOk.of_le (by omega) (by omega) (by omega) (by omega), fun l nl => ?_⟩
    rw [cols_rg]
    have s1 : Same H (upd H l (.lst (cols m))) := same_new nl
    have hl : (upd H l (.lst (cols m))) l = some (.lst (cols m)) := upd_same
    have so1 := s1 _ _ hso
    have ds1 := dps_same s1 _ _ ds
    have hp1 := hp.same s1
    generalize upd H l (.lst (cols m)) = H1 at s1 hl so1 ds1 hp1
    refine .inr ⟨s, l, c, cols m, List.range m, rfl, hp1, by omega, SqL.of hl, dps_nms (List.range m), by rw [List.length_range]; omega, fun pl ul ns H2 r2 npl pls hpl pm dpl => ?_⟩
    have eul : ul = nms ns := nms_dps dpl
    subst eul
    have nl' : ns.length = m := by rw [pm.length_eq, List.length_range]
    have p6 := perm6_of nl' (pm.nodup_iff.mpr List.nodup_range) fun x hx => List.mem_range.mp (pm.mem_iff.mp hx)
    rw [List.length_range] at r2
    have r02 : RanP H H2 s (c + 6) := ((RanP.refl hp).grow s1 |>.trans r2).mono (by omega)
    have so2 := r2.at_ so1 sos
    have ds2 := rds_T (r2.T hp1) ds1
    clear r2 s1 hl so1 ds1 hp1 npl
    -- made, other
    refine ⟨rfl, _, rfl, _, rfl, so, us, rs, rfl, SqL.of so2, ds2, ok6 ho, rl, fun H3 s3 => ⟨m, rs, rfl, w1, w6, ho, nd, fun x H4 s4 nx ra4 => ?_⟩⟩
    have s24 := s3.trans s4
    have r04 := r02.grow s24
    refine ⟨rfl, _, rfl, _, rfl, _, rfl, .inl ⟨s, so, c + 6, us, rs, rfl, r04.src, by omega, SqL.of (s24 _ _ so2), dps_same s24 _ _ ds2, rl, fun po uo rs2 H5 r5 npo pos hpo pm2 do5 => ?_⟩⟩
    have nd2 : rs2.Nodup := pm2.nodup_iff.mpr nd
    have ho2 : ∀ r ∈ rs2, r.ok m := fun r hr => ho r (pm2.mem_iff.mp hr)
    have rl2 := few_rules w6 ho2 nd2
    have e2 : ∀ r, r ∈ rs2 ↔ r ∈ rs := fun r => pm2.mem_iff
    have ra5 := ra4.pen r04.src r5
    have r05 : RanP H H5 s (c + 66) := (r04.trans r5).mono (by omega)
    have so5 := r5.at_ (s24 _ _ so2) sos
    have hpl5 := r5.at_ (s24 _ _ hpl) pls
    have ds5 := rds_T (r5.T r04.src) (dps_same s24 _ _ ds2)
    refine ⟨po, uo, rs2, rfl, SqL.of hpo, do5, ok6 ho2, rl2, fun H6 s6 => ⟨m, rs2, rfl, w1, w6, ho2, nd2, fun xo H7 s7 nxo rb7 => ⟨_, _, rfl, ?_⟩⟩⟩
    have s57 := s6.trans s7
    have ra7 := ra5.same s57
    have r07 := r05.grow s57
    have so7 := s57 _ _ so5
    have hpl7 := s57 _ _ hpl5
    have ds7 := dps_same s57 _ _ ds5
    clear s24 s3 s4 ra4 r04 r5 ra5 r05 so5 hpl5 ds5 so2 ds2 hpl r02 do5 hpo s6 s7 s57
    -- sent
    have bd : ∀ {ts : List R}, (∀ r ∈ ts, r.ok m) → ∀ r ∈ ts, r.a < ns.length ∧ r.b < ns.length := fun h r hr => ⟨by rw [nl']; exact (h r hr).1, by rw [nl']; exact (h r hr).2.1⟩
    have hos := ren_ok p6 ho
    have nds := ren_nodup p6 ho nd
    have rls := few_rules w6 hos nds
    refine ⟨rfl, _, rfl, _, rfl, _, rfl, so, pl, us, rs, ns, rfl, SqL.of so7, ds7, bd ho, rl, SqL.of hpl7, fun g ug H8 s8 ng hg dg => ?_⟩
    refine ⟨g, ug, rs.map (ren (piN ns)), rfl, SqL.of hg, dps_same (wo_le g) _ _ dg, ok6 hos, rls, fun H9 s9 => ⟨m, rs.map (ren (piN ns)), rfl, w1, w6, hos, nds, fun xs H10 s10 nxs rc10 => ?_⟩⟩
    have s710 := s8.trans (s9.trans s10)
    have ra10 := ra7.same s710
    have rb10 := rb7.same s710
    have r010 := r07.grow s710
    have hpl10 := s710 _ _ hpl7
    clear s8 s9 s10 s710 ra7 rb7 r07 so7 ds7 hpl7 hg dg ng
    -- what follows goes along
    refine ⟨_, rfl, x, m, rs, rfl, ra10, ho, w6, rl, fun uf F1 H11 s11 df hF pf npf => ?_⟩
    have s12 : Same H10 (upd H11 pf (.lst uf)) := s11.trans (same_new npf)
    have hpf : (upd H11 pf (.lst uf)) pf = some (.lst uf) := upd_same
    have df12 := dps_same (same_new (o := .lst uf) npf) _ _ df
    generalize upd H11 pf (.lst uf) = H12 at s12 hpf df12
    have fo : ∀ r ∈ folL F1 m, r.ok m := folL_ok
    have fn : (folL F1 m).Nodup := folL_nodup w6
    have fl := few_rules w6 fo fn
    refine ⟨_, rfl, pf, pl, uf, folL F1 m, ns, rfl, SqL.of hpf, df12, bd fo, fl, SqL.of (s12 _ _ hpl10), fun g2 ug2 H13 s13 ng2 hg2 dg2 => ?_⟩
    have es : ∀ G, FIs G m (rs.map (ren (piN ns))) → (((folL F1 m).map (ren (piN ns))).map R.d).mergeSort SoD.dle = (folL G m).map R.d := fun G hG => rs_sort (fol_about p6 w6 ho hF hG) (folL_asc w6) (fun r hr => (folL_ok r hr).up w6)
    refine ⟨g2, ug2, _, rfl, SqL.of hg2, dps_same (wo_le g2) _ _ dg2, rs_alike _, rs_sortable _, rs_dep _, fun ys py dy npy => ?_⟩
    have s14 : Same H13 (upd H13 py (.lst ys)) := same_new npy
    have hpy : (upd H13 py (.lst ys)) py = some (.lst ys) := upd_same
    have dy14 := dps_same s14 _ _ dy
    generalize upd H13 py (.lst ys) = H14 at s14 hpy dy14
    have s1014 := s12.trans (s13.trans s14)
    refine ⟨_, rfl, xs, m, rs.map (ren (piN ns)), rfl, rc10.same s1014, hos, w6, rls, fun uG G H15 s15 dG hG pG npG => ?_⟩
    rw [es G hG] at dy14
    have s16 : Same H14 (upd H15 pG (.lst uG)) := s15.trans (same_new npG)
    refine ⟨.list ((folL G m).map R.d), .list ((folL G m).map R.d), .lst (SqL.of (s16 _ _ hpy)) (dps_same s16 _ _ dy14), .lst (SqL.of upd_same) (dps_same (same_new npG) _ _ dG), rds_shaped _, rds_shaped _, _, rfl, ?_⟩
    rw [eq_refl_rs]
    refine iteF ?_
    have s1016 := s1014.trans s16
    generalize upd H15 pG (.lst uG) = H16 at s16 s1016
    have ra16 := ra10.same s1016
    have rb16 := rb10.same s1016
    have rc16 := rc10.same s1016
    have r016 := r010.grow s1016
    have hpl16 := s1016 _ _ hpl10
    clear s11 s12 hpf df12 df s13 ng2 hg2 dg2 dy dy14 hpy s14 s1014 s15 dG s16 s1016 ra10 rb10 rc10 r010 hpl10 es npf npy npG
    -- the order of the rules
    have f2 : ∀ t, Fol rs2 t ↔ Fol rs t := fun t => ⟨fol_mono fun r hr => (e2 r).mp hr, fol_mono fun r hr => (e2 r).mpr hr⟩
    refine ⟨_, rfl, xo, m, rs2, rfl, rb16, ho2, w6, rl2, fun u3 F3 H17 s17 d3 hF3 p3 np3 => ?_⟩
    have s18 : Same H16 (upd H17 p3 (.lst u3)) := s17.trans (same_new np3)
    have hp3 : (upd H17 p3 (.lst u3)) p3 = some (.lst u3) := upd_same
    have d318 := dps_same (same_new (o := .lst u3) np3) _ _ d3
    generalize upd H17 p3 (.lst u3) = H18 at s18 hp3 d318
    refine ⟨_, rfl, x, m, rs, rfl, ra16.same s18, ho, w6, rl, fun u4 F4 H19 s19 d4 hF4 p4 np4 => ?_⟩
    have e34 : folL F3 m = folL F4 m := fol_congr (show FIs F3 m rs from fun r hr => (hF3 r hr).trans (f2 r)) hF4
    rw [e34] at d318
    have s20 : Same H18 (upd H19 p4 (.lst u4)) := s19.trans (same_new np4)
    refine ⟨.list ((folL F4 m).map R.d), .list ((folL F4 m).map R.d), .lst (SqL.of (s20 _ _ hp3)) (dps_same s20 _ _ d318), .lst (SqL.of upd_same) (dps_same (same_new np4) _ _ d4), rds_shaped _, rds_shaped _, _, rfl, ?_⟩
    rw [eq_refl_rs]
    refine iteF ?_
    have s1620 := s18.trans s20
    generalize upd H19 p4 (.lst u4) = H20 at s20 s1620
    have ra20 := ra16.same s1620
    have rb20 := rb16.same s1620
    have rc20 := rc16.same s1620
    have r020 := r016.grow s1620
    have hpl20 := s1620 _ _ hpl16
    have t20 : Tabs Ts H20 := tabs_pen tabs hp r020
    clear s17 d3 s18 hp3 d318 s19 d4 s20 s1620 ra16 rb16 rc16 r016 hpl16 np3 np4 e34
    -- the tables
    refine ⟨_, rfl, xo, m, rs2, rfl, rb20, ho2, w1, w6, rl2, t20, fun z1 MS MN MG H21 e21 t21 nz1 tz1 mod1 => ?_⟩
    have L1 := mod1.lay w6
    have few1 : (rowsM MS MN MG m).length ≤ 400 := Nat.le_trans (L1.rows_len (Nat.le_refl _)) (by decide)
    obtain ⟨dz1, gz1, hz1⟩ := t_in tz1
    refine ⟨z1, dz1, _, rfl, hz1, fldT_txt _ _, z1, m, rowsM MS MN MG m, rfl, tz1, w6, L1.row_ok, few1, fun H22 s22 => ?_⟩
    have e22 := e21.trans (ExtN.of s22)
    refine ⟨_, rfl, x, m, rs, rfl, ra20.extN e22, ho, w1, w6, rl, t21.ext s22, fun z2 MS2 MN2 MG2 H23 e23 t23 nz2 tz2 mod2 => ?_⟩
    have L2 := mod2.lay w6
    have few2 : (rowsM MS2 MN2 MG2 m).length ≤ 400 := Nat.le_trans (L2.rows_len (Nat.le_refl _)) (by decide)
    obtain ⟨dz2, gz2, hz2⟩ := t_in tz2
    refine ⟨z2, dz2, _, rfl, hz2, fldT_txt _ _, z2, m, rowsM MS2 MN2 MG2 m, rfl, tz2, w6, L2.row_ok, few2, fun H24 s24 => ?_⟩
    rw [mod1.rowsF w6 mod2 f2]
    refine ⟨rfl, _, rfl, iteF' (by simp) ?_⟩
    have e24 := e22.trans (e23.trans (ExtN.of s24))
    have t24 := t23.ext s24
    clear e21 e22 e23 s22 s24 tz1 tz2 hz1 hz2 t21 t23 L1 L2 few1 few2
    -- the numbers of values
    refine ⟨_, rfl, xs, m, rs.map (ren (piN ns)), rfl, rc20.extN e24, hos, w1, w6, rls, t24, fun z3 MS3 MN3 MG3 H25 e25 t25 nz3 tz3 mod3 => ?_⟩
    have L3 := mod3.lay w6
    have few3 : (rowsM MS3 MN3 MG3 m).length ≤ 400 := Nat.le_trans (L3.rows_len (Nat.le_refl _)) (by decide)
    obtain ⟨dz3, gz3, hz3⟩ := t_in tz3
    refine ⟨z3, dz3, _, rfl, hz3, z3, m, rowsM MS3 MN3 MG3 m, rfl, tz3, w6, L3.row_ok, few3, fun v3 H26 s26 dv3 => ?_⟩
    obtain ⟨tv, rfl, htv⟩ := gd_at dv3
    have e26 := e24.trans (e25.trans (ExtN.of s26))
    have t26 := t25.ext s26
    have hpl26 := ext_lst e26 hpl20
    have cget : ∀ {A B G : Nat → Nat → Bool} {c : Nat}, c < m → ((List.range m).map fun c => dn (colN (rowsM A B G m) c))[c]? = some (dn (colN (rowsM A B G m) c)) := fun hc => rng_at _ hc
    refine ⟨_, rfl, pl, rfl, ⟨_, SqL.of hpl26⟩, fun D nD => ?_⟩
    refine lc_list (xs := nms ns) (fun i H' => Same H26 (wo H' D) ∧ H' D = some (.lst (nms ((ns.take i).map fun c => dn (colN (rowsM MS3 MN3 MG3 m) c))))) ⟨new_view nD, upd_same⟩ (fun i H' _ z => SqL.of (wo_le D _ _ (z.1 _ _ hpl26))) ?_ ?_
    · rintro i v H' hv ⟨g1, g2⟩
      obtain ⟨y, hy, rfl⟩ := nms_at hv
      have il : i < ns.length := (List.getElem?_eq_some_iff.mp hy).1
      have ym : y < m := List.mem_range.mp (pm.mem_iff.mp (List.mem_of_getElem? hy))
      refine ⟨rfl, yes_if ⟨_, rfl, _, rfl, tv, _, _, _, rfl, rfl, same_t (g1.trans (wo_le D)) htv, atI_nat (by rw [nms, List.getElem?_map, cget ym]; rfl), ?_⟩⟩
      refine ⟨_, g2, small1000 (by rw [nms_len, List.length_map, List.length_take]; omega), ?_, ?_⟩
      · rw [wo_upd]
        exact g1
      · rw [upd_same, SG.take_one hy, List.map_append, nms_app]
        rfl
    rintro H27 ⟨g1, g2⟩
    rw [nms_len, List.take_length] at g2
    have s27 := g1.trans (wo_le D)
    have e27 := e26.trans (ExtN.of s27)
    refine ⟨_, rfl, x, m, rs, rfl, ra20.extN e27, ho, w1, w6, rl, t26.ext s27, fun z4 MS4 MN4 MG4 H28 e28 t28 nz4 tz4 mod4 => ?_⟩
    have L4 := mod4.lay w6
    have few4 : (rowsM MS4 MN4 MG4 m).length ≤ 400 := Nat.le_trans (L4.rows_len (Nat.le_refl _)) (by decide)
    obtain ⟨dz4, gz4, hz4⟩ := t_in tz4
    refine ⟨z4, dz4, _, rfl, hz4, z4, m, rowsM MS4 MN4 MG4 m, rfl, tz4, w6, L4.row_ok, few4, fun v4 H29 s29 dv4 => ?_⟩
    obtain ⟨tw, rfl, htw⟩ := gd_at dv4
    have ecs : ns.map (fun c => dn (colN (rowsM MS3 MN3 MG3 m) c)) = (List.range m).map fun c => dn (colN (rowsM MS4 MN4 MG4 m) c) := by
      refine List.ext_getElem (by rw [List.length_map, List.length_map, List.length_range, nl']) fun i h1 h2 => ?_
      rw [List.length_map] at h1
      have im : i < m := by omega
      rw [List.getElem_map, List.getElem_map, List.getElem_range]
      have e : ns[i] = piN ns i := by
        unfold piN
        rw [List.getD_eq_getElem?_getD, List.getElem?_eq_getElem h1]
        rfl
      rw [e, L3.dn_col (p6.lt i im), L4.dn_col im]
      exact fN_phi p6 L4 L3 (mod4.moved p6 ho mod3) im
    refine ⟨tw, _, rfl, .inr htw, fun pw npw => ?_⟩
    have e2729 : ExtN H27 H29 := e28.trans (ExtN.of s29)
    have s30 : Same H29 (upd H29 pw (.lst (nms ((List.range m).map fun c => dn (colN (rowsM MS4 MN4 MG4 m) c))))) := same_new npw
    rw [ecs] at g2
    refine ⟨lsd ((List.range m).map fun c => dn (colN (rowsM MS4 MN4 MG4 m) c)), lsd ((List.range m).map fun c => dn (colN (rowsM MS4 MN4 MG4 m) c)), .lst (SqL.of (s30 _ _ (ext_lst e2729 g2))) (dps_nms _), .lst (SqL.of upd_same) (dps_nms _), ints_shaped _, ints_shaped _, _, rfl, ?_⟩
    rw [eqv_lsd]
    refine iteT ?_
    generalize upd H29 pw (.lst (nms ((List.range m).map fun c => dn (colN (rowsM MS4 MN4 MG4 m) c)))) = H30 at s30
    have e30 := e27.trans (e2729.trans (ExtN.of s30))
    have t30 := (t28.ext s29).ext s30
    have ra30 := ra20.extN e30
    have rb30 := rb20.extN e30
    obtain ⟨dx, fx, hx⟩ := ra_ins ra30
    obtain ⟨do_, fo_, hxo⟩ := ra_ins rb30
    refine ⟨_, rfl, _, rfl, xo, do_, fo_, x, dx, fx, rfl, rfl, hxo, hx, xo, x, m, m, rs2, rs, rfl, rb30, ra30, ok6 ho2, ok6 ho, nd2, nd, fun b H31 s31 hb => ?_⟩
    obtain rfl : b = true := hb.mpr ⟨rfl, pm2⟩
    exact q _ (((RanXP.of_ran r020 t20).ext e30 t30).ext (ExtN.of s31) (t30.ext s31) |> fun z => ⟨z.same, z.src.mono (by omega), z.tab⟩)
abbrev nLw : List Str := ["_law_script", "_law_k", "_law_pen_here", "_law_lap", "_law_width", "_law_some"]
theorem scLaw : FnScope nLw ["_law_script"] (defScope sLaw) := ⟨rfl, rfl, rfl, by decide +kernel, rfl, by decide +kernel, by decide +kernel⟩
theorem ok_law {k : Nat} {C f : Addr} {fd : FuncData} {Ts : List (Addr × Str)} (F : Fun K "law" "law" sLaw f fd) (T : Glb K mg kA) (cP : Cal P w K mg base "_law_pen" ["_law_cell"] spPen 1) (cK : Cal P w K mg base "_law_cell_at" ["_law_script", "_law_k"] (spCell K) 1)
    (cD : Cal P w K mg base "_law_drawn" ["_law_pen_here", "_law_most"] (spDrawn K) 3) (cI : Cal P w K mg base "_law_right" ["_law_pen_here", "_law_width", "_law_some"] (spRt K C Ts) 10) : GD.FnG P w K mg base CX0 (k + 11) f fd ["_law_script"] (spLaw K Ts) := by
  have GP := cP.ok (k + 10) (by omega)
  have GK := cK.ok (k + 10) (by omega)
  have GD1 := cD.ok (k + 10) (by omega)
  have GI := cI.ok (k + 10) (by omega)
  refine GD.fun_okG F scLaw (fun vs H Q E h => ?_) (fun cdv A outer s H vs Q E calm hr h => ?_)
  · obtain ⟨a, ns, rfl, _⟩ := h
    rfl
  · obtain ⟨a, ns, rfl, ha, hl, tabs, q⟩ := h
    have n := scLaw.nd
    refine ⟨_, (pss_cons (ps_for PassesOwn.never rfl (pi_range1 (by rfl) T.rng (pa_cons (pe_callB (call_max2 rfl) (by rfl) T.max (by decide +kernel) (pa_cons pe_int (pa_cons (pe_callB (call_min2 rfl) (by rfl) T.min (by decide +kernel) (pa_cons (pe_callB call_len_seq (by rfl) T.len PySem.boot_len (pa_cons (pv 0) pa_nil)) (pa_cons pe_int pa_nil))) pa_nil))) pa_nil)) (pg_name (i := 1) n rfl (.inl rfl))
      (pss_cons (ps_set (i := 2) n rfl (.inl rfl) (pe_call GP hr rfl cP.g cP.kp cP.b .nil pass0 (pa_cons (pe_call GK hr rfl cK.g cK.kp cK.b .nil pass0 (pa_cons (pv 0) (pa_cons (pv 1) pa_nil))) pa_nil)))
      (pss_one (ps_for PassesOwn.never rfl (pi_range1 (by rfl) T.rng (pa_cons pe_int pa_nil)) (pg_name (i := 3) n rfl (.inl rfl))
      (pss_cons (ps_asg (pe_call GD1 hr rfl cD.g cD.kp cD.b .nil pass0 (pa_cons (pv 2) (pa_cons pe_int pa_nil))) (pg_tup rfl (pgs_cons (pg_name (i := 4) n rfl (.inl rfl)) (pgs_cons (pg_name (i := 5) n rfl (.inl rfl)) pgs_nil))))
      (pss_one (ps_if (pt_not (pt_val (pe_call GI hr rfl cI.g cI.kp cI.b .nil pass0 (pa_cons (pv 2) (pa_cons (pv 4) (pa_cons (pv 5) pa_nil)))))) (pss_one (ps_ret pe_bl)) pss_nil)))))))
      (pss_one (ps_ret pe_bl))), ?_⟩
    refine ⟨_, rfl, a, _, rfl, .inl ha, _, _, rfl, _, _, rfl, _, rfl, ?_, ?_, ?_⟩
    · split <;> split <;> omega
    · rw [List.length_map]
      split <;> split <;> omega
    generalize (if (if (3 : Int) < (((ns.map V.int).length : Nat) : Int) then (3 : Int) else (((ns.map V.int).length : Nat) : Int)) > 1 then (if (3 : Int) < (((ns.map V.int).length : Nat) : Int) then (3 : Int) else (((ns.map V.int).length : Nat) : Int)) else (1 : Int)) = top
    refine for_range (lo := 0) (n := top.toNat) (fun i σ H1 => ∃ y1 y2 y3 y4 y5, σ = [some (.ref a), y1, y2, y3, y4, y5] ∧ SqL K H1 a (ns.map V.int) ∧ Tabs Ts H1) ⟨none, none, none, none, none, rfl, ha, tabs⟩ ?_ ?_
    · rintro i σ H1 hi ⟨y1, y2, y3, y4, y5, rfl, ha1, t1⟩
      refine ⟨_, rfl, _, rfl, a, ns, i, by rw [Int.zero_add]; rfl, ha1, fun z => ?_⟩
      refine ⟨z, rfl, fun p o np ho => ?_⟩
      have W2 : WP K Ts (upd H1 p o) a p ns (210 * 0) := WP.new ha1 t1 np ho
      generalize upd H1 p o = H2 at W2 ⊢
      refine ⟨_, rfl, by decide, by decide, ?_⟩
      refine for_range (lo := 0) (n := ((2 : Int)).toNat) (fun j σ H3 => ∃ y1 y3 y4 y5, σ = [some (.ref a), y1, some (.ref p), y3, y4, y5] ∧ WP K Ts H3 a p ns (210 * j)) ⟨_, _, _, _, rfl, W2⟩ ?_ ?_
      · rintro j σ H3 hj ⟨y1, y3, y4, y5, rfl, W3⟩
        have j3 : j < 2 := hj
        refine ⟨_, rfl, p, 5, 210 * j, rfl, W3.src, by omega, by decide, by decide, fun t so w us rs H4 r4 nt ts nso sos w1 w5 ht hso ds ok nd => ?_⟩
        have W4 := W3.run r4
        have w6 : w ≤ 6 := by omega
        have ok6 : ∀ r ∈ rs, r.ok 6 := fun r h => (ok r h).up w6
        have rl := few_rules w6 ok nd
        refine ⟨t, _, rfl, .inl (.inl ht), rfl, _, _, rfl, _, _, rfl, rfl, ?_⟩
        refine ⟨_, rfl, _, rfl, _, rfl, p, so, w, 210 * j + 140, us, rs, rfl, W4.src, by omega, sos, hso, ds, ok, nd, w1, w6, W4.tab, fun H7 r7 => ⟨_, rfl, iteF ?_⟩⟩
        exact ⟨_, _, _, _, rfl, (W4.ranx r7).mono (by omega)⟩
      · rintro σ H3 ⟨y1, y3, y4, y5, rfl, W3⟩
        exact ⟨_, _, _, _, _, rfl, W3.back, W3.tab⟩
    · rintro σ H1 ⟨y1, y2, y3, y4, y5, rfl, ha1, t1⟩
      exact q H1
end
end CC
namespace CC
open PySem L2 TL
theorem df_mk {K : PySem.W.Frag} {h : Heap} {mg : Str → Option Value} {x : Str} {st : Stmt} {ps : List Str} {f : Addr} {fd : FuncData} (X : K.In h) (G : h.Ns mainGlobals mg) (a : PySem.W.nsIn K mainGlobals x = some (some (.ref f))) (F : Fun K x x st f fd) (b : Binds K fd ps []) : Nonempty (Df K mg x st ps) := ⟨⟨f, fd, F, b, PySem.W.mg_of X G a⟩⟩
theorem kit_self {K : PySem.W.Frag} {C : Addr} : PySem.W.kitOne K (.ref C) (.ref C) = some true := by
  unfold PySem.W.kitOne
  exact if_pos (by simp)
theorem raw0 {P : Program} {w : World} {K : PySem.W.Frag} {mg : Str → Option Value} {base : Heap} {CX : CXT} {k : Nat} {f : Addr} {fd : FuncData} {ps : List Str} {sp : Sp} (F : FnOk P w K mg base CX k f fd ps sp) (b : Binds K fd ps []) : FnR P w K mg base CX k f sp :=
  (F.raw b .nil).imp fun vs H Q E h => by
    show sp (vs ++ []) H Q E
    rw [List.append_nil]
    exact h
theorem mk_l_pen {K : PySem.W.Frag} {h : Heap} {mg : Str → Option Value} {f : Addr} {od an : Option Addr} {sl : Array (Option Value)} {oc kV dc pm cd ct : Value} (X : K.In h) (G : h.Ns mainGlobals mg) (a : PySem.W.nsIn K mainGlobals "_law_pen" = some (some (.ref f)))
    (l : K.lookup f = some ⟨oc, od, .func (PySem.W.fnOf "_law_pen" "_law_pen" (defArgs sPen) (defBody sPen) (defScope sPen) .none kV dc pm an cd ct), sl⟩) (c : PySem.W.codeIn K cd "_law_pen" = true) (k : PySem.W.keepIn K (.ref f) = true) : Nonempty (Df K mg "_law_pen" sPen ["_law_cell"]) :=
  have F := fun_mk (st := sPen) l c k
  df_mk X G a F (F.binds (ps := ["_law_cell"]) fun _ _ _ _ _ _ us hl => match us, hl with | [_], _ => rfl)
theorem mk_l_cell_at {K : PySem.W.Frag} {h : Heap} {mg : Str → Option Value} {f : Addr} {od an : Option Addr} {sl : Array (Option Value)} {oc kV dc pm cd ct : Value} (X : K.In h) (G : h.Ns mainGlobals mg) (a : PySem.W.nsIn K mainGlobals "_law_cell_at" = some (some (.ref f)))
    (l : K.lookup f = some ⟨oc, od, .func (PySem.W.fnOf "_law_cell_at" "_law_cell_at" (defArgs sCell) (defBody sCell) (defScope sCell) .none kV dc pm an cd ct), sl⟩) (c : PySem.W.codeIn K cd "_law_cell_at" = true) (k : PySem.W.keepIn K (.ref f) = true) : Nonempty (Df K mg "_law_cell_at" sCell ["_law_script", "_law_k"]) :=
  have F := fun_mk (st := sCell) l c k
  df_mk X G a F (F.binds (ps := ["_law_script", "_law_k"]) fun _ _ _ _ _ _ us hl => match us, hl with | [_, _], _ => rfl)
theorem mk_l_draw {K : PySem.W.Frag} {h : Heap} {mg : Str → Option Value} {f : Addr} {od an : Option Addr} {sl : Array (Option Value)} {oc kV dc pm cd ct : Value} (X : K.In h) (G : h.Ns mainGlobals mg) (a : PySem.W.nsIn K mainGlobals "_law_draw" = some (some (.ref f)))
    (l : K.lookup f = some ⟨oc, od, .func (PySem.W.fnOf "_law_draw" "_law_draw" (defArgs sPDraw) (defBody sPDraw) (defScope sPDraw) .none kV dc pm an cd ct), sl⟩) (c : PySem.W.codeIn K cd "_law_draw" = true) (k : PySem.W.keepIn K (.ref f) = true) : Nonempty (Df K mg "_law_draw" sPDraw ["_law_pen_here", "_law_many"]) :=
  have F := fun_mk (st := sPDraw) l c k
  df_mk X G a F (F.binds (ps := ["_law_pen_here", "_law_many"]) fun _ _ _ _ _ _ us hl => match us, hl with | [_, _], _ => rfl)
theorem mk_l_rule {K : PySem.W.Frag} {h : Heap} {mg : Str → Option Value} {f : Addr} {od an : Option Addr} {sl : Array (Option Value)} {oc kV dc pm cd ct : Value} (X : K.In h) (G : h.Ns mainGlobals mg) (a : PySem.W.nsIn K mainGlobals "_law_rule" = some (some (.ref f)))
    (l : K.lookup f = some ⟨oc, od, .func (PySem.W.fnOf "_law_rule" "_law_rule" (defArgs sPRule) (defBody sPRule) (defScope sPRule) .none kV dc pm an cd ct), sl⟩) (c : PySem.W.codeIn K cd "_law_rule" = true) (k : PySem.W.keepIn K (.ref f) = true) : Nonempty (Df K mg "_law_rule" sPRule ["_law_pen_here", "_law_width"]) :=
  have F := fun_mk (st := sPRule) l c k
  df_mk X G a F (F.binds (ps := ["_law_pen_here", "_law_width"]) fun _ _ _ _ _ _ us hl => match us, hl with | [_, _], _ => rfl)
theorem mk_l_ring {K : PySem.W.Frag} {h : Heap} {mg : Str → Option Value} {f : Addr} {od an : Option Addr} {sl : Array (Option Value)} {oc kV dc pm cd ct : Value} (X : K.In h) (G : h.Ns mainGlobals mg) (a : PySem.W.nsIn K mainGlobals "_law_ring" = some (some (.ref f)))
    (l : K.lookup f = some ⟨oc, od, .func (PySem.W.fnOf "_law_ring" "_law_ring" (defArgs sRing) (defBody sRing) (defScope sRing) .none kV dc pm an cd ct), sl⟩) (c : PySem.W.codeIn K cd "_law_ring" = true) (k : PySem.W.keepIn K (.ref f) = true) : Nonempty (Df K mg "_law_ring" sRing ["_law_pen_here", "_law_width"]) :=
  have F := fun_mk (st := sRing) l c k
  df_mk X G a F (F.binds (ps := ["_law_pen_here", "_law_width"]) fun _ _ _ _ _ _ us hl => match us, hl with | [_, _], _ => rfl)
theorem mk_l_drawn {K : PySem.W.Frag} {h : Heap} {mg : Str → Option Value} {f : Addr} {od an : Option Addr} {sl : Array (Option Value)} {oc kV dc pm cd ct : Value} (X : K.In h) (G : h.Ns mainGlobals mg) (a : PySem.W.nsIn K mainGlobals "_law_drawn" = some (some (.ref f)))
    (l : K.lookup f = some ⟨oc, od, .func (PySem.W.fnOf "_law_drawn" "_law_drawn" (defArgs sDrawn) (defBody sDrawn) (defScope sDrawn) .none kV dc pm an cd ct), sl⟩) (c : PySem.W.codeIn K cd "_law_drawn" = true) (k : PySem.W.keepIn K (.ref f) = true) : Nonempty (Df K mg "_law_drawn" sDrawn ["_law_pen_here", "_law_most"]) :=
  have F := fun_mk (st := sDrawn) l c k
  df_mk X G a F (F.binds (ps := ["_law_pen_here", "_law_most"]) fun _ _ _ _ _ _ us hl => match us, hl with | [_, _], _ => rfl)
theorem mk_is_an_integer {K : PySem.W.Frag} {h : Heap} {mg : Str → Option Value} {f : Addr} {od an : Option Addr} {sl : Array (Option Value)} {oc kV dc pm cd ct : Value} (X : K.In h) (G : h.Ns mainGlobals mg) (a : PySem.W.nsIn K mainGlobals "is_an_integer" = some (some (.ref f)))
    (l : K.lookup f = some ⟨oc, od, .func (PySem.W.fnOf "is_an_integer" "is_an_integer" (defArgs sIsInt) (defBody sIsInt) (defScope sIsInt) .none kV dc pm an cd ct), sl⟩) (c : PySem.W.codeIn K cd "is_an_integer" = true) (k : PySem.W.keepIn K (.ref f) = true) : Nonempty (Df K mg "is_an_integer" sIsInt ["thing"]) :=
  have F := fun_mk (st := sIsInt) l c k
  df_mk X G a F (F.binds (ps := ["thing"]) fun _ _ _ _ _ _ us hl => match us, hl with | [_], _ => rfl)
theorem mk_is_width {K : PySem.W.Frag} {h : Heap} {mg : Str → Option Value} {f : Addr} {od an : Option Addr} {sl : Array (Option Value)} {oc kV dc pm cd ct : Value} (X : K.In h) (G : h.Ns mainGlobals mg) (a : PySem.W.nsIn K mainGlobals "is_width" = some (some (.ref f)))
    (l : K.lookup f = some ⟨oc, od, .func (PySem.W.fnOf "is_width" "is_width" (defArgs sIsWidth) (defBody sIsWidth) (defScope sIsWidth) .none kV dc pm an cd ct), sl⟩) (c : PySem.W.codeIn K cd "is_width" = true) (k : PySem.W.keepIn K (.ref f) = true) : Nonempty (Df K mg "is_width" sIsWidth ["thing"]) :=
  have F := fun_mk (st := sIsWidth) l c k
  df_mk X G a F (F.binds (ps := ["thing"]) fun _ _ _ _ _ _ us hl => match us, hl with | [_], _ => rfl)
theorem mk_is_column {K : PySem.W.Frag} {h : Heap} {mg : Str → Option Value} {f : Addr} {od an : Option Addr} {sl : Array (Option Value)} {oc kV dc pm cd ct : Value} (X : K.In h) (G : h.Ns mainGlobals mg) (a : PySem.W.nsIn K mainGlobals "is_column" = some (some (.ref f)))
    (l : K.lookup f = some ⟨oc, od, .func (PySem.W.fnOf "is_column" "is_column" (defArgs sIsCol) (defBody sIsCol) (defScope sIsCol) .none kV dc pm an cd ct), sl⟩) (c : PySem.W.codeIn K cd "is_column" = true) (k : PySem.W.keepIn K (.ref f) = true) : Nonempty (Df K mg "is_column" sIsCol ["width", "thing"]) :=
  have F := fun_mk (st := sIsCol) l c k
  df_mk X G a F (F.binds (ps := ["width", "thing"]) fun _ _ _ _ _ _ us hl => match us, hl with | [_, _], _ => rfl)
theorem mk_is_rule {K : PySem.W.Frag} {h : Heap} {mg : Str → Option Value} {f : Addr} {od an : Option Addr} {sl : Array (Option Value)} {oc kV dc pm cd ct : Value} (X : K.In h) (G : h.Ns mainGlobals mg) (a : PySem.W.nsIn K mainGlobals "is_rule" = some (some (.ref f)))
    (l : K.lookup f = some ⟨oc, od, .func (PySem.W.fnOf "is_rule" "is_rule" (defArgs sIsRule) (defBody sIsRule) (defScope sIsRule) .none kV dc pm an cd ct), sl⟩) (c : PySem.W.codeIn K cd "is_rule" = true) (k : PySem.W.keepIn K (.ref f) = true) : Nonempty (Df K mg "is_rule" sIsRule ["width", "thing"]) :=
  have F := fun_mk (st := sIsRule) l c k
  df_mk X G a F (F.binds (ps := ["width", "thing"]) fun _ _ _ _ _ _ us hl => match us, hl with | [_, _], _ => rfl)
theorem mk_every_rule {K : PySem.W.Frag} {h : Heap} {mg : Str → Option Value} {f : Addr} {od an : Option Addr} {sl : Array (Option Value)} {oc kV dc pm cd ct : Value} (X : K.In h) (G : h.Ns mainGlobals mg) (a : PySem.W.nsIn K mainGlobals "every_rule" = some (some (.ref f)))
    (l : K.lookup f = some ⟨oc, od, .func (PySem.W.fnOf "every_rule" "every_rule" (defArgs sEvery) (defBody sEvery) (defScope sEvery) .none kV dc pm an cd ct), sl⟩) (c : PySem.W.codeIn K cd "every_rule" = true) (k : PySem.W.keepIn K (.ref f) = true) : Nonempty (Df K mg "every_rule" sEvery ["width"]) :=
  have F := fun_mk (st := sEvery) l c k
  df_mk X G a F (F.binds (ps := ["width"]) fun _ _ _ _ _ _ us hl => match us, hl with | [_], _ => rfl)
theorem mk_line_of {K : PySem.W.Frag} {h : Heap} {mg : Str → Option Value} {f : Addr} {od an : Option Addr} {sl : Array (Option Value)} {oc kV dc pm cd ct : Value} (X : K.In h) (G : h.Ns mainGlobals mg) (a : PySem.W.nsIn K mainGlobals "line_of" = some (some (.ref f)))
    (l : K.lookup f = some ⟨oc, od, .func (PySem.W.fnOf "line_of" "line_of" (defArgs sLine) (defBody sLine) (defScope sLine) .none kV dc pm an cd ct), sl⟩) (c : PySem.W.codeIn K cd "line_of" = true) (k : PySem.W.keepIn K (.ref f) = true) : Nonempty (Df K mg "line_of" sLine ["rule"]) :=
  have F := fun_mk (st := sLine) l c k
  df_mk X G a F (F.binds (ps := ["rule"]) fun _ _ _ _ _ _ us hl => match us, hl with | [_], _ => rfl)
theorem mk_rules_of {K : PySem.W.Frag} {h : Heap} {mg : Str → Option Value} {f : Addr} {od an : Option Addr} {sl : Array (Option Value)} {oc kV dc pm cd ct : Value} (X : K.In h) (G : h.Ns mainGlobals mg) (a : PySem.W.nsIn K mainGlobals "rules_of" = some (some (.ref f)))
    (l : K.lookup f = some ⟨oc, od, .func (PySem.W.fnOf "rules_of" "rules_of" (defArgs sRulesOf) (defBody sRulesOf) (defScope sRulesOf) .none kV dc pm an cd ct), sl⟩) (c : PySem.W.codeIn K cd "rules_of" = true) (k : PySem.W.keepIn K (.ref f) = true) : Nonempty (Df K mg "rules_of" sRulesOf ["width", "text"]) :=
  have F := fun_mk (st := sRulesOf) l c k
  df_mk X G a F (F.binds (ps := ["width", "text"]) fun _ _ _ _ _ _ us hl => match us, hl with | [_, _], _ => rfl)
theorem mk_check_rules {K : PySem.W.Frag} {h : Heap} {mg : Str → Option Value} {f : Addr} {od an : Option Addr} {sl : Array (Option Value)} {oc kV dc pm cd ct : Value} (X : K.In h) (G : h.Ns mainGlobals mg) (a : PySem.W.nsIn K mainGlobals "check_rules" = some (some (.ref f)))
    (l : K.lookup f = some ⟨oc, od, .func (PySem.W.fnOf "check_rules" "check_rules" (defArgs sChk) (defBody sChk) (defScope sChk) .none kV dc pm an cd ct), sl⟩) (c : PySem.W.codeIn K cd "check_rules" = true) (k : PySem.W.keepIn K (.ref f) = true) : Nonempty (Df K mg "check_rules" sChk ["rules"]) :=
  have F := fun_mk (st := sChk) l c k
  df_mk X G a F (F.binds (ps := ["rules"]) fun _ _ _ _ _ _ us hl => match us, hl with | [_], _ => rfl)
theorem mk_first_ways {K : PySem.W.Frag} {h : Heap} {mg : Str → Option Value} {f : Addr} {od an : Option Addr} {sl : Array (Option Value)} {oc kV dc pm cd ct : Value} (X : K.In h) (G : h.Ns mainGlobals mg) (a : PySem.W.nsIn K mainGlobals "first_ways" = some (some (.ref f)))
    (l : K.lookup f = some ⟨oc, od, .func (PySem.W.fnOf "first_ways" "first_ways" (defArgs sFw) (defBody sFw) (defScope sFw) .none kV dc pm an cd ct), sl⟩) (c : PySem.W.codeIn K cd "first_ways" = true) (k : PySem.W.keepIn K (.ref f) = true) : Nonempty (Df K mg "first_ways" sFw ["pairs", "start"]) :=
  have F := fun_mk (st := sFw) l c k
  df_mk X G a F (F.binds (ps := ["pairs", "start"]) fun _ _ _ _ _ _ us hl => match us, hl with | [_, _], _ => rfl)
theorem mk_reached {K : PySem.W.Frag} {h : Heap} {mg : Str → Option Value} {f : Addr} {od an : Option Addr} {sl : Array (Option Value)} {oc kV dc pm cd ct : Value} (X : K.In h) (G : h.Ns mainGlobals mg) (a : PySem.W.nsIn K mainGlobals "reached" = some (some (.ref f)))
    (l : K.lookup f = some ⟨oc, od, .func (PySem.W.fnOf "reached" "reached" (defArgs sReached) (defBody sReached) (defScope sReached) .none kV dc pm an cd ct), sl⟩) (c : PySem.W.codeIn K cd "reached" = true) (k : PySem.W.keepIn K (.ref f) = true) : Nonempty (Df K mg "reached" sReached ["pairs", "start"]) :=
  have F := fun_mk (st := sReached) l c k
  df_mk X G a F (F.binds (ps := ["pairs", "start"]) fun _ _ _ _ _ _ us hl => match us, hl with | [_, _], _ => rfl)
theorem mk_classes_of {K : PySem.W.Frag} {h : Heap} {mg : Str → Option Value} {f : Addr} {od an : Option Addr} {sl : Array (Option Value)} {oc kV dc pm cd ct : Value} (X : K.In h) (G : h.Ns mainGlobals mg) (a : PySem.W.nsIn K mainGlobals "classes_of" = some (some (.ref f)))
    (l : K.lookup f = some ⟨oc, od, .func (PySem.W.fnOf "classes_of" "classes_of" (defArgs sCls) (defBody sCls) (defScope sCls) .none kV dc pm an cd ct), sl⟩) (c : PySem.W.codeIn K cd "classes_of" = true) (k : PySem.W.keepIn K (.ref f) = true) : Nonempty (Df K mg "classes_of" sCls ["width", "pairs"]) :=
  have F := fun_mk (st := sCls) l c k
  df_mk X G a F (F.binds (ps := ["width", "pairs"]) fun _ _ _ _ _ _ us hl => match us, hl with | [_, _], _ => rfl)
theorem mk_classes_below {K : PySem.W.Frag} {h : Heap} {mg : Str → Option Value} {f : Addr} {od an : Option Addr} {sl : Array (Option Value)} {oc kV dc pm cd ct : Value} (X : K.In h) (G : h.Ns mainGlobals mg) (a : PySem.W.nsIn K mainGlobals "classes_below" = some (some (.ref f)))
    (l : K.lookup f = some ⟨oc, od, .func (PySem.W.fnOf "classes_below" "classes_below" (defArgs sCb) (defBody sCb) (defScope sCb) .none kV dc pm an cd ct), sl⟩) (c : PySem.W.codeIn K cd "classes_below" = true) (k : PySem.W.keepIn K (.ref f) = true) : Nonempty (Df K mg "classes_below" sCb ["width", "pairs"]) :=
  have F := fun_mk (st := sCb) l c k
  df_mk X G a F (F.binds (ps := ["width", "pairs"]) fun _ _ _ _ _ _ us hl => match us, hl with | [_, _], _ => rfl)
theorem mk_steps_down {K : PySem.W.Frag} {h : Heap} {mg : Str → Option Value} {f : Addr} {od an : Option Addr} {sl : Array (Option Value)} {oc kV dc pm cd ct : Value} (X : K.In h) (G : h.Ns mainGlobals mg) (a : PySem.W.nsIn K mainGlobals "steps_down" = some (some (.ref f)))
    (l : K.lookup f = some ⟨oc, od, .func (PySem.W.fnOf "steps_down" "steps_down" (defArgs sDown) (defBody sDown) (defScope sDown) .none kV dc pm an cd ct), sl⟩) (c : PySem.W.codeIn K cd "steps_down" = true) (k : PySem.W.keepIn K (.ref f) = true) : Nonempty (Df K mg "steps_down" sDown ["rules"]) :=
  have F := fun_mk (st := sDown) l c k
  df_mk X G a F (F.binds (ps := ["rules"]) fun _ _ _ _ _ _ us hl => match us, hl with | [_], _ => rfl)
theorem mk_links {K : PySem.W.Frag} {h : Heap} {mg : Str → Option Value} {f : Addr} {od an : Option Addr} {sl : Array (Option Value)} {oc kV dc pm cd ct : Value} (X : K.In h) (G : h.Ns mainGlobals mg) (a : PySem.W.nsIn K mainGlobals "links" = some (some (.ref f)))
    (l : K.lookup f = some ⟨oc, od, .func (PySem.W.fnOf "links" "links" (defArgs sLinks) (defBody sLinks) (defScope sLinks) .none kV dc pm an cd ct), sl⟩) (c : PySem.W.codeIn K cd "links" = true) (k : PySem.W.keepIn K (.ref f) = true) : Nonempty (Df K mg "links" sLinks ["width", "rules", "kind"]) :=
  have F := fun_mk (st := sLinks) l c k
  df_mk X G a F (F.binds (ps := ["width", "rules", "kind"]) fun _ _ _ _ _ _ us hl => match us, hl with | [_, _, _], _ => rfl)
theorem mk_class_numbers {K : PySem.W.Frag} {h : Heap} {mg : Str → Option Value} {f : Addr} {od an : Option Addr} {sl : Array (Option Value)} {oc kV dc pm cd ct : Value} (X : K.In h) (G : h.Ns mainGlobals mg) (a : PySem.W.nsIn K mainGlobals "class_numbers" = some (some (.ref f)))
    (l : K.lookup f = some ⟨oc, od, .func (PySem.W.fnOf "class_numbers" "class_numbers" (defArgs sCn) (defBody sCn) (defScope sCn) .none kV dc pm an cd ct), sl⟩) (c : PySem.W.codeIn K cd "class_numbers" = true) (k : PySem.W.keepIn K (.ref f) = true) : Nonempty (Df K mg "class_numbers" sCn ["ordered", "settling", "naming"]) :=
  have F := fun_mk (st := sCn) l c k
  df_mk X G a F (F.binds (ps := ["ordered", "settling", "naming"]) fun _ _ _ _ _ _ us hl => match us, hl with | [_, _, _], _ => rfl)
theorem mk_column_values {K : PySem.W.Frag} {h : Heap} {mg : Str → Option Value} {f : Addr} {od an : Option Addr} {sl : Array (Option Value)} {oc kV dc pm cd ct : Value} (X : K.In h) (G : h.Ns mainGlobals mg) (a : PySem.W.nsIn K mainGlobals "column_values" = some (some (.ref f)))
    (l : K.lookup f = some ⟨oc, od, .func (PySem.W.fnOf "column_values" "column_values" (defArgs sCv) (defBody sCv) (defScope sCv) .none kV dc pm an cd ct), sl⟩) (c : PySem.W.codeIn K cd "column_values" = true) (k : PySem.W.keepIn K (.ref f) = true) : Nonempty (Df K mg "column_values" sCv ["naming", "named"]) :=
  have F := fun_mk (st := sCv) l c k
  df_mk X G a F (F.binds (ps := ["naming", "named"]) fun _ _ _ _ _ _ us hl => match us, hl with | [_, _], _ => rfl)
theorem mk_model_rows {K : PySem.W.Frag} {h : Heap} {mg : Str → Option Value} {f : Addr} {od an : Option Addr} {sl : Array (Option Value)} {oc kV dc pm cd ct : Value} (X : K.In h) (G : h.Ns mainGlobals mg) (a : PySem.W.nsIn K mainGlobals "model_rows" = some (some (.ref f)))
    (l : K.lookup f = some ⟨oc, od, .func (PySem.W.fnOf "model_rows" "model_rows" (defArgs sMr) (defBody sMr) (defScope sMr) .none kV dc pm an cd ct), sl⟩) (c : PySem.W.codeIn K cd "model_rows" = true) (k : PySem.W.keepIn K (.ref f) = true) : Nonempty (Df K mg "model_rows" sMr ["width", "rules"]) :=
  have F := fun_mk (st := sMr) l c k
  df_mk X G a F (F.binds (ps := ["width", "rules"]) fun _ _ _ _ _ _ us hl => match us, hl with | [_, _], _ => rfl)
theorem mk_is_row {K : PySem.W.Frag} {h : Heap} {mg : Str → Option Value} {f : Addr} {od an : Option Addr} {sl : Array (Option Value)} {oc kV dc pm cd ct : Value} (X : K.In h) (G : h.Ns mainGlobals mg) (a : PySem.W.nsIn K mainGlobals "is_row" = some (some (.ref f)))
    (l : K.lookup f = some ⟨oc, od, .func (PySem.W.fnOf "is_row" "is_row" (defArgs sIsRow) (defBody sIsRow) (defScope sIsRow) .none kV dc pm an cd ct), sl⟩) (c : PySem.W.codeIn K cd "is_row" = true) (k : PySem.W.keepIn K (.ref f) = true) : Nonempty (Df K mg "is_row" sIsRow ["width", "thing"]) :=
  have F := fun_mk (st := sIsRow) l c k
  df_mk X G a F (F.binds (ps := ["width", "thing"]) fun _ _ _ _ _ _ us hl => match us, hl with | [_, _], _ => rfl)
theorem mk_model {K : PySem.W.Frag} {h : Heap} {mg : Str → Option Value} {f : Addr} {od an : Option Addr} {sl : Array (Option Value)} {oc kV dc pm cd ct : Value} (X : K.In h) (G : h.Ns mainGlobals mg) (a : PySem.W.nsIn K mainGlobals "model" = some (some (.ref f)))
    (l : K.lookup f = some ⟨oc, od, .func (PySem.W.fnOf "model" "model" (defArgs sMdl) (defBody sMdl) (defScope sMdl) .none kV dc pm an cd ct), sl⟩) (c : PySem.W.codeIn K cd "model" = true) (k : PySem.W.keepIn K (.ref f) = true) : Nonempty (Df K mg "model" sMdl ["rules"]) :=
  have F := fun_mk (st := sMdl) l c k
  df_mk X G a F (F.binds (ps := ["rules"]) fun _ _ _ _ _ _ us hl => match us, hl with | [_], _ => rfl)
theorem mk_l_text {K : PySem.W.Frag} {h : Heap} {mg : Str → Option Value} {f : Addr} {od an : Option Addr} {sl : Array (Option Value)} {oc kV dc pm cd ct : Value} (X : K.In h) (G : h.Ns mainGlobals mg) (a : PySem.W.nsIn K mainGlobals "_law_text" = some (some (.ref f)))
    (l : K.lookup f = some ⟨oc, od, .func (PySem.W.fnOf "_law_text" "_law_text" (defArgs sTx) (defBody sTx) (defScope sTx) .none kV dc pm an cd ct), sl⟩) (c : PySem.W.codeIn K cd "_law_text" = true) (k : PySem.W.keepIn K (.ref f) = true) : Nonempty (Df K mg "_law_text" sTx ["_law_some"]) :=
  have F := fun_mk (st := sTx) l c k
  df_mk X G a F (F.binds (ps := ["_law_some"]) fun _ _ _ _ _ _ us hl => match us, hl with | [_], _ => rfl)
theorem mk_l_mixed {K : PySem.W.Frag} {h : Heap} {mg : Str → Option Value} {f : Addr} {od an : Option Addr} {sl : Array (Option Value)} {oc kV dc pm cd ct : Value} (X : K.In h) (G : h.Ns mainGlobals mg) (a : PySem.W.nsIn K mainGlobals "_law_mixed" = some (some (.ref f)))
    (l : K.lookup f = some ⟨oc, od, .func (PySem.W.fnOf "_law_mixed" "_law_mixed" (defArgs sMxp) (defBody sMxp) (defScope sMxp) .none kV dc pm an cd ct), sl⟩) (c : PySem.W.codeIn K cd "_law_mixed" = true) (k : PySem.W.keepIn K (.ref f) = true) : Nonempty (Df K mg "_law_mixed" sMxp ["_law_pen_here", "_law_things"]) :=
  have F := fun_mk (st := sMxp) l c k
  df_mk X G a F (F.binds (ps := ["_law_pen_here", "_law_things"]) fun _ _ _ _ _ _ us hl => match us, hl with | [_, _], _ => rfl)
theorem mk_l_sent {K : PySem.W.Frag} {h : Heap} {mg : Str → Option Value} {f : Addr} {od an : Option Addr} {sl : Array (Option Value)} {oc kV dc pm cd ct : Value} (X : K.In h) (G : h.Ns mainGlobals mg) (a : PySem.W.nsIn K mainGlobals "_law_sent" = some (some (.ref f)))
    (l : K.lookup f = some ⟨oc, od, .func (PySem.W.fnOf "_law_sent" "_law_sent" (defArgs sRen) (defBody sRen) (defScope sRen) .none kV dc pm an cd ct), sl⟩) (c : PySem.W.codeIn K cd "_law_sent" = true) (k : PySem.W.keepIn K (.ref f) = true) : Nonempty (Df K mg "_law_sent" sRen ["_law_some", "_law_places"]) :=
  have F := fun_mk (st := sRen) l c k
  df_mk X G a F (F.binds (ps := ["_law_some", "_law_places"]) fun _ _ _ _ _ _ us hl => match us, hl with | [_, _], _ => rfl)
theorem mk_following {K : PySem.W.Frag} {h : Heap} {mg : Str → Option Value} {f : Addr} {od an : Option Addr} {sl : Array (Option Value)} {oc kV dc pm cd ct : Value} (X : K.In h) (G : h.Ns mainGlobals mg) (a : PySem.W.nsIn K mainGlobals "following" = some (some (.ref f)))
    (l : K.lookup f = some ⟨oc, od, .func (PySem.W.fnOf "following" "following" (defArgs sFol) (defBody sFol) (defScope sFol) .none kV dc pm an cd ct), sl⟩) (c : PySem.W.codeIn K cd "following" = true) (k : PySem.W.keepIn K (.ref f) = true) : Nonempty (Df K mg "following" sFol ["rules"]) :=
  have F := fun_mk (st := sFol) l c k
  df_mk X G a F (F.binds (ps := ["rules"]) fun _ _ _ _ _ _ us hl => match us, hl with | [_], _ => rfl)
theorem mk_l_right {K : PySem.W.Frag} {h : Heap} {mg : Str → Option Value} {f : Addr} {od an : Option Addr} {sl : Array (Option Value)} {oc kV dc pm cd ct : Value} (X : K.In h) (G : h.Ns mainGlobals mg) (a : PySem.W.nsIn K mainGlobals "_law_right" = some (some (.ref f)))
    (l : K.lookup f = some ⟨oc, od, .func (PySem.W.fnOf "_law_right" "_law_right" (defArgs sRt) (defBody sRt) (defScope sRt) .none kV dc pm an cd ct), sl⟩) (c : PySem.W.codeIn K cd "_law_right" = true) (k : PySem.W.keepIn K (.ref f) = true) : Nonempty (Df K mg "_law_right" sRt ["_law_pen_here", "_law_width", "_law_some"]) :=
  have F := fun_mk (st := sRt) l c k
  df_mk X G a F (F.binds (ps := ["_law_pen_here", "_law_width", "_law_some"]) fun _ _ _ _ _ _ us hl => match us, hl with | [_, _, _], _ => rfl)
theorem mk_glb {K : PySem.W.Frag} {h : Heap} {mg : Str → Option Value} {kA : Addr} {t t1 t2 : Tok} {od : Option Addr} {n : Nat} {sl : Array (Option Value)} (X : K.In h) (G : h.Ns mainGlobals mg) (len : PySem.W.nsIn K mainGlobals "len" = some none) (max : PySem.W.nsIn K mainGlobals "max" = some none) (min : PySem.W.nsIn K mainGlobals "min" = some none) (isi : PySem.W.nsIn K mainGlobals "isinstance" = some none) (int : PySem.W.nsIn K mainGlobals "int" = some none) (bool : PySem.W.nsIn K mainGlobals "bool" = some none) (str : PySem.W.nsIn K mainGlobals "str" = some none) (tup : PySem.W.nsIn K mainGlobals "tuple" = some none) (rng : PySem.W.nsIn K mainGlobals "range" = some none) (lst : PySem.W.nsIn K mainGlobals "list" = some none) (all : PySem.W.nsIn K mainGlobals "all" = some none) (set : PySem.W.nsIn K mainGlobals "set" = some none) (enu : PySem.W.nsIn K mainGlobals "enumerate" = some none) (rep : PySem.W.nsIn K mainGlobals "repr" = some none) (srt : PySem.W.nsIn K mainGlobals "sorted" = some none) (zip : PySem.W.nsIn K mainGlobals "zip" = some none) (any : PySem.W.nsIn K mainGlobals "any" = some none) (sum : PySem.W.nsIn K mainGlobals "sum" = some none) (rev : PySem.W.nsIn K mainGlobals "reversed" = some none) (dic : PySem.W.nsIn K mainGlobals "dict" = some none) (typ : PySem.W.nsIn K mainGlobals "type" = some none)
    (wid : PySem.W.nsIn K mainGlobals "WIDEST" = some (some (.int 6 t))) (knd : PySem.W.nsIn K mainGlobals "KINDS" = some (some (.ref kA))) (kl : K.lookup kA = some ⟨.type "tuple", od, .seq #[.str "settles" t1, .str "within" t2] n, sl⟩) : Nonempty { z : Unit // ∃ kA, Glb K mg kA } :=
  ⟨⟨(), kA, ⟨PySem.W.mg_none_of X G len, PySem.W.mg_none_of X G max, PySem.W.mg_none_of X G min, PySem.W.mg_none_of X G isi, PySem.W.mg_none_of X G int, PySem.W.mg_none_of X G bool, PySem.W.mg_none_of X G str, PySem.W.mg_none_of X G tup, PySem.W.mg_none_of X G rng, PySem.W.mg_none_of X G lst, PySem.W.mg_none_of X G all, PySem.W.mg_none_of X G set, PySem.W.mg_none_of X G enu, PySem.W.mg_none_of X G rep, PySem.W.mg_none_of X G srt, PySem.W.mg_none_of X G zip, PySem.W.mg_none_of X G any, PySem.W.mg_none_of X G sum, PySem.W.mg_none_of X G rev, PySem.W.mg_none_of X G dic, PySem.W.mg_none_of X G typ, ⟨t, PySem.W.mg_of X G wid⟩, PySem.W.mg_of X G knd, ⟨_, _, _, kl, rfl, rfl, by show 2 ≤ sizeLine; decide, .cons ⟨t1, rfl⟩ (.cons ⟨t2, rfl⟩ .nil)⟩⟩⟩⟩
structure Kls (K : PySem.W.Frag) (mg : Str → Option Value) where
  C : Addr
  TC : Txt1 K mg C
  fN : Addr
  dN : FuncData
  FN : Fun K "__init__" "Rules.__init__" sInit fN dN
  M : Mk K C fN
  fD : Addr
  dD : FuncData
  FD : Fun K "read" "Rules.read" sRead fD dD
  bD : Binds K dD ["cls", "width", "text"] []
  mc : Value
  pD : Addr
  rD : ClX.CRead K C mc
  cD : ClX.CMet K C mc "read" pD fD
  ic : C8.InsC K C
  fW : Addr
  dW : FuncData
  FW : Fun K "width" "Rules.width" sPW fW dW
  bW : Binds K dW ["self"] []
  pW : Addr
  qW : PropOf K C "width" pW fW
  fR : Addr
  dR : FuncData
  FR : Fun K "rules" "Rules.rules" sPR fR dR
  bR : Binds K dR ["self"] []
  pR : Addr
  qR : PropOf K C "rules" pR fR
  fE : Addr
  dE : FuncData
  FE : Fun K "__eq__" "Rules.__eq__" sREq fE dE
  bE : Binds K dE ["self", "other"] []
  aE : PySem.W.findIn K (.ref C) "__eq__" = some (some (.ref fE))
  iE : PySem.W.isFn K (.ref fE) = true
  nE : PySem.W.findIn K (.ref C) "__ne__" = some (some (.builtin "object.__ne__"))
  mE : PySem.W.mroIn K C (.type "object") = some true
theorem mk_cls {K : PySem.W.Frag} {h : Heap} {mg : Str → Option Value} {C fN fD fW fR fE : Addr} {odN anN : Option Addr} {slN : Array (Option Value)} {ocN kVN dcN pmN cdN ctN : Value} {pD : Addr} {rest : List Value} {odD anD : Option Addr} {slD : Array (Option Value)} {ocD kVD dcD pmD cdD ctD : Value} {pW : Addr} {restW : List Value} {odW anW : Option Addr} {slW : Array (Option Value)} {ocW kVW dcW pmW cdW ctW : Value} {pR : Addr} {restR : List Value} {odR anR : Option Addr} {slR : Array (Option Value)} {ocR kVR dcR pmR cdR ctR : Value} {odE anE : Option Addr} {slE : Array (Option Value)} {ocE kVE dcE pmE cdE ctE : Value} (X : K.In h) (G : h.Ns mainGlobals mg)
    (aC : PySem.W.nsIn K mainGlobals "Rules" = some (some (.ref C))) (pg : PySem.W.plainGet K C Str.empty = true) (hd : PySem.W.hasDictIn K C = true) (po : PySem.W.plainOver K C = true) (sa : PySem.W.findIn K (.ref C) "__setattr__" = some (some (.builtin "object.__setattr__"))) (kc : PySem.W.keepIn K (.ref C) = true) (nS : PySem.W.findIn K (.ref C) "span" = some none) (nG : PySem.W.findIn K (.ref C) "given" = some none) (mk : PySem.W.makesIn K C = true) (aN : PySem.W.findIn K (.ref C) "__init__" = some (some (.ref fN))) (iN : PySem.W.isFn K (.ref fN) = true) (lN : K.lookup fN = some ⟨ocN, odN, .func (PySem.W.fnOf "__init__" "Rules.__init__" (defArgs sInit) (defBody sInit) (defScope sInit) .none kVN dcN pmN anN cdN ctN), slN⟩) (cN : PySem.W.codeIn K cdN "Rules.__init__" = true) (kN : PySem.W.keepIn K (.ref fN) = true) (rd : PySem.W.readsIn K C (.type "type") = true) (ga : PySem.W.specialIn K (.ref C) "__getattribute__" = some (some (.builtin "type.__getattribute__"))) (aD : PySem.W.findCls K (.ref C) (.type "type") "read" = some (.get (.builtin "classmethod.__get__") (.ref pD) .none (.ref C))) (rD : PySem.W.recIn K pD "classmethod" = some (.ref fD :: rest)) (iD : PySem.W.fnIn K fD = true) (lD : K.lookup fD = some ⟨ocD, odD, .func (PySem.W.fnOf "read" "Rules.read" (defArgs sRead) (defBody sRead) (defScope sRead) .none kVD dcD pmD anD cdD ctD), slD⟩) (cD : PySem.W.codeIn K cdD "Rules.read" = true) (kD : PySem.W.keepIn K (.ref fD) = true) (i1 : PySem.W.findIn K (.ref C) "__class__" = some (some (.builtin "object.__class__"))) (i2 : PySem.W.specialIn K (.builtin "object.__class__") "__get__" = some (some (.builtin "getset_descriptor.__get__"))) (i3 : PySem.W.takesIn K (.builtin "object.__class__") = some true) (i4 : PySem.W.mroIn K C (.type "object") = some true) (q1W : PySem.W.findIn K (.ref C) "width" = some (some (.ref pW))) (q2W : PySem.W.specialIn K (.ref pW) "__get__" = some (some (.builtin "property.__get__"))) (q3W : PySem.W.takesIn K (.ref pW) = some true) (q4W : PySem.W.recIn K pW "property" = some (.ref fW :: restW)) (lW : K.lookup fW = some ⟨ocW, odW, .func (PySem.W.fnOf "width" "Rules.width" (defArgs sPW) (defBody sPW) (defScope sPW) .none kVW dcW pmW anW cdW ctW), slW⟩) (cW : PySem.W.codeIn K cdW "Rules.width" = true) (kW : PySem.W.keepIn K (.ref fW) = true) (q1R : PySem.W.findIn K (.ref C) "rules" = some (some (.ref pR))) (q2R : PySem.W.specialIn K (.ref pR) "__get__" = some (some (.builtin "property.__get__"))) (q3R : PySem.W.takesIn K (.ref pR) = some true) (q4R : PySem.W.recIn K pR "property" = some (.ref fR :: restR)) (lR : K.lookup fR = some ⟨ocR, odR, .func (PySem.W.fnOf "rules" "Rules.rules" (defArgs sPR) (defBody sPR) (defScope sPR) .none kVR dcR pmR anR cdR ctR), slR⟩) (cR : PySem.W.codeIn K cdR "Rules.rules" = true) (kR : PySem.W.keepIn K (.ref fR) = true) (aE : PySem.W.findIn K (.ref C) "__eq__" = some (some (.ref fE))) (iE : PySem.W.isFn K (.ref fE) = true) (nE : PySem.W.findIn K (.ref C) "__ne__" = some (some (.builtin "object.__ne__"))) (mE : PySem.W.mroIn K C (.type "object") = some true) (lE : K.lookup fE = some ⟨ocE, odE, .func (PySem.W.fnOf "__eq__" "Rules.__eq__" (defArgs sREq) (defBody sREq) (defScope sREq) .none kVE dcE pmE anE cdE ctE), slE⟩) (cE : PySem.W.codeIn K cdE "Rules.__eq__" = true) (kE : PySem.W.keepIn K (.ref fE) = true) : Nonempty (Kls K mg) :=
  have FN := fun_mk (st := sInit) lN cN kN
  have FD := fun_mk (st := sRead) lD cD kD
  have FW := fun_mk (st := sPW) lW cW kW
  have FR := fun_mk (st := sPR) lR cR kR
  have FE := fun_mk (st := sREq) lE cE kE
  ⟨⟨C, ⟨⟨pg, hd, po, sa⟩, nS, nG, PySem.W.mg_of X G aC⟩, fN, _, FN, ⟨mk, aN, iN, kc⟩, fD, _, FD, FD.binds (ps := ["cls", "width", "text"]) (fun _ _ _ _ _ _ us hl => match us, hl with | [_, _, _], _ => rfl), .type "type", pD, ⟨rd, ga⟩, ⟨aD, ⟨rest, rD⟩, iD⟩, ⟨⟨pg, hd, po, sa⟩, i1, i2, i3, i4, kit_self⟩, fW, _, FW, FW.binds (ps := ["self"]) (fun _ _ _ _ _ _ us hl => match us, hl with | [_], _ => rfl), pW, ⟨q1W, q2W, q3W, ⟨restW, q4W⟩⟩, fR, _, FR, FR.binds (ps := ["self"]) (fun _ _ _ _ _ _ us hl => match us, hl with | [_], _ => rfl), pR, ⟨q1R, q2R, q3R, ⟨restR, q4R⟩⟩, fE, _, FE, FE.binds (ps := ["self", "other"]) (fun _ _ _ _ _ _ us hl => match us, hl with | [_, _], _ => rfl), aE, iE, nE, mE⟩⟩
structure KlsT (K : PySem.W.Frag) (mg : Str → Option Value) where
  C : Addr
  TC : TxtT K mg C
  fN : Addr
  dN : FuncData
  FN : Fun K "__init__" "Table.__init__" sTInit fN dN
  M : Mk K C fN
  fQ : Addr
  dQ : FuncData
  FQ : Fun K "counts" "Table.counts" sTCnt fQ dQ
  bQ : Binds K dQ ["self"] []
  pQ : Addr
  qQ : PropOf K C "counts" pQ fQ
  fX : Addr
  dX : FuncData
  FX : Fun K "text" "Table.text" sTText fX dX
  bX : Binds K dX ["self"] []
  mX : Meth K C "text" fX
theorem mk_clsT {K : PySem.W.Frag} {h : Heap} {mg : Str → Option Value} {C fN fQ fX : Addr} {odN anN : Option Addr} {slN : Array (Option Value)} {ocN kVN dcN pmN cdN ctN : Value} {pQ : Addr} {restQ : List Value} {odQ anQ : Option Addr} {slQ : Array (Option Value)} {ocQ kVQ dcQ pmQ cdQ ctQ : Value} {odX anX : Option Addr} {slX : Array (Option Value)} {ocX kVX dcX pmX cdX ctX : Value} (X : K.In h) (G : h.Ns mainGlobals mg)
    (aC : PySem.W.nsIn K mainGlobals "Table" = some (some (.ref C))) (pg : PySem.W.plainGet K C Str.empty = true) (hd : PySem.W.hasDictIn K C = true) (po : PySem.W.plainOver K C = true) (sa : PySem.W.findIn K (.ref C) "__setattr__" = some (some (.builtin "object.__setattr__"))) (kc : PySem.W.keepIn K (.ref C) = true) (nS : PySem.W.findIn K (.ref C) "span" = some none) (nL : PySem.W.findIn K (.ref C) "lines" = some none) (mk : PySem.W.makesIn K C = true) (aN : PySem.W.findIn K (.ref C) "__init__" = some (some (.ref fN))) (iN : PySem.W.isFn K (.ref fN) = true) (lN : K.lookup fN = some ⟨ocN, odN, .func (PySem.W.fnOf "__init__" "Table.__init__" (defArgs sTInit) (defBody sTInit) (defScope sTInit) .none kVN dcN pmN anN cdN ctN), slN⟩) (cN : PySem.W.codeIn K cdN "Table.__init__" = true) (kN : PySem.W.keepIn K (.ref fN) = true) (q1Q : PySem.W.findIn K (.ref C) "counts" = some (some (.ref pQ))) (q2Q : PySem.W.specialIn K (.ref pQ) "__get__" = some (some (.builtin "property.__get__"))) (q3Q : PySem.W.takesIn K (.ref pQ) = some true) (q4Q : PySem.W.recIn K pQ "property" = some (.ref fQ :: restQ)) (lQ : K.lookup fQ = some ⟨ocQ, odQ, .func (PySem.W.fnOf "counts" "Table.counts" (defArgs sTCnt) (defBody sTCnt) (defScope sTCnt) .none kVQ dcQ pmQ anQ cdQ ctQ), slQ⟩) (cQ : PySem.W.codeIn K cdQ "Table.counts" = true) (kQ : PySem.W.keepIn K (.ref fQ) = true) (aX : PySem.W.findIn K (.ref C) "text" = some (some (.ref fX))) (iX : PySem.W.isFn K (.ref fX) = true) (lX : K.lookup fX = some ⟨ocX, odX, .func (PySem.W.fnOf "text" "Table.text" (defArgs sTText) (defBody sTText) (defScope sTText) .none kVX dcX pmX anX cdX ctX), slX⟩) (cX : PySem.W.codeIn K cdX "Table.text" = true) (kX : PySem.W.keepIn K (.ref fX) = true) : Nonempty (KlsT K mg) :=
  have FN := fun_mk (st := sTInit) lN cN kN
  have FQ := fun_mk (st := sTCnt) lQ cQ kQ
  have FX := fun_mk (st := sTText) lX cX kX
  ⟨⟨C, ⟨⟨pg, hd, po, sa⟩, nS, nL, PySem.W.mg_of X G aC⟩, fN, _, FN, ⟨mk, aN, iN, kc⟩, fQ, _, FQ, FQ.binds (ps := ["self"]) (fun _ _ _ _ _ _ us hl => match us, hl with | [_], _ => rfl), pQ, ⟨q1Q, q2Q, q3Q, ⟨restQ, q4Q⟩⟩, fX, _, FX, FX.binds (ps := ["self"]) (fun _ _ _ _ _ _ us hl => match us, hl with | [_], _ => rfl), ⟨aX, iX, kX⟩⟩⟩
theorem mk_glbT {K : PySem.W.Frag} {h : Heap} {mg : Str → Option Value} {t1 t2 : Tok} (X : K.In h) (G : h.Ns mainGlobals mg) (a : PySem.W.nsIn K mainGlobals "LARGEST_VALUE" = some (some (.int 9999 t1))) (b : PySem.W.nsIn K mainGlobals "MOST_ROWS" = some (some (.int 400 t2))) : GlbT mg := ⟨⟨t1, PySem.W.mg_of X G a⟩, ⟨t2, PySem.W.mg_of X G b⟩⟩
theorem fun_mkC {K : PySem.W.Frag} {x q : Str} {st : Stmt} {f c : Addr} {oc : Value} {od an : Option Addr} {osl : Array (Option Value)} {kV doc pm ct : Value} (l : K.lookup f = some ⟨oc, od, .func (PySem.W.fnOf x q (defArgs st) (defBody st) (defScope st) .none kV doc pm an (.ref c) ct), osl⟩) (cI : PySem.W.codeIn K (.ref c) q = true) (k : PySem.W.keepIn K (.ref f) = true) : GD.FunC K x q st f (PySem.W.fnOf x q (defArgs st) (defBody st) (defScope st) .none kV doc pm an (.ref c) ct) c := ⟨⟨_, _, _, _, _, _, _, _, rfl, l, cI⟩, k⟩
theorem tab_mk {K : PySem.W.Frag} {x : Str} {f c P : Addr} {fd : FuncData} {oc oc2 : Value} {od od2 : Option Addr} {sl sl2 : Array (Option Value)} {vs : Array Value} (a : PySem.W.nsIn K mainGlobals x = some (some (.ref f))) (l : K.lookup f = some ⟨oc, od, .func fd, sl⟩) (hc : fd.code = .ref c) (lc : K.lookup c = some ⟨oc2, od2, .fields vs, sl2⟩) (hv : vs[11]? = some (.ref P)) : PySem.W.tabIn K x = some (c, P) := by
  unfold PySem.W.tabIn
  simp only [a, l, hc, lc, hv]
theorem mk_lowest_first {K : PySem.W.Frag} {h : Heap} {mg : Str → Option Value} {f c : Addr} {od an : Option Addr} {sl : Array (Option Value)} {oc kV dc pm ct : Value} (X : K.In h) (G : h.Ns mainGlobals mg) (a : PySem.W.nsIn K mainGlobals "lowest_first" = some (some (.ref f)))
    (l : K.lookup f = some ⟨oc, od, .func (PySem.W.fnOf "lowest_first" "lowest_first" (defArgs sLow) (defBody sLow) (defScope sLow) .none kV dc pm an (.ref c) ct), sl⟩) (cI : PySem.W.codeIn K (.ref c) "lowest_first" = true) (k : PySem.W.keepIn K (.ref f) = true) : ∃ (f : Addr) (fd : FuncData), GD.FunC K "lowest_first" "lowest_first" sLow f fd c ∧ Binds K fd ["width", "rules"] [] ∧ mg "lowest_first" = some (.ref f) :=
  have F := fun_mk (st := sLow) l cI k
  ⟨_, _, fun_mkC l cI k, F.binds (ps := ["width", "rules"]) (fun _ _ _ _ _ _ us hl => match us, hl with | [_, _], _ => rfl), PySem.W.mg_of X G a⟩
theorem all_mk {l : PySem.W.OpenLaw} {w : World} {K : PySem.W.Frag} {h : Heap} {mg : Str → Option Value} {fa f : Addr} {c_0 P_0 : Addr} {od an : Option Addr} {sl : Array (Option Value)} {oc kV dc pm ct cd : Value} (X : K.In h) (G : h.Ns mainGlobals mg) (hfa : mg "law" = some (.ref fa))
    (a : PySem.W.nsIn K mainGlobals "law" = some (some (.ref f))) (l1 : K.lookup f = some ⟨oc, od, .func (PySem.W.fnOf "law" "law" (defArgs sLaw) (defBody sLaw) (defScope sLaw) .none kV dc pm an cd ct), sl⟩) (c : PySem.W.codeIn K cd "law" = true) (k : PySem.W.keepIn K (.ref f) = true)
    (gb : Nonempty { z : Unit // ∃ kA, Glb K mg kA }) (kl : Nonempty (Kls K mg)) (kt : Nonempty (KlsT K mg)) (TT : GlbT mg)   (m_l_pen : Nonempty (Df K mg "_law_pen" sPen ["_law_cell"])) (m_l_cell_at : Nonempty (Df K mg "_law_cell_at" sCell ["_law_script", "_law_k"])) (m_l_draw : Nonempty (Df K mg "_law_draw" sPDraw ["_law_pen_here", "_law_many"])) (m_l_rule : Nonempty (Df K mg "_law_rule" sPRule ["_law_pen_here", "_law_width"])) (m_l_ring : Nonempty (Df K mg "_law_ring" sRing ["_law_pen_here", "_law_width"])) (m_l_drawn : Nonempty (Df K mg "_law_drawn" sDrawn ["_law_pen_here", "_law_most"])) (m_is_an_integer : Nonempty (Df K mg "is_an_integer" sIsInt ["thing"])) (m_is_width : Nonempty (Df K mg "is_width" sIsWidth ["thing"])) (m_is_column : Nonempty (Df K mg "is_column" sIsCol ["width", "thing"])) (m_is_rule : Nonempty (Df K mg "is_rule" sIsRule ["width", "thing"])) (m_every_rule : Nonempty (Df K mg "every_rule" sEvery ["width"])) (m_line_of : Nonempty (Df K mg "line_of" sLine ["rule"])) (m_rules_of : Nonempty (Df K mg "rules_of" sRulesOf ["width", "text"])) (m_check_rules : Nonempty (Df K mg "check_rules" sChk ["rules"])) (m_first_ways : Nonempty (Df K mg "first_ways" sFw ["pairs", "start"])) (m_reached : Nonempty (Df K mg "reached" sReached ["pairs", "start"])) (m_classes_of : Nonempty (Df K mg "classes_of" sCls ["width", "pairs"])) (m_classes_below : Nonempty (Df K mg "classes_below" sCb ["width", "pairs"])) (m_steps_down : Nonempty (Df K mg "steps_down" sDown ["rules"])) (m_links : Nonempty (Df K mg "links" sLinks ["width", "rules", "kind"])) (m_class_numbers : Nonempty (Df K mg "class_numbers" sCn ["ordered", "settling", "naming"])) (m_column_values : Nonempty (Df K mg "column_values" sCv ["naming", "named"])) (m_model_rows : Nonempty (Df K mg "model_rows" sMr ["width", "rules"])) (m_is_row : Nonempty (Df K mg "is_row" sIsRow ["width", "thing"])) (m_model : Nonempty (Df K mg "model" sMdl ["rules"])) (m_l_text : Nonempty (Df K mg "_law_text" sTx ["_law_some"])) (m_l_mixed : Nonempty (Df K mg "_law_mixed" sMxp ["_law_pen_here", "_law_things"])) (m_l_sent : Nonempty (Df K mg "_law_sent" sRen ["_law_some", "_law_places"])) (m_following : Nonempty (Df K mg "following" sFol ["rules"])) (m_l_right : Nonempty (Df K mg "_law_right" sRt ["_law_pen_here", "_law_width", "_law_some"]))
    (q_0 : ∃ (f : Addr) (fd : FuncData), GD.FunC K "lowest_first" "lowest_first" sLow f fd c_0 ∧ Binds K fd ["width", "rules"] [] ∧ mg "lowest_first" = some (.ref f)) (t_0 : PySem.W.tabIn K "lowest_first" = some (c_0, P_0)) (o_0 : K.lookup P_0 = none)  :
    ∃ (fd : FuncData) (cs : List (Addr × Addr)) (sp : Sp), (∀ p ∈ cs, ∃ y ∈ (["lowest_first"] : List Str), PySem.W.tabIn K y = some p) ∧ (∀ p ∈ cs, K.lookup p.2 = none) ∧ (∀ (s : Shared) (v : Value), BindsTo s fd ⟨[v], []⟩ [("_law_script", v)]) ∧ (∀ (H : Hp) (a : Addr) (ns : List Int), ns.length ≤ 63 → (∀ p ∈ cs, H p.2 = some (.tbl #[])) → SqL K H a (ns.map V.int) → sp [.ref a] H (fun v _ => v = .bl true) fun _ _ _ => False) ∧
      ∀ base : Heap, K.In base → base.Ns mainGlobals mg → (∀ p ∈ cs, LamX.TabB base mg p.1 p.2) → GD.FnG l.prog w K mg base CX0 11 fa fd ["_law_script"] sp := by
  have e := hfa.symm.trans (PySem.W.mg_of X G a)
  cases e
  obtain ⟨⟨_, kA, T⟩⟩ := gb
  obtain ⟨Y⟩ := kl
  obtain ⟨Z⟩ := kt
  obtain ⟨x_l_pen⟩ := m_l_pen
  obtain ⟨x_l_cell_at⟩ := m_l_cell_at
  obtain ⟨x_l_draw⟩ := m_l_draw
  obtain ⟨x_l_rule⟩ := m_l_rule
  obtain ⟨x_l_ring⟩ := m_l_ring
  obtain ⟨x_l_drawn⟩ := m_l_drawn
  obtain ⟨x_is_an_integer⟩ := m_is_an_integer
  obtain ⟨x_is_width⟩ := m_is_width
  obtain ⟨x_is_column⟩ := m_is_column
  obtain ⟨x_is_rule⟩ := m_is_rule
  obtain ⟨x_every_rule⟩ := m_every_rule
  obtain ⟨x_line_of⟩ := m_line_of
  obtain ⟨x_rules_of⟩ := m_rules_of
  obtain ⟨x_check_rules⟩ := m_check_rules
  obtain ⟨x_first_ways⟩ := m_first_ways
  obtain ⟨x_reached⟩ := m_reached
  obtain ⟨x_classes_of⟩ := m_classes_of
  obtain ⟨x_classes_below⟩ := m_classes_below
  obtain ⟨x_steps_down⟩ := m_steps_down
  obtain ⟨x_links⟩ := m_links
  obtain ⟨x_class_numbers⟩ := m_class_numbers
  obtain ⟨x_column_values⟩ := m_column_values
  obtain ⟨x_model_rows⟩ := m_model_rows
  obtain ⟨x_is_row⟩ := m_is_row
  obtain ⟨x_model⟩ := m_model
  obtain ⟨x_l_text⟩ := m_l_text
  obtain ⟨x_l_mixed⟩ := m_l_mixed
  obtain ⟨x_l_sent⟩ := m_l_sent
  obtain ⟨x_following⟩ := m_following
  obtain ⟨x_l_right⟩ := m_l_right
  obtain ⟨lf_0, ld_0, lF_0, lb_0, lg_0⟩ := q_0
  have hu_0 : ∀ p ∈ ([(P_0, qLow)] : List (Addr × Str)), p.1 = P_0 → p.2 = qLow := by
    intro p hp e; rcases List.mem_cons.mp hp with rfl | hp; exact rfl; cases hp
  have hm_0 : (P_0, qLow) ∈ ([(P_0, qLow)] : List (Addr × Str)) := .head _
  refine ⟨PySem.W.fnOf "law" "law" (defArgs sLaw) (defBody sLaw) (defScope sLaw) .none kV dc pm an cd ct, [(c_0, P_0)], (spLaw K [(P_0, qLow)]), ?_, ?_, fun s v => .of_eq rfl, ?_, fun base _ _ tbs => ?_⟩
  · intro p hp; rcases List.mem_cons.mp hp with rfl | hp; exact ⟨_, .head _, t_0⟩; cases hp
  · intro p hp; rcases List.mem_cons.mp hp with rfl | hp; exact o_0; cases hp
  · intro H a ns hl ht hS
    refine ⟨a, ns, rfl, hS, hl, ?_, fun _ => rfl⟩
    intro p hp; rcases List.mem_cons.mp hp with rfl | hp; exact LamX.TabS.nil (ht (c_0, P_0) (.head _)); cases hp
  have tb_0 := tbs (c_0, P_0) (.head _)
  have c__law_pen : Cal l.prog w K mg base "_law_pen" ["_law_cell"] spPen 1 := Df.cal x_l_pen fun k => ok_pen (k := k) x_l_pen.F T
  have c__law_cell_at : Cal l.prog w K mg base "_law_cell_at" ["_law_script", "_law_k"] (spCell K) 1 := Df.cal x_l_cell_at fun k => ok_cell (k := k) x_l_cell_at.F T.len
  have c__law_draw : Cal l.prog w K mg base "_law_draw" ["_law_pen_here", "_law_many"] spPDraw 1 := Df.cal x_l_draw fun k => ok_pdraw (k := k) x_l_draw.F
  have c__law_rule : Cal l.prog w K mg base "_law_rule" ["_law_pen_here", "_law_width"] (spPRule K) 2 := Df.cal x_l_rule fun k => ok_prule (k := k) x_l_rule.F c__law_draw
  have c__law_ring : Cal l.prog w K mg base "_law_ring" ["_law_pen_here", "_law_width"] (spRing K) 2 := Df.cal x_l_ring fun k => ok_ring (k := k) x_l_ring.F T c__law_draw
  have c__law_drawn : Cal l.prog w K mg base "_law_drawn" ["_law_pen_here", "_law_most"] (spDrawn K) 3 := Df.cal x_l_drawn fun k => ok_drawn (k := k) x_l_drawn.F T c__law_draw c__law_rule c__law_ring
  have c_is_an_integer : Cal l.prog w K mg base "is_an_integer" ["thing"] spIsInt 1 := Df.cal x_is_an_integer fun k => ok_isint (k := k) x_is_an_integer.F T
  have c_is_width : Cal l.prog w K mg base "is_width" ["thing"] spIsWidth 2 := Df.cal x_is_width fun k => ok_iswidth (k := k) x_is_width.F T c_is_an_integer
  have c_is_column : Cal l.prog w K mg base "is_column" ["width", "thing"] spIsCol 2 := Df.cal x_is_column fun k => ok_iscol (k := k) x_is_column.F T c_is_an_integer
  have c_is_rule : Cal l.prog w K mg base "is_rule" ["width", "thing"] (spIsRule K) 3 := Df.cal x_is_rule fun k => ok_isrule (k := k) x_is_rule.F T c_is_column
  have mkR : MakeR l.prog w K mg base Y.C 4 := ⟨Y.fN, Y.M, from_le fun k => ok_init (k := k) Y.FN T Y.TC c_is_width c_is_rule⟩
  have c_every_rule : Cal l.prog w K mg base "every_rule" ["width"] (spEvery K) 1 := Df.cal x_every_rule fun k => ok_every (k := k) x_every_rule.F T
  have c_line_of : Cal l.prog w K mg base "line_of" ["rule"] (spLine K) 1 := Df.cal x_line_of fun k => ok_line (k := k) x_line_of.F
  have c_rules_of : Cal l.prog w K mg base "rules_of" ["width", "text"] (spRulesOf K) 2 := Df.cal x_rules_of fun k => ok_rulesof (k := k) x_rules_of.F T c_every_rule c_line_of
  have rd : ReadR l.prog w K mg base Y.C 6 := ⟨Y.mc, Y.pD, Y.fD, Y.rD, Y.cD, from_le fun k => raw0 (ok_read (k := k) Y.FD T mkR c_is_width c_rules_of) Y.bD⟩
  have ic : C8.InsC K Y.C := Y.ic
  have eqR : EqO l.prog w K mg base Y.C (spREq K Y.C) 1 := ⟨Y.fE, Y.aE, Y.iE, Y.nE, Y.mE, from_le fun k => raw0 (ok_req (k := k) Y.FE T Y.TC ic) Y.bE⟩
  have txT : TxtTM l.prog w K mg base Z.C 1 := ⟨Z.fX, Z.dX, Z.mX, from_le fun k => ok_ttext (k := k) Z.FX T Z.TC, Z.bX⟩
  have pTC : PrpG l.prog w K mg base Z.C "counts" (spTCnt K Z.C) := ⟨Z.pQ, Z.fQ, Z.dQ, Z.qQ, from_le fun k => ok_tcnt (k := k) Z.FQ T Z.TC, Z.bQ⟩
  have c_check_rules : Cal l.prog w K mg base "check_rules" ["rules"] (spChk K Y.C) 1 := Df.cal x_check_rules fun k => ok_chk (k := k) x_check_rules.F T Y.TC ic
  have c_first_ways : Cal l.prog w K mg base "first_ways" ["pairs", "start"] (spFw K) 1 := Df.cal x_first_ways fun k => ok_fw (k := k) x_first_ways.F T
  have c_reached : Cal l.prog w K mg base "reached" ["pairs", "start"] (spReached K) 2 := Df.cal x_reached fun k => ok_reached (k := k) x_reached.F T c_first_ways
  have c_classes_of : Cal l.prog w K mg base "classes_of" ["width", "pairs"] (spClsT K) 3 := Df.cal x_classes_of fun k => ok_clsT (k := k) x_classes_of.F T c_reached
  have c_classes_below : Cal l.prog w K mg base "classes_below" ["width", "pairs"] (spCb K) 4 := Df.cal x_classes_below fun k => ok_cb (k := k) x_classes_below.F T c_classes_of c_reached
  have c_steps_down : Cal l.prog w K mg base "steps_down" ["rules"] (spDown K) 1 := Df.cal x_steps_down fun k => ok_down (k := k) x_steps_down.F
  have c_links : Cal l.prog w K mg base "links" ["width", "rules", "kind"] (spLinks K) 3 := Df.cal x_links fun k => ok_links (k := k) x_links.F T c_steps_down c_reached
  have c_lowest_first : Cal l.prog w K mg base "lowest_first" ["width", "rules"] (spLow K [(P_0, qLow)]) 6 := ⟨lf_0, ld_0, from_le fun k => ok_low (k := k) lF_0 tb_0 hm_0 hu_0 T c_steps_down c_classes_of c_reached, lF_0.kp, lb_0, lg_0⟩
  have c_class_numbers : Cal l.prog w K mg base "class_numbers" ["ordered", "settling", "naming"] (spCn K) 1 := Df.cal x_class_numbers fun k => ok_cn (k := k) x_class_numbers.F T
  have c_column_values : Cal l.prog w K mg base "column_values" ["naming", "named"] (spCv K) 1 := Df.cal x_column_values fun k => ok_cv (k := k) x_column_values.F T
  have c_model_rows : Cal l.prog w K mg base "model_rows" ["width", "rules"] (spMr K [(P_0, qLow)]) 7 := Df.cal x_model_rows fun k => ok_mr (k := k) x_model_rows.F T c_classes_below c_links c_lowest_first c_class_numbers c_column_values
  have pW : Prp l.prog w K mg base Y.C "width" "span" := ⟨Y.pW, Y.fW, Y.dW, Y.qW, from_le fun k => ok_pw (k := k) Y.FW Y.TC, Y.bW⟩
  have pR : Prp l.prog w K mg base Y.C "rules" "given" := ⟨Y.pR, Y.fR, Y.dR, Y.qR, from_le fun k => ok_pr (k := k) Y.FR Y.TC, Y.bR⟩
  have c_is_row : Cal l.prog w K mg base "is_row" ["width", "thing"] (spIsRow K) 2 := Df.cal x_is_row fun k => ok_isrow (k := k) x_is_row.F T TT c_is_an_integer
  have mkT : MakeT l.prog w K mg base Z.C 3 := ⟨Z.fN, Z.M, from_le fun k => ok_tinit (k := k) Z.FN T TT Z.TC c_is_width c_is_row⟩
  have c_model : Cal l.prog w K mg base "model" ["rules"] (spMdl K Y.C Z.C [(P_0, qLow)]) 8 := Df.cal x_model fun k => ok_mdl (k := k) x_model.F Y.TC Z.TC pW pR c_check_rules c_model_rows mkT
  have c__law_text : Cal l.prog w K mg base "_law_text" ["_law_some"] (spTx K) 1 := Df.cal x_l_text fun k => ok_tx (k := k) x_l_text.F T
  have c__law_mixed : Cal l.prog w K mg base "_law_mixed" ["_law_pen_here", "_law_things"] (spMxp K) 2 := Df.cal x_l_mixed fun k => ok_mxp (k := k) x_l_mixed.F T c__law_draw
  have c__law_sent : Cal l.prog w K mg base "_law_sent" ["_law_some", "_law_places"] (spRen K) 1 := Df.cal x_l_sent fun k => ok_ren (k := k) x_l_sent.F
  have c_following : CalY l.prog w K mg base "following" ["rules"] (spFolG K Y.C) 4 := calY x_following fun k => ok_fol (k := k) x_following.F T Y.TC pW pR c_check_rules c_links c_reached
  have c__law_right : Cal l.prog w K mg base "_law_right" ["_law_pen_here", "_law_width", "_law_some"] (spRt K Y.C [(P_0, qLow)]) 10 := Df.cal x_l_right fun k => ok_rt (k := k) x_l_right.F T Y.TC Z.TC rd eqR txT pTC c_model c__law_text c__law_mixed c__law_sent c_following
  exact ok_law (k := 0) (fun_mk (st := sLaw) l1 c k) T c__law_pen c__law_cell_at c__law_drawn c__law_right
end CC
open PySem PySem.W PyProof.Rows
set_option maxHeartbeats 0 in
theorem PySem.Challenge.cw_countcycles_k50_whole_columns_in_another_holds : PySem.Challenge.rw_countcycles_k50_whole_columns_in_another.Holds := by
  w_on; o_law; k_head; (case hw => w_witness2)
  k_fill
  refine GD.walk_ofGT (l := PySem.Challenge.rw_countcycles_k50_whole_columns_in_another) (n := 63) (k := 11) (x := "_law_script") (xs := ["lowest_first"]) (CX := fun _ => L2.CX0) rfl (by decide) rfl ⟨rfl, by decide, by decide⟩ (fun w h Y => PySem.W.km_in_of Y) (by intro y hy; rcases List.mem_cons.mp hy with rfl | hy; exact ⟨_, rfl⟩; cases hy) ?F (fun _ _ _ _ _ h => h)
  case F =>
    intro w mg fa h KX G hmg
    refine' CC.all_mk KX G hmg ?a ?l ?c ?k ?gb ?kl ?kt ?tt ?m_l_pen ?m_l_cell_at ?m_l_draw ?m_l_rule ?m_l_ring ?m_l_drawn ?m_is_an_integer ?m_is_width ?m_is_column ?m_is_rule ?m_every_rule ?m_line_of ?m_rules_of ?m_check_rules ?m_first_ways ?m_reached ?m_classes_of ?m_classes_below ?m_steps_down ?m_links ?m_class_numbers ?m_column_values ?m_model_rows ?m_is_row ?m_model ?m_l_text ?m_l_mixed ?m_l_sent ?m_following ?m_l_right ?q_0 ?t_0 ?o_0 
    (case a => k_is); (case l => k_is); (case c => k_is); (case k => k_is)
    case gb =>
      refine' CC.mk_glb KX G ?z_len ?z_max ?z_min ?z_isi ?z_int ?z_bool ?z_str ?z_tup ?z_rng ?z_lst ?z_all ?z_set ?z_enu ?z_rep ?z_srt ?z_zip ?z_any ?z_sum ?z_rev ?z_dic ?z_typ ?z1 ?z2 ?z3
      (case z_len => k_is); (case z_max => k_is); (case z_min => k_is); (case z_isi => k_is); (case z_int => k_is); (case z_bool => k_is); (case z_str => k_is); (case z_tup => k_is); (case z_rng => k_is); (case z_lst => k_is); (case z_all => k_is); (case z_set => k_is); (case z_enu => k_is); (case z_rep => k_is); (case z_srt => k_is); (case z_zip => k_is); (case z_any => k_is); (case z_sum => k_is); (case z_rev => k_is); (case z_dic => k_is); (case z_typ => k_is); (case z1 => k_is); (case z2 => k_is); (case z3 => k_is)
    case kl =>
      refine' CC.mk_cls KX G ?y_aC ?y_pg ?y_hd ?y_po ?y_sa ?y_kc ?y_nS ?y_nG ?y_mk ?y_aN ?y_iN ?y_lN ?y_cN ?y_kN ?y_rd ?y_ga ?y_aD ?y_rD ?y_iD ?y_lD ?y_cD ?y_kD ?y_i1 ?y_i2 ?y_i3 ?y_i4 ?y_q1W ?y_q2W ?y_q3W ?y_q4W ?y_lW ?y_cW ?y_kW ?y_q1R ?y_q2R ?y_q3R ?y_q4R ?y_lR ?y_cR ?y_kR ?y_aE ?y_iE ?y_nE ?y_mE ?y_lE ?y_cE ?y_kE
      (case y_aC => k_is)
      (case y_pg => k_is)
      (case y_hd => k_is)
      (case y_po => k_is)
      (case y_sa => k_is)
      (case y_kc => k_is)
      (case y_nS => k_is)
      (case y_nG => k_is)
      (case y_mk => k_is)
      (case y_aN => k_is)
      (case y_iN => k_is)
      (case y_lN => k_is)
      (case y_cN => k_is)
      (case y_kN => k_is)
      (case y_rd => k_is)
      (case y_ga => k_is)
      (case y_aD => k_is)
      (case y_rD => k_is)
      (case y_iD => k_is)
      (case y_lD => k_is)
      (case y_cD => k_is)
      (case y_kD => k_is)
      (case y_i1 => k_is)
      (case y_i2 => k_is)
      (case y_i3 => k_is)
      (case y_i4 => k_is)
      (case y_q1W => k_is)
      (case y_q2W => k_is)
      (case y_q3W => k_is)
      (case y_q4W => k_is)
      (case y_lW => k_is)
      (case y_cW => k_is)
      (case y_kW => k_is)
      (case y_q1R => k_is)
      (case y_q2R => k_is)
      (case y_q3R => k_is)
      (case y_q4R => k_is)
      (case y_lR => k_is)
      (case y_cR => k_is)
      (case y_kR => k_is)
      (case y_aE => k_is)
      (case y_iE => k_is)
      (case y_nE => k_is)
      (case y_mE => k_is)
      (case y_lE => k_is)
      (case y_cE => k_is)
      (case y_kE => k_is)
    case kt =>
      refine' CC.mk_clsT KX G ?y_aC ?y_pg ?y_hd ?y_po ?y_sa ?y_kc ?y_nS ?y_nL ?y_mk ?y_aN ?y_iN ?y_lN ?y_cN ?y_kN ?y_q1Q ?y_q2Q ?y_q3Q ?y_q4Q ?y_lQ ?y_cQ ?y_kQ ?y_aX ?y_iX ?y_lX ?y_cX ?y_kX
      (case y_aC => k_is)
      (case y_pg => k_is)
      (case y_hd => k_is)
      (case y_po => k_is)
      (case y_sa => k_is)
      (case y_kc => k_is)
      (case y_nS => k_is)
      (case y_nL => k_is)
      (case y_mk => k_is)
      (case y_aN => k_is)
      (case y_iN => k_is)
      (case y_lN => k_is)
      (case y_cN => k_is)
      (case y_kN => k_is)
      (case y_q1Q => k_is)
      (case y_q2Q => k_is)
      (case y_q3Q => k_is)
      (case y_q4Q => k_is)
      (case y_lQ => k_is)
      (case y_cQ => k_is)
      (case y_kQ => k_is)
      (case y_aX => k_is)
      (case y_iX => k_is)
      (case y_lX => k_is)
      (case y_cX => k_is)
      (case y_kX => k_is)
    (case tt => (refine' CC.mk_glbT KX G ?a ?b; (case a => k_is); (case b => k_is)))
    (case m_l_pen => (refine' CC.mk_l_pen KX G ?a ?l ?c ?k; (case a => k_is); (case l => k_is); (case c => k_is); (case k => k_is)))
    (case m_l_cell_at => (refine' CC.mk_l_cell_at KX G ?a ?l ?c ?k; (case a => k_is); (case l => k_is); (case c => k_is); (case k => k_is)))
    (case m_l_draw => (refine' CC.mk_l_draw KX G ?a ?l ?c ?k; (case a => k_is); (case l => k_is); (case c => k_is); (case k => k_is)))
    (case m_l_rule => (refine' CC.mk_l_rule KX G ?a ?l ?c ?k; (case a => k_is); (case l => k_is); (case c => k_is); (case k => k_is)))
    (case m_l_ring => (refine' CC.mk_l_ring KX G ?a ?l ?c ?k; (case a => k_is); (case l => k_is); (case c => k_is); (case k => k_is)))
    (case m_l_drawn => (refine' CC.mk_l_drawn KX G ?a ?l ?c ?k; (case a => k_is); (case l => k_is); (case c => k_is); (case k => k_is)))
    (case m_is_an_integer => (refine' CC.mk_is_an_integer KX G ?a ?l ?c ?k; (case a => k_is); (case l => k_is); (case c => k_is); (case k => k_is)))
    (case m_is_width => (refine' CC.mk_is_width KX G ?a ?l ?c ?k; (case a => k_is); (case l => k_is); (case c => k_is); (case k => k_is)))
    (case m_is_column => (refine' CC.mk_is_column KX G ?a ?l ?c ?k; (case a => k_is); (case l => k_is); (case c => k_is); (case k => k_is)))
    (case m_is_rule => (refine' CC.mk_is_rule KX G ?a ?l ?c ?k; (case a => k_is); (case l => k_is); (case c => k_is); (case k => k_is)))
    (case m_every_rule => (refine' CC.mk_every_rule KX G ?a ?l ?c ?k; (case a => k_is); (case l => k_is); (case c => k_is); (case k => k_is)))
    (case m_line_of => (refine' CC.mk_line_of KX G ?a ?l ?c ?k; (case a => k_is); (case l => k_is); (case c => k_is); (case k => k_is)))
    (case m_rules_of => (refine' CC.mk_rules_of KX G ?a ?l ?c ?k; (case a => k_is); (case l => k_is); (case c => k_is); (case k => k_is)))
    (case m_check_rules => (refine' CC.mk_check_rules KX G ?a ?l ?c ?k; (case a => k_is); (case l => k_is); (case c => k_is); (case k => k_is)))
    (case m_first_ways => (refine' CC.mk_first_ways KX G ?a ?l ?c ?k; (case a => k_is); (case l => k_is); (case c => k_is); (case k => k_is)))
    (case m_reached => (refine' CC.mk_reached KX G ?a ?l ?c ?k; (case a => k_is); (case l => k_is); (case c => k_is); (case k => k_is)))
    (case m_classes_of => (refine' CC.mk_classes_of KX G ?a ?l ?c ?k; (case a => k_is); (case l => k_is); (case c => k_is); (case k => k_is)))
    (case m_classes_below => (refine' CC.mk_classes_below KX G ?a ?l ?c ?k; (case a => k_is); (case l => k_is); (case c => k_is); (case k => k_is)))
    (case m_steps_down => (refine' CC.mk_steps_down KX G ?a ?l ?c ?k; (case a => k_is); (case l => k_is); (case c => k_is); (case k => k_is)))
    (case m_links => (refine' CC.mk_links KX G ?a ?l ?c ?k; (case a => k_is); (case l => k_is); (case c => k_is); (case k => k_is)))
    (case m_class_numbers => (refine' CC.mk_class_numbers KX G ?a ?l ?c ?k; (case a => k_is); (case l => k_is); (case c => k_is); (case k => k_is)))
    (case m_column_values => (refine' CC.mk_column_values KX G ?a ?l ?c ?k; (case a => k_is); (case l => k_is); (case c => k_is); (case k => k_is)))
    (case m_model_rows => (refine' CC.mk_model_rows KX G ?a ?l ?c ?k; (case a => k_is); (case l => k_is); (case c => k_is); (case k => k_is)))
    (case m_is_row => (refine' CC.mk_is_row KX G ?a ?l ?c ?k; (case a => k_is); (case l => k_is); (case c => k_is); (case k => k_is)))
    (case m_model => (refine' CC.mk_model KX G ?a ?l ?c ?k; (case a => k_is); (case l => k_is); (case c => k_is); (case k => k_is)))
    (case m_l_text => (refine' CC.mk_l_text KX G ?a ?l ?c ?k; (case a => k_is); (case l => k_is); (case c => k_is); (case k => k_is)))
    (case m_l_mixed => (refine' CC.mk_l_mixed KX G ?a ?l ?c ?k; (case a => k_is); (case l => k_is); (case c => k_is); (case k => k_is)))
    (case m_l_sent => (refine' CC.mk_l_sent KX G ?a ?l ?c ?k; (case a => k_is); (case l => k_is); (case c => k_is); (case k => k_is)))
    (case m_following => (refine' CC.mk_following KX G ?a ?l ?c ?k; (case a => k_is); (case l => k_is); (case c => k_is); (case k => k_is)))
    (case m_l_right => (refine' CC.mk_l_right KX G ?a ?l ?c ?k; (case a => k_is); (case l => k_is); (case c => k_is); (case k => k_is)))
    (case q_0 => (refine' CC.mk_lowest_first KX G ?a ?l ?c ?k; (case a => k_is); (case l => k_is); (case c => k_is); (case k => k_is)))
    (case t_0 => (refine' CC.tab_mk ?ta ?tl ?thc ?tlc ?thv; (case ta => k_is); (case tl => k_is); (case thc => rfl); (case tlc => k_is); (case thv => rfl)))
    (case o_0 => kernel_rfl)
