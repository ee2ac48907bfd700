import PyProof.Rows.All
import Wide.All
import OpenK.AllK
import Wide.FinOn
import PyProof.ReprRoads
import HandS.ForMost
import HandS.More
import HandS.Lambda
import HandS.EndBits
import KE.KNestM
import HandS.Deep
import HandS.IsInst
import HandS.FStr
import HandS.Conv
import HandS.Strs
import HandS.SetFor
import HandS.TupSets
import HandS.StrMore
import HandS.Star
import HandS.ClsMeth
import HandS.SlotsOwn
import PyProof.FactsAll.object_2
import HandS.ExcOwn
import HandS.WordsExc
import HandS.Codes
import HandS.Zip
import KE.DataMinMax
import HandS.List
import HandS.Property
import HandS.SetBool
import HandS.TryMany
import PyProof.ReprLen
import HandS.Style
import HandS.TryOnly
import PySem.Challenge.RW_countcycles_k03_rows_of_both_and_of_pair
set_option Elab.async false
set_option linter.all false
set_option maxRecDepth 100000
set_option maxHeartbeats 4000000
/-! a layer above the hand layer: defs that are called where nothing is being shown (no repr of a container is under way) -/
namespace GD
open PySem PySem.Spec PyProof.Rows L2
abbrev Calm (A : Around) : Prop := A.guards = some []
/-- a def's promise, where nothing is being shown -/
structure FnG (P : Program) (w : World) (K : PySem.W.Frag) (mg : Str → Option Value) (base : Heap) (CX : CXT) (k : Nat) (f : Addr) (fd : FuncData) (ps : List Str) (sp : Sp) : Prop where
  few : ∀ vs H Q E, sp vs H Q E → vs.length = ps.length
  goes : ∀ (A : Around) (out : List Env) (s : Shared) (H : Hp) (args : Args) (us : List Value) (vs : List V) (Q : VK) (E : XK), Calm A → Room k A → Env0 P w K mg base A out s H → BindsTo s fd args (ps.zip us) → Vals vs us → sp vs H Q E → codeAny (model P w) A (.call (.ref f) args) (CR CX out P w H s Q E) s
section
variable {P : Program} {w : World} {K : PySem.W.Frag} {mg : Str → Option Value} {base : Heap} {CX : CXT} {k : Nat} {f : Addr} {fd : FuncData} {ps : List Str} {sp : Sp}
theorem FnG.of (F : FnOk P w K mg base CX k f fd ps sp) : FnG P w K mg base CX k f fd ps sp := ⟨F.len, fun A out s H args us vs Q E _ hr e0 hb r h => F.run A out s H args us vs Q E hr e0 hb r h⟩
/-- the rule for a def by its body -/
theorem fun_okG {x q : Str} {st : Stmt} {N : List Str} (F : Fun K x q st f fd) (S : FnScope N ps (defScope st)) (few : ∀ vs H Q E, sp vs H Q E → vs.length = ps.length)
    (body : ∀ (cd : Value) (A : Around) (out : List Env) (s : Shared) (H : Hp) (vs : List V) (Q : VK) (E : XK), Calm (A.deeper (envOfC q (defScope st) s.heap.objs.size f cd)) → Room k (A.deeper (envOfC q (defScope st) s.heap.objs.size f cd)) → sp vs H Q E →
      ∃ t, PSs (cxOf CX0 P w K mg base N q (defScope st) f cd A out s H E).nox (defBody st) t ∧ t { nx := fun _ H' => Q .non H', rt := Q } (start N vs) H) : FnG P w K mg base CX0 (k + 1) f fd ps sp := by
  obtain ⟨oc, od, kV, doc, pm, an, cd, ct, osl, rfl, look, hcd⟩ := F.ex
  constructor
  · exact few
  intro A out s H args us vs Q E calm room e0 bound rel wish
  have keep : ∀ b o, base.get? b = some o → s.heap.get? b = some o := fun b o e => (e0.bs b o e).1
  have inK := e0.mod.kin.keeps keep
  have noL := e0.mod.nolimit.keeps keep
  have size := few _ _ _ _ wish
  refine codeAny_call_function room.depth (inK _ _ look) rfl S.co S.gen rfl (PySem.W.codeRec_of inK hcd) (bound _ _ _ _ ?_)
  refine wpAny_newFunctionEnv_cells S.kind (fun y hy => ?_) fun env he s1 x => ?_
  · rcases S.par y.1 (List.of_mem_zip hy).1 with z | z
    · exact .inl z
    · exact .inr ⟨z, PySem.W.cellsFrom_some _ _ _ (.inl z)⟩
  subst he
  refine ⟨noL.keeps x.toInCall.keep, codeAny_func ?_⟩
  obtain ⟨t, d, r⟩ := body cd A out s H vs Q E calm (room.deeper _) wish
  have J := inv_start (CX := CX0) (E := E) S room.hd e0 size rel x
  refine wpAny_mono (d.nox.run [] s1 (start N vs) H _ J r) (fun fl s2 z => ?_) fun _ _ z => z
  cases fl with
  | brk => exact z.elim fun _ z => z.elim fun _ z => z.2.elim
  | cont => exact z.elim fun _ z => z.elim fun _ z => z.2.elim
  | next =>
    obtain ⟨τ, H2, J2, q⟩ := z
    exact ⟨.non, H2, J2.os, J2.bare, J2.base, J2.hok, rfl, q⟩
  | ret u =>
    obtain ⟨v, τ, H2, J2, rv, q⟩ := z
    exact ⟨v, H2, J2.os, J2.bare, J2.base, J2.hok, rv, q⟩
end
section
variable {X : Cx} {CX : CXT} {k : Nat} {f : Addr} {fd : FuncData} {ps : List Str} {sp : Sp} {E : XK} {x : Str} {p pos : Pos} {e : Expr} {es : List Expr} {t : TA}
theorem pe_callG (F : FnG X.prog X.w X.K X.mg X.base CX k f fd ps sp) (calm : Calm X.A) (room : Room k X.A) (gl : Gl X x) (at_ : X.mg x = some (.ref f)) (kp : PySem.W.keepIn X.K (.ref f) = true) (b : Binds X.K fd ps []) (hx : Passes CX X E) (ha : PA X (e :: es) t)
    (hd : (x == ("__debug__" : Str)) = false := by decide) (h1 : starEach (e :: es) X.env = (false, eval e X.env) :: starEach es X.env := by rfl) (h2 : (backTo pos (starEach es X.env)).any (·.1) = false := by rfl) : PE X (.Call (.Name x p) (e :: es) [] pos) (tCall sp [] E t) := by
  constructor
  intro pins s σ H Q I h
  refine wpAny_Call_Name_kw (ld_glob I gl at_ (PySem.W.callWith_K (h₀ := X.base) I.ok.mod.kin kp (thn (ha.run pos pins s σ H _ I h) fun us s1 z => ?_) h1 h2) hd)
  obtain ⟨vs, H1, I1, r, q⟩ := z
  refine ⟨I1.kIn, ?_⟩
  rw [List.append_nil] at q
  have hl : us.length = ps.length := by
    rw [← r.length]
    exact F.few _ _ _ _ q
  have hb := b s1 us I1.kIn (by rw [List.append_nil]; exact hl)
  rw [List.append_nil] at hb
  refine wpAny_call (codeAny_mono (F.goes X.A X.stack s1 H1 ⟨us, []⟩ us vs Q E calm room I1.env0 hb r q) fun fin s2 z => ?_)
  match fin, z with
  | .error err, z => exact hx pins σ H1 s1 err s2 I1 z
  | .ok (.ret u), z => exact I1.after z
  | .ok .next, z => exact z.elim
  | .ok .brk, z => exact z.elim
  | .ok .cont, z => exact z.elim
/-- repr(x), x data -/
theorem call_reprD (calm : Calm X.A) (hu : X.A.units + 66 < cLine) : CallR X (.builtin "repr") (fun xs H Q => ∃ v d, xs = [v] ∧ Dp X.K H v d ∧ d.showable = true ∧ d.hasDict = false ∧ d.depth ≤ 64 ∧ d.shown.length ≤ sizeLine ∧ Q (.str d.shown) H) := by
  intro pins s σ H xs us Q I r h
  obtain ⟨v, d, rfl, hd, h1, h2, h3, h4, q⟩ := h
  obtain ⟨u, rfl, rv⟩ := vals1 r
  obtain ⟨as, rd⟩ := Dp.reads I d v u hd rv
  cases hd with
  | non =>
    cases rv
    exact PySem.P.repr_of_none ⟨.str _, H, I.tok _, ⟨_, rfl⟩, q⟩
  | bl b =>
    cases rv
    exact PySem.P.repr_of_bool ⟨.str _, H, I.tok _, ⟨_, rfl⟩, q⟩
  | int i =>
    obtain ⟨t, rfl⟩ := rv
    exact PySem.P.repr_of_int (by simpa [PyData.showable] using h1) ⟨.str _, H, I.tok _, ⟨_, rfl⟩, q⟩
  | str x =>
    obtain ⟨t, rfl⟩ := rv
    exact PySem.P.repr_of_str ⟨.str _, H, I.tok _, ⟨_, rfl⟩, q⟩ h4
  | lst hs ha =>
    cases rv
    exact repr_of_reads' rd h1 (PyData.noDict_hsm h2) calm (by omega) (fun _ _ e => e) (fun h' u tk hk => ⟨.str _, H, I.kept hk, ⟨_, rfl⟩, q⟩) h4
  | tup hs ha =>
    cases rv
    exact repr_of_reads' rd h1 (PyData.noDict_hsm h2) calm (by omega) (fun _ _ e => e) (fun h' u tk hk => ⟨.str _, H, I.kept hk, ⟨_, rfl⟩, q⟩) h4
end
/-- the law's call, at the heap behind the top -/
theorem law_callG {P : Program} {w : World} {K : PySem.W.Frag} {mg mb : Str → Option Value} {CX : CXT} {k : Nat} {fa a : Addr} {fd : FuncData} {x : Str} {sp : Sp} {s : Shared} {vs : List Value} {ns : List Int}
    (inK : K.In s.heap) (nsM : s.heap.Ns mainGlobals mg) (nsB : s.heap.Ns builtinsNs mb) (boot : ∀ x : Str, x ≠ "__name__" → mb x = bootBuiltins x) (noL : s.heap.NoLimit) (gens : s.gens = #[])
    (ha : s.heap.get? a = some { cls := .type "list", data := .seq vs.toArray }) (hin : IntsAre vs ns) (few : ns.length ≤ sizeLine) (room : Room k callerA)
    (F : ∀ base : Heap, K.In base → base.Ns mainGlobals mg → FnG P w K mg base CX k fa fd [x] sp) (bind : ∀ (s : Shared) (u : Value), BindsTo s fd ⟨[u], []⟩ [(x, u)])
    (wish : ∀ H : Hp, Only H → SqL K H a (ns.map V.int) → sp [.ref a] H (fun v _ => v = .bl true) fun _ _ _ => False) (noX : ∀ H e s', CX [] H s (fun _ _ _ => False) e s' → False) :
    codeAny (model P w) callerA (.call (.ref fa) ⟨[.ref a], []⟩) (fun r s' => r = .ok (.ret (.bool true)) ∧ OldK s.heap s'.heap ∧ s'.os = s.os ∧ AllBare s'.gens) s := by
  have go : ∀ H : Hp, Only H → SqL K H a (ns.map V.int) → HOk P w H s.heap → (∀ b, b ≠ a → H b = none) → (K.lookup a = none ∨ H a = none) →
      codeAny (model P w) callerA (.call (.ref fa) ⟨[.ref a], []⟩) (fun r s' => r = .ok (.ret (.bool true)) ∧ OldK s.heap s'.heap ∧ s'.os = s.os ∧ AllBare s'.gens) s := by
    intro H only sq hok off way
    have up : ∀ {b : Addr} {o : Obj}, s.heap.get? b = some o → H b = none → (hidT s.heap H).get? b = some o := fun e n => hidT_get e n
    have notA : ∀ {b : Addr} {o : Obj} {es : Array DictEntry} {n : Nat}, s.heap.get? b = some o → o.data = .dict es n → H b = none := fun {b o es n} e d => by
      by_cases z : b = a
      · rw [z, ha] at e
        cases e
        cases (show Data.seq vs.toArray _ = Data.dict es n from d)
      · exact off b z
    have lift : ∀ {b : Addr} {m : Str → Option Value}, s.heap.Ns b m → (hidT s.heap H).Ns b m := fun ⟨o, es, n, e, d, r⟩ => ⟨o, es, n, up e (notA e d), d, r⟩
    have inB : K.In (hidT s.heap H) := fun b o e => up (inK b o e) (by
      by_cases z : b = a
      · rcases way with z2 | z2
        · rw [z, z2] at e
          cases e
        · rw [z]
          exact z2
      · exact off b z)
    obtain ⟨mc, l1, l2⟩ := noL
    have e0 : Env0 P w K mg (hidT s.heap H) callerA [] s H := ⟨rfl, ⟨inB, lift nsM, ⟨mb, lift nsB, boot⟩, ⟨mc, lift l1, l2⟩⟩, fun _ _ e => of_hidT e, Nat.le_of_eq (hidT_size _ _), trivial, fun b z => (nomatch (show b ∈ ([] : List Addr) from z)), hok, .of_eq gens⟩
    refine codeAny_mono ((F _ inB (lift nsM)).goes callerA [] s H ⟨[.ref a], []⟩ [.ref a] [.ref a] _ _ rfl room e0 (bind s (.ref a)) (.cons rfl .nil) (wish H only sq)) fun fin s2 z => ?_
    match fin, z with
    | .error err, z => exact (noX H err s2 z).elim
    | .ok .next, z => exact z.elim
    | .ok .brk, z => exact z.elim
    | .ok .cont, z => exact z.elim
    | .ok (.ret u), ⟨v, H2, os, bare, un, hok2, rel, ev⟩ =>
      cases (show v = V.bl true from ev)
      cases (show u = Value.bool true from rel)
      refine ⟨rfl, OldK.of_keep fun b o e => ?_, os, bare⟩
      rcases only b with z | ⟨ob, xs, z⟩
      · exact un.keep b o e z (fun y => nomatch (show b ∈ ([] : List Addr) from y)) (fun y => nomatch y)
      · obtain ⟨e1, _⟩ := hok b _ z
        obtain ⟨e2, _⟩ := hok2 b _ (un.frzs b ob _ z)
        rw [e1] at e
        cases e
        exact e2
  have rel := vals_ints hin
  have lenV := hin.length
  cases look : K.lookup a with
  | some o =>
    have e := inK a o look
    rw [ha] at e
    cases e
    refine go (fun _ => none) (fun _ => .inl rfl) (.inr ⟨_, vs.toArray, _, look, rfl, rfl, rfl, ?_, ?_⟩) (fun b u z => nomatch (show (none : Option HO) = some u from z)) (fun _ _ => rfl) (.inr rfl)
    · rw [List.size_toArray, lenV]
      exact few
    · simpa using rel
  | none =>
    have one : (fun b => if b = a then some (HO.frz { cls := .type "list", data := .seq vs.toArray } (.lst (ns.map V.int))) else none) a = some (HO.frz { cls := .type "list", data := .seq vs.toArray } (.lst (ns.map V.int))) := if_pos rfl
    refine go (fun b => if b = a then some (.frz { cls := .type "list", data := .seq vs.toArray } (.lst (ns.map V.int))) else none) (fun b => ?_) (.inl (.inr ⟨_, one⟩)) (fun b u z => ?_) (fun b hb => if_neg hb) (.inl look)
    · by_cases hb : b = a
      · rw [hb]
        exact .inr ⟨_, _, one⟩
      · exact .inl (if_neg hb)
    · by_cases hb : b = a
      · subst hb
        have z2 := one.symm.trans z
        cases z2
        exact ⟨ha, by rw [List.length_map]; exact few, vs, _, rel, ha⟩
      · have z2 := (if_neg hb).symm.trans z
        cases z2
/-- the goal that k_head leaves, from the law's promise -/
theorem walk_ofG {l : PySem.W.OpenLaw} {n k : Nat} {q : Program} {loose : List Str} {XP : (Str → Option Value) → Heap → Prop} {YP : World → Heap → Prop} {d : DefRec} {K : Params → PySem.W.Frag} {CX : World → CXT} {sp : World → Sp} {x : Str}
    (most : l.most = some n) (few : n ≤ sizeLine) (plain : d.params.defaults = []) (room : Room k callerA) (hY : ∀ (w : World) (h : Heap), YP w h → (K w.params).In h)
    (F : ∀ (w : World) (mg : Str → Option Value) (fa : Addr) (h : Heap), (K w.params).In h → h.Ns mainGlobals mg → mg d.name = some (.ref fa) → ∃ fd : FuncData, (∀ (s : Shared) (u : Value), BindsTo s fd ⟨[u], []⟩ [(x, u)]) ∧ ∀ base : Heap, (K w.params).In base → base.Ns mainGlobals mg → FnG l.prog w (K w.params) mg base (CX w) k fa fd [x] (sp w))
    (wish : ∀ (w : World) (H : Hp) (a : Addr) (ns : List Int), ns.length ≤ n → Only H → SqL (K w.params) H a (ns.map V.int) → sp w [.ref a] H (fun v _ => v = .bl true) fun _ _ _ => False)
    (noX : ∀ (w : World) (H : Hp) (s : Shared) (e : Value) (s' : Shared), CX w [] H s (fun _ _ _ => False) e s' → False) : PySem.W.WalkO q loose XP YP l.row.toRowW d [] (fun f vs => PySem.call f vs) := by
  refine Att.attach_call most plain ?_
  intro w s₀ s mg mb fa o pm cd doc a vs ns G Y _ _ _ hmg hobj hin len gens
  have inK := hY w _ Y
  obtain ⟨fd, bind, ok⟩ := F w mg fa _ inK G.T.g hmg
  exact law_callG inK G.T.g G.T.b G.T.builtins G.T.nolimit gens hobj hin (Nat.le_trans len few) room ok bind (fun H h1 h2 => wish w H a ns len h1 h2) fun H e s' => noX w H s e s'
end GD
/-! the end of a law whose defs make lambdas, where nothing is being shown -/
namespace GD
open PySem PySem.Spec PyProof.Rows L2
abbrev tab0 : Obj := { cls := .none, data := .fields #[] }
theorem law_callGT {P : Program} {w : World} {K : PySem.W.Frag} {mg mb : Str → Option Value} {CX : CXT} {k : Nat} {fa a : Addr} {cs : List (Addr × Addr)} {fd : FuncData} {x : Str} {sp : Sp} {s : Shared} {vs : List Value} {ns : List Int}
    (inK : K.In s.heap) (nsM : s.heap.Ns mainGlobals mg) (nsB : s.heap.Ns builtinsNs mb) (boot : ∀ x : Str, x ≠ "__name__" → mb x = bootBuiltins x) (noL : s.heap.NoLimit) (gens : s.gens = #[])
    (tabs : ∀ p ∈ cs, PySem.W.CodeHd s.heap p.1 p.2 ∧ s.heap.get? p.2 = some tab0) (offK : ∀ p ∈ cs, K.lookup p.2 = none)
    (blt : ∃ (bm : Addr) (ob : Obj), mg "__builtins__" = some (.ref bm) ∧ bm ≠ builtinsNs ∧ s.heap.get? bm = some ob ∧ ob.cls = .type "module" ∧ ob.dict = some builtinsNs ∧ ob.data = .plain)
    (ha : s.heap.get? a = some { cls := .type "list", data := .seq vs.toArray }) (hin : IntsAre vs ns) (few : ns.length ≤ sizeLine) (room : Room k callerA)
    (F : ∀ base : Heap, K.In base → base.Ns mainGlobals mg → (∀ p ∈ cs, LamX.TabB base mg p.1 p.2) → FnG P w K mg base CX k fa fd [x] sp) (bind : ∀ (s : Shared) (u : Value), BindsTo s fd ⟨[u], []⟩ [(x, u)])
    (wish : ∀ H : Hp, (∀ p ∈ cs, H p.2 = some (.tbl #[])) → SqL K H a (ns.map V.int) → sp [.ref a] H (fun v _ => v = .bl true) fun _ _ _ => False) (noX : ∀ H e s', CX [] H s (fun _ _ _ => False) e s' → False) :
    codeAny (model P w) callerA (.call (.ref fa) ⟨[.ref a], []⟩) (fun r s' => r = .ok (.ret (.bool true)) ∧ OldK s.heap s'.heap ∧ s'.os = s.os ∧ AllBare s'.gens) s := by
  let tb : Addr → Prop := fun b => ∃ p ∈ cs, p.2 = b
  have tbd : ∀ b, Decidable (tb b) := fun b => Classical.propDecidable _
  have tbo : ∀ {b : Addr}, tb b → s.heap.get? b = some tab0 := fun {b} ⟨p, hp, e⟩ => by
    rw [← e]
    exact (tabs p hp).2
  have atb : ¬ tb a := fun z => by
    have e := tbo z
    rw [ha] at e
    have e2 := congrArg Obj.data (Option.some.inj e)
    cases (show Data.seq vs.toArray _ = Data.fields #[] from e2)
  have go : ∀ H : Hp, (∀ b, tb b → H b = some (.tbl #[])) → (∀ b, b ≠ a → ¬ tb b → H b = none) → (H a = none ∨ ∃ ob xs, H a = some (.frz ob (.lst xs))) → SqL K H a (ns.map V.int) → HOk P w H s.heap → (K.lookup a = none ∨ H a = none) →
      codeAny (model P w) callerA (.call (.ref fa) ⟨[.ref a], []⟩) (fun r s' => r = .ok (.ret (.bool true)) ∧ OldK s.heap s'.heap ∧ s'.os = s.os ∧ AllBare s'.gens) s := by
    intro H tbH off onA sq hok way
    have up : ∀ {b : Addr} {o : Obj}, s.heap.get? b = some o → H b = none → (hidT s.heap H).get? b = some o := fun e n => hidT_get e n
    have plain : ∀ {b : Addr} {o : Obj}, s.heap.get? b = some o → (∀ us n, o.data ≠ .seq us n) → o.data ≠ .fields #[] → H b = none := fun {b o} e n1 n2 => by
      by_cases za : b = a
      · rw [za, ha] at e
        cases e
        exact absurd rfl (n1 _ _)
      · refine off b za fun z => ?_
        rw [tbo z] at e
        cases e
        exact n2 rfl
    have lift : ∀ {b : Addr} {m : Str → Option Value}, s.heap.Ns b m → (hidT s.heap H).Ns b m := fun ⟨o, es, n, e, d, r⟩ => ⟨o, es, n, up e (plain e (fun us n z => by rw [d] at z; cases z) (fun z => by rw [d] at z; cases z)), d, r⟩
    have inB : K.In (hidT s.heap H) := fun b o e => up (inK b o e) (by
      by_cases za : b = a
      · rcases way with z2 | z2
        · rw [za, z2] at e
          cases e
        · rw [za]
          exact z2
      · refine off b za fun ⟨p, hp, z⟩ => ?_
        rw [← z, offK p hp] at e
        cases e)
    have TB : ∀ p ∈ cs, LamX.TabB (hidT s.heap H) mg p.1 p.2 := fun p hp => by
      obtain ⟨cd, tp⟩ := tabs p hp
      refine ⟨?_, ?_, fun z => ?_⟩
      · obtain ⟨o, us, f1, f2, f3, f4, f5, f6, f7, e1, g1, g2, g3, rest⟩ := cd
        refine ⟨o, us, f1, f2, f3, f4, f5, f6, f7, up e1 (plain e1 (fun us n z => by rw [g2] at z; cases z) (fun z => ?_)), g1, g2, g3, rest⟩
        rw [g2] at z
        cases z
        simp at g3
      · obtain ⟨bm, ob, b1, b2, b3, b4, b5, b6⟩ := blt
        refine ⟨bm, ob, b1, b2, fun z => ?_, fun z => ?_, up b3 (plain b3 (fun us n z => by rw [b6] at z; cases z) (fun z => by rw [b6] at z; cases z)), b4, b5, b6⟩
        · obtain ⟨o, es, ep, e, d, _⟩ := nsM
          rw [z, e] at b3
          cases b3
          rw [d] at b6
          cases b6
        · rw [z, tp] at b3
          cases b3
          cases b6
      · obtain ⟨o, es, ep, e, d, _⟩ := nsM
        rw [z, tp] at e
        cases e
        cases d
    obtain ⟨mc, l1, l2⟩ := noL
    have e0 : Env0 P w K mg (hidT s.heap H) callerA [] s H := ⟨rfl, ⟨inB, lift nsM, ⟨mb, lift nsB, boot⟩, ⟨mc, lift l1, l2⟩⟩, fun _ _ e => of_hidT e, Nat.le_of_eq (hidT_size _ _), trivial, fun b z => (nomatch (show b ∈ ([] : List Addr) from z)), hok, .of_eq gens⟩
    refine codeAny_mono ((F _ inB (lift nsM) TB).goes callerA [] s H ⟨[.ref a], []⟩ [.ref a] [.ref a] _ _ rfl room e0 (bind s (.ref a)) (.cons rfl .nil) (wish H (fun p hp => tbH _ ⟨p, hp, rfl⟩) sq)) fun fin s2 z => ?_
    match fin, z with
    | .error err, z => exact (noX H err s2 z).elim
    | .ok .next, z => exact z.elim
    | .ok .brk, z => exact z.elim
    | .ok .cont, z => exact z.elim
    | .ok (.ret u), ⟨v, H2, os, bare, un, hok2, rel, ev⟩ =>
      cases (show v = V.bl true from ev)
      cases (show u = Value.bool true from rel)
      have kept : ∀ b o, ¬ tb b → s.heap.get? b = some o → s2.heap.get? b = some o := fun b o nb e => by
        have free : H b = none → s2.heap.get? b = some o := fun n => un.keep b o e n (fun y => nomatch (show b ∈ ([] : List Addr) from y)) (fun y => nomatch y)
        by_cases za : b = a
        · rcases onA with z | ⟨ob, xs, z⟩
          · exact free (by rw [za]; exact z)
          · obtain ⟨e1, _⟩ := hok a _ z
            obtain ⟨e2, _⟩ := hok2 a _ (un.frzs a ob _ z)
            rw [za, e1] at e
            cases e
            rw [za]
            exact e2
        · exact free (off b za nb)
      have grew : ∀ b, tb b → ∃ more : Array Value, s2.heap.get? b = some { cls := .none, data := .fields more } := fun b hb => by
        obtain ⟨more, z⟩ := un.tbls b #[] (tbH b hb)
        exact ⟨_, hok2 b _ z⟩
      refine ⟨rfl, ⟨fun b o e => ?_, fun b o e => ?_⟩, os, bare⟩
      · by_cases hb : tb b
        · obtain ⟨more, hm⟩ := grew b hb
          have t0 := tbo hb
          rw [t0] at e
          cases e
          obtain ⟨p, hp, ep⟩ := hb
          rw [← ep] at hm t0 ⊢
          exact .inr (.inl ⟨((tabs p hp).1.tab t0).isCodeTable, rfl, #[], more, rfl, by rw [Array.empty_append]; exact hm⟩)
        · exact .inl (kept b o hb e)
      · by_cases hb : tb b
        · obtain ⟨more, hm⟩ := grew b hb
          exact ⟨_, hm⟩
        · exact ⟨o, kept b o hb e⟩
  have rel := vals_ints hin
  have lenV := hin.length
  cases look : K.lookup a with
  | some o =>
    have e := inK a o look
    rw [ha] at e
    cases e
    refine go (fun b => @ite _ (tb b) (tbd b) (some (.tbl #[])) none) (fun b hb => if_pos hb) (fun b _ hb => if_neg hb) (.inl (if_neg atb)) (.inr ⟨_, vs.toArray, _, look, rfl, rfl, rfl, ?_, ?_⟩) (fun b u z => ?_) (.inr (if_neg atb))
    · rw [List.size_toArray, lenV]
      exact few
    · simpa using rel
    · by_cases hb : tb b
      · have z2 := (if_pos hb).symm.trans z
        cases z2
        exact tbo hb
      · have z2 := (if_neg hb).symm.trans z
        cases z2
  | none =>
    have one : (fun b => if b = a then some (HO.frz { cls := .type "list", data := .seq vs.toArray } (.lst (ns.map V.int))) else @ite _ (tb b) (tbd b) (some (.tbl #[])) none) a = some (HO.frz { cls := .type "list", data := .seq vs.toArray } (.lst (ns.map V.int))) := if_pos rfl
    refine go (fun b => if b = a then some (.frz { cls := .type "list", data := .seq vs.toArray } (.lst (ns.map V.int))) else @ite _ (tb b) (tbd b) (some (.tbl #[])) none) (fun b hb => ?_) (fun b na hb => ?_) (.inr ⟨_, _, one⟩) (.inl (.inr ⟨_, one⟩)) (fun b u z => ?_) (.inl look)
    · exact (if_neg fun z => atb (by rw [← z]; exact hb)).trans (if_pos hb)
    · exact (if_neg na).trans (if_neg hb)
    · by_cases za : b = a
      · subst za
        have z2 := one.symm.trans z
        cases z2
        exact ⟨ha, by rw [List.length_map]; exact few, vs, _, rel, ha⟩
      · by_cases hb : tb b
        · have z2 := ((if_neg za).trans (if_pos hb)).symm.trans z
          cases z2
          exact tbo hb
        · have z2 := ((if_neg za).trans (if_neg hb)).symm.trans z
          cases z2
/-- the goal that k_head leaves, from the law's promise; cs: the defs that make lambdas, by their code objects and tables -/
theorem walk_ofGT {l : PySem.W.OpenLaw} {n k : Nat} {q : Program} {loose : List Str} {XP : (Str → Option Value) → Heap → Prop} {YP : World → Heap → Prop} {d : DefRec} {K : Params → PySem.W.Frag} {CX : World → CXT} {x : Str} {xs : List Str}
    (most : l.most = some n) (few : n ≤ sizeLine) (plain : d.params.defaults = []) (room : Room k callerA) (hY : ∀ (w : World) (h : Heap), YP w h → (K w.params).In h)
    (found : ∀ y ∈ xs, ∃ r, (recsOf q).find? (fun e => e.name == y) = some r)
    (F : ∀ (w : World) (mg : Str → Option Value) (fa : Addr) (h : Heap), (K w.params).In h → h.Ns mainGlobals mg → mg d.name = some (.ref fa) → ∃ (fd : FuncData) (cs : List (Addr × Addr)) (sp : Sp), (∀ p ∈ cs, ∃ y ∈ xs, PySem.W.tabIn (K w.params) y = some p) ∧ (∀ p ∈ cs, (K w.params).lookup p.2 = none) ∧
      (∀ (s : Shared) (u : Value), BindsTo s fd ⟨[u], []⟩ [(x, u)]) ∧ (∀ (H : Hp) (a : Addr) (ns : List Int), ns.length ≤ n → (∀ p ∈ cs, H p.2 = some (.tbl #[])) → SqL (K w.params) H a (ns.map V.int) → sp [.ref a] H (fun v _ => v = .bl true) fun _ _ _ => False) ∧
      ∀ base : Heap, (K w.params).In base → base.Ns mainGlobals mg → (∀ p ∈ cs, LamX.TabB base mg p.1 p.2) → FnG l.prog w (K w.params) mg base (CX w) k fa fd [x] sp)
    (noX : ∀ (w : World) (H : Hp) (s : Shared) (e : Value) (s' : Shared), CX w [] H s (fun _ _ _ => False) e s' → False) : PySem.W.WalkO q loose XP YP l.row.toRowW d [] (fun f vs => PySem.call f vs) := by
  refine Att.attach_callB most plain ?_
  intro w s₀ s mg mb fa o pm cd doc a vs ns G Y _ _ _ hmg hobj hin len _ gens
  have inK := hY w _ Y
  obtain ⟨fd, cs, sp, tbs, offK, bind, wish, ok⟩ := F w mg fa _ inK G.T.g hmg
  refine law_callGT inK G.T.g G.T.b G.T.builtins G.T.nolimit gens (fun p hp => ?_) offK G.T.bmain hobj hin (Nat.le_trans len few) room ok bind (fun H h1 h2 => wish H a ns len h1 h2) fun H e s' => noX w H s e s'
  obtain ⟨y, hy, e⟩ := tbs p hp
  obtain ⟨r, hr⟩ := found y hy
  exact PySem.W.tab_of G.T inK hr (by rw [e])
end GD
namespace CC
open PySem L2
def tp (i : Nat) : Stmt := PySem.Challenge.pw_countcycles_k03_rows_of_both_and_of_pair.main.body.getD i (.Pass ⟨0, 0, 0, 0⟩)
abbrev sCell : Stmt := tp 29
/-- a source of draws: three numbers -/
def IsSrc (o : HO) : Prop := ∃ a b c : Int, o = .lst [.int a, .int b, .int c] ∧ 0 ≤ b ∧ b < 2147483648
def spCell (K : PySem.W.Frag) : Sp := fun vs H Q _ => ∃ (a : Addr) (ns : List Int) (k : Nat), vs = [.ref a, .int (k : Int)] ∧ SqL K H a (ns.map V.int) ∧ ∀ z : Int, Q (.int z) H
def spSource : Sp := fun vs H Q _ => ∃ z : Int, vs = [.int z] ∧ ∀ p o, H p = none → IsSrc o → Q (.ref p) (upd H p o)
def spDraw : Sp := fun vs H Q _ => ∃ (s : Addr) (m : Int) (o : HO), vs = [.ref s, .int m] ∧ H s = some o ∧ IsSrc o ∧ 0 < m ∧ m < 1000000 ∧ ∀ (r : Int) (o' : HO), 0 ≤ r → r < m → IsSrc o' → Q (.int r) (upd H s o')
section
variable {P : Program} {w : World} {K : PySem.W.Frag} {mg : Str → Option Value} {base : Heap}
theorem scCell : FnScope ["_law_script", "_law_index"] ["_law_script", "_law_index"] (defScope sCell) := ⟨rfl, rfl, rfl, by decide +kernel, rfl, by decide +kernel, by decide +kernel⟩
theorem ok_cell {f : Addr} {fd : FuncData} {k : Nat} (F : Fun K "_law_cell" "_law_cell" sCell f fd) (ml : mg "len" = none) : FnOk P w K mg base CX0 (k + 1) f fd ["_law_script", "_law_index"] (spCell K) := by
  refine F.ok scCell (fun vs H Q E h => ?_) (fun cdv A outer s H vs Q E hr h => ?_)
  · obtain ⟨a, ns, k, rfl, _⟩ := h
    rfl
  · obtain ⟨a, ns, k, rfl, hS, q⟩ := h
    refine ⟨_, pss_cons (ps_if (pt_cmpR op_lt (pv 1) (pe_callB call_len_seq (by rfl) ml PySem.boot_len (pa_cons (pv 0) pa_nil)) (nomark _)) (pss_one (ps_ret (pe_ix ix_list (pv 0) (pv 1) (fun _ _ => rfl)))) pss_nil) (pss_one (ps_ret pe_int)), ?_⟩
    refine ⟨_, rfl, _, rfl, a, _, rfl, .inl hS, _, _, rfl, rfl, _, rfl, ite2 (fun e => ?_) (fun e => ?_)⟩
    · have e1 : (k : Int) < ((ns.map V.int).length : Int) := of_decide_eq_true e
      have e2 : k < ns.length := by
        rw [List.length_map] at e1
        omega
      have e3 : (ns.map V.int)[k]? = some (.int ns[k]) := by
        rw [List.getElem?_map, List.getElem?_eq_getElem e2]
        rfl
      exact ⟨_, rfl, _, rfl, a, _, _, _, rfl, rfl, hS, atI_nat e3, q _⟩
    · exact q 0
end
end CC
namespace CC
open PySem L2
/-! ### data in the heap -/
section
variable {K : PySem.W.Frag} {H H' : Hp}
theorem same_rd {a : Addr} {u : HO} (e : Same H H') (h : Rd H a u) : Rd H' a u := by
  rcases h with h | ⟨o, h⟩
  · exact .inl (e a _ h)
  · exact .inr ⟨o, e a _ h⟩
theorem same_l {a : Addr} {xs : List V} (e : Same H H') (h : SqL K H a xs) : SqL K H' a xs := by
  rcases h with h | h
  · exact .inl (same_rd e h)
  · exact .inr h
theorem same_t {a : Addr} {xs : List V} (e : Same H H') (h : SqT K H a xs) : SqT K H' a xs := by
  rcases h with h | h
  · exact .inl (same_rd e h)
  · exact .inr h
mutual
theorem dp_same (e : Same H H') : ∀ (d : PyData) (v : V), Dp K H v d → Dp K H' v d
  | .none, _, h => by cases h; exact .non
  | .bool b, _, h => by cases h; exact .bl b
  | .int i, _, h => by cases h; exact .int i
  | .str x, _, h => by cases h; exact .str x
  | .list ds, _, h => by
    cases h with
    | lst hs ha => exact .lst (same_l e hs) (dps_same e ds _ ha)
  | .tuple ds, _, h => by
    cases h with
    | tup hs ha => exact .tup (same_t e hs) (dps_same e ds _ ha)
  | .dict _, _, h => by cases h
theorem dps_same (e : Same H H') : ∀ (ds : List PyData) (vs : List V), DpAll K H vs ds → DpAll K H' vs ds
  | [], _, h => by cases h; exact .nil
  | d :: ds, _, h => by
    cases h with
    | cons h1 h2 => exact .cons (dp_same e d _ h1) (dps_same e ds _ h2)
end
theorem dps_len : ∀ {ds : List PyData} {vs : List V}, DpAll K H vs ds → vs.length = ds.length
  | [], _, h => by cases h; rfl
  | d :: ds, _, h => by
    cases h with
    | cons h1 h2 => exact congrArg (· + 1) (dps_len h2)
theorem dps_at : ∀ {ds : List PyData} {vs : List V} {i : Nat} {v : V}, DpAll K H vs ds → vs[i]? = some v → ∃ d, ds[i]? = some d ∧ Dp K H v d
  | [], _, i, v, h, e => by
    cases h
    simp at e
  | d :: ds, _, 0, v, h, e => by
    cases h with
    | cons h1 h2 => exact ⟨d, rfl, by simp at e; subst e; exact h1⟩
  | d :: ds, _, i + 1, v, h, e => by
    cases h with
    | cons h1 h2 => exact dps_at (i := i) h2 (by simpa using e)
theorem dps_to : ∀ {ds : List PyData} {vs : List V} {i : Nat} {d : PyData}, DpAll K H vs ds → ds[i]? = some d → ∃ v, vs[i]? = some v ∧ Dp K H v d
  | [], _, i, v, h, e => by
    cases h
    simp at e
  | d :: ds, _, 0, v, h, e => by
    cases h with
    | cons h1 h2 => exact ⟨_, rfl, by simp at e; subst e; exact h1⟩
  | d :: ds, _, i + 1, v, h, e => by
    cases h with
    | cons h1 h2 => exact dps_to (i := i) h2 (by simpa using e)
theorem dps_app : ∀ {ds es : List PyData} {vs us : List V}, DpAll K H vs ds → DpAll K H us es → DpAll K H (vs ++ us) (ds ++ es)
  | [], _, _, _, h, g => by
    cases h
    exact g
  | d :: ds, _, _, _, h, g => by
    cases h with
    | cons h1 h2 => exact .cons h1 (dps_app h2 g)
theorem dps_take : ∀ {ds : List PyData} {vs : List V} (n : Nat), DpAll K H vs ds → DpAll K H (vs.take n) (ds.take n)
  | _, _, 0, _ => .nil
  | [], _, n + 1, h => by
    cases h
    exact .nil
  | d :: ds, _, n + 1, h => by
    cases h with
    | cons h1 h2 => exact .cons h1 (dps_take n h2)
theorem dps_drop : ∀ {ds : List PyData} {vs : List V} (n : Nat), DpAll K H vs ds → DpAll K H (vs.drop n) (ds.drop n)
  | _, _, 0, h => h
  | [], _, n + 1, h => by
    cases h
    exact .nil
  | d :: ds, _, n + 1, h => by
    cases h with
    | cons h1 h2 => exact dps_drop n h2
theorem dps_one {v : V} {d : PyData} (h : Dp K H v d) : DpAll K H [v] [d] := .cons h .nil
theorem dps_ints : ∀ ns : List Int, DpAll K H (ns.map V.int) (ns.map PyData.int)
  | [] => .nil
  | n :: ns => .cons (.int n) (dps_ints ns)
theorem dps_bls : ∀ ns : List Bool, DpAll K H (ns.map V.bl) (ns.map PyData.bool)
  | [] => .nil
  | n :: ns => .cons (.bl n) (dps_bls ns)
theorem dp_l {v : V} {ds : List PyData} (h : Dp K H v (.list ds)) : ∃ p vs, v = .ref p ∧ SqL K H p vs ∧ DpAll K H vs ds := by
  cases h with
  | lst hs ha => exact ⟨_, _, rfl, hs, ha⟩
theorem dp_t {v : V} {ds : List PyData} (h : Dp K H v (.tuple ds)) : ∃ p vs, v = .ref p ∧ SqT K H p vs ∧ DpAll K H vs ds := by
  cases h with
  | tup hs ha => exact ⟨_, _, rfl, hs, ha⟩
theorem dp_int {v : V} {i : Int} (h : Dp K H v (.int i)) : v = .int i := by
  cases h
  rfl
theorem dp_str {v : V} {i : Str} (h : Dp K H v (.str i)) : v = .str i := by
  cases h
  rfl
theorem same_new {p : Addr} {o : HO} (h : H p = none) : Same H (upd H p o) := fun b x e => by
  rw [upd_ne (ne_of_none e h)]
  exact e
theorem same_mut {p : Addr} {o : HO} (e : Same H H') (h : H p = none) : Same H (upd H' p o) := fun b x q => by
  rw [upd_ne (ne_of_none q h)]
  exact e b x q
/-- the heap without one object -/
def wo (H : Hp) (s : Addr) : Hp := fun b => if b = s then none else H b
theorem wo_at (s : Addr) : wo H s s = none := by
  unfold wo
  rw [if_pos rfl]
theorem wo_ne {s b : Addr} (h : b ≠ s) : wo H s b = H b := by
  unfold wo
  rw [if_neg h]
theorem wo_le (s : Addr) : Same (wo H s) H := fun b o e => by
  by_cases h : b = s
  · subst h
    rw [wo_at] at e
    cases e
  · rw [wo_ne h] at e
    exact e
theorem wo_upd (s : Addr) (o : HO) : wo (upd H s o) s = wo H s := by
  funext b
  by_cases h : b = s
  · subst h
    rw [wo_at, wo_at]
  · rw [wo_ne h, wo_ne h, upd_ne h]
theorem wo_upd_ne {s p : Addr} (o : HO) (h : p ≠ s) : wo (upd H p o) s = upd (wo H s) p o := by
  funext b
  by_cases hb : b = s
  · subst hb
    rw [wo_at, upd_ne (Ne.symm h), wo_at]
  · rw [wo_ne hb]
    by_cases hp : b = p
    · subst hp
      rw [upd_same, upd_same]
    · rw [upd_ne hp, upd_ne hp, wo_ne hb]
theorem wo_same {s : Addr} (e : Same H H') : Same (wo H s) (wo H' s) := fun b o q => by
  by_cases h : b = s
  · subst h
    rw [wo_at] at q
    cases q
  · rw [wo_ne h] at q ⊢
    exact e b o q
theorem wo_ext {s : Addr} {o : HO} (e : Same (wo H s) (wo H' s)) (h' : H' s = some o) (h : H s = some o) : Same H H' := fun b u q => by
  by_cases hb : b = s
  · subst hb
    rw [h] at q
    rw [h', q]
  · have := e b u (by rw [wo_ne hb]; exact q)
    rw [wo_ne hb] at this
    exact this
end
/-! ### rules and pairs as data -/
structure R where
  k : Bool
  a : Nat
  b : Nat
  deriving DecidableEq
def kd (k : Bool) : Str := if k then "settles" else "within"
def R.d (r : R) : PyData := .tuple [.str (kd r.k), .int (r.a : Int), .int (r.b : Int)]
def prd (p : Nat × Nat) : PyData := .tuple [.int (p.1 : Int), .int (p.2 : Int)]
theorem kd_inj {j k : Bool} (h : kd j = kd k) : j = k := by
  revert h
  cases j <;> cases k <;> decide +kernel
theorem kd_ok (k : Bool) : PyData.strOk (kd k) = true := by
  cases k <;> decide +kernel
theorem rd_shaped (r : R) : SeqAt.shaped r.d = true := by
  show (r.d.canLay0 && decide (r.d.depth ≤ 64)) = true
  simp [R.d, PyData.canLay0, PyData.canLayAll0, PyData.depth, PyData.depthAll, kd_ok]
theorem prd_shaped (r : Nat × Nat) : SeqAt.shaped (prd r) = true := by
  show ((prd r).canLay0 && decide ((prd r).depth ≤ 64)) = true
  simp [prd, PyData.canLay0, PyData.canLayAll0, PyData.depth, PyData.depthAll]
theorem lay_all : ∀ {ds : List PyData}, (∀ d ∈ ds, SeqAt.shaped d = true) → PyData.canLayAll0 ds = true ∧ PyData.depthAll ds ≤ 64
  | [], _ => by simp [PyData.canLayAll0, PyData.depthAll]
  | d :: ds, h => by
    have h1 := h d (List.mem_cons_self)
    have h2 := lay_all (ds := ds) fun e he => h e (List.mem_cons_of_mem _ he)
    have h1 : (d.canLay0 && decide (d.depth ≤ 64)) = true := h1
    rw [Bool.and_eq_true, decide_eq_true_eq] at h1
    simp only [PyData.canLayAll0, PyData.depthAll, Bool.and_eq_true]
    refine ⟨⟨h1.1, h2.1⟩, ?_⟩
    omega
theorem rds_shaped (rs : List R) : SeqAt.shaped (.list (rs.map R.d)) = true := by
  have h : PyData.canLayAll0 (rs.map R.d) = true ∧ PyData.depthAll (rs.map R.d) ≤ 2 := by
    induction rs with
    | nil => simp [PyData.canLayAll0, PyData.depthAll]
    | cons r rs ih =>
      simp only [List.map_cons, PyData.canLayAll0, PyData.depthAll, R.d, PyData.canLay0, PyData.depth, Bool.and_eq_true]
      refine ⟨⟨by simp [kd_ok], ih.1⟩, ?_⟩
      have := ih.2
      omega
  show ((PyData.list (rs.map R.d)).canLay0 && decide ((PyData.list (rs.map R.d)).depth ≤ 64)) = true
  simp only [PyData.canLay0, PyData.depth, h.1, Bool.true_and]
  exact decide_eq_true (by have := h.2; omega)
theorem prds_shaped (rs : List (Nat × Nat)) : SeqAt.shaped (.list (rs.map prd)) = true := by
  have h : PyData.canLayAll0 (rs.map prd) = true ∧ PyData.depthAll (rs.map prd) ≤ 2 := by
    induction rs with
    | nil => simp [PyData.canLayAll0, PyData.depthAll]
    | cons r rs ih =>
      simp only [List.map_cons, PyData.canLayAll0, PyData.depthAll, prd, PyData.canLay0, PyData.depth, Bool.and_eq_true]
      refine ⟨⟨by simp, ih.1⟩, ?_⟩
      have := ih.2
      omega
  show ((PyData.list (rs.map prd)).canLay0 && decide ((PyData.list (rs.map prd)).depth ≤ 64)) = true
  simp only [PyData.canLay0, PyData.depth, h.1, Bool.true_and]
  exact decide_eq_true (by have := h.2; omega)
theorem rd_eqv (r s : R) : PyData.eqv r.d s.d = decide (r = s) := by
  obtain ⟨k, a, b⟩ := r
  obtain ⟨k', a', b'⟩ := s
  simp only [R.d, PyData.eqv, PyData.eqvAll, Bool.and_true]
  by_cases h : (⟨k, a, b⟩ : R) = ⟨k', a', b'⟩
  · rw [decide_eq_true h]
    cases h
    simp
  · rw [decide_eq_false h]
    by_cases hk : k = k'
    · subst hk
      have : ¬ (a = a' ∧ b = b') := fun z => h (by rw [z.1, z.2])
      simp
      intro z
      omega
    · have : ¬ kd k = kd k' := fun z => hk (kd_inj z)
      simp [this]
theorem prd_eqv (r s : Nat × Nat) : PyData.eqv (prd r) (prd s) = decide (r = s) := by
  obtain ⟨a, b⟩ := r
  obtain ⟨a', b'⟩ := s
  simp only [prd, PyData.eqv, PyData.eqvAll, Bool.and_true]
  by_cases h : (a, b) = (a', b')
  · rw [decide_eq_true h]
    cases h
    simp
  · rw [decide_eq_false h]
    have : ¬ (a = a' ∧ b = b') := fun z => h (by rw [z.1, z.2])
    simp
    intro z
    omega
theorem rds_any (rs : List R) (r : R) : ((rs.map R.d).any fun z => PyData.eqv z r.d) = decide (r ∈ rs) := by
  induction rs with
  | nil => simp
  | cons x rs ih =>
    rw [List.map_cons, List.any_cons, ih, rd_eqv]
    by_cases h : x = r
    · simp [h]
    · have : ¬ r = x := fun z => h z.symm
      simp [h, this]
theorem prds_any (rs : List (Nat × Nat)) (r : Nat × Nat) : ((rs.map prd).any fun z => PyData.eqv z (prd r)) = decide (r ∈ rs) := by
  induction rs with
  | nil => simp
  | cons x rs ih =>
    rw [List.map_cons, List.any_cons, ih, prd_eqv]
    by_cases h : x = r
    · simp [h]
    · have : ¬ r = x := fun z => h z.symm
      simp [h, this]
section
variable {K : PySem.W.Frag} {H H' : Hp}
theorem dp_r {v : V} {r : R} (h : Dp K H v r.d) : ∃ p, v = .ref p ∧ SqT K H p [.str (kd r.k), .int (r.a : Int), .int (r.b : Int)] := by
  obtain ⟨p, vs, rfl, hs, ha⟩ := dp_t h
  cases ha with
  | cons h1 h2 =>
    cases h2 with
    | cons h2 h3 =>
      cases h3 with
      | cons h3 h4 =>
        cases h4
        cases dp_str h1
        cases dp_int h2
        cases dp_int h3
        exact ⟨p, rfl, hs⟩
theorem r_dp {p : Addr} {r : R} (h : SqT K H p [.str (kd r.k), .int (r.a : Int), .int (r.b : Int)]) : Dp K H (.ref p) r.d := .tup h (.cons (.str _) (.cons (.int _) (.cons (.int _) .nil)))
theorem dp_p {v : V} {r : Nat × Nat} (h : Dp K H v (prd r)) : ∃ p, v = .ref p ∧ SqT K H p [.int (r.1 : Int), .int (r.2 : Int)] := by
  obtain ⟨p, vs, rfl, hs, ha⟩ := dp_t h
  cases ha with
  | cons h1 h2 =>
    cases h2 with
    | cons h2 h3 =>
      cases h3
      cases dp_int h1
      cases dp_int h2
      exact ⟨p, rfl, hs⟩
theorem p_dp {p : Addr} {r : Nat × Nat} (h : SqT K H p [.int (r.1 : Int), .int (r.2 : Int)]) : Dp K H (.ref p) (prd r) := .tup h (.cons (.int _) (.cons (.int _) .nil))
theorem dps_rat {rs : List R} {vs : List V} {i : Nat} {v : V} (h : DpAll K H vs (rs.map R.d)) (e : vs[i]? = some v) : ∃ r, rs[i]? = some r ∧ Dp K H v r.d := by
  obtain ⟨d, h1, h2⟩ := dps_at h e
  rw [List.getElem?_map] at h1
  cases q : rs[i]? with
  | none =>
    rw [q] at h1
    cases h1
  | some r =>
    rw [q] at h1
    cases h1
    exact ⟨r, rfl, h2⟩
theorem dps_pat {rs : List (Nat × Nat)} {vs : List V} {i : Nat} {v : V} (h : DpAll K H vs (rs.map prd)) (e : vs[i]? = some v) : ∃ r, rs[i]? = some r ∧ Dp K H v (prd r) := by
  obtain ⟨d, h1, h2⟩ := dps_at h e
  rw [List.getElem?_map] at h1
  cases q : rs[i]? with
  | none =>
    rw [q] at h1
    cases h1
  | some r =>
    rw [q] at h1
    cases h1
    exact ⟨r, rfl, h2⟩
end
end CC
namespace CC
open PySem L2
/-- what the top has left: the built-ins' names are free, the two constants -/
structure Glb (K : PySem.W.Frag) (mg : Str → Option Value) (kA : Addr) : Prop where
  len : mg "len" = none
  max : mg "max" = none
  min : mg "min" = none
  isi : mg "isinstance" = none
  int : mg "int" = none
  bool : mg "bool" = none
  str : mg "str" = none
  tup : mg "tuple" = none
  rng : mg "range" = none
  lst : mg "list" = none
  all : mg "all" = none
  set : mg "set" = none
  enu : mg "enumerate" = none
  rep : mg "repr" = none
  srt : mg "sorted" = none
  zip : mg "zip" = none
  any : mg "any" = none
  sum : mg "sum" = none
  rev : mg "reversed" = none
  dic : mg "dict" = none
  typ : mg "type" = none
  wid : ∃ t, mg "WIDEST" = some (.int 6 t)
  knd : mg "KINDS" = some (.ref kA)
  kseq : ∃ (o : Obj) (its : Array Value) (n : Nat), K.lookup kA = some o ∧ o.cls = .type "tuple" ∧ o.data = .seq its n ∧ its.size ≤ sizeLine ∧ Vals [.str "settles", .str "within"] its.toList
/-- a def of the top, as it stands -/
structure Df (K : PySem.W.Frag) (mg : Str → Option Value) (x : Str) (st : Stmt) (ps : List Str) where
  f : Addr
  fd : FuncData
  F : Fun K x x st f fd
  b : Binds K fd ps []
  g : mg x = some (.ref f)
/-- a def that keeps a promise -/
structure Cal (P : Program) (w : World) (K : PySem.W.Frag) (mg : Str → Option Value) (base : Heap) (x : Str) (ps : List Str) (sp : Sp) (l : Nat) where
  f : Addr
  fd : FuncData
  ok : ∀ k, l ≤ k → FnOk P w K mg base CX0 k f fd ps sp
  kp : PySem.W.keepIn K (.ref f) = true
  b : Binds K fd ps []
  g : mg x = some (.ref f)
def Df.cal {P : Program} {w : World} {K : PySem.W.Frag} {mg : Str → Option Value} {base : Heap} {x : Str} {st : Stmt} {ps : List Str} {sp : Sp} {l : Nat} (d : Df K mg x st ps) (h : ∀ k, FnOk P w K mg base CX0 (k + l) d.f d.fd ps sp) : Cal P w K mg base x ps sp l :=
  ⟨d.f, d.fd, fun k hk => (Nat.sub_add_cancel hk) ▸ h (k - l), d.F.kp, d.b, d.g⟩
abbrev sIsInt : Stmt := tp 6
abbrev sIsWidth : Stmt := tp 7
abbrev sIsCol : Stmt := tp 8
abbrev sIsRule : Stmt := tp 10
def spIsInt : Sp := fun vs H Q _ => ∃ z : Int, vs = [.int z] ∧ Q (.bl true) H
def spIsWidth : Sp := fun vs H Q _ => ∃ z : Nat, vs = [.int (z : Int)] ∧ 1 ≤ z ∧ z ≤ 6 ∧ Q (.bl true) H
def spIsCol : Sp := fun vs H Q _ => ∃ w z : Nat, vs = [.int (w : Int), .int (z : Int)] ∧ z < w ∧ Q (.bl true) H
/-- a rule for the width -/
def R.ok (w : Nat) (r : R) : Prop := r.a < w ∧ r.b < w ∧ r.a ≠ r.b
def spIsRule (K : PySem.W.Frag) : Sp := fun vs H Q _ => ∃ (w : Nat) (v : V) (r : R), vs = [.int (w : Int), v] ∧ Dp K H v r.d ∧ r.ok w ∧ Q (.bl true) H
section
variable {P : Program} {w : World} {K : PySem.W.Frag} {mg : Str → Option Value} {base : Heap} {kA : Addr}
theorem ty_tup {H : Hp} {p : Addr} {xs : List V} (h : SqT K H p xs) : TyX K H (.ref p) (.type "tuple") := by
  rcases h with (h | ⟨o, h⟩) | ⟨o, its, n, h, c, _⟩
  · exact .base (.tup h)
  · exact .fTuple h
  · exact .kTuple h c
theorem scIsInt : FnScope ["thing"] ["thing"] (defScope sIsInt) := ⟨rfl, rfl, rfl, by decide +kernel, rfl, by decide +kernel, by decide +kernel⟩
theorem ok_isint {f : Addr} {fd : FuncData} {k : Nat} (F : Fun K "is_an_integer" "is_an_integer" sIsInt f fd) (T : Glb K mg kA) : FnOk P w K mg base CX0 (k + 1) f fd ["thing"] spIsInt := by
  refine F.ok scIsInt (fun vs H Q E h => ?_) (fun cdv A outer s H vs Q E hr h => ?_)
  · obtain ⟨z, rfl, _⟩ := h
    rfl
  · obtain ⟨z, rfl, q⟩ := h
    refine ⟨_, pss_one (ps_ret (pe_and (pe_callB call_isi (by rfl) T.isi (by decide +kernel) (pa_cons (pv 0) (pa_cons (pe_bltn (v := .ty "int") (by rfl) T.int (by decide +kernel) rfl) pa_nil)))
      (pe_one (pe_not (pe_callB call_isi (by rfl) T.isi (by decide +kernel) (pa_cons (pv 0) (pa_cons (pe_bltn (v := .ty "bool") (by rfl) T.bool (by decide +kernel) rfl) pa_nil))))))), ?_⟩
    refine ⟨_, rfl, _, _, _, _, true, rfl, .ty _, .base (.int z), kit_ty (by decide +kernel), _, rfl, iteT ?_⟩
    exact ⟨_, rfl, _, _, _, _, false, rfl, .ty _, .base (.int z), kit_ty (by decide +kernel), _, rfl, q⟩
theorem scIsWidth : FnScope ["thing"] ["thing"] (defScope sIsWidth) := ⟨rfl, rfl, rfl, by decide +kernel, rfl, by decide +kernel, by decide +kernel⟩
theorem ok_iswidth {f : Addr} {fd : FuncData} {k : Nat} (F : Fun K "is_width" "is_width" sIsWidth f fd) (T : Glb K mg kA) (cI : Cal P w K mg base "is_an_integer" ["thing"] spIsInt 1) : FnOk P w K mg base CX0 (k + 2) f fd ["thing"] spIsWidth := by
  have GI := cI.ok (k + 1) (by omega)
  refine F.ok scIsWidth (fun vs H Q E h => ?_) (fun cdv A outer s H vs Q E hr h => ?_)
  · obtain ⟨z, rfl, _⟩ := h
    rfl
  · obtain ⟨z, rfl, h1, h2, q⟩ := h
    obtain ⟨tw, hw⟩ := T.wid
    refine ⟨_, pss_one (ps_ret (pe_and (pe_call GI hr rfl cI.g cI.kp cI.b .nil pass0 (pa_cons (pv 0) pa_nil))
      (pe_one (pe_chain op_le op_le pe_int (pv 0) (pe_glob (v := .int 6) rfl hw ⟨_, rfl⟩))))), ?_⟩
    refine ⟨_, rfl, _, rfl, _, rfl, iteT ?_⟩
    have e1 : decide ((1 : Int) ≤ (z : Int)) = true := decide_eq_true (by omega)
    have e2 : decide ((z : Int) ≤ (6 : Int)) = true := decide_eq_true (by omega)
    refine ⟨_, rfl, _, _, rfl, rfl, _, rfl, ?_⟩
    rw [e1]
    refine iteT ⟨_, _, rfl, rfl, ?_⟩
    show Q (.bl (decide ((z : Int) ≤ (6 : Int)))) H
    rw [e2]
    exact q
theorem scIsCol : FnScope ["width", "thing"] ["width", "thing"] (defScope sIsCol) := ⟨rfl, rfl, rfl, by decide +kernel, rfl, by decide +kernel, by decide +kernel⟩
theorem ok_iscol {f : Addr} {fd : FuncData} {k : Nat} (F : Fun K "is_column" "is_column" sIsCol f fd) (T : Glb K mg kA) (cI : Cal P w K mg base "is_an_integer" ["thing"] spIsInt 1) : FnOk P w K mg base CX0 (k + 2) f fd ["width", "thing"] spIsCol := by
  have GI := cI.ok (k + 1) (by omega)
  refine F.ok scIsCol (fun vs H Q E h => ?_) (fun cdv A outer s H vs Q E hr h => ?_)
  · obtain ⟨w, z, rfl, _⟩ := h
    rfl
  · obtain ⟨w, z, rfl, h1, q⟩ := h
    refine ⟨_, pss_one (ps_ret (pe_and (pe_call GI hr rfl cI.g cI.kp cI.b .nil pass0 (pa_cons (pv 1) pa_nil))
      (pe_one (pe_chain op_le op_lt pe_int (pv 1) (pv 0))))), ?_⟩
    refine ⟨_, rfl, _, rfl, _, rfl, iteT ?_⟩
    have e1 : decide ((0 : Int) ≤ (z : Int)) = true := decide_eq_true (by omega)
    have e2 : decide ((z : Int) < (w : Int)) = true := decide_eq_true (by omega)
    refine ⟨_, rfl, _, _, rfl, rfl, _, rfl, ?_⟩
    rw [e1]
    refine iteT ⟨_, rfl, _, _, rfl, rfl, ?_⟩
    show Q (.bl (decide ((z : Int) < (w : Int)))) H
    rw [e2]
    exact q
theorem scIsRule : FnScope ["width", "thing", "kind", "first", "second"] ["width", "thing"] (defScope sIsRule) := ⟨rfl, rfl, rfl, by decide +kernel, rfl, by decide +kernel, by decide +kernel⟩
theorem ok_isrule {f : Addr} {fd : FuncData} {k : Nat} (F : Fun K "is_rule" "is_rule" sIsRule f fd) (T : Glb K mg kA) 
 (cC : Cal P w K mg base "is_column" ["width", "thing"] spIsCol 2) : FnOk P w K mg base CX0 (k + 3) f fd ["width", "thing"] (spIsRule K) := by
  have GC := cC.ok (k + 2) (by omega)
  refine F.ok scIsRule (fun vs H Q E h => ?_) (fun cdv A outer s H vs Q E hr h => ?_)
  · obtain ⟨w, v, r, rfl, _⟩ := h
    rfl
  · obtain ⟨w, v, r, rfl, hd, ⟨h1, h2, h3⟩, q⟩ := h
    obtain ⟨p, rfl, hp⟩ := dp_r hd
    have hk : SqT K H kA [.str "settles", .str "within"] := .inr T.kseq
    have nd := scIsRule.nd
    refine ⟨_, pss_cons (ps_if (PW.pt (pw_or (pt_not (pt_val (pe_callB call_isi (by rfl) T.isi (by decide +kernel) (pa_cons (pv 1) (pa_cons (pe_bltn (v := .ty "tuple") (by rfl) T.tup (by decide +kernel) rfl) pa_nil)))))
          (pw_or1 (pt_cmpR op_ne (pe_callB call_len_seq (by rfl) T.len PySem.boot_len (pa_cons (pv 1) pa_nil)) pe_int (nomark _))))) (pss_one (ps_ret pe_bl)) pss_nil)
      (pss_cons (ps_asg (pv 1) (pg_tup rfl (pgs_cons (pg_name (i := 2) nd rfl (.inl rfl)) (pgs_cons (pg_name (i := 3) nd rfl (.inl rfl)) (pgs_cons (pg_name (i := 4) nd rfl (.inl rfl)) pgs_nil)))))
      (pss_cons (ps_if (PW.pt (pw_or (pt_not (pt_val (pe_callB call_isi (by rfl) T.isi (by decide +kernel) (pa_cons (pv 2) (pa_cons (pe_bltn (v := .ty "str") (by rfl) T.str (by decide +kernel) rfl) pa_nil)))))
          (pw_or1 (pt_cmpR op_notIn_seq (pv 2) (pe_glob (v := .ref kA) rfl T.knd rfl) (by rfl))))) (pss_one (ps_ret pe_bl)) pss_nil)
      (pss_one (ps_ret (pe_and (pe_call GC hr rfl cC.g cC.kp cC.b .nil pass0 (pa_cons (pv 0) (pa_cons (pv 3) pa_nil)))
        (pe_and (pe_call GC hr rfl cC.g cC.kp cC.b .nil pass0 (pa_cons (pv 0) (pa_cons (pv 4) pa_nil))) (pe_one (pe_cmpR op_ne (pv 3) (pv 4) (nomark _))))))))), ?_⟩
    refine ⟨_, rfl, _, _, _, _, true, rfl, .ty _, ty_tup hp, kit_ty (by decide +kernel), _, rfl, iteF ?_⟩
    refine ⟨_, rfl, p, _, rfl, .inr hp, rfl, _, rfl, iteF ?_⟩
    refine ⟨_, rfl, p, _, rfl, hp, rfl, _, _, rfl, _, _, rfl, _, _, rfl, rfl, ?_⟩
    refine ⟨_, rfl, _, _, _, _, true, rfl, .ty _, .base (.str _), kit_ty (by decide +kernel), _, rfl, iteF ?_⟩
    have ek : inV (.str (kd r.k)) [.str "settles", .str "within"] = true := by
      cases r.k <;> decide +kernel
    refine ⟨_, rfl, kA, _, rfl, .inr hk, rfl, rfl, _, rfl, ?_⟩
    rw [ek]
    refine iteF ?_
    refine ⟨_, rfl, _, rfl, w, r.a, rfl, h1, _, rfl, iteT ?_⟩
    refine ⟨_, rfl, _, rfl, w, r.b, rfl, h2, _, rfl, iteT ?_⟩
    refine ⟨_, rfl, _, rfl, rfl, ?_⟩
    have e3 : (!decide (V.int (r.a : Int) = V.int (r.b : Int))) = true := by
      rw [decide_eq_false (fun z => h3 (by injection z with z; omega))]
      rfl
    show Q (.bl (!decide (V.int (r.a : Int) = V.int (r.b : Int)))) H
    rw [e3]
    exact q
end
end CC
/-! A list comprehension of three clauses. -/
namespace C3
open PySem PySem.Spec PyProof.Rows L2
abbrev no : Value → Shared → Prop := fun _ _ => False
def turnOf (c : Expr) (k : Nat) (tg : Expr) (ps : Pos) (fs : List Expr) (env : Env) (acc : Value) (body : Sem Unit) (it : Value) : Sem Fin := do
  standAt ps
  match ← pyNext it with
  | none => pure (.done .next)
  | some v =>
    letOwnedTupleGo tg it v
    assign tg env v
    let mut ok := true
    for cd in fs do
      if ok then ok ← isTrue cd env (eval cd env)
    if ok then body
    again (.compLoop c k it acc env)
def nextOf (c : Expr) (k : Nat) (ix : Expr) (env : Env) (acc : Value) : Sem Unit := do
  let x ← eval ix env
  standAt ix.pos
  let x ← foldedSetIterable ix env x
  let _ ← runOwn (.compStart c k (← holding [x] (pyIter x)) acc env) env
def pushOf (ex : Expr) (env : Env) (acc : Value) : Sem Unit := do
  let _ ← call (.builtin "list.append") [acc, ← eval ex env]
section
variable {ex t0 i0 t1 i1 t2 i2 : Expr} {f0 f1 f2 : List Expr} {sc : Scope} {pos : Pos} {it acc : Value} {env : Env}
abbrev lc3 (ex t0 i0 t1 i1 t2 i2 : Expr) (f0 f1 f2 : List Expr) (sc : Scope) (pos : Pos) : Expr := .ListComp ex [⟨t0, i0, f0, 0⟩, ⟨t1, i1, f1, 0⟩, ⟨t2, i2, f2, 0⟩] sc pos
theorem turn0 : compTurn (lc3 ex t0 i0 t1 i1 t2 i2 f0 f1 f2 sc pos) 0 it acc env = turnOf (lc3 ex t0 i0 t1 i1 t2 i2 f0 f1 f2 sc pos) 0 t0 i0.pos f0 env acc (nextOf (lc3 ex t0 i0 t1 i1 t2 i2 f0 f1 f2 sc pos) 1 i1 env acc) it := by
  unfold turnOf
  refine congrArg (standAt i0.pos >>= ·) (funext fun _ => congrArg (pyNext it >>= ·) (funext fun r => ?_))
  cases r with
  | none => rfl
  | some v =>
    refine congrArg (letOwnedTupleGo t0 it v >>= ·) (funext fun _ => congrArg (assign t0 env v >>= ·) (funext fun _ => ?_))
    refine congrArg (fun k => forIn f0 true (fun c r => if r = true then do let ok ← isTrue c env (eval c env); pure (ForInStep.yield ok) else pure (ForInStep.yield r)) >>= k) (funext fun ok => ?_)
    cases ok with
    | false => rfl
    | true =>
      unfold nextOf
      simp only [bind_assoc, pure_bind, if_true]
      rfl
theorem turn1 : compTurn (lc3 ex t0 i0 t1 i1 t2 i2 f0 f1 f2 sc pos) 1 it acc env = turnOf (lc3 ex t0 i0 t1 i1 t2 i2 f0 f1 f2 sc pos) 1 t1 i1.pos f1 env acc (nextOf (lc3 ex t0 i0 t1 i1 t2 i2 f0 f1 f2 sc pos) 2 i2 env acc) it := by
  unfold turnOf
  refine congrArg (standAt i1.pos >>= ·) (funext fun _ => congrArg (pyNext it >>= ·) (funext fun r => ?_))
  cases r with
  | none => rfl
  | some v =>
    refine congrArg (letOwnedTupleGo t1 it v >>= ·) (funext fun _ => congrArg (assign t1 env v >>= ·) (funext fun _ => ?_))
    refine congrArg (fun k => forIn f1 true (fun c r => if r = true then do let ok ← isTrue c env (eval c env); pure (ForInStep.yield ok) else pure (ForInStep.yield r)) >>= k) (funext fun ok => ?_)
    cases ok with
    | false => rfl
    | true =>
      unfold nextOf
      simp only [bind_assoc, pure_bind, if_true]
      rfl
theorem turn2 : compTurn (lc3 ex t0 i0 t1 i1 t2 i2 f0 f1 f2 sc pos) 2 it acc env = turnOf (lc3 ex t0 i0 t1 i1 t2 i2 f0 f1 f2 sc pos) 2 t2 i2.pos f2 env acc (pushOf ex env acc) it := by rfl
end
section
variable {P : Program} {w : World} {A : Around} {R : Result → Shared → Prop} {s : Shared} {ex : Expr} {gs : List Comprehension} {sc : Scope} {pos : Pos} {k : Nat} {tg : Expr} {ps : Pos} {fs : List Expr} {it acc : Value} {env : Env} {body : Sem Unit}
theorem loopAny (e : compTurn (.ListComp ex gs sc pos) k it acc env = turnOf (.ListComp ex gs sc pos) k tg ps fs env acc body it) (J : Nat → Shared → Prop)
    (turn : ∀ n s, J n s → wpAny (model P w) A (pyNext it) (fun r s1 => match r with
      | none => R (.ok .next) s1
      | some v => wpAny (model P w) A (letOwnedTupleGo tg it v) (fun _ s2 => wpAny (model P w) A (assign tg env v) (fun _ s3 =>
          wpAny (model P w) A (forIn fs true fun c r => if r = true then do let ok ← isTrue c env (eval c env); pure (ForInStep.yield ok) else pure (ForInStep.yield r)) (fun ok s4 =>
            if ok = true then wpAny (model P w) A body (fun _ s5 => ∃ m, m < n ∧ J m s5) no s4 else ∃ m, m < n ∧ J m s4) no s3) no s2) no s1) no s)
    (n : Nat) (h : J n s) : codeAny (model P w) A (.compLoop (.ListComp ex gs sc pos) k it acc env) R s := by
  refine codeAny_loop rfl J (fun n s j => ?_) n h
  show wpAny _ A ((compTurn (.ListComp ex gs sc pos) k it acc env).onRaise (fun x => do noteFrame x env; theTreesLotGoes x)) _ _ s
  refine wpAny_noted ?_
  rw [e]
  unfold turnOf
  refine wpAny_bind (wpAny_standAt (wpAny_bind (thnF (turn n s j) fun r s1 h1 => ?_)))
  cases r with
  | none => exact wpAny_pure h1
  | some v =>
    refine wpAny_bind (thnF h1 fun _ s2 h2 => ?_)
    refine wpAny_bind (thnF h2 fun _ s3 h3 => wpAny_bind (thnF h3 fun ok s4 h4 => ?_))
    cases ok with
    | false => exact wpAny_pure ⟨rfl, h4⟩
    | true =>
      first
        | exact wpAny_bind (thnF h4 fun _ s5 h5 => wpAny_pure ⟨rfl, h5⟩)
        | exact wpAny_bind (wpAny_bind (thnF h4 fun _ s5 h5 => wpAny_pure (wpAny_pure ⟨rfl, h5⟩)))
end
/-! ### a clause within the block -/
abbrev TB := L2.St → Hp → (Hp → Prop) → Prop
def tPush (te : TE) (D : Addr) : TB := fun σ H N => te σ H fun y H1 => ∃ l, H1 D = some (.lst l) ∧ l.length < sizeLine ∧ N (upd H1 D (.lst (l ++ [y])))
def tTurn (J : It) (g : TG) (tt : TT) (vs : List Nat) (b : TB) (σ : L2.St) (W : Nat → Nat → Hp → Prop) (N : Hp → Prop) : Prop := ∀ i m H, W i m H →
  (J.stop i H ∧ N H) ∨ (J.go i H ∧ ∃ M : Hp → Prop, (∀ H', M H' → ∃ m', m' < m ∧ W (i + 1) m' H') ∧ ∀ x H', J.yld i H x H' → g x (wipe σ vs) H' fun τ H1 => wipe τ vs = wipe σ vs ∧ tt τ H1 fun y H2 => if y = true then b τ H2 M else M H2)
def tCl (wi : TI) (g : TG) (tt : TT) (vs : List Nat) (b : TB) : TB := fun σ H N => wi σ H fun J H1 => ∃ W : Nat → Nat → Hp → Prop, (∃ m, W 0 m H1) ∧ tTurn J g tt vs b σ W N
section
variable {X : Cx} {s0 : Shared} {H0 : Hp} {sc : Scope} {ce : Env} {fp : List Addr}
abbrev Bk (X : Cx) (s0 : Shared) (H0 : Hp) (sc : Scope) (ce : Env) (fp : List Addr) : Cx := X.blk s0 H0 sc ce fp
/-- what the body of a clause does, and which slots it forgets -/
def Does (X : Cx) (s0 : Shared) (H0 : Hp) (sc : Scope) (ce : Env) (fp : List Addr) (body : Sem Unit) (t : TB) (us : List Nat) : Prop :=
  ∀ (pins : List (Addr × Obj)) (s : Shared) (σ : L2.St) (H : Hp) (N : Hp → Prop), Inv (Bk X s0 H0 sc ce fp) pins σ H s → t σ H N →
    wpAny (model X.prog X.w) X.A body (fun _ s' => ∃ H', Inv (Bk X s0 H0 sc ce fp) pins (wipe σ us) H' s' ∧ N H') no s
theorem does_push {ex : Expr} {te : TE} {D : Addr} (pe : PE (Bk X s0 H0 sc ce fp) ex te) : Does X s0 H0 sc ce fp (pushOf ex ce (.ref D)) (tPush te D) [] := by
  intro pins s σ H N I h
  unfold pushOf
  refine wpAny_bind (thnF (pe.run pins s σ H _ I h) fun z s1 ⟨y, H1, I1, r, l, hl, hz, n⟩ => ?_)
  exact wpAny_bind (thnF (app_ok (E := no) (X := Bk X s0 H0 sc ce fp) (Q := fun _ s' => ∃ H', Inv (Bk X s0 H0 sc ce fp) pins (wipe σ []) H' s' ∧ N H') I1 hl hz r fun s2 I2 => ⟨_, I2, n⟩) fun _ s2 q => wpAny_pure q)
theorem level {ex : Expr} {gs : List Comprehension} {sb : Scope} {pos : Pos} {k : Nat} {tg : Expr} {ps : Pos} {fs : List Expr} {acc : Value} {body : Sem Unit} {g : TG} {tt : TT} {b : TB} {vs us : List Nat} (hc : X.calm = true) (te : ∀ it, compTurn (.ListComp ex gs sb pos) k it acc ce = turnOf (.ListComp ex gs sb pos) k tg ps fs ce acc body it)
    (pg : PG (Bk X s0 H0 sc ce fp) tg g) (pt : PTs (Bk X s0 H0 sc ce fp) fs tt) (bd : Does X s0 H0 sc ce fp body b us) (sub : ∀ i ∈ us, i ∈ vs)
    {pins : List (Addr × Obj)} {s : Shared} {σ : L2.St} {H : Hp} {N : Hp → Prop} {it : Addr} {fq : List Addr} {tn : Nat → Heap → Prop} {J : It} {W : Nat → Nat → Hp → Prop} {m : Nat} {R : Result → Shared → Prop}
    (I : Inv (Bk X s0 H0 sc ce fp) pins σ H s) (T : Turn X.prog X.w X.K tg J fq it tn) (st : tn 0 s.heap) (fo : ∀ b ∈ fq, FpOk (Bk X s0 H0 sc ce fp) pins H b) (w0 : W 0 m H) (tu : tTurn J g tt vs b σ W N)
    (fin : ∀ s' H', Inv (Bk X s0 H0 sc ce fp) pins (wipe σ vs) H' s' → N H' → R (.ok .next) s') :
    codeAny (model X.prog X.w) X.A (.compLoop (.ListComp ex gs sb pos) k (.ref it) acc ce) R s := by
  have fok : ∀ {H' : Hp}, (∀ b ∈ fq, H' b = none) → ∀ b ∈ fq, FpOk (Bk X s0 H0 sc ce fp) pins H' b := fun hn b hb => ⟨hn b hb, (fo b hb).2⟩
  refine loopAny (te _) (fun n s' => ∃ i H', Inv (Bk X s0 H0 sc ce fp) pins (wipe σ vs) H' s' ∧ tn i s'.heap ∧ (∀ b ∈ fq, H' b = none) ∧ W i n H') ?_ m ⟨0, H, I.weak (wipe_length _ _) (fun j v e => (wipe_some e).1), st, fun b hb => (fo b hb).1, w0⟩
  rintro n s1 ⟨i, H1, I1, st1, n1, w1⟩
  rcases tu i n H1 w1 with ⟨stop, nn⟩ | ⟨go, M, hM, step⟩
  · refine thnF (T.done (Bk X s0 H0 sc ce fp) rfl rfl rfl hc i _ s1 _ H1 no I1 (fok n1) st1 stop) fun r s2 ⟨hr, I2⟩ => ?_
    subst hr
    exact fin s2 H1 I2 nn
  · refine thnF (T.item (Bk X s0 H0 sc ce fp) rfl rfl rfl hc i _ s1 _ H1 no I1 (fok n1) st1 go) fun r s2 ⟨u, hr, h2⟩ => ?_
    subst hr
    refine thnF h2 fun _ s3 ⟨x, H3, I3, r3, y3, st3, n3⟩ => ?_
    have I3' := I3.pinned (fok n3) (T.obj _ _ st3)
    refine thnF (pg.run _ s3 _ H3 x u _ I3' r3 (step x H3 y3)) fun _ s4 ⟨τ, H4, I4, hw, q4⟩ => ?_
    refine thnF (pt.run _ s4 τ H4 _ I4 q4) fun ok s5 ⟨H5, I5, q5⟩ => ?_
    have ended : ∀ {s' : Shared} {H' : Hp}, Inv (Bk X s0 H0 sc ce fp) (pins ++ pinsAt fq s3.heap) (wipe τ us) H' s' → M H' → ∃ m, m < n ∧ ∃ i H', Inv (Bk X s0 H0 sc ce fp) pins (wipe σ vs) H' s' ∧ tn i s'.heap ∧ (∀ b ∈ fq, H' b = none) ∧ W i m H' := fun {s' H'} I' mm => by
      obtain ⟨m', hm, w'⟩ := hM H' mm
      have kp : ∀ b ∈ fq, ∀ o, s3.heap.get? b = some o → s'.heap.get? b = some o ∧ H' b = none := fun b hb o e =>
        have z := I'.pin (b, o) (List.mem_append_right _ (List.mem_append_right _ (mem_pinsAt hb e)))
        ⟨z.1, z.2.1⟩
      refine ⟨m', hm, i + 1, H', I'.unpinned.weak (by rw [wipe_length, wipe_length, ← wipe_length τ vs, hw, wipe_length]) (fun j v e => ?_), T.keep _ _ _ st3 fun b hb o e => (kp b hb o e).1, fun b hb => ?_, w'⟩
      · rw [← hw] at e
        obtain ⟨e1, e2⟩ := wipe_some e
        rw [wipe_out fun z => e2 (sub j z)]
        exact e1
      · obtain ⟨o, e, _⟩ := T.obj _ _ st3 b hb
        exact (kp b hb o e).2
    cases ok with
    | false =>
      simp only [Bool.false_eq_true, if_false] at q5 ⊢
      exact ended (I5.weak (wipe_length _ _) fun j v e => (wipe_some e).1) q5
    | true =>
      simp only [if_true] at q5 ⊢
      exact thnF (bd _ s5 τ H5 _ I5 q5) fun _ s6 ⟨H6, I6, q6⟩ => ended I6 q6
theorem does_next {ex : Expr} {gs : List Comprehension} {sb : Scope} {pos : Pos} {k : Nat} {tg ix : Expr} {ps : Pos} {fs : List Expr} {D : Addr} {body : Sem Unit} {wi : TI} {g : TG} {tt : TT} {b : TB} {vs us : List Nat} (hc : X.calm = true) (hce : (Bk X s0 H0 sc ce fp).env = ce)
    (te : ∀ it, compTurn (.ListComp ex gs sb pos) k it (.ref D) ce = turnOf (.ListComp ex gs sb pos) k tg ps fs ce (.ref D) body it)
    (cs : ∀ {it : Value} {R : Result → Shared → Prop} {s : Shared}, codeAny (model X.prog X.w) X.A (.compLoop (.ListComp ex gs sb pos) k it (.ref D) ce) R s → wpAny (model X.prog X.w) X.A (pyIter it) (fun it' s' => codeAny (model X.prog X.w) X.A (.compLoop (.ListComp ex gs sb pos) k it' (.ref D) ce) R s') no s → codeAny (model X.prog X.w) X.A (.compStart (.ListComp ex gs sb pos) k it (.ref D) ce) R s)
    (fo : ∀ x, foldedSetIterable ix ce x = pure x) (pi : PI (Bk X s0 H0 sc ce fp) tg ix wi) (pg : PG (Bk X s0 H0 sc ce fp) tg g) (pt : PTs (Bk X s0 H0 sc ce fp) fs tt) (bd : Does X s0 H0 sc ce fp body b us) (sub : ∀ i ∈ us, i ∈ vs) :
    Does X s0 H0 sc ce fp (nextOf (.ListComp ex gs sb pos) k ix ce (.ref D)) (tCl wi g tt vs b) vs := by
  intro pins s σ H N I h
  unfold nextOf
  refine wpAny_bind (thnF (pi.run pins s σ H _ I h) fun xv s1 hx => ?_)
  refine wpAny_bind (wpAny_standAt (wpAny_bind (wpAny_of_eq (fo xv) (wpAny_bind (wpAny_holding (thnF hx fun itv s2 h2 => ?_))))))
  obtain ⟨it, fq, tn, J, H2, rfl, I2, T, st2, f2, W, ⟨m, w0⟩, tu⟩ := h2
  refine wpAny_bind (wpAny_runOwn ?_)
  rw [Around.mark_none]
  have lp : codeAny (model X.prog X.w) X.A (.compLoop (.ListComp ex gs sb pos) k (.ref it) (.ref D) ce) (fun r s' => match r with
      | .ok _ => ∃ H', Inv (Bk X s0 H0 sc ce fp) pins (wipe σ vs) H' s' ∧ N H'
      | .error _ => False) s2 := level hc te pg pt bd sub I2 T st2 f2 w0 tu fun s' H' I' n => ⟨H', I', n⟩
  refine codeAny_mono (cs lp (T.self X.A 0 _ _ _ st2 lp)) fun r s' hr => ?_
  cases r with
  | ok f => exact wpAny_pure hr
  | error e => exact hr.elim
end
section
variable {P : Program} {w : World} {A : Around} {R : Result → Shared → Prop} {s : Shared} {ex t0 i0 t1 i1 t2 i2 : Expr} {f0 f1 f2 : List Expr} {sc : Scope} {pos : Pos} {it acc : Value} {env : Env}
theorem start1 (h0 : codeAny (model P w) A (.compLoop (lc3 ex t0 i0 t1 i1 t2 i2 f0 f1 f2 sc pos) 1 it acc env) R s)
    (h : wpAny (model P w) A (pyIter it) (fun it' s' => codeAny (model P w) A (.compLoop (lc3 ex t0 i0 t1 i1 t2 i2 f0 f1 f2 sc pos) 1 it' acc env) R s') no s) :
    codeAny (model P w) A (.compStart (lc3 ex t0 i0 t1 i1 t2 i2 f0 f1 f2 sc pos) 1 it acc env) R s := by
  refine codeAny_of_tree ?_
  show wpAny _ _ ((compStart (lc3 ex t0 i0 t1 i1 t2 i2 f0 f1 f2 sc pos) 1 it acc env).onRaise (fun x => do noteFrame x env; standAt theWindowsPlace)) _ _ s
  refine wpAny_notedAt ?_
  unfold compStart
  show wpAny _ _ (ask >>= _) _ _ s
  refine wpAny_bind (wpAny_askSetting (wpAny_ite ?_))
  split
  · first
      | exact wpAny_bind (wpAny_pure (wpAny_pure ⟨rfl, h0⟩))
      | exact wpAny_pure ⟨rfl, h0⟩
  · refine wpAny_bind (wpAny_rule ?_)
    show wpAny _ _ (standAt i1.pos >>= _) _ _ s
    exact wpAny_bind (wpAny_standAt (wpAny_bind (thnF h fun it' s' h' => wpAny_pure ⟨rfl, h'⟩)))
theorem start2 (h0 : codeAny (model P w) A (.compLoop (lc3 ex t0 i0 t1 i1 t2 i2 f0 f1 f2 sc pos) 2 it acc env) R s)
    (h : wpAny (model P w) A (pyIter it) (fun it' s' => codeAny (model P w) A (.compLoop (lc3 ex t0 i0 t1 i1 t2 i2 f0 f1 f2 sc pos) 2 it' acc env) R s') no s) :
    codeAny (model P w) A (.compStart (lc3 ex t0 i0 t1 i1 t2 i2 f0 f1 f2 sc pos) 2 it acc env) R s := by
  refine codeAny_of_tree ?_
  show wpAny _ _ ((compStart (lc3 ex t0 i0 t1 i1 t2 i2 f0 f1 f2 sc pos) 2 it acc env).onRaise (fun x => do noteFrame x env; standAt theWindowsPlace)) _ _ s
  refine wpAny_notedAt ?_
  unfold compStart
  show wpAny _ _ (ask >>= _) _ _ s
  refine wpAny_bind (wpAny_askSetting (wpAny_ite ?_))
  split
  · first
      | exact wpAny_bind (wpAny_pure (wpAny_pure ⟨rfl, h0⟩))
      | exact wpAny_pure ⟨rfl, h0⟩
  · refine wpAny_bind (wpAny_rule ?_)
    show wpAny _ _ (standAt i2.pos >>= _) _ _ s
    exact wpAny_bind (wpAny_standAt (wpAny_bind (thnF h fun it' s' h' => wpAny_pure ⟨rfl, h'⟩)))
end
section
variable {X : Cx}
def tLc3 (wi : TI) (g : TG) (tt : TT) (b : Addr → TB) (ws : List Nat) : TE := fun σ H Q => wi σ H fun J H1 => ∀ D, H1 D = none → ∃ W : Nat → Nat → Hp → Prop, (∃ m, W 0 m (upd H1 D (.lst []))) ∧ tTurn J g tt ws (b D) (wipe σ ws) W fun H' => Q (.ref D) H'
theorem pe_lc3 {ex t0 i0 t1 i1 t2 i2 : Expr} {f0 f1 f2 : List Expr} {scope : Scope} {pos : Pos} {own : List (Str × Nat)} {v1 v2 : List Nat} {w0 w1 w2 : TI} {g0 g1 g2 : TG} {e0 e1 e2 : TT} {te : TE} (hc : X.calm = true) (hN : X.N.Nodup) (hi : PI X t0 i0 w0)
    (ok : BlkOk X.N X.env.scope scope own) (sub1 : ∀ i ∈ v1, i ∈ own.map (·.2)) (sub2 : ∀ i ∈ v2, i ∈ v1)
    (hg : ∀ (s : Shared) (H : Hp) (C : Addr) (cl : List (Str × Addr)) (fp : List Addr), PG (X.blk s H scope (compEnvC scope cl C X.env) fp) t0 g0) (ht : ∀ (s : Shared) (H : Hp) (C : Addr) (cl : List (Str × Addr)) (fp : List Addr), PTs (X.blk s H scope (compEnvC scope cl C X.env) fp) f0 e0) (hi1 : ∀ (s : Shared) (H : Hp) (C : Addr) (cl : List (Str × Addr)) (fp : List Addr), PI (X.blk s H scope (compEnvC scope cl C X.env) fp) t1 i1 w1) (hg1 : ∀ (s : Shared) (H : Hp) (C : Addr) (cl : List (Str × Addr)) (fp : List Addr), PG (X.blk s H scope (compEnvC scope cl C X.env) fp) t1 g1) (ht1 : ∀ (s : Shared) (H : Hp) (C : Addr) (cl : List (Str × Addr)) (fp : List Addr), PTs (X.blk s H scope (compEnvC scope cl C X.env) fp) f1 e1)
    (hi2 : ∀ (s : Shared) (H : Hp) (C : Addr) (cl : List (Str × Addr)) (fp : List Addr), PI (X.blk s H scope (compEnvC scope cl C X.env) fp) t2 i2 w2) (hg2 : ∀ (s : Shared) (H : Hp) (C : Addr) (cl : List (Str × Addr)) (fp : List Addr), PG (X.blk s H scope (compEnvC scope cl C X.env) fp) t2 g2) (ht2 : ∀ (s : Shared) (H : Hp) (C : Addr) (cl : List (Str × Addr)) (fp : List Addr), PTs (X.blk s H scope (compEnvC scope cl C X.env) fp) f2 e2) (he : ∀ (s : Shared) (H : Hp) (C : Addr) (cl : List (Str × Addr)) (fp : List Addr), PE (X.blk s H scope (compEnvC scope cl C X.env) fp) ex te)
    (fs0 : ∀ x, foldedSetIterable i0 X.env x = pure x := by intro _; rfl) (fs1 : ∀ env x, foldedSetIterable i1 env x = pure x := by intro _ _; rfl) (fs2 : ∀ env x, foldedSetIterable i2 env x = pure x := by intro _ _; rfl) :
    PE X (lc3 ex t0 i0 t1 i1 t2 i2 f0 f1 f2 scope pos) (tLc3 w0 g0 e0 (fun D => tCl w1 g1 e1 v1 (tCl w2 g2 e2 v2 (tPush te D))) (own.map (·.2))) := by
  refine ⟨fun pins s σ H Q I h => ?_⟩
  rw [eval_ListComp]
  have fre : ∀ y ∈ scope.names, y.2 = .free → ∃ c, X.env.cells.lookup y.1 = some c := fun y hy e => by
    rcases ok.free y hy e with z | z
    · exact I.ok.has _ (.inl z)
    · exact I.ok.has _ (.inr z)
  refine wpAny_comprehension_free (use := none) rfl fs0 (closure_ok fre) ok.kind (fun y hy e => by rw [ok.uniq y hy, e]) (thn (hi.run pins s σ H _ I h) fun xv s1 hx => thn hx fun itv s2 h2 => ?_)
  obtain ⟨it, fp, tn, J, H2, rfl, I2, T, st2, f2', q⟩ := h2
  refine wpAny_newObj_type (newEnv_comp ?_) (by show 0 ≤ sizeLine; decide)
  obtain ⟨D, hD⟩ : ∃ D, D = s2.heap.objs.size := ⟨_, rfl⟩
  rw [← hD]
  obtain ⟨W, ⟨m0, wz⟩, turn⟩ := q D (I2.hok.fresh (by rw [hD]; exact Nat.le_refl _))
  obtain ⟨nl, hnl⟩ : ∃ nl : Obj, nl = { cls := .type "list", data := .seq ([] : List Value).toArray } := ⟨_, rfl⟩
  rw [← hnl]
  obtain ⟨s3, hs3⟩ : ∃ s3 : Shared, s3 = { s2 with heap := s2.heap.push nl } := ⟨_, rfl⟩
  have I3 : Inv X pins σ (upd H2 D (.lst [])) s3 := by
    rw [hs3]
    refine I2.laid (t' := s2.toks) (fun b o e => Heap.get?_push_of_some _ e) (by rw [hD]; exact Nat.le_refl _) ⟨Nat.zero_le _, [], 0, .nil, ?_⟩
    rw [hD, hnl]
    exact Heap.get?_push_size _ rfl
  have lt2 : ∀ b ∈ fp, b < s2.heap.objs.size := fun b hb => by
    obtain ⟨o, e, _⟩ := T.obj _ _ st2 b hb
    exact Heap.lt_size e
  have f3 : ∀ b ∈ fp, FpOk X pins (upd H2 D (.lst [])) b ∧ b < s3.heap.objs.size := fun b hb => by
    have z := lt2 b hb
    refine ⟨⟨?_, (f2' b hb).2⟩, by rw [hs3]; show b < (s2.heap.push nl).objs.size; rw [Heap.size_push]; exact Nat.lt_succ_of_lt z⟩
    rw [upd_ne (by rw [hD]; exact Nat.ne_of_lt z)]
    exact (f2' b hb).1
  have st3 : tn 0 s3.heap := T.keep _ _ _ st2 fun b _ o e => by
    rw [hs3]
    exact Heap.get?_push_of_some _ e
  have I4 := block_start I3 ok hN f3
  obtain ⟨cl, hcl⟩ : ∃ cl, cl = cellsFrom (s3.heap.objs.size + 1) scope.names (cloFrom X.env.cells scope.names []) := ⟨_, rfl⟩
  obtain ⟨H3, hH3⟩ : ∃ H3, H3 = upd H2 D (.lst []) := ⟨_, rfl⟩
  obtain ⟨ce, hce⟩ : ∃ ce, ce = compEnvC scope cl s3.heap.objs.size X.env := ⟨_, rfl⟩
  obtain ⟨s4, hs4⟩ : ∃ s4 : Shared, s4 = { s3 with heap := pushCells (s3.heap.push { cls := .type "dict", data := .dict #[] }) scope.names } := ⟨_, rfl⟩
  have cL : ce.locals = s3.heap.objs.size := by
    rw [hce]
    rfl
  have st4 : tn 0 s4.heap := T.keep _ _ _ st3 fun b _ o e => by
    rw [hs4]
    exact pushCells_keeps _ _ _ _ (Heap.get?_push_of_some _ e)
  have p0 := hg s3 H3 s3.heap.objs.size cl fp
  have p1 := ht s3 H3 s3.heap.objs.size cl fp
  have p2 := hi1 s3 H3 s3.heap.objs.size cl fp
  have p3 := hg1 s3 H3 s3.heap.objs.size cl fp
  have p4 := ht1 s3 H3 s3.heap.objs.size cl fp
  have p5 := hi2 s3 H3 s3.heap.objs.size cl fp
  have p6 := hg2 s3 H3 s3.heap.objs.size cl fp
  have p7 := ht2 s3 H3 s3.heap.objs.size cl fp
  have p8 := he s3 H3 s3.heap.objs.size cl fp
  rw [← hcl, ← hH3, ← hce, ← hs4] at I4
  rw [← hce] at p0 p1 p2 p3 p4 p5 p6 p7 p8
  rw [← hH3] at I3 f3 wz
  have stat : ∀ b ∈ fp, FpOk (Bk X s3 H3 scope ce fp) [] H3 b := fun b hb =>
    ⟨(f3 b hb).1.1, (I4.ok.exf b hb).1, I4.ok.exfs b hb, .inl hb, fun x c e => (I4.ok.exf b hb).2 x c e, fun p hp => absurd (show p ∈ ([] : List (Addr × Obj)) ++ [] from hp) (by simp)⟩
  have d2 := does_push (D := D) p8
  have d1 := does_next (D := D) (body := pushOf ex ce (.ref D)) hc rfl (fun it => turn2 (ex := ex) (t0 := t0) (i0 := i0) (t1 := t1) (i1 := i1) (t2 := t2) (i2 := i2) (f2 := f2) (f0 := f0) (f1 := f1) (sc := scope) (pos := pos)) start2 (fs2 ce) p5 p6 p7 d2 (vs := v2) (fun i hi => nomatch hi)
  have d0 := does_next (D := D) hc rfl (fun it => turn1 (ex := ex) (t0 := t0) (i0 := i0) (t1 := t1) (i1 := i1) (f1 := f1) (t2 := t2) (i2 := i2) (f0 := f0) (f2 := f2) (sc := scope) (pos := pos)) start1 (fs1 ce) p2 p3 p4 d1 (vs := v1) sub2
  have loop : codeAny (model X.prog X.w) X.A (.compLoop (lc3 ex t0 i0 t1 i1 t2 i2 f0 f1 f2 scope pos) 0 (.ref it) (.ref D) ce) (compPost (model X.prog X.w) X.A X.xe none (EP X pins σ Q) (.ref D) s3.heap.objs.size) s4 := by
    refine level hc (fun it => turn0) p0 p1 d0 sub1 I4 T st4 stat wz turn fun s6 H6 I6 nn => ?_
    have I7 : Inv X pins σ H6 s6 := I3.call' (ch := fp) I6.os I6.base I6.hok I6.bare fun b hb => ⟨(f3 b hb).1.2.2.2.1, (f3 b hb).1.2.1, (f3 b hb).1.2.2.2.2.1, (f3 b hb).1.2.2.2.2.2⟩
    have nC : H6 s3.heap.objs.size = none := by
      rw [← cL]
      exact I6.free
    obtain ⟨m, hn, _⟩ := I6.loc
    have hn : s6.heap.Ns ce.locals m := hn
    rw [cL] at hn
    refine ⟨m, hn, fun h'' sb => ?_⟩
    obtain ⟨y0, y1, y2, y3, y4, y5⟩ := I3.fpOk (Nat.le_refl _) nC
    exact ⟨.ref D, H6, I7.turned (t' := s6.toks) (fun b o hb e => (sb.2 b hb).trans e) y0 y1 y3 y4 y5, rfl, nn⟩
  have done := codeAny_compStart_list loop (T.self X.A 0 _ _ _ st4 loop)
  rw [hce, hcl, hs4, hs3] at done
  exact done
end
end C3
namespace CC
open PySem L2
/-! ### a list that is being made at D, its items seen through a view of the heap that D is not part of -/
section
variable {K : PySem.W.Frag} {D : Addr} {H0 H H' : Hp} {Vw : Hp → Hp} {G : Hp → Prop} {P : Nat → List PyData → Prop} {i : Nat} {us : List V} {ds : List PyData}
structure Made (K : PySem.W.Frag) (Vw : Hp → Hp) (G : Hp → Prop) (P : Nat → List PyData → Prop) (H0 : Hp) (D : Addr) (i : Nat) (H : Hp) (us : List V) (ds : List PyData) : Prop where
  same : Same (Vw H0) (Vw H)
  more : G H
  lst : H D = some (.lst us)
  dat : DpAll K (Vw H) us ds
  inv : P i ds
  len : us.length ≤ i
def MadeI (K : PySem.W.Frag) (Vw : Hp → Hp) (G : Hp → Prop) (P : Nat → List PyData → Prop) (H0 : Hp) (D : Addr) (i : Nat) (H : Hp) : Prop := ∃ us ds, Made K Vw G P H0 D i H us ds
theorem Made.start (v1 : ∀ H o, Vw (upd H D o) = Vw H) (v3 : ∀ H o, G H → G (upd H D o)) (g0 : G H0) (p0 : P 0 []) : MadeI K Vw G P H0 D 0 (upd H0 D (.lst [])) :=
  ⟨[], [], by rw [v1]; exact Same.refl _, v3 _ _ g0, upd_same, .nil, p0, Nat.le_refl _⟩
theorem Made.push (p : Made K Vw G P H0 D i H us ds) (h9 : i < 100000) (v1 : ∀ H o, Vw (upd H D o) = Vw H) (v3 : ∀ H o, G H → G (upd H D o)) {y : V} {d : PyData} {j : Nat} (hj : i < j) (q1 : Dp K (Vw H') y d) (q2 : P j (ds ++ [d])) (q3 : Same (Vw H) (Vw H')) (q4 : H' D = H D) (q5 : G H') :
    ∃ acc, H' D = some (.lst acc) ∧ acc.length < sizeLine ∧ MadeI K Vw G P H0 D j (upd H' D (.lst (acc ++ [y]))) := by
  refine ⟨us, q4.trans p.lst, Nat.lt_of_le_of_lt p.len (Nat.lt_of_lt_of_le h9 (by decide)), us ++ [y], ds ++ [d], ?_, v3 _ _ q5, upd_same, ?_, q2, by rw [List.length_append]; exact Nat.le_trans (Nat.succ_le_succ p.len) hj⟩
  · rw [v1]
    exact p.same.trans q3
  · rw [v1]
    exact dps_app (dps_same q3 _ _ p.dat) (dps_one q1)
theorem Made.skip (p : Made K Vw G P H0 D i H us ds) {j : Nat} (hj : i ≤ j) (q2 : P j ds) (q3 : Same (Vw H) (Vw H')) (q4 : H' D = H D) (q5 : G H') : MadeI K Vw G P H0 D j H' :=
  ⟨us, ds, p.same.trans q3, q5, q4.trans p.lst, dps_same q3 _ _ p.dat, q2, Nat.le_trans p.len hj⟩
end
/-! the plain view: the heap without D -/
abbrev Tr : Hp → Prop := fun _ => True
abbrev MadeP (K : PySem.W.Frag) (P : Nat → List PyData → Prop) (H0 : Hp) (D : Addr) (i : Nat) (H : Hp) : Prop := MadeI K (fun H => wo H D) Tr P H0 D i H
section
variable {K : PySem.W.Frag} {D : Addr} {H0 H H' : Hp} {P : Nat → List PyData → Prop} {i : Nat} {us : List V} {ds : List PyData}
theorem madeP_start (p0 : P 0 []) : MadeP K P H0 D 0 (upd H0 D (.lst [])) := Made.start (fun H o => wo_upd D o) (fun _ _ z => z) trivial p0
theorem madeP_push (p : Made K (fun H => wo H D) Tr P H0 D i H us ds) (h9 : i < 100000) {y : V} {d : PyData} {j : Nat} (hj : i < j) (q3 : Same H H') (q1 : Dp K (wo H' D) y d) (q2 : P j (ds ++ [d])) :
    ∃ acc, H' D = some (.lst acc) ∧ acc.length < sizeLine ∧ MadeP K P H0 D j (upd H' D (.lst (acc ++ [y]))) :=
  p.push h9 (fun H o => wo_upd D o) (fun _ _ z => z) hj q1 q2 (wo_same q3) ((q3 _ _ p.lst).trans p.lst.symm) trivial
theorem madeP_skip (p : Made K (fun H => wo H D) Tr P H0 D i H us ds) {j : Nat} (hj : i ≤ j) (q3 : Same H H') (q2 : P j ds) : MadeP K P H0 D j H' :=
  p.skip hj q2 (wo_same q3) ((q3 _ _ p.lst).trans p.lst.symm) trivial
/-- what stood before the list, still stands -/
theorem Made.old (p : Made K (fun H => wo H D) Tr P H0 D i H us ds) (n : H0 D = none) : Same H0 H := fun b o e => wo_le D _ _ (p.same b o (by rw [wo_ne (ne_of_none e n)]; exact e))
/-- a new tuple in the view -/
theorem tup_new {t : Addr} {xs : List V} {u : HO} (hD : H D = some u) (n : H t = none) : SqT K (wo (upd H t (.tup xs)) D) t xs := by
  have ne : t ≠ D := (ne_of_none hD n).symm
  rw [wo_upd_ne _ ne]
  exact .inl (.inl upd_same)
/-- the made list, whole -/
theorem Made.dp (p : Made K (fun H => wo H D) Tr P H0 D i H us ds) : Dp K H (.ref D) (.list ds) := .lst (.inl (.inl p.lst)) (dps_same (wo_le D) _ _ p.dat)
end
theorem yes_if {σ : L2.St} {H : Hp} {A B : Hp → Prop} (h : A H) : tYes σ H fun y H3 => if y = true then A H3 else B H3 := by
  show if true = true then A H else B H
  exact iteT h
/-! ### the columns 0 .. z - 1 as values -/
def cols (z : Nat) : List V := (List.range z).map fun (i : Nat) => V.int (i : Int)
theorem cols_len (z : Nat) : (cols z).length = z := by rw [cols, List.length_map, List.length_range]
theorem cols_at {z i : Nat} {x : V} (h : (cols z)[i]? = some x) : i < z ∧ x = .int (i : Int) := by
  rw [cols, List.getElem?_map] at h
  by_cases hi : i < z
  · rw [List.getElem?_range hi] at h
    exact ⟨hi, (Option.some.inj h).symm⟩
  · rw [List.getElem?_eq_none (by rw [List.length_range]; omega)] at h
    cases h
theorem cols_rg (z : Nat) : rgV 0 (z : Int) = cols z := by
  unfold rgV cols
  rw [show ((z : Int) - 0).toNat = z by omega]
  refine List.map_congr_left fun i _ => ?_
  rw [Int.zero_add]
/-! ### all rules for a width -/
def row (w a : Nat) (k : Bool) : List R := ((List.range w).filter fun b => decide (a ≠ b)).map fun b => ⟨k, a, b⟩
def allR (w : Nat) : List R := [true, false].flatMap fun k => (List.range w).flatMap fun a => row w a k
end CC
namespace CC
open PySem L2
/-! ### a list of things of one shape that is being made at D -/
section
variable {α : Type} {f : α → PyData} {K : PySem.W.Frag} {H0 H H' : Hp} {D : Addr} {n m : Nat} {rs rs' : List α}
def MadeF (f : α → PyData) (K : PySem.W.Frag) (H0 : Hp) (D : Addr) (n : Nat) (H : Hp) (rs : List α) : Prop := ∃ us, Same (wo H0 D) (wo H D) ∧ H D = some (.lst us) ∧ DpAll K (wo H D) us (rs.map f) ∧ us.length ≤ n
theorem MadeF.start : MadeF f K H0 D 0 (upd H0 D (.lst [])) [] := by
  refine ⟨[], ?_, upd_same, .nil, Nat.le_refl _⟩
  rw [wo_upd]
  exact Same.refl _
theorem MadeF.up (p : MadeF f K H0 D n H rs) (h : n ≤ m) (e : rs = rs') : MadeF f K H0 D m H rs' := by
  obtain ⟨us, p1, p2, p3, p4⟩ := p
  subst e
  exact ⟨us, p1, p2, p3, Nat.le_trans p4 h⟩
theorem MadeF.push {r : α} {y : V} (p : MadeF f K H0 D n H rs) (h9 : n < 100000) (hm : n < m) (q3 : Same H H') (q1 : Dp K (wo H' D) y (f r)) :
    ∃ acc, H' D = some (.lst acc) ∧ acc.length < sizeLine ∧ MadeF f K H0 D m (upd H' D (.lst (acc ++ [y]))) (rs ++ [r]) := by
  obtain ⟨us, p1, p2, p3, p4⟩ := p
  refine ⟨us, q3 _ _ p2, Nat.lt_of_le_of_lt p4 (Nat.lt_of_lt_of_le h9 (by decide)), us ++ [y], ?_, upd_same, ?_, ?_⟩
  · rw [wo_upd]
    exact p1.trans (wo_same q3)
  · rw [wo_upd, List.map_append]
    exact dps_app (dps_same (wo_same q3) _ _ p3) (dps_one q1)
  · rw [List.length_append]
    exact Nat.le_trans (Nat.succ_le_succ p4) hm
theorem MadeF.keep (p : MadeF f K H0 D n H rs) (q3 : Same H H') (h : n ≤ m) (e : rs = rs') : MadeF f K H0 D m H' rs' := by
  obtain ⟨us, p1, p2, p3, p4⟩ := p
  subst e
  exact ⟨us, p1.trans (wo_same q3), q3 _ _ p2, dps_same (wo_same q3) _ _ p3, Nat.le_trans p4 h⟩
theorem MadeF.old (p : MadeF f K H0 D n H rs) (h : H0 D = none) : Same H0 H := fun b o e => by
  obtain ⟨us, p1, _⟩ := p
  exact wo_le D _ _ (p1 b o (by rw [wo_ne (ne_of_none e h)]; exact e))
theorem MadeF.tup {t : Addr} {xs : List V} (p : MadeF f K H0 D n H rs) (nt : H t = none) : SqT K (wo (upd H t (.tup xs)) D) t xs := by
  obtain ⟨us, _, p2, _⟩ := p
  exact tup_new p2 nt
theorem free_back (e : Same H H') {a : Addr} (h : H' a = none) : H a = none := e.free h
end
/-- what a def that hands back a new list of such things promises -/
def NewF {α : Type} (f : α → PyData) (K : PySem.W.Frag) (H : Hp) (rs : List α) (Q : VK) : Prop := ∀ (p : Addr) (us : List V) (H' : Hp), Same H H' → H p = none → H' p = some (.lst us) → DpAll K (wo H' p) us (rs.map f) → Q (.ref p) H'
theorem MadeF.out {α : Type} {f : α → PyData} {K : PySem.W.Frag} {H H0 H' : Hp} {D : Addr} {n : Nat} {rs : List α} {Q : VK} (p : MadeF f K H0 D n H' rs) (h : H0 D = none) (s : Same H H0) (q : NewF f K H rs Q) : Q (.ref D) H' := by
  have o := p.old h
  obtain ⟨us, p1, p2, p3, p4⟩ := p
  exact q D us H' (s.trans o) (s.free h) p2 p3
abbrev g3 (K : PySem.W.Frag) (i j k : Nat) : TG := gTup K 3 (gCons (gName i) (gCons (gName j) (gCons (gName k) gNil)))
abbrev g2 (K : PySem.W.Frag) (i j : Nat) : TG := gTup K 2 (gCons (gName i) (gCons (gName j) gNil))
end CC
/-! A set made of a list or tuple of things of one kind, and how many members it has. -/
namespace SG
open PySem PySem.Spec PyProof.Rows L2
section kinds
variable {P : Program} {w : World} {κ : Type} [DecidableEq κ] {kn : KeyKind P w κ} {A : Around} {E : Value → Shared → Prop} {s : Shared}
/-- things of the kind come from no class statement, and hash by their value -/
structure Tame (kn : KeyKind P w κ) : Prop where
  cls : ∀ (n : Nat) (k : κ) (v : Value), kn.is k v = true → ofAClassStatement n v = pure false
  byv : ∀ (n : Nat) (k : κ) (v : Value), kn.is k v = true → ∃ b, hashByValue n v = pure b
theorem tame_mix : Tame (mixKind P w) := by
  constructor
  · intro n k v h
    rcases keyIs_shape h with ⟨i, t, _, rfl⟩ | ⟨x, t, _, rfl⟩ <;> cases n <;> rfl
  · intro n k v h
    rcases keyIs_shape h with ⟨i, t, _, rfl⟩ | ⟨x, t, _, rfl⟩ <;> exact ⟨_, hashByValue_scannable n rfl⟩
theorem each_is {ks : List κ} {us : List Value} (h : ItemsAre kn ks us) : ∀ u ∈ us, ∃ k, kn.is k u = true := by
  induction h with
  | nil => exact fun u hu => nomatch hu
  | @cons k v _ _ q _ ih =>
    intro u hu
    cases hu with
    | head => exact ⟨k, q⟩
    | tail _ hu => exact ih u hu
theorem tup_cls (Tm : Tame kn) {ks : List κ} {b : Addr} {Q : Bool → Shared → Prop} (hb : IsTupleKey kn s.heap ks b) (q : Q false s) : wpAny (model P w) A (ofAClassStatement 8 (.ref b)) Q E s := by
  have ty := hb.typeIs
  obtain ⟨ob, its, m, g1, _, g2, g3⟩ := hb
  unfold ofAClassStatement
  refine wpAny_bind (wpAny_typeOf ty ?_)
  dsimp only
  have e0 : (("tuple" : String) == "tuple") = true := by decide
  simp only [e0, if_true, Bool.not_true, Bool.false_eq_true, if_false]
  try refine wpAny_bind (wpAny_pure ?_)
  try simp only [Bool.not_true, Bool.false_eq_true, if_false]
  show wpAny _ _ (seqItems? (.ref b) >>= _) _ _ s
  refine wpAny_bind (wpAny_seqItems g1 g2 ?_)
  dsimp only
  refine wpAny_bind ?_
  show wpAny _ _ (forIn its _ _) _ _ s
  rw [← Array.forIn_toList]
  refine wpAny_forIn_list _ (fun left r s' => r.1 = none ∧ s' = s ∧ ∀ u ∈ left, ∃ k, kn.is k u = true) _ ?_ ?_ _ _ ⟨rfl, rfl, each_is g3⟩
  · rintro u left r s' ⟨hr, rfl, al⟩
    obtain ⟨k, hk⟩ := al u List.mem_cons_self
    rw [Tm.cls _ k u hk]
    refine wpAny_bind (wpAny_pure ?_)
    simp only [Bool.false_eq_true, if_false]
    exact wpAny_pure ⟨rfl, rfl, fun x hx => al x (List.mem_cons_of_mem _ hx)⟩
  · rintro ⟨r1, r2⟩ s' ⟨hr, rfl, _⟩
    simp only at hr
    subst hr
    exact wpAny_pure q
theorem tup_byv (Tm : Tame kn) {ks : List κ} {b : Addr} {Q : Bool → Shared → Prop} (hb : IsTupleKey kn s.heap ks b) (q : ∀ y, Q y s) : wpAny (model P w) A (hashByValue 8 (.ref b)) Q E s := by
  have ty := hb.typeIs
  obtain ⟨ob, its, m, g1, _, g2, g3⟩ := hb
  unfold hashByValue
  refine wpAny_bind (wpAny_specialOf ty F.slot_tuple_hash.lookup ?_)
  show wpAny _ _ (seqItems? (.ref b) >>= _) _ _ s
  refine wpAny_bind (wpAny_seqItems g1 g2 ?_)
  refine wpAny_bind ?_
  show wpAny _ _ (forIn its _ _) _ _ s
  rw [← Array.forIn_toList]
  refine wpAny_forIn_list _ (fun left r s' => s' = s ∧ ∀ u ∈ left, ∃ k, kn.is k u = true) _ ?_ ?_ _ _ ⟨rfl, each_is g3⟩
  · rintro u left r s' ⟨rfl, al⟩
    obtain ⟨k, hk⟩ := al u List.mem_cons_self
    obtain ⟨y, hy⟩ := Tm.byv 7 k u hk
    rw [hy]
    refine wpAny_bind (wpAny_pure ?_)
    cases y with
    | true =>
      simp only [Bool.not_true, Bool.false_eq_true, if_false]
      exact wpAny_pure ⟨rfl, fun x hx => al x (List.mem_cons_of_mem _ hx)⟩
    | false =>
      simp only [Bool.not_false, if_true]
      exact wpAny_pure (wpAny_pure (q _))
  · rintro ⟨r1, r2⟩ s' ⟨rfl, _⟩
    cases r1 with
    | none => exact wpAny_pure (q _)
    | some y => exact wpAny_pure (q _)
theorem tup_unseen (Tm : Tame kn) {ks : List κ} {b : Addr} {Q : Bool → Shared → Prop} (hb : IsTupleKey kn s.heap ks b) {us : List Value} (hus : ∀ u ∈ us, ∃ js c, u = Value.ref c ∧ IsTupleKey kn s.heap js c) (q : Q false s) :
    wpAny (model P w) A (searchCouldBeSeen (.ref b) us) Q E s := by
  unfold searchCouldBeSeen
  refine wpAny_bind ?_
  refine wpAny_forIn_list _ (fun left r s' => r.1 = none ∧ s' = s ∧ ∀ u ∈ left, ∃ js c, u = Value.ref c ∧ IsTupleKey kn s.heap js c) _ ?_ ?_ _ _ ⟨rfl, rfl, hus⟩
  · rintro u left r s' ⟨hr, rfl, al⟩
    obtain ⟨js, c, rfl, hc⟩ := al u List.mem_cons_self
    have al2 : ∀ x ∈ left, ∃ js c, x = Value.ref c ∧ IsTupleKey kn s'.heap js c := fun x hx => al x (List.mem_cons_of_mem _ hx)
    dsimp only
    by_cases hv : (b == c || (carriedByValue (.ref b) && carriedByValue (.ref c))) = true
    · exact wp_if_pos hv (wpAny_pure ⟨rfl, rfl, al2⟩)
    · refine wp_if_neg hv (wpAny_bind (wpAny_eqIsQuiet_tuple hb ?_))
      simp only [Bool.not_true, Bool.false_eq_true, if_false]
      refine wpAny_bind (wpAny_eqIsQuiet_tuple hc ?_)
      simp only [Bool.not_true, Bool.false_eq_true, if_false]
      refine wpAny_bind (tup_cls Tm hb ?_)
      simp only [Bool.false_eq_true, if_false]
      refine wpAny_bind (tup_cls Tm hc ?_)
      simp only [Bool.false_eq_true, if_false]
      exact wpAny_pure ⟨rfl, rfl, al2⟩
  · rintro ⟨r1, r2⟩ s' ⟨hr, rfl, _⟩
    simp only at hr
    subst hr
    exact wpAny_pure q
/-! ### a set of tuples of the kind -/
abbrev hs (kn : KeyKind P w κ) (k : List κ) : Int := tupleKeyHash kn k
abbrev Mem (κ : Type) := Addr × List κ
def ents (kn : KeyKind P w κ) (M : List (Mem κ)) : List (Int × Value) := M.map fun m => (hs kn m.2, Value.ref m.1)
structure TSet (kn : KeyKind P w κ) (h : Heap) (a : Addr) (M : List (Mem κ)) (es : Array (Int × Value)) (ep : Nat) (t : SetTable) : Prop where
  obj : ∃ o, h.get? a = some o ∧ o.ExactSet ∧ o.data = .set es ep t
  ent : es.toList = ents kn M
  tok : TabOk t (M.map fun m => hs kn m.2)
  uni : (M.map (·.2)).Nodup
  mem : ∀ m ∈ M, IsTupleKey kn h m.2 m.1
  led : w.params.followText "set-order" = true ∨ t.led = true
  rom : M.length * 5 < t.mask * 3
  few : M.length < 64
variable {a : Addr} {M : List (Mem κ)} {es : Array (Int × Value)} {ep : Nat} {t : SetTable}
theorem ents_len (e : es.toList = ents kn M) : es.size = M.length := by
  have q := congrArg List.length e
  rw [ents, List.length_map, Array.length_toList] at q
  exact q
theorem ents_at (e : es.toList = ents kn M) {i : Nat} {m : Mem κ} (h : M[i]? = some m) : es[i]? = some (hs kn m.2, Value.ref m.1) := by
  rw [← Array.getElem?_toList, e, ents, List.getElem?_map, h]
  rfl
theorem fits_of (T : TabOk t (M.map fun m => hs kn m.2)) (n : es.size = M.length) (r : M.length ≤ t.mask) : t.fits es.size = true := by
  have z := T.sz
  rw [List.length_map] at z
  unfold SetTable.fits SetTable.fill
  rw [T.dm, Bool.and_eq_true, beq_iff_eq, decide_eq_true_eq]
  show t.place.size = es.size ∧ t.place.size + 0 ≤ t.mask
  omega
theorem TSet.fit (S : TSet kn s.heap a M es ep t) : t.fits es.size = true := fits_of S.tok (ents_len S.ent) (by have := S.rom; omega)
theorem nodummy (m : Nat) : ∀ (n : Nat) (p : SetTable.Probe), p.dummy = none → (nth m p n).dummy = none
  | 0, _, h => h
  | n + 1, p, h => nodummy m n (adv m p) (by unfold adv; split <;> exact h)
abbrev st0 (m : Nat) (h : Int) : SetTable.Probe := runAt m (SetTable.bits h % (m + 1)) (SetTable.bits h)
/-- the search along the way, from its c-th step -/
theorem look (Tm : Tame kn) (S : TSet kn s.heap a M es ep t) {x : Addr} {k : List κ} (hx : IsTupleKey kn s.heap k x) (hu : A.units < cLine) {N : Nat} (hN : N < 10 * SetTable.turns t.mask)
    (fr : way t.mask (hs kn k) N ∉ t.place.toList) (oc : ∀ c, c < N → way t.mask (hs kn k) c ∈ t.place.toList) {Q : SetFound → Shared → Prop}
    (yes : k ∈ M.map (·.2) → Q (.there none) s) (no : k ∉ M.map (·.2) → Q (.free (way t.mask (hs kn k) N) false) s) :
    ∀ (f c : Nat) (sd : Option SetTable.Probe), sd.getD (t.probeStart (hs kn k)) = nth t.mask (st0 t.mask (hs kn k)) c → c ≤ N → N - c < f →
      (∀ (i : Nat) m, M[i]? = some m → m.2 = k → ∃ d, c ≤ d ∧ d < N ∧ t.place.toList[i]? = some (way t.mask (hs kn k) d)) →
      wpAny (model P w) A (setSearchFrom a (.ref x) (hs kn k) true f sd) Q E s
  | 0, _, _, _, _, z, _ => absurd z (Nat.not_lt_zero _)
  | f + 1, c, sd, hsd, hc, hf, ahead => by
    obtain ⟨ob, g1, g2, g3⟩ := S.obj
    rw [setSearchFrom_succ]
    refine wpAny_bind (wpAny_setState_of g1 g3 S.fit ?_)
    dsimp only
    have gw : ¬ t.gaveWay = true := by
      unfold SetTable.gaveWay
      rw [mask_odd S.tok.mok]
      decide
    refine wp_if_neg gw ?_
    try refine wpAny_bind (wpAny_pure ?_)
    have shift : ∀ q, nth t.mask (nth t.mask (st0 t.mask (hs kn k)) c) q = nth t.mask (st0 t.mask (hs kn k)) (c + q) := fun q => (nth_add t.mask c _ q).symm
    have at_ : ∀ q, (nth t.mask (nth t.mask (st0 t.mask (hs kn k)) c) q).j = way t.mask (hs kn k) (c + q) := fun q => congrArg SetTable.Probe.j (shift q)
    have last : c + (N - c) = N := by omega
    have told := go_spec t S.tok.ris S.tok.dm (fun i => (es[i]?.map (·.1)).getD 0) (hs kn k) (10 * SetTable.turns t.mask) (N - c) _ (nodummy t.mask c (st0 t.mask (hs kn k)) rfl) (by omega)
      (fun q hq => by rw [at_]; exact oc _ (by omega)) (by rw [at_, last]; exact fr)
    have hsh : ∀ (i : Nat) m, M[i]? = some m → (fun i => (es[i]?.map (·.1)).getD 0) i = hs kn m.2 := fun i m hm => by
      show (es[i]?.map (·.1)).getD 0 = _
      rw [ents_at S.ent hm]
      rfl
    rcases told with ⟨q, i, hq, hi, _, before, ans⟩ | ⟨before, ans⟩
    · have ans' : t.probe (fun i => (es[i]?.map (·.1)).getD 0) (hs kn k) (sd.getD (t.probeStart (hs kn k))) = some (.candidate (way t.mask (hs kn k) (c + q)) i (nth t.mask (st0 t.mask (hs kn k)) (c + (q + 1)))) := by
        rw [hsd, ← at_, ← shift]
        exact ans
      rw [ans']
      dsimp only
      rw [at_] at hi
      have il : i < M.length := by
        have z1 := (List.getElem?_eq_some_iff.mp hi).1
        have z2 := S.tok.sz
        rw [List.length_map] at z2
        rw [Array.length_toList] at z1
        omega
      obtain ⟨m, hm⟩ : ∃ m, M[i]? = some m := ⟨_, List.getElem?_eq_getElem il⟩
      have mm : m ∈ M := List.mem_of_getElem? hm
      have go : wpAny (model P w) A (searchRest a (.ref x) (hs kn k) true f es t (way t.mask (hs kn k) (c + q)) i (nth t.mask (st0 t.mask (hs kn k)) (c + (q + 1)))) Q E s := by
        unfold searchRest
        rw [ents_at S.ent hm]
        dsimp only
        refine wpAny_bind (wpAny_holding (wpAny_eqBool_tuple hu (S.mem m mm) hx ?_))
        refine wpAny_bind (wpAny_setState_of g1 g3 S.fit ?_)
        dsimp only
        by_cases same : m.2 = k
        · exact wp_if_pos (by simp [same]) (wpAny_pure (yes (List.mem_map.mpr ⟨m, mm, same⟩)))
        · refine wp_if_neg (by simp [same]) ?_
          try refine wpAny_bind (wpAny_pure ?_)
          rw [sameMem]
          dsimp only
          have live : t.slot (way t.mask (hs kn k) (c + q)) = .live i := slot_live S.tok.ris hi
          simp only [if_true, live, ents_at S.ent hm]
          refine wpAny_bind (wpAny_isSame_ref_self (wpAny_bind (wpAny_pure ?_)))
          simp only [if_true]
          refine wp_if_neg (by simp [same]) ?_
          refine look Tm S hx hu hN fr oc yes no f (c + (q + 1)) _ rfl (by omega) (by omega) fun j n hj hn => ?_
          obtain ⟨d, d1, d2, d3⟩ := ahead j n hj hn
          refine ⟨d, ?_, d2, d3⟩
          rcases Nat.lt_trichotomy d (c + q) with z | z | z
          · have z0 : c + (d - c) = d := by omega
            refine absurd ((hsh j n hj).trans (congrArg (hs kn) hn)) (before (d - c) j (by omega) ?_)
            rw [at_, z0]
            exact d3
          · rw [z] at d3
            have z1 := slot_live S.tok.ris d3
            rw [live] at z1
            injection z1 with z1
            rw [← z1, hm] at hj
            exact absurd ((congrArg Prod.snd (Option.some.inj hj)).trans hn) same
          · omega
      by_cases hl : t.led = true
      · refine wp_if_neg (by simp [hl]) ?_
        try refine wpAny_bind (wpAny_pure ?_)
        exact go
      · refine wp_if_pos (by simp [hl]) ?_
        refine wpAny_bind (tup_unseen Tm hx (fun u hu2 => ?_) ?_)
        · obtain ⟨e, he, ee⟩ := List.mem_map.mp hu2
          have he1 : e ∈ es ∧ e.1 = hs kn k := by simpa using he
          have he2 : e ∈ es.toList := by simpa using he1.1
          rw [S.ent] at he2
          obtain ⟨n, hn, rfl⟩ := List.mem_map.mp he2
          exact ⟨n.2, n.1, ee.symm, S.mem n hn⟩
        · refine wp_if_neg (by decide) ?_
          try refine wpAny_bind (wpAny_pure ?_)
          exact go
    · have ans' : t.probe (fun i => (es[i]?.map (·.1)).getD 0) (hs kn k) (sd.getD (t.probeStart (hs kn k))) = some (.empty (way t.mask (hs kn k) N) none) := by
        have z : way t.mask (hs kn k) N = (nth t.mask (nth t.mask (st0 t.mask (hs kn k)) c) (N - c)).j := by rw [at_, last]
        rw [hsd, z]
        exact ans
      rw [ans']
      dsimp only
      refine wpAny_pure (no fun hm => ?_)
      obtain ⟨m, mm, ek⟩ := List.mem_map.mp hm
      obtain ⟨j, hj⟩ := List.mem_iff_getElem?.mp mm
      obtain ⟨d, d1, d2, d3⟩ := ahead j m hj ek
      have z0 : c + (d - c) = d := by omega
      refine absurd ((hsh j m hj).trans (congrArg (hs kn) ek)) (before (d - c) j (by omega) ?_)
      rw [at_, z0]
      exact d3
theorem look0 (Tm : Tame kn) (S : TSet kn s.heap a M es ep t) {x : Addr} {k : List κ} (hx : IsTupleKey kn s.heap k x) (hu : A.units < cLine) {Q : SetFound → Shared → Prop} (yes : k ∈ M.map (·.2) → Q (.there none) s)
    (no : ∀ N, k ∉ M.map (·.2) → way t.mask (hs kn k) N ∉ t.place.toList → (∀ c, c < N → way t.mask (hs kn k) c ∈ t.place.toList) → Q (.free (way t.mask (hs kn k) N) false) s) :
    wpAny (model P w) A (setSearch a (.ref x) (hs kn k) true) Q E s := by
  have rm := S.rom
  obtain ⟨N, n1, n2, n3⟩ := S.tok.first (by rw [List.length_map]; omega) (hs kn k)
  have big : N < 100000 := by
    have : 10 * SetTable.turns t.mask ≤ 1420 := by
      unfold SetTable.turns
      rcases S.tok.mok with e | e | e <;> omega
    omega
  unfold setSearch
  refine look Tm S hx hu n1 n2 n3 yes (fun z => no N z n2 n3) 100000 0 none rfl (Nat.zero_le _) (by omega) fun i m hm ek => ?_
  have z1 : (M.map fun m => hs kn m.2)[i]? = some (hs kn k) := by
    rw [List.getElem?_map, hm, ← ek]
    rfl
  have z2 : i < t.place.toList.length := by
    have y1 : i < M.length := (List.getElem?_eq_some_iff.mp hm).1
    have y2 := S.tok.sz
    rw [List.length_map] at y2
    rw [Array.length_toList]
    omega
  obtain ⟨d, d1, d2⟩ := S.tok.before n2 z1 (List.getElem?_eq_getElem z2)
  exact ⟨d, Nat.zero_le _, d1, by rw [List.getElem?_eq_getElem z2, d2]⟩
/-! ### laid anew, and added to -/
theorem key_else {h h' : Heap} {k : List κ} {b : Addr} {o : Obj} (hb : IsTupleKey kn h k b) (ho : h.get? a = some o) (hd : o.data = .set es ep t) (sb : Heap.SameBut a h h') : IsTupleKey kn h' k b := by
  obtain ⟨o2, its, n, g1, g2, g3, g4⟩ := hb
  have ne : b ≠ a := fun z => by
    rw [z, ho] at g1
    rw [← Option.some.inj g1, hd] at g3
    exact nomatch g3
  exact ⟨o2, its, n, (sb.2 b ne).trans g1, g2, g3, g4⟩
theorem pick_len {α : Type} (l : List α) : ∀ n, n ≤ l.length → (List.range n).filterMap (fun i => l[i]?) = l.take n
  | 0, _ => by simp
  | n + 1, h => by
    rw [List.range_succ, List.filterMap_append, pick_len l n (by omega), List.take_succ, List.getElem?_eq_getElem h]
    simp [List.filterMap, List.getElem?_eq_getElem h]
theorem pick (e : es.toList = ents kn M) : ∀ js : List Nat, (∀ j ∈ js, j < M.length) →
    js.filterMap (fun j => es[j]?) = ents kn (js.filterMap fun j => M[j]?) ∧ ((js.filterMap fun j => M[j]?).map fun m => hs kn m.2) = js.map fun j => (es.map (·.1)).getD j 0
  | [], _ => ⟨rfl, rfl⟩
  | j :: js, h => by
    have hj : j < M.length := h j List.mem_cons_self
    obtain ⟨i1, i2⟩ := pick e js fun i hi => h i (List.mem_cons_of_mem _ hi)
    have g := List.getElem?_eq_getElem hj
    have z : (es.map (·.1)).getD j 0 = hs kn M[j].2 := by
      have z1 : (es.map (·.1))[j]? = some (hs kn M[j].2) := by
        rw [Array.getElem?_map, ents_at e g]
        rfl
      simp [Array.getD_eq_getD_getElem?, z1]
    constructor
    · rw [List.filterMap_cons_some (ents_at e g), List.filterMap_cons_some g, i1]
      rfl
    · rw [List.filterMap_cons_some g, List.map_cons, List.map_cons, i2, z]
theorem grow {o : Obj} (g1 : s.heap.get? a = some o) (g2 : o.ExactSet) (g3 : o.data = .set es ep t) (en : es.toList = ents kn M) (T : TabOk t (M.map fun m => hs kn m.2)) (fl : M.length ≤ t.mask)
    (un : (M.map (·.2)).Nodup) (me : ∀ m ∈ M, IsTupleKey kn s.heap m.2 m.1) (ld : w.params.followText "set-order" = true ∨ t.led = true) (fw : M.length < 64) {want B : Nat}
    (w1 : SetTable.sizeAbove want - 1 = B) (w2 : MaskOk B) (w3 : SetTable.sizeAbove want ≤ 128) (w4 : M.length * 5 < B * 3) {Q : Unit → Shared → Prop}
    (q : ∀ h' M' es' ep' t', Heap.SameBut a s.heap h' → TSet kn h' a M' es' ep' t' → M'.Perm M → Q () { s with heap := h' }) : wpAny (model P w) A (setRelay a want) Q E s := by
  have n := ents_len en
  obtain ⟨t', order, e1, pm, T', e2, e3, _, _⟩ := relaid_ok t (hs := es.map (·.1)) (wanted := want) w1 w2 (by rw [Array.size_map, n]; omega)
  rw [Array.size_map, n] at pm
  obtain ⟨p1, p2⟩ := pick en order.toList fun j hj => List.mem_range.mp (pm.mem_iff.mp hj)
  have pm2 : (order.toList.filterMap fun j => M[j]?).Perm M := by
    have z := pm.filterMap fun j => M[j]?
    rw [pick_len M M.length (Nat.le_refl _), List.take_length] at z
    exact z
  generalize order.toList.filterMap (fun j => M[j]?) = M' at p1 p2 pm2
  rw [← p2] at T'
  have p3 : (order.filterMap (es[·]?)).toList = ents kn M' := by
    first
      | (rw [Array.toList_filterMap]; exact p1)
      | simpa using p1
  have n2 := ents_len p3
  have n3 := pm2.length_eq
  rw [setRelay_eq]
  refine wpAny_bind (wpAny_setState_of g1 g3 (fits_of T n fl) ?_)
  dsimp only
  refine wp_if_neg (by rw [sizeLine_eq]; omega) ?_
  try refine wpAny_bind (wpAny_pure ?_)
  rw [e1]
  dsimp only
  refine wpAny_bind (wp_if_neg (by rw [n2, n3, n]; simp) ?_)
  try refine wpAny_bind (wpAny_pure ?_)
  refine wpAny_pure ?_
  dsimp only
  refine wpAny_storeSet_of g1 g3 ?_ (by rw [n2, n3, sizeLine_eq]; omega)
  have sb : Heap.SameBut a s.heap (s.heap.update a (Obj.putSet (order.filterMap (es[·]?)) t')) := Heap.SameBut.update ..
  refine q _ M' _ (ep + 1) t' sb ⟨⟨_, store_at g1 g3, ⟨g2.1, g2.2.1, g2.2.2⟩, rfl⟩, p3, T', (pm2.map (·.2)).nodup_iff.mpr un, fun m hm => key_else (me m (pm2.mem_iff.mp hm)) g1 g3 sb, by rw [e3]; exact ld, by rw [n3, e2]; exact w4, by rw [n3]; exact fw⟩ pm2
theorem more (Tm : Tame kn) (S : TSet kn s.heap a M es ep t) {x : Addr} {k : List κ} (hx : IsTupleKey kn s.heap k x) (hu : A.units < cLine) (fw : M.length + 1 < 64) {Q : Bool → Shared → Prop}
    (q : ∀ b h' M' es' ep' t', Heap.SameBut a s.heap h' → TSet kn h' a M' es' ep' t' → (k ∈ M.map (·.2) → M' = M) → (k ∉ M.map (·.2) → M'.Perm ((x, k) :: M)) → Q b { s with heap := h' }) :
    wpAny (model P w) A (setAddHashed a (.ref x) (hs kn k)) Q E s := by
  obtain ⟨o, g1, g2, g3⟩ := S.obj
  have n := ents_len S.ent
  have rm := S.rom
  unfold setAddHashed
  refine wpAny_holding ?_
  rw [show (100000 : Nat) = 99999 + 1 from rfl, setAddHashedIn_succ]
  refine wpAny_bind (wpAny_setState_of g1 g3 S.fit ?_)
  dsimp only
  refine wp_if_neg (by simp [byScan, Value.scannable]) ?_
  try refine wpAny_bind (wpAny_pure ?_)
  refine wpAny_bind (look0 Tm S hx hu (fun hm => ?_) fun N hm f1 f2 => ?_)
  · exact wpAny_pure (q false s.heap M es ep t (Heap.SameBut.refl a s.heap) S (fun _ => rfl) fun z => absurd hm z)
  · dsimp only
    refine wpAny_bind (wpAny_setState_of g1 g3 S.fit ?_)
    dsimp only
    obtain ⟨q1, q2, q3, q4, q5, q6, q7, q8, q9⟩ := S.tok.put f1 f2
    generalize t.put (way t.mask (hs kn k) N) = pt at q1 q3 q4 q5 q6 q7 q8 q9 ⊢
    obtain ⟨t1, p⟩ := pt
    dsimp only at q1 q3 q4 q5 q6 q7 q8 q9 ⊢
    subst q1
    have hin : (SetTable.insertAt es (SetTable.below t.place (way t.mask (hs kn k) N)) (hs kn k, Value.ref x)).toList = ents kn (M.take (SetTable.below t.place (way t.mask (hs kn k) N)) ++ (x, k) :: M.drop (SetTable.below t.place (way t.mask (hs kn k) N))) := by
      rw [SetTable.toList_insertAt, S.ent, ents, ents, List.map_append, List.map_cons, List.map_take, List.map_drop]
    generalize SetTable.below t.place (way t.mask (hs kn k) N) = b at q2 q3 hin ⊢
    have pm := put_perm M b (x, k)
    have ln : (M.take b ++ (x, k) :: M.drop b).length = M.length + 1 := pm.length_eq
    have hh : (M.take b ++ (x, k) :: M.drop b).map (fun m => hs kn m.2) = (M.map fun m => hs kn m.2).take b ++ hs kn k :: (M.map fun m => hs kn m.2).drop b := by
      rw [List.map_append, List.map_cons, List.map_take, List.map_drop]
    rw [← hh] at q3
    have un1 : ((M.take b ++ (x, k) :: M.drop b).map (·.2)).Nodup := by
      refine (pm.map (·.2)).nodup_iff.mpr ?_
      rw [List.map_cons]
      exact List.nodup_cons.mpr ⟨hm, S.uni⟩
    have n1 := ents_len hin
    rw [ln] at n1
    generalize SetTable.insertAt es b (hs kn k, Value.ref x) = es1 at hin n1 ⊢
    generalize M.take b ++ (x, k) :: M.drop b = M1 at pm ln q3 un1 hin
    have tail : ∀ t2 : SetTable, TabOk t2 (M1.map fun m => hs kn m.2) → t2.mask = t.mask → t2.led = t1.led → t2.tooFull = t1.tooFull →
        wpAny (model P w) A (do
          storeSet a es1 t2
          if !false && t2.tooFull then setRelay a (SetTable.grown (es.size + 1))
          return true) Q E s := by
      intro t2 T2 mk ldd tf
      refine wpAny_bind (wpAny_storeSet_of g1 g3 ?_ (by rw [n1, sizeLine_eq]; omega))
      have sb : Heap.SameBut a s.heap (s.heap.update a (Obj.putSet es1 t2)) := Heap.SameBut.update ..
      have so := store_at (es' := es1) (t' := t2) g1 g3
      generalize s.heap.update a (Obj.putSet es1 t2) = h1 at sb so ⊢
      have me1 : ∀ m ∈ M1, IsTupleKey kn h1 m.2 m.1 := fun m hm1 => by
        rcases List.mem_cons.mp (pm.mem_iff.mp hm1) with z | z
        · rw [z]
          exact key_else hx g1 g3 sb
        · exact key_else (S.mem m z) g1 g3 sb
      have ld1 : w.params.followText "set-order" = true ∨ t2.led = true := by
        rw [ldd, q5]
        exact S.led
      by_cases hf : t1.tooFull = true
      · have hf2 : t2.tooFull = true := tf.trans hf
        first
          | (refine wpAny_bind ?_; refine wp_if_pos (by simp [hf2]) ?_)
          | (refine wp_if_pos (by simp [hf2]) ?_; refine wpAny_bind ?_)
        have full : (M.length + 1) * 5 ≥ t1.mask * 3 := by
          have z := hf
          unfold SetTable.tooFull at z
          rw [decide_eq_true_eq, q9, List.length_map] at z
          exact z
        rw [n]
        have two : (t.mask = 7 ∧ M.length = 4) ∨ (t.mask = 31 ∧ M.length = 18) := by
          rcases S.tok.mok with e | e | e
          · left
            rw [q4, e] at full
            rw [e] at rm
            exact ⟨e, by omega⟩
          · right
            rw [q4, e] at full
            rw [e] at rm
            exact ⟨e, by omega⟩
          · exfalso
            rw [q4, e] at full
            omega
        have go : ∀ B, SetTable.sizeAbove (SetTable.grown (M.length + 1)) - 1 = B → MaskOk B → SetTable.sizeAbove (SetTable.grown (M.length + 1)) ≤ 128 → (M.length + 1) * 5 < B * 3 →
            wpAny (model P w) A (setRelay a (SetTable.grown (M.length + 1))) (fun _ s' => wpAny (model P w) A (pure true) Q E s') E { s with heap := h1 } := fun B b1 b2 b3 b4 => by
          refine grow (s := { s with heap := h1 }) so ⟨g2.1, g2.2.1, g2.2.2⟩ rfl hin T2 (by rw [ln, mk]; rcases two with ⟨z, z2⟩ | ⟨z, z2⟩ <;> omega) un1 me1 ld1 (by rw [ln]; exact fw) b1 b2 b3 (by rw [ln]; exact b4) ?_
          intro h2 M2 es2 ep2 t3 sb2 S2 pm2
          exact wpAny_pure (q true h2 M2 es2 ep2 t3 (sb.trans sb2) S2 (fun z => absurd z hm) fun _ => pm2.trans pm)
        rcases two with ⟨_, z⟩ | ⟨_, z⟩
        · exact go 31 (by rw [z, size_20]) (.inr (.inl rfl)) (by rw [z, size_20]; decide) (by omega)
        · exact go 127 (by rw [z, size_76]) (.inr (.inr rfl)) (by rw [z, size_76]; decide) (by omega)
      · have hf2 : ¬ t2.tooFull = true := by
          rw [tf]
          exact hf
        first
          | refine wp_if_neg (by simp [hf2]) ?_
          | (refine wpAny_bind ?_; refine wp_if_neg (by simp [hf2]) ?_; refine wpAny_pure ?_)
        refine wpAny_pure (q true h1 M1 es1 (ep + 1) t2 sb ⟨⟨_, so, ⟨g2.1, g2.2.1, g2.2.2⟩, rfl⟩, hin, T2, un1, me1, ld1, ?_, by rw [ln]; exact fw⟩ (fun z => absurd z hm) fun _ => pm)
        have z := hf
        unfold SetTable.tooFull at z
        rw [decide_eq_true_eq, q9, List.length_map, q4] at z
        rw [ln, mk]
        omega
    have both : ∀ y : Bool, wpAny (model P w) A (do
        storeSet a es1 (if y then t1 else { t1 with plain := false })
        if !false && (if y then t1 else { t1 with plain := false } : SetTable).tooFull then setRelay a (SetTable.grown (es.size + 1))
        return true) Q E s := by
      intro y
      cases y with
      | true => exact tail t1 q3 q4 rfl rfl
      | false => exact tail { t1 with plain := false } ⟨q3.ris, q3.dm, q3.sz, q3.mok, q3.bd, q3.reach⟩ q4 rfl rfl
    by_cases pl : t1.plain = true
    · first
        | (refine wpAny_bind ?_; refine wp_if_pos pl ?_; refine tup_byv Tm hx fun y => ?_)
        | refine wp_if_pos pl (wpAny_bind (tup_byv Tm hx fun y => ?_))
      exact both y
    · first
        | (refine wpAny_bind ?_; refine wp_if_neg pl ?_; refine wpAny_pure ?_)
        | refine wp_if_neg pl (wpAny_bind (wpAny_pure ?_))
      exact both true
end kinds
end SG
namespace SG
open PySem PySem.Spec PyProof.Rows L2
/-- what a set at S, filled one by one, is known to be behind i things; base: what stood before it -/
structure Fills (P : Program) (w : World) (A : Around) (S : Addr) (base : Heap) (n : Nat) (Pv : Nat → Value → Prop) (J : Nat → Heap → Prop) : Prop where
  stay : ∀ (i : Nat) (h h' : Heap), J i h → (∀ b o, (b = S ∨ ∃ x, base.get? b = some x) → h.get? b = some o → h'.get? b = some o) → J i h'
  adds : ∀ (i : Nat) (v : Value) (s : Shared) (Q : Shared → Prop) (E : Value → Shared → Prop), i < n → Pv i v → J i s.heap →
    (∀ (h' : Heap) (tk : Nat), s.toks ≤ tk → Heap.SameBut S s.heap h' → J (i + 1) h' → Q { s with heap := h', toks := tk }) → wpAny (model P w) A (setAdd S v) (fun _ s' => Q s') E s
section
variable {P : Program} {w : World} {A : Around} {s : Shared}
theorem fill {I S : Addr} {fp wr : List Addr} {G : Array GenState → Array GenState → Prop} {n : Nat} {Pv : Nat → Value → Prop} {St : Nat → Shared → Prop} {R : Result → Shared → Prop} {base : Heap} {J : Nat → Heap → Prop}
    (W : WalksS P w A.in1 I fp wr G n Pv St) (Fi : Fills P w A.in1 S base n Pv J) (off : S ∉ fp) (old : ∀ b ∈ wr, base.get? b = none) : ∀ (d i : Nat) (s : Shared), n - i = d → i ≤ n → St i s → J i s.heap →
      (∀ s', Moved (S :: wr) G s s' → J n s'.heap → R (.ok (.ret .none)) s') → codeAny (model P w) A (.builtin "set.update.loop" ⟨[.ref S, .ref I], []⟩) R s := by
  have up : ∀ b ∈ wr, b ∈ S :: wr := fun b hb => List.mem_cons_of_mem _ hb
  have still : ∀ {i : Nat} {s s' : Shared}, Moved wr G s s' → J i s.heap → J i s'.heap := fun {i s s'} mv j => Fi.stay i _ _ j fun b o hb e => mv.heap b o (fun hw => by
    rcases hb with z | ⟨x, z⟩
    · exact off (W.sub _ (z ▸ hw))
    · rw [old b hw] at z
      cases z) e
  intro d
  induction d with
  | zero =>
    intro i s hd hi st j fin
    have e : i = n := by omega
    subst e
    refine codeAny_builtin F.entry_set_update_loop ?_
    rw [Around.under_plainId F.plain_set_update_loop _]
    show wpAny _ A.in1 (pyNext (.ref I) >>= _) _ _ s
    refine wpAny_bind (W.done s _ _ st fun s' mv => ?_)
    exact wpAny_pure (fin s' (mv.mono up) (still mv j))
  | succ d ih =>
    intro i s hd hi st j fin
    have lt : i < n := by omega
    refine codeAny_builtin F.entry_set_update_loop ?_
    rw [Around.under_plainId F.plain_set_update_loop _]
    show wpAny _ A.in1 (pyNext (.ref I) >>= _) _ _ s
    refine wpAny_bind (W.item i s _ _ lt st fun v s' pv st' mv => ?_)
    show wpAny _ A.in1 (holding [v] (setAdd S v) >>= _) _ _ s'
    refine wpAny_bind (wpAny_holding (Fi.adds i v s' _ _ lt pv (still mv j) fun h' tk ht sb j' => ?_))
    have out : ∀ b o, b ∉ S :: wr → s'.heap.get? b = some o → h'.get? b = some o := fun b o hb e => by
      rw [sb.2 b fun z => hb (by rw [z]; exact List.mem_cons_self)]
      exact e
    refine wpAny_pure ⟨plainId_quiet F.plain_set_update_loop _, ih (i + 1) _ (by omega) lt (W.frame _ s' _ _ st' ht fun b hb o e => ?_) j' fun s2 mv2 j2 => ?_⟩
    · rw [sb.2 b fun z => off (z ▸ hb)]
      exact e
    · exact fin s2 (Moved.trans W.gtrans ((mv.mono up).then_heap ht out) mv2) j2
end
abbrev bare (w : World) : Obj := { cls := .type "set", dict := none, data := .set #[] 0 (.fresh 0 0 (!w.params.followText "set-order")) }
section
variable {P : Program} {w : World} {A : Around} {E : Value → Shared → Prop} {s : Shared}
theorem make {l : Addr} {its : Array Value} {J : Nat → Heap → Prop} {Q : Value → Shared → Prop} (hh : A.handled = none) (hl : s.heap.IsList l its ∨ s.heap.IsTuple l its)
    (Fi : Fills P w A.in1.in1.in1 s.heap.objs.size s.heap its.size (fun i v => its[i]? = some v) J)
    (j0 : ∀ h : Heap, h.get? s.heap.objs.size = some (bare w) → (∀ b o, s.heap.get? b = some o → h.get? b = some o) → J 0 h)
    (q : ∀ (h' : Heap) (tk : Nat), J its.size h' → (∀ b o, s.heap.get? b = some o → h'.get? b = some o) → Q (.ref s.heap.objs.size) { s with heap := h', toks := tk }) :
    wpAny (model P w) A (call (.type "set") [.ref l]) Q E s := by
  obtain ⟨c, tl, hmro⟩ := F.called_set.mro
  have hmade := F.called_set.made
  have hsub := F.called_set.sub
  refine wpAny_call (codeAny_of_tree ?_)
  show wpAny _ _ (callAny (.type "set") _) _ _ _
  refine wpAny_pure ⟨Code.quiet_builtin _ (by decide +kernel), codeAny_builtin F.entry_type_call ?_⟩
  rw [Around.under_plain (weight_type_call_type "set" [.ref l] []) rfl]
  have h1 := F.called_set.notType
  have h2 := F.called_set.canCreate
  have h3 := F.typeCall_set_1 (.ref l)
  repeat (any_goals (first | assumption | wp_step))
  refine codeAny_mono (code_set_led1 (.ref l) (E := E) (Q₁ := fun ob s1 => ob = .ref s.heap.objs.size ∧ s1 = { s with heap := s.heap.push (bare w) }) ⟨rfl, rfl⟩) fun r s1 hr => ?_
  cases r with
  | error e => exact hr
  | ok fl =>
    cases fl with
    | ret ob =>
      obtain ⟨rfl, rfl⟩ := hr
      have g0 : (s.heap.push (bare w)).get? s.heap.objs.size = some (bare w) := Heap.get?_push_size _ rfl
      have ty : Shared.TypeIs { s with heap := s.heap.push (bare w) } (.ref s.heap.objs.size) "set" := ⟨_, g0, rfl⟩
      have h4 := F.called_set.init.lookup
      have h5 := F.called_set.init.bind (.ref s.heap.objs.size)
      repeat (any_goals (first | assumption | wp_step))
      refine codeAny_mono (codeAny_call_builtin (R := wants (fun r s2 => r = .none ∧ ∃ h' tk, s2 = { s with heap := h', toks := tk } ∧ J its.size h' ∧ ∀ b o, s.heap.get? b = some o → h'.get? b = some o) E) F.called_set.init.plain F.entry_set_init (check_set_init_1 ty ?_)) fun r2 s2 hr2 => ?_
      · have lt : ∀ {b o}, s.heap.get? b = some o → b < s.heap.objs.size := fun e => Heap.lt_size e
        have nw : ∀ b, s.heap.objs.size ≤ b → s.heap.get? b = none := fun b hb => by
          cases z : s.heap.get? b with
          | none => rfl
          | some o => exact absurd (Nat.lt_of_lt_of_le (lt z) hb) (Nat.lt_irrefl _)
        have hh3 : A.in1.in1.in1.handled = none := by simp [hh]
        have z1 : (s.heap.push (bare w)).objs.size = s.heap.objs.size + 1 := Heap.size_push ..
        have ends : ∀ (s' : Shared), Moved [s.heap.objs.size, (s.heap.push (bare w)).objs.size] (fun a b => b = a) { s with heap := (s.heap.push (bare w)) } s' → J its.size s'.heap →
            ∃ h' tk, s' = { s with heap := h', toks := tk } ∧ J its.size h' ∧ ∀ b o, s.heap.get? b = some o → h'.get? b = some o := fun s' mv j => by
          obtain ⟨h', g', d', tk, os'⟩ := s'
          have e1 : g' = s.gens := mv.gens
          have e2 : d' = s.drawn := mv.drawn
          have e3 : os' = s.os := mv.os
          subst e1 e2 e3
          refine ⟨h', tk, rfl, j, fun b o e => mv.heap b o (fun hb => ?_) (Heap.get?_push_of_some _ e)⟩
          have hb2 := lt e
          simp only [List.mem_cons, List.not_mem_nil, or_false] at hb
          rcases hb with z | z
          · rw [z] at hb2
            exact Nat.lt_irrefl _ hb2
          · rw [z, z1] at hb2
            exact absurd hb2 (Nat.not_lt.mpr (Nat.le_succ _))
        rcases hl with hl | hl
        · obtain ⟨⟨ocls, odict, odata, oslots⟩, hol, hcl, nl, hdl⟩ := hl
          simp only at hcl hdl
          subst hcl hdl
          have hol' := Heap.get?_push_of_some (bare w) hol
          have hl1 : (s.heap.push (bare w)).IsList l its := ⟨_, hol', rfl, nl, rfl⟩
          have h6 := F.sub_list_set
          have h7 := F.sub_list_frozenset
          have h8 : (Value.type "list" == Value.type "dict") = false := by decide
          unfold Builtin.«set.__init__» noKeywords Builtin.Frozenset.updateFrom
          generalize hPI : pyIter = PI
          wp_walk
          subst hPI
          refine wpAny_pyIter_list hl1 (wpAny_bind (wpAny_runValue ?_))
          have hls := lt hol
          refine fill ((Walks.list hh3 _ l (by rw [z1]; exact Nat.ne_of_lt (Nat.lt_succ_of_lt hls)) its).toS) Fi (by rw [z1]; simp only [List.mem_cons, List.not_mem_nil, or_false, not_or]; exact ⟨Nat.ne_of_lt (Nat.lt_succ_self _), (Nat.ne_of_lt hls).symm⟩) (fun b hb => nw b (by rw [List.mem_singleton.mp hb, z1]; exact Nat.le_succ _)) (its.size - 0) 0 _ (by omega) (Nat.zero_le _)
            ⟨⟨_, Heap.get?_push_size _ rfl, rfl, rfl⟩, hl1.push _⟩ (j0 _ (Heap.get?_push_of_some _ g0) fun b o e => Heap.get?_push_of_some _ (Heap.get?_push_of_some _ e)) fun s' mv j => ?_
          refine wpAny_pure ?_
          obtain ⟨h', tk, e1, e2, e3⟩ := ends s' ⟨fun b o hb e => mv.heap b o hb (Heap.get?_push_of_some _ e), mv.gens, mv.drawn, mv.os, mv.toks⟩ j
          exact wpAny_pure ⟨rfl, h', tk, e1, e2, e3⟩
        · obtain ⟨⟨ocls, odict, odata, oslots⟩, hol, hcl, nl, hdl⟩ := hl
          simp only at hcl hdl
          subst hcl hdl
          have hol' := Heap.get?_push_of_some (bare w) hol
          have hl1 : (s.heap.push (bare w)).IsTuple l its := ⟨_, hol', rfl, nl, rfl⟩
          have h6 := F.sub_tuple_set
          have h7 := F.sub_tuple_frozenset
          have h8 : (Value.type "tuple" == Value.type "dict") = false := by decide
          unfold Builtin.«set.__init__» noKeywords Builtin.Frozenset.updateFrom
          generalize hPI : pyIter = PI
          wp_walk
          subst hPI
          refine wpAny_pyIter_tuple hl1 (wpAny_bind (wpAny_runValue ?_))
          have hls := lt hol
          refine fill ((Walks.tuple hh3 _ l (by rw [z1]; exact Nat.ne_of_lt (Nat.lt_succ_of_lt hls)) its).toS) Fi (by rw [z1]; simp only [List.mem_cons, List.not_mem_nil, or_false, not_or]; exact ⟨Nat.ne_of_lt (Nat.lt_succ_self _), (Nat.ne_of_lt hls).symm⟩) (fun b hb => nw b (by rw [List.mem_singleton.mp hb, z1]; exact Nat.le_succ _)) (its.size - 0) 0 _ (by omega) (Nat.zero_le _)
            ⟨⟨_, Heap.get?_push_size _ rfl, rfl, rfl⟩, hl1.push _⟩ (j0 _ (Heap.get?_push_of_some _ g0) fun b o e => Heap.get?_push_of_some _ (Heap.get?_push_of_some _ e)) fun s' mv j => ?_
          refine wpAny_pure ?_
          obtain ⟨h', tk, e1, e2, e3⟩ := ends s' ⟨fun b o hb e => mv.heap b o hb (Heap.get?_push_of_some _ e), mv.gens, mv.drawn, mv.os, mv.toks⟩ j
          exact wpAny_pure ⟨rfl, h', tk, e1, e2, e3⟩
      · cases r2 with
        | error e => exact hr2
        | ok fl2 =>
          cases fl2 with
          | ret r =>
            obtain ⟨rfl, h', tk, rfl, j, kp⟩ := hr2
            repeat (any_goals (first | assumption | wp_step))
            exact q _ _ j kp
          | _ => exact hr2.elim
    | _ => exact hr.elim
end
end SG
namespace SG
open PySem PySem.Spec PyProof.Rows L2
/-! ### how many different ones -/
section
variable {α : Type} [DecidableEq α]
theorem sub_len : ∀ {l r : List α}, l.Nodup → (∀ x ∈ l, x ∈ r) → l.length ≤ r.length
  | [], _, _, _ => Nat.zero_le _
  | x :: l, r, nd, h => by
    have h1 := List.nodup_cons.mp nd
    have hx := h x List.mem_cons_self
    have h2 : ∀ y ∈ l, y ∈ r.erase x := fun y hy => (List.mem_erase_of_ne (a := y) (b := x) fun e => h1.1 (by rw [← e]; exact hy)).mpr (h y (List.mem_cons_of_mem _ hy))
    have h3 := sub_len h1.2 h2
    rw [List.length_erase_of_mem hx] at h3
    have h4 : 0 < r.length := List.length_pos_of_mem hx
    rw [List.length_cons]
    omega
theorem less : ∀ {r : List α}, ¬ r.Nodup → ∃ l : List α, l.length < r.length ∧ ∀ x ∈ r, x ∈ l
  | [], h => absurd List.nodup_nil h
  | x :: r, h => by
    by_cases hx : x ∈ r
    · refine ⟨r, by simp, fun y hy => ?_⟩
      rcases List.mem_cons.mp hy with e | e
      · rw [e]
        exact hx
      · exact e
    · obtain ⟨l, h1, h2⟩ := less fun nd => h (List.nodup_cons.mpr ⟨hx, nd⟩)
      refine ⟨x :: l, by simpa using h1, fun y hy => ?_⟩
      rcases List.mem_cons.mp hy with e | e
      · rw [e]
        exact List.mem_cons_self
      · exact List.mem_cons_of_mem _ (h2 y e)
theorem as_many {l r : List α} (nd : l.Nodup) (h1 : ∀ x ∈ l, x ∈ r) (h2 : ∀ x ∈ r, x ∈ l) : l.length ≤ r.length ∧ (l.length = r.length ↔ r.Nodup) := by
  refine ⟨sub_len nd h1, fun e => ?_, fun nr => Nat.le_antisymm (sub_len nd h1) (sub_len nr h2)⟩
  rcases Classical.em r.Nodup with z | z
  · exact z
  · obtain ⟨l', q1, q2⟩ := less z
    have := sub_len nd fun x hx => q2 x (h1 x hx)
    omega
theorem take_one {l : List α} {i : Nat} {x : α} (h : l[i]? = some x) : l.take (i + 1) = l.take i ++ [x] := by
  rw [List.take_succ, h]
  rfl
end
section
variable {P : Program} {w : World} {A : Around} {E : Value → Shared → Prop} {s : Shared}
/-! ### tuples of texts and ints -/
theorem fills_tup {ks : List (Mem Key)} {its : Array Value} (e : its.toList = ks.map fun m => Value.ref m.1) (hk : ∀ m ∈ ks, IsTupleKey (mixKind P w) s.heap m.2 m.1) (few : ks.length < 64) (hu : A.units < cLine) :
    Fills P w A s.heap.objs.size s.heap its.size (fun i v => its[i]? = some v) fun i h => (∀ b o, s.heap.get? b = some o → h.get? b = some o) ∧
      ∃ M es ep t, TSet (mixKind P w) h s.heap.objs.size M es ep t ∧ (∀ m ∈ M, m ∈ ks.take i) ∧ (∀ m ∈ ks.take i, m.2 ∈ M.map (·.2)) ∧ M.length ≤ i := by
  have nw : s.heap.get? s.heap.objs.size = none := by
    cases z : s.heap.get? s.heap.objs.size with
    | none => rfl
    | some o => exact absurd (Heap.lt_size z) (Nat.lt_irrefl _)
  have up : ∀ {h : Heap} {m : Mem Key}, (∀ b o, s.heap.get? b = some o → h.get? b = some o) → m ∈ ks → IsTupleKey (mixKind P w) h m.2 m.1 := fun {h m} k hm => by
    obtain ⟨o, items, n, g, r⟩ := hk m hm
    exact ⟨o, items, n, k _ _ g, r⟩
  constructor
  · rintro i h h' ⟨k0, M, es, ep, t, S, m1, m2, m3⟩ kp
    have k1 : ∀ b o, s.heap.get? b = some o → h'.get? b = some o := fun b o q => kp b o (.inr ⟨o, q⟩) (k0 b o q)
    obtain ⟨o, g1, g2⟩ := S.obj
    exact ⟨k1, M, es, ep, t, ⟨⟨o, kp _ _ (.inl rfl) g1, g2⟩, S.ent, S.tok, S.uni, fun m hm => up k1 (List.mem_of_mem_take (m1 m hm)), S.led, S.rom, S.few⟩, m1, m2, m3⟩
  · rintro i v s' Q E' lt pv ⟨k0, M, es, ep, t, S, m1, m2, m3⟩ q
    have z : its.toList[i]? = some v := by
      rw [Array.getElem?_toList]
      exact pv
    rw [e, List.getElem?_map] at z
    obtain ⟨m, hm, rfl⟩ : ∃ m, ks[i]? = some m ∧ v = .ref m.1 := by
      cases y : ks[i]? with
      | none =>
        rw [y] at z
        cases z
      | some m =>
        rw [y] at z
        exact ⟨m, rfl, (Option.some.inj z).symm⟩
    have mm := List.mem_of_getElem? hm
    have il : i < ks.length := (List.getElem?_eq_some_iff.mp hm).1
    have hx := up k0 mm
    unfold setAdd
    refine wpAny_holding (wpAny_bind (wpAny_pyHash_tuple hu hx ?_))
    refine more (s := { s' with toks := s'.toks + (m.2.length + 1) }) tame_mix S hx hu (by omega) fun b h' M' es' ep' t' sb S' c1 c2 => ?_
    refine q h' _ (Nat.le_add_right _ _) sb ⟨fun b o g => (sb.2 b fun y => by rw [y, nw] at g; cases g).trans (k0 b o g), M', es', ep', t', S', ?_⟩
    rw [take_one hm]
    by_cases hin : m.2 ∈ M.map (·.2)
    · rw [c1 hin]
      refine ⟨fun n hn => List.mem_append_left _ (m1 n hn), fun n hn => ?_, by omega⟩
      rcases List.mem_append.mp hn with y | y
      · exact m2 n y
      · rw [List.mem_singleton.mp y]
        exact hin
    · have pm := c2 hin
      refine ⟨fun n hn => ?_, fun n hn => ?_, by rw [pm.length_eq, List.length_cons]; omega⟩
      · rcases List.mem_cons.mp (pm.mem_iff.mp hn) with y | y
        · rw [y]
          exact List.mem_append_right _ (List.mem_singleton.mpr rfl)
        · exact List.mem_append_left _ (m1 n y)
      · rw [(pm.map (·.2)).mem_iff, List.map_cons]
        rcases List.mem_append.mp hn with y | y
        · exact List.mem_cons_of_mem _ (m2 n y)
        · rw [List.mem_singleton.mp y]
          exact List.mem_cons_self
theorem fresh_tup {h : Heap} {a : Addr} (g : h.get? a = some (bare w)) : TSet (mixKind P w) h a [] #[] 0 (.fresh 0 0 (!w.params.followText "set-order")) where
  obj := ⟨_, g, ⟨rfl, rfl, rfl⟩, rfl⟩
  ent := rfl
  tok := ⟨List.Pairwise.nil, rfl, rfl, .inl rfl, (fun x hx => nomatch hx), (fun i h j hi => by simp at hi)⟩
  uni := List.nodup_nil
  mem := fun m hm => nomatch hm
  led := by
    show _ ∨ (!w.params.followText "set-order") = true
    cases w.params.followText "set-order"
    · exact .inr rfl
    · exact .inl rfl
  rom := by
    show 0 * 5 < 7 * 3
    decide
  few := by
    show 0 < 64
    decide
/-! ### texts -/
theorem fills_str {xs : List Str} {its : Array Value} (e : ∀ (i : Nat) v, its[i]? = some v → ∃ x t, xs[i]? = some x ∧ v = Value.str x t) (few : xs.length < 64) :
    Fills P w A s.heap.objs.size s.heap its.size (fun i v => its[i]? = some v) fun i h => (∀ b o, s.heap.get? b = some o → h.get? b = some o) ∧
      ∃ (Sf : Str → Bool) (l : List Str), h.SetOf (PySem.strKind P w) s.heap.objs.size Sf l.length ∧ (∀ k, Sf k = true ↔ k ∈ xs.take i) ∧ l.Nodup ∧ (∀ k, k ∈ l ↔ k ∈ xs.take i) ∧ l.length ≤ i := by
  have nw : s.heap.get? s.heap.objs.size = none := by
    cases z : s.heap.get? s.heap.objs.size with
    | none => rfl
    | some o => exact absurd (Heap.lt_size z) (Nat.lt_irrefl _)
  constructor
  · rintro i h h' ⟨k0, Sf, l, ⟨o, es, ep, t, g, r⟩, m⟩ kp
    exact ⟨fun b o q => kp b o (.inr ⟨o, q⟩) (k0 b o q), Sf, l, ⟨o, es, ep, t, kp _ _ (.inl rfl) g, r⟩, m⟩
  · rintro i v s' Q E' lt pv ⟨k0, Sf, l, S, m1, m2, m3, m4⟩ q
    obtain ⟨x, t, hx, rfl⟩ := e i v pv
    have il : i < xs.length := (List.getElem?_eq_some_iff.mp hx).1
    unfold setAdd
    refine wpAny_holding (wpAny_bind ((PySem.strKind P w).pyHash (k := x) (strKind_is _ _ _ _) ?_))
    refine wpAny_setAddHashed_of (knd := PySem.strKind P w) (s := { s' with toks := s'.toks + 1 }) (strKind_is _ _ _ _) rfl S (by unfold scanBound; omega) fun h' sb S' => ?_
    refine q h' _ (Nat.le_add_right _ _) sb ⟨fun b o g => (sb.2 b fun y => by rw [y, nw] at g; cases g).trans (k0 b o g), ?_⟩
    rw [take_one hx]
    have mem : ∀ k, (Sf k || decide (k = x)) = true ↔ k ∈ xs.take i ++ [x] := fun k => by
      rw [Bool.or_eq_true, decide_eq_true_eq, m1, List.mem_append, List.mem_singleton]
    by_cases hin : Sf x = true
    · rw [hin, if_pos rfl] at S'
      refine ⟨_, l, S', mem, m2, fun k => ?_, by omega⟩
      rw [m3, List.mem_append, List.mem_singleton]
      exact ⟨.inl, fun y => y.elim id fun y => by rw [y]; exact (m1 x).mp hin⟩
    · rw [if_neg hin] at S'
      have hn : x ∉ l := fun y => hin ((m1 x).mpr ((m3 x).mp y))
      refine ⟨_, x :: l, S', mem, List.nodup_cons.mpr ⟨hn, m2⟩, fun k => ?_, by rw [List.length_cons]; omega⟩
      rw [List.mem_cons, m3, List.mem_append, List.mem_singleton]
      exact ⟨fun y => y.elim .inr .inl, fun y => y.elim .inr .inl⟩
end
/-! ### len(set(e)) -/
section
variable {X : Cx}
def tLenSetD (K : PySem.W.Frag) (ta : TE) : TE := fun σ H Q => ta σ H fun x H1 => ∃ l : Addr, x = .ref l ∧
  ((∃ xs : List Str, (SqL K H1 l (xs.map V.str) ∨ SqT K H1 l (xs.map V.str)) ∧ xs.length < 64 ∧ ∀ n : Nat, n ≤ xs.length → (n = xs.length ↔ xs.Nodup) → Q (.int n) H1) ∨
  ∃ ks : List (Mem Key), (SqL K H1 l (ks.map fun m => V.ref m.1) ∨ SqT K H1 l (ks.map fun m => V.ref m.1)) ∧ (∀ m ∈ ks, SqT K H1 m.1 (m.2.map kV)) ∧ ks.length < 64 ∧
    ∀ n : Nat, n ≤ ks.length → (n = ks.length ↔ (ks.map (·.2)).Nodup) → Q (.int n) H1)
theorem its_keys {P : Program} {w : World} : ∀ {k : List Key} {us : List Value}, Vals (k.map kV) us → ItemsAre (mixKind P w) k us
  | [], _, .nil => .nil
  | .inl i :: ks, _, .cons r t => by
    obtain ⟨tk, rfl⟩ := r
    exact .cons (mixKind_int P w i tk) (its_keys t)
  | .inr x :: ks, _, .cons r t => by
    obtain ⟨tk, rfl⟩ := r
    exact .cons (mixKind_str P w x tk) (its_keys t)
theorem its_refs : ∀ {ks : List (Mem Key)} {us : List Value}, Vals (ks.map fun m => V.ref m.1) us → us = ks.map fun m => Value.ref m.1
  | [], _, .nil => rfl
  | m :: ks, _, .cons r t => by
    cases r
    rw [its_refs t]
    rfl
theorem its_strs {xs : List Str} {us : List Value} (r : Vals (xs.map V.str) us) (i : Nat) (v : Value) (h : us[i]? = some v) : ∃ x t, xs[i]? = some x ∧ v = Value.str x t := by
  induction xs generalizing us i with
  | nil =>
    cases r
    simp at h
  | cons y ys ih =>
    cases r with
    | cons r t =>
      obtain ⟨tk, rfl⟩ := r
      cases i with
      | zero =>
        simp at h
        exact ⟨y, tk, rfl, h.symm⟩
      | succ i => exact ih t i (by simpa using h)
theorem pe_lenSetD {a : Expr} {ta : TE} {p p2 q pos : Pos} (hc : X.calm = true) (hu : X.A.units + 3 < cLine) (hg : Gl X "len") (hm : X.mg "len" = none) (hg2 : Gl X "set") (hm2 : X.mg "set" = none) (ha : PE X a ta)
    (na : starEach [a] X.env = (false, eval a X.env) :: starEach [] X.env := by rfl) : PE X (.Call (.Name "len" p) [.Call (.Name "set" p2) [a] [] q] [] pos) (tLenSetD X.K ta) := by
  refine ⟨fun pins s σ H Q I h => ?_⟩
  refine Call_ (ld_blt I hg hm boot_len ?_)
  refine PyProof.Rows.callWith_builtin1 (PyProof.Rows.args_cons ?_ rfl) rfl rfl
  refine Call_ (ld_blt I hg2 hm2 boot_set ?_)
  refine PyProof.Rows.callWith_type1 (PyProof.Rows.args_cons (thn (ha.run pins s σ H _ I h) fun v s1 ⟨x, H1, I1, r1, q1⟩ => PyProof.Rows.args_nil ?_) na) na rfl
  obtain ⟨l, rfl, q1⟩ := q1
  cases r1
  have seq : ∀ {vs : List V}, (SqL X.K H1 l vs ∨ SqT X.K H1 l vs) → ∃ its : Array Value, Vals vs its.toList ∧ (s1.heap.IsList l its ∨ s1.heap.IsTuple l its) := fun {vs} hq => by
    rcases hq with hq | hq
    · obtain ⟨its, r, pl, _⟩ := I1.list hq
      exact ⟨its.toArray, by simpa using r, .inl pl.isList⟩
    · obtain ⟨its, r, pl, _⟩ := I1.tuple hq
      exact ⟨its.toArray, by simpa using r, .inr pl⟩
  have fin : ∀ (h' : Heap) (tk : Nat) (o : Obj) (es : Array (Int × Value)) (ep : Nat) (t : SetTable), h'.get? s1.heap.objs.size = some o → o.ExactSet → o.data = .set es ep t → t.fits es.size = true → (es.size : Int) < 2 ^ 63 →
      (∀ b o, s1.heap.get? b = some o → h'.get? b = some o) → Q (.int es.size) H1 →
      wpAny (model X.prog X.w) X.A (spliced (backTo pos (starEach [] X.env))) (fun vs s2 => wpAny (model X.prog X.w) X.A (call (.builtin "len") (Value.ref s1.heap.objs.size :: vs)) (EP X pins σ Q) X.xe s2) X.xe { s1 with heap := h', toks := tk } := fun h' tk o es ep t g1 g2 g3 g4 g5 kp qq => by
    have I2 : Inv X pins σ H1 { s1 with heap := h', toks := tk } := I1.kept fun b o e => kp b o e
    exact PyProof.Rows.args_nil (call_len_set g1 g2 g3 g4 g5 ⟨.int es.size, H1, I2.tok _, ⟨_, rfl⟩, qq⟩)
  rcases q1 with ⟨xs, hq, few, q1⟩ | ⟨ks, hq, hk, few, q1⟩
  · obtain ⟨its, r, hl⟩ := seq hq
    refine make (I1.ok.hd hc) hl (fills_str (xs := xs) (fun i v hv => its_strs r i v (by rw [Array.getElem?_toList]; exact hv)) few)
      (fun h g kp => ⟨kp, fun _ => false, [], ?_, fun k => by simp, List.nodup_nil, fun k => by simp, Nat.le_refl _⟩) fun h' tk ⟨_, Sf, ls, S, _, m2, m3, m4⟩ kp => ?_
    · exact SetOf_congr ((setObjOf_fresh (knd := PySem.strKind X.prog X.w) (!X.w.params.followText "set-order")).setOf g (by unfold scanBound; omega)) (fun _ => rfl) rfl
    · have n : its.size = xs.length := by
        have z := r.length
        rw [List.length_map, Array.length_toList] at z
        exact z.symm
      rw [n, List.take_length] at m3
      obtain ⟨a1, a2⟩ := as_many m2 (fun x hx => (m3 x).mp hx) fun x hx => (m3 x).mpr hx
      obtain ⟨o, es, ep, t, g1, g2, g3, _, _, _, g4, g5⟩ := S
      refine fin h' tk o es ep t g1 g2 g3 g4 (by rw [g5]; omega) kp ?_
      rw [g5]
      exact q1 _ a1 a2
  · obtain ⟨its, r, hl⟩ := seq hq
    have hx : ∀ m ∈ ks, IsTupleKey (mixKind X.prog X.w) s1.heap m.2 m.1 := fun m hm => by
      obtain ⟨us, ru, ⟨o, g1, g2, n, g3⟩, _⟩ := I1.tuple (hk m hm)
      exact ⟨o, _, n, g1, g2, g3, by simpa using its_keys ru⟩
    refine make (I1.ok.hd hc) hl (fills_tup (its_refs r) hx few hu) (fun h g kp => ⟨kp, [], #[], 0, _, fresh_tup g, (fun m hm => nomatch hm), (fun m hm => by simp at hm), Nat.le_refl _⟩) fun h' tk ⟨_, M, es, ep, t, S, m1, m2, m3⟩ kp => ?_
    have n : its.size = ks.length := by
      have z := r.length
      rw [List.length_map, Array.length_toList] at z
      exact z.symm
    rw [n, List.take_length] at m1 m2
    have zz : (M.map (·.2)).length ≤ (ks.map (·.2)).length ∧ ((M.map (·.2)).length = (ks.map (·.2)).length ↔ (ks.map (·.2)).Nodup) := as_many S.uni (fun x hx2 => by
        obtain ⟨m, hm, rfl⟩ := List.mem_map.mp hx2
        exact List.mem_map.mpr ⟨m, m1 m hm, rfl⟩) fun x hx2 => by
        obtain ⟨m, hm, rfl⟩ := List.mem_map.mp hx2
        exact m2 m hm
    rw [List.length_map, List.length_map] at zz
    obtain ⟨o, g1, g2, g3⟩ := S.obj
    have sz := ents_len S.ent
    refine fin h' tk o es ep t g1 g2 g3 (fits_of S.tok sz (by have := S.rom; omega)) (by rw [sz]; have := S.few; omega) kp ?_
    rw [sz]
    exact q1 _ zz.1 zz.2
end
end SG
namespace CC
open PySem L2
/-! ### where pairs lead -/
inductive Rch (ps : List (Nat × Nat)) (a : Nat) : Nat → Prop
  | refl : Rch ps a a
  | step {b c : Nat} : Rch ps a b → (b, c) ∈ ps → Rch ps a c
theorem Rch.trans {ps : List (Nat × Nat)} {a b c : Nat} (h1 : Rch ps a b) (h2 : Rch ps b c) : Rch ps a c := by
  induction h2 with
  | refl => exact h1
  | step _ h ih => exact ih.step h
theorem Rch.mono {ps qs : List (Nat × Nat)} (h : ∀ x ∈ ps, x ∈ qs) {a b : Nat} (r : Rch ps a b) : Rch qs a b := by
  induction r with
  | refl => exact .refl
  | step _ q ih => exact ih.step (h _ q)
theorem Rch.lt {ps : List (Nat × Nat)} {w a b : Nat} (h : ∀ x ∈ ps, x.1 < w ∧ x.2 < w) (ha : a < w) (r : Rch ps a b) : b < w := by
  cases r with
  | refl => exact ha
  | step _ q => exact (h _ q).2
/-- a set that is closed under the pairs holds all that is reached -/
theorem Rch.within {ps : List (Nat × Nat)} {a b : Nat} {S : Nat → Prop} (ha : S a) (hc : ∀ x y, S x → (x, y) ∈ ps → S y) (r : Rch ps a b) : S b := by
  induction r with
  | refl => exact ha
  | step _ q ih => exact hc _ _ ih q
def nms (ns : List Nat) : List V := ns.map fun (n : Nat) => V.int (n : Int)
theorem nms_len (ns : List Nat) : (nms ns).length = ns.length := List.length_map _
theorem nms_app (ns ms : List Nat) : nms (ns ++ ms) = nms ns ++ nms ms := List.map_append
theorem nms_flat (ns : List Nat) : (nms ns).all flatV = true := by
  rw [List.all_eq_true]
  intro v hv
  obtain ⟨n, _, rfl⟩ := List.mem_map.mp hv
  rfl
theorem nms_in (ns : List Nat) (n : Nat) : inV (.int (n : Int)) (nms ns) = decide (n ∈ ns) := by
  induction ns with
  | nil => simp [inV, nms]
  | cons m ns ih =>
    have e : inV (.int (n : Int)) (nms (m :: ns)) = (((m : Int) == (n : Int)) || inV (.int (n : Int)) (nms ns)) := rfl
    rw [e, ih]
    by_cases h : m = n
    · subst h
      simp
    · have h2 : ¬ n = m := fun z => h z.symm
      have h3 : ((m : Int) == (n : Int)) = false := by
        rw [beq_eq_false_iff_ne]
        omega
      rw [h3]
      simp [h2]
theorem few6 {fs : List Nat} (nd : fs.Nodup) (h : ∀ x ∈ fs, x < 6) : fs.length ≤ 6 := by
  have := SG.sub_len (r := List.range 6) nd fun x hx => List.mem_range.mpr (h x hx)
  rw [List.length_range] at this
  exact this
end CC
namespace CC
open PySem L2 TL
/-- the source at s is one again, all else that stood still stands -/
structure Ran (H H' : Hp) (s : Addr) : Prop where
  same : Same (wo H s) (wo H' s)
  src : ∃ o, H' s = some o ∧ IsSrc o
theorem Ran.one {H : Hp} {s : Addr} {o : HO} (h : IsSrc o) : Ran H (upd H s o) s := ⟨by rw [wo_upd]; exact Same.refl _, o, upd_same, h⟩
theorem Ran.trans {H H1 H2 : Hp} {s : Addr} (a : Ran H H1 s) (b : Ran H1 H2 s) : Ran H H2 s := ⟨a.same.trans b.same, b.src⟩
theorem Ran.grow {H H1 H2 : Hp} {s : Addr} (a : Ran H H1 s) (b : Same H1 H2) : Ran H H2 s := by
  obtain ⟨o, h1, h2⟩ := a.src
  exact ⟨a.same.trans (wo_same b), o, b _ _ h1, h2⟩
theorem Ran.at_ {H H1 : Hp} {s b : Addr} {o : HO} (a : Ran H H1 s) (h : H b = some o) (n : b ≠ s) : H1 b = some o := wo_le s _ _ (a.same b o (by rw [wo_ne n]; exact h))
theorem Ran.free {H H1 : Hp} {s b : Addr} (a : Ran H H1 s) (h : H1 b = none) : H b = none := by
  by_cases e : b = s
  · obtain ⟨o, h1, _⟩ := a.src
    rw [e, h1] at h
    cases h
  · cases z : H b with
    | none => rfl
    | some o =>
      rw [a.at_ z e] at h
      cases h
theorem Ran.ne {H H1 : Hp} {s b : Addr} (a : Ran H H1 s) (h : H1 b = none) : b ≠ s := fun e => by
  obtain ⟨o, h1, _⟩ := a.src
  rw [e, h1] at h
  cases h
def Src (H : Hp) (s : Addr) : Prop := ∃ o, H s = some o ∧ IsSrc o
def spDraw2 : Sp := fun vs H Q _ => ∃ (s : Addr) (m : Nat), vs = [.ref s, .int (m : Int)] ∧ Src H s ∧ 0 < m ∧ m < 1000000 ∧ ∀ (r : Nat) (H' : Hp), r < m → Ran H H' s → Q (.int (r : Int)) H'
def spChoose (K : PySem.W.Frag) : Sp := fun vs H Q _ => ∃ (s : Addr) (v : V), vs = [.ref s, v] ∧ Src H s ∧
  ((∃ (a : Addr) (xs : List V), v = .ref a ∧ SqL K (wo H s) a xs ∧ 0 < xs.length ∧ xs.length < 1000 ∧ ∀ (i : Nat) (x : V) (H' : Hp), xs[i]? = some x → Ran H H' s → Q x H') ∨
  ∃ z : Str, v = .str z ∧ 0 < z.length ∧ z.length < 1000 ∧ ∀ (c : Nat) (H' : Hp), Ran H H' s → Q (.str ⟨#[c]⟩) H')
def spIsEq : Sp := fun vs H Q _ => ∃ b c : Bool, vs = [.bl b, .bl c] ∧ Q (.bl (b == c)) H
def spMixed (K : PySem.W.Frag) : Sp := fun vs H Q _ => ∃ (s : Addr) (m : Nat), vs = [.ref s, .int (m : Int)] ∧ Src H s ∧ m ≤ 900 ∧
  ∀ (p : Addr) (ns : List Nat) (H' : Hp), Ran H H' s → H p = none → p ≠ s → H' p = some (.lst (nms ns)) → ns.length = m → ns.Nodup → (∀ x ∈ ns, x < m) → Q (.ref p) H'
def spStep (K : PySem.W.Frag) : Sp := fun vs H Q _ => ∃ (s : Addr) (a b : Nat) (z : Str), vs = [.ref s, .int (a : Int), .int (b : Int), .str z] ∧ Src H s ∧ 0 < z.length ∧ z.length < 1000 ∧
  ∀ (t : Addr) (r : R) (H' : Hp), (r = ⟨true, a, b⟩ ∨ r = ⟨false, b, a⟩) → Ran H H' s → H t = none → t ≠ s → Dp K (wo H' s) (.ref t) r.d → Q (.ref t) H'
section
variable {X : Cx}
theorem call_repr_bl : CallR X (.builtin "repr") (fun xs H Q => ∃ b, xs = [.bl b] ∧ Q (.str (if b then "True" else "False")) H) := by
  intro pins s σ H xs us Q I r h
  obtain ⟨b, rfl, q⟩ := h
  obtain ⟨u, rfl, rfl⟩ := vals1 r
  exact PySem.P.repr_of_bool ⟨.str _, H, I.tok _, ⟨_, by cases b <;> rfl⟩, q⟩
end
theorem nms_at {ns : List Nat} {i : Nat} {x : V} (h : (nms ns)[i]? = some x) : ∃ m, ns[i]? = some m ∧ x = .int (m : Int) := by
  rw [nms, List.getElem?_map] at h
  cases z : ns[i]? with
  | none =>
    rw [z] at h
    cases h
  | some m =>
    rw [z] at h
    exact ⟨m, rfl, (Option.some.inj h).symm⟩
theorem int_ne (a b : Nat) : (!decide (V.int (a : Int) = V.int (b : Int))) = decide (a ≠ b) := by
  by_cases e : a = b
  · subst e
    simp
  · rw [decide_eq_false (fun z => e (by injection z with z; omega)), decide_eq_true e]
    rfl
end CC
namespace CC
open PySem L2
def spAll (K : PySem.W.Frag) : Sp := fun vs H Q _ => ∃ w : Nat, vs = [.int (w : Int)] ∧ w ≤ 6 ∧ NewF R.d K H (allR w) Q
theorem MadeF.extend {α : Type} {f : α → PyData} {K : PySem.W.Frag} {H0 H H' : Hp} {D : Addr} {n m : Nat} {rs rs2 : List α} {us zs : List V} (p : MadeF f K H0 D n H rs) (hD : H D = some (.lst us)) (q3 : Same H H') (q1 : DpAll K (wo H' D) zs (rs2.map f)) (hm : n + zs.length ≤ m) :
    MadeF f K H0 D m (upd H' D (.lst (us ++ zs))) (rs ++ rs2) := by
  obtain ⟨us', p1, p2, p3, p4⟩ := p
  rw [hD] at p2
  cases p2
  refine ⟨us ++ zs, ?_, upd_same, ?_, ?_⟩
  · rw [wo_upd]
    exact p1.trans (wo_same q3)
  · rw [wo_upd, List.map_append]
    exact dps_app (dps_same (wo_same q3) _ _ p3) q1
  · rw [List.length_append]
    omega
/-! tuples never change -/
structure SameT (H H' : Hp) : Prop where
  tup : ∀ b xs, H b = some (.tup xs) → H' b = some (.tup xs)
  frz : ∀ b o xs, H b = some (.frz o (.tup xs)) → H' b = some (.frz o (.tup xs))
theorem sqt_T {K : PySem.W.Frag} {H H' : Hp} {a : Addr} {xs : List V} (e : SameT H H') (h : SqT K H a xs) : SqT K H' a xs := by
  rcases h with (h | ⟨o, h⟩) | h
  · exact .inl (.inl (e.tup _ _ h))
  · exact .inl (.inr ⟨o, e.frz _ _ _ h⟩)
  · exact .inr h
theorem rd_T {K : PySem.W.Frag} {H H' : Hp} {v : V} {r : R} (e : SameT H H') (h : Dp K H v r.d) : Dp K H' v r.d := by
  obtain ⟨p, rfl, hp⟩ := dp_r h
  exact r_dp (sqt_T e hp)
theorem rds_T {K : PySem.W.Frag} {H H' : Hp} (e : SameT H H') : ∀ {rs : List R} {us : List V}, DpAll K H us (rs.map R.d) → DpAll K H' us (rs.map R.d)
  | [], _, h => by
    cases h
    exact .nil
  | r :: rs, _, h => by
    cases h with
    | cons h1 h2 => exact .cons (rd_T e h1) (rds_T e h2)
theorem prd_T {K : PySem.W.Frag} {H H' : Hp} {v : V} {r : Nat × Nat} (e : SameT H H') (h : Dp K H v (prd r)) : Dp K H' v (prd r) := by
  obtain ⟨p, rfl, hp⟩ := dp_p h
  exact p_dp (sqt_T e hp)
theorem prds_T {K : PySem.W.Frag} {H H' : Hp} (e : SameT H H') : ∀ {rs : List (Nat × Nat)} {us : List V}, DpAll K H us (rs.map prd) → DpAll K H' us (rs.map prd)
  | [], _, h => by
    cases h
    exact .nil
  | r :: rs, _, h => by
    cases h with
    | cons h1 h2 => exact .cons (prd_T e h1) (prds_T e h2)
theorem same_T {H H' : Hp} (e : Same H H') : SameT H H' := ⟨fun b xs h => e _ _ h, fun b o xs h => e _ _ h⟩
theorem SameT.trans {H H1 H2 : Hp} (a : SameT H H1) (b : SameT H1 H2) : SameT H H2 := ⟨fun c xs h => b.tup _ _ (a.tup _ _ h), fun c o xs h => b.frz _ _ _ (a.frz _ _ _ h)⟩
/-- a list that is left out, or changed, is no tuple -/
theorem wo_T {H : Hp} {l : Addr} {us : List V} (h : H l = some (.lst us)) : SameT H (wo H l) := by
  constructor
  · intro b xs e
    rw [wo_ne (ne_of e h (by intro z; cases z))]
    exact e
  · intro b o xs e
    rw [wo_ne (ne_of e h (by intro z; cases z))]
    exact e
theorem upd_T {H : Hp} {l : Addr} {us : List V} {o : HO} (h : H l = some (.lst us)) : SameT H (upd H l o) := by
  constructor
  · intro b xs e
    rw [upd_ne (ne_of e h (by intro z; cases z))]
    exact e
  · intro b o xs e
    rw [upd_ne (ne_of e h (by intro z; cases z))]
    exact e
theorem row_len (w a : Nat) (k : Bool) : (row w a k).length ≤ w := by
  unfold row
  rw [List.length_map]
  have := List.length_filter_le (fun b => decide (a ≠ b)) (List.range w)
  rw [List.length_range] at this
  exact this
end CC
namespace CC
open PySem L2
/-- the heap without some objects -/
def wos (H : Hp) (l : List Addr) : Hp := fun b => if b ∈ l then none else H b
section
variable {H H' H2 : Hp} {l m : List Addr} {b s : Addr} {o : HO}
theorem wos_in (h : b ∉ l) : wos H l b = H b := if_neg h
theorem wos_at (h : wos H l b = some o) : b ∉ l ∧ H b = some o := by
  by_cases e : b ∈ l
  · unfold wos at h
    rw [if_pos e] at h
    cases h
  · exact ⟨e, (wos_in e).symm.trans h⟩
theorem wos_le (l : List Addr) : Same (wos H l) H := fun b o e => (wos_at e).2
theorem wos_mono (h : ∀ b ∈ l, b ∈ m) : Same (wos H m) (wos H l) := fun b o e => by
  obtain ⟨n, e⟩ := wos_at e
  rw [wos_in fun z => n (h b z)]
  exact e
/-- all that stands, but for l, stays -/
def Kp (l : List Addr) (H H' : Hp) : Prop := ∀ b o, H b = some o → b ∉ l → H' b = some o
theorem Kp.same (k : Kp l H H') : Same (wos H l) (wos H' l) := fun b o e => by
  obtain ⟨n, e⟩ := wos_at e
  rw [wos_in n]
  exact k b o e n
theorem Kp.to (k : Kp l H H') : Same (wos H l) H' := k.same.trans (wos_le l)
theorem Kp.trans (a : Kp l H H') (c : Kp l H' H2) : Kp l H H2 := fun b o e n => c b o (a b o e n) n
theorem Kp.up (k : Kp l H H') (h : ∀ b ∈ l, b ∈ m) : Kp m H H' := fun b o e n => k b o e fun z => n (h b z)
theorem Kp.of (e : Same H H') : Kp l H H' := fun b o q _ => e b o q
theorem Kp.upd (h : s ∈ l) : Kp l H (L2.upd H s o) := fun b u e n => by
  rw [upd_ne (a := s) (b := b) fun z => n (by rw [z]; exact h)]
  exact e
theorem Kp.new (h : H s = none) : Kp l H (L2.upd H s o) := .of (same_new h)
theorem Kp.ran (r : Ran H H' s) (h : s ∈ l) : Kp l H H' := fun b o e n => r.at_ e fun z => n (by rw [z]; exact h)
theorem Same.kp (e : Same H H') (k : Kp l H' H2) : Kp l H H2 := fun b o q n => k b o (e b o q) n
theorem wos_nil : wos H [] = H := by
  funext b
  exact wos_in (by simp)
theorem wo_wos : wo H s = wos H [s] := by
  funext b
  by_cases e : b = s
  · subst e
    rw [wo_at]
    unfold wos
    rw [if_pos (List.mem_singleton.mpr rfl)]
  · rw [wo_ne e, wos_in (by simpa using e)]
end
end CC
namespace CC
open PySem L2 TL
def gd (m : List Nat) : PyData := .tuple (m.map fun (n : Nat) => PyData.int (n : Int))
theorem dps_nms {K : PySem.W.Frag} {H : Hp} : ∀ fs : List Nat, DpAll K H (nms fs) (fs.map fun (n : Nat) => PyData.int (n : Int))
  | [] => .nil
  | n :: fs => .cons (.int _) (dps_nms fs)
theorem nms_dps {K : PySem.W.Frag} {H : Hp} : ∀ {fs : List Nat} {us : List V}, DpAll K H us (fs.map fun (n : Nat) => PyData.int (n : Int)) → us = nms fs
  | [], _, h => by
    cases h
    rfl
  | n :: fs, _, h => by
    cases h with
    | cons h1 h2 =>
      rw [dp_int h1, nms_dps h2]
      rfl
theorem dp_gd {K : PySem.W.Frag} {H : Hp} {t : Addr} {m : List Nat} (h : SqT K H t (nms m)) : Dp K H (.ref t) (gd m) := .tup h (dps_nms m)
theorem gd_at {K : PySem.W.Frag} {H : Hp} {v : V} {m : List Nat} (h : Dp K H v (gd m)) : ∃ t, v = .ref t ∧ SqT K H t (nms m) := by
  obtain ⟨p, us, rfl, h1, h2⟩ := dp_t h
  rw [nms_dps h2] at h1
  exact ⟨p, rfl, h1⟩
theorem gd_T {K : PySem.W.Frag} {H H' : Hp} {v : V} {m : List Nat} (e : SameT H H') (h : Dp K H v (gd m)) : Dp K H' v (gd m) := by
  obtain ⟨t, rfl, ht⟩ := gd_at h
  exact dp_gd (sqt_T e ht)
theorem gds_T {K : PySem.W.Frag} {H H' : Hp} (e : SameT H H') : ∀ {ms : List (List Nat)} {us : List V}, DpAll K H us (ms.map gd) → DpAll K H' us (ms.map gd)
  | [], _, h => by
    cases h
    exact .nil
  | m :: ms, _, h => by
    cases h with
    | cons h1 h2 => exact .cons (gd_T e h1) (gds_T e h2)
theorem dps_gat {K : PySem.W.Frag} {H : Hp} {gs : List V} {ms : List (List Nat)} {i : Nat} {v : V} (h : DpAll K H gs (ms.map gd)) (e : gs[i]? = some v) : ∃ m, ms[i]? = some m ∧ Dp K H v (gd m) := by
  obtain ⟨d, h1, h2⟩ := dps_at h e
  rw [List.getElem?_map] at h1
  cases q : ms[i]? with
  | none => rw [q] at h1; cases h1
  | some m =>
    rw [q] at h1
    cases h1
    exact ⟨m, rfl, h2⟩
def rTupOf (K : PySem.W.Frag) : List V → Hp → VK → Prop := fun xs H Q => ∃ p ys, xs = [.ref p] ∧ ((SqL K H p ys ∧ ∀ l, H l = none → Q (.ref l) (upd H l (.tup ys))) ∨ (SqT K H p ys ∧ Q (.ref p) H))
end CC
namespace CC
open PySem L2 TL
def num (n : Nat) : Str := Str.ofString (toString (n : Int))
theorem tl_app (a b : Str) : tl (a ++ b) = tl a ++ tl b := tl_append a b
end CC
/-! ### the texts of rows -/
namespace CC
open PySem L2 TL
def rowS (row : List Nat) : Str := Txt.join " " (row.map num)
def textT (rows : List (List Nat)) : Str := Txt.join "" (rows.map fun r => rowS r ++ "\n")
/-- a row for a width -/
def RowOk (w : Nat) (row : List Nat) : Prop := row.length = w ∧ ∀ v ∈ row, v ≤ 9999
theorem tl_n (n : Nat) : tl (num n) = numL n := tl_num n
theorem joinL_flat (l : List (List Nat)) : joinL (tl ("" : Str)) l = l.flatten := by
  rw [show tl ("" : Str) = [] by decide +kernel]
  induction l with
  | nil => rfl
  | cons x l ih =>
    cases l with
    | nil => simp [joinL]
    | cons y l =>
      show x ++ ([] ++ joinL [] (y :: l)) = _
      rw [ih, List.nil_append]
      simp
theorem joinL_in {sep : List Nat} {c : Nat} : ∀ {l : List (List Nat)}, c ∈ joinL sep l → c ∈ sep ∨ ∃ p ∈ l, c ∈ p
  | [], h => by simp [joinL] at h
  | [x], h => by
    simp [joinL] at h
    exact .inr ⟨x, by simp, h⟩
  | x :: y :: l, h => by
    have h' : c ∈ x ++ (sep ++ joinL sep (y :: l)) := h
    rcases List.mem_append.mp h' with z | z
    · exact .inr ⟨x, by simp, z⟩
    · rcases List.mem_append.mp z with z | z
      · exact .inl z
      · rcases joinL_in z with q | ⟨p, hp, hc⟩
        · exact .inl q
        · exact .inr ⟨p, List.mem_cons_of_mem _ hp, hc⟩
theorem joinL_le {sep : List Nat} {k : Nat} : ∀ {l : List (List Nat)}, (∀ p ∈ l, p.length ≤ k) → (joinL sep l).length ≤ l.length * (k + sep.length)
  | [], _ => by simp [joinL]
  | [x], h => by
    have := h x (by simp)
    simp [joinL]
    omega
  | x :: y :: l, h => by
    have h1 := h x (by simp)
    have h2 := joinL_le (sep := sep) (l := y :: l) fun p hp => h p (List.mem_cons_of_mem _ hp)
    show (x ++ (sep ++ joinL sep (y :: l))).length ≤ _
    rw [List.length_append, List.length_append, List.length_cons (a := x), Nat.succ_mul]
    omega
theorem row_free {row : List Nat} : 10 ∉ tl (rowS row) := fun h => by
  unfold rowS at h
  rw [join_eq, tl_join] at h
  rcases joinL_in h with z | ⟨p, hp, z⟩
  · rw [show tl (" " : Str) = [32] by decide +kernel] at z
    simp at z
  · obtain ⟨q, hq, rfl⟩ := List.mem_map.mp hp
    obtain ⟨n, _, rfl⟩ := List.mem_map.mp hq
    rw [tl_n] at z
    exact numL_free (.inl (by decide)) z
theorem num_len {n : Nat} (h : n ≤ 9999) : (num n).length ≤ 4 := by
  rw [len_tl, tl_n]
  exact numL_len (by decide) (by omega)
theorem rowS_len {w : Nat} {row : List Nat} (h : RowOk w row) (hw : w ≤ 6) : (rowS row).length ≤ 30 := by
  rw [len_tl]
  unfold rowS
  rw [join_eq, tl_join]
  refine Nat.le_trans (joinL_le (k := 4) fun p hp => ?_) ?_
  · obtain ⟨q, hq, rfl⟩ := List.mem_map.mp hp
    obtain ⟨n, hn, rfl⟩ := List.mem_map.mp hq
    rw [← len_tl]
    exact num_len (h.2 n hn)
  · rw [List.length_map, List.length_map, h.1, show tl (" " : Str) = [32] by decide +kernel]
    show w * 5 ≤ 30
    omega
theorem split_row {row : List Nat} (h : row ≠ []) : Txt.split (rowS row) " " = row.map num := by
  refine split_join (s := 32) (S := []) (by decide +kernel) (by decide +kernel) (fun e => h (List.map_eq_nil_iff.mp e)) fun p hp => ?_
  obtain ⟨n, _, rfl⟩ := List.mem_map.mp hp
  rw [tl_n]
  exact numL_free (.inl (by decide))
theorem tl_lines (L : List Str) : tl (Txt.join "" (L.map fun l => l ++ "\n")) = (L.map fun l => tl l ++ [10]).flatten := by
  rw [join_eq, tl_join, joinL_flat, List.map_map]
  congr 1
  refine List.map_congr_left fun l _ => ?_
  show tl (l ++ "\n") = _
  rw [tl_app, show tl ("\n" : Str) = [10] by decide +kernel]
theorem split_lines {L : List Str} (h : ∀ l ∈ L, 10 ∉ tl l) : Txt.split (Txt.join "" (L.map fun l => l ++ "\n")) "\n" = L ++ [Str.empty] := by
  have e : Txt.join "" (L.map fun l => l ++ "\n") = Txt.join "\n" (L ++ [Str.empty]) := by
    refine ext_tl ?_
    show tl _ = tl _
    rw [tl_lines, join_eq, tl_join, show tl ("\n" : Str) = [10] by decide +kernel]
    clear h
    induction L with
    | nil => decide +kernel
    | cons r L ih =>
      rw [List.map_cons, List.flatten_cons, ih]
      cases L with
      | nil =>
        show tl r ++ [10] ++ tl Str.empty = tl r ++ ([10] ++ tl Str.empty)
        rw [List.append_assoc]
      | cons s L =>
        show tl r ++ [10] ++ _ = tl r ++ ([10] ++ _)
        rw [List.append_assoc]
        rfl
  rw [e]
  refine split_join (s := 10) (S := []) (by decide +kernel) (by decide +kernel) (by simp) fun p hp => ?_
  rcases List.mem_append.mp hp with z | z
  · exact h p z
  · rw [List.mem_singleton.mp z]
    decide +kernel
theorem textT_eq (rows : List (List Nat)) : textT rows = Txt.join "" ((rows.map rowS).map fun l => l ++ "\n") := by
  unfold textT
  rw [List.map_map]
  rfl
theorem split_textT (rows : List (List Nat)) : Txt.split (textT rows) "\n" = rows.map rowS ++ [Str.empty] := by
  rw [textT_eq]
  refine split_lines fun l hl => ?_
  obtain ⟨r, _, rfl⟩ := List.mem_map.mp hl
  exact row_free
theorem textT_len {w : Nat} {rows : List (List Nat)} (h : ∀ r ∈ rows, RowOk w r) (hw : w ≤ 6) : (textT rows).length ≤ 31 * rows.length := by
  rw [len_tl, textT_eq, tl_lines, List.map_map]
  induction rows with
  | nil => simp
  | cons r rows ih =>
    have h1 := rowS_len (h r List.mem_cons_self) hw
    rw [len_tl] at h1
    have h3 := ih fun s hs => h s (List.mem_cons_of_mem _ hs)
    rw [List.map_cons, List.flatten_cons, List.length_append, List.length_cons]
    show (tl (rowS r) ++ [10]).length + _ ≤ _
    rw [List.length_append, List.length_singleton]
    omega
theorem dig_ok : ∀ c : Fin 58, 48 ≤ c.1 → Unicode.isDigit c.1 = true := by decide +kernel
theorem num_digit (n : Nat) : Txt.isdigit (num n) = true := by
  unfold Txt.isdigit
  rw [Bool.and_eq_true]
  refine ⟨decide_eq_true ?_, ?_⟩
  · rw [len_tl, tl_n]
    exact List.length_pos_iff.mpr (numL_ne n)
  · rw [Array.all_eq_true_iff_forall_mem]
    intro c hc
    have m : c ∈ numL n := by
      rw [← tl_n]
      exact Array.mem_def.mp hc
    have := numL_digits n c m
    exact dig_ok ⟨c, by omega⟩ this.1
theorem num_ascii (n : Nat) : Txt.isascii (num n) = true := by
  unfold Txt.isascii
  rw [Array.all_eq_true_iff_forall_mem]
  intro c hc
  have m : c ∈ numL n := by
    rw [← tl_n]
    exact Array.mem_def.mp hc
  have := numL_digits n c m
  exact decide_eq_true (by omega)
theorem num_int {n : Nat} (h : n ≤ 9999) : intText? (num n) = some (n : Int) := int_num (Nat.le_trans (numL_len (k := 4) (by decide) (by omega)) (by decide))
theorem small10k {n : Nat} (h : n ≤ 9999) : (n : Int).natAbs.log2 < 1920 := by
  rw [Int.natAbs_natCast]
  have : n.log2 ≤ n := Nat.log2_le_self n
  by_cases e : n = 0
  · subst e
    decide
  · have := (Nat.log2_lt e (k := 14)).mpr (by omega)
    omega
end CC
namespace CC
open PySem L2 TL
abbrev sIsRow : Stmt := tp 9
abbrev sIsNum : Stmt := tp 23
structure GlbT (mg : Str → Option Value) : Prop where
  lv : ∃ t, mg "LARGEST_VALUE" = some (.int 9999 t)
  mr : ∃ t, mg "MOST_ROWS" = some (.int 400 t)
def spIsRow (K : PySem.W.Frag) : Sp := fun vs H Q _ => ∃ (w : Nat) (t : Addr) (row : List Nat), vs = [.int (w : Int), .ref t] ∧ SqT K H t (nms row) ∧ RowOk w row ∧ w ≤ 6 ∧ ∀ H', Same H H' → Q (.bl true) H'
def spIsNum : Sp := fun vs H Q _ => ∃ n : Nat, vs = [.str (num n)] ∧ n ≤ 9999 ∧ Q (.bl true) H
theorem all_true (m : Nat) : (List.replicate m true).all id = true := by
  rw [List.all_eq_true]
  intro b hb
  rw [List.eq_of_mem_replicate hb]
  rfl
theorem nms_get? {ns : List Nat} {i : Nat} {x : V} (h : (nms ns)[i]? = some x) : ∃ m, ns[i]? = some m ∧ x = .int (m : Int) := by
  rw [nms, List.getElem?_map] at h
  cases z : ns[i]? with
  | none =>
    rw [z] at h
    cases h
  | some m =>
    rw [z] at h
    exact ⟨m, rfl, (Option.some.inj h).symm⟩
section
variable {P : Program} {w : World} {K : PySem.W.Frag} {mg : Str → Option Value} {base : Heap} {kA : Addr}
abbrev nIRow : List Str := ["width", "thing", "part"]
theorem scIsRow : FnScope nIRow ["width", "thing"] (defScope sIsRow) := ⟨rfl, rfl, rfl, by decide +kernel, rfl, by decide +kernel, by decide +kernel⟩
theorem ok_isrow {f : Addr} {fd : FuncData} {k : Nat} (F : Fun K "is_row" "is_row" sIsRow f fd) (T : Glb K mg kA) (TT : GlbT mg) (cI : Cal P w K mg base "is_an_integer" ["thing"] spIsInt 1) : FnOk P w K mg base CX0 (k + 2) f fd ["width", "thing"] (spIsRow K) := by
  have GI := cI.ok (k + 1) (by omega)
  refine F.ok scIsRow (fun vs H Q E h => ?_) (fun cdv A outer s H vs Q E hr h => ?_)
  · obtain ⟨w, t, row, rfl, _⟩ := h
    rfl
  · obtain ⟨w, t, row, rfl, ht, ⟨rl, rv⟩, w6, q⟩ := h
    obtain ⟨tl, hlv⟩ := TT.lv
    have n := scIsRow.nd
    refine ⟨_, (pss_cons (ps_if (PW.pt (pw_or (pt_not (pt_val (pe_callB call_isi (by rfl) T.isi (by decide +kernel) (pa_cons (pv 1) (pa_cons (pe_bltn (v := .ty "tuple") (by rfl) T.tup (by decide +kernel) rfl) pa_nil))))) (pw_or1 (pt_cmpR op_ne (pe_callB call_len_seq (by rfl) T.len PySem.boot_len (pa_cons (pv 1) pa_nil)) (pv 0) (nomark _))))) (pss_one (ps_ret pe_bl)) pss_nil)
      (pss_one (ps_ret (pe_callB (cr_all rfl) (by rfl) T.all (by decide +kernel) (pa_cons (pe_lc (own := [("part", 2)]) (g := gName 2) (tt := tYes) rfl n (pi_tup (pv 1)) (blkOk_by (N := nIRow) (sc := defScope sIsRow) (by decide +kernel))
        (fun _ _ _ _ _ => (pg_name (i := 2) n rfl (.inl rfl))) (fun _ _ _ _ _ => pts_nil) (fun _ _ _ _ _ => (pe_and (pe_call GI hr rfl cI.g cI.kp cI.b .nil pass0 (pa_cons (pv 2) pa_nil)) (pe_one (pe_chain op_le op_le pe_int (pv 2) (pe_glob (v := .int 9999) rfl hlv ⟨_, rfl⟩)))))) pa_nil))))), ?_⟩
    refine ⟨_, rfl, _, _, _, _, true, rfl, .ty _, ty_tup ht, kit_ty (by decide +kernel), _, rfl, iteF ?_⟩
    refine ⟨_, rfl, t, _, rfl, .inr ht, _, rfl, rfl, _, rfl, ?_⟩
    have e0 : (!decide (V.int (((nms row).length : Nat) : Int) = V.int (w : Int))) = false := by
      rw [nms_len, rl]
      simp
    rw [e0]
    refine iteF ?_
    refine ⟨_, rfl, t, rfl, ⟨_, ht⟩, fun D nD => ?_⟩
    refine lc_tup (xs := nms row) (fun i H1 => Same H (wo H1 D) ∧ H1 D = some (.lst ((List.replicate i true).map V.bl)) ∧ i ≤ 6) ⟨?_, upd_same, by omega⟩ (fun i H1 _ z => same_t (z.1.trans (wo_le D)) ht) ?_ ?_
    · rw [wo_upd]
      exact fun b o e => by rw [wo_ne (ne_of_none e nD)]; exact e
    · rintro i v H1 hv ⟨e1, e2, e3⟩
      obtain ⟨y, hy, rfl⟩ := nms_get? hv
      have il := (List.getElem?_eq_some_iff.mp hy).1
      have yv := rv y (List.mem_of_getElem? hy)
      have c1 : decide ((0 : Int) ≤ (y : Int)) = true := decide_eq_true (by omega)
      have c2 : decide ((y : Int) ≤ (9999 : Int)) = true := decide_eq_true (by omega)
      refine ⟨rfl, yes_if ⟨_, rfl, _, rfl, _, rfl, iteT ⟨_, rfl, _, _, rfl, rfl, _, rfl, ?_⟩⟩⟩
      rw [c1]
      refine iteT ⟨_, _, rfl, rfl, ?_⟩
      dsimp only
      rw [c2]
      refine ⟨_, e2, small1000 (by simp; omega), ?_, ?_, by omega⟩
      · rw [wo_upd]
        exact e1
      · rw [upd_same, List.replicate_succ', List.map_append]
        rfl
    rintro H1 ⟨e1, e2, _⟩
    refine ⟨D, _, rfl, SqL.of e2, ?_⟩
    rw [all_true]
    exact q H1 (e1.trans (wo_le D))
theorem scIsNum : FnScope ["word"] ["word"] (defScope sIsNum) := ⟨rfl, rfl, rfl, by decide +kernel, rfl, by decide +kernel, by decide +kernel⟩
theorem ok_isnum {f : Addr} {fd : FuncData} {k : Nat} (F : Fun K "is_numeral" "is_numeral" sIsNum f fd) (T : Glb K mg kA) (TT : GlbT mg) : FnOk P w K mg base CX0 (k + 1) f fd ["word"] spIsNum := by
  refine F.ok scIsNum (fun vs H Q E h => ?_) (fun cdv A outer s H vs Q E hr h => ?_)
  · obtain ⟨m, rfl, _⟩ := h
    rfl
  · obtain ⟨m, rfl, hm, q⟩ := h
    obtain ⟨tl, hlv⟩ := TT.lv
    refine ⟨_, (pss_cons (ps_if (PW.pt (pw_or (pt_cmpR op_gt (pe_callB call_len_str (by rfl) T.len PySem.boot_len (pa_cons (pv 0) pa_nil)) (pe_callB call_len_str (by rfl) T.len PySem.boot_len (pa_cons (pe_callTy call_str_int (by rfl) T.str (by decide +kernel) (pa_cons (pe_glob (v := .int 9999) rfl hlv ⟨_, rfl⟩) pa_nil)) pa_nil)) (nomark _))
        (pw_or (pt_not (pt_val (pe_m0 PySem.F.slot_str_isascii PySem.F.type_str_isascii mt_isascii (pv 0)))) (pw_or1 (pt_not (pt_val (pe_m0 PySem.F.slot_str_isdigit PySem.F.type_str_isdigit mt_isdigit (pv 0)))))))) (pss_one (ps_ret pe_bl)) pss_nil)
      (pss_one (ps_ret (pe_cmpR op_eq (pe_callTy call_str_int (by rfl) T.str (by decide +kernel) (pa_cons (pe_callTy call_int_str (by rfl) T.int (by decide +kernel) (pa_cons (pv 0) pa_nil)) pa_nil)) (pv 0) (nomark _))))), ?_⟩
    have ln := num_len hm
    have l4 : (Str.ofString (toString (9999 : Int))).length = 4 := by decide +kernel
    have big : ∀ {a : Nat}, a ≤ 4 → a ≤ sizeLine := fun h => Nat.le_trans h (by decide)
    refine ⟨_, rfl, _, rfl, big ln, _, rfl, (by decide +kernel), _, rfl, big (Nat.le_of_eq l4), _, _, rfl, rfl, _, rfl, ?_⟩
    have g1 : decide ((((num m).length : Nat) : Int) > (((Str.ofString (toString (9999 : Int))).length : Nat) : Int)) = false := decide_eq_false (by rw [l4]; omega)
    rw [g1]
    refine iteF ⟨_, rfl, ⟨_, rfl⟩, _, rfl, rfl, trivial, _, rfl, ?_⟩
    rw [num_ascii]
    refine iteF ⟨_, rfl, ⟨_, rfl⟩, _, rfl, rfl, trivial, _, rfl, ?_⟩
    rw [num_digit]
    refine iteF ?_
    refine ⟨_, rfl, _, _, rfl, num_int hm, Nat.le_trans ln (by decide), _, rfl, small10k hm, _, rfl, rfl, ?_⟩
    show Q (.bl (decide (V.str (num m) = V.str (num m)))) H
    rw [decide_eq_true rfl]
    exact q
end
end CC
namespace CC
open PySem L2 TL
theorem Ran.T {H H' : Hp} {s : Addr} (r : Ran H H' s) (h : Src H s) : SameT H H' := by
  obtain ⟨o, h1, a, b, c, rfl, _⟩ := h
  constructor
  · intro x xs e
    exact r.at_ e (ne_of e h1 (by intro z; cases z))
  · intro x o xs e
    exact r.at_ e (ne_of e h1 (by intro z; cases z))
theorem cut_from (xs : List V) (n : Nat) : cutV xs (some (n : Int)) none = xs.drop n := by
  unfold cutV
  rw [HT.sIx_nat, HT.sIx_none]
  by_cases h : n ≤ xs.length
  · rw [Nat.min_eq_left h]
    exact List.take_of_length_le (by rw [List.length_drop]; exact Nat.le_refl _)
  · rw [Nat.min_eq_right (by omega), List.drop_eq_nil_of_le (Nat.le_refl _), List.drop_eq_nil_of_le (by omega)]
    simp
theorem cut_to (xs : List V) (n : Nat) : cutV xs none (some (n : Int)) = xs.take n := by
  unfold cutV
  rw [HT.sIx_nat, HT.sIx_none, List.drop_zero, Nat.sub_zero]
  by_cases h : n ≤ xs.length
  · rw [Nat.min_eq_left h]
  · rw [Nat.min_eq_right (by omega), List.take_of_length_le (Nat.le_refl _), List.take_of_length_le (by omega)]
theorem rot_nodup {α : Type} {l : List α} (h : l.Nodup) (n : Nat) : (l.drop n ++ l.take n).Nodup := by
  have p : (l.drop n ++ l.take n).Perm l := by
    have := (List.perm_append_comm : (l.drop n ++ l.take n).Perm (l.take n ++ l.drop n))
    rw [List.take_append_drop] at this
    exact this
  exact p.nodup_iff.mpr h
theorem rot_mem {α : Type} {l : List α} {n : Nat} {x : α} (h : x ∈ l.drop n ++ l.take n) : x ∈ l := by
  rcases List.mem_append.mp h with z | z
  · exact List.mem_of_mem_drop z
  · exact List.mem_of_mem_take z
theorem MadeF.woT {α : Type} {f : α → PyData} {K : PySem.W.Frag} {H0 H : Hp} {D : Addr} {n : Nat} {rs : List α} (p : MadeF f K H0 D n H rs) : SameT H (wo H D) := by
  obtain ⟨us, _, h, _⟩ := p
  exact wo_T h
end CC
namespace CC
/-! ### words in their order: shorter ones first, then by their signs -/
def lx : List Nat → List Nat → Prop
  | [], [] => False
  | [], _ :: _ => True
  | _ :: _, [] => False
  | a :: p, b :: q => a < b ∨ (a = b ∧ lx p q)
theorem lx_irr : ∀ p, ¬ lx p p
  | [], h => h
  | a :: p, h => by
    rcases h with h | ⟨_, h⟩
    · omega
    · exact lx_irr p h
theorem lx_trans : ∀ {p q r : List Nat}, lx p q → lx q r → lx p r
  | [], [], _, h, _ => False.elim h
  | [], _ :: _, [], _, h => False.elim h
  | [], _ :: _, _ :: _, _, _ => trivial
  | _ :: _, [], _, h, _ => False.elim h
  | _ :: _, _ :: _, [], _, h => False.elim h
  | a :: p, b :: q, c :: r, h1, h2 => by
    rcases h1 with h1 | ⟨rfl, h1⟩ <;> rcases h2 with h2 | ⟨rfl, h2⟩
    · exact .inl (by omega)
    · exact .inl h1
    · exact .inl h2
    · exact .inr ⟨rfl, lx_trans h1 h2⟩
theorem lx_tri : ∀ p q : List Nat, lx p q ∨ p = q ∨ lx q p
  | [], [] => .inr (.inl rfl)
  | [], _ :: _ => .inl trivial
  | _ :: _, [] => .inr (.inr trivial)
  | a :: p, b :: q => by
    rcases Nat.lt_trichotomy a b with h | h | h
    · exact .inl (.inl h)
    · subst h
      rcases lx_tri p q with z | z | z
      · exact .inl (.inr ⟨rfl, z⟩)
      · exact .inr (.inl (by rw [z]))
      · exact .inr (.inr (.inr ⟨rfl, z⟩))
    · exact .inr (.inr (.inl h))
theorem lx_app : ∀ {p q : List Nat} (r s : List Nat), p.length = q.length → lx p q → lx (p ++ r) (q ++ s)
  | [], [], _, _, _, h => False.elim h
  | [], _ :: _, _, _, e, _ => by simp at e
  | _ :: _, [], _, _, e, _ => by simp at e
  | a :: p, b :: q, r, s, e, h => by
    rcases h with h | ⟨h1, h⟩
    · exact .inl h
    · exact .inr ⟨h1, lx_app r s (by simpa using e) h⟩
theorem lx_last : ∀ (p : List Nat) {a b : Nat}, a < b → lx (p ++ [a]) (p ++ [b])
  | [], _, _, h => .inl h
  | _ :: p, _, _, h => .inr ⟨rfl, lx_last p h⟩
def SS (p q : List Nat) : Prop := p.length < q.length ∨ (p.length = q.length ∧ lx p q)
theorem SS.irr {p : List Nat} (h : SS p p) : False := by
  rcases h with h | ⟨_, h⟩
  · omega
  · exact lx_irr p h
theorem SS.trans {p q r : List Nat} (h1 : SS p q) (h2 : SS q r) : SS p r := by
  rcases h1 with h1 | ⟨e1, h1⟩ <;> rcases h2 with h2 | ⟨e2, h2⟩
  · exact .inl (by omega)
  · exact .inl (by omega)
  · exact .inl (by omega)
  · exact .inr ⟨by omega, lx_trans h1 h2⟩
theorem SS.tri (p q : List Nat) : SS p q ∨ p = q ∨ SS q p := by
  rcases Nat.lt_trichotomy p.length q.length with h | h | h
  · exact .inl (.inl h)
  · rcases lx_tri p q with z | z | z
    · exact .inl (.inr ⟨h, z⟩)
    · exact .inr (.inl z)
    · exact .inr (.inr (.inr ⟨h.symm, z⟩))
  · exact .inr (.inr (.inl h))
theorem SS.app {p q : List Nat} (x y : Nat) (h : SS p q) : SS (p ++ [x]) (q ++ [y]) := by
  rcases h with h | ⟨e, h⟩
  · exact .inl (by simp; omega)
  · exact .inr ⟨by simp [e], lx_app _ _ e h⟩
theorem SS.last (p : List Nat) {x y : Nat} (h : x < y) : SS (p ++ [x]) (p ++ [y]) := .inr ⟨by simp, lx_last p h⟩
theorem SS.snoc (p : List Nat) (x : Nat) : SS p (p ++ [x]) := .inl (by simp)
/-- a walk -/
inductive Wk (ps : List (Nat × Nat)) (a : Nat) : Nat → List Nat → Prop
  | one : Wk ps a a [a]
  | step {b c : Nat} {w : List Nat} : Wk ps a b w → (b, c) ∈ ps → Wk ps a c (w ++ [c])
theorem Wk.ne {ps : List (Nat × Nat)} {a b : Nat} {w : List Nat} (h : Wk ps a b w) : w ≠ [] := by
  cases h <;> simp
/-- what is found: each column that is reached, with the first of the shortest walks -/
structure FW (ps : List (Nat × Nat)) (st : Nat) (ws : List (Nat × List Nat)) : Prop where
  nd : (ws.map (·.1)).Nodup
  lt : ∀ e ∈ ws, e.1 < 6
  wk : ∀ e ∈ ws, Wk ps st e.1 e.2
  fst : ∀ c q, Wk ps st c q → ∃ v, (c, v) ∈ ws ∧ (v = q ∨ SS v q)
  len : ∀ e ∈ ws, e.2.length ≤ ws.length
/-- between two turns: n columns are through -/
structure BI (ps : List (Nat × Nat)) (st : Nat) (ws : List (Nat × List Nat)) (n : Nat) : Prop where
  nd : (ws.map (·.1)).Nodup
  lt : ∀ e ∈ ws, e.1 < 6
  wk : ∀ e ∈ ws, Wk ps st e.1 e.2
  ord : ∀ (i j : Nat) (e f : Nat × List Nat), i < j → ws[i]? = some e → ws[j]? = some f → SS e.2 f.2
  beg : (st, [st]) ∈ ws
  le : n ≤ ws.length
  len : ∀ (i : Nat) (e : Nat × List Nat), ws[i]? = some e → e.2.length ≤ i + 1
  don : ∀ (i : Nat) (e : Nat × List Nat), i < n → ws[i]? = some e → ∀ b, (e.1, b) ∈ ps → ∃ v, (b, v) ∈ ws ∧ (v = e.2 ++ [b] ∨ SS v (e.2 ++ [b]))
  low : ∀ e ∈ ws, ∀ (j : Nat) (f : Nat × List Nat), n ≤ j → ws[j]? = some f → ∀ x, SS e.2 (f.2 ++ [x])
theorem BI.start {ps : List (Nat × Nat)} {st : Nat} (h : st < 6) : BI ps st [(st, [st])] 0 where
  nd := by simp
  lt := fun e he => by rw [List.mem_singleton.mp he]; exact h
  wk := fun e he => by rw [List.mem_singleton.mp he]; exact .one
  ord := fun i j e f hij h1 h2 => by
    have := (List.getElem?_eq_some_iff.mp h2).1
    simp at this
    omega
  beg := List.mem_singleton.mpr rfl
  le := Nat.zero_le _
  len := fun i e h => by
    have : e ∈ [(st, [st])] := List.mem_of_getElem? h
    rw [List.mem_singleton.mp this]
    simp
  don := fun i e hi => absurd hi (Nat.not_lt_zero _)
  low := fun e he j f _ hf x => by
    have : f ∈ [(st, [st])] := List.mem_of_getElem? hf
    rw [List.mem_singleton.mp he, List.mem_singleton.mp this]
    exact SS.snoc _ _
theorem BI.out {ps : List (Nat × Nat)} {st : Nat} {ws : List (Nat × List Nat)} {n : Nat} (h : BI ps st ws n) (hn : ws.length ≤ n) : FW ps st ws where
  nd := h.nd
  lt := h.lt
  wk := h.wk
  fst := fun c q w => by
    induction w with
    | one => exact ⟨_, h.beg, .inl rfl⟩
    | @step b c w w1 hb ih =>
      obtain ⟨v, hv, e⟩ := ih
      obtain ⟨i, hi⟩ := List.mem_iff_getElem?.mp hv
      have il := (List.getElem?_eq_some_iff.mp hi).1
      obtain ⟨u, hu, e2⟩ := h.don i _ (by omega) hi c hb
      refine ⟨u, hu, ?_⟩
      rcases e with rfl | e
      · exact e2
      · rcases e2 with rfl | e2
        · exact .inr (e.app _ _)
        · exact .inr (e2.trans (e.app _ _))
  len := fun e he => by
    obtain ⟨i, hi⟩ := List.mem_iff_getElem?.mp he
    have := h.len i e hi
    have := (List.getElem?_eq_some_iff.mp hi).1
    omega
/-- within a turn, the column c with the way w: the new ones -/
def nws (w : List Nat) (nb : List Nat) : List (Nat × List Nat) := nb.map fun b => (b, w ++ [b])
structure TI (ps : List (Nat × Nat)) (ws : List (Nat × List Nat)) (c : Nat) (w : List Nat) (bs : List Nat) (i : Nat) (nb : List Nat) : Prop where
  inc : nb.Pairwise (· < ·)
  sub : ∀ b ∈ nb, b ∈ bs.take i
  new : ∀ b ∈ nb, b ∉ ws.map (·.1)
  all : ∀ b ∈ bs.take i, b ∈ ws.map (·.1) ∨ b ∈ nb
theorem TI.start {ps : List (Nat × Nat)} {ws : List (Nat × List Nat)} {c : Nat} {w bs : List Nat} : TI ps ws c w bs 0 [] where
  inc := .nil
  sub := fun _ h => nomatch h
  new := fun _ h => nomatch h
  all := fun _ h => by simp at h
theorem take1 {α : Type} {l : List α} {i : Nat} {x : α} (h : l[i]? = some x) : l.take (i + 1) = l.take i ++ [x] := by
  rw [List.take_succ, h]
  rfl
theorem nws_keys (w nb : List Nat) : (nws w nb).map (·.1) = nb := by
  unfold nws
  rw [List.map_map]
  exact List.map_id' nb
theorem TI.old {ps : List (Nat × Nat)} {ws : List (Nat × List Nat)} {c : Nat} {w bs nb : List Nat} {i b : Nat} (h : TI ps ws c w bs i nb) (hb : bs[i]? = some b) (hm : b ∈ (ws ++ nws w nb).map (·.1)) : TI ps ws c w bs (i + 1) nb where
  inc := h.inc
  sub := fun x hx => by
    rw [take1 hb]
    exact List.mem_append_left _ (h.sub x hx)
  new := h.new
  all := fun x hx => by
    rw [take1 hb] at hx
    rcases List.mem_append.mp hx with z | z
    · exact h.all x z
    · rw [List.mem_singleton.mp z]
      rw [List.map_append, nws_keys] at hm
      exact List.mem_append.mp hm
theorem TI.add {ps : List (Nat × Nat)} {ws : List (Nat × List Nat)} {c : Nat} {w bs nb : List Nat} {i b : Nat} (h : TI ps ws c w bs i nb) (hs : bs.Pairwise (· ≤ ·)) (hb : bs[i]? = some b) (hm : b ∉ (ws ++ nws w nb).map (·.1)) : TI ps ws c w bs (i + 1) (nb ++ [b]) where
  inc := by
    rw [List.pairwise_append]
    refine ⟨h.inc, by simp, fun x hx y hy => ?_⟩
    rw [List.mem_singleton.mp hy]
    have hx2 := h.sub x hx
    obtain ⟨j, hj⟩ := List.mem_iff_getElem?.mp hx2
    have jl := (List.getElem?_eq_some_iff.mp hj).1
    rw [List.length_take] at jl
    have ji : j < i := by omega
    rw [List.getElem?_take_of_lt ji] at hj
    have le : x ≤ b := by
      obtain ⟨l1, e1⟩ := List.getElem?_eq_some_iff.mp hj
      obtain ⟨l2, e2⟩ := List.getElem?_eq_some_iff.mp hb
      have := List.pairwise_iff_getElem.mp hs j i l1 l2 ji
      rw [e1, e2] at this
      exact this
    have ne : x ≠ b := fun e => hm (by rw [List.map_append, nws_keys, ← e]; exact List.mem_append_right _ hx)
    omega
  sub := fun x hx => by
    rw [take1 hb]
    rcases List.mem_append.mp hx with z | z
    · exact List.mem_append_left _ (h.sub x z)
    · exact List.mem_append_right _ z
  new := fun x hx => by
    rcases List.mem_append.mp hx with z | z
    · exact h.new x z
    · rw [List.mem_singleton.mp z]
      intro q
      exact hm (by rw [List.map_append]; exact List.mem_append_left _ q)
  all := fun x hx => by
    rw [take1 hb] at hx
    rcases List.mem_append.mp hx with z | z
    · rcases h.all x z with y | y
      · exact .inl y
      · exact .inr (List.mem_append_left _ y)
    · exact .inr (List.mem_append_right _ z)
theorem nws_mem {w nb : List Nat} {e : Nat × List Nat} : e ∈ nws w nb ↔ e.1 ∈ nb ∧ e.2 = w ++ [e.1] := by
  unfold nws
  rw [List.mem_map]
  constructor
  · rintro ⟨b, hb, rfl⟩
    exact ⟨hb, rfl⟩
  · rintro ⟨h1, h2⟩
    exact ⟨e.1, h1, by rw [← h2]⟩
/-- the turn's end -/
theorem BI.turn {ps : List (Nat × Nat)} {st : Nat} {ws : List (Nat × List Nat)} {n : Nat} (h : BI ps st ws n) {c : Nat} {w bs nb : List Nat} (hc : ws[n]? = some (c, w)) (hbs : ∀ b, b ∈ bs ↔ (c, b) ∈ ps) (hlt : ∀ x ∈ ps, x.1 < 6 ∧ x.2 < 6) (t : TI ps ws c w bs bs.length nb) : BI ps st (ws ++ nws w nb) (n + 1) := by
  have all : ∀ b ∈ bs, b ∈ ws.map (·.1) ∨ b ∈ nb := fun b hb => t.all b (by rw [List.take_length]; exact hb)
  have sub : ∀ b ∈ nb, (c, b) ∈ ps := fun b hb => (hbs b).mp (by have := t.sub b hb; rw [List.take_length] at this; exact this)
  have hw := h.wk _ (List.mem_of_getElem? hc)
  have nl := (List.getElem?_eq_some_iff.mp hc).1
  have at_ : ∀ {j : Nat} {f : Nat × List Nat}, (ws ++ nws w nb)[j]? = some f → (j < ws.length ∧ ws[j]? = some f) ∨ (ws.length ≤ j ∧ (nws w nb)[j - ws.length]? = some f) := fun {j f} hf => by
    by_cases lt : j < ws.length
    · rw [List.getElem?_append_left lt] at hf
      exact .inl ⟨lt, hf⟩
    · rw [List.getElem?_append_right (by omega)] at hf
      exact .inr ⟨by omega, hf⟩
  constructor
  · rw [List.map_append, nws_keys]
    refine List.nodup_append.mpr ⟨h.nd, t.inc.imp (fun h => by omega), fun x hx y hy e => ?_⟩
    subst e
    exact t.new x hy hx
  · intro e he
    rcases List.mem_append.mp he with z | z
    · exact h.lt e z
    · exact (hlt _ (sub _ (nws_mem.mp z).1)).2
  · intro e he
    rcases List.mem_append.mp he with z | z
    · exact h.wk e z
    · obtain ⟨z1, z2⟩ := nws_mem.mp z
      rw [z2]
      exact hw.step (sub _ z1)
  · intro i j e f hij hi hj
    rcases at_ hi with ⟨i1, i2⟩ | ⟨i1, i2⟩ <;> rcases at_ hj with ⟨j1, j2⟩ | ⟨j1, j2⟩
    · exact h.ord i j e f hij i2 j2
    · rw [(nws_mem.mp (List.mem_of_getElem? j2)).2]
      exact h.low e (List.mem_of_getElem? i2) n _ (Nat.le_refl _) hc _
    · omega
    · rw [(nws_mem.mp (List.mem_of_getElem? j2)).2, (nws_mem.mp (List.mem_of_getElem? i2)).2]
      refine SS.last _ ?_
      unfold nws at i2 j2
      rw [List.getElem?_map] at i2 j2
      cases hi3 : nb[i - ws.length]? with
      | none => rw [hi3] at i2; cases i2
      | some x =>
        cases hj3 : nb[j - ws.length]? with
        | none => rw [hj3] at j2; cases j2
        | some y =>
          rw [hi3] at i2
          rw [hj3] at j2
          cases i2
          cases j2
          obtain ⟨l1, e1⟩ := List.getElem?_eq_some_iff.mp hi3
          obtain ⟨l2, e2⟩ := List.getElem?_eq_some_iff.mp hj3
          have := List.pairwise_iff_getElem.mp t.inc _ _ l1 l2 (by omega)
          rw [e1, e2] at this
          exact this
  · exact List.mem_append_left _ h.beg
  · rw [List.length_append]
    omega
  · intro i e hi
    rcases at_ hi with ⟨i1, i2⟩ | ⟨i1, i2⟩
    · exact h.len i e i2
    · rw [(nws_mem.mp (List.mem_of_getElem? i2)).2, List.length_append]
      have := h.len n _ hc
      simp only [List.length_singleton] at this ⊢
      omega
  · intro i e hi he b hb
    rcases at_ he with ⟨i1, i2⟩ | ⟨i1, i2⟩
    · by_cases lt : i < n
      · obtain ⟨v, hv, q⟩ := h.don i e lt i2 b hb
        exact ⟨v, List.mem_append_left _ hv, q⟩
      · have : i = n := by omega
        subst this
        rw [hc] at i2
        cases i2
        rcases all b ((hbs b).mpr hb) with z | z
        · obtain ⟨⟨b', v⟩, hv, rfl⟩ := List.mem_map.mp z
          exact ⟨v, List.mem_append_left _ hv, .inr (h.low _ hv i _ (Nat.le_refl _) hc _)⟩
        · exact ⟨w ++ [b], List.mem_append_right _ (nws_mem.mpr ⟨z, rfl⟩), .inl rfl⟩
    · omega
  · intro e he j f hj hf x
    have old : ∀ e ∈ ws, ∀ b, SS e.2 (w ++ [b]) := fun e he b => h.low e he n _ (Nat.le_refl _) hc b
    rcases List.mem_append.mp he with z | z
    · rcases at_ hf with ⟨j1, j2⟩ | ⟨j1, j2⟩
      · exact h.low e z j f (by omega) j2 x
      · rw [(nws_mem.mp (List.mem_of_getElem? j2)).2]
        exact (old e z _).trans (SS.snoc _ _)
    · rw [(nws_mem.mp z).2]
      rcases at_ hf with ⟨j1, j2⟩ | ⟨j1, j2⟩
      · exact (h.ord n j _ _ (by omega) hc j2).app _ _
      · rw [(nws_mem.mp (List.mem_of_getElem? j2)).2]
        exact .inl (by simp)
end CC
namespace CC
open PySem L2 TL
abbrev sRowsOf : Stmt := tp 24
/-- words of a line, as data -/
def wd (row : List Nat) : PyData := .list ((row.map num).map PyData.str)
theorem dps_strs {K : PySem.W.Frag} {H : Hp} : ∀ {xs : List Str} {us : List V}, DpAll K H us (xs.map PyData.str) → us = xs.map V.str
  | [], _, h => by
    cases h
    rfl
  | x :: xs, _, h => by
    cases h with
    | cons h1 h2 =>
      rw [dp_str h1, dps_strs h2]
      rfl
theorem strs_dps {K : PySem.W.Frag} {H : Hp} : ∀ xs : List Str, DpAll K H (xs.map V.str) (xs.map PyData.str)
  | [] => .nil
  | x :: xs => .cons (.str x) (strs_dps xs)
theorem wd_at {K : PySem.W.Frag} {H : Hp} {v : V} {row : List Nat} (h : Dp K H v (wd row)) : ∃ l, v = .ref l ∧ SqL K H l ((row.map num).map V.str) := by
  obtain ⟨l, us, rfl, h1, h2⟩ := dp_l h
  rw [dps_strs h2] at h1
  exact ⟨l, rfl, h1⟩
theorem dps_wat {K : PySem.W.Frag} {H : Hp} {gs : List V} {ms : List (List Nat)} {i : Nat} {v : V} (h : DpAll K H gs (ms.map wd)) (e : gs[i]? = some v) : ∃ m, ms[i]? = some m ∧ Dp K H v (wd m) := by
  obtain ⟨d, h1, h2⟩ := dps_at h e
  rw [List.getElem?_map] at h1
  cases q : ms[i]? with
  | none => rw [q] at h1; cases h1
  | some m =>
    rw [q] at h1
    cases h1
    exact ⟨m, rfl, h2⟩
theorem word_at {row : List Nat} {i : Nat} {x : V} (h : ((row.map num).map V.str)[i]? = some x) : ∃ m, row[i]? = some m ∧ x = .str (num m) := by
  rw [List.getElem?_map, List.getElem?_map] at h
  cases z : row[i]? with
  | none =>
    rw [z] at h
    cases h
  | some m =>
    rw [z] at h
    exact ⟨m, rfl, (Option.some.inj h).symm⟩
theorem cut_butlast (xs : List V) (x : V) : cutV (xs ++ [x]) none (some (-1)) = xs := by
  unfold cutV
  have e : HT.sIx (xs ++ [x]).length (xs ++ [x]).length (some (-1)) = xs.length := by
    have := HT.clip_eq (-1) (xs ++ [x]).length (xs ++ [x]).length
    rw [if_pos (by decide)] at this
    have hl : (xs ++ [x]).length = xs.length + 1 := by simp
    omega
  rw [HT.sIx_none, e]
  simp
/-- a comprehension with two for's: the outer one over a list -/
theorem two_list {K : PySem.W.Frag} {a : Addr} {xs : List V} {g : TG} {tt : TT} {vs : List Nat} {σ : L2.St} {H1 : Hp} {D : Addr} {Qd : Hp → Prop} {B : L2.St → Hp → (Hp → Prop) → Prop} (Pv : Nat → Hp → Prop) (h0 : Pv 0 (upd H1 D (.lst []))) (hl : ∀ i H, i ≤ xs.length → Pv i H → SqL K H a xs)
    (hs : ∀ i x H, xs[i]? = some x → Pv i H → g x (wipe σ vs) H fun σ2 H2 => wipe σ2 vs = wipe σ vs ∧ tt σ2 H2 fun b H3 => if b = true then B σ2 H3 (Pv (i + 1)) else Pv (i + 1) H3) (hd : ∀ H, Pv xs.length H → Qd H) :
    ∃ W : Nat → Nat → Hp → Prop, (∃ m, W 0 m (upd H1 D (.lst []))) ∧ ∀ i m H, W i m H → ((Itl K a).stop i H ∧ Qd H) ∨ ((Itl K a).go i H ∧ ∃ Nx : Hp → Prop, (∀ H', Nx H' → ∃ m', m' < m ∧ W (i + 1) m' H') ∧ ∀ x H', (Itl K a).yld i H x H' → g x (wipe σ vs) H' fun σ2 H2 => wipe σ2 vs = wipe σ vs ∧ tt σ2 H2 fun b H3 =>
      if b = true then B σ2 H3 Nx else Nx H3) := by
  refine ⟨fun i m H => m = xs.length - i ∧ i ≤ xs.length ∧ Pv i H, ⟨xs.length, by simp, Nat.zero_le _, h0⟩, ?_⟩
  rintro i m H ⟨rfl, hi, p⟩
  have q := hl i H hi p
  by_cases lt : i < xs.length
  · refine .inr ⟨⟨xs, xs[i], q, by simp [lt]⟩, Pv (i + 1), fun H' p' => ⟨xs.length - (i + 1), by omega, rfl, lt, p'⟩, fun x H' y => ?_⟩
    obtain ⟨e, y⟩ := y
    subst e
    exact hs i x _ (y xs q) p
  · have e : i = xs.length := by omega
    subst e
    exact .inl ⟨⟨xs, q, Nat.le_refl _⟩, hd H p⟩
/-- its inner one over a list -/
theorem in_list {K : PySem.W.Frag} {a : Addr} {xs : List V} {H1 : Hp} {Qd : Hp → Prop} {B : V → Hp → (Hp → Prop) → Prop} (Pv : Nat → Hp → Prop) (h0 : Pv 0 H1) (hl : ∀ i H, i ≤ xs.length → Pv i H → SqL K H a xs) (hs : ∀ i x H, xs[i]? = some x → Pv i H → B x H (Pv (i + 1))) (hd : ∀ H, Pv xs.length H → Qd H) :
    ∃ W : Nat → Nat → Hp → Prop, (∃ m, W 0 m H1) ∧ ∀ i m H, W i m H → ((Itl K a).stop i H ∧ Qd H) ∨ ((Itl K a).go i H ∧ ∃ Nx : Hp → Prop, (∀ H', Nx H' → ∃ m', m' < m ∧ W (i + 1) m' H') ∧ ∀ x H', (Itl K a).yld i H x H' → B x H' Nx) := by
  refine ⟨fun i m H => m = xs.length - i ∧ i ≤ xs.length ∧ Pv i H, ⟨xs.length, by simp, Nat.zero_le _, h0⟩, ?_⟩
  rintro i m H ⟨rfl, hi, p⟩
  have q := hl i H hi p
  by_cases lt : i < xs.length
  · refine .inr ⟨⟨xs, xs[i], q, by simp [lt]⟩, Pv (i + 1), fun H' p' => ⟨xs.length - (i + 1), by omega, rfl, lt, p'⟩, fun x H' y => ?_⟩
    obtain ⟨e, y⟩ := y
    subst e
    exact hs i x _ (y xs q) p
  · have e : i = xs.length := by omega
    subst e
    exact .inl ⟨⟨xs, q, Nat.le_refl _⟩, hd H p⟩
def rIntS : List V → Hp → VK → Prop := fun xs H Q => ∃ a n, xs = [.str a] ∧ PySem.intText? a = some n ∧ a.length ≤ 640 ∧ Q (.int n) H
theorem call_intS {X : Cx} : CallR X (.type "int") rIntS := call_int_str
def rLenSq (K : PySem.W.Frag) : List V → Hp → VK → Prop := fun xs H Q => ∃ p ys, xs = [V.ref p] ∧ (SqL K H p ys ∨ SqT K H p ys) ∧ Q (V.int ((ys.length : Nat) : Int)) H
theorem call_lenSq {X : Cx} : CallR X (.builtin "len") (rLenSq X.K) := call_len_seq
def retVal : Stmt → Expr
  | .Return (some v) _ => v
  | _ => .Constant .none 0 ⟨0, 0, 0, 0⟩
def lcScT : Expr → Scope
  | .ListComp _ _ sc _ => sc
  | _ => { kind := .function, names := [], isGenerator := false, isCoroutine := false }
abbrev scRows5 : Scope := lcScT (retVal ((defBody sRowsOf).getD 5 (.Pass ⟨0, 0, 0, 0⟩)))
def spRowsOf (K : PySem.W.Frag) : Sp := fun vs H Q _ => ∃ (w : Nat) (rows : List (List Nat)), vs = [.int (w : Int), .str (textT rows)] ∧ 1 ≤ w ∧ w ≤ 6 ∧ (∀ r ∈ rows, RowOk w r) ∧ rows.length ≤ 400 ∧ NewF gd K H rows Q
section
variable {P : Program} {w : World} {K : PySem.W.Frag} {mg : Str → Option Value} {base : Heap} {kA : Addr}
abbrev nRow : List Str := ["width", "text", "parts", "lines", "part", "words", "word"]
theorem scRowsOf : FnScope nRow ["width", "text"] (defScope sRowsOf) := ⟨rfl, rfl, rfl, by decide +kernel, rfl, by decide +kernel, by decide +kernel⟩
theorem ok_rowsof {f : Addr} {fd : FuncData} {k : Nat} (F : Fun K "rows_of" "rows_of" sRowsOf f fd) (T : Glb K mg kA) (TT : GlbT mg) (cN : Cal P w K mg base "is_numeral" ["word"] spIsNum 1) : FnOk P w K mg base CX0 (k + 2) f fd ["width", "text"] (spRowsOf K) := by
  have GN := cN.ok (k + 1) (by omega)
  refine F.ok scRowsOf (fun vs H Q E h => ?_) (fun cdv A outer s H vs Q E hr h => ?_)
  · obtain ⟨w, rows, rfl, _⟩ := h
    rfl
  · obtain ⟨w, rows, rfl, w1, w6, ok, few, q⟩ := h
    obtain ⟨tm, hmr⟩ := TT.mr
    have n := scRowsOf.nd
    refine ⟨_, (pss_cons (ps_set (i := 2) n rfl (.inl rfl) (pe_split (pv 1) pe_str))
      (pss_cons (ps_setLc (i := 3) (own := [("part", 4)]) (g := gName 4) (tt := tYes) rfl n rfl rfl (sw_true rfl rfl rfl (by decide +kernel)) (pi_list (pe_slice sl_list (pv 2) po_none (po_some (pe_un un_neg pe_int)))) (blkOk_by (N := nRow) (sc := defScope sRowsOf) (by decide +kernel))
        (fun _ _ _ _ _ => (pg_name (i := 4) n rfl (.inl rfl))) (fun _ _ _ _ _ => pts_nil) (fun _ _ _ _ _ => (pe_split (pv 4) pe_str)))
      (pss_cons (ps_if (PW.pt (pw_or (pt_cmpR op_ne (pe_ix ix_list (pv 2) (pe_un un_neg pe_int) (fun _ _ => rfl)) pe_str (nomark _)) (pw_or1 (pt_cmpR op_gt (pe_callB call_len_seq (by rfl) T.len PySem.boot_len (pa_cons (pv 3) pa_nil)) (pe_glob (v := .int 400) rfl hmr ⟨_, rfl⟩) (nomark _))))) (pss_one (ps_ret pe_non)) pss_nil)
      (pss_cons (ps_if (pt_not (pt_val (pe_callB (cr_all rfl) (by rfl) T.all (by decide +kernel) (pa_cons (pe_lc (own := [("words", 5)]) (g := gName 5) (tt := tYes) (te := tOp rEq (tCB (rLenSq K) (tCons (tVar 5) tNil)) (tVar 0)) rfl n (pi_list (pv 3)) (blkOk_by (N := nRow) (sc := defScope sRowsOf) (by decide +kernel))
        (fun _ _ _ _ _ => (pg_name (i := 5) n rfl (.inl rfl))) (fun _ _ _ _ _ => pts_nil) (fun _ _ _ _ _ => (pe_cmpR op_eq (pe_callB call_lenSq (by rfl) T.len PySem.boot_len (pa_cons (pv 5) pa_nil)) (pv 0) (nomark _)))) pa_nil)))) (pss_one (ps_ret pe_non)) pss_nil)
      (pss_cons (ps_if (pt_not (pt_val (pe_callB (cr_all rfl) (by rfl) T.all (by decide +kernel) (pa_cons (pe_lc2 (own := [("words", 5), ("word", 6)]) (vs1 := [6]) (g := gName 5) (g1 := gName 6) (tt := tYes) (tt1 := tYes) (wi1 := iList K (tVar 5)) (te := tCall spIsNum [] E0 (tCons (tVar 6) tNil)) rfl n (pi_list (pv 3)) (blkOk_by (N := nRow) (sc := defScope sRowsOf) (by decide +kernel)) (by decide)
        (fun _ _ _ _ _ => (pg_name (i := 5) n rfl (.inl rfl))) (fun _ _ _ _ _ => pts_nil) (fun _ _ _ _ _ => (pi_list (pv 5))) (fun _ _ _ _ _ => (pg_name (i := 6) n rfl (.inl rfl))) (fun _ _ _ _ _ => pts_nil) (fun _ _ _ _ _ => (pe_call GN hr rfl cN.g cN.kp cN.b .nil pass0 (pa_cons (pv 6) pa_nil)))) pa_nil)))) (pss_one (ps_ret pe_non)) pss_nil)
      (pss_one (ps_ret (pe_lc (own := [("words", 5)]) (g := gName 5) (tt := tYes) (te := tCB (rTupOf K) (tCons (tLc (iList K (tVar 5)) (gName 6) tYes (tCB rIntS (tCons (tVar 6) tNil)) [6]) tNil)) rfl n (pi_list (pv 3)) (blkOk_by (N := nRow) (sc := defScope sRowsOf) (by decide +kernel))
        (fun _ _ _ _ _ => (pg_name (i := 5) n rfl (.inl rfl))) (fun _ _ _ _ _ => pts_nil) (fun _ _ _ _ _ => (pe_callTy call_tuple_of (by rfl) T.tup (by decide +kernel) (pa_cons (pe_lc (own := [("word", 6)]) (g := gName 6) (tt := tYes) rfl n (pi_list (pv 5)) (blkOk_by (N := nRow) (sc := relS scRows5 (defScope sRowsOf)) (by decide +kernel))
        (fun _ _ _ _ _ => (pg_name (i := 6) n rfl (.inl rfl))) (fun _ _ _ _ _ => pts_nil) (fun _ _ _ _ _ => (pe_callTy call_intS (by rfl) T.int (by decide +kernel) (pa_cons (pv 6) pa_nil)))) pa_nil))))))))))), ?_⟩
    have tlen := textT_len ok w6
    have rne : ∀ r ∈ rows, r ≠ [] := fun r hr e => by
      have := (ok r hr).1
      rw [e] at this
      simp at this
      omega
    refine ⟨_, rfl, ⟨_, rfl⟩, _, _, rfl, rfl, by decide +kernel, Nat.le_trans (show (textT rows).length + 2 ≤ 100000 by omega) (by decide), fun p3 n3 => ?_⟩
    rw [split_textT, List.map_append]
    have m3 : Same H (upd H p3 (.lst ((rows.map rowS).map V.str ++ [Str.empty].map V.str))) := same_new n3
    have h3 : (upd H p3 (.lst ((rows.map rowS).map V.str ++ [Str.empty].map V.str))) p3 = some (.lst ((rows.map rowS).map V.str ++ [V.str Str.empty])) := upd_same
    generalize upd H p3 (.lst ((rows.map rowS).map V.str ++ [Str.empty].map V.str)) = H3 at m3 h3
    -- lines
    refine ⟨_, rfl, _, rfl, _, rfl, p3, _, rfl, SqL.of h3, fun p4 n4 => ?_⟩
    rw [cut_butlast]
    have m4 : Same H3 (upd H3 p4 (.lst ((rows.map rowS).map V.str))) := same_new n4
    have h4 : (upd H3 p4 (.lst ((rows.map rowS).map V.str))) p4 = some (.lst ((rows.map rowS).map V.str)) := upd_same
    generalize upd H3 p4 (.lst ((rows.map rowS).map V.str)) = H4 at m4 h4
    refine ⟨p4, rfl, ⟨_, SqL.of h4⟩, fun D nD => ?_⟩
    refine lc_list (xs := (rows.map rowS).map V.str) (fun i H5 => MadeF wd K H4 D i H5 (rows.take i)) MadeF.start (fun i H5 _ z => SqL.of (z.old nD _ _ h4)) ?_ ?_
    · intro i v H5 hv p5
      obtain ⟨r, hr2, rfl⟩ : ∃ r, rows[i]? = some r ∧ v = .str (rowS r) := by
        rw [List.getElem?_map, List.getElem?_map] at hv
        cases z : rows[i]? with
        | none => rw [z] at hv; cases hv
        | some r => rw [z] at hv; exact ⟨r, rfl, (Option.some.inj hv).symm⟩
      have rm := List.mem_of_getElem? hr2
      have il := (List.getElem?_eq_some_iff.mp hr2).1
      have rl := rowS_len (ok r rm) w6
      refine ⟨rfl, yes_if ⟨_, rfl, ⟨_, rfl⟩, _, _, rfl, rfl, by decide +kernel, Nat.le_trans (show (rowS r).length + 2 ≤ 100000 by omega) (by decide), fun l nl => ?_⟩⟩
      rw [split_row (rne r rm), take1 hr2]
      obtain ⟨us5, _, hD5, _⟩ := id p5
      have lD : l ≠ D := (ne_of_none hD5 nl).symm
      exact p5.push (r := r) (by omega) (Nat.lt_succ_self _) (same_new nl) (.lst (.inl (.inl (by rw [wo_ne lD]; exact upd_same))) (strs_dps _))
    intro H5 p5
    rw [List.length_map, List.length_map, List.take_length] at p5
    have o5 := p5.old nD
    obtain ⟨ul, _, hD5, dl0, _⟩ := id p5
    have dl : DpAll K H5 ul (rows.map wd) := dps_same (wo_le D) _ _ dl0
    have ull : ul.length = rows.length := by rw [dps_len dl, List.length_map]
    have s05 : Same H H5 := m3.trans (m4.trans o5)
    have nD0 : H D = none := (m3.trans m4).free nD
    clear p5 dl0
    -- if parts[-1] != "" or len(lines) > 400
    refine ⟨_, rfl, _, rfl, p3, _, -1, _, rfl, rfl, SqL.of (o5 _ _ (m4 _ _ h3)), atI_last _ _, rfl, _, rfl, ?_⟩
    rw [show (!decide (V.str Str.empty = V.str (Str.ofString ""))) = false by decide +kernel]
    refine iteF ⟨_, rfl, D, _, rfl, .inl (SqL.of hD5), _, _, rfl, rfl, _, rfl, ?_⟩
    rw [show decide (((ul.length : Nat) : Int) > (400 : Int)) = false from decide_eq_false (by omega)]
    refine iteF ?_
    -- len(words) == width
    refine ⟨_, rfl, D, rfl, ⟨_, SqL.of hD5⟩, fun D2 nD2 => ?_⟩
    refine lc_list (xs := ul) (fun i H6 => Same H5 (wo H6 D2) ∧ H6 D2 = some (.lst ((List.replicate i true).map V.bl)) ∧ i ≤ 400) ⟨?_, upd_same, by omega⟩ (fun i H6 _ z => SqL.of (wo_le D2 _ _ (z.1 _ _ hD5))) ?_ ?_
    · rw [wo_upd]
      exact fun b o e => by rw [wo_ne (ne_of_none e nD2)]; exact e
    · rintro i v H6 hv ⟨e1, e2, e3⟩
      obtain ⟨r, hr2, dr⟩ := dps_wat dl hv
      have il := (List.getElem?_eq_some_iff.mp hr2).1
      obtain ⟨l, rfl, hl⟩ := wd_at (dp_same (e1.trans (wo_le D2)) _ _ dr)
      refine ⟨rfl, yes_if ⟨_, rfl, l, _, rfl, .inl hl, _, rfl, rfl, ?_⟩⟩
      have ew : decide (V.int (((((r.map num).map V.str).length : Nat)) : Int) = V.int (w : Int)) = true := decide_eq_true (by rw [List.length_map, List.length_map, (ok r (List.mem_of_getElem? hr2)).1])
      rw [ew]
      refine ⟨_, e2, small1000 (by simp; omega), ?_, ?_, by omega⟩
      · rw [wo_upd]
        exact e1
      · rw [upd_same, List.replicate_succ', List.map_append]
        rfl
    rintro H6 ⟨e1, e2, _⟩
    refine ⟨D2, _, rfl, SqL.of e2, _, rfl, ?_⟩
    rw [all_true]
    refine iteF ?_
    have s56 : Same H5 H6 := e1.trans (wo_le D2)
    clear e1 e2
    -- is_numeral(word)
    refine ⟨_, rfl, D, rfl, ⟨_, SqL.of (s56 _ _ hD5)⟩, fun D3 nD3 => ?_⟩
    refine two_list (xs := ul) (fun i H7 => Same H6 (wo H7 D3) ∧ (∃ m, H7 D3 = some (.lst ((List.replicate m true).map V.bl)) ∧ m ≤ 6 * i) ∧ i ≤ 400) ⟨?_, ⟨0, upd_same, by omega⟩, by omega⟩ (fun i H7 _ z => SqL.of (wo_le D3 _ _ (z.1 _ _ (s56 _ _ hD5)))) ?_ ?_
    · rw [wo_upd]
      exact fun b o e => by rw [wo_ne (ne_of_none e nD3)]; exact e
    · rintro i v H7 hv ⟨e1, ⟨m, e2, e3⟩, e4⟩
      obtain ⟨r, hr2, dr⟩ := dps_wat dl hv
      have il := (List.getElem?_eq_some_iff.mp hr2).1
      have rok := ok r (List.mem_of_getElem? hr2)
      obtain ⟨l, rfl, hl5⟩ := wd_at dr
      have wl : ((r.map num).map V.str).length = w := by rw [List.length_map, List.length_map, rok.1]
      refine ⟨rfl, yes_if ⟨_, rfl, l, rfl, ⟨_, same_l (s56.trans (e1.trans (wo_le D3))) hl5⟩, ?_⟩⟩
      refine in_list (xs := (r.map num).map V.str) (fun j H8 => Same H6 (wo H8 D3) ∧ (∃ m, H8 D3 = some (.lst ((List.replicate m true).map V.bl)) ∧ m ≤ 6 * i + j) ∧ j ≤ 6) ⟨e1, ⟨m, e2, by omega⟩, by omega⟩ (fun j H8 _ z => same_l (s56.trans (z.1.trans (wo_le D3))) hl5) ?_ ?_
      · rintro j y H8 hy ⟨f1, ⟨m', f2, f3⟩, f4⟩
        obtain ⟨c, hc, rfl⟩ := word_at hy
        have jl := (List.getElem?_eq_some_iff.mp hc).1
        have r1 := rok.1
        refine ⟨rfl, yes_if ⟨_, rfl, c, rfl, rok.2 c (List.mem_of_getElem? hc), _, f2, Nat.lt_of_lt_of_le (show _ < 10000 by rw [List.length_map, List.length_replicate]; omega) (by decide), ?_, ⟨m' + 1, ?_, by omega⟩, by omega⟩⟩
        · rw [wo_upd]
          exact f1
        · rw [upd_same, List.replicate_succ', List.map_append]
          rfl
      · rintro H8 ⟨f1, ⟨m', f2, f3⟩, _⟩
        rw [wl] at f3
        exact ⟨f1, ⟨m', f2, by omega⟩, by omega⟩
    rintro H7 ⟨e1, ⟨m, e2, e3⟩, _⟩
    refine ⟨D3, _, rfl, SqL.of e2, _, rfl, ?_⟩
    rw [all_true]
    refine iteF ?_
    have s57 : Same H5 H7 := s56.trans (e1.trans (wo_le D3))
    clear e1 e2
    -- the rows
    refine ⟨_, rfl, D, rfl, ⟨_, SqL.of (s57 _ _ hD5)⟩, fun D4 nD4 => ?_⟩
    refine lc_list (xs := ul) (fun i H8 => MadeF gd K H7 D4 i H8 (rows.take i)) MadeF.start (fun i H8 _ z => SqL.of (z.old nD4 _ _ (s57 _ _ hD5))) ?_ ?_
    · intro i v H8 hv p8
      obtain ⟨r, hr2, dr⟩ := dps_wat dl hv
      have il := (List.getElem?_eq_some_iff.mp hr2).1
      have rok := ok r (List.mem_of_getElem? hr2)
      obtain ⟨l, rfl, hl5⟩ := wd_at dr
      have o8 := p8.old nD4
      have wl : ((r.map num).map V.str).length = r.length := by rw [List.length_map, List.length_map]
      refine ⟨rfl, yes_if ⟨_, rfl, l, rfl, ⟨_, same_l (s57.trans o8) hl5⟩, fun D5 nD5 => ?_⟩⟩
      refine lc_list (xs := (r.map num).map V.str) (fun j H9 => Same H8 (wo H9 D5) ∧ H9 D5 = some (.lst (nms (r.take j)))) ⟨?_, upd_same⟩ (fun j H9 _ z => same_l (s57.trans (o8.trans (z.1.trans (wo_le D5)))) hl5) ?_ ?_
      · rw [wo_upd]
        exact fun b o e => by rw [wo_ne (ne_of_none e nD5)]; exact e
      · rintro j y H9 hy ⟨f1, f2⟩
        obtain ⟨c, hc, rfl⟩ := word_at hy
        have jl := (List.getElem?_eq_some_iff.mp hc).1
        have cv := rok.2 c (List.mem_of_getElem? hc)
        have r1 := rok.1
        refine ⟨rfl, yes_if ⟨_, rfl, _, _, rfl, num_int cv, Nat.le_trans (num_len cv) (by decide), _, f2, small1000 (by rw [nms_len, List.length_take]; omega), ?_, ?_⟩⟩
        · rw [wo_upd]
          exact f1
        · rw [upd_same, take1 hc, nms_app]
          rfl
      rintro H9 ⟨f1, f2⟩
      rw [wl, List.take_length] at f2
      have s89 : Same H8 H9 := f1.trans (wo_le D5)
      refine ⟨D5, _, rfl, .inl ⟨SqL.of f2, fun t nt => ?_⟩⟩
      obtain ⟨us8, _, hD8, _⟩ := id p8
      have tD : t ≠ D4 := (ne_of_none (s89 _ _ hD8) nt).symm
      rw [take1 hr2]
      exact p8.push (r := r) (by omega) (Nat.lt_succ_self _) (s89.trans (same_new nt)) (dp_gd (.inl (.inl (by rw [wo_ne tD]; exact upd_same))))
    intro H8 p8
    rw [ull, List.take_length] at p8
    exact p8.out nD4 (s05.trans s57) q
end
end CC
namespace CC
open PySem L2 TL
section
variable {X : Cx} {CX : CXT} {k i : Nat} {f C : Addr} {sp : Sp} {E : XK} {x : Str} {e : Expr} {es : List Expr} {t : TA} {p pos : Pos}
/-- c(e, *y), c a local that holds the class at C -/
theorem pe_makeLS (M : Mk X.K C f) (F : FnR X.prog X.w X.K X.mg X.base CX k f sp) (hr : Room (k + 1) X.A) (hN : X.N[i]? = some x) (hv : Vis X.env.scope x) (hx : Passes CX X E) (ha : PA X (e :: es) t) (hdb : (x == ("__debug__" : Str)) = false := by decide)
    (hcd : (x == ("__classdict__" : Str)) = false := by decide) (he : starEach (e :: es) X.env = (false, eval e X.env) :: starEach es X.env := by rfl) (hst : (backTo pos (starEach es X.env)).any (·.1) = true := by rfl) :
    PE X (.Call (.Name x p) (e :: es) [] pos) (fun σ H Q => σ[i]? = some (some (.ref C)) ∧ StX.tMakeR C sp E t σ H Q) := by
  refine ⟨fun pins s σ H Q I ⟨h1, h2⟩ => ?_⟩
  refine wpAny_Call_Name_kw (thn ((pe_var (pos := p) hN hv hdb hcd).run pins s σ H (fun v H1 => v = .ref C ∧ H1 = H) I ⟨.ref C, h1, rfl, rfl⟩) fun u s1 ⟨v, H1, I1, r1, q1⟩ => ?_)
  obtain ⟨rfl, rfl⟩ := q1
  cases r1
  refine PySem.W.callWith_S2 (h₀ := X.base) I.ok.mod.kin M.kp (thn (ha.run pos pins s1 σ _ _ I1 h2) fun us s2 ⟨vs, H2, I2, r, q⟩ => ⟨I2.kIn, ?_⟩) he hst
  exact StX.run_makeR M F hr hx I2 r q
end
theorem from_le {p : Nat → Prop} {l : Nat} (h : ∀ k, p (k + l)) : ∀ k, l ≤ k → p k := fun k hk => by
  have := h (k - l)
  rwa [Nat.sub_add_cancel hk] at this
end CC
namespace CC
open PySem L2 TL
abbrev sTInit : Stmt := inClass (tp 27) 0
abbrev sTRead : Stmt := inClass (tp 27) 12
def flT0 (w : Nat) : List (Str × V) := putF "span" (.int (w : Int)) []
def fldT (w : Nat) (g : Addr) : List (Str × V) := putF "lines" (.ref g) (flT0 w)
theorem slN : ¬ (("span" : Str) = "lines") := by decide +kernel
theorem fldT_span (w : Nat) (g : Addr) : (fldT w g).lookup ("span" : Str) = some (.int (w : Int)) := by
  unfold fldT flT0
  rw [lookup_putF, if_neg slN, lookup_putF, if_pos rfl]
theorem fldT_lines (w : Nat) (g : Addr) : (fldT w g).lookup ("lines" : Str) = some (.ref g) := by
  unfold fldT
  rw [lookup_putF, if_pos rfl]
/-- a table stands at x -/
def TableAt (K : PySem.W.Frag) (C : Addr) (H : Hp) (x : Addr) (w : Nat) (rows : List (List Nat)) : Prop := ∃ dx g us, H x = some (.ins C dx (fldT w g)) ∧ H g = some (.tup us) ∧ DpAll K H us (rows.map gd)
theorem TableAt.same {K : PySem.W.Frag} {C : Addr} {H H' : Hp} {x : Addr} {w : Nat} {rows : List (List Nat)} (h : TableAt K C H x w rows) (e : Same H H') : TableAt K C H' x w rows := by
  obtain ⟨dx, g, us, h1, h2, h3⟩ := h
  exact ⟨dx, g, us, e _ _ h1, e _ _ h2, dps_same e _ _ h3⟩
structure TxtT (K : PySem.W.Frag) (mg : Str → Option Value) (C : Addr) : Prop where
  cl : Cls K C
  nS : NoAttr K C "span"
  nL : NoAttr K C "lines"
  mgC : mg "Table" = some (.ref C)
def spTInit (K : PySem.W.Frag) (C : Addr) : Sp := fun vs H Q _ => ∃ (x dx : Addr) (w : Nat) (p : Addr) (us : List V) (rows : List (List Nat)), vs = [.ref x, .int (w : Int), .ref p] ∧ H x = some (.ins C dx []) ∧ 1 ≤ w ∧ w ≤ 6 ∧ H p = some (.tup us) ∧ DpAll K (wo H x) us (rows.map gd) ∧
  (∀ r ∈ rows, RowOk w r) ∧ rows.length ≤ 400 ∧ ∀ H', (∀ b o, H b = some o → b ≠ x → H' b = some o) → H' x = some (.ins C dx (fldT w p)) → Q .non H'
def spTInitR (K : PySem.W.Frag) (C : Addr) : Sp := fun vs H Q E => ∃ ws rest, vs = ws ++ rest ∧ ws.length = 2 ∧ rest.length ≤ sizeLine ∧ ∀ p, H p = Option.none → spTInit K C (ws ++ [V.ref p]) (upd H p (.tup rest)) Q E
def spTRead (K : PySem.W.Frag) (C : Addr) : Sp := fun vs H Q _ => ∃ (w : Nat) (rows : List (List Nat)), vs = [.ref C, .int (w : Int), .str (textT rows)] ∧ 1 ≤ w ∧ w ≤ 6 ∧ (∀ r ∈ rows, RowOk w r) ∧ rows.length ≤ 400 ∧ ∀ (x : Addr) (H' : Hp), Same H H' → H x = none → TableAt K C H' x w rows → Q (.ref x) H'
structure MakeT (P : Program) (w : World) (K : PySem.W.Frag) (mg : Str → Option Value) (base : Heap) (C : Addr) (l : Nat) where
  fN : Addr
  M : Mk K C fN
  ok : ∀ k, l ≤ k → FnR P w K mg base CX0 k fN (spTInitR K C)
structure ReadT (P : Program) (w : World) (K : PySem.W.Frag) (mg : Str → Option Value) (base : Heap) (C : Addr) (l : Nat) where
  mc : Value
  pD : Addr
  fD : Addr
  rD : ClX.CRead K C mc
  cD : ClX.CMet K C mc "read" pD fD
  ok : ∀ k, l ≤ k → FnR P w K mg base CX0 k fD (spTRead K C)
section
variable {P : Program} {w : World} {K : PySem.W.Frag} {mg : Str → Option Value} {base : Heap} {kA : Addr}
abbrev nTI : List Str := ["self", "width", "rows", "row"]
theorem scTInit : FnScope nTI ((["self", "width"] : List Str) ++ ([("rows" : Str)] : List Str)) (defScope sTInit) := ⟨rfl, rfl, rfl, by decide +kernel, rfl, by decide +kernel, by decide +kernel⟩
theorem ok_tinit {f C : Addr} {fd : FuncData} {k : Nat} (F : Fun K "__init__" "Table.__init__" sTInit f fd) (T : Glb K mg kA) (TT : GlbT mg) (TC : TxtT K mg C) (cW : Cal P w K mg base "is_width" ["thing"] spIsWidth 2) (cR : Cal P w K mg base "is_row" ["width", "thing"] (spIsRow K) 2) :
    FnR P w K mg base CX0 (k + 3) f (spTInitR K C) := by
  have GW := cW.ok (k + 2) (by omega)
  have GR := cR.ok (k + 2) (by omega)
  obtain ⟨oc, od, kV, doc, pm, an, cdv, ct, osl, rfl, lk, hcd⟩ := F.ex
  refine StX.fn_star (ps := ["self", "width"]) (pv := "rows") lk hcd scTInit StX.cxUp_none (fun us rest hl => ?_) (fun A outer s H vs Q E hr h => ?_)
  · match us, hl with
    | [a, b], _ =>
      cases rest with
      | nil => rfl
      | cons c r => rfl
  · obtain ⟨x, dx, w, p, us, rows, rfl, hx, w1, w6, hp, dp, ok, few, q⟩ := h
    obtain ⟨tm, hmr⟩ := TT.mr
    have n := scTInit.nd
    refine ⟨_, PSs.nox (pss_cons (ps_if (pt_not (pt_val (pe_call GW hr rfl cW.g cW.kp cW.b .nil pass0 (pa_cons (pv 1) pa_nil)))) (pss_one ps_never) pss_nil)
      (pss_cons (ps_if (pt_cmpR op_gt (pe_callB call_len_seq (by rfl) T.len PySem.boot_len (pa_cons (pv 2) pa_nil)) (pe_glob (v := .int 400) rfl hmr ⟨_, rfl⟩) (nomark _)) (pss_one ps_never) pss_nil)
      (pss_cons (ps_if (pt_not (pt_val (pe_callB (cr_all rfl) (by rfl) T.all (by decide +kernel) (pa_cons (pe_lc (own := [("row", 3)]) (g := gName 3) (tt := tYes) (te := tCall (spIsRow K) [] E0 (tCons (tVar 1) (tCons (tVar 3) tNil))) rfl n (pi_tup (pv 2)) (blkOk_by (N := nTI) (sc := defScope sTInit) (by decide +kernel))
        (fun _ _ _ _ _ => (pg_name (i := 3) n rfl (.inl rfl))) (fun _ _ _ _ _ => pts_nil) (fun _ _ _ _ _ => (pe_call GR hr rfl cR.g cR.kp cR.b .nil pass0 (pa_cons (pv 1) (pa_cons (pv 3) pa_nil))))) pa_nil)))) (pss_one ps_never) pss_nil)
      (pss_cons (ps_fld (pv 0) (pv 1) rfl) (pss_one (ps_fld (pv 0) (pv 2) rfl)))))), ?_⟩
    have ul : us.length = rows.length := by rw [dps_len dp, List.length_map]
    refine ⟨_, rfl, w, rfl, w1, w6, _, rfl, iteF ?_⟩
    refine ⟨_, rfl, p, us, rfl, .inr (.inl (.inl hp)), _, _, rfl, rfl, _, rfl, ?_⟩
    rw [show decide (((us.length : Nat) : Int) > (400 : Int)) = false from decide_eq_false (by omega)]
    refine iteF ?_
    refine ⟨_, rfl, p, rfl, ⟨_, .inl (.inl hp)⟩, fun D nD => ?_⟩
    refine lc_tup (xs := us) (fun i H1 => Same H (wo H1 D) ∧ H1 D = some (.lst ((List.replicate i true).map V.bl)) ∧ i ≤ 400) ⟨?_, upd_same, by omega⟩ (fun i H1 _ z => .inl (.inl (wo_le D _ _ (z.1 _ _ hp)))) ?_ ?_
    · rw [wo_upd]
      exact fun b o e => by rw [wo_ne (ne_of_none e nD)]; exact e
    · rintro i v H1 hv ⟨e1, e2, e3⟩
      obtain ⟨r, hr2, dr⟩ := dps_gat dp hv
      have il := (List.getElem?_eq_some_iff.mp hr2).1
      obtain ⟨t, rfl, ht⟩ := gd_at dr
      have sx : Same (wo H x) H1 := (wo_le x).trans (e1.trans (wo_le D))
      refine ⟨rfl, yes_if ⟨_, rfl, _, rfl, w, t, r, rfl, same_t sx ht, ok r (List.mem_of_getElem? hr2), w6, fun H2 s2 => ?_⟩⟩
      refine ⟨_, s2 _ _ e2, small1000 (by simp; omega), ?_, ?_, by omega⟩
      · rw [wo_upd]
        exact e1.trans (wo_same s2)
      · rw [upd_same, List.replicate_succ', List.map_append]
        rfl
    rintro H1 ⟨e1, e2, _⟩
    refine ⟨D, _, rfl, SqL.of e2, _, rfl, ?_⟩
    rw [all_true]
    refine iteF ?_
    have m1 : Same H H1 := e1.trans (wo_le D)
    have hx1 := m1 _ _ hx
    refine ⟨_, rfl, _, rfl, x, C, dx, _, rfl, hx1, TC.cl, TC.nS, (by show 0 < 1000; decide), ?_⟩
    refine ⟨_, rfl, _, rfl, x, C, dx, _, rfl, upd_same, TC.cl, TC.nL, (by show 1 < 1000; decide), ?_⟩
    refine q _ (fun b o e hb => ?_) upd_same
    rw [upd_ne hb, upd_ne hb]
    exact m1 _ _ e
abbrev nTR : List Str := ["cls", "width", "text", "found"]
theorem scTRead : FnScope nTR ["cls", "width", "text"] (defScope sTRead) := ⟨rfl, rfl, rfl, by decide +kernel, rfl, by decide +kernel, by decide +kernel⟩
theorem ok_tread {f C : Addr} {fd : FuncData} {k : Nat} (F : Fun K "read" "Table.read" sTRead f fd) (T : Glb K mg kA) (m : MakeT P w K mg base C 3) (cW : Cal P w K mg base "is_width" ["thing"] spIsWidth 2) (cO : Cal P w K mg base "rows_of" ["width", "text"] (spRowsOf K) 2) : FnOk P w K mg base CX0 (k + 5) f fd ["cls", "width", "text"] (spTRead K C) := by
  have GW := cW.ok (k + 4) (by omega)
  have GO := cO.ok (k + 4) (by omega)
  have GN := m.ok (k + 3) (by omega)
  refine F.ok scTRead (fun vs H Q E h => ?_) (fun cdv A outer s H vs Q E hr h => ?_)
  · obtain ⟨w, rows, rfl, _⟩ := h
    rfl
  · obtain ⟨w, rows, rfl, w1, w6, ok, few, q⟩ := h
    have n := scTRead.nd
    refine ⟨_, pss_cons (ps_if (pt_not (pt_val (pe_call GW hr rfl cW.g cW.kp cW.b .nil pass0 (pa_cons (pv 1) pa_nil)))) (pss_one ps_never) pss_nil)
      (pss_cons (ps_if (pt_not (pt_val (pe_callB call_isi (by rfl) T.isi (by decide +kernel) (pa_cons (pv 2) (pa_cons (pe_bltn (v := .ty "str") (by rfl) T.str (by decide +kernel) rfl) pa_nil))))) (pss_one ps_never) pss_nil)
      (pss_cons (ps_set (i := 3) n rfl (.inl rfl) (pe_call GO hr rfl cO.g cO.kp cO.b .nil pass0 (pa_cons (pv 1) (pa_cons (pv 2) pa_nil))))
      (pss_cons (ps_if (pt_cmpR op_isN (pv 3) pe_non (nomark _)) (pss_one ps_never) pss_nil)
      (pss_one (ps_ret (pe_makeLS (i := 0) m.M GN hr rfl (.inl rfl) pass0 (pa_cons (pv 1) (StX.pa_star (pv 3) pa_nil)))))))), ?_⟩
    refine ⟨_, rfl, w, rfl, w1, w6, _, rfl, iteF ?_⟩
    refine ⟨_, rfl, _, _, _, _, true, rfl, .ty _, .base (.str _), kit_ty (by decide +kernel), _, rfl, iteF ?_⟩
    refine ⟨_, rfl, _, rfl, w, rows, rfl, w1, w6, ok, few, fun p us H1 s1 np hp dp => ?_⟩
    refine ⟨_, rfl, rfl, _, rfl, iteF ?_⟩
    have ul : us.length = rows.length := by rw [dps_len dp, List.length_map]
    refine ⟨rfl, _, rfl, _, rfl, p, us, rfl, .inr (SqL.of hp), fun x dx nx ndx ne => ?_⟩
    rw [List.append_nil]
    refine ⟨[.ref x, .int (w : Int)], us, rfl, rfl, Nat.le_of_lt (small1000 (by omega)), fun g ng => ?_⟩
    have gx : x ≠ g := fun z => by rw [← z, upd_same] at ng; cases ng
    have gdx : dx ≠ g := fun z => by rw [← z, upd_ne ne, upd_same] at ng; cases ng
    have ng1 : H1 g = none := by
      rw [upd_ne gx.symm, upd_ne gdx.symm] at ng
      exact ng
    have keep : ∀ b o, H1 b = some o → (upd (upd (upd H1 dx (.own x)) x (.ins C dx [])) g (.tup us)) b = some o := fun b o e => by
      rw [upd_ne (ne_of_none e ng1), upd_ne (ne_of_none e nx), upd_ne (ne_of_none e ndx)]
      exact e
    refine ⟨x, dx, w, g, us, rows, rfl, by rw [upd_ne gx]; exact upd_same, w1, w6, upd_same, dps_same ?_ _ _ dp, ok, few, fun H' k1 k2 => ⟨rfl, q x H' ?_ ?_ ⟨dx, g, us, k2, ?_, ?_⟩⟩⟩
    · exact fun b o e => by
        have e1 := wo_le p _ _ e
        rw [wo_ne (ne_of_none e1 nx)]
        exact keep b o e1
    · exact fun b o e => k1 b o (keep b o (s1 _ _ e)) (ne_of_none (s1 _ _ e) nx)
    · cases z : H x with
      | none => rfl
      | some o => rw [s1 _ _ z] at nx; cases nx
    · exact k1 g _ upd_same gx.symm
    · refine dps_same (fun b o e => ?_) _ _ dp
      have e1 := wo_le p _ _ e
      exact k1 b o (keep b o e1) (ne_of_none e1 nx)
end
end CC
namespace GD
open PySem PySem.Spec PyProof.Rows L2
/-- a def of the top whose code object is at c -/
structure FunC (K : PySem.W.Frag) (x q : Str) (st : Stmt) (f : Addr) (fd : FuncData) (c : Addr) : Prop where
  ex : ∃ (oc : Value) (od : Option Addr) (kV doc pm : Value) (an : Option Addr) (ct : Value) (osl : Array (Option Value)),
    fd = PySem.W.fnOf x q (defArgs st) (defBody st) (defScope st) .none kV doc pm an (.ref c) ct ∧ K.lookup f = some ⟨oc, od, .func fd, osl⟩ ∧ PySem.W.codeIn K (.ref c) q = true
  kp : PySem.W.keepIn K (.ref f) = true
section
variable {P : Program} {w : World} {K : PySem.W.Frag} {mg : Str → Option Value} {base : Heap} {k : Nat} {f c : Addr} {fd : FuncData} {ps : List Str} {sp : Sp}
theorem fun_okGC {x q : Str} {st : Stmt} {N : List Str} (F : FunC K x q st f fd c) (S : FnScope N ps (defScope st)) (few : ∀ vs H Q E, sp vs H Q E → vs.length = ps.length)
    (body : ∀ (A : Around) (out : List Env) (s : Shared) (H : Hp) (vs : List V) (Q : VK) (E : XK), Calm (A.deeper (envOfC q (defScope st) s.heap.objs.size f (.ref c))) → Room k (A.deeper (envOfC q (defScope st) s.heap.objs.size f (.ref c))) → sp vs H Q E →
      ∃ t, PSs (cxOf CX0 P w K mg base N q (defScope st) f (.ref c) A out s H E).nox (defBody st) t ∧ t { nx := fun _ H' => Q .non H', rt := Q } (start N vs) H) : FnG P w K mg base CX0 (k + 1) f fd ps sp := by
  obtain ⟨oc, od, kV, doc, pm, an, ct, osl, rfl, look, hcd⟩ := F.ex
  constructor
  · exact few
  intro A out s H args us vs Q E calm room e0 bound rel wish
  have keep : ∀ b o, base.get? b = some o → s.heap.get? b = some o := fun b o e => (e0.bs b o e).1
  have inK := e0.mod.kin.keeps keep
  have noL := e0.mod.nolimit.keeps keep
  have size := few _ _ _ _ wish
  refine codeAny_call_function room.depth (inK _ _ look) rfl S.co S.gen rfl (PySem.W.codeRec_of inK hcd) (bound _ _ _ _ ?_)
  refine wpAny_newFunctionEnv_cells S.kind (fun y hy => ?_) fun env he s1 x => ?_
  · rcases S.par y.1 (List.of_mem_zip hy).1 with z | z
    · exact .inl z
    · exact .inr ⟨z, PySem.W.cellsFrom_some _ _ _ (.inl z)⟩
  subst he
  refine ⟨noL.keeps x.toInCall.keep, codeAny_func ?_⟩
  obtain ⟨t, d, r⟩ := body A out s H vs Q E calm (room.deeper _) wish
  have J := inv_start (CX := CX0) (E := E) S room.hd e0 size rel x
  refine wpAny_mono (d.nox.run [] s1 (start N vs) H _ J r) (fun fl s2 z => ?_) fun _ _ z => z
  cases fl with
  | brk => exact z.elim fun _ z => z.elim fun _ z => z.2.elim
  | cont => exact z.elim fun _ z => z.elim fun _ z => z.2.elim
  | next =>
    obtain ⟨τ, H2, J2, q⟩ := z
    exact ⟨.non, H2, J2.os, J2.bare, J2.base, J2.hok, rfl, q⟩
  | ret u =>
    obtain ⟨v, τ, H2, J2, rv, q⟩ := z
    exact ⟨v, H2, J2.os, J2.bare, J2.base, J2.hok, rv, q⟩
end
end GD
namespace CC
open PySem L2 LamX
/-! the heap without its tables of code objects -/
def isTb : HO → Bool
  | .tbl _ => true
  | _ => false
def nt (H : Hp) : Hp := fun b => (H b).filter fun o => !isTb o
section
variable {H H' : Hp} {K : PySem.W.Frag} {b a : Addr} {o : HO} {xs : List V}
theorem nt_at (e : nt H b = some o) : H b = some o ∧ isTb o = false := by
  unfold nt at e
  rw [Option.filter_eq_some_iff] at e
  exact ⟨e.1, by simpa using e.2⟩
theorem nt_of (e : H b = some o) (n : isTb o = false) : nt H b = some o := by
  unfold nt
  rw [Option.filter_eq_some_iff]
  exact ⟨e, by rw [n]; rfl⟩
theorem nt_le : Same (nt H) H := fun b o e => (nt_at e).1
theorem tb_no (n : isTb o = false) (ps : Array Value) : o ≠ .tbl ps := fun z => by
  rw [z] at n
  cases n
theorem ext_nt (e : ExtN H H') : Same (nt H) (nt H') := fun b o q => by
  obtain ⟨q, n⟩ := nt_at q
  exact nt_of (e b o q (tb_no n)) n
theorem nt_same (e : Same H H') : Same (nt H) (nt H') := ext_nt (ExtN.of e)
theorem sql_nt (h : SqL K H a xs) : SqL K (nt H) a xs := by
  rcases h with (h | ⟨o, h⟩) | h
  · exact .inl (.inl (nt_of h rfl))
  · exact .inl (.inr ⟨o, nt_of h rfl⟩)
  · exact .inr h
theorem sqt_nt (h : SqT K H a xs) : SqT K (nt H) a xs := by
  rcases h with (h | ⟨o, h⟩) | h
  · exact .inl (.inl (nt_of h rfl))
  · exact .inl (.inr ⟨o, nt_of h rfl⟩)
  · exact .inr h
theorem nt_T : SameT H (nt H) := ⟨fun b xs h => nt_of h rfl, fun b o xs h => nt_of h rfl⟩
theorem TableAt.nt {C x : Addr} {w : Nat} {rows : List (List Nat)} (h : TableAt K C H x w rows) : TableAt K C (nt H) x w rows := by
  obtain ⟨dx, g, us, h1, h2, h3⟩ := h
  exact ⟨dx, g, us, nt_of h1 rfl, nt_of h2 rfl, gds_T nt_T h3⟩
theorem TableAt.ext {C x : Addr} {w : Nat} {rows : List (List Nat)} (h : TableAt K C H x w rows) (e : ExtN H H') : TableAt K C H' x w rows := (h.nt.same (ext_nt e)).same nt_le
theorem ext_T (e : ExtN H H') : SameT H H' := ⟨fun b xs h => e _ _ h (tb_no rfl), fun b o xs h => e _ _ h (tb_no rfl)⟩
theorem ext_l (e : ExtN H H') (h : SqL K H a xs) : SqL K H' a xs := same_l ((ext_nt e).trans nt_le) (sql_nt h)
/-- the tables still stand -/
theorem tabs_same {T : List (Addr × Str)} (t : Tabs T H) (e : Same H H') : Tabs T H' := t.ext e
/-- what stands before a lambda's body: a raise leaves it -/
theorem takes_lam {X : Cx} {A : Around} {outer : List Env} {s : Shared} {E : XK} {scope : Scope} {f c' : Addr} : Takes (lamCx X A outer s H E scope f c') (fun cls d _ H' => E cls d H') := takes_of rfl rfl rfl rfl
end
end CC
namespace CC
open PySem PySem.Spec PyProof.Rows L2
def rInDT (K : PySem.W.Frag) : R2 := fun x y H Q => ∃ d ds, Dp K H x d ∧ Dp K H y (.tuple ds) ∧ SeqAt.shaped d = true ∧ SeqAt.shaped (.list ds) = true ∧ Q (.bl (ds.any fun z => PyData.eqv z d)) H
def rNotInDT (K : PySem.W.Frag) : R2 := fun x y H Q => ∃ d ds, Dp K H x d ∧ Dp K H y (.tuple ds) ∧ SeqAt.shaped d = true ∧ SeqAt.shaped (.list ds) = true ∧ Q (.bl (!ds.any fun z => PyData.eqv z d)) H
section
variable {X : Cx}
theorem op_inDT (hu : X.A.units + 65 < cLine) : OpR X (compareOp .In) (rInDT X.K) := by
  intro pins s σ H x y v u Q I rx ry h
  obtain ⟨d, ds, hd, he, sd, se, q⟩ := h
  obtain ⟨as, r1⟩ := Dp.reads I d x v hd rx
  obtain ⟨bs, r2⟩ := Dp.reads I (.tuple ds) y u he ry
  exact SeqAt.in_tuple_reads r2 r1 (SeqAt.canLay_of_shaped se) (SeqAt.canLay_of_shaped sd) (room_in_shaped sd hu) ⟨.bl _, H, I, rfl, q⟩
theorem op_notInDT (hu : X.A.units + 65 < cLine) : OpR X (compareOp .NotIn) (rNotInDT X.K) := by
  intro pins s σ H x y v u Q I rx ry h
  obtain ⟨d, ds, hd, he, sd, se, q⟩ := h
  obtain ⟨as, r1⟩ := Dp.reads I d x v hd rx
  obtain ⟨bs, r2⟩ := Dp.reads I (.tuple ds) y u he ry
  exact SeqAt.notIn_tuple_reads r2 r1 (SeqAt.canLay_of_shaped se) (SeqAt.canLay_of_shaped sd) (room_in_shaped sd hu) ⟨.bl _, H, I, rfl, q⟩
end
end CC
namespace CC
open PySem PySem.Spec PyProof.Rows L2
/-! ### x in a tuple of data, C(e, *y), an own + -/
section
variable {X : Cx}
variable {CX : CXT} {k : Nat} {f C : Addr} {sp : Sp} {E : XK} {x : Str} {e : Expr} {es : List Expr} {t : TA} {p pos : Pos}
theorem pe_makeRS (M : Mk X.K C f) (F : FnR X.prog X.w X.K X.mg X.base CX k f sp) (hr : Room (k + 1) X.A) (hg : Gl X x) (hm : X.mg x = some (.ref C)) (hx : Passes CX X E) (ha : PA X (e :: es) t) (hdb : (x == ("__debug__" : Str)) = false := by decide)
    (he : starEach (e :: es) X.env = (false, eval e X.env) :: starEach es X.env := by rfl) (hst : (backTo pos (starEach es X.env)).any (·.1) = true := by rfl) : PE X (.Call (.Name x p) (e :: es) [] pos) (StX.tMakeR C sp E t) := by
  refine ⟨fun pins s σ H Q I h => ?_⟩
  refine wpAny_Call_Name_kw (ld_glob I hg hm ?_ hdb)
  refine PySem.W.callWith_S2 (h₀ := X.base) I.ok.mod.kin M.kp (thn (ha.run pos pins s σ H _ I h) fun us s1 ⟨vs, H1, I1, r, q⟩ => ⟨I1.kIn, ?_⟩) he hst
  exact StX.run_makeR M F hr hx I1 r q
def rOwnB (C : Addr) (sp : Sp) (E : XK) : R2 := fun x y H Q => ∃ a dx fs b dy gs, x = .ref a ∧ y = .ref b ∧ H a = some (.ins C dx fs) ∧ H b = some (.ins C dy gs) ∧ sp [x, y] H Q E
theorem op_ownB {op : Operator} {g : Addr} (hc : PySem.W.selfFirst X.K C = true) (hs : PySem.W.findIn X.K (.ref C) (PySem.dunder op.info.2) = some (some (.ref g))) (hf : PySem.W.isFn X.K (.ref g) = true) (F : FnR X.prog X.w X.K X.mg X.base CX k g sp)
    (hr : Room k X.A) (hx : Passes CX X E) : OpR X (binaryOp op) (rOwnB C sp E) := by
  intro pins s σ H x y v u Q I rx ry h
  obtain ⟨a, dx, fs, b, dy, gs, rfl, rfl, ha, hb, q⟩ := h
  cases (show v = Value.ref a from rx)
  cases (show u = Value.ref b from ry)
  obtain ⟨mA, J, _⟩ := ins_get I.hok ha
  obtain ⟨mB, J', _⟩ := ins_get I.hok hb
  obtain ⟨od, J, _⟩ := J.look
  obtain ⟨od', J', _⟩ := J'.look
  obtain ⟨m, hF⟩ := I.fr
  refine PySem.W.binop_K (op := op) hF I.ok.mod.kin J J'.type hc hs hf ?_
  refine wpAny_mono (wpAny_call (run_fnR (us := [.ref a, .ref b]) (vs := [.ref a, .ref b]) F hr hx I (.cons rfl (.cons rfl .nil)) q)) (fun w s' z => ?_) fun _ _ x => x
  obtain ⟨z', H', I', rz, qz⟩ := z
  exact SlX.cmpback rz ⟨z', H', I', rz, qz⟩
end
def addR (rs ts : List R) : List R := rs ++ ts.filter fun t => !decide (t ∈ rs)
theorem addR_ok {w : Nat} {rs ts : List R} (h1 : ∀ r ∈ rs, r.ok w) (h2 : ∀ r ∈ ts, r.ok w) : ∀ r ∈ addR rs ts, r.ok w := fun r hr => by
  rcases List.mem_append.mp hr with z | z
  · exact h1 r z
  · exact h2 r (List.mem_filter.mp z).1
theorem addR_nodup {rs ts : List R} (h1 : rs.Nodup) (h2 : ts.Nodup) : (addR rs ts).Nodup := by
  refine List.nodup_append.mpr ⟨h1, h2.filter _, fun a ha b hb e => ?_⟩
  subst e
  have := (List.mem_filter.mp hb).2
  rw [decide_eq_true ha] at this
  cases this
theorem addR_mem {rs ts : List R} {r : R} : r ∈ addR rs ts ↔ r ∈ rs ∨ r ∈ ts := by
  unfold addR
  rw [List.mem_append, List.mem_filter]
  constructor
  · rintro (h | h)
    · exact .inl h
    · exact .inr h.1
  · rintro (h | h)
    · exact .inl h
    · by_cases e : r ∈ rs
      · exact .inl e
      · exact .inr ⟨h, by rw [decide_eq_false e]; rfl⟩
end CC
/-! ### an own ==, the != that goes by it, len, + of anything -/
namespace OC
open PySem PySem.Spec PyProof.Rows L2
section
open PySem.W
variable {prog : Program} {w : World} {A : Around} {E : Value → Shared → Prop} {s : Shared} {K : PySem.W.Frag} {x C f L : Addr} {h₀ : Heap} {m : Str → Option Value} {ox : Obj} {od : Obj} {b : Value}
theorem ifBound_b {M : Model} {name : Str} {id : String} {args : List Value} {Q : Option Value → Shared → Prop} (X : K.In s.heap) (I : InstAt s.heap x ox C od) (hs : findIn K (.ref C) name = some (some (.builtin id))) (hb : ∀ self, bindSpecial (.builtin id) self = pure (.builtin id, [self]))
    (h : wpAny M A (call (.builtin id) (.ref x :: args)) (fun v => Q (some v)) E s) : wpAny M A (callSpecialIfBound? (.ref x) name args) Q E s := by
  simp only [callSpecialIfBound?, bindSpecialIfBound?]
  refine wpAny_holding (wpAny_bind (wpAny_bind (wpAny_bind (I.type.here ((looks_findIn X hs).here ?_)))))
  refine wpAny_bind (wpAny_askSetting (wpAny_ite ?_))
  have fin : wpAny M A (call (.builtin id) ([.ref x] ++ args) >>= fun v => pure (some v)) Q E s := wpAny_bind (wpAny_mono h (fun v s' h' => wpAny_pure h') fun _ _ h' => h')
  split
  · exact wpAny_bind ((Looks.of_pure (hb _)).here (wpAny_pure (by exact fin)))
  · exact wpAny_tryCatch (wpAny_bind ((Looks.of_pure (hb _)).here (wpAny_pure (by exact fin))))
open Builtin in
theorem call_ne {Q : Value → Shared → Prop} (hu : A.in1.units < cLine) (X : K.In s.heap) (I : InstAt s.heap x ox C od) (hm : mroIn K C (.type "object") = some true) (hr : findIn K (.ref C) "__eq__" = some (some (.ref f))) (hf : isFn K (.ref f) = true)
    (h : wpAny (model prog w) A.in1 (call (.ref f) [.ref x, b]) (PySem.W.BoolBack fun r s' => Q (.bool (!r)) s') E s) : wpAny (model prog w) A (call (.builtin "object.__ne__") [.ref x, b]) Q E s := by
  refine wpAny_call (codeAny_call_builtin PySem.F.slot_object_ne.plain PySem.F.entry_object_ne (check_slot (i := "object.__ne__") (owner := "object") (n := "__ne__") (by decide +kernel) (by decide +kernel) (I.type.andThen (looks_mroIn X hm)) (PySem.F.args_object_ne_2 _ _) ?_))
  unfold Builtin.«object.__ne__»
  refine wpAny_bind (m := slotArgs "__ne__" 1 _) (wpAny_pure ?_)
  refine wpAny_bind (m := cRoomFor _ _) (wpAny_cRoomFor hu ?_)
  refine wpAny_bind (m := callSpecialIfBound? (.ref x) (Str.ofString "__eq__") _) (ifBound_K X I hr hf (wpAny_mono h (fun r s' hq => ?_) fun _ _ y => y))
  cases r <;> first | exact hq.elim | skip
  exact wpAny_bind (m := truthy (.bool _)) (wpAny_truthy_bool (wpAny_pure hq))
theorem ne_K {Q : Value → Shared → Prop} (hu : A.units + 1 < cLine) (F : Fr h₀ L s.heap m) (X₀ : K.In h₀) (I : InstAt s.heap x ox C od) (hb : Looks (model prog w) s.heap (typeOf b) (.ref C)) (hr : findIn K (.ref C) "__eq__" = some (some (.ref f))) (hf : isFn K (.ref f) = true)
    (hn : findIn K (.ref C) "__ne__" = some (some (.builtin "object.__ne__"))) (hm : mroIn K C (.type "object") = some true)
    (h : wpAny (model prog w) A.in1 (call (.ref f) [.ref x, b]) (PySem.W.BoolBack fun r s' => Q (.bool (!r)) s') E s) : wpAny (model prog w) A (richCompare .NotEq (.ref x) b) Q E s := by
  have X := X₀.keeps F.keep
  have one : wpAny (model prog w) A (tryCompare (.ref x) (cmpInfo .NotEq).2.1 b) (fun r s' => ∃ v, r = some v ∧ Q v s') E s := by
    unfold tryCompare
    refine wpAny_bind (ifBound_b X I hn PySem.F.slot_object_ne.bind (call_ne hu X I hm hr hf (wpAny_mono h (fun v s' hv => ?_) fun _ _ e => e)))
    cases v <;> first | exact hv.elim | exact wpAny_pure ⟨_, rfl, hv⟩
  unfold richCompare
  simp only [oneThing_ref]
  refine wpAny_holding (wpAny_bind (wpAny_cRoomFor (Nat.lt_of_succ_lt hu) ?_))
  refine wpAny_bind (I.type.here (wpAny_bind (hb.here ?_)))
  rw [show (Value.ref C != Value.ref C) = false from by simp]
  simp only [Bool.false_eq_true, if_false]
  refine wpAny_bind (wpAny_pure ?_)
  simp only [Bool.false_eq_true, if_false]
  refine wpAny_bind (wpAny_mono one (fun r s' z => ?_) fun _ _ e => e)
  obtain ⟨v, rfl, hq⟩ := z
  exact wpAny_pure hq
end
section
variable {X : Cx} {CX : CXT} {k : Nat} {f C : Addr} {sp : Sp} {E : XK}
/-- x == y by the own __eq__ -/
theorem op_eqO {g : Addr} (hs : PySem.W.findIn X.K (.ref C) "__eq__" = some (some (.ref g))) (hf : PySem.W.isFn X.K (.ref g) = true) (F : FnR X.prog X.w X.K X.mg X.base CX k g sp) (hr : Room k X.A) (hx : Passes CX X E) : OpR X (compareOp .Eq) (CC.rOwnB C sp E) := by
  intro pins s σ H x y v u Q I rx ry h
  obtain ⟨a, dx, fs, b, dy, gs, rfl, rfl, ha, hb, q⟩ := h
  cases (show v = Value.ref a from rx)
  cases (show u = Value.ref b from ry)
  obtain ⟨mA, J, _⟩ := ins_get I.hok ha
  obtain ⟨mB, J', _⟩ := ins_get I.hok hb
  obtain ⟨od, J, _⟩ := J.look
  obtain ⟨od', J', _⟩ := J'.look
  obtain ⟨m, hF⟩ := I.fr
  refine PySem.W.cmp_K (op := .Eq) (tb := .ref C) hr.units0 hF I.ok.mod.kin J J'.type (by simp [PySem.W.notFirst]) hs hf ?_
  refine wpAny_mono (wpAny_call (run_fnR (us := [.ref a, .ref b]) (vs := [.ref a, .ref b]) F hr hx I (.cons rfl (.cons rfl .nil)) q)) (fun w s' z => ?_) fun _ _ x => x
  obtain ⟨z', H', I', rz, qz⟩ := z
  exact SlX.cmpback rz ⟨z', H', I', rz, qz⟩
/-- x != y by the own __eq__ -/
def rOwnN (C : Addr) (sp : Sp) (E : XK) : R2 := fun x y H Q => ∃ a dx fs b dy gs, x = .ref a ∧ y = .ref b ∧ H a = some (.ins C dx fs) ∧ H b = some (.ins C dy gs) ∧ sp [x, y] H (fun v H' => ∃ c, v = .bl c ∧ Q (.bl (!c)) H') E
theorem op_neO {g : Addr} (hs : PySem.W.findIn X.K (.ref C) "__eq__" = some (some (.ref g))) (hf : PySem.W.isFn X.K (.ref g) = true) (hn : PySem.W.findIn X.K (.ref C) "__ne__" = some (some (.builtin "object.__ne__"))) (hm : PySem.W.mroIn X.K C (.type "object") = some true)
    (F : FnR X.prog X.w X.K X.mg X.base CX k g sp) (hr : Room (k + 1) X.A) (hx : Passes CX X E) : OpR X (compareOp .NotEq) (rOwnN C sp E) := by
  intro pins s σ H x y v u Q I rx ry h
  obtain ⟨a, dx, fs, b, dy, gs, rfl, rfl, ha, hb, q⟩ := h
  cases (show v = Value.ref a from rx)
  cases (show u = Value.ref b from ry)
  obtain ⟨mA, J, _⟩ := ins_get I.hok ha
  obtain ⟨mB, J', _⟩ := ins_get I.hok hb
  obtain ⟨od, J, _⟩ := J.look
  obtain ⟨od', J', _⟩ := J'.look
  obtain ⟨m, hF⟩ := I.fr
  refine ne_K (by have := hr.un; omega) hF I.ok.mod.kin J J'.type hs hf hn hm ?_
  refine wpAny_mono (wpAny_call (SlX.run_at (us := [.ref a, .ref b]) (ws := [.ref a, .ref b]) F hr.in1 I.env0.in1 hx I (.cons rfl (.cons rfl .nil)) q)) (fun w s' z => ?_) fun _ _ x => x
  obtain ⟨z', H', I', rz, c, rfl, qz⟩ := z
  cases rz
  exact ⟨.bl (!c), H', I', rfl, qz⟩
/-- len(x) by the own __len__ -/
def rLenO (C : Addr) (sp : Sp) (E : XK) : List V → Hp → VK → Prop := fun xs H Q => ∃ a dx fs, xs = [.ref a] ∧ H a = some (.ins C dx fs) ∧ sp [.ref a] H (fun v H' => ∃ n : Nat, v = .int (n : Int) ∧ n < 1000000 ∧ Q (.int (n : Int)) H') E
theorem call_lenO {g : Addr} (hs : PySem.W.findIn X.K (.ref C) "__len__" = some (some (.ref g))) (hf : PySem.W.isFn X.K (.ref g) = true) (F : FnR X.prog X.w X.K X.mg X.base CX k g sp) (hr : Room (k + 1) X.A) (hx : Passes CX X E) : CallR X (.builtin "len") (rLenO C sp E) := by
  intro pins s σ H xs us Q I r h
  obtain ⟨a, dx, fs, rfl, ha, q⟩ := h
  rw [Vals.ref1 r]
  obtain ⟨mA, J, _⟩ := ins_get I.hok ha
  obtain ⟨od, J, _⟩ := J.look
  obtain ⟨m, hF⟩ := I.fr
  refine PySem.W.len_K hF I.ok.mod.kin J hs hf ?_
  refine wpAny_mono (wpAny_call (SlX.run_at (us := [.ref a]) (ws := [.ref a]) F hr.in1 I.env0.in1 hx I (.cons rfl .nil) q)) (fun w s' z => ?_) fun _ _ x => x
  obtain ⟨z', H', I', rz, c, rfl, hc, qz⟩ := z
  obtain ⟨t, rfl⟩ := (show ∃ t, w = Value.int (c : Int) t from rz)
  exact ⟨⟨by omega, by omega⟩, .int (c : Int), H', I'.tok _, ⟨_, rfl⟩, qz⟩
end
end OC
/-! ### an own + of anything; it may raise -/
namespace OC
open PySem PySem.Spec PyProof.Rows L2
def oddTys : List String := ["NoneType", "bool", "int", "str", "tuple", "list", "dict"]
theorem fills_no {n : String} (h : n = "NoneType" ∨ n = "str" ∨ n = "tuple" ∨ n = "list" ∨ n = "dict") : fillsNumberSlot (.type n) "add" = pure false := by
  unfold fillsNumberSlot
  rcases h with rfl | rfl | rfl | rfl | rfl <;>
  · simp only [typeLookup_type, builtinLookup_eq_fast]
    kernel_rfl
theorem fills_yes {n : String} (h : n = "bool" ∨ n = "int") : fillsNumberSlot (.type n) "add" = pure true := by
  unfold fillsNumberSlot
  rcases h with rfl | rfl <;>
  · simp only [typeLookup_type, builtinLookup_eq_fast]
    kernel_rfl
section
open PySem.W
variable {prog : Program} {w : World} {A : Around} {E : Value → Shared → Prop} {s : Shared} {K : PySem.W.Frag} {x C f L : Addr} {h₀ : Heap} {m : Str → Option Value} {ox : Obj} {od : Obj} {b : Value} {n : String}
theorem dn_add : PySem.dunder "add" = ("__add__" : Str) := by decide +kernel
theorem dn_radd : PySem.dunderR "add" = ("__radd__" : Str) := by decide +kernel
theorem in_python (X : K.In s.heap) (hs : findIn K (.ref C) "__add__" = some (some (.ref f))) (hn : findIn K (.ref C) "__radd__" = some none) : Looks (model prog w) s.heap (numberSlotInPython (.ref C) "add") true := by
  unfold numberSlotInPython
  rw [dn_add, dn_radd]
  intro A Q E s' k q
  have X' := X.keeps k
  refine wpAny_bind ((looks_findIn X' hs).here ?_)
  show wpAny _ _ (pure true >>= _) _ _ _
  refine wpAny_bind (wpAny_pure ?_)
  refine wpAny_bind ((looks_findIn X' hn).here ?_)
  show wpAny _ _ (pure false >>= _) _ _ _
  refine wpAny_bind (wpAny_pure ?_)
  exact wpAny_pure q
theorem radd_of {n : String} (h : n = "bool" ∨ n = "int") : ∃ t, typeLookup (.type n) (PySem.dunderR "add") = pure t := by
  rcases h with rfl | rfl <;>
  · refine ⟨some (.builtin "int.__radd__"), ?_⟩
    rw [typeLookup_type, builtinLookup_eq_fast]
    kernel_rfl
theorem add_any {Q : Value → Shared → Prop} (F : Fr h₀ L s.heap m) (X₀ : K.In h₀) (I : InstAt s.heap x ox C od) (hb : Looks (model prog w) s.heap (typeOf b) (.type n)) (hn : n ∈ oddTys) (hc : selfFirst K C = true)
    (hs : findIn K (.ref C) "__add__" = some (some (.ref f))) (hnr : findIn K (.ref C) "__radd__" = some none) (hf : isFn K (.ref f) = true) (hsub : subIn K (.type n) (.ref C) = some false)
    (h : wpAny (model prog w) A (call (.ref f) [.ref x, b]) (PySem.W.CmpBack Q) E s) : wpAny (model prog w) A (binaryOp .Add (.ref x) b) Q E s := by
  have X := X₀.keeps F.keep
  obtain ⟨cd, hcd, hm⟩ := any_some hc
  obtain ⟨rest, hm⟩ : ∃ rest, cd.mro = .ref C :: rest := by
    cases q : cd.mro with
    | nil => rw [q] at hm; cases hm
    | cons a r => rw [q] at hm; exact ⟨r, by rw [List.head?_cons] at hm; cases (beq_iff_eq.mp hm); rfl⟩
  have hs' : findIn K (.ref C) (PySem.dunder "add") = some (some (.ref f)) := by rw [dn_add]; exact hs
  have fin : ∀ {P : Option Value → Shared → Prop}, (∀ v s', Q v s' → P (some v) s') → wpAny (model prog w) A (tryMethod (.ref x) (PySem.dunder "add") b) P E s := fun {P} hp => by
    unfold tryMethod
    refine wpAny_bind (special_fn X I hs' (beq_iff_eq.mp hf) (wpAny_mono h (fun v s' hv => ?_) fun _ _ e => e))
    cases v <;> first | exact hv.elim | exact wpAny_pure (hp _ _ hv)
  have bt : (Value.ref C == Value.type n) = false := rfl
  unfold binaryOp
  refine wpAny_holding ?_
  show wpAny _ _ (binaryOp1 "add" (.ref x) b >>= _) _ _ _
  refine wpAny_bind ?_
  unfold binaryOp1
  refine wpAny_bind (I.type.here (wpAny_bind (hb.here (wpAny_bind ((fills_K X hcd hm hs').here ?_)))))
  simp only [bt, Bool.false_eq_true, if_false]
  by_cases hy : n = "bool" ∨ n = "int"
  · refine wpAny_bind ((Looks.of_pure (fills_yes hy)).here ?_)
    simp only [Bool.and_self, if_true]
    refine wpAny_bind ((looks_subIn X hsub).here ?_)
    simp only [Bool.false_eq_true, if_false, Bool.not_false, Bool.and_self, if_true]
    refine wpAny_bind ((in_python X hs hnr).here ?_)
    simp only [if_true]
    refine wpAny_bind ((Looks.of_pure (show numberSlotInPython (.type n) "add" = pure false from rfl)).here ?_)
    simp only [Bool.not_false, if_true]
    obtain ⟨t, ht⟩ := radd_of hy
    refine wpAny_bind ((Looks.of_pure ht).here ?_)
    refine wpAny_bind (fin fun v s' hv => ?_)
    exact wpAny_pure (wpAny_pure hv)
  · have hno : n = "NoneType" ∨ n = "str" ∨ n = "tuple" ∨ n = "list" ∨ n = "dict" := by
      simp only [oddTys, List.mem_cons, List.mem_singleton, List.not_mem_nil, or_false] at hn
      rcases hn with h | h | h | h | h | h | h
      · exact .inl h
      · exact (hy (.inl h)).elim
      · exact (hy (.inr h)).elim
      · exact .inr (.inl h)
      · exact .inr (.inr (.inl h))
      · exact .inr (.inr (.inr (.inl h)))
      · exact .inr (.inr (.inr (.inr h)))
    refine wpAny_bind ((Looks.of_pure (fills_no hno)).here ?_)
    simp only [Bool.and_false, Bool.false_eq_true, if_false, Bool.false_and, if_true]
    refine wpAny_bind (wpAny_pure ?_)
    simp only [Bool.false_eq_true, if_false]
    refine wpAny_bind (fin fun v s' hv => ?_)
    exact wpAny_pure (wpAny_pure hv)
end
section
variable {X : Cx} {CX : CXT} {k : Nat} {f C : Addr} {sp : Sp} {E : L2.St → XK} {a b : Expr} {ta tb : TE} {pos : Pos}
theorem run_fnRS {pins : List (Addr × Obj)} {s : Shared} {σ : L2.St} {H : Hp} {Q : VK} {us : List Value} {vs : List V} (F : FnR X.prog X.w X.K X.mg X.base CX k f sp) (hr : Room k X.A) (hx : PassesAt CX X σ (E σ)) (I : Inv X pins σ H s) (r : Vals vs us) (h : sp vs H Q (E σ)) :
    codeAny (model X.prog X.w) X.A (.call (.ref f) ⟨us, []⟩) (fun r s' => match r with | .ok (.ret v) => EP X pins σ Q v s' | .ok _ => False | .error e => X.xe e s') s := by
  refine codeAny_mono (F X.A X.stack s H us vs Q (E σ) hr I.env0 r h) fun r s' hq => ?_
  cases r with
  | error e => exact hx pins H s e s' I hq
  | ok fl =>
    cases fl with
    | ret u => exact I.after hq
    | next => exact False.elim hq
    | brk => exact False.elim hq
    | cont => exact False.elim hq
def OddV (K : PySem.W.Frag) (H : Hp) (y : V) : Prop := ∃ n, TyX K H y (.type n) ∧ n ∈ oddTys
def rAddX (K : PySem.W.Frag) (C : Addr) (sp : Sp) (E : XK) : V → V → Hp → VK → Prop := fun x y H Q => ∃ a dx fs, x = .ref a ∧ H a = some (.ins C dx fs) ∧ ((∃ b dy gs, y = .ref b ∧ H b = some (.ins C dy gs)) ∨ OddV K H y) ∧ sp [x, y] H Q E
def tAddX (K : PySem.W.Frag) (C : Addr) (sp : Sp) (E : L2.St → XK) (ta tb : TE) : TE := fun σ H Q => ta σ H fun x H1 => tb σ H1 fun y H2 => rAddX K C sp (E σ) x y H2 Q
/-- x + y, x an instance of the class at C, y one too or a plain value; it may raise -/
theorem pe_addX (hc : PySem.W.selfFirst X.K C = true) (hs : PySem.W.findIn X.K (.ref C) "__add__" = some (some (.ref f))) (hnr : PySem.W.findIn X.K (.ref C) "__radd__" = some none) (hf : PySem.W.isFn X.K (.ref f) = true) (hsub : ∀ n ∈ oddTys, PySem.W.subIn X.K (.type n) (.ref C) = some false)
    (F : FnR X.prog X.w X.K X.mg X.base CX k f sp) (hr : Room k X.A) (hx : ∀ σ, PassesAt CX X σ (E σ)) (ha : PE X a ta) (hb : PE X b tb) : PE X (.BinOp a .Add b pos) (tAddX X.K C sp E ta tb) := by
  refine ⟨fun pins s σ H Q I h => ?_⟩
  refine wpAny_BinOp (binT ha hb I h fun v u s2 x y H2 I2 rx ry q => ?_)
  obtain ⟨a, dx, fs, rfl, ha, hy, q⟩ := q
  cases (show v = Value.ref a from rx)
  obtain ⟨mA, J, _⟩ := ins_get I2.hok ha
  obtain ⟨od, J, _⟩ := J.look
  obtain ⟨m, hF⟩ := I2.fr
  have run : wpAny (model X.prog X.w) X.A (call (.ref f) [.ref a, u]) (PySem.W.CmpBack (EP X pins σ Q)) X.xe s2 := by
    refine wpAny_mono (wpAny_call (run_fnRS (us := [.ref a, u]) (vs := [.ref a, y]) F hr (hx σ) I2 (.cons rfl (.cons ry .nil)) q)) (fun w s' z => ?_) fun _ _ x => x
    obtain ⟨z', H', I', rz, qz⟩ := z
    exact SlX.cmpback rz ⟨z', H', I', rz, qz⟩
  rcases hy with ⟨b', dy, gs, rfl, hb'⟩ | ⟨n, ty, hn⟩
  · cases (show u = Value.ref b' from ry)
    obtain ⟨mB, J', _⟩ := ins_get I2.hok hb'
    obtain ⟨od', J', _⟩ := J'.look
    exact PySem.W.binop_K (op := .Add) hF I2.ok.mod.kin J J'.type hc (by rw [show PySem.dunder (Operator.info .Add).2 = ("__add__" : Str) by decide +kernel]; exact hs) hf run
  · obtain ⟨P, Z, p, _⟩ := kit_of I2 ry ty
    exact add_any hF I2.ok.mod.kin J (Z.ty _ _ I2.kIn p) hn hc hs hnr hf (hsub n hn) run
end
end OC
namespace CC
open PySem L2 TL
/-- what is known of an own exception's class -/
structure ExcK (K : PySem.W.Frag) (mg : Str → Option Value) (x : Str) (C : Addr) : Prop where
  g : mg x = some (.ref C)
  x : PySem.W.excIn K C [.type "ValueError", .type "Exception", .type "BaseException", .type "object"] "ValueError.__new__" = true
  k : PySem.W.keepIn K (.ref C) = true
  b : PySem.W.subIn K (.ref C) (.type "BaseException") = some true
  t : PySem.W.typeIn K (.ref C) = some (.type "type")
end CC
namespace CC
open PySem L2 TL
/-- plain values are no instances of the class -/
structure NoIns (K : PySem.W.Frag) (C : Addr) : Prop where
  kit : ∀ n ∈ OC.oddTys, PySem.W.kitOne K (.type n) (.ref C) = some false
  sub : ∀ n ∈ OC.oddTys, PySem.W.subIn K (.type n) (.ref C) = some false
/-- isinstance(x, C), x an instance of C or a plain value -/
def rIsCX (K : PySem.W.Frag) (C : Addr) : List V → Hp → VK → Prop := fun xs H Q => (∃ a dx fs, xs = [.ref a, .ref C] ∧ H a = some (.ins C dx fs) ∧ Q (.bl true) H) ∨ ∃ y, xs = [y, .ref C] ∧ OC.OddV K H y ∧ Q (.bl false) H
theorem call_isCX {X : Cx} {C : Addr} (ic : C8.InsC X.K C) (no : NoIns X.K C) : CallR X (.builtin "isinstance") (rIsCX X.K C) := by
  intro pins s σ H xs us Q I r h
  rcases h with h | ⟨y, rfl, ⟨n, ty, hn⟩, q⟩
  · exact C8.call_isC ic pins s σ H xs us Q I r h
  · exact call_isi pins s σ H _ us Q I r ⟨y, .ref C, _, _, false, rfl, .own C, ty, no.kit n hn, q⟩
end CC
namespace CC
open PySem L2 TL
/-- Table(width, *rows), the rows good ones -/
theorem mkT_go {K : PySem.W.Frag} {C : Addr} {H : Hp} {w : Nat} {us : List V} {rows : List (List Nat)} {x dx : Addr} {Q : VK} {E : XK} (w1 : 1 ≤ w) (w6 : w ≤ 6) (ok : ∀ r ∈ rows, RowOk w r) (few : rows.length ≤ 400) (dp : DpAll K H us (rows.map gd)) (nx : H x = none) (ndx : H dx = none) (ne : dx ≠ x)
    (q : ∀ H', Same H H' → TableAt K C H' x w rows → Q .non H') : spTInitR K C (V.ref x :: V.int (w : Int) :: (us ++ [])) (upd (upd H dx (.own x)) x (.ins C dx [])) Q E := by
  have ul : us.length = rows.length := by rw [dps_len dp, List.length_map]
  rw [List.append_nil]
  refine ⟨[.ref x, .int (w : Int)], us, rfl, rfl, Nat.le_of_lt (small1000 (by omega)), fun g ng => ?_⟩
  have gx : x ≠ g := fun z => by rw [← z, upd_same] at ng; cases ng
  have gdx : dx ≠ g := fun z => by rw [← z, upd_ne ne, upd_same] at ng; cases ng
  have ng1 : H g = none := by
    rw [upd_ne gx.symm, upd_ne gdx.symm] at ng
    exact ng
  have keep : ∀ b o, H b = some o → (upd (upd (upd H dx (.own x)) x (.ins C dx [])) g (.tup us)) b = some o := fun b o e => by
    rw [upd_ne (ne_of_none e ng1), upd_ne (ne_of_none e nx), upd_ne (ne_of_none e ndx)]
    exact e
  refine ⟨x, dx, w, g, us, rows, rfl, by rw [upd_ne gx]; exact upd_same, w1, w6, upd_same, dps_same ?_ _ _ dp, ok, few, fun H' k1 k2 => q H' ?_ ⟨dx, g, us, k2, ?_, ?_⟩⟩
  · exact fun b o e => by
      rw [wo_ne (ne_of_none e nx)]
      exact keep b o e
  · exact fun b o e => k1 b o (keep b o e) (ne_of_none e nx)
  · exact k1 g _ upd_same gx.symm
  · exact dps_same (fun b o e => k1 b o (keep b o e) (ne_of_none e nx)) _ _ dp
end CC
namespace CC
open PySem L2 TL
theorem lc_zipT {K : PySem.W.Frag} {a b : Addr} {xs ys : List V} {g : TG} {tt : TT} {te : TE} {vs : List Nat} {σ : L2.St} {H1 : Hp} {D : Addr} {Qd : Hp → Prop} (hn : ys.length ≤ xs.length) (Pv : Nat → Hp → Prop) (h0 : Pv 0 (upd H1 D (.lst []))) (hl : ∀ i H, Pv i H → SqT K H a xs ∧ SqT K H b ys)
    (hs : ∀ i x y T H, xs[i]? = some x → ys[i]? = some y → Pv i H → H T = none → g (.ref T) (wipe σ vs) (upd H T (.tup [x, y])) fun σ2 H2 => wipe σ2 vs = wipe σ vs ∧ tt σ2 H2 fun b H3 =>
      if b = true then te σ2 H3 fun y H4 => ∃ acc, H4 D = some (.lst acc) ∧ acc.length < sizeLine ∧ Pv (i + 1) (upd H4 D (.lst (acc ++ [y]))) else Pv (i + 1) H3) (hd : ∀ H, Pv ys.length H → Qd H) :
    ∃ W : Nat → Nat → Hp → Prop, (∃ m, W 0 m (upd H1 D (.lst []))) ∧ ∀ i m H, W i m H →
      ((RZ.ItzT K a b).stop i H ∧ Qd H) ∨ ((RZ.ItzT K a b).go i H ∧ ∃ Nx : Hp → Prop, (∀ H', Nx H' → ∃ m', m' < m ∧ W (i + 1) m' H') ∧ ∀ x H', (RZ.ItzT K a b).yld i H x H' → g x (wipe σ vs) H' fun σ2 H2 => wipe σ2 vs = wipe σ vs ∧ tt σ2 H2 fun b H3 =>
        if b = true then te σ2 H3 fun y H4 => ∃ acc, H4 D = some (.lst acc) ∧ acc.length < sizeLine ∧ Nx (upd H4 D (.lst (acc ++ [y]))) else Nx H3) := by
  refine ⟨fun i m H => m = ys.length - i ∧ i ≤ ys.length ∧ Pv i H, ⟨ys.length, by simp, Nat.zero_le _, h0⟩, ?_⟩
  rintro i m H ⟨rfl, hi, p⟩
  obtain ⟨q1, q2⟩ := hl i H p
  by_cases lt : i < ys.length
  · have g1 : xs[i]? = some xs[i] := List.getElem?_eq_getElem (by omega)
    have g2 : ys[i]? = some ys[i] := List.getElem?_eq_getElem lt
    refine .inr ⟨⟨xs, ys, _, _, q1, q2, g1, g2⟩, Pv (i + 1), fun H' p' => ⟨ys.length - (i + 1), by omega, rfl, lt, p'⟩, fun v H' y => ?_⟩
    obtain ⟨T, x, y, rfl, nT, rfl, h1, h2⟩ := y
    exact hs i x y T H (h1 xs q1) (h2 ys q2) p nT
  · have e : i = ys.length := by omega
    subst e
    exact .inl ⟨⟨xs, ys, q1, q2, .inr (Nat.le_refl _)⟩, hd H p⟩
theorem iteT' {p q : Prop} {b : Bool} (h : b = true) (x : p) : if b = true then p else q := by
  rw [if_pos h]
  exact x
theorem iteF' {p q : Prop} {b : Bool} (h : b = false) (x : q) : if b = true then p else q := by
  rw [if_neg (by rw [h]; decide)]
  exact x
end CC
namespace CC
open PySem L2 TL
abbrev sTAdd : Stmt := inClass (tp 27) 9
/-- table + anything -/
def spTAdd (K : PySem.W.Frag) (C CN CU CM : Addr) : Sp := fun vs H Q E => ∃ (x : Addr) (y : V) (w : Nat) (rows : List (List Nat)), vs = [.ref x, y] ∧ TableAt K C H x w rows ∧ 1 ≤ w ∧ w ≤ 6 ∧ (∀ r ∈ rows, RowOk w r) ∧ rows.length ≤ 400 ∧
  ((∃ (b : Addr) (v : Nat) (ts : List (List Nat)), y = .ref b ∧ TableAt K C H b v ts ∧ (∀ r ∈ ts, RowOk v r) ∧ ts.length ≤ 400 ∧ (w ≠ v → E (.ref CU) none H) ∧ (w = v → 400 < rows.length + ts.length → E (.ref CM) none H) ∧ (w = v → rows.length + ts.length ≤ 400 → ∀ (z : Addr) (H' : Hp), Same H H' → H z = none → TableAt K C H' z w (rows ++ ts) → Q (.ref z) H')) ∨ OC.OddV K H y ∧ E (.ref CN) none H)
section
variable {P : Program} {w : World} {K : PySem.W.Frag} {mg : Str → Option Value} {base : Heap} {kA : Addr}
abbrev nTA : List Str := ["self", "other", "joined"]
theorem scTAdd : FnScope nTA ["self", "other"] (defScope sTAdd) := ⟨rfl, rfl, rfl, by decide +kernel, rfl, by decide +kernel, by decide +kernel⟩
theorem ok_tadd {f C CN CU CM : Addr} {fd : FuncData} {k : Nat} (F : Fun K "__add__" "Table.__add__" sTAdd f fd) (T : Glb K mg kA) (TT : GlbT mg) (TC : TxtT K mg C) (ic : C8.InsC K C) (no : NoIns K C) (eN : ExcK K mg "NotTable" CN) (eU : ExcK K mg "UnlikeWidths" CU) (eM : ExcK K mg "TooMuch" CM) (m : MakeT P w K mg base C 3) : FnOk P w K mg base (L2.CX P w) (k + 5) f fd ["self", "other"] (spTAdd K C CN CU CM) := by
  have GN := m.ok (k + 3) (by omega)
  refine F.okX scTAdd (fun vs H Q E h => ?_) (fun cdv A outer s H vs Q E hr h => ?_)
  · obtain ⟨x, y, w, rs, rfl, _⟩ := h
    rfl
  · obtain ⟨x, yv, w, rs, rfl, ⟨dx, g, us, h1, h2, h3⟩, w1, w6, ho, few, hy⟩ := h
    obtain ⟨tm, hmr⟩ := TT.mr
    have n := scTAdd.nd
    refine ⟨_, (pss_cons (ps_if (pt_not (pt_val (pe_callB (call_isCX ic no) (by rfl) T.isi (by decide +kernel) (pa_cons (pv 1) (pa_cons (pe_glob (v := .ref C) rfl TC.mgC rfl) pa_nil))))) (pss_one (ps_raise rfl (takes_of rfl rfl rfl rfl) (pmk_own PySem.F.excBase_ValueError eN.x eN.g eN.k (raises_own eN.b eN.t) rfl))) pss_nil)
      (pss_cons (ps_if (pt_cmpR op_ne (pe_fld (pv 0) rfl) (pe_fld (pv 1) rfl) (nomark _)) (pss_one (ps_raise rfl (takes_of rfl rfl rfl rfl) (pmk_own PySem.F.excBase_ValueError eU.x eU.g eU.k (raises_own eU.b eU.t) rfl))) pss_nil)
      (pss_cons (ps_if (pt_cmpR op_gt (pe_op op_add (pe_callB call_len_seq (by rfl) T.len PySem.boot_len (pa_cons (pe_fld (pv 0) rfl) pa_nil)) (pe_callB call_len_seq (by rfl) T.len PySem.boot_len (pa_cons (pe_fld (pv 1) rfl) pa_nil))) (pe_glob (v := .int 400) rfl hmr ⟨_, rfl⟩) (nomark _)) (pss_one (ps_raise rfl (takes_of rfl rfl rfl rfl) (pmk_own PySem.F.excBase_ValueError eM.x eM.g eM.k (raises_own eM.b eM.t) rfl))) pss_nil)
      (PSs.nox (pss_cons (ps_set (i := 2) n rfl (.inl rfl) (pe_lst (StX.pa_star (pe_fld (pv 0) rfl) (StX.pa_star (pe_fld (pv 1) rfl) pa_nil))))
      (pss_one (ps_ret (pe_makeRS m.M GN hr rfl TC.mgC pass0 (pa_cons (pe_fld (pv 0) rfl) (StX.pa_star (pv 2) pa_nil)))))))))), ?_⟩
    have ul : us.length = rs.length := by rw [dps_len h3, List.length_map]
    rcases hy with ⟨y, v, ts, rfl, ⟨dy, g', us', h1', h2', h3'⟩, ho', few', eE, eF, q⟩ | ⟨od, q⟩
    · have ul' : us'.length = ts.length := by rw [dps_len h3', List.length_map]
      refine ⟨_, rfl, .inl ⟨y, dy, _, rfl, h1', _, rfl, iteF ?_⟩⟩
      refine ⟨_, rfl, x, C, dx, _, _, rfl, h1, TC.cl, TC.nS, fldT_span _ _, _, rfl, y, C, dy, _, _, rfl, h1', TC.cl, TC.nS, fldT_span _ _, rfl, _, rfl, ?_⟩
      by_cases e : w = v
      · subst e
        refine iteF' (by rw [decide_eq_true rfl]; rfl) ?_
        refine ⟨_, rfl, x, C, dx, _, _, rfl, h1, TC.cl, TC.nL, fldT_lines _ _, g, us, rfl, .inr (.inl (.inl h2)), _, rfl, y, C, dy, _, _, rfl, h1', TC.cl, TC.nL, fldT_lines _ _, g', us', rfl, .inr (.inl (.inl h2')), ?_⟩
        refine ⟨_, _, rfl, rfl, _, _, rfl, rfl, _, rfl, ?_⟩
        by_cases e2 : rs.length + ts.length ≤ 400
        · refine iteF' (decide_eq_false (by omega)) ?_
          refine ⟨_, rfl, x, C, dx, _, _, rfl, h1, TC.cl, TC.nL, fldT_lines _ _, g, us, rfl, .inl (.inl (.inl h2)), _, rfl, y, C, dy, _, _, rfl, h1', TC.cl, TC.nL, fldT_lines _ _, g', us', rfl, .inl (.inl (.inl h2')), ?_⟩
          refine ⟨?_, fun jo njo => ?_⟩
          · rw [List.append_nil, List.length_append]
            exact Nat.le_of_lt (small1000 (by omega))
          rw [List.append_nil]
          have s2 : Same H (upd H jo (.lst (us ++ us'))) := same_new njo
          have hjo : (upd H jo (.lst (us ++ us'))) jo = some (.lst (us ++ us')) := upd_same
          have dj : DpAll K (upd H jo (.lst (us ++ us'))) (us ++ us') ((rs ++ ts).map gd) := by
            rw [List.map_append]
            exact dps_app (dps_same s2 _ _ h3) (dps_same s2 _ _ h3')
          generalize upd H jo (.lst (us ++ us')) = H2 at s2 hjo dj
          refine ⟨_, rfl, x, C, dx, _, _, rfl, s2 _ _ h1, TC.cl, TC.nS, fldT_span _ _, _, rfl, jo, _, rfl, .inr (SqL.of hjo), fun z dz nz ndz ne => ?_⟩
          refine mkT_go w1 w6 (rows := rs ++ ts) (fun r hr => ?_) (by rw [List.length_append]; exact e2) dj nz ndz ne fun H3 s3 t3 => ⟨rfl, q rfl e2 z H3 (s2.trans s3) (s2.free nz) t3⟩
          rcases List.mem_append.mp hr with z | z
          · exact ho r z
          · exact ho' r z
        · refine iteT' (decide_eq_true (by omega)) ?_
          exact eF rfl (by omega)
      · refine iteT' (by rw [decide_eq_false (fun z => e (by injection z with z; omega))]; rfl) ?_
        exact eE e
    · exact ⟨_, rfl, .inr ⟨yv, rfl, od, _, rfl, iteT q⟩⟩
end
end CC
/-! ### an own * of anything; it may raise -/
namespace OC
open PySem PySem.Spec PyProof.Rows L2
theorem fillsM_no {n : String} (h : n = "NoneType" ∨ n = "str" ∨ n = "tuple" ∨ n = "list" ∨ n = "dict") : fillsNumberSlot (.type n) "mul" = pure false := by
  unfold fillsNumberSlot
  rcases h with rfl | rfl | rfl | rfl | rfl <;>
  · simp only [typeLookup_type, builtinLookup_eq_fast]
    kernel_rfl
theorem fillsM_yes {n : String} (h : n = "bool" ∨ n = "int") : fillsNumberSlot (.type n) "mul" = pure true := by
  unfold fillsNumberSlot
  rcases h with rfl | rfl <;>
  · simp only [typeLookup_type, builtinLookup_eq_fast]
    kernel_rfl
section
open PySem.W
variable {prog : Program} {w : World} {A : Around} {E : Value → Shared → Prop} {s : Shared} {K : PySem.W.Frag} {x C f L : Addr} {h₀ : Heap} {m : Str → Option Value} {ox : Obj} {od : Obj} {b : Value} {n : String}
theorem dn_mul : PySem.dunder "mul" = ("__mul__" : Str) := by decide +kernel
theorem dn_rmul : PySem.dunderR "mul" = ("__rmul__" : Str) := by decide +kernel
theorem in_pythonM (X : K.In s.heap) (hs : findIn K (.ref C) "__mul__" = some (some (.ref f))) (hn : findIn K (.ref C) "__rmul__" = some none) : Looks (model prog w) s.heap (numberSlotInPython (.ref C) "mul") true := by
  unfold numberSlotInPython
  rw [dn_mul, dn_rmul]
  intro A Q E s' k q
  have X' := X.keeps k
  refine wpAny_bind ((looks_findIn X' hs).here ?_)
  show wpAny _ _ (pure true >>= _) _ _ _
  refine wpAny_bind (wpAny_pure ?_)
  refine wpAny_bind ((looks_findIn X' hn).here ?_)
  show wpAny _ _ (pure false >>= _) _ _ _
  refine wpAny_bind (wpAny_pure ?_)
  exact wpAny_pure q
theorem rmul_of {n : String} (h : n = "bool" ∨ n = "int") : ∃ t, typeLookup (.type n) (PySem.dunderR "mul") = pure t := by
  rcases h with rfl | rfl <;>
  · refine ⟨some (.builtin "int.__rmul__"), ?_⟩
    rw [typeLookup_type, builtinLookup_eq_fast]
    kernel_rfl
theorem mul_any {Q : Value → Shared → Prop} (F : Fr h₀ L s.heap m) (X₀ : K.In h₀) (I : InstAt s.heap x ox C od) (hb : Looks (model prog w) s.heap (typeOf b) (.type n)) (hn : n ∈ oddTys) (hc : selfFirst K C = true)
    (hs : findIn K (.ref C) "__mul__" = some (some (.ref f))) (hnr : findIn K (.ref C) "__rmul__" = some none) (hf : isFn K (.ref f) = true) (hsub : subIn K (.type n) (.ref C) = some false)
    (h : wpAny (model prog w) A (call (.ref f) [.ref x, b]) (PySem.W.CmpBack Q) E s) : wpAny (model prog w) A (binaryOp .Mult (.ref x) b) Q E s := by
  have X := X₀.keeps F.keep
  obtain ⟨cd, hcd, hm⟩ := any_some hc
  obtain ⟨rest, hm⟩ : ∃ rest, cd.mro = .ref C :: rest := by
    cases q : cd.mro with
    | nil => rw [q] at hm; cases hm
    | cons a r => rw [q] at hm; exact ⟨r, by rw [List.head?_cons] at hm; cases (beq_iff_eq.mp hm); rfl⟩
  have hs' : findIn K (.ref C) (PySem.dunder "mul") = some (some (.ref f)) := by rw [dn_mul]; exact hs
  have fin : ∀ {P : Option Value → Shared → Prop}, (∀ v s', Q v s' → P (some v) s') → wpAny (model prog w) A (tryMethod (.ref x) (PySem.dunder "mul") b) P E s := fun {P} hp => by
    unfold tryMethod
    refine wpAny_bind (special_fn X I hs' (beq_iff_eq.mp hf) (wpAny_mono h (fun v s' hv => ?_) fun _ _ e => e))
    cases v <;> first | exact hv.elim | exact wpAny_pure (hp _ _ hv)
  have bt : (Value.ref C == Value.type n) = false := rfl
  unfold binaryOp
  refine wpAny_holding ?_
  show wpAny _ _ (binaryOp1 "mul" (.ref x) b >>= _) _ _ _
  refine wpAny_bind ?_
  unfold binaryOp1
  refine wpAny_bind (I.type.here (wpAny_bind (hb.here (wpAny_bind ((fills_K X hcd hm hs').here ?_)))))
  simp only [bt, Bool.false_eq_true, if_false]
  by_cases hy : n = "bool" ∨ n = "int"
  · refine wpAny_bind ((Looks.of_pure (fillsM_yes hy)).here ?_)
    simp only [Bool.and_self, if_true]
    refine wpAny_bind ((looks_subIn X hsub).here ?_)
    simp only [Bool.false_eq_true, if_false, Bool.not_false, Bool.and_self, if_true]
    refine wpAny_bind ((in_pythonM X hs hnr).here ?_)
    simp only [if_true]
    refine wpAny_bind ((Looks.of_pure (show numberSlotInPython (.type n) "mul" = pure false from rfl)).here ?_)
    simp only [Bool.not_false, if_true]
    obtain ⟨t, ht⟩ := rmul_of hy
    refine wpAny_bind ((Looks.of_pure ht).here ?_)
    refine wpAny_bind (fin fun v s' hv => ?_)
    exact wpAny_pure (wpAny_pure hv)
  · have hno : n = "NoneType" ∨ n = "str" ∨ n = "tuple" ∨ n = "list" ∨ n = "dict" := by
      simp only [oddTys, List.mem_cons, List.mem_singleton, List.not_mem_nil, or_false] at hn
      rcases hn with h | h | h | h | h | h | h
      · exact .inl h
      · exact (hy (.inl h)).elim
      · exact (hy (.inr h)).elim
      · exact .inr (.inl h)
      · exact .inr (.inr (.inl h))
      · exact .inr (.inr (.inr (.inl h)))
      · exact .inr (.inr (.inr (.inr h)))
    refine wpAny_bind ((Looks.of_pure (fillsM_no hno)).here ?_)
    simp only [Bool.and_false, Bool.false_eq_true, if_false, Bool.false_and, if_true]
    refine wpAny_bind (wpAny_pure ?_)
    simp only [Bool.false_eq_true, if_false]
    refine wpAny_bind (fin fun v s' hv => ?_)
    exact wpAny_pure (wpAny_pure hv)
end
section
variable {X : Cx} {CX : CXT} {k : Nat} {f C : Addr} {sp : Sp} {E : L2.St → XK} {a b : Expr} {ta tb : TE} {pos : Pos}
/-- x * y, x an instance of the class at C, y one too or a plain value; it may raise -/
theorem pe_mulX (hc : PySem.W.selfFirst X.K C = true) (hs : PySem.W.findIn X.K (.ref C) "__mul__" = some (some (.ref f))) (hnr : PySem.W.findIn X.K (.ref C) "__rmul__" = some none) (hf : PySem.W.isFn X.K (.ref f) = true) (hsub : ∀ n ∈ oddTys, PySem.W.subIn X.K (.type n) (.ref C) = some false)
    (F : FnR X.prog X.w X.K X.mg X.base CX k f sp) (hr : Room k X.A) (hx : ∀ σ, PassesAt CX X σ (E σ)) (ha : PE X a ta) (hb : PE X b tb) : PE X (.BinOp a .Mult b pos) (tAddX X.K C sp E ta tb) := by
  refine ⟨fun pins s σ H Q I h => ?_⟩
  refine wpAny_BinOp (binT ha hb I h fun v u s2 x y H2 I2 rx ry q => ?_)
  obtain ⟨a, dx, fs, rfl, ha, hy, q⟩ := q
  cases (show v = Value.ref a from rx)
  obtain ⟨mA, J, _⟩ := ins_get I2.hok ha
  obtain ⟨od, J, _⟩ := J.look
  obtain ⟨m, hF⟩ := I2.fr
  have run : wpAny (model X.prog X.w) X.A (call (.ref f) [.ref a, u]) (PySem.W.CmpBack (EP X pins σ Q)) X.xe s2 := by
    refine wpAny_mono (wpAny_call (run_fnRS (us := [.ref a, u]) (vs := [.ref a, y]) F hr (hx σ) I2 (.cons rfl (.cons ry .nil)) q)) (fun w s' z => ?_) fun _ _ x => x
    obtain ⟨z', H', I', rz, qz⟩ := z
    exact SlX.cmpback rz ⟨z', H', I', rz, qz⟩
  rcases hy with ⟨b', dy, gs, rfl, hb'⟩ | ⟨n, ty, hn⟩
  · cases (show u = Value.ref b' from ry)
    obtain ⟨mB, J', _⟩ := ins_get I2.hok hb'
    obtain ⟨od', J', _⟩ := J'.look
    exact PySem.W.binop_K (op := .Mult) hF I2.ok.mod.kin J J'.type hc (by rw [show PySem.dunder (Operator.info .Mult).2 = ("__mul__" : Str) by decide +kernel]; exact hs) hf run
  · obtain ⟨P, Z, p, _⟩ := kit_of I2 ry ty
    exact mul_any hF I2.ok.mod.kin J (Z.ty _ _ I2.kIn p) hn hc hs hnr hf (hsub n hn) run
end
end OC
namespace CC
open PySem L2 TL
abbrev sBelow : Stmt := tp 25
abbrev sProd : Stmt := tp 26
abbrev sTMul : Stmt := inClass (tp 27) 10
/-- a comprehension with two for's: the outer one over a tuple -/
theorem two_tup {K : PySem.W.Frag} {a : Addr} {xs : List V} {g : TG} {tt : TT} {vs : List Nat} {σ : L2.St} {H1 : Hp} {D : Addr} {Qd : Hp → Prop} {B : L2.St → Hp → (Hp → Prop) → Prop} (Pv : Nat → Hp → Prop) (h0 : Pv 0 (upd H1 D (.lst []))) (hl : ∀ i H, i ≤ xs.length → Pv i H → SqT K H a xs)
    (hs : ∀ i x H, xs[i]? = some x → Pv i H → g x (wipe σ vs) H fun σ2 H2 => wipe σ2 vs = wipe σ vs ∧ tt σ2 H2 fun b H3 => if b = true then B σ2 H3 (Pv (i + 1)) else Pv (i + 1) H3) (hd : ∀ H, Pv xs.length H → Qd H) :
    ∃ W : Nat → Nat → Hp → Prop, (∃ m, W 0 m (upd H1 D (.lst []))) ∧ ∀ i m H, W i m H → ((Itt K a).stop i H ∧ Qd H) ∨ ((Itt K a).go i H ∧ ∃ Nx : Hp → Prop, (∀ H', Nx H' → ∃ m', m' < m ∧ W (i + 1) m' H') ∧ ∀ x H', (Itt K a).yld i H x H' → g x (wipe σ vs) H' fun σ2 H2 => wipe σ2 vs = wipe σ vs ∧ tt σ2 H2 fun b H3 =>
      if b = true then B σ2 H3 Nx else Nx H3) := by
  refine ⟨fun i m H => m = xs.length - i ∧ i ≤ xs.length ∧ Pv i H, ⟨xs.length, by simp, Nat.zero_le _, h0⟩, ?_⟩
  rintro i m H ⟨rfl, hi, p⟩
  have q := hl i H hi p
  by_cases lt : i < xs.length
  · refine .inr ⟨⟨xs, xs[i], q, by simp [lt]⟩, Pv (i + 1), fun H' p' => ⟨xs.length - (i + 1), by omega, rfl, lt, p'⟩, fun x H' y => ?_⟩
    obtain ⟨e, y⟩ := y
    subst e
    exact hs i x _ (y xs q) p
  · have e : i = xs.length := by omega
    subst e
    exact .inl ⟨⟨xs, q, Nat.le_refl _⟩, hd H p⟩
/-- its inner one over a tuple -/
theorem in_tup {K : PySem.W.Frag} {a : Addr} {xs : List V} {H1 : Hp} {Qd : Hp → Prop} {B : V → Hp → (Hp → Prop) → Prop} (Pv : Nat → Hp → Prop) (h0 : Pv 0 H1) (hl : ∀ i H, i ≤ xs.length → Pv i H → SqT K H a xs) (hs : ∀ i x H, xs[i]? = some x → Pv i H → B x H (Pv (i + 1))) (hd : ∀ H, Pv xs.length H → Qd H) :
    ∃ W : Nat → Nat → Hp → Prop, (∃ m, W 0 m H1) ∧ ∀ i m H, W i m H → ((Itt K a).stop i H ∧ Qd H) ∨ ((Itt K a).go i H ∧ ∃ Nx : Hp → Prop, (∀ H', Nx H' → ∃ m', m' < m ∧ W (i + 1) m' H') ∧ ∀ x H', (Itt K a).yld i H x H' → B x H' Nx) := by
  refine ⟨fun i m H => m = xs.length - i ∧ i ≤ xs.length ∧ Pv i H, ⟨xs.length, by simp, Nat.zero_le _, h0⟩, ?_⟩
  rintro i m H ⟨rfl, hi, p⟩
  have q := hl i H hi p
  by_cases lt : i < xs.length
  · refine .inr ⟨⟨xs, xs[i], q, by simp [lt]⟩, Pv (i + 1), fun H' p' => ⟨xs.length - (i + 1), by omega, rfl, lt, p'⟩, fun x H' y => ?_⟩
    obtain ⟨e, y⟩ := y
    subst e
    exact hs i x _ (y xs q) p
  · have e : i = xs.length := by omega
    subst e
    exact .inl ⟨⟨xs, q, Nat.le_refl _⟩, hd H p⟩
/-! ### the row of a product, the rows -/
def prodR (a b : List Nat) : List Nat := (a.zip b).map fun p => 100 * p.1 + p.2
def prodRs (rows ts : List (List Nat)) : List (List Nat) := rows.flatMap fun r => ts.map (prodR r)
def below (rows : List (List Nat)) (l : Nat) : Bool := rows.all fun r => r.all fun v => decide (v < l)
theorem prodRs_len (rows ts : List (List Nat)) : (prodRs rows ts).length = rows.length * ts.length := by
  unfold prodRs
  induction rows with
  | nil => simp
  | cons r rows ih => rw [List.flatMap_cons, List.length_append, ih, List.length_map, List.length_cons, Nat.succ_mul, Nat.add_comm]
theorem below_ok {rows : List (List Nat)} {l : Nat} (h : below rows l = true) : ∀ r ∈ rows, ∀ v ∈ r, v < l := fun r hr v hv => by
  unfold below at h
  rw [List.all_eq_true] at h
  have h2 := h r hr
  rw [List.all_eq_true] at h2
  exact of_decide_eq_true (h2 v hv)
theorem prodR_ok {w : Nat} {a b : List Nat} (ha : a.length = w) (hb : b.length = w) (la : ∀ v ∈ a, v < 100) (lb : ∀ v ∈ b, v < 100) : RowOk w (prodR a b) := by
  refine ⟨by unfold prodR; rw [List.length_map, List.length_zip, ha, hb, Nat.min_self], fun v hv => ?_⟩
  obtain ⟨⟨x, y⟩, hp, rfl⟩ := List.mem_map.mp hv
  have h1 := la x (List.of_mem_zip hp).1
  have h2 := lb y (List.of_mem_zip hp).2
  show 100 * x + y ≤ 9999
  omega
theorem prodRs_ok {w : Nat} {rows ts : List (List Nat)} (ho : ∀ r ∈ rows, RowOk w r) (ho' : ∀ r ∈ ts, RowOk w r) (b1 : below rows 100 = true) (b2 : below ts 100 = true) : ∀ r ∈ prodRs rows ts, RowOk w r := fun r hr => by
  obtain ⟨x, hx, hr⟩ := List.mem_flatMap.mp hr
  obtain ⟨y, hy, rfl⟩ := List.mem_map.mp hr
  exact prodR_ok (ho x hx).1 (ho' y hy).1 (below_ok b1 x hx) (below_ok b2 y hy)
def spBelow (K : PySem.W.Frag) : Sp := fun vs H Q _ => ∃ (t : Addr) (us : List V) (rows : List (List Nat)) (l w : Nat), vs = [.ref t, .int (l : Int)] ∧ SqT K H t us ∧ DpAll K H us (rows.map gd) ∧ rows.length ≤ 400 ∧ (∀ r ∈ rows, RowOk w r) ∧ w ≤ 6 ∧ ∀ H', Same H H' → Q (.bl (below rows l)) H'
def spProd (K : PySem.W.Frag) : Sp := fun vs H Q _ => ∃ (t u : Addr) (a b : List Nat), vs = [.ref t, .ref u] ∧ SqT K H t (nms a) ∧ SqT K H u (nms b) ∧ a.length = b.length ∧ a.length ≤ 6 ∧ (∀ v ∈ a, v < 100) ∧ (∀ v ∈ b, v < 100) ∧ ∀ (v : V) (H' : Hp), Same H H' → Dp K H' v (gd (prodR a b)) → Q v H'
/-- table * anything -/
def spTMul (K : PySem.W.Frag) (C CN CU CM : Addr) : Sp := fun vs H Q E => ∃ (x : Addr) (y : V) (w : Nat) (rows : List (List Nat)), vs = [.ref x, y] ∧ TableAt K C H x w rows ∧ 1 ≤ w ∧ w ≤ 6 ∧ (∀ r ∈ rows, RowOk w r) ∧ rows.length ≤ 400 ∧
  ((∃ (b : Addr) (v : Nat) (ts : List (List Nat)), y = .ref b ∧ TableAt K C H b v ts ∧ (∀ r ∈ ts, RowOk v r) ∧ ts.length ≤ 400 ∧ (w ≠ v → E (.ref CU) none H) ∧ (w = v → ¬ (rows.length * ts.length ≤ 400 ∧ below rows 100 = true ∧ below ts 100 = true) → ∀ H', Same H H' → E (.ref CM) none H') ∧ (w = v → rows.length * ts.length ≤ 400 → below rows 100 = true → below ts 100 = true → ∀ (z : Addr) (H' : Hp), Same H H' → H z = none → TableAt K C H' z w (prodRs rows ts) → Q (.ref z) H')) ∨ OC.OddV K H y ∧ E (.ref CN) none H)
theorem nm_at {l : List Nat} {i : Nat} {x : V} (h : (nms l)[i]? = some x) : ∃ m : Nat, l[i]? = some m ∧ x = .int (m : Int) := nms_at h
section
variable {P : Program} {w : World} {K : PySem.W.Frag} {mg : Str → Option Value} {base : Heap} {kA : Addr}
abbrev nBe : List Str := ["rows", "limit", "row", "part"]
theorem scBelow : FnScope nBe ["rows", "limit"] (defScope sBelow) := ⟨rfl, rfl, rfl, by decide +kernel, rfl, by decide +kernel, by decide +kernel⟩
theorem ok_below {f : Addr} {fd : FuncData} {k : Nat} (F : Fun K "all_below" "all_below" sBelow f fd) (T : Glb K mg kA) : FnOk P w K mg base CX0 (k + 1) f fd ["rows", "limit"] (spBelow K) := by
  refine F.ok scBelow (fun vs H Q E h => ?_) (fun cdv A outer s H vs Q E hr h => ?_)
  · obtain ⟨t, us, rows, l, w, rfl, _⟩ := h
    rfl
  · obtain ⟨t, us, rows, l, w, rfl, ht, dp, few, ok, w6, q⟩ := h
    have n := scBelow.nd
    refine ⟨_, (pss_one (ps_ret (pe_callB (cr_all rfl) (by rfl) T.all (by decide +kernel) (pa_cons (pe_lc2 (own := [("row", 2), ("part", 3)]) (vs1 := [3]) (g := gName 2) (g1 := gName 3) (tt := tYes) (tt1 := tYes) (wi1 := iTup K (tVar 2)) (te := tOp (rI0 fun i j => .bl (decide (i < j))) (tVar 3) (tVar 1)) rfl n (pi_tup (pv 0)) (blkOk_by (N := nBe) (sc := defScope sBelow) (by decide +kernel)) (by decide)
      (fun _ _ _ _ _ => (pg_name (i := 2) n rfl (.inl rfl))) (fun _ _ _ _ _ => pts_nil) (fun _ _ _ _ _ => (pi_tup (pv 2))) (fun _ _ _ _ _ => (pg_name (i := 3) n rfl (.inl rfl))) (fun _ _ _ _ _ => pts_nil) (fun _ _ _ _ _ => (pe_cmpR op_lt (pv 3) (pv 1) (nomark _)))) pa_nil)))), ?_⟩
    have ul : us.length = rows.length := by rw [dps_len dp, List.length_map]
    refine ⟨_, rfl, t, rfl, ⟨_, ht⟩, fun D nD => ?_⟩
    refine two_tup (xs := us) (fun i H1 => Same H (wo H1 D) ∧ (∃ bs : List Bool, H1 D = some (.lst (bs.map V.bl)) ∧ bs.length ≤ 6 * i ∧ bs.all id = below (rows.take i) l) ∧ i ≤ 400) ⟨?_, ⟨[], upd_same, by simp, rfl⟩, by omega⟩ (fun i H1 _ z => same_t (z.1.trans (wo_le D)) ht) ?_ ?_
    · rw [wo_upd]
      exact fun b o e => by rw [wo_ne (ne_of_none e nD)]; exact e
    · rintro i v H1 hv ⟨e1, ⟨bs, e2, e3, e5⟩, e4⟩
      obtain ⟨r, hr2, dr⟩ := dps_gat dp hv
      have il := (List.getElem?_eq_some_iff.mp hr2).1
      have rok := ok r (List.mem_of_getElem? hr2)
      obtain ⟨t2, rfl, ht2⟩ := gd_at dr
      refine ⟨rfl, yes_if ⟨_, rfl, t2, rfl, ⟨_, same_t (e1.trans (wo_le D)) ht2⟩, ?_⟩⟩
      refine in_tup (xs := nms r) (fun j H2 => Same H (wo H2 D) ∧ (∃ cs : List Bool, H2 D = some (.lst (cs.map V.bl)) ∧ cs.length ≤ 6 * i + j ∧ cs.all id = (below (rows.take i) l && (r.take j).all fun v => decide (v < l))) ∧ j ≤ 6) ⟨e1, ⟨bs, e2, by omega, by rw [e5]; simp⟩, by omega⟩ (fun j H2 _ z => same_t (z.1.trans (wo_le D)) ht2) ?_ ?_
      · rintro j y H2 hy ⟨f1, ⟨cs, f2, f3, f5⟩, f4⟩
        obtain ⟨c, hc, rfl⟩ := nm_at hy
        have jl := (List.getElem?_eq_some_iff.mp hc).1
        have r1 := rok.1
        refine ⟨rfl, yes_if ⟨_, rfl, _, rfl, _, _, rfl, rfl, _, f2, Nat.lt_of_lt_of_le (show _ < 10000 by rw [List.length_map]; omega) (by decide), ?_, ⟨cs ++ [decide ((c : Int) < (l : Int))], ?_, ?_, ?_⟩, by omega⟩⟩
        · rw [wo_upd]
          exact f1
        · rw [upd_same, List.map_append]
          rfl
        · rw [List.length_append, List.length_singleton]
          omega
        · rw [List.all_append, f5, SG.take_one hc, List.all_append, ← Bool.and_assoc]
          congr 1
          simp
      · rintro H2 ⟨f1, ⟨cs, f2, f3, f5⟩, _⟩
        have r1 := rok.1
        rw [nms_len] at f3 f5
        rw [List.take_length] at f5
        refine ⟨f1, ⟨cs, f2, by omega, ?_⟩, by omega⟩
        rw [f5, SG.take_one hr2]
        unfold below
        rw [List.all_append]
        simp
    rintro H1 ⟨e1, ⟨bs, e2, e3, e5⟩, _⟩
    rw [ul, List.take_length] at e5
    refine ⟨D, bs, rfl, SqL.of e2, ?_⟩
    rw [e5]
    exact q _ (e1.trans (wo_le D))
abbrev nPd : List Str := ["first", "second", "one", "other"]
theorem scProd : FnScope nPd ["first", "second"] (defScope sProd) := ⟨rfl, rfl, rfl, by decide +kernel, rfl, by decide +kernel, by decide +kernel⟩
theorem ok_prod {f : Addr} {fd : FuncData} {k : Nat} (F : Fun K "product_row" "product_row" sProd f fd) (T : Glb K mg kA) (gF : ∃ t, mg "FACTOR" = some (.int 100 t)) : FnOk P w K mg base CX0 (k + 1) f fd ["first", "second"] (spProd K) := by
  refine F.ok scProd (fun vs H Q E h => ?_) (fun cdv A outer s H vs Q E hr h => ?_)
  · obtain ⟨t, u, a, b, rfl, _⟩ := h
    rfl
  · obtain ⟨t, u, a, b, rfl, ht, hu, el, a6, la, lb, q⟩ := h
    obtain ⟨tf, hgf⟩ := gF
    have n := scProd.nd
    refine ⟨_, (pss_one (ps_ret (pe_callTy call_tuple_of (by rfl) T.tup (by decide +kernel) (pa_cons (pe_lc (own := [("one", 2), ("other", 3)]) (g := g2 K 2 3) (tt := tYes) (te := tOp (rI0 fun i j => .int (i + j)) (tOp (rI CMul fun i j => .int (i * j)) (tC (.int 100)) (tVar 2)) (tVar 3)) rfl n (RZ.pi_zipA (by rfl) T.zip (pa_cons (pv 0) (pa_cons (pv 1) pa_nil))) (blkOk_by (N := nPd) (sc := defScope sProd) (by decide +kernel))
      (fun _ _ _ _ _ => (pg_tup rfl (pgs_cons (pg_name (i := 2) n rfl (.inl rfl)) (pgs_cons (pg_name (i := 3) n rfl (.inl rfl)) pgs_nil)))) (fun _ _ _ _ _ => pts_nil) (fun _ _ _ _ _ => (pe_op op_add (pe_op op_mul (pe_glob (v := .int 100) rfl hgf ⟨_, rfl⟩) (pv 2)) (pv 3)))) pa_nil)))), ?_⟩
    refine ⟨_, rfl, _, rfl, t, u, _, _, rfl, .inr ⟨ht, hu, fun D nD => ?_⟩⟩
    refine lc_zipT (xs := nms a) (ys := nms b) (by rw [nms_len, nms_len]; omega) (fun j H1 => Same H (wo H1 D) ∧ H1 D = some (.lst (nms (prodR (a.take j) (b.take j)))) ∧ j ≤ 6) ⟨?_, upd_same, by omega⟩ (fun j H1 z => ⟨same_t (z.1.trans (wo_le D)) ht, same_t (z.1.trans (wo_le D)) hu⟩) ?_ ?_
    · rw [wo_upd]
      exact fun b o e => by rw [wo_ne (ne_of_none e nD)]; exact e
    · rintro j x1 y1 T2 H1 hx hy ⟨e1, e2, e3⟩ nT2
      obtain ⟨c, hc, rfl⟩ := nm_at hx
      obtain ⟨d, hd, rfl⟩ := nm_at hy
      have jl := (List.getElem?_eq_some_iff.mp hc).1
      have lc := la c (List.mem_of_getElem? hc)
      have ld := lb d (List.mem_of_getElem? hd)
      have tD : T2 ≠ D := (ne_of_none e2 nT2).symm
      refine ⟨T2, _, rfl, .inl (.inl upd_same), rfl, _, _, rfl, _, _, rfl, rfl, rfl, yes_if ?_⟩
      refine ⟨_, rfl, _, _, rfl, rfl, .inl ⟨by decide, by decide⟩, _, rfl, _, _, rfl, rfl, _, by rw [upd_ne tD.symm]; exact e2, ?_, ?_, ?_, by omega⟩
      · refine Nat.lt_of_lt_of_le (show _ < 10000 from ?_) (by decide)
        rw [nms_len]
        unfold prodR
        rw [List.length_map, List.length_zip, List.length_take, List.length_take]
        omega
      · rw [wo_upd]
        exact e1.trans (wo_same (same_new nT2))
      · rw [upd_same, SG.take_one hc, SG.take_one hd]
        have l1 : (a.take j).length = (b.take j).length := by rw [List.length_take, List.length_take, el]
        unfold prodR
        rw [List.zip_append l1, List.map_append]
        unfold nms
        rw [List.map_append]
        rfl
    · rintro H1 ⟨e1, e2, _⟩
      rw [nms_len, List.take_length, ← el, List.take_length] at e2
      refine ⟨D, _, rfl, .inl ⟨SqL.of e2, fun p np => ?_⟩⟩
      refine q _ _ ((e1.trans (wo_le D)).trans (same_new np)) ?_
      exact dp_gd (.inl (.inl upd_same))
abbrev nTM : List Str := ["self", "other", "paired", "first", "second"]
theorem scTMul : FnScope nTM ["self", "other"] (defScope sTMul) := ⟨rfl, rfl, rfl, by decide +kernel, rfl, by decide +kernel, by decide +kernel⟩
theorem ok_tmul {f C CN CU CM : Addr} {fd : FuncData} {k : Nat} (F : Fun K "__mul__" "Table.__mul__" sTMul f fd) (T : Glb K mg kA) (TT : GlbT mg) (TC : TxtT K mg C) (ic : C8.InsC K C) (no : NoIns K C) (gF : ∃ t, mg "FACTOR" = some (.int 100 t)) (eN : ExcK K mg "NotTable" CN) (eU : ExcK K mg "UnlikeWidths" CU) (eM : ExcK K mg "TooMuch" CM) (m : MakeT P w K mg base C 3) (cB : Cal P w K mg base "all_below" ["rows", "limit"] (spBelow K) 1) (cP : Cal P w K mg base "product_row" ["first", "second"] (spProd K) 1) : FnOk P w K mg base (L2.CX P w) (k + 5) f fd ["self", "other"] (spTMul K C CN CU CM) := by
  have GN := m.ok (k + 3) (by omega)
  have GB := cB.ok (k + 4) (by omega)
  have GP := cP.ok (k + 4) (by omega)
  refine F.okX scTMul (fun vs H Q E h => ?_) (fun cdv A outer s H vs Q E hr h => ?_)
  · obtain ⟨x, y, w, rs, rfl, _⟩ := h
    rfl
  · obtain ⟨x, yv, w, rs, rfl, ⟨dx, g, us, h1, h2, h3⟩, w1, w6, ho, few, hy⟩ := h
    obtain ⟨tm, hmr⟩ := TT.mr
    obtain ⟨tf, hgf⟩ := gF
    have n := scTMul.nd
    refine ⟨_, (pss_cons (ps_if (pt_not (pt_val (pe_callB (call_isCX ic no) (by rfl) T.isi (by decide +kernel) (pa_cons (pv 1) (pa_cons (pe_glob (v := .ref C) rfl TC.mgC rfl) pa_nil))))) (pss_one (ps_raise rfl (takes_of rfl rfl rfl rfl) (pmk_own PySem.F.excBase_ValueError eN.x eN.g eN.k (raises_own eN.b eN.t) rfl))) pss_nil)
      (pss_cons (ps_if (pt_cmpR op_ne (pe_fld (pv 0) rfl) (pe_fld (pv 1) rfl) (nomark _)) (pss_one (ps_raise rfl (takes_of rfl rfl rfl rfl) (pmk_own PySem.F.excBase_ValueError eU.x eU.g eU.k (raises_own eU.b eU.t) rfl))) pss_nil)
      (pss_cons (ps_if (pt_cmpR op_gt (pe_op op_mul (pe_callB call_len_seq (by rfl) T.len PySem.boot_len (pa_cons (pe_fld (pv 0) rfl) pa_nil)) (pe_callB call_len_seq (by rfl) T.len PySem.boot_len (pa_cons (pe_fld (pv 1) rfl) pa_nil))) (pe_glob (v := .int 400) rfl hmr ⟨_, rfl⟩) (nomark _)) (pss_one (ps_raise rfl (takes_of rfl rfl rfl rfl) (pmk_own PySem.F.excBase_ValueError eM.x eM.g eM.k (raises_own eM.b eM.t) rfl))) pss_nil)
      (pss_cons (ps_if (PW.pt (pw_or (pt_not (pt_val (pe_call GB hr rfl cB.g cB.kp cB.b .nil pass0 (pa_cons (pe_fld (pv 0) rfl) (pa_cons (pe_glob (v := .int 100) rfl hgf ⟨_, rfl⟩) pa_nil))))) (pw_or1 (pt_not (pt_val (pe_call GB hr rfl cB.g cB.kp cB.b .nil pass0 (pa_cons (pe_fld (pv 1) rfl) (pa_cons (pe_glob (v := .int 100) rfl hgf ⟨_, rfl⟩) pa_nil)))))))) (pss_one (ps_raise rfl (takes_of rfl rfl rfl rfl) (pmk_own PySem.F.excBase_ValueError eM.x eM.g eM.k (raises_own eM.b eM.t) rfl))) pss_nil)
      (PSs.nox (pss_cons (ps_setLc2 (i := 2) (own := [("first", 3), ("second", 4)]) (vs1 := [4]) (g := gName 3) (g1 := gName 4) (tt := tYes) (tt1 := tYes) (wi1 := iTup K (tFld K (tVar 1) "lines")) (te := tCall (spProd K) [] E0 (tCons (tVar 3) (tCons (tVar 4) tNil))) rfl n rfl rfl (sw_true rfl rfl rfl (by decide +kernel)) (pi_tup (pe_fld (pv 0) rfl)) (blkOk_by (N := nTM) (sc := defScope sTMul) (by decide +kernel)) (by decide)
        (fun _ _ _ _ _ => (pg_name (i := 3) n rfl (.inl rfl))) (fun _ _ _ _ _ => pts_nil) (fun _ _ _ _ _ => (pi_tup (pe_fld (pv 1) rfl))) (fun _ _ _ _ _ => (pg_name (i := 4) n rfl (.inl rfl))) (fun _ _ _ _ _ => pts_nil) (fun _ _ _ _ _ => (pe_call GP hr rfl cP.g cP.kp cP.b .nil pass0 (pa_cons (pv 3) (pa_cons (pv 4) pa_nil)))))
      (pss_one (ps_ret (pe_makeRS m.M GN hr rfl TC.mgC pass0 (pa_cons (pe_fld (pv 0) rfl) (StX.pa_star (pv 2) pa_nil))))))))))), ?_⟩
    have ul : us.length = rs.length := by rw [dps_len h3, List.length_map]
    rcases hy with ⟨y, v, ts, rfl, ⟨dy, g', us', h1', h2', h3'⟩, ho', few', eE, eF, q⟩ | ⟨od, q⟩
    · have ul' : us'.length = ts.length := by rw [dps_len h3', List.length_map]
      refine ⟨_, rfl, .inl ⟨y, dy, _, rfl, h1', _, rfl, iteF ?_⟩⟩
      refine ⟨_, rfl, x, C, dx, _, _, rfl, h1, TC.cl, TC.nS, fldT_span _ _, _, rfl, y, C, dy, _, _, rfl, h1', TC.cl, TC.nS, fldT_span _ _, rfl, _, rfl, ?_⟩
      by_cases e : w = v
      · subst e
        refine iteF' (by rw [decide_eq_true rfl]; rfl) ?_
        refine ⟨_, rfl, x, C, dx, _, _, rfl, h1, TC.cl, TC.nL, fldT_lines _ _, g, us, rfl, .inr (.inl (.inl h2)), _, rfl, y, C, dy, _, _, rfl, h1', TC.cl, TC.nL, fldT_lines _ _, g', us', rfl, .inr (.inl (.inl h2')), ?_⟩
        refine ⟨_, _, rfl, rfl, .inl ⟨by omega, by omega⟩, _, _, rfl, rfl, _, rfl, ?_⟩
        have em : ((us.length : Nat) : Int) * ((us'.length : Nat) : Int) = ((rs.length * ts.length : Nat) : Int) := by rw [ul, ul', Int.natCast_mul]
        rw [em]
        by_cases e2 : rs.length * ts.length ≤ 400
        · refine iteF' (decide_eq_false (by omega)) ?_
          refine ⟨_, rfl, x, C, dx, _, _, rfl, h1, TC.cl, TC.nL, fldT_lines _ _, g, us, rs, 100, w, rfl, .inl (.inl h2), h3, few, ho, w6, fun H1 s1 => ⟨_, rfl, ?_⟩⟩
          by_cases b1 : below rs 100 = true
          · rw [b1]
            refine iteF ?_
            refine ⟨_, rfl, y, C, dy, _, _, rfl, s1 _ _ h1', TC.cl, TC.nL, fldT_lines _ _, g', us', ts, 100, w, rfl, .inl (.inl (s1 _ _ h2')), dps_same s1 _ _ h3', few', ho', w6, fun H2 s2 => ⟨_, rfl, ?_⟩⟩
            by_cases b2 : below ts 100 = true
            · rw [b2]
              refine iteF ?_
              have s02 := s1.trans s2
              have bnd : ∀ i, i < rs.length → ts.length * i + ts.length ≤ 400 := fun i il => by
                have z1 := Nat.mul_le_mul_left ts.length (show i + 1 ≤ rs.length from il)
                rw [Nat.mul_succ] at z1
                rw [Nat.mul_comm] at e2
                omega
              refine ⟨_, rfl, x, C, dx, _, _, rfl, s02 _ _ h1, TC.cl, TC.nL, fldT_lines _ _, g, rfl, ⟨_, .inl (.inl (s02 _ _ h2))⟩, fun D nD => ?_⟩
              refine two_tup (xs := us) (fun i H3 => MadeF gd K H2 D (ts.length * i) H3 (prodRs (rs.take i) ts)) MadeF.start (fun i H3 _ z => .inl (.inl (z.old nD _ _ (s02 _ _ h2)))) ?_ ?_
              · rintro i v H3 hv mo
                obtain ⟨r, hr2, dr⟩ := dps_gat h3 hv
                have il := (List.getElem?_eq_some_iff.mp hr2).1
                have rm := List.mem_of_getElem? hr2
                obtain ⟨t, rfl, ht⟩ := gd_at dr
                have o := s02.trans (mo.old nD)
                have bi := bnd i il
                refine ⟨rfl, yes_if ⟨_, rfl, y, C, dy, _, _, rfl, o _ _ h1', TC.cl, TC.nL, fldT_lines _ _, g', rfl, ⟨_, .inl (.inl (o _ _ h2'))⟩, ?_⟩⟩
                refine in_tup (xs := us') (fun j H4 => MadeF gd K H2 D (ts.length * i + j) H4 (prodRs (rs.take i) ts ++ (ts.take j).map (prodR r))) (mo.up (Nat.le_refl _) (by simp)) (fun j H4 _ z => .inl (.inl ((s02.trans (z.old nD)) _ _ h2'))) ?_ ?_
                · rintro j y2 H4 hy mo4
                  obtain ⟨r2, hr3, dr2⟩ := dps_gat h3' hy
                  have jl := (List.getElem?_eq_some_iff.mp hr3).1
                  have rm2 := List.mem_of_getElem? hr3
                  obtain ⟨t2, rfl, ht2⟩ := gd_at dr2
                  have o4 := s02.trans (mo4.old nD)
                  obtain ⟨uo, _, hDo, _⟩ := id mo4
                  have l1 := (ho r rm).1
                  have l2 := (ho' r2 rm2).1
                  refine ⟨rfl, yes_if ⟨_, rfl, _, rfl, t, t2, r, r2, rfl, same_t o4 ht, same_t o4 ht2, by omega, by omega, below_ok b1 r rm, below_ok b2 r2 rm2, fun v H5 s5 dv => ?_⟩⟩
                  rw [SG.take_one hr3, List.map_append, ← List.append_assoc]
                  exact mo4.push (r := prodR r r2) (by omega) (by omega) s5 (gd_T (wo_T (s5 _ _ hDo)) dv)
                · rintro H4 mo4
                  rw [ul', List.take_length] at mo4
                  refine mo4.up (by rw [Nat.mul_succ]; exact Nat.le_refl _) ?_
                  rw [SG.take_one hr2]
                  unfold prodRs
                  rw [List.flatMap_append]
                  simp
              rintro H3 mo
              have o := s02.trans (mo.old nD)
              rw [ul, List.take_length] at mo
              obtain ⟨uo, _, hDo, dDo, ulo⟩ := mo
              have dj := dps_same (wo_le D) _ _ dDo
              refine ⟨_, rfl, x, C, dx, _, _, rfl, o _ _ h1, TC.cl, TC.nS, fldT_span _ _, _, rfl, D, _, rfl, .inr (SqL.of hDo), fun z dz nz ndz ne => ?_⟩
              exact mkT_go w1 w6 (rows := prodRs rs ts) (prodRs_ok ho ho' b1 b2) (by rw [prodRs_len]; exact e2) dj nz ndz ne fun H4 s4 t4 => ⟨rfl, q rfl e2 b1 b2 z H4 (o.trans s4) (o.free nz) t4⟩
            · rw [eq_false_of_ne_true b2]
              exact iteT (eF rfl (fun z => b2 z.2.2) _ (s1.trans s2))
          · rw [eq_false_of_ne_true b1]
            exact iteT (eF rfl (fun z => b1 z.2.1) _ s1)
        · refine iteT' (decide_eq_true (by omega)) ?_
          exact eF rfl (fun z => e2 z.1) H (Same.refl _)
      · refine iteT' (by rw [decide_eq_false (fun z => e (by injection z with z; omega))]; rfl) ?_
        exact eE e
    · exact ⟨_, rfl, .inr ⟨yv, rfl, od, _, rfl, iteT q⟩⟩
end
end CC
/-! max(t), t a tuple of ints -/
namespace MXT
open PySem PySem.Spec PyProof.Rows L2 PySem.W
def rMaxT (K : PySem.W.Frag) : List V → Hp → VK → Prop := fun vs H Q => ∃ (a : Addr) (ns : List Int), vs = [V.ref a] ∧ SqT K H a (ns.map V.int) ∧ 0 < ns.length ∧ ∀ m, m ∈ ns → (∀ y, y ∈ ns → y ≤ m) → Q (.int m) H
theorem ra_ints {h : Heap} : ∀ {vs : List Value} {xs : List Int}, IntsAre vs xs → ∃ as, ReadsAll h vs (xs.map PyData.int) as := by
  intro vs xs hi
  induction hi with
  | nil => exact ⟨_, .nil⟩
  | cons n t _ ih =>
    obtain ⟨as, r⟩ := ih
    exact ⟨_, .cons (.int _ _) r⟩
theorem maxD_int : ∀ (xs : List Int) (x : Int), ∃ m, maxD (.int x) (xs.map PyData.int) = .int m ∧ m ∈ x :: xs ∧ ∀ y ∈ x :: xs, y ≤ m
  | [], x => ⟨x, rfl, by simp, fun y hy => by simp at hy; omega⟩
  | z :: xs, x => by
    have e : maxD (.int x) ((z :: xs).map PyData.int) = maxD (if dataLt (.int x) (.int z) then .int z else .int x) (xs.map PyData.int) := rfl
    rw [e, dataLt_int]
    by_cases h : x < z
    · rw [decide_eq_true h, if_pos rfl]
      obtain ⟨m, e1, e2, e3⟩ := maxD_int xs z
      refine ⟨m, e1, List.mem_cons_of_mem _ e2, fun y hy => ?_⟩
      rcases List.mem_cons.mp hy with rfl | hy
      · have := e3 z (by simp)
        omega
      · exact e3 y hy
    · rw [decide_eq_false h, if_neg (by decide)]
      obtain ⟨m, e1, e2, e3⟩ := maxD_int xs x
      refine ⟨m, e1, ?_, fun y hy => ?_⟩
      · rcases List.mem_cons.mp e2 with rfl | q
        · simp
        · exact List.mem_cons_of_mem _ (List.mem_cons_of_mem _ q)
      · rcases List.mem_cons.mp hy with rfl | hy
        · exact e3 _ (by simp)
        · rcases List.mem_cons.mp hy with rfl | hy
          · have := e3 x (by simp)
            omega
          · exact e3 y (List.mem_cons_of_mem _ hy)
theorem dep_ints : ∀ xs : List Int, PyData.depthAll (xs.map PyData.int) ≤ 2
  | [] => by decide
  | x :: xs => by
    have := dep_ints xs
    simp only [List.map_cons, PyData.depthAll, PyData.depth]
    omega
theorem cr_maxT {X : Cx} (hc : X.calm = true) (hu : X.A.units + 64 < cLine) : CallR X (.builtin "max") (rMaxT X.K) := by
  intro pins s σ H vs us Q I r h
  obtain ⟨a, ns, rfl, hs, hne, q⟩ := h
  obtain ⟨its, rv, hl, _⟩ := I.tuple hs
  rw [Vals.ref1 r]
  cases ns with
  | nil => exact absurd hne (by simp)
  | cons x xs =>
    obtain ⟨as, ra⟩ := ra_ints (h := s.heap) rv.ints
    obtain ⟨m, e1, e2, e3⟩ := maxD_int xs x
    have dep := dep_ints (x :: xs)
    refine max_tuple_data (x := .int x) (xs := xs.map PyData.int) (as := as) (I.ok.hd hc) hl ra ⟨fun y hy z hz => ?_, fun y hy => ?_⟩ (by
      show X.A.units + 1 + PyData.depthAll ((x :: xs).map PyData.int) < cLine
      omega) fun i v h' tk bs hv rd hk => ?_
    · obtain ⟨y', _, rfl⟩ := List.mem_map.mp (show y ∈ (x :: xs).map PyData.int from hy)
      obtain ⟨z', _, rfl⟩ := List.mem_map.mp (show z ∈ (x :: xs).map PyData.int from hz)
      rfl
    · obtain ⟨y', _, rfl⟩ := List.mem_map.mp (show y ∈ (x :: xs).map PyData.int from hy)
      intro z
      cases z
    · rw [e1] at rd
      cases rd
      exact ⟨.int _, H, I.kept hk, ⟨_, rfl⟩, q m e2 e3⟩
end MXT
namespace CC
open PySem L2 TL
abbrev sLSum : Stmt := tp 37
abbrev sLPr : Stmt := tp 38
/-- what a sum tells, what a product tells -/
def dSm (w : Nat) (rs : List (List Nat)) (v : Nat) (ts : List (List Nat)) : PyData := if w = v then (if rs.length + ts.length ≤ 400 then .list [.int (w : Int), .tuple ((rs ++ ts).map gd)] else .str "much") else .str "widths"
def dPr (w : Nat) (rs : List (List Nat)) (v : Nat) (ts : List (List Nat)) : PyData := if w = v then (if rs.length * ts.length ≤ 400 ∧ below rs 100 = true ∧ below ts 100 = true then .list [.int (w : Int), .tuple ((prodRs rs ts).map gd)] else .str "much") else .str "widths"
def spTwo (K : PySem.W.Frag) (d : Nat → List (List Nat) → Nat → List (List Nat) → PyData) : Sp := fun vs H Q _ => ∃ (w v : Nat) (g g' : Addr) (us us' : List V) (rs ts : List (List Nat)), vs = [.int (w : Int), .ref g, .ref g', .int (v : Int)] ∧ H g = some (.lst us) ∧ DpAll K H us (rs.map gd) ∧ H g' = some (.lst us') ∧ DpAll K H us' (ts.map gd) ∧ 1 ≤ w ∧ w ≤ 6 ∧ (∀ r ∈ rs, RowOk w r) ∧ rs.length ≤ 400 ∧ (∀ r ∈ ts, RowOk v r) ∧ ts.length ≤ 400 ∧ rs.length * ts.length ≤ 90000 ∧
  ∀ (z : V) (H' : Hp), Same H H' → Dp K H' z (d w rs v ts) → Q z H'
theorem below_app (a b : List (List Nat)) (l : Nat) : below (a ++ b) l = (below a l && below b l) := by
  unfold below
  rw [List.all_append]
section
variable {P : Program} {w : World} {K : PySem.W.Frag} {mg : Str → Option Value} {base : Heap} {kA : Addr}
abbrev nLS : List Str := ["_law_width", "_law_lines_here", "_law_others", "_law_wide"]
theorem scLSum : FnScope nLS ["_law_width", "_law_lines_here", "_law_others", "_law_wide"] (defScope sLSum) := ⟨rfl, rfl, rfl, by decide +kernel, rfl, by decide +kernel, by decide +kernel⟩
theorem ok_lsum {f : Addr} {fd : FuncData} {k : Nat} (F : Fun K "_law_sum" "_law_sum" sLSum f fd) (T : Glb K mg kA) : FnOk P w K mg base CX0 (k + 1) f fd ["_law_width", "_law_lines_here", "_law_others", "_law_wide"] (spTwo K dSm) := by
  refine F.ok scLSum (fun vs H Q E h => ?_) (fun cdv A outer s H vs Q E hr h => ?_)
  · obtain ⟨w, v, g, g', us, us', rs, ts, rfl, _⟩ := h
    rfl
  · obtain ⟨w, v, g, g', us, us', rs, ts, rfl, hg, dp, hg', dp', w1, w6, ok, few, ok', few', fp, q⟩ := h
    have n := scLSum.nd
    refine ⟨_, (pss_cons (ps_if (pt_cmpR op_ne (pv 0) (pv 3) (nomark _)) (pss_one (ps_ret pe_str)) pss_nil)
      (pss_one (ps_ret (pe_ifExp (pt_cmpR op_gt (pe_op op_add (pe_callB call_len_seq (by rfl) T.len PySem.boot_len (pa_cons (pv 1) pa_nil)) (pe_callB call_len_seq (by rfl) T.len PySem.boot_len (pa_cons (pv 2) pa_nil))) pe_int (nomark _)) pe_str (pe_lst (pa_cons (pv 0) (pa_cons (pe_callTy call_tuple_of (by rfl) T.tup (by decide +kernel) (pa_cons (pe_op op_cat (pv 1) (pv 2)) pa_nil)) pa_nil))))))), ?_⟩
    have ul : us.length = rs.length := by rw [dps_len dp, List.length_map]
    have ul' : us'.length = ts.length := by rw [dps_len dp', List.length_map]
    refine ⟨_, rfl, _, rfl, rfl, _, rfl, ?_⟩
    by_cases e : w = v
    · refine iteF' (by rw [decide_eq_true (by rw [e])]; rfl) ?_
      refine ⟨_, rfl, g, us, rfl, .inl (SqL.of hg), _, rfl, g', us', rfl, .inl (SqL.of hg'), _, _, rfl, rfl, _, _, rfl, rfl, _, rfl, ?_⟩
      by_cases e2 : rs.length + ts.length ≤ 400
      · refine iteF' (decide_eq_false (by omega)) ?_
        refine ⟨_, rfl, _, rfl, _, rfl, g, g', us, us', rfl, rfl, hg, hg', Nat.le_of_lt (small1000 (by omega)), fun p np => ?_⟩
        have s1 : Same H (upd H p (.lst (us ++ us'))) := same_new np
        have hp : (upd H p (.lst (us ++ us'))) p = some (.lst (us ++ us')) := upd_same
        generalize upd H p (.lst (us ++ us')) = H1 at s1 hp
        refine ⟨p, _, rfl, .inl ⟨SqL.of hp, fun t nt => ⟨(by show 2 ≤ sizeLine; decide), fun l nl => ?_⟩⟩⟩
        have s2 : Same H1 (upd H1 t (.tup (us ++ us'))) := same_new nt
        have ht : (upd H1 t (.tup (us ++ us'))) t = some (.tup (us ++ us')) := upd_same
        generalize upd H1 t (.tup (us ++ us')) = H2 at s2 ht nl
        have s3 : Same H2 (upd H2 l (.lst [.int (w : Int), .ref t])) := same_new nl
        refine q _ _ (s1.trans (s2.trans s3)) ?_
        unfold dSm
        rw [if_pos e, if_pos e2, List.map_append]
        exact .lst (SqL.of upd_same) (.cons (.int _) (.cons (.tup (.inl (.inl (s3 _ _ ht))) (dps_same (s1.trans (s2.trans s3)) _ _ (dps_app dp dp'))) .nil))
      · refine iteT' (decide_eq_true (by omega)) ?_
        refine q _ _ (Same.refl _) ?_
        unfold dSm
        rw [if_pos e, if_neg e2]
        exact .str _
    · refine iteT' (by rw [decide_eq_false (fun z => e (by injection z with z; omega))]; rfl) ?_
      refine q _ _ (Same.refl _) ?_
      unfold dSm
      rw [if_neg e]
      exact .str _
abbrev nLP : List Str := ["_law_width", "_law_lines_here", "_law_others", "_law_wide", "_law_row", "_law_found", "_law_other", "_law_at"]
theorem scLPr : FnScope nLP ["_law_width", "_law_lines_here", "_law_others", "_law_wide"] (defScope sLPr) := ⟨rfl, rfl, rfl, by decide +kernel, rfl, by decide +kernel, by decide +kernel⟩
theorem ok_lpr {f : Addr} {fd : FuncData} {k : Nat} (F : Fun K "_law_pairs" "_law_pairs" sLPr f fd) (T : Glb K mg kA) : FnOk P w K mg base CX0 (k + 1) f fd ["_law_width", "_law_lines_here", "_law_others", "_law_wide"] (spTwo K dPr) := by
  refine F.ok scLPr (fun vs H Q E h => ?_) (fun cdv A outer s H vs Q E hr h => ?_)
  · obtain ⟨w, v, g, g', us, us', rs, ts, rfl, _⟩ := h
    rfl
  · obtain ⟨w, v, g, g', us, us', rs, ts, rfl, hg, dp, hg', dp', w1, w6, ok, few, ok', few', fp, q⟩ := h
    have n := scLPr.nd
    have hu : (A.deeper (PyProof.Rows.envOfC (Str.ofString "_law_pairs") (defScope sLPr) s.heap.objs.size f cdv)).units + 64 < cLine := by
      have := hr.un
      omega
    refine ⟨_, (pss_cons (ps_if (pt_cmpR op_ne (pv 0) (pv 3) (nomark _)) (pss_one (ps_ret pe_str)) pss_nil)
      (pss_cons (ps_for PassesOwn.never rfl (pi_list (pe_op op_cat (pv 1) (pv 2))) (pg_name (i := 4) n rfl (.inr rfl))
        (pss_one (ps_if (pt_cmpR op_gt (pe_callB (MXT.cr_maxT rfl hu) (by rfl) T.max (by decide +kernel) (pa_cons (pv 4) pa_nil)) pe_int (nomark _)) (pss_one (ps_ret pe_str)) pss_nil)))
      (pss_cons (ps_set (i := 5) n rfl (.inl rfl) (pe_lst pa_nil))
      (pss_cons (ps_for PassesOwn.never rfl (pi_list (pv 1)) (pg_name (i := 4) n rfl (.inr rfl))
        (pss_one (ps_for PassesOwn.never rfl (pi_list (pv 2)) (pg_name (i := 6) n rfl (.inr rfl))
          (pss_one (ps_expr (pe_bm PySem.F.plainAttrs_list PySem.F.slot_list_append PySem.F.type_list_append mt_append (pv 5) (pa_cons (pe_callTy call_tuple_of (by rfl) T.tup (by decide +kernel) (pa_cons (pe_lc (own := [("_law_at", 7)]) (g := gName 7) (tt := tYes) (te := tOp (rI0 fun i j => .int (i + j)) (tOp (rI CMul fun i j => .int (i * j)) (tOp (rIxT K) (tVar 4) (tVar 7)) (tC (.int 100))) (tOp (rIxT K) (tVar 6) (tVar 7))) rfl n (pi_range1 (by rfl) T.rng (pa_cons (pv 0) pa_nil)) (blkOk_by (N := nLP) (sc := defScope sLPr) (by decide +kernel))
            (fun _ _ _ _ _ => (pg_name (i := 7) n rfl (.inl rfl))) (fun _ _ _ _ _ => pts_nil) (fun _ _ _ _ _ => (pe_op op_add (pe_op op_mul (pe_ix ix_tup (pv 4) (pv 7) (fun _ _ => rfl)) pe_int) (pe_ix ix_tup (pv 6) (pv 7) (fun _ _ => rfl))))) pa_nil)) pa_nil)))))))
      (pss_one (ps_ret (pe_ifExp (pt_cmpR op_gt (pe_callB call_len_seq (by rfl) T.len PySem.boot_len (pa_cons (pv 5) pa_nil)) pe_int (nomark _)) pe_str (pe_lst (pa_cons (pv 0) (pa_cons (pe_callTy call_tuple_of (by rfl) T.tup (by decide +kernel) (pa_cons (pv 5) pa_nil)) pa_nil)))))))))), ?_⟩
    have ul : us.length = rs.length := by rw [dps_len dp, List.length_map]
    have ul' : us'.length = ts.length := by rw [dps_len dp', List.length_map]
    refine ⟨_, rfl, _, rfl, rfl, _, rfl, ?_⟩
    by_cases e : w = v
    · refine iteF' (by rw [decide_eq_true (by rw [e])]; rfl) ?_
      subst e
      refine ⟨_, rfl, _, rfl, g, g', us, us', rfl, rfl, hg, hg', Nat.le_of_lt (small1000 (by omega)), fun p np => ?_⟩
      have s1 : Same H (upd H p (.lst (us ++ us'))) := same_new np
      have hp : (upd H p (.lst (us ++ us'))) p = some (.lst (us ++ us')) := upd_same
      generalize upd H p (.lst (us ++ us')) = H1 at s1 hp
      have dj : DpAll K H1 (us ++ us') ((rs ++ ts).map gd) := by
        rw [List.map_append]
        exact dps_same s1 _ _ (dps_app dp dp')
      have jl : (us ++ us').length = (rs ++ ts).length := by rw [dps_len dj, List.length_map]
      have okj : ∀ r ∈ rs ++ ts, RowOk w r := fun r hr => (List.mem_append.mp hr).elim (ok r) (ok' r)
      have s01 := s1
      refine ⟨p, rfl, ⟨_, SqL.of hp⟩, ?_⟩
      refine for_list (xs := us ++ us') (fun i σ H2 => (∃ y4, σ = [some (.int (w : Int)), some (.ref g), some (.ref g'), some (.int (w : Int)), y4, none, none, none]) ∧ H2 = H1 ∧ below ((rs ++ ts).take i) 100 = true) ⟨⟨none, rfl⟩, rfl, rfl⟩ (fun i σ H2 _ z => by rw [z.2.1]; exact SqL.of hp) ?_ ?_
      · rintro i x σ H2 hx ⟨⟨y4, rfl⟩, rfl, bl⟩
        obtain ⟨r, hr2, dr⟩ := dps_gat dj hx
        have rok := okj r (List.mem_of_getElem? hr2)
        obtain ⟨t, rfl, ht⟩ := gd_at dr
        refine ⟨_, rfl, t, r.map fun (n : Nat) => (n : Int), rfl, ?_, ?_, fun m hm le => ?_⟩
        · rw [List.map_map]
          exact ht
        · rw [List.length_map, rok.1]
          omega
        obtain ⟨m, hm', rfl⟩ := List.mem_map.mp hm
        refine ⟨_, _, rfl, rfl, _, rfl, ?_⟩
        by_cases e2 : 99 < m
        · refine iteT' (decide_eq_true (by omega)) ?_
          refine q _ _ s1 ?_
          unfold dPr
          rw [if_pos rfl, if_neg fun z => ?_]
          · exact .str _
          have b : below (rs ++ ts) 100 = true := by rw [below_app, z.2.1, z.2.2]; rfl
          have := below_ok b r (List.mem_of_getElem? hr2) m hm'
          omega
        · refine iteF' (decide_eq_false (by omega)) ?_
          refine ⟨⟨_, rfl⟩, rfl, ?_⟩
          rw [SG.take_one hr2, below_app, bl]
          show (true && below [r] 100) = true
          unfold below
          simp only [Bool.true_and, List.all_cons, List.all_nil, Bool.and_true]
          rw [List.all_eq_true]
          intro y hy
          have := le y (List.mem_map.mpr ⟨y, hy, rfl⟩)
          exact decide_eq_true (by omega)
      · rintro σ H2 ⟨⟨y4, rfl⟩, hh, bl⟩
        have hh := hh.symm
        subst hh
        rw [jl, List.take_length, below_app, Bool.and_eq_true] at bl
        obtain ⟨b1, b2⟩ := bl
        refine ⟨(by show 0 ≤ sizeLine; decide), fun D nD => ?_⟩
        have hg1 := s1 _ _ hg
        have hg1' := s1 _ _ hg'
        have gD : g ≠ D := ne_of_none hg1 nD
        have gD' : g' ≠ D := ne_of_none hg1' nD
        have bnd : ∀ i, i < rs.length → ts.length * i + ts.length ≤ 90000 := fun i il => by
          have z1 := Nat.mul_le_mul_left ts.length (show i + 1 ≤ rs.length from il)
          rw [Nat.mul_succ] at z1
          rw [Nat.mul_comm] at fp
          omega
        refine ⟨_, rfl, g, rfl, ⟨_, SqL.of ((same_new nD) _ _ hg1)⟩, ?_⟩
        refine for_list (xs := us) (fun i σ H3 => (∃ y4 y6, σ = [some (.int (w : Int)), some (.ref g), some (.ref g'), some (.int (w : Int)), y4, some (.ref D), y6, none]) ∧ MadeF gd K H1 D (ts.length * i) H3 (prodRs (rs.take i) ts)) ⟨⟨_, _, rfl⟩, MadeF.start⟩ (fun i σ H3 _ z => SqL.of (z.2.old nD _ _ hg1)) ?_ ?_
        · rintro i x σ H3 hx ⟨⟨y4, y6, rfl⟩, mo⟩
          obtain ⟨r, hr2, dr⟩ := dps_gat dp hx
          have il := (List.getElem?_eq_some_iff.mp hr2).1
          have rm := List.mem_of_getElem? hr2
          have rok := ok r rm
          obtain ⟨t, rfl, ht⟩ := gd_at dr
          have bi := bnd i il
          refine ⟨_, rfl, g', rfl, ⟨_, SqL.of (mo.old nD _ _ hg1')⟩, ?_⟩
          refine for_list (xs := us') (fun j σ H4 => (∃ y6, σ = [some (.int (w : Int)), some (.ref g), some (.ref g'), some (.int (w : Int)), some (.ref t), some (.ref D), y6, none]) ∧ MadeF gd K H1 D (ts.length * i + j) H4 (prodRs (rs.take i) ts ++ (ts.take j).map (prodR r))) ⟨⟨_, rfl⟩, mo.up (Nat.le_refl _) (by simp)⟩ (fun j σ H4 _ z => SqL.of (z.2.old nD _ _ hg1')) ?_ ?_
          · rintro j x2 σ H4 hx2 ⟨⟨y6, rfl⟩, mo4⟩
            obtain ⟨r2, hr3, dr2⟩ := dps_gat dp' hx2
            have jl := (List.getElem?_eq_some_iff.mp hr3).1
            have rm2 := List.mem_of_getElem? hr3
            have rok2 := ok' r2 rm2
            obtain ⟨t2, rfl, ht2⟩ := gd_at dr2
            have o4 := s1.trans (mo4.old nD)
            obtain ⟨uo, _, hDo, _⟩ := id mo4
            have l1 := rok.1
            have l2 := rok2.1
            refine ⟨_, rfl, .inl ⟨rfl, _, SqL.of hDo⟩, _, rfl, _, rfl, by omega, by omega, fun D2 nD2 => ?_⟩
            refine lc_range (lo := 0) (n := ((w : Nat) : Int).toNat) (fun m H5 => Same H4 (wo H5 D2) ∧ H5 D2 = some (.lst (nms (prodR (r.take m) (r2.take m)))) ∧ m ≤ 6) ⟨?_, upd_same, by omega⟩ ?_ ?_
            · rw [wo_upd]
              exact fun b o e => by rw [wo_ne (ne_of_none e nD2)]; exact e
            · rintro m H5 ml ⟨e1, e2, e3⟩
              have mw : m < w := by omega
              have g1 : r[m]? = some r[m] := List.getElem?_eq_getElem (by omega)
              have g2 : r2[m]? = some r2[m] := List.getElem?_eq_getElem (by omega)
              have lt1 := below_ok b1 r rm r[m] (List.getElem_mem _)
              have lt2 := below_ok b2 r2 rm2 r2[m] (List.getElem_mem _)
              have o5 := o4.trans (e1.trans (wo_le D2))
              refine ⟨rfl, yes_if ?_⟩
              refine ⟨_, rfl, _, rfl, t, nms r, _, .int (r[m] : Int), rfl, rfl, same_t o5 ht, ?_, _, _, rfl, rfl, .inr ⟨by decide, by decide⟩, _, rfl, _, rfl, t2, nms r2, _, .int (r2[m] : Int), rfl, rfl, same_t o5 ht2, ?_, _, _, rfl, rfl, _, e2, ?_, ?_, ?_, by omega⟩
              · rw [Int.zero_add]
                refine atI_nat ?_
                unfold nms
                rw [List.getElem?_map, g1]
                rfl
              · rw [Int.zero_add]
                refine atI_nat ?_
                unfold nms
                rw [List.getElem?_map, g2]
                rfl
              · refine Nat.lt_of_lt_of_le (show _ < 10000 from ?_) (by decide)
                rw [nms_len]
                unfold prodR
                rw [List.length_map, List.length_zip, List.length_take, List.length_take]
                omega
              · rw [wo_upd]
                exact e1
              · rw [upd_same, SG.take_one g1, SG.take_one g2]
                have l3 : (r.take m).length = (r2.take m).length := by rw [List.length_take, List.length_take, l1, l2]
                unfold prodR
                rw [List.zip_append l3, List.map_append]
                unfold nms
                rw [List.map_append]
                have ec : ((r[m] : Nat) : Int) * 100 + ((r2[m] : Nat) : Int) = ((100 * r[m] + r2[m] : Nat) : Int) := by omega
                show some (HO.lst (_ ++ [V.int (((r[m] : Nat) : Int) * 100 + ((r2[m] : Nat) : Int))])) = _
                rw [ec]
                rfl
            · rintro H5 ⟨e1, e2, _⟩
              rw [Int.toNat_natCast] at e2
              rw [show r.take w = r from by rw [← l1]; exact List.take_length, show r2.take w = r2 from by rw [← l2]; exact List.take_length] at e2
              refine ⟨D2, _, rfl, .inl ⟨SqL.of e2, fun t3 nt3 => ?_⟩⟩
              have s5 : Same H4 (upd H5 t3 (.tup (nms (prodR r r2)))) := (e1.trans (wo_le D2)).trans (same_new nt3)
              have h3 : (upd H5 t3 (.tup (nms (prodR r r2)))) t3 = some (.tup (nms (prodR r r2))) := upd_same
              generalize upd H5 t3 (.tup (nms (prodR r r2))) = H6 at s5 h3
              have h6 := s5 _ _ hDo
              obtain ⟨acc, a1, a2, a3⟩ := mo4.push (m := ts.length * i + (j + 1)) (r := prodR r r2) (by omega) (by omega) s5 (gd_T (wo_T h6) (dp_gd (.inl (.inl h3))))
              refine ⟨D, acc, _, rfl, rfl, a1, a2, ⟨_, rfl⟩, ?_⟩
              rw [SG.take_one hr3, List.map_append, ← List.append_assoc]
              exact a3
          · rintro σ H4 ⟨⟨y6, rfl⟩, mo4⟩
            rw [ul', List.take_length] at mo4
            refine ⟨⟨_, _, rfl⟩, mo4.up (by rw [Nat.mul_succ]; exact Nat.le_refl _) ?_⟩
            rw [SG.take_one hr2]
            unfold prodRs
            rw [List.flatMap_append]
            simp
        · rintro σ H3 ⟨⟨y4, y6, rfl⟩, mo⟩
          have o := s1.trans (mo.old nD)
          rw [ul, List.take_length] at mo
          obtain ⟨uo, _, hDo, dDo, ulo⟩ := mo
          have dj2 := dps_same (wo_le D) _ _ dDo
          have lo : uo.length = rs.length * ts.length := by rw [dps_len dj2, List.length_map, prodRs_len]
          refine ⟨_, rfl, D, uo, rfl, .inl (SqL.of hDo), _, _, rfl, rfl, _, rfl, ?_⟩
          by_cases e2 : rs.length * ts.length ≤ 400
          · refine iteF' (decide_eq_false (by rw [lo]; omega)) ?_
            refine ⟨_, rfl, _, rfl, D, _, rfl, .inl ⟨SqL.of hDo, fun t nt => ⟨(by show 2 ≤ sizeLine; decide), fun l nl => ?_⟩⟩⟩
            have s2 : Same H3 (upd H3 t (.tup uo)) := same_new nt
            have ht : (upd H3 t (.tup uo)) t = some (.tup uo) := upd_same
            generalize upd H3 t (.tup uo) = H4 at s2 ht nl
            have s3 : Same H4 (upd H4 l (.lst [.int (w : Int), .ref t])) := same_new nl
            refine q _ _ (o.trans (s2.trans s3)) ?_
            unfold dPr
            rw [if_pos rfl, if_pos ⟨e2, b1, b2⟩]
            exact .lst (SqL.of upd_same) (.cons (.int _) (.cons (.tup (.inl (.inl (s3 _ _ ht))) (dps_same (s2.trans s3) _ _ dj2)) .nil))
          · refine iteT' (decide_eq_true (by rw [lo]; omega)) ?_
            refine q _ _ o ?_
            unfold dPr
            rw [if_pos rfl, if_neg fun z => e2 z.1]
            exact .str _
    · refine iteT' (by rw [decide_eq_false (fun z => e (by injection z with z; omega))]; rfl) ?_
      refine q _ _ (Same.refl _) ?_
      unfold dPr
      rw [if_neg e]
      exact .str _
end
end CC
namespace CC
open PySem L2 TL
/-- a property of an own class: a field's value -/
structure Prp (P : Program) (w : World) (K : PySem.W.Frag) (mg : Str → Option Value) (base : Heap) (C : Addr) (f fld : Str) where
  p : Addr
  g : Addr
  fd : FuncData
  hp : PropOf K C f p g
  ok : ∀ k, 1 ≤ k → FnOk P w K mg base CX0 k g fd ["self"] (getSp C fld)
  b : Binds K fd ["self"] []
/-- a property, by its promise -/
structure PrpG (P : Program) (w : World) (K : PySem.W.Frag) (mg : Str → Option Value) (base : Heap) (C : Addr) (f : Str) (sp : Sp) where
  p : Addr
  g : Addr
  fd : FuncData
  hp : PropOf K C f p g
  ok : ∀ k, 1 ≤ k → FnOk P w K mg base CX0 k g fd ["self"] sp
  b : Binds K fd ["self"] []
end CC
/-! ### set comprehensions, by a kind of sets -/
namespace SC
open PySem PySem.Spec PyProof.Rows L2
abbrev bareS (w : World) : Obj := { cls := .type "set", dict := none, data := .set #[] 0 (.fresh 0 0 (!w.params.followText "set-order")) }
/-- what stands at the place of a set while it is filled, and what one more member makes of it -/
structure Fam (α : Type) where
  ob : Program → World → Addr → α → HO
  ini : α
  new : ∀ (P : Program) (w : World) (H : Hp) (h : Heap), ObjOk P w H (h.push (bareS w)) h.objs.size (ob P w h.objs.size ini)
  put : PySem.W.Frag → Around → Hp → α → V → α → Prop
  add : ∀ {X : Cx} {pins : List (Addr × Obj)} {σ : L2.St} {H : Hp} {s : Shared} {E : Value → Shared → Prop} {D : Addr} {a b : α} {y : V} {v : Value} {Q : Value → Shared → Prop}, Inv X pins σ H s → H D = some (ob X.prog X.w D a) → put X.K X.A H a y b → RelV y v →
    (∀ s', Inv X pins σ (upd H D (ob X.prog X.w D b)) s' → Q .none s') → wpAny (model X.prog X.w) X.A (call (.builtin "set.add") [.ref D, v]) Q E s
section
variable {X : Cx} {α : Type}
def tSF (F : Fam α) (P : Program) (w : World) (K : PySem.W.Frag) (A : Around) (wi : TI) (g : TG) (tt : TT) (te : TE) (vs : List Nat) : TE := fun σ H Q => wi σ H fun J H1 => ∀ D, H1 D = none → ∃ W : Nat → Nat → Hp → Prop, (∃ m, W 0 m (upd H1 D (F.ob P w D F.ini))) ∧
  ∀ i m H, W i m H → (J.stop i H ∧ Q (.ref D) H) ∨ (J.go i H ∧ ∃ Nx : Hp → Prop, (∀ H', Nx H' → ∃ m', m' < m ∧ W (i + 1) m' H') ∧ ∀ x H', J.yld i H x H' → g x (wipe σ vs) H' fun σ2 H2 => wipe σ2 vs = wipe σ vs ∧ tt σ2 H2 fun b H3 =>
    if b = true then te σ2 H3 fun y H4 => ∃ c c' : α, H4 D = some (F.ob P w D c) ∧ F.put K A H4 c y c' ∧ Nx (upd H4 D (F.ob P w D c')) else Nx H3)
theorem core (F : Fam α) {pins : List (Addr × Obj)} {s : Shared} {σ : L2.St} {H : Hp} {Q : VK} {elt tg iter : Expr} {ifs : List Expr} {scope : Scope} {own : List (PySem.Str × Nat)} {pos pos' : Pos} {wi : TI} {g : TG} {tt : TT} {te : TE} {Qf : Value → Shared → Prop} {use : Option (Value → Sem Unit)}
    (calm : X.calm = true) (nd : X.N.Nodup) (I0 : Inv X pins σ H s) (walk : PI X tg iter wi) (bo : BlkOk X.N X.env.scope scope own)
    (aim : ∀ s H C cl fp, PG (X.blk s H scope (compEnvC scope cl C X.env) fp) tg g) (tst : ∀ s H C cl fp, PTs (X.blk s H scope (compEnvC scope cl C X.env) fp) ifs tt)
    (val : ∀ s H C cl fp, PE (X.blk s H scope (compEnvC scope cl C X.env) fp) elt te) (plain : ∀ x, foldedSetIterable iter X.env x = pure x)
    (ask : tSF F X.prog X.w X.K X.A wi g tt te (own.map (·.2)) σ H Q)
    (out : ∀ D C s' m H', Inv X pins σ H' s' → Q (.ref D) H' → s'.heap.Ns C m → FpOk X pins H' C → compPost (model X.prog X.w) X.A X.xe use Qf (.ref D) C (.ok .next) s') :
    wpAny (model X.prog X.w) X.A (comprehension (.SetComp elt [⟨tg, iter, ifs, 0⟩] scope pos) scope X.env pos' (newSet (.type "set")) false (eval iter X.env) use) Qf X.xe s := by
  have clo : ∀ y ∈ scope.names, y.2 = .free → ∃ c, X.env.cells.lookup y.1 = some c := fun y my ey => by
    rcases bo.free y my ey with z | z
    · exact I0.ok.has _ (.inl z)
    · exact I0.ok.has _ (.inr z)
  refine wpAny_comprehension_free (use := use) rfl plain (closure_ok clo) bo.kind (fun y my ey => by rw [bo.uniq y my, ey]) (thn (walk.run pins s σ H _ I0 ask) fun v0 sa ha => thn ha fun v1 sb hb => ?_)
  obtain ⟨itA, fp, tn, J, Hb, rfl, Ib, Tn, stb, fpb, qb⟩ := hb
  refine PpSet.newSet_ok (newEnv_comp ?_)
  obtain ⟨D, eD⟩ : ∃ D, D = sb.heap.objs.size := ⟨_, rfl⟩
  have freeD : Hb D = none := Ib.hok.fresh (Nat.le_of_eq eD.symm)
  obtain ⟨W, ⟨m0, w0⟩, turn⟩ := qb D freeD
  obtain ⟨sc, esc⟩ : ∃ sc : Shared, sc = { sb with heap := sb.heap.push (bareS X.w) } := ⟨_, rfl⟩
  have Ic : Inv X pins σ (upd Hb D (F.ob X.prog X.w D F.ini)) sc := by
    rw [esc]
    refine Ib.laid (t' := sb.toks) (fun b o e => Heap.get?_push_of_some _ e) (Nat.le_of_eq eD.symm) ?_
    rw [eD]
    exact F.new _ _ _ _
  have hc : sc.heap = sb.heap.push (bareS X.w) := by rw [esc]
  have below : ∀ b ∈ fp, b < sb.heap.objs.size := fun b mb => by
    obtain ⟨o, e, _⟩ := Tn.obj _ _ stb b mb
    exact Heap.lt_size e
  have fpc : ∀ b ∈ fp, FpOk X pins (upd Hb D (F.ob X.prog X.w D F.ini)) b ∧ b < sc.heap.objs.size := fun b mb => by
    have lt := below b mb
    refine ⟨⟨?_, (fpb b mb).2⟩, by rw [hc, Heap.size_push]; exact Nat.lt_succ_of_lt lt⟩
    rw [upd_ne (by rw [eD]; exact Nat.ne_of_lt lt)]
    exact (fpb b mb).1
  have stc : tn 0 sc.heap := Tn.keep _ _ _ stb fun b _ o e => by rw [hc]; exact Heap.get?_push_of_some _ e
  have Id := block_start Ic bo nd fpc
  have hereG := aim sc (upd Hb D (F.ob X.prog X.w D F.ini)) sc.heap.objs.size (cellsFrom (sc.heap.objs.size + 1) scope.names (cloFrom X.env.cells scope.names [])) fp
  have hereT := tst sc (upd Hb D (F.ob X.prog X.w D F.ini)) sc.heap.objs.size (cellsFrom (sc.heap.objs.size + 1) scope.names (cloFrom X.env.cells scope.names [])) fp
  have hereE := val sc (upd Hb D (F.ob X.prog X.w D F.ini)) sc.heap.objs.size (cellsFrom (sc.heap.objs.size + 1) scope.names (cloFrom X.env.cells scope.names [])) fp
  rw [← eD, ← esc]
  have offH : ∀ b ∈ fp, (upd Hb D (F.ob X.prog X.w D F.ini)) b = none := fun b mb => (fpc b mb).1.1
  show codeAny _ _ (.compStart (.SetComp elt [⟨tg, iter, ifs, 0⟩] scope pos) 0 (.ref itA) (.ref D) (compEnvC scope (cellsFrom (sc.heap.objs.size + 1) scope.names (cloFrom X.env.cells scope.names [])) sc.heap.objs.size X.env)) _ { sc with heap := pushCells (sc.heap.push { cls := .type "dict", data := .dict #[] }) scope.names }
  generalize hce : compEnvC scope (cellsFrom (sc.heap.objs.size + 1) scope.names (cloFrom X.env.cells scope.names [])) sc.heap.objs.size X.env = ce at Id hereG hereT hereE ⊢
  have locs : ce.locals = sc.heap.objs.size := by subst hce; rfl
  generalize upd Hb D (F.ob X.prog X.w D F.ini) = Hc at Ic Id hereG hereT hereE w0 offH fpc
  generalize hsd : ({ sc with heap := pushCells (sc.heap.push { cls := .type "dict", data := .dict #[] }) scope.names } : Shared) = sd at Id ⊢
  have std : tn 0 sd.heap := Tn.keep _ _ _ stc fun b _ o e => by rw [← hsd]; exact pushCells_keeps _ _ _ _ (Heap.get?_push_of_some _ e)
  have own1 : ∀ {σ' : L2.St} {H' : Hp} {s' : Shared}, Inv (X.blk sc Hc scope ce fp) [] σ' H' s' → (∀ b ∈ fp, H' b = none) → ∀ b ∈ fp, FpOk (X.blk sc Hc scope ce fp) [] H' b := fun {_ H' _} Ie off b mb =>
    ⟨off b mb, (Ie.ok.exf b mb).1, Ie.ok.exfs b mb, .inl mb, fun x c e => (Ie.ok.exf b mb).2 x c e, fun p hp => absurd (show p ∈ ([] : List (Addr × Obj)) ++ [] from hp) (by simp)⟩
  have loop : codeAny (model X.prog X.w) X.A (.compLoop (.SetComp elt [⟨tg, iter, ifs, 0⟩] scope pos) 0 (.ref itA) (.ref D) ce) (compPost (model X.prog X.w) X.A X.xe use Qf (.ref D) sc.heap.objs.size) sd := by
    refine PpSet.compLoopS_any (fun k st => ∃ i He, Inv (X.blk sc Hc scope ce fp) [] (wipe σ (own.map (·.2))) He st ∧ tn i st.heap ∧ (∀ b ∈ fp, He b = none) ∧ W i k He) ?_ m0 ⟨0, Hc, Id, std, offH, w0⟩
    rintro k se ⟨i, He, Ie, ste, offe, we⟩
    rcases turn i k He we with ⟨atEnd, fin⟩ | ⟨onward, Nx, back, next⟩
    · refine thnF (Tn.done (X.blk sc Hc scope ce fp) rfl rfl rfl calm i [] se _ He (fun _ _ => False) Ie (own1 Ie offe) ste atEnd) fun r sf ⟨er, If⟩ => ?_
      subst er
      have Ig : Inv X pins σ He sf := Ic.call' (ch := fp) If.os If.base If.hok If.bare fun b mb => ⟨(fpc b mb).1.2.2.2.1, (fpc b mb).1.2.1, (fpc b mb).1.2.2.2.2.1, (fpc b mb).1.2.2.2.2.2⟩
      have noC : He sc.heap.objs.size = none := locs ▸ (show He ce.locals = none from If.free)
      obtain ⟨nm, nsf, _⟩ := If.loc
      have nsf : sf.heap.Ns sc.heap.objs.size nm := locs ▸ (show sf.heap.Ns ce.locals nm from nsf)
      exact out D sc.heap.objs.size sf nm He Ig fin nsf (Ic.fpOk (Nat.le_refl _) noC)
    · refine thnF (Tn.item (X.blk sc Hc scope ce fp) rfl rfl rfl calm i [] se _ He (fun _ _ => False) Ie (own1 Ie offe) ste onward) fun r sf ⟨u, er, hf⟩ => ?_
      subst er
      refine thnF hf fun _ sg ⟨x, Hg, Ig, rg, yg, stg, offg⟩ => ?_
      refine thnF (hereG.run _ sg _ Hg x u _ (Ig.pinned (own1 Ig offg) (Tn.obj _ _ stg)) rg (next x Hg yg)) fun _ sh ⟨σh, Hh, Ih, wh, qh⟩ => ?_
      refine thnF (hereT.run _ sh σh Hh _ Ih qh) fun b si ⟨Hi, Ii, qi⟩ => ?_
      have over : ∀ {st : Shared} {Ht : Hp}, Inv (X.blk sc Hc scope ce fp) ([] ++ pinsAt fp sg.heap) σh Ht st → Nx Ht → ∃ m, m < k ∧ ∃ i He, Inv (X.blk sc Hc scope ce fp) [] (wipe σ (own.map (·.2))) He st ∧ tn i st.heap ∧ (∀ b ∈ fp, He b = none) ∧ W i m He := fun {st Ht} It nx => by
        obtain ⟨m1, lt1, w1⟩ := back Ht nx
        have held : ∀ b ∈ fp, ∀ o, sg.heap.get? b = some o → st.heap.get? b = some o ∧ Ht b = none := fun b mb o e =>
          have z := It.pin (b, o) (List.mem_append_right _ (List.mem_append_right _ (mem_pinsAt mb e)))
          ⟨z.1, z.2.1⟩
        have ln : (wipe σ (own.map (·.2))).length = σh.length := by rw [← wh, wipe_length]
        refine ⟨m1, lt1, i + 1, Ht, (It.unpinned (pins := [])).weak ln (fun j v e => ?_), Tn.keep _ _ _ stg fun b mb o e => (held b mb o e).1, fun b mb => ?_, w1⟩
        · rw [← wh] at e
          exact (wipe_some e).1
        · obtain ⟨o, e, _⟩ := Tn.obj _ _ stg b mb
          exact (held b mb o e).2
      cases b with
      | false =>
        rw [if_neg (by decide)] at qi ⊢
        exact over Ii qi
      | true =>
        rw [if_pos rfl] at qi ⊢
        refine thnF (hereE.run _ si σh Hi _ Ii qi) fun z sj ⟨yv, Hj, Ij, rj, c, c', atD, pt, nx⟩ => ?_
        exact F.add (X := X.blk sc Hc scope ce fp) Ij atD pt rj fun sk Ik => over Ik nx
  exact PpSet.codeAny_compStart_set loop (Tn.self X.A 0 _ _ _ std loop)
/-- {elt for target in iter if ..} -/
theorem pe_setc (F : Fam α) {elt tg iter : Expr} {ifs : List Expr} {scope : Scope} {own : List (PySem.Str × Nat)} {pos : Pos} {wi : TI} {g : TG} {tt : TT} {te : TE} (calm : X.calm = true) (nd : X.N.Nodup) (walk : PI X tg iter wi) (bo : BlkOk X.N X.env.scope scope own)
    (aim : ∀ s H C cl fp, PG (X.blk s H scope (compEnvC scope cl C X.env) fp) tg g) (tst : ∀ s H C cl fp, PTs (X.blk s H scope (compEnvC scope cl C X.env) fp) ifs tt)
    (val : ∀ s H C cl fp, PE (X.blk s H scope (compEnvC scope cl C X.env) fp) elt te) (plain : ∀ x, foldedSetIterable iter X.env x = pure x := by intro _; rfl) :
    PE X (.SetComp elt [⟨tg, iter, ifs, 0⟩] scope pos) (tSF F X.prog X.w X.K X.A wi g tt te (own.map (·.2))) := by
  refine ⟨fun pins s σ H Q I0 ask => ?_⟩
  rw [PpSet.eval_SetComp]
  refine core F calm nd I0 walk bo aim tst val plain ask fun D C s1 m H1 I1 q hn fpC => ⟨m, hn, fun h2 sb => ?_⟩
  exact ⟨.ref D, H1, I1.turned (t' := s1.toks) (fun b o hb e => (sb.2 b hb).trans e) fpC.1 fpC.2.1 fpC.2.2.2.1 fpC.2.2.2.2.1 fpC.2.2.2.2.2, rfl, q⟩
end
/-- sets of ints -/
def famI : Fam ((Int → Bool) × Nat) where
  ob := fun _ w a c => SetO w a c.1 c.2
  ini := (fun _ => false, 0)
  new := fun P w H h => setO_new (setR_fresh w)
  put := fun _ _ _ c y c' => ∃ k : Int, y = .int k ∧ c.2 + 1 < scanBound ∧ c' = (fun j => c.1 j || decide (j = k), if c.1 k = true then c.2 else c.2 + 1)
  add := by
    intro X pins σ H s E D a b y v Q I hD pt rv q
    obtain ⟨k, rfl, room, rfl⟩ := pt
    obtain ⟨tk, rfl⟩ := rv
    refine setR_add (setO_get I hD) room fun h' sb new => q _ ?_
    have ⟨o, _, _, _, ho, _⟩ := new
    exact I.write (e := D) (t' := s.toks + 1) (by rw [hD]; trivial) (.inl rfl) (fun b u hb hu => (sb.2 b hb).trans hu) ⟨o, ho⟩ (setO_new new)
/-- {elt for target in iter if ..}, elt an int -/
def tSI (w : World) (wi : TI) (g : TG) (tt : TT) (te : TE) (vs : List Nat) : TE := fun σ H Q => wi σ H fun J H1 => ∀ D, H1 D = none → ∃ W : Nat → Nat → Hp → Prop, (∃ m, W 0 m (upd H1 D (SetO w D (fun _ => false) 0))) ∧
  ∀ i m H, W i m H → (J.stop i H ∧ Q (.ref D) H) ∨ (J.go i H ∧ ∃ Nx : Hp → Prop, (∀ H', Nx H' → ∃ m', m' < m ∧ W (i + 1) m' H') ∧ ∀ x H', J.yld i H x H' → g x (wipe σ vs) H' fun σ2 H2 => wipe σ2 vs = wipe σ vs ∧ tt σ2 H2 fun b H3 =>
    if b = true then te σ2 H3 fun y H4 => ∃ c c' : (Int → Bool) × Nat, H4 D = some (SetO w D c.1 c.2) ∧ (∃ k : Int, y = .int k ∧ c.2 + 1 < scanBound ∧ c' = (fun j => c.1 j || decide (j = k), if c.1 k = true then c.2 else c.2 + 1)) ∧ Nx (upd H4 D (SetO w D c'.1 c'.2)) else Nx H3)
theorem pe_setI {X : Cx} {elt tg iter : Expr} {ifs : List Expr} {scope : Scope} {own : List (PySem.Str × Nat)} {pos : Pos} {wi : TI} {g : TG} {tt : TT} {te : TE} (calm : X.calm = true) (nd : X.N.Nodup) (walk : PI X tg iter wi) (bo : BlkOk X.N X.env.scope scope own)
    (aim : ∀ s H C cl fp, PG (X.blk s H scope (compEnvC scope cl C X.env) fp) tg g) (tst : ∀ s H C cl fp, PTs (X.blk s H scope (compEnvC scope cl C X.env) fp) ifs tt)
    (val : ∀ s H C cl fp, PE (X.blk s H scope (compEnvC scope cl C X.env) fp) elt te) (plain : ∀ x, foldedSetIterable iter X.env x = pure x := by intro _; rfl) :
    PE X (.SetComp elt [⟨tg, iter, ifs, 0⟩] scope pos) (tSI X.w wi g tt te (own.map (·.2))) := ⟨fun pins s σ H Q I h => (pe_setc famI calm nd walk bo aim tst val plain).run pins s σ H Q I h⟩
end SC
namespace CC
open PySem L2 TL
/-- the different ones, in the order in which they come -/
def firsts : List Nat → List Nat
  | l => l.foldl (fun acc x => if x ∈ acc then acc else acc ++ [x]) []
def dn (l : List Nat) : Nat := (firsts l).length
def colN (rows : List (List Nat)) (c : Nat) : List Nat := rows.map fun r => r.getD c 0
theorem firsts_snoc (l : List Nat) (x : Nat) : firsts (l ++ [x]) = if x ∈ firsts l then firsts l else firsts l ++ [x] := by
  unfold firsts
  rw [List.foldl_append]
  rfl
theorem firsts_mem : ∀ (n : Nat) (l : List Nat), l.length = n → ∀ y, y ∈ firsts l ↔ y ∈ l
  | 0, l, h, y => by
    rw [List.length_eq_zero_iff.mp h]
    simp [firsts]
  | n + 1, l, h, y => by
    have ne : l ≠ [] := fun e => by rw [e] at h; cases h
    obtain ⟨u, x, rfl⟩ : ∃ u x, l = u ++ [x] := ⟨_, _, (List.dropLast_concat_getLast ne).symm⟩
    have hu : u.length = n := by
      rw [List.length_append, List.length_singleton] at h
      omega
    have ih := firsts_mem n u hu
    rw [firsts_snoc, List.mem_append, List.mem_singleton]
    by_cases e : x ∈ firsts u
    · rw [if_pos e, ih y]
      constructor
      · exact .inl
      · rintro (z | rfl)
        · exact z
        · exact (ih _).mp e
    · rw [if_neg e, List.mem_append, List.mem_singleton, ih y]
theorem mem_firsts {l : List Nat} {y : Nat} : y ∈ firsts l ↔ y ∈ l := firsts_mem _ l rfl y
theorem dn_snoc (l : List Nat) (x : Nat) : dn (l ++ [x]) = if x ∈ l then dn l else dn l + 1 := by
  unfold dn
  rw [firsts_snoc]
  by_cases e : x ∈ l
  · rw [if_pos e, if_pos (mem_firsts.mpr e)]
  · rw [if_neg e, if_neg (fun z => e (mem_firsts.mp z)), List.length_append, List.length_singleton]
theorem dn_le (l : List Nat) : ∀ n, dn (l.take n) ≤ n
  | 0 => by simp [dn, firsts]
  | n + 1 => by
    cases h : l[n]? with
    | none =>
      rw [List.take_of_length_le (by have := List.getElem?_eq_none_iff.mp h; omega), ← List.take_of_length_le (i := n) (l := l) (by have := List.getElem?_eq_none_iff.mp h; omega)]
      exact Nat.le_succ_of_le (dn_le l n)
    | some x =>
      rw [List.take_succ, h]
      show dn (l.take n ++ [x]) ≤ _
      rw [dn_snoc]
      have := dn_le l n
      split <;> omega
/-- the members of a set of such numbers -/
def memI (l : List Nat) : Int → Bool := fun k => decide (∃ n ∈ l, (n : Int) = k)
theorem memI_at (l : List Nat) (x : Nat) : memI l (x : Int) = decide (x ∈ l) := by
  unfold memI
  rw [Bool.eq_iff_iff, decide_eq_true_eq, decide_eq_true_eq]
  constructor
  · rintro ⟨n, hn, e⟩
    have : n = x := by omega
    exact this ▸ hn
  · exact fun h => ⟨x, h, rfl⟩
theorem memI_snoc (l : List Nat) (x : Nat) : (fun j => memI l j || decide (j = (x : Int))) = memI (l ++ [x]) := by
  funext j
  unfold memI
  rw [Bool.eq_iff_iff, Bool.or_eq_true, decide_eq_true_eq, decide_eq_true_eq, decide_eq_true_eq]
  constructor
  · rintro (⟨n, hn, e⟩ | e)
    · exact ⟨n, List.mem_append_left _ hn, e⟩
    · exact ⟨x, List.mem_append_right _ (List.mem_singleton.mpr rfl), e.symm⟩
  · rintro ⟨n, hn, e⟩
    rcases List.mem_append.mp hn with z | z
    · exact .inl ⟨n, z, e⟩
    · rw [List.mem_singleton.mp z] at e
      exact .inr e.symm
theorem colN_take {rows : List (List Nat)} {c i : Nat} {r : List Nat} (h : rows[i]? = some r) : colN (rows.take (i + 1)) c = colN (rows.take i) c ++ [r.getD c 0] := by
  unfold colN
  rw [take1 h, List.map_append]
  rfl
/-- over a tuple -/
theorem si_tup {w : World} {K : PySem.W.Frag} {a : Addr} {xs : List V} {g : TG} {tt : TT} {te : TE} {vs : List Nat} {σ : L2.St} {H1 : Hp} {D : Addr} {Qd : Hp → Prop} (Pv : Nat → Hp → Prop) (h0 : Pv 0 (upd H1 D (SetO w D (fun _ => false) 0))) (hl : ∀ i H, i ≤ xs.length → Pv i H → SqT K H a xs)
    (hs : ∀ i x H, xs[i]? = some x → Pv i H → g x (wipe σ vs) H fun σ2 H2 => wipe σ2 vs = wipe σ vs ∧ tt σ2 H2 fun b H3 => if b = true then te σ2 H3 fun y H4 => ∃ c c' : (Int → Bool) × Nat, H4 D = some (SetO w D c.1 c.2) ∧ (∃ k : Int, y = .int k ∧ c.2 + 1 < scanBound ∧ c' = (fun j => c.1 j || decide (j = k), if c.1 k = true then c.2 else c.2 + 1)) ∧ Pv (i + 1) (upd H4 D (SetO w D c'.1 c'.2)) else Pv (i + 1) H3) (hd : ∀ H, Pv xs.length H → Qd H) :
    ∃ W : Nat → Nat → Hp → Prop, (∃ m, W 0 m (upd H1 D (SetO w D (fun _ => false) 0))) ∧ ∀ i m H, W i m H → ((Itt K a).stop i H ∧ Qd H) ∨ ((Itt K a).go i H ∧ ∃ Nx : Hp → Prop, (∀ H', Nx H' → ∃ m', m' < m ∧ W (i + 1) m' H') ∧ ∀ x H', (Itt K a).yld i H x H' → g x (wipe σ vs) H' fun σ2 H2 => wipe σ2 vs = wipe σ vs ∧ tt σ2 H2 fun b H3 =>
      if b = true then te σ2 H3 fun y H4 => ∃ c c' : (Int → Bool) × Nat, H4 D = some (SetO w D c.1 c.2) ∧ (∃ k : Int, y = .int k ∧ c.2 + 1 < scanBound ∧ c' = (fun j => c.1 j || decide (j = k), if c.1 k = true then c.2 else c.2 + 1)) ∧ Nx (upd H4 D (SetO w D c'.1 c'.2)) else Nx H3) := by
  refine ⟨fun i m H => m = xs.length - i ∧ i ≤ xs.length ∧ Pv i H, ⟨xs.length, by simp, Nat.zero_le _, h0⟩, ?_⟩
  rintro i m H ⟨rfl, hi, p⟩
  have q := hl i H hi p
  by_cases lt : i < xs.length
  · refine .inr ⟨⟨xs, xs[i], q, by simp [lt]⟩, Pv (i + 1), fun H' p' => ⟨xs.length - (i + 1), by omega, rfl, lt, p'⟩, fun x H' y => ?_⟩
    obtain ⟨e, y⟩ := y
    subst e
    exact hs i x _ (y xs q) p
  · have e : i = xs.length := by omega
    subst e
    exact .inl ⟨⟨xs, q, Nat.le_refl _⟩, hd H p⟩
/-- len of a set of ints -/
def rLenI (w : World) : List V → Hp → VK → Prop := fun xs H Q => ∃ (a : Addr) (S : Int → Bool) (n : Nat), xs = [.ref a] ∧ H a = some (SetO w a S n) ∧ n ≤ 1000 ∧ Q (.int (n : Int)) H
theorem call_lenI {X : Cx} : CallR X (.builtin "len") (rLenI X.w) := by
  intro pins s σ H xs us Q I r h
  obtain ⟨a, S, n, rfl, ha, hn, q⟩ := h
  rw [Vals.ref1 r]
  obtain ⟨o, es, ep, t, ho, hex, hd, _, _, _, hb, hf, e, _⟩ := setO_get I ha
  exact PySem.call_len_set ho hex hd hf (by rw [e]; omega) ⟨.int (n : Int), H, I.tok _, ⟨_, by rw [e]⟩, q⟩
end CC
namespace CC
open PySem L2 TL
abbrev sTW : Stmt := inClass (tp 27) 1
section
variable {P : Program} {w : World} {K : PySem.W.Frag} {mg : Str → Option Value} {base : Heap} {kA : Addr}
theorem scTW : FnScope ["self"] ["self"] (defScope sTW) := ⟨rfl, rfl, rfl, by decide +kernel, rfl, by decide +kernel, by decide +kernel⟩
theorem ok_tw {f C : Addr} {fd : FuncData} {k : Nat} (F : Fun K "width" "Table.width" sTW f fd) (TC : TxtT K mg C) : FnOk P w K mg base CX0 (k + 1) f fd ["self"] (getSp C "span") := by
  refine F.ok scTW (fun vs H Q E h => ?_) (fun cdv A outer s H vs Q E hr h => ?_)
  · obtain ⟨a, dx, fs, v, rfl, _⟩ := h
    rfl
  · obtain ⟨a, dx, fs, v, rfl, ea, l, q⟩ := h
    exact ⟨_, pss_one (ps_ret (pe_fld (pv 0) rfl)), _, rfl, a, C, dx, fs, v, rfl, ea, TC.cl, TC.nS, l, q⟩
end
end CC
namespace CC
open PySem L2 TL
abbrev sTR : Stmt := inClass (tp 27) 2
section
variable {P : Program} {w : World} {K : PySem.W.Frag} {mg : Str → Option Value} {base : Heap} {kA : Addr}
theorem scTRo : FnScope ["self"] ["self"] (defScope sTR) := ⟨rfl, rfl, rfl, by decide +kernel, rfl, by decide +kernel, by decide +kernel⟩
theorem ok_trows {f C : Addr} {fd : FuncData} {k : Nat} (F : Fun K "rows" "Table.rows" sTR f fd) (TC : TxtT K mg C) : FnOk P w K mg base CX0 (k + 1) f fd ["self"] (getSp C "lines") := by
  refine F.ok scTRo (fun vs H Q E h => ?_) (fun cdv A outer s H vs Q E hr h => ?_)
  · obtain ⟨a, dx, fs, v, rfl, _⟩ := h
    rfl
  · obtain ⟨a, dx, fs, v, rfl, ea, l, q⟩ := h
    exact ⟨_, pss_one (ps_ret (pe_fld (pv 0) rfl)), _, rfl, a, C, dx, fs, v, rfl, ea, TC.cl, TC.nL, l, q⟩
end
end CC
namespace CC
open PySem L2 TL LamX PyProof.Rows
abbrev sSaid : Stmt := tp 36
/-- which of three exceptions is which -/
structure Exc3 (K : PySem.W.Frag) (CN CU CM : Addr) : Prop where
  nn : PySem.W.exmOne K (.ref CN) (.ref CN) = some true
  un : PySem.W.exmOne K (.ref CU) (.ref CN) = some false
  uu : PySem.W.exmOne K (.ref CU) (.ref CU) = some true
  mn : PySem.W.exmOne K (.ref CM) (.ref CN) = some false
  mu : PySem.W.exmOne K (.ref CM) (.ref CU) = some false
  mm : PySem.W.exmOne K (.ref CM) (.ref CM) = some true
/-- what is told of what a lambda does -/
def eSaid (CN CU CM : Addr) (Q : VK) : XK := fun cls _ H' => (cls = .ref CN ∧ Q (.str "table") H') ∨ (cls = .ref CU ∧ Q (.str "widths") H') ∨ (cls = .ref CM ∧ Q (.str "much") H')
def qSaid (K : PySem.W.Frag) (C : Addr) (Q : VK) : VK := fun z H1 => ∃ (x : Addr) (w : Nat) (rows : List (List Nat)), z = .ref x ∧ TableAt K C H1 x w rows ∧ ∀ (z' : V) (H2 : Hp), Same H1 H2 → Dp K H2 z' (.list [.int (w : Int), .tuple (rows.map gd)]) → Q z' H2
def TSaid (K : PySem.W.Frag) (C CN CU CM : Addr) : (XK → Hp → VK → Prop) → Hp → VK → Prop := fun tl H Q => ∀ Q' : VK, (∀ z H1, qSaid K C Q z H1 → Q' z H1) → tl (eSaid CN CU CM Q) H Q'
abbrev nSa : List Str := ["_law_call", "_law_made"]
theorem scSaid : FnScope nSa ["_law_call"] (defScope sSaid) := ⟨rfl, rfl, rfl, by decide +kernel, rfl, by decide +kernel, by decide +kernel⟩
theorem said_gives {X : Cx} {q : Str} {g C CN CU CM kA : Addr} {cdg : Value} {j : Nat} (T : Glb X.K X.mg kA) (TC : TxtT X.K X.mg C) (ic : C8.InsC X.K C) (eN : ExcK X.K X.mg "NotTable" CN) (eU : ExcK X.K X.mg "UnlikeWidths" CU) (eM : ExcK X.K X.mg "TooMuch" CM) (e3 : Exc3 X.K CN CU CM)
    (pW : Prp X.prog X.w X.K X.mg X.base C "width" "span") (pR : Prp X.prog X.w X.K X.mg X.base C "rows" "lines") (hr : Room (j + 3) X.A) : GivesTo X nSa "_law_said" (defScope sSaid) g cdg (defBody sSaid) "_law_call" q (TSaid X.K C CN CU CM) := by
  intro f c' s H Q tl act hc h
  have n := scSaid.nd
  have hr2 := hr.deeper (envOfC "_law_said" (defScope sSaid) s.heap.objs.size g cdg)
  refine ⟨_, pss_cons (ps_try_many (X := (cxOf C8.CX0 X.prog X.w X.K X.mg X.base nSa "_law_said" (defScope sSaid) g cdg X.A X.stack s H C8.E0).nox)
      (tb := fun W D σ H => ∃ Ech : XK, (∀ cls d σ' H', Ech cls d H' → W cls d σ' H') ∧ σ[0]? = some (some (.ref f)) ∧ H c' = some (CodeO c' q) ∧ tl Ech H (fun z H1 => gName 1 z σ H1 D.nx))
      rfl rfl LamX.takes0 (fun W pn xe tk _ => ?_) (HdsOk.cons ⟨rfl, by decide, .inl eN.g⟩ (fun a oe cls d pn _ _ => (pss_one (ps_ret pe_str))) (HdsOk.cons ⟨rfl, by decide, .inl eU.g⟩ (fun a oe cls d pn _ _ => (pss_one (ps_ret pe_str))) (HdsOk.cons ⟨rfl, by decide, .inl eM.g⟩ (fun a oe cls d pn _ _ => (pss_one (ps_ret pe_str))) .nil))))
    (pss_one (ps_ret (pe_ifExp (pt_val (pe_callB (C8.call_isC ic) (by rfl) T.isi (by decide +kernel) (pa_cons (pv 1) (pa_cons (pe_glob (v := .ref C) rfl TC.mgC rfl) pa_nil)))) (pe_lst (pa_cons (pe_prop (pv 1) TC.cl pW.hp (pW.ok (j + 1) (by omega)) hr2 pW.b .nil pass0 rfl) (pa_cons (pe_prop (pv 1) TC.cl pR.hp (pR.ok (j + 1) (by omega)) hr2 pR.b .nil pass0 rfl) pa_nil))) pe_non))), ?_⟩
  · refine ⟨fun pins s' σ H' D I h' => ?_⟩
    obtain ⟨Ech, hW, h1, h2, h3⟩ := h'
    exact (pss_one (ps_set (i := 1) n rfl (.inl rfl) (act W pn xe Ech _ _ tk hW))).run pins s' σ H' D I ⟨h1, h2, h3⟩
  · refine ⟨eSaid CN CU CM Q, fun cls d σ' H' he => ?_, rfl, hc, ?_⟩
    · rcases he with ⟨rfl, he⟩ | ⟨rfl, he⟩ | ⟨rfl, he⟩
      · exact ⟨true, e3.nn, fun _ a ha => he, fun z => nomatch z⟩
      · exact ⟨false, e3.un, (fun z => nomatch z), fun _ => ⟨true, e3.uu, fun _ a ha => he, fun z => nomatch z⟩⟩
      · exact ⟨false, e3.mn, (fun z => nomatch z), fun _ => ⟨false, e3.mu, (fun z => nomatch z), fun _ => ⟨true, e3.mm, fun _ a ha => he, fun z => nomatch z⟩⟩⟩
    · refine h _ fun z H1 hz => ?_
      obtain ⟨x, w, rows, rfl, ta, hz⟩ := hz
      obtain ⟨dx, gx, ux, x1, x2, x3⟩ := id ta
      refine ⟨_, rfl, x, dx, _, rfl, x1, _, rfl, iteT ?_⟩
      refine ⟨_, rfl, x, dx, _, rfl, x1, x, dx, _, _, rfl, x1, fldT_span _ _, _, rfl, x, dx, _, rfl, x1, x, dx, _, _, rfl, x1, fldT_lines _ _, ?_⟩
      refine ⟨(by show 2 ≤ sizeLine; decide), fun l nl => ?_⟩
      have s1 : Same H1 (upd H1 l (.lst [.int (w : Int), .ref gx])) := same_new nl
      refine hz _ _ s1 ?_
      exact .lst (SqL.of upd_same) (.cons (.int _) (.cons (.tup (.inl (.inl (s1 _ _ x2))) (dps_same s1 _ _ x3)) .nil))
end CC
namespace CC
open PySem L2 LamX
section
variable {H H' : Hp} {K : PySem.W.Frag}
mutual
theorem dp_nt : ∀ (d : PyData) (v : V), Dp K H v d → Dp K (nt H) v d
  | .none, _, h => by cases h; exact .non
  | .bool b, _, h => by cases h; exact .bl b
  | .int i, _, h => by cases h; exact .int i
  | .str x, _, h => by cases h; exact .str x
  | .list ds, _, h => by
    cases h with
    | lst hs ha => exact .lst (sql_nt hs) (dps_nt ds _ ha)
  | .tuple ds, _, h => by
    cases h with
    | tup hs ha => exact .tup (sqt_nt hs) (dps_nt ds _ ha)
  | .dict _, _, h => by cases h
theorem dps_nt : ∀ (ds : List PyData) (vs : List V), DpAll K H vs ds → DpAll K (nt H) vs ds
  | [], _, h => by cases h; exact .nil
  | d :: ds, _, h => by
    cases h with
    | cons h1 h2 => exact .cons (dp_nt d _ h1) (dps_nt ds _ h2)
end
theorem dp_ext (e : ExtN H H') (d : PyData) (v : V) (h : Dp K H v d) : Dp K H' v d := dp_same ((ext_nt e).trans nt_le) d v (dp_nt d v h)
theorem dps_ext (e : ExtN H H') (ds : List PyData) (vs : List V) (h : DpAll K H vs ds) : DpAll K H' vs ds := dps_same ((ext_nt e).trans nt_le) ds vs (dps_nt ds vs h)
theorem ext_lst {b : Addr} {xs : List V} (e : ExtN H H') (h : H b = some (.lst xs)) : H' b = some (.lst xs) := e _ _ h (tb_no rfl)
theorem ext_tup {b : Addr} {xs : List V} (e : ExtN H H') (h : H b = some (.tup xs)) : H' b = some (.tup xs) := e _ _ h (tb_no rfl)
theorem ext_upd {b : Addr} {o : HO} (h : H b = none) : ExtN H (upd H b o) := ExtN.of (same_new h)
end
/-- a def of the top whose code object is known -/
structure DfC (K : PySem.W.Frag) (mg : Str → Option Value) (x : Str) (st : Stmt) (ps : List Str) where
  f : Addr
  fd : FuncData
  c : Addr
  F : GD.FunC K x x st f fd c
  b : Binds K fd ps []
  g : mg x = some (.ref f)
end CC
namespace CC
open PySem L2 TL LamX PyProof.Rows
/-- table + anything, table * anything, which may raise -/
structure AddT (P : Program) (w : World) (K : PySem.W.Frag) (mg : Str → Option Value) (base : Heap) (C CN CU CM : Addr) (l : Nat) where
  f : Addr
  sf : PySem.W.selfFirst K C = true
  fi : PySem.W.findIn K (.ref C) "__add__" = some (some (.ref f))
  fr : PySem.W.findIn K (.ref C) "__radd__" = some none
  fn : PySem.W.isFn K (.ref f) = true
  ok : ∀ k, l ≤ k → FnR P w K mg base (L2.CX P w) k f (spTAdd K C CN CU CM)
structure MulT (P : Program) (w : World) (K : PySem.W.Frag) (mg : Str → Option Value) (base : Heap) (C CN CU CM : Addr) (l : Nat) where
  f : Addr
  sf : PySem.W.selfFirst K C = true
  fi : PySem.W.findIn K (.ref C) "__mul__" = some (some (.ref f))
  fr : PySem.W.findIn K (.ref C) "__rmul__" = some none
  fn : PySem.W.isFn K (.ref f) = true
  ok : ∀ k, l ≤ k → FnR P w K mg base (L2.CX P w) k f (spTMul K C CN CU CM)
section
variable {K : PySem.W.Frag} {C CN CU CM x y : Addr} {H : Hp} {σ : L2.St} {i j w v : Nat} {rs ts : List (List Nat)} {Q : VK}
theorem lam_add (hx : σ[i]? = some (some (.ref x))) (hy : σ[j]? = some (some (.ref y))) (tx : TableAt K C H x w rs) (ty : TableAt K C H y v ts) (w1 : 1 ≤ w) (w6 : w ≤ 6) (ok : ∀ r ∈ rs, RowOk w r) (few : rs.length ≤ 400) (ok' : ∀ r ∈ ts, RowOk v r) (few' : ts.length ≤ 400)
    (q : ∀ (z : V) (H' : Hp), Same H H' → Dp K H' z (dSm w rs v ts) → Q z H') : TSaid K C CN CU CM (fun E H' Q' => OC.tAddX K C (spTAdd K C CN CU CM) (fun _ => E) (tVar i) (tVar j) σ H' Q') H Q := by
  intro Q' hq
  obtain ⟨dx, g, us, h1, h2, h3⟩ := id tx
  obtain ⟨dy, g', us', t1, t2, t3⟩ := id ty
  refine ⟨_, hx, _, hy, x, dx, _, rfl, h1, .inl ⟨y, dy, _, rfl, t1⟩, x, .ref y, w, rs, rfl, tx, w1, w6, ok, few, .inl ⟨y, v, ts, rfl, ty, ok', few', fun ne => ?_, fun e m => ?_, fun e m z H1 s1 nz tz => ?_⟩⟩
  · refine .inr (.inl ⟨rfl, q _ _ (Same.refl _) ?_⟩)
    unfold dSm
    rw [if_neg ne]
    exact .str _
  · refine .inr (.inr ⟨rfl, q _ _ (Same.refl _) ?_⟩)
    unfold dSm
    rw [if_pos e, if_neg (by omega)]
    exact .str _
  · refine hq _ _ ⟨z, w, rs ++ ts, rfl, tz, fun z' H2 s2 dz => q _ _ (s1.trans s2) ?_⟩
    unfold dSm
    rw [if_pos e, if_pos m]
    exact dz
theorem lam_mul (hx : σ[i]? = some (some (.ref x))) (hy : σ[j]? = some (some (.ref y))) (tx : TableAt K C H x w rs) (ty : TableAt K C H y v ts) (w1 : 1 ≤ w) (w6 : w ≤ 6) (ok : ∀ r ∈ rs, RowOk w r) (few : rs.length ≤ 400) (ok' : ∀ r ∈ ts, RowOk v r) (few' : ts.length ≤ 400)
    (q : ∀ (z : V) (H' : Hp), Same H H' → Dp K H' z (dPr w rs v ts) → Q z H') : TSaid K C CN CU CM (fun E H' Q' => OC.tAddX K C (spTMul K C CN CU CM) (fun _ => E) (tVar i) (tVar j) σ H' Q') H Q := by
  intro Q' hq
  obtain ⟨dx, g, us, h1, h2, h3⟩ := id tx
  obtain ⟨dy, g', us', t1, t2, t3⟩ := id ty
  refine ⟨_, hx, _, hy, x, dx, _, rfl, h1, .inl ⟨y, dy, _, rfl, t1⟩, x, .ref y, w, rs, rfl, tx, w1, w6, ok, few, .inl ⟨y, v, ts, rfl, ty, ok', few', fun ne => ?_, fun e m H' s' => ?_, fun e m b1 b2 z H1 s1 nz tz => ?_⟩⟩
  · refine .inr (.inl ⟨rfl, q _ _ (Same.refl _) ?_⟩)
    unfold dPr
    rw [if_neg ne]
    exact .str _
  · refine .inr (.inr ⟨rfl, q _ _ s' ?_⟩)
    unfold dPr
    rw [if_pos e, if_neg m]
    exact .str _
  · refine hq _ _ ⟨z, w, prodRs rs ts, rfl, tz, fun z' H2 s2 dz => q _ _ (s1.trans s2) ?_⟩
    unfold dPr
    rw [if_pos e, if_pos ⟨m, b1, b2⟩]
    exact dz
theorem lam_oddA {yv : V} (hx : σ[i]? = some (some (.ref x))) (hy : σ[j]? = some (some yv)) (tx : TableAt K C H x w rs) (od : OC.OddV K H yv) (w1 : 1 ≤ w) (w6 : w ≤ 6) (ok : ∀ r ∈ rs, RowOk w r) (few : rs.length ≤ 400) (q : Q (.str "table") H) : TSaid K C CN CU CM (fun E H' Q' => OC.tAddX K C (spTAdd K C CN CU CM) (fun _ => E) (tVar i) (tVar j) σ H' Q') H Q := by
  intro Q' hq
  obtain ⟨dx, g, us, h1, h2, h3⟩ := id tx
  exact ⟨_, hx, _, hy, x, dx, _, rfl, h1, .inr od, x, yv, w, rs, rfl, tx, w1, w6, ok, few, .inr ⟨od, .inl ⟨rfl, q⟩⟩⟩
theorem lam_oddM {yv : V} (hx : σ[i]? = some (some (.ref x))) (hy : σ[j]? = some (some yv)) (tx : TableAt K C H x w rs) (od : OC.OddV K H yv) (w1 : 1 ≤ w) (w6 : w ≤ 6) (ok : ∀ r ∈ rs, RowOk w r) (few : rs.length ≤ 400) (q : Q (.str "table") H) : TSaid K C CN CU CM (fun E H' Q' => OC.tAddX K C (spTMul K C CN CU CM) (fun _ => E) (tVar i) (tVar j) σ H' Q') H Q := by
  intro Q' hq
  obtain ⟨dx, g, us, h1, h2, h3⟩ := id tx
  exact ⟨_, hx, _, hy, x, dx, _, rfl, h1, .inr od, x, yv, w, rs, rfl, tx, w1, w6, ok, few, .inr ⟨od, .inl ⟨rfl, q⟩⟩⟩
end
end CC
namespace CC
open PySem L2 TL
def joinArg : Expr → Expr
  | .Call _ (a :: _) _ _ => a
  | e => e
def rJoin (K : PySem.W.Frag) : V → List V → Hp → VK → Prop := fun x xs H Q => ∃ a p, ∃ ys : List Str, x = .str a ∧ xs = [.ref p] ∧ (SqL K H p (ys.map V.str) ∨ SqT K H p (ys.map V.str)) ∧ (ys.map (·.length)).sum + ys.length * a.length ≤ 16777216 ∧ Q (.str (Txt.join a ys)) H
theorem pe_joinK {X : Cx} {o e : Expr} {to te : TE} {apos pos : Pos} (ho : PE X o to) (he : PE X e te) (hs : starEach [e] X.env = [(false, eval e X.env)] := by rfl) (hbase : attributeBase o "join" X.env (eval o X.env) = eval o X.env := by rfl) (hline : (apos.endLine == pos.line) = true := by rfl) :
    PE X (.Call (.Attribute o "join" apos) [e] [] pos) (tM1 (rJoin X.K) to te) := pe_join ho he hs hbase hline
def rAddSt : R2 := fun x y H Q => ∃ i j, x = .str i ∧ y = .str j ∧ i.length + j.length ≤ sizeLine ∧ Q (.str (i ++ j)) H
theorem op_addSt {X : Cx} : OpR X (binaryOp .Add) rAddSt := op_add_str
theorem sum_le {k : Nat} : ∀ l : List Nat, (∀ x ∈ l, x ≤ k) → l.sum ≤ k * l.length
  | [], _ => by simp
  | x :: l, h => by
    have h1 := h x List.mem_cons_self
    have h2 := sum_le l fun y hy => h y (List.mem_cons_of_mem _ hy)
    rw [List.sum_cons, List.length_cons, Nat.mul_succ]
    omega
section
variable {P : Program} {w : World} {K : PySem.W.Frag} {mg : Str → Option Value} {base : Heap} {kA : Addr}
def rStrI : List V → Hp → VK → Prop := fun xs H Q => ∃ n : Nat, xs = [.int (n : Int)] ∧ n ≤ 9999 ∧ Q (.str (num n)) H
theorem call_strI {X : Cx} : CallR X (.type "str") rStrI := by
  intro pins s σ H xs us Q I r h
  obtain ⟨n, rfl, hn, q⟩ := h
  exact call_str_int pins s σ H _ us Q I r ⟨_, rfl, small10k hn, q⟩
end
end CC
namespace CC
open PySem L2 TL
abbrev sTTx : Stmt := tp 35
def spTTx (K : PySem.W.Frag) : Sp := fun vs H Q _ => ∃ (g : Addr) (us : List V) (w : Nat) (rows : List (List Nat)), vs = [.ref g] ∧ SqL K H g us ∧ DpAll K H us (rows.map gd) ∧ w ≤ 6 ∧ (∀ r ∈ rows, RowOk w r) ∧ rows.length ≤ 400 ∧ ∀ H', Same H H' → Q (.str (textT rows)) H'
section
variable {P : Program} {w : World} {K : PySem.W.Frag} {mg : Str → Option Value} {base : Heap} {kA : Addr}
abbrev scTx5 : Scope := lcScT (joinArg (retVal ((defBody sTTx).getD 0 (.Pass ⟨0, 0, 0, 0⟩))))
abbrev nTTx : List Str := ["_law_lines_here", "_law_row", "_law_part"]
theorem scTTx : FnScope nTTx ["_law_lines_here"] (defScope sTTx) := ⟨rfl, rfl, rfl, by decide +kernel, rfl, by decide +kernel, by decide +kernel⟩
theorem ok_ttx {f : Addr} {fd : FuncData} {k : Nat} (F : Fun K "_law_text" "_law_text" sTTx f fd) (T : Glb K mg kA) : FnOk P w K mg base CX0 (k + 1) f fd ["_law_lines_here"] (spTTx K) := by
  refine F.ok scTTx (fun vs H Q E h => ?_) (fun cdv A outer s H vs Q E hr h => ?_)
  · obtain ⟨g, us, w, rows, rfl, _⟩ := h
    rfl
  · obtain ⟨g, us, w, rows, rfl, hg, dp, w6, ok, few, q⟩ := h
    have n := scTTx.nd
    refine ⟨_, (pss_one (ps_ret (pe_join pe_str (pe_lc (own := [("_law_row", 1)]) (g := gName 1) (tt := tYes) (te := tOp rAddSt (tM1 (rJoin K) (tC (.str " ")) (tLc (iTup K (tVar 1)) (gName 2) tYes (tCB rStrI (tCons (tVar 2) tNil)) [2])) (tC (.str "\n"))) rfl n (pi_list (pv 0)) (blkOk_by (N := nTTx) (sc := defScope sTTx) (by decide +kernel))
      (fun _ _ _ _ _ => (pg_name (i := 1) n rfl (.inl rfl))) (fun _ _ _ _ _ => pts_nil) (fun _ _ _ _ _ => (pe_op op_addSt (pe_joinK pe_str (pe_lc (own := [("_law_part", 2)]) (g := gName 2) (tt := tYes) rfl n (pi_tup (pv 1)) (blkOk_by (N := nTTx) (sc := relS scTx5 (defScope sTTx)) (by decide +kernel))
        (fun _ _ _ _ _ => (pg_name (i := 2) n rfl (.inl rfl))) (fun _ _ _ _ _ => pts_nil) (fun _ _ _ _ _ => (pe_callTy call_strI (by rfl) T.str (by decide +kernel) (pa_cons (pv 2) pa_nil))))) pe_str)))))), ?_⟩
    have ul : us.length = rows.length := by rw [dps_len dp, List.length_map]
    refine ⟨⟨_, rfl⟩, _, rfl, g, rfl, ⟨_, hg⟩, fun D nD => ?_⟩
    refine lc_list (xs := us) (fun i H1 => Same H (wo H1 D) ∧ H1 D = some (.lst (((rows.take i).map fun r => rowS r ++ "\n").map V.str))) ⟨?_, upd_same⟩ (fun i H1 _ z => same_l (z.1.trans (wo_le D)) hg) ?_ ?_
    · rw [wo_upd]
      exact fun b o e => by rw [wo_ne (ne_of_none e nD)]; exact e
    · rintro i v H1 hv ⟨e1, e2⟩
      obtain ⟨r, hr2, dr⟩ := dps_gat dp hv
      have il := (List.getElem?_eq_some_iff.mp hr2).1
      have rok := ok r (List.mem_of_getElem? hr2)
      have s1 : Same H H1 := e1.trans (wo_le D)
      obtain ⟨t, rfl, ht⟩ := gd_at (dp_same s1 _ _ dr)
      have rl := rowS_len rok w6
      have r1 := rok.1
      refine ⟨rfl, yes_if ⟨⟨_, rfl⟩, _, rfl, t, rfl, ⟨_, ht⟩, fun D2 nD2 => ?_⟩⟩
      refine lc_tup (xs := nms r) (fun j H2 => Same H1 (wo H2 D2) ∧ H2 D2 = some (.lst (((r.take j).map num).map V.str))) ⟨?_, upd_same⟩ (fun j H2 _ z => same_t (z.1.trans (wo_le D2)) ht) ?_ ?_
      · rw [wo_upd]
        exact fun b o e => by rw [wo_ne (ne_of_none e nD2)]; exact e
      · rintro j y H2 hy ⟨f1, f2⟩
        obtain ⟨c, hc, rfl⟩ := nms_get? hy
        have jl := (List.getElem?_eq_some_iff.mp hc).1
        refine ⟨rfl, yes_if ⟨_, rfl, c, rfl, rok.2 c (List.mem_of_getElem? hc), _, f2, small1000 (by rw [List.length_map, List.length_map, List.length_take]; omega), ?_, ?_⟩⟩
        · rw [wo_upd]
          exact f1
        · rw [upd_same, take1 hc, List.map_append, List.map_append]
          rfl
      rintro H2 ⟨f1, f2⟩
      rw [nms_len, List.take_length] at f2
      have s2 : Same H1 H2 := f1.trans (wo_le D2)
      have sm : ((r.map num).map (·.length)).sum ≤ 4 * ((r.map num).map (·.length)).length := sum_le _ fun x hx => by
        obtain ⟨y, hy, rfl⟩ := List.mem_map.mp hx
        obtain ⟨c, hc, rfl⟩ := List.mem_map.mp hy
        exact num_len (rok.2 c hc)
      rw [List.length_map, List.length_map] at sm
      refine ⟨_, D2, r.map num, rfl, rfl, .inl (SqL.of f2), ?_, ?_⟩
      · have e0 : ((" " : Str)).length = 1 := by decide +kernel
        show ((r.map num).map (·.length)).sum + (r.map num).length * ((" " : Str)).length ≤ 16777216
        rw [e0, List.length_map]
        omega
      refine ⟨_, _, rfl, rfl, ?_, ?_⟩
      · have e0 : (("\n" : Str)).length = 1 := by decide +kernel
        show (rowS r).length + (("\n" : Str)).length ≤ sizeLine
        rw [e0]
        exact Nat.le_trans (Nat.add_le_add_right rl 1) (by decide)
      refine ⟨_, s2 _ _ e2, small1000 (by rw [List.length_map, List.length_map, List.length_take]; omega), ?_, ?_⟩
      · rw [wo_upd]
        exact e1.trans (wo_same s2)
      · rw [upd_same, take1 hr2, List.map_append, List.map_append]
        rfl
    rintro H1 ⟨e1, e2⟩
    rw [ul, List.take_length] at e2
    have s1 : Same H H1 := e1.trans (wo_le D)
    have sm : ((rows.map fun r => rowS r ++ "\n").map (·.length)).sum ≤ 31 * ((rows.map fun r => rowS r ++ "\n").map (·.length)).length := sum_le _ fun x hx => by
      obtain ⟨y, hy, rfl⟩ := List.mem_map.mp hx
      obtain ⟨r, hr, rfl⟩ := List.mem_map.mp hy
      have rl := rowS_len (ok r hr) w6
      rw [len_tl] at rl
      rw [len_tl, tl_app, List.length_append]
      have e : (tl ("\n" : Str)).length = 1 := by decide +kernel
      omega
    rw [List.length_map, List.length_map] at sm
    refine ⟨_, D, rows.map (fun r => rowS r ++ "\n"), rfl, rfl, .inl (SqL.of e2), ?_, q H1 s1⟩
    have e0 : (Str.ofString "").length = 0 := by decide +kernel
    rw [e0, Nat.mul_zero]
    omega
end
end CC
/-! data that may be shown and compared: weight at most m, depth at most n -/
namespace GD
open PySem L2
structure SD (m n : Nat) (d : PyData) : Prop where
  lay : d.canLay0 = true
  shw : d.showable = true
  lvs : d.leavesShort 13 = true
  dep : d.depth ≤ n
  wt : d.weight ≤ m
theorem SD.up {m n m' n' : Nat} {d : PyData} (h : SD m n d) (h1 : m ≤ m') (h2 : n ≤ n') : SD m' n' d := ⟨h.lay, h.shw, h.lvs, Nat.le_trans h.dep h2, Nat.le_trans h.wt h1⟩
theorem SD.non : SD 0 0 .none := ⟨by simp [PyData.canLay0], by simp [PyData.showable], by simp [PyData.leavesShort], by simp [PyData.depth], by simp [PyData.weight]⟩
theorem SD.bl (b : Bool) : SD 0 0 (.bool b) := ⟨by simp [PyData.canLay0], by simp [PyData.showable], by simp [PyData.leavesShort], by simp [PyData.depth], by simp [PyData.weight]⟩
theorem SD.nat {n : Nat} (hn : n < 1000000) : SD 20 0 (.int (n : Int)) := by
  have hl : n.log2 < 20 := by
    by_cases z : n = 0
    · subst z; decide
    · exact (Nat.log2_lt z).mpr (by omega)
  have hl2 : (n : Int).natAbs.log2 < 1920 := by
    rw [Int.natAbs_natCast]
    omega
  refine ⟨by simp [PyData.canLay0], ?_, ?_, by simp [PyData.depth], ?_⟩
  · unfold PyData.showable
    exact decide_eq_true hl2
  · unfold PyData.leavesShort
    refine decide_eq_true ?_
    show (Str.ofString (toString (n : Int))).length ≤ 13
    have e := int_text_length_le10 (a := (n : Int)) (k := 6) (by decide) (by rw [Int.natAbs_natCast]; exact hn)
    rw [ofString_length]
    omega
  · unfold PyData.weight
    rw [Int.natAbs_natCast]
    split <;> omega
theorem SD.int {i : Int} (h0 : 0 ≤ i) (h1 : i < 1000000) : SD 20 0 (.int i) := by
  obtain ⟨n, rfl⟩ : ∃ n : Nat, i = (n : Int) := ⟨i.toNat, by omega⟩
  exact SD.nat (by omega)
theorem SD.str {x : Str} {m : Nat} (h : PyData.strOk x = true) (hl : x.length ≤ m) (hc : ∀ c ∈ x.cps.toList, c < 16 ^ 8) : SD m 0 (.str x) := by
  refine ⟨by simp [PyData.canLay0, h], by simp [PyData.showable], ?_, by simp [PyData.depth], ?_⟩
  · simpa only [PyData.leavesShort, List.all_eq_true, decide_eq_true_eq] using hc
  · simp only [PyData.weight]
    exact hl
theorem SD.all {m n : Nat} : ∀ {ds : List PyData}, (∀ d ∈ ds, SD m n d) → PyData.canLayAll0 ds = true ∧ PyData.showableAll ds = true ∧ PyData.leavesShortAll 13 ds = true ∧ PyData.depthAll ds ≤ n ∧ PyData.weightAll ds ≤ ds.length * (m + 1)
  | [], _ => by simp [PyData.canLayAll0, PyData.showableAll, PyData.leavesShortAll, PyData.depthAll, PyData.weightAll]
  | d :: ds, h => by
    have h1 := h d List.mem_cons_self
    obtain ⟨a1, a2, a3, a4, a5⟩ := SD.all (ds := ds) fun e he => h e (List.mem_cons_of_mem _ he)
    have := h1.dep
    have := h1.wt
    refine ⟨?_, ?_, ?_, ?_, ?_⟩
    · simp [PyData.canLayAll0, h1.lay, a1]
    · simp [PyData.showableAll, h1.shw, a2]
    · simp [PyData.leavesShortAll, h1.lvs, a3]
    · simp only [PyData.depthAll]; omega
    · simp only [PyData.weightAll, List.length_cons, Nat.add_mul]; omega
theorem SD.list {m n k : Nat} {ds : List PyData} (h : ∀ d ∈ ds, SD m n d) (hk : ds.length ≤ k) : SD (k * (m + 1)) (n + 1) (.list ds) := by
  obtain ⟨a1, a2, a3, a4, a5⟩ := SD.all h
  have : ds.length * (m + 1) ≤ k * (m + 1) := Nat.mul_le_mul_right _ hk
  refine ⟨by simp [PyData.canLay0, a1], by simp [PyData.showable, a2], by simp [PyData.leavesShort, a3], ?_, ?_⟩
  · simp only [PyData.depth]; omega
  · simp only [PyData.weight]; omega
theorem SD.tuple {m n k : Nat} {ds : List PyData} (h : ∀ d ∈ ds, SD m n d) (hk : ds.length ≤ k) : SD (k * (m + 1)) (n + 1) (.tuple ds) := by
  obtain ⟨a1, a2, a3, a4, a5⟩ := SD.all h
  have : ds.length * (m + 1) ≤ k * (m + 1) := Nat.mul_le_mul_right _ hk
  refine ⟨by simp [PyData.canLay0, a1], by simp [PyData.showable, a2], by simp [PyData.leavesShort, a3], ?_, ?_⟩
  · simp only [PyData.depth]; omega
  · simp only [PyData.weight]; omega
theorem SD.shaped {m n : Nat} {d : PyData} (h : SD m n d) (hn : n ≤ 64) : SeqAt.shaped d = true := by
  show (d.canLay0 && decide (d.depth ≤ 64)) = true
  rw [h.lay, Bool.true_and]
  exact decide_eq_true (Nat.le_trans h.dep hn)
theorem SD.fits {m n : Nat} {d : PyData} (h : SD m n d) (hm : m ≤ 2 ^ 20) : d.shown.length ≤ sizeLine := PyData.shown_fits (B := 13) (by decide) (by decide) h.lvs (Nat.le_trans h.wt hm)
theorem SD.nodict {m n : Nat} {d : PyData} (h : SD m n d) : d.hasDict = false := PyData.hasDict_of_canLay d h.lay
end GD
namespace GD
open PySem L2 CC
/-- a def that keeps a promise where nothing is being shown -/
structure CalG (P : Program) (w : World) (K : PySem.W.Frag) (mg : Str → Option Value) (base : Heap) (x : Str) (ps : List Str) (sp : Sp) (l : Nat) where
  f : Addr
  fd : FuncData
  ok : ∀ k, l ≤ k → FnG P w K mg base CX0 k f fd ps sp
  kp : PySem.W.keepIn K (.ref f) = true
  b : Binds K fd ps []
  g : mg x = some (.ref f)
def calG {P : Program} {w : World} {K : PySem.W.Frag} {mg : Str → Option Value} {base : Heap} {x : Str} {st : Stmt} {ps : List Str} {sp : Sp} {l : Nat} (d : Df K mg x st ps) (h : ∀ k, FnG P w K mg base CX0 (k + l) d.f d.fd ps sp) : CalG P w K mg base x ps sp l :=
  ⟨d.f, d.fd, fun k hk => (Nat.sub_add_cancel hk) ▸ h (k - l), d.F.kp, d.b, d.g⟩
/-- two values that are the same data -/
def spEqD (K : PySem.W.Frag) : Sp := fun vs H Q _ => ∃ (v u : V) (d : PyData), vs = [v, u] ∧ Dp K H v d ∧ Dp K H u d ∧ SD 1000000 64 d ∧ Q (.bl true) H
theorem hu66 {k : Nat} {A : Around} (hr : Room k A) : A.units + 66 < cLine := by
  have := hr.un
  omega
end GD
namespace CC
open PySem L2 TL
abbrev sIsEq : Stmt := tp 33
section
variable {P : Program} {w : World} {K : PySem.W.Frag} {mg : Str → Option Value} {base : Heap} {kA : Addr}
theorem scIsEq : FnScope ["_law_actual", "_law_expected"] ["_law_actual", "_law_expected"] (defScope sIsEq) := ⟨rfl, rfl, rfl, by decide +kernel, rfl, by decide +kernel, by decide +kernel⟩
theorem ok_iseq {f : Addr} {fd : FuncData} {k : Nat} (F : Fun K "_law_is_equal" "_law_is_equal" sIsEq f fd) (T : Glb K mg kA) : FnOk P w K mg base CX0 (k + 1) f fd ["_law_actual", "_law_expected"] spIsEq := by
  refine F.ok scIsEq (fun vs H Q E h => ?_) (fun cdv A outer s H vs Q E hr h => ?_)
  · obtain ⟨b, c, rfl, _⟩ := h
    rfl
  · obtain ⟨b, c, rfl, q⟩ := h
    refine ⟨_, pss_one (ps_ret (pe_cmpR op_eq (pe_callB call_repr_bl (by rfl) T.rep (by decide +kernel) (pa_cons (pv 0) pa_nil)) (pe_callB call_repr_bl (by rfl) T.rep (by decide +kernel) (pa_cons (pv 1) pa_nil)) (nomark _))), ?_⟩
    refine ⟨_, rfl, b, rfl, _, rfl, c, rfl, rfl, ?_⟩
    have e : decide (V.str (if b then "True" else "False") = V.str (if c then "True" else "False")) = (b == c) := by
      cases b <;> cases c <;> decide +kernel
    show Q (.bl (decide (V.str (if b then "True" else "False") = V.str (if c then "True" else "False")))) H
    rw [e]
    exact q
end
end CC
namespace GD
open PySem L2 CC
section
variable {P : Program} {w : World} {K : PySem.W.Frag} {mg : Str → Option Value} {base : Heap} {kA : Addr}
theorem ok_iseqD {f : Addr} {fd : FuncData} {k : Nat} (F : Fun K "_law_is_equal" "_law_is_equal" sIsEq f fd) (T : Glb K mg kA) : FnG P w K mg base CX0 (k + 1) f fd ["_law_actual", "_law_expected"] (spEqD K) := by
  refine fun_okG F scIsEq (fun vs H Q E h => ?_) (fun cdv A outer s H vs Q E calm hr h => ?_)
  · obtain ⟨v, u, d, rfl, _⟩ := h
    rfl
  · obtain ⟨v, u, d, rfl, dv, du, sd, q⟩ := h
    have hu := hu66 hr
    refine ⟨_, pss_one (ps_ret (pe_cmpR op_eq (pe_callB (call_reprD calm hu) (by rfl) T.rep (by decide +kernel) (pa_cons (pv 0) pa_nil)) (pe_callB (call_reprD calm hu) (by rfl) T.rep (by decide +kernel) (pa_cons (pv 1) pa_nil)) (nomark _))), ?_⟩
    have fit := sd.fits (by decide)
    refine ⟨_, rfl, v, d, rfl, dv, sd.shw, sd.nodict, sd.dep, fit, _, rfl, u, d, rfl, du, sd.shw, sd.nodict, sd.dep, fit, rfl, ?_⟩
    show Q (.bl (decide (V.str d.shown = V.str d.shown))) H
    rw [decide_eq_true rfl]
    exact q
end
end GD
namespace CC
open PySem L2 TL LamX PyProof.Rows
abbrev sRightT : Stmt := tp 39
abbrev qRight : Str := (envOfC "_law_is_right" (defScope sRightT) 0 0 .none).qual ++ "<lambda>"
/-- both ways to put two tables together -/
def spRight (K : PySem.W.Frag) (Ts : List (Addr × Str)) : Sp := fun vs H Q _ => ∃ (w v : Nat) (g g' : Addr) (us us' : List V) (rs ts : List (List Nat)), vs = [.int (w : Int), .ref g, .int (v : Int), .ref g'] ∧ H g = some (.lst us) ∧ DpAll K H us (rs.map gd) ∧ H g' = some (.lst us') ∧ DpAll K H us' (ts.map gd) ∧ 1 ≤ w ∧ w ≤ 6 ∧ (∀ r ∈ rs, RowOk w r) ∧ rs.length ≤ 400 ∧
  1 ≤ v ∧ v ≤ 6 ∧ (∀ r ∈ ts, RowOk v r) ∧ ts.length ≤ 400 ∧ rs.length * ts.length ≤ 90000 ∧ Tabs Ts H ∧ ∀ H', ExtN H H' → Tabs Ts H' → Q (.bl true) H'
theorem tabs_lst {Ts : List (Addr × Str)} {H : Hp} {l : Addr} {xs ys : List V} (t : Tabs Ts H) (h : H l = some (.lst xs)) : Tabs Ts (upd H l (.lst ys)) := fun p hp => by
  obtain ⟨ps, h1, h2, h3⟩ := t p hp
  refine ⟨ps, by rw [upd_ne (fun z => by rw [z, h] at h1; cases h1)]; exact h1, h2, fun pos cv hc => ?_⟩
  obtain ⟨c, e1, e2⟩ := h3 pos cv hc
  exact ⟨c, e1, by rw [upd_ne (fun z => by rw [z, h] at e2; unfold CodeO at e2; cases e2)]; exact e2⟩
/-- a list of one thing grows: what is no such list stays -/
theorem dp_app2 {K : PySem.W.Frag} {H : Hp} {l : Addr} {z x : V} {ys : List V} {w : Nat} {rows : List (List Nat)} (h : H l = some (.lst [x])) (d : Dp K H z (.list [.int (w : Int), .tuple (rows.map gd)])) : Dp K (upd H l (.lst ys)) z (.list [.int (w : Int), .tuple (rows.map gd)]) := by
  cases d with
  | lst hs ha =>
    rename_i p us
    have len : us.length = 2 := dps_len ha
    refine .lst (xs := us) ?_ ?_
    · rcases hs with (hs | ⟨o, hs⟩) | hs
      · refine .inl (.inl ?_)
        rw [upd_ne fun e => ?_]
        · exact hs
        rw [e, h] at hs
        cases hs
        simp at len
      · refine .inl (.inr ⟨o, ?_⟩)
        rw [upd_ne fun e => ?_]
        · exact hs
        rw [e, h] at hs
        cases hs
      · exact .inr hs
    · cases ha with
      | cons h1 h2 =>
        cases h1
        cases h2 with
        | cons h3 h4 =>
          cases h4
          cases h3 with
          | tup ht hd => exact .cons (.int _) (.cons (.tup (sqt_T (upd_T h) ht) (gds_T (upd_T h) hd)) .nil)
theorem dp_appP {K : PySem.W.Frag} {H : Hp} {l : Addr} {z x : V} {ys : List V} {w v : Nat} {rs ts : List (List Nat)} (h : H l = some (.lst [x])) (d : Dp K H z (dPr w rs v ts)) : Dp K (upd H l (.lst ys)) z (dPr w rs v ts) := by
  unfold dPr at d ⊢
  by_cases e : w = v
  · rw [if_pos e] at d ⊢
    by_cases e2 : rs.length * ts.length ≤ 400 ∧ below rs 100 = true ∧ below ts 100 = true
    · rw [if_pos e2] at d ⊢
      exact dp_app2 h d
    · rw [if_neg e2] at d ⊢
      cases d
      exact .str _
  · rw [if_neg e] at d ⊢
    cases d
    exact .str _
theorem sd_rows {w : Nat} {rows : List (List Nat)} (w6 : w ≤ 6) (ok : ∀ r ∈ rows, RowOk w r) (few : rows.length ≤ 400) : GD.SD 50800 2 (.tuple (rows.map gd)) := by
  refine GD.SD.tuple (m := 126) (n := 1) (k := 400) (fun d hd => ?_) (by rw [List.length_map]; exact few)
  obtain ⟨r, hr, rfl⟩ := List.mem_map.mp hd
  refine GD.SD.tuple (m := 20) (n := 0) (k := 6) (fun e he => ?_) (by rw [List.length_map, (ok r hr).1]; exact w6)
  obtain ⟨y, hy, rfl⟩ := List.mem_map.mp he
  have := (ok r hr).2 y hy
  exact GD.SD.nat (by omega)
theorem sd_got {w : Nat} {rows : List (List Nat)} (w6 : w ≤ 6) (ok : ∀ r ∈ rows, RowOk w r) (few : rows.length ≤ 400) : GD.SD 110000 3 (.list [.int (w : Int), .tuple (rows.map gd)]) := by
  refine (GD.SD.list (m := 50800) (n := 2) (k := 2) (fun d hd => ?_) (by show 2 ≤ 2; decide)).up (by decide) (by decide)
  rcases List.mem_cons.mp hd with rfl | hd
  · exact (GD.SD.nat (by omega)).up (by decide) (by decide)
  rcases List.mem_cons.mp hd with rfl | hd
  · exact sd_rows w6 ok few
  · cases hd
theorem sd_much : GD.SD 110000 3 (.str "much") := (GD.SD.str (m := 100) (by decide +kernel) (by decide +kernel) (by decide +kernel)).up (by decide) (by decide)
theorem sd_wid : GD.SD 110000 3 (.str "widths") := (GD.SD.str (m := 100) (by decide +kernel) (by decide +kernel) (by decide +kernel)).up (by decide) (by decide)
theorem sd_sm {w v : Nat} {rs ts : List (List Nat)} (w6 : w ≤ 6) (ok : ∀ r ∈ rs, RowOk w r) (ok' : ∀ r ∈ ts, RowOk v r) : GD.SD 110000 3 (dSm w rs v ts) := by
  unfold dSm
  by_cases e : w = v
  · rw [if_pos e]
    subst e
    by_cases e2 : rs.length + ts.length ≤ 400
    · rw [if_pos e2]
      exact sd_got w6 (fun r hr => (List.mem_append.mp hr).elim (ok r) (ok' r)) (by rw [List.length_append]; exact e2)
    · rw [if_neg e2]
      exact sd_much
  · rw [if_neg e]
    exact sd_wid
theorem sd_pr {w v : Nat} {rs ts : List (List Nat)} (w6 : w ≤ 6) (ok : ∀ r ∈ rs, RowOk w r) (ok' : ∀ r ∈ ts, RowOk v r) : GD.SD 110000 3 (dPr w rs v ts) := by
  unfold dPr
  by_cases e : w = v
  · rw [if_pos e]
    subst e
    by_cases e2 : rs.length * ts.length ≤ 400 ∧ below rs 100 = true ∧ below ts 100 = true
    · rw [if_pos e2]
      exact sd_got w6 (prodRs_ok ok ok' e2.2.1 e2.2.2) (by rw [prodRs_len]; exact e2.1)
    · rw [if_neg e2]
      exact sd_much
  · rw [if_neg e]
    exact sd_wid
section
variable {P : Program} {w : World} {K : PySem.W.Frag} {mg : Str → Option Value} {base : Heap} {kA : Addr}
abbrev nRt : List Str := ["_law_width", "_law_lines_here", "_law_wide", "_law_others", "_law_one", "_law_other", "_law_told", "_law_due"]
theorem scRightT : FnScope nRt ["_law_width", "_law_lines_here", "_law_wide", "_law_others"] (defScope sRightT) := ⟨rfl, rfl, rfl, by decide +kernel, rfl, by decide +kernel, by decide +kernel⟩
theorem ok_right {f c Pt C CN CU CM : Addr} {fd : FuncData} {k : Nat} {Ts : List (Addr × Str)} (F : GD.FunC K "_law_is_right" "_law_is_right" sRightT f fd c) (tb : TabB base mg c Pt) (hmT : (Pt, qRight) ∈ Ts) (hu : ∀ p ∈ Ts, p.1 = Pt → p.2 = qRight) (T : Glb K mg kA) (TC : TxtT K mg C) (ic : C8.InsC K C) (no : NoIns K C) (eN : ExcK K mg "NotTable" CN) (eU : ExcK K mg "UnlikeWidths" CU) (eM : ExcK K mg "TooMuch" CM) (e3 : Exc3 K CN CU CM)
    (rd : ReadT P w K mg base C 5) (pW : Prp P w K mg base C "width" "span") (pR : Prp P w K mg base C "rows" "lines") (ad : AddT P w K mg base C CN CU CM 5) (mu : MulT P w K mg base C CN CU CM 5) (sd : Df K mg "_law_said" sSaid ["_law_call"]) (cX : Cal P w K mg base "_law_text" ["_law_lines_here"] (spTTx K) 1)
    (cS : Cal P w K mg base "_law_sum" ["_law_width", "_law_lines_here", "_law_others", "_law_wide"] (spTwo K dSm) 1) (cP : Cal P w K mg base "_law_pairs" ["_law_width", "_law_lines_here", "_law_others", "_law_wide"] (spTwo K dPr) 1) (cE : GD.CalG P w K mg base "_law_is_equal" ["_law_actual", "_law_expected"] (GD.spEqD K) 1) : GD.FnG P w K mg base CX0 (k + 8) f fd ["_law_width", "_law_lines_here", "_law_wide", "_law_others"] (spRight K Ts) := by
  have GR := rd.ok (k + 7) (by omega)
  have GX := cX.ok (k + 7) (by omega)
  have GS := cS.ok (k + 7) (by omega)
  have GP := cP.ok (k + 7) (by omega)
  have GE := cE.ok (k + 7) (by omega)
  have GA := ad.ok (k + 5) (by omega)
  have GM := mu.ok (k + 5) (by omega)
  obtain ⟨sg, sfd, sF, sb, smg⟩ := sd
  have skp := sF.kp
  obtain ⟨oc, od, kV, doc, pm, an, scd, ct, osl, rfl, slk, shcd⟩ := sF.ex
  refine GD.fun_okGC F scRightT (fun vs H Q E h => ?_) (fun A outer s H vs Q E calm hr h => ?_)
  · obtain ⟨w, v, g, g', us, us', rs, ts, rfl, _⟩ := h
    rfl
  · obtain ⟨w, v, g, g', us, us', rs, ts, rfl, hg, dp, hg', dp', w1, w6, ok, few, v1, v6, ok', few', fp, tabs, q⟩ := h
    have n := scRightT.nd
    refine ⟨_, (pss_cons (ps_asg (pe_tup (pa_cons (ClX.pe_cmeth (pe_glob (v := .ref C) rfl TC.mgC rfl) rd.rD rd.cD GR hr pass0 (pa_cons (pv 0) (pa_cons (pe_call GX hr rfl cX.g cX.kp cX.b .nil pass0 (pa_cons (pv 1) pa_nil)) pa_nil))) (pa_cons (ClX.pe_cmeth (pe_glob (v := .ref C) rfl TC.mgC rfl) rd.rD rd.cD GR hr pass0 (pa_cons (pv 2) (pa_cons (pe_call GX hr rfl cX.g cX.kp cX.b .nil pass0 (pa_cons (pv 3) pa_nil)) pa_nil))) pa_nil))) (pg_tup rfl (pgs_cons (pg_name (i := 4) n rfl (.inr rfl)) (pgs_cons (pg_name (i := 5) n rfl (.inr rfl)) pgs_nil))))
      (pss_cons (ps_set (i := 6) n rfl (.inl rfl) (pe_lst (pa_cons (show PE _ _ (tLam Ts (TSaid K C CN CU CM) (fun E => OC.tAddX K C (spTAdd K C CN CU CM) (fun _ => E) (tVar 4) (tVar 5))) from pe_lamcall (k := k + 5) rfl smg skp slk shcd sb scSaid rfl (.inl rfl) (said_gives (j := k + 4) T TC ic eN eU eM e3 pW pR hr) tb rfl hmT hu hr (lamS_by (sc := defScope sRightT) (by decide +kernel)) rfl (fun _ _ _ _ _ => rfl) (fun A outer s H E f c' hr => OC.pe_addX ad.sf ad.fi ad.fr ad.fn no.sub GA hr (fun σ => passAt takes_lam σ) (pv 4) (pv 5))) pa_nil)))
      (pss_cons (ps_expr (pe_bm PySem.F.plainAttrs_list PySem.F.slot_list_append PySem.F.type_list_append mt_append (pv 6) (pa_cons (show PE _ _ (tLam Ts (TSaid K C CN CU CM) (fun E => OC.tAddX K C (spTMul K C CN CU CM) (fun _ => E) (tVar 4) (tVar 5))) from pe_lamcall (k := k + 5) rfl smg skp slk shcd sb scSaid rfl (.inl rfl) (said_gives (j := k + 4) T TC ic eN eU eM e3 pW pR hr) tb rfl hmT hu hr (lamS_by (sc := defScope sRightT) (by decide +kernel)) rfl (fun _ _ _ _ _ => rfl) (fun A outer s H E f c' hr => OC.pe_mulX mu.sf mu.fi mu.fr mu.fn no.sub GM hr (fun σ => passAt takes_lam σ) (pv 4) (pv 5))) pa_nil)))
      (pss_cons (ps_set (i := 7) n rfl (.inl rfl) (pe_lst (pa_cons (pe_call GS hr rfl cS.g cS.kp cS.b .nil pass0 (pa_cons (pv 0) (pa_cons (pv 1) (pa_cons (pv 3) (pa_cons (pv 2) pa_nil))))) (pa_cons (pe_call GP hr rfl cP.g cP.kp cP.b .nil pass0 (pa_cons (pv 0) (pa_cons (pv 1) (pa_cons (pv 3) (pa_cons (pv 2) pa_nil))))) pa_nil))))
      (pss_one (ps_ret (GD.pe_callG GE calm hr rfl cE.g cE.kp cE.b pass0 (pa_cons (pe_op op_cat (pv 6) (pe_lst (pa_cons (pe_prop (pv 4) TC.cl pR.hp (pR.ok (k + 6) (by omega)) hr pR.b .nil pass0 rfl) (pa_cons (pe_prop (pv 5) TC.cl pR.hp (pR.ok (k + 6) (by omega)) hr pR.b .nil pass0 rfl) pa_nil)))) (pa_cons (pe_op op_cat (pv 7) (pe_lst (pa_cons (pe_callTy call_tuple_of (by rfl) T.tup (by decide +kernel) (pa_cons (pv 1) pa_nil)) (pa_cons (pe_callTy call_tuple_of (by rfl) T.tup (by decide +kernel) (pa_cons (pv 3) pa_nil)) pa_nil)))) pa_nil))))))))), ?_⟩
    refine ⟨rfl, _, rfl, _, rfl, g, us, w, rs, rfl, SqL.of hg, dp, w6, ok, few, fun Ha sa => ?_⟩
    refine ⟨w, rs, rfl, w1, w6, ok, few, fun x H1 s1 nx tx => ?_⟩
    have s01 := sa.trans s1
    refine ⟨rfl, _, rfl, _, rfl, g', us', v, ts, rfl, SqL.of (s01 _ _ hg'), dps_same s01 _ _ dp', v6, ok', few', fun Hb sb => ?_⟩
    refine ⟨v, ts, rfl, v1, v6, ok', few', fun y H2 s2 ny ty => ?_⟩
    have s12 := sb.trans s2
    refine ⟨(by show 2 ≤ sizeLine; decide), fun pt npt => ?_⟩
    have s23 : Same H2 (upd H2 pt (.tup [.ref x, .ref y])) := same_new npt
    have hpt : (upd H2 pt (.tup [.ref x, .ref y])) pt = some (.tup [.ref x, .ref y]) := upd_same
    generalize upd H2 pt (.tup [.ref x, .ref y]) = H3 at s23 hpt
    refine ⟨pt, _, rfl, .inl (.inl hpt), rfl, _, _, rfl, _, _, rfl, rfl, ?_⟩
    have s03 := s01.trans (s12.trans s23)
    have x03 : ExtN H H3 := ExtN.of s03
    have tb3 : Tabs Ts H3 := tabs.ext s03
    have tx3 := tx.same (s12.trans s23)
    have ty3 := ty.same s23
    clear s01 s12 s23 s03 hpt tx ty nx ny
    refine ⟨tb3, fun H4 x34 tb4 => ?_⟩
    have tx4 := tx3.ext x34
    have ty4 := ty3.ext x34
    refine lam_add rfl rfl tx4 ty4 w1 w6 ok few ok' few' fun z1 H5 s45 d1 => ?_
    have x35 := x34.trans (ExtN.of s45)
    have tb5 := tb4.ext s45
    have tx5 := tx4.same s45
    have ty5 := ty4.same s45
    refine ⟨(by show 1 ≤ sizeLine; decide), fun l nl => ?_⟩
    have s56 : Same H5 (upd H5 l (.lst [z1])) := same_new nl
    have hl6 : (upd H5 l (.lst [z1])) l = some (.lst [z1]) := upd_same
    generalize upd H5 l (.lst [z1]) = H6 at s56 hl6
    have tb6 := tb5.ext s56
    refine ⟨_, rfl, .inl ⟨rfl, _, SqL.of hl6⟩, tb6, fun H7 x67 tb7 => ?_⟩
    have x57 := (ExtN.of s56).trans x67
    refine lam_mul rfl rfl (tx5.ext x57) (ty5.ext x57) w1 w6 ok few ok' few' fun z2 H8 s78 d2 => ?_
    have x58 := x57.trans (ExtN.of s78)
    have hl8 := s78 _ _ (ext_lst x67 hl6)
    have tb8 := tb7.ext s78
    refine ⟨l, [z1], z2, rfl, rfl, hl8, (by show 1 < sizeLine; decide), ?_⟩
    have hl9 : (upd H8 l (.lst ([z1] ++ [z2]))) l = some (.lst [z1, z2]) := upd_same
    have d29 := dp_appP (ys := [z1] ++ [z2]) hl8 d2
    have tb9 : Tabs Ts (upd H8 l (.lst ([z1] ++ [z2]))) := tabs_lst tb8 hl8
    have x59 : ExtN H5 (upd H8 l (.lst ([z1] ++ [z2]))) := fun b o e no => by
      rw [upd_ne (ne_of_none e nl)]
      exact x58 b o e no
    generalize upd H8 l (.lst ([z1] ++ [z2])) = H9 at hl9 d29 tb9 x59
    have d19 := dp_ext x59 _ _ d1
    have tx9 := tx5.ext x59
    have ty9 := ty5.ext x59
    have x09 := x03.trans (x35.trans x59)
    clear x35 x57 x58 x59 x67 x34 x03 tx5 ty5 tx4 ty4 tx3 ty3 tb3 tb4 tb5 tb6 tb7 tb8 hl8 hl6 d1 d2 s45 s56 s78
    have hg9 := ext_lst x09 hg
    have hg9' := ext_lst x09 hg'
    have dp9 := dps_ext x09 _ _ dp
    have dp9' := dps_ext x09 _ _ dp'
    refine ⟨_, rfl, _, rfl, _, rfl, _, rfl, w, v, g, g', us, us', rs, ts, rfl, hg9, dp9, hg9', dp9', w1, w6, ok, few, ok', few', fp, fun z3 H10 s10 d3 => ?_⟩
    refine ⟨_, rfl, _, rfl, _, rfl, _, rfl, w, v, g, g', us, us', rs, ts, rfl, s10 _ _ hg9, dps_same s10 _ _ dp9, s10 _ _ hg9', dps_same s10 _ _ dp9', w1, w6, ok, few, ok', few', fp, fun z4 H11 s11 d4 => ?_⟩
    refine ⟨(by show 2 ≤ sizeLine; decide), fun l2 nl2 => ?_⟩
    have s12 : Same H11 (upd H11 l2 (.lst [z3, z4])) := same_new nl2
    have hl2 : (upd H11 l2 (.lst [z3, z4])) l2 = some (.lst [z3, z4]) := upd_same
    generalize upd H11 l2 (.lst [z3, z4]) = H12 at s12 hl2
    have s912 := s10.trans (s11.trans s12)
    have tx12 := tx9.same s912
    have ty12 := ty9.same s912
    obtain ⟨dx, gx, ux, a1, a2, a3⟩ := id tx12
    obtain ⟨dy, gy, uy, b1, b2, b3⟩ := id ty12
    refine ⟨_, rfl, _, rfl, x, dx, _, rfl, a1, x, dx, _, _, rfl, a1, fldT_lines _ _, _, rfl, y, dy, _, rfl, b1, y, dy, _, _, rfl, b1, fldT_lines _ _, ?_⟩
    refine ⟨(by show 2 ≤ sizeLine; decide), fun m1 nm1 => ?_⟩
    have s13 : Same H12 (upd H12 m1 (.lst [.ref gx, .ref gy])) := same_new nm1
    have hm1 : (upd H12 m1 (.lst [.ref gx, .ref gy])) m1 = some (.lst [.ref gx, .ref gy]) := upd_same
    generalize upd H12 m1 (.lst [.ref gx, .ref gy]) = H13 at s13 hm1
    refine ⟨l, m1, _, _, rfl, rfl, s13 _ _ (s912 _ _ hl9), hm1, (by show 4 ≤ sizeLine; decide), fun p1 np1 => ?_⟩
    have s14 : Same H13 (upd H13 p1 (.lst ([z1, z2] ++ [.ref gx, .ref gy]))) := same_new np1
    have hp1 : (upd H13 p1 (.lst ([z1, z2] ++ [.ref gx, .ref gy]))) p1 = some (.lst [z1, z2, .ref gx, .ref gy]) := upd_same
    generalize upd H13 p1 (.lst ([z1, z2] ++ [.ref gx, .ref gy])) = H14 at s14 hp1
    have s1214 := s13.trans s14
    have s914 := s912.trans s1214
    have ul : us.length = rs.length := by rw [dps_len dp, List.length_map]
    have ul' : us'.length = ts.length := by rw [dps_len dp', List.length_map]
    refine ⟨_, rfl, _, rfl, g, us, rfl, .inl ⟨SqL.of (s914 _ _ hg9), fun t1 nt1 => ?_⟩⟩
    have s15 : Same H14 (upd H14 t1 (.tup us)) := same_new nt1
    have ht1 : (upd H14 t1 (.tup us)) t1 = some (.tup us) := upd_same
    generalize upd H14 t1 (.tup us) = H15 at s15 ht1
    refine ⟨_, rfl, g', us', rfl, .inl ⟨SqL.of (s15 _ _ (s914 _ _ hg9')), fun t2 nt2 => ?_⟩⟩
    have s16 : Same H15 (upd H15 t2 (.tup us')) := same_new nt2
    have ht2 : (upd H15 t2 (.tup us')) t2 = some (.tup us') := upd_same
    generalize upd H15 t2 (.tup us') = H16 at s16 ht2
    refine ⟨(by show 2 ≤ sizeLine; decide), fun m2 nm2 => ?_⟩
    have s17 : Same H16 (upd H16 m2 (.lst [.ref t1, .ref t2])) := same_new nm2
    have hm2 : (upd H16 m2 (.lst [.ref t1, .ref t2])) m2 = some (.lst [.ref t1, .ref t2]) := upd_same
    generalize upd H16 m2 (.lst [.ref t1, .ref t2]) = H17 at s17 hm2
    have s1417 := s15.trans (s16.trans s17)
    refine ⟨l2, m2, _, _, rfl, rfl, s1417 _ _ (s1214 _ _ hl2), hm2, (by show 4 ≤ sizeLine; decide), fun p2 np2 => ?_⟩
    have s18 : Same H17 (upd H17 p2 (.lst ([z3, z4] ++ [.ref t1, .ref t2]))) := same_new np2
    have hp2 : (upd H17 p2 (.lst ([z3, z4] ++ [.ref t1, .ref t2]))) p2 = some (.lst [z3, z4, .ref t1, .ref t2]) := upd_same
    generalize upd H17 p2 (.lst ([z3, z4] ++ [.ref t1, .ref t2])) = H18 at s18 hp2
    have s1218 := s1214.trans (s1417.trans s18)
    have s918 := s912.trans s1218
    refine ⟨.ref p1, .ref p2, .list [dSm w rs v ts, dPr w rs v ts, .tuple (rs.map gd), .tuple (ts.map gd)], rfl, ?_, ?_, ?_, q H18 (x09.trans (ExtN.of s918)) (tb9.ext s918)⟩
    · exact .lst (SqL.of ((s1417.trans s18) _ _ hp1)) (.cons (dp_same s918 _ _ d19) (.cons (dp_same s918 _ _ d29) (.cons (.tup (.inl (.inl (s1218 _ _ a2))) (dps_same s1218 _ _ a3)) (.cons (.tup (.inl (.inl (s1218 _ _ b2))) (dps_same s1218 _ _ b3)) .nil))))
    · exact .lst (SqL.of hp2) (.cons (dp_same (s11.trans (s12.trans s1218)) _ _ d3) (.cons (dp_same (s12.trans s1218) _ _ d4) (.cons (.tup (.inl (.inl ((s16.trans (s17.trans s18)) _ _ ht1))) (dps_same s918 _ _ dp9)) (.cons (.tup (.inl (.inl ((s17.trans s18) _ _ ht2))) (dps_same s918 _ _ dp9')) .nil))))
    · refine (GD.SD.list (m := 110000) (n := 3) (k := 4) (fun d hd => ?_) (by show 4 ≤ 4; decide)).up (by decide) (by decide)
      simp only [List.mem_cons, List.not_mem_nil, or_false] at hd
      rcases hd with rfl | rfl | rfl | rfl
      · exact sd_sm w6 ok ok'
      · exact sd_pr w6 ok ok'
      · exact (sd_rows w6 ok few).up (by decide) (by decide)
      · exact (sd_rows v6 ok' few').up (by decide) (by decide)
end
end CC
namespace CC
open PySem L2
abbrev sSource : Stmt := tp 30
abbrev sDraw : Stmt := tp 31
abbrev sChoose : Stmt := tp 32
section
variable {P : Program} {w : World} {K : PySem.W.Frag} {mg : Str → Option Value} {base : Heap}
theorem scSource : FnScope ["_law_cell_here"] ["_law_cell_here"] (defScope sSource) := ⟨rfl, rfl, rfl, by decide +kernel, rfl, by decide +kernel, by decide +kernel⟩
theorem ok_source {f : Addr} {fd : FuncData} {k : Nat} (F : Fun K "_law_source" "_law_source" sSource f fd) (mm : mg "max" = none) : FnOk P w K mg base CX0 (k + 1) f fd ["_law_cell_here"] spSource := by
  refine F.ok scSource (fun vs H Q E h => ?_) (fun cdv A outer s H vs Q E hr h => ?_)
  · obtain ⟨z, rfl, _⟩ := h
    rfl
  · obtain ⟨z, rfl, q⟩ := h
    refine ⟨_, pss_one (ps_ret (pe_lst (pa_cons (pe_callB (call_max2 rfl) (by rfl) mm (by decide +kernel) (pa_cons pe_int (pa_cons (pe_op op_sub (pv 0) (pe_op op_pow pe_int pe_int)) pa_nil))) (pa_cons (pe_op op_add (pe_op op_mod (pv 0) pe_int) pe_int) (pa_cons pe_int pa_nil))))), ?_⟩
    refine ⟨_, rfl, _, _, rfl, rfl, ⟨by decide, by decide, by decide⟩, _, _, rfl, rfl, _, _, rfl, _, rfl, _, _, rfl, rfl, (by show (0 : Int) < 2147483629; decide), _, _, rfl, rfl, (by show 3 ≤ sizeLine; decide), fun p hp => ?_⟩
    exact q p _ hp ⟨_, _, _, rfl, by omega, by omega⟩
theorem scDraw : FnScope ["_law_source_here", "_law_many", "_law_found", "_law_mixed"] ["_law_source_here", "_law_many"] (defScope sDraw) := ⟨rfl, rfl, rfl, by decide +kernel, rfl, by decide +kernel, by decide +kernel⟩
theorem ok_draw {f : Addr} {fd : FuncData} {k : Nat} (F : Fun K "_law_draw" "_law_draw" sDraw f fd) : FnOk P w K mg base CX0 (k + 1) f fd ["_law_source_here", "_law_many"] spDraw := by
  refine F.ok scDraw (fun vs H Q E h => ?_) (fun cdv A outer s H vs Q E hr h => ?_)
  · obtain ⟨a, m, o, rfl, _⟩ := h
    rfl
  · obtain ⟨a, m, o, rfl, ho, ⟨x, y, z, rfl, y0, y1⟩, m0, m1, q⟩ := h
    refine ⟨_, pss_cons (ps_if (pt_cmpR op_gt (pe_ix ix_list (pv 0) pe_int (fun _ _ => rfl)) pe_int (nomark _))
        (pss_cons (ps_set (i := 2) scDraw.nd rfl (.inl rfl) (pe_op op_mod (pe_ix ix_list (pv 0) pe_int (fun _ _ => rfl)) (pv 1)))
        (pss_cons (ps_asg (pe_op op_fdiv (pe_ix ix_list (pv 0) pe_int (fun _ _ => rfl)) (pv 1)) (pg_sub (pv 0) pe_int set_list))
        (pss_one (ps_ret (pv 2))))) pss_nil)
      (pss_cons (ps_asg (pe_op op_add (pe_ix ix_list (pv 0) pe_int (fun _ _ => rfl)) pe_int) (pg_sub (pv 0) pe_int set_list))
      (pss_cons (ps_asg (pe_op op_mod (pe_op op_add (pe_op op_add (pe_op op_mul (pe_ix ix_list (pv 0) pe_int (fun _ _ => rfl)) pe_int) (pe_op op_mul pe_int (pe_ix ix_list (pv 0) pe_int (fun _ _ => rfl)))) pe_int) pe_int) (pg_sub (pv 0) pe_int set_list))
      (pss_cons (ps_set (i := 3) scDraw.nd rfl (.inl rfl) (pe_op op_mod (pe_op op_add (pe_op op_add (pe_op op_mul (pe_ix ix_list (pv 0) pe_int (fun _ _ => rfl)) (pe_ix ix_list (pv 0) pe_int (fun _ _ => rfl))) (pe_op op_mul pe_int (pe_ix ix_list (pv 0) pe_int (fun _ _ => rfl)))) pe_int) pe_int))
      (pss_cons (ps_set (i := 3) scDraw.nd rfl (.inl rfl) (pe_op op_mod (pe_op op_add (pe_op op_mul (pv 3) (pv 3)) (pe_op op_mul pe_int (pv 3))) pe_int))
      (pss_one (ps_ret (pe_op op_mod (pe_op op_fdiv (pv 3) pe_int) (pv 1)))))))), ?_⟩
    have hA : SqL K H a [.int x, .int y, .int z] := SqL.of ho
    refine ⟨_, rfl, a, _, _, _, rfl, rfl, hA, rfl, _, _, rfl, rfl, _, rfl, ite2 (fun e => ?_) (fun e => ?_)⟩
    · refine ⟨_, rfl, a, _, _, _, rfl, rfl, hA, rfl, _, rfl, _, _, rfl, rfl, m0, ?_⟩
      refine ⟨_, rfl, a, _, _, _, rfl, rfl, hA, rfl, _, rfl, _, _, rfl, rfl, ⟨m0, by omega⟩, _, rfl, a, _, _, 0, rfl, rfl, ho, rfl, ?_⟩
      exact ⟨_, rfl, q _ _ (Int.emod_nonneg _ (by omega)) (Int.emod_lt_of_pos _ m0) ⟨_, _, _, rfl, y0, y1⟩⟩
    · refine ⟨_, rfl, a, _, _, _, rfl, rfl, hA, rfl, _, _, rfl, rfl, _, rfl, a, _, _, 2, rfl, rfl, ho, rfl, ?_⟩
      have h1 : (upd H a (.lst [.int x, .int y, .int (z + 1)])) a = some (.lst [.int x, .int y, .int (z + 1)]) := upd_same
      refine ⟨_, rfl, a, _, _, _, rfl, rfl, SqL.of h1, rfl, _, _, rfl, rfl, .inl ⟨by omega, by omega⟩, _, rfl, a, _, _, _, rfl, rfl, SqL.of h1, rfl, _, _, rfl, rfl, .inl ⟨by decide, by decide⟩, _, _, rfl, rfl, _, _, rfl, rfl, _, _, rfl, rfl, (by show (0 : Int) < 2147483647; decide), _, rfl, a, _, _, 1, rfl, rfl, h1, rfl, ?_⟩
      obtain ⟨y', hy⟩ : ∃ y' : Int, y' = (y * 48271 + 1009 * (z + 1) + 7) % 2147483647 := ⟨_, rfl⟩
      have b0 : 0 ≤ y' := by omega
      have b1 : y' < 2147483648 := by omega
      have h2 : (upd (upd H a (.lst [.int x, .int y, .int (z + 1)])) a (.lst [.int x, .int ((y * 48271 + 1009 * (z + 1) + 7) % 2147483647), .int (z + 1)])) a = some (.lst [.int x, .int y', .int (z + 1)]) := by
        rw [hy]
        exact upd_same
      refine ⟨_, rfl, a, _, _, _, rfl, rfl, SqL.of h2, rfl, _, rfl, a, _, _, _, rfl, rfl, SqL.of h2, rfl, _, _, rfl, rfl, .inl ⟨by omega, by omega⟩, _, rfl, a, _, _, _, rfl, rfl, SqL.of h2, rfl, _, _, rfl, rfl, .inl ⟨by decide, by decide⟩, _, _, rfl, rfl, _, _, rfl, rfl, _, _, rfl, rfl, (by show (0 : Int) < 2147483629; decide), ?_⟩
      obtain ⟨m2, hm⟩ : ∃ m2 : Int, m2 = (y' * y' + 69621 * y' + 11) % 2147483629 := ⟨_, rfl⟩
      have c0 : 0 ≤ (y' * y' + 69621 * y' + 11) % 2147483629 := Int.emod_nonneg _ (by decide)
      have c1 : (y' * y' + 69621 * y' + 11) % 2147483629 < 2147483629 := Int.emod_lt_of_pos _ (by decide)
      refine ⟨_, rfl, _, rfl, _, _, rfl, rfl, .inl ⟨Int.lt_of_lt_of_le (by decide) c0, Int.lt_trans c1 (by decide)⟩, _, rfl, _, _, rfl, rfl, .inl ⟨by decide, by decide⟩, _, _, rfl, rfl, _, _, rfl, rfl, (by show (0 : Int) < 2147483587; decide), ?_⟩
      refine ⟨_, rfl, _, _, rfl, rfl, ⟨by decide, by decide⟩, _, rfl, _, _, rfl, rfl, m0, ?_⟩
      rw [upd_upd]
      exact q _ _ (Int.emod_nonneg _ (by omega)) (Int.emod_lt_of_pos _ m0) ⟨x, y', z + 1, by rw [hy]; rfl, b0, b1⟩
end
end CC
namespace CC
open PySem L2 TL
section
variable {P : Program} {w : World} {K : PySem.W.Frag} {mg : Str → Option Value} {base : Heap} {kA : Addr}
theorem ok_draw2 {f : Addr} {fd : FuncData} {k : Nat} (F : Fun K "_law_draw" "_law_draw" sDraw f fd) : FnOk P w K mg base CX0 (k + 1) f fd ["_law_source_here", "_law_many"] spDraw2 := by
  have G : FnOk P w K mg base CX0 (k + 1) f fd ["_law_source_here", "_law_many"] spDraw := ok_draw F
  refine ⟨fun vs H Q E h => ?_, fun A outer s H args us vs Q E hr e0 hb r h => G.run A outer s H args us vs Q E hr e0 hb r ?_⟩
  · obtain ⟨s, m, rfl, _⟩ := h
    rfl
  · obtain ⟨a, m, rfl, ⟨o, h1, h2⟩, m0, m1, q⟩ := h
    refine ⟨a, m, o, rfl, h1, h2, by omega, by omega, fun r o' r0 r1 ho => ?_⟩
    have e : r = ((r.toNat : Nat) : Int) := by omega
    rw [e]
    exact q _ _ (by omega) (.one ho)
theorem scChoose : FnScope ["_law_source_here", "_law_values"] ["_law_source_here", "_law_values"] (defScope sChoose) := ⟨rfl, rfl, rfl, by decide +kernel, rfl, by decide +kernel, by decide +kernel⟩
theorem ok_choose {f : Addr} {fd : FuncData} {k : Nat} (F : Fun K "_law_choose" "_law_choose" sChoose f fd) (T : Glb K mg kA) (cD : Cal P w K mg base "_law_draw" ["_law_source_here", "_law_many"] spDraw2 1) :
    FnOk P w K mg base CX0 (k + 2) f fd ["_law_source_here", "_law_values"] (spChoose K) := by
  have GD := cD.ok (k + 1) (by omega)
  refine F.ok scChoose (fun vs H Q E h => ?_) (fun cdv A outer s H vs Q E hr h => ?_)
  · obtain ⟨s, v, rfl, _⟩ := h
    rfl
  · obtain ⟨sr, v, rfl, hs, h⟩ := h
    refine ⟨_, pss_one (ps_ret (pe_ix ix_seq (pv 1) (pe_call GD hr rfl cD.g cD.kp cD.b .nil pass0 (pa_cons (pv 0) (pa_cons (pe_callB call_len (by rfl) T.len PySem.boot_len (pa_cons (pv 1) pa_nil)) pa_nil))) (fun _ _ => rfl))), ?_⟩
    rcases h with ⟨a, xs, rfl, ha, l0, l1, q⟩ | ⟨z, rfl, l0, l1, q⟩
    · refine ⟨_, rfl, _, rfl, _, rfl, _, xs.length, rfl, .inl ⟨xs, same_l (wo_le sr) ha, rfl⟩, sr, xs.length, rfl, hs, l0, by omega, fun r H' hr2 rn => ?_⟩
      have e : xs[r]? = some xs[r] := List.getElem?_eq_getElem hr2
      exact .inl ⟨a, xs, _, _, rfl, rfl, same_l (rn.same.trans (wo_le sr)) ha, atI_nat e, q r _ H' e rn⟩
    · refine ⟨_, rfl, _, rfl, _, rfl, _, z.length, rfl, ⟨Nat.le_of_lt (small1000 (by omega)), rfl⟩, sr, z.length, rfl, hs, l0, by omega, fun r H' hr2 rn => ?_⟩
      rw [len_tl] at hr2
      have e : (tl z)[r]? = some (tl z)[r] := List.getElem?_eq_getElem hr2
      exact .inr (.inr ⟨z, _, _, rfl, rfl, Nat.le_of_lt (small1000 (by omega)), atI_nat e, q _ H' rn⟩)
end
end CC
/-! ### drawn rows -/
namespace CC
open PySem L2 TL
theorem Ran.put {H H1 : Hp} {s p : Addr} {o : HO} (r : Ran H H1 s) (hp : H p = none) (n : p ≠ s) : Ran H (upd H1 p o) s := by
  refine ⟨fun b u e => ?_, ?_⟩
  · have hb : b ≠ s := fun z => by
      rw [z, wo_at] at e
      cases e
    have bp : b ≠ p := fun z => by
      rw [wo_ne hb, z, hp] at e
      cases e
    have := r.same b u e
    rw [wo_ne hb] at this ⊢
    rw [upd_ne bp]
    exact this
  · obtain ⟨o', h1, h2⟩ := r.src
    exact ⟨o', by rw [upd_ne (Ne.symm n)]; exact h1, h2⟩
/-- rows of values up to v -/
def RowV (w v : Nat) (r : List Nat) : Prop := r.length = w ∧ ∀ x ∈ r, x ≤ v
structure LR (K : PySem.W.Frag) (H H' : Hp) (s l : Addr) (w v m : Nat) : Prop where
  ran : Ran H H' s
  new : H l = none
  nes : l ≠ s
  lst : ∃ (us : List V) (rows : List (List Nat)), H' l = some (.lst us) ∧ DpAll K H' us (rows.map gd) ∧ (∀ r ∈ rows, RowV w v r) ∧ rows.length = m
section
variable {K : PySem.W.Frag} {H H' H'' : Hp} {s l p : Addr} {w v m : Nat}
theorem LR.grow (a : LR K H H' s l w v m) (e : Same H' H'') : LR K H H'' s l w v m := by
  obtain ⟨us, rs, h1, h2, h3, h4⟩ := a.lst
  exact ⟨a.ran.grow e, a.new, a.nes, us, rs, e _ _ h1, dps_same e _ _ h2, h3, h4⟩
theorem LR.run (a : LR K H H' s l w v m) (e : Ran H' H'' s) : LR K H H'' s l w v m := by
  obtain ⟨us, rs, h1, h2, h3, h4⟩ := a.lst
  exact ⟨a.ran.trans e, a.new, a.nes, us, rs, e.at_ h1 a.nes, gds_T (e.T a.ran.src) h2, h3, h4⟩
theorem LR.fresh (a : Ran H H' s) (h : H' l = none) : LR K H (upd H' l (.lst [])) s l w v 0 :=
  ⟨a.grow (same_new h), a.free h, a.ne h, [], [], upd_same, .nil, (fun r hr => nomatch hr), rfl⟩
theorem LR.push (a : LR K H H' s l w v m) {x : V} {r : List Nat} (d : Dp K H' x (gd r)) (hr : RowV w v r) : ∃ acc, H' l = some (.lst acc) ∧ acc.length = m ∧ LR K H (upd H' l (.lst (acc ++ [x]))) s l w v (m + 1) := by
  obtain ⟨us, rs, h1, h2, h3, h4⟩ := a.lst
  have ul : us.length = rs.length := by rw [dps_len h2, List.length_map]
  refine ⟨us, h1, by omega, a.ran.put a.new a.nes, a.new, a.nes, us ++ [x], rs ++ [r], upd_same, ?_, ?_, ?_⟩
  · rw [List.map_append]
    exact dps_app (gds_T (upd_T h1) h2) (.cons (gd_T (upd_T h1) d) .nil)
  · intro y hy
    rcases List.mem_append.mp hy with z | z
    · exact h3 y z
    · rw [List.mem_singleton.mp z]
      exact hr
  · rw [List.length_append, List.length_singleton]
    omega
theorem LR.put {o : HO} {us : List V} (a : LR K H H' s l w v m) (hp : H' p = some (.lst us)) (hn : H p = none) (n : p ≠ s) (nl : l ≠ p) : LR K H (upd H' p o) s l w v m := by
  obtain ⟨vs, rs, h1, h2, h3, h4⟩ := a.lst
  exact ⟨a.ran.put hn n, a.new, a.nes, vs, rs, by rw [upd_ne nl]; exact h1, gds_T (upd_T hp) h2, h3, h4⟩
end
/-- a row in the making -/
def RowAt (H0 H' : Hp) (s l D : Addr) (w v : Nat) : Prop := ∃ r, H' D = some (.lst (nms r)) ∧ RowV w v r ∧ H0 D = none ∧ D ≠ s ∧ l ≠ D
theorem nms_set {r : List Nat} {j x : Nat} : (nms r).set j (.int (x : Int)) = nms (r.set j x) := by
  unfold nms
  rw [List.map_set]
theorem rowv_set {w v : Nat} {r : List Nat} {j x : Nat} (h : RowV w v r) (hx : x ≤ v) : RowV w v (r.set j x) := by
  refine ⟨by rw [List.length_set]; exact h.1, fun y hy => ?_⟩
  rcases List.mem_or_eq_of_mem_set hy with z | z
  · exact h.2 y z
  · rw [z]
    exact hx
theorem ix_ok {n j : Nat} (h : j < n) : ixN n (j : Int) = some j := by
  unfold ixN
  rw [if_pos (by omega), if_pos (by omega)]
  simp
theorem gdl_shp (ms : List (List Nat)) : SeqAt.shaped (.list (ms.map gd)) = true := by
  have h : PyData.canLayAll0 (ms.map gd) = true ∧ PyData.depthAll (ms.map gd) ≤ 1 := by
    induction ms with
    | nil => simp [PyData.canLayAll0, PyData.depthAll]
    | cons m ms ih =>
      have g : PyData.canLayAll0 (m.map fun (n : Nat) => PyData.int (n : Int)) = true ∧ PyData.depthAll (m.map fun (n : Nat) => PyData.int (n : Int)) = 0 := by
        clear ih
        induction m with
        | nil => simp [PyData.canLayAll0, PyData.depthAll]
        | cons x m ih2 => simp [PyData.canLayAll0, PyData.depthAll, PyData.canLay0, PyData.depth, ih2.1, ih2.2]
      simp only [List.map_cons, PyData.canLayAll0, PyData.depthAll, gd, PyData.canLay0, PyData.depth, g.1, g.2, Bool.true_and]
      refine ⟨ih.1, ?_⟩
      have := ih.2
      unfold gd at this
      omega
  show ((PyData.list (ms.map gd)).canLay0 && decide ((PyData.list (ms.map gd)).depth ≤ 64)) = true
  simp only [PyData.canLay0, PyData.depth, h.1, Bool.true_and]
  exact decide_eq_true (by have := h.2; omega)
end CC
namespace CC
open PySem L2 TL
abbrev sLines : Stmt := tp 34
def spLines (K : PySem.W.Frag) : Sp := fun vs H Q _ => ∃ (s : Addr) (w m v : Nat), vs = [.ref s, .int (w : Int), .int (m : Int), .int (v : Int)] ∧ Src H s ∧ 1 ≤ w ∧ w ≤ 6 ∧ m ≤ 400 ∧ v ≤ 9999 ∧ ∀ (p : Addr) (k : Nat) (H' : Hp), k ≤ m → LR K H H' s p w v k → Q (.ref p) H'
section
variable {P : Program} {w : World} {K : PySem.W.Frag} {mg : Str → Option Value} {base : Heap} {kA : Addr}
abbrev nLn : List Str := ["_law_source_here", "_law_width", "_law_most", "_law_value", "_law_found", "_law_many", "_law_way", "_law_one", "_law_other", "_law_turn", "_law_row", "_law_column"]
theorem scLines : FnScope nLn ["_law_source_here", "_law_width", "_law_most", "_law_value"] (defScope sLines) := ⟨rfl, rfl, rfl, by decide +kernel, rfl, by decide +kernel, by decide +kernel⟩
theorem ok_lines {f : Addr} {fd : FuncData} {k : Nat} (F : Fun K "_law_lines" "_law_lines" sLines f fd) (T : Glb K mg kA) (cD : Cal P w K mg base "_law_draw" ["_law_source_here", "_law_many"] spDraw2 1) : FnOk P w K mg base CX0 (k + 2) f fd ["_law_source_here", "_law_width", "_law_most", "_law_value"] (spLines K) := by
  have GD := cD.ok (k + 1) (by omega)
  refine F.ok scLines (fun vs H Q E h => ?_) (fun cdv A outer s H vs Q E hr h => ?_)
  · obtain ⟨s, w, m, v, rfl, _⟩ := h
    rfl
  · obtain ⟨s, w, m, v, rfl, hs, w1, w6, hm, hv, q⟩ := h
    have n := scLines.nd
    have hu64 := Nat.lt_of_le_of_lt (Nat.le_trans (Nat.add_le_add_left (by decide : 64 ≤ 200) _) (Nat.add_le_add_right (Nat.le_add_right _ (16 * (k + 1))) 200)) hr.un
    refine ⟨_, (pss_cons (ps_par3 (i := 4) (j := 5) (l := 6) rfl n rfl rfl rfl (by decide) (by decide) (by decide) rfl rfl rfl (pa_cons (pe_lst pa_nil) (pa_cons (pe_call GD hr rfl cD.g cD.kp cD.b .nil pass0 (pa_cons (pv 0) (pa_cons (pe_op op_add (pv 2) pe_int) pa_nil))) (pa_cons (pe_call GD hr rfl cD.g cD.kp cD.b .nil pass0 (pa_cons (pv 0) (pa_cons pe_int pa_nil))) pa_nil))) (by rfl))
      (pss_cons (ps_par (i := 7) (j := 8) rfl n rfl rfl (by decide) rfl rfl (pa_cons (pe_call GD hr rfl cD.g cD.kp cD.b .nil pass0 (pa_cons (pv 0) (pa_cons (pv 1) pa_nil))) (pa_cons (pe_call GD hr rfl cD.g cD.kp cD.b .nil pass0 (pa_cons (pv 0) (pa_cons (pv 1) pa_nil))) pa_nil)) (by rfl))
      (pss_cons (ps_for PassesOwn.never rfl (pi_range1 (by rfl) T.rng (pa_cons (pv 5) pa_nil)) (pg_name (i := 9) n rfl (.inl rfl))
        (pss_cons (ps_setLc (i := 10) (own := [("_law_column", 11)]) (g := gName 11) (tt := tYes) rfl n rfl rfl (sw_true rfl rfl rfl (by decide +kernel)) (pi_range1 (by rfl) T.rng (pa_cons (pv 1) pa_nil)) (blkOk_by (N := nLn) (sc := defScope sLines) (by decide +kernel))
          (fun _ _ _ _ _ => (pg_name (i := 11) n rfl (.inl rfl))) (fun _ _ _ _ _ => pts_nil) (fun _ _ _ _ _ => (pe_call GD hr rfl cD.g cD.kp cD.b .nil pass0 (pa_cons (pv 0) (pa_cons (pe_op op_add (pv 3) pe_int) pa_nil)))))
        (C8.pss_cut (ps_if (pt_cmpR op_eq (pv 6) pe_int (nomark _)) (pss_one (ps_asg (pe_ix ix_list (pv 10) (pv 8) (fun _ _ => rfl)) (pg_sub (pv 10) (pv 7) set_list))) pss_nil)
        (C8.pss_cut (ps_if (pt_cmpR op_eq (pv 6) pe_int (nomark _)) (pss_one (ps_asg (pe_op op_mod (pe_op op_mul (pe_ix ix_list (pv 10) (pv 8) (fun _ _ => rfl)) (pe_ix ix_list (pv 10) (pv 8) (fun _ _ => rfl))) (pe_op op_add (pv 3) pe_int)) (pg_sub (pv 10) (pv 7) set_list))) pss_nil)
        (C8.pss_cut (ps_if (PW.pt (pw_and (pt_cmpR op_eq (pv 6) pe_int (nomark _)) (pw_and (pt_cmpR (op_neD hu64) (pv 4) (pe_lst pa_nil) (nomark _)) (pw_and1 (pt_cmpR op_eq (pe_call GD hr rfl cD.g cD.kp cD.b .nil pass0 (pa_cons (pv 0) (pa_cons pe_int pa_nil))) pe_int (nomark _))))))
          (pss_one (ps_set (i := 10) n rfl (.inl rfl) (pe_callTy call_list_of (by rfl) T.lst (by decide +kernel) (pa_cons (pe_ix ix_list (pv 4) (pe_un un_neg pe_int) (fun _ _ => rfl)) pa_nil)))) pss_nil)
        (C8.pss_cut (ps_if (pt_cmpR op_eq (pv 6) pe_int (nomark _)) (pss_one (ps_asg (pe_op op_mod (pv 9) (pe_op op_add (pv 3) pe_int)) (pg_sub (pv 10) (pv 7) set_list))) pss_nil)
        (pss_one (ps_expr (pe_bm PySem.F.plainAttrs_list PySem.F.slot_list_append PySem.F.type_list_append mt_append (pv 4) (pa_cons (pe_callTy call_tuple_of (by rfl) T.tup (by decide +kernel) (pa_cons (pv 10) pa_nil)) pa_nil))))))))))
      (pss_one (ps_ret (pv 4)))))), ?_⟩
    refine ⟨Nat.zero_le _, fun fo nfo => ?_⟩
    have hs1 : Ran H H s := ⟨Same.refl _, hs⟩
    have p1 : LR K H (upd H fo (.lst [])) s fo w v 0 := .fresh hs1 nfo
    generalize upd H fo (.lst []) = H1 at p1
    refine ⟨_, rfl, _, rfl, _, _, rfl, rfl, s, m + 1, rfl, p1.ran.src, by omega, by omega, fun many H2 hmany r2 => ?_⟩
    have p2 := p1.run r2
    refine ⟨_, rfl, s, 5, rfl, p2.ran.src, by decide, by decide, fun way H3 hway r3 => ⟨_, _, _, rfl, ?_⟩⟩
    have p3 := p2.run r3
    refine ⟨_, rfl, _, rfl, s, w, rfl, p3.ran.src, by omega, by omega, fun one H4 hone r4 => ?_⟩
    have p4 := p3.run r4
    refine ⟨_, rfl, _, rfl, s, w, rfl, p4.ran.src, by omega, by omega, fun oth H5 hoth r5 => ⟨_, _, rfl, ?_⟩⟩
    have p5 := p4.run r5
    refine ⟨_, rfl, _, rfl, by omega, by omega, ?_⟩
    refine for_range (lo := 0) (n := ((many : Nat) : Int).toNat) (fun i σ H' => ∃ y9 y10 y11, σ = [some (.ref s), some (.int (w : Int)), some (.int (m : Int)), some (.int (v : Int)), some (.ref fo), some (.int (many : Int)), some (.int (way : Int)), some (.int (one : Int)), some (.int (oth : Int)), y9, y10, y11] ∧ LR K H H' s fo w v i) ⟨none, none, none, rfl, p5⟩ ?_ ?_
    · rintro i σ H6 hi ⟨y9, y10, y11, rfl, p6⟩
      rw [Int.zero_add]
      have im : i ≤ 400 := by omega
      refine ⟨_, rfl, _, rfl, by omega, by omega, fun D nD => ?_⟩
      refine lc_range (lo := 0) (n := ((w : Nat) : Int).toNat) (fun j H' => LR K H H' s fo w v i ∧ H D = none ∧ D ≠ s ∧ fo ≠ D ∧ (∃ r, H' D = some (.lst (nms r)) ∧ r.length = j ∧ ∀ x ∈ r, x ≤ v) ∧ j ≤ 6) ⟨p6.grow (same_new nD), p6.ran.free nD, p6.ran.ne nD, ?_, ⟨[], upd_same, rfl, (fun x hx => nomatch hx)⟩, by omega⟩ ?_ ?_
      · obtain ⟨us, _, hu, _⟩ := p6.lst
        exact ne_of_none hu nD
      · rintro j H7 hj ⟨p7, nD0, Ds, fD, ⟨r, hD7, rl, rv⟩, j6⟩
        refine ⟨rfl, yes_if ⟨_, rfl, _, rfl, _, _, rfl, rfl, s, v + 1, rfl, p7.ran.src, by omega, by omega, fun x H8 hx r8 => ?_⟩⟩
        have hD8 := r8.at_ hD7 Ds
        refine ⟨_, hD8, small1000 (by rw [nms_len]; omega), (p7.run r8).put hD8 nD0 Ds fD, nD0, Ds, fD, ⟨r ++ [x], ?_, ?_, ?_⟩, by omega⟩
        · rw [upd_same, nms_app]
          rfl
        · rw [List.length_append, List.length_singleton, rl]
        · intro y hy
          rcases List.mem_append.mp hy with z | z
          · exact rv y z
          · rw [List.mem_singleton.mp z]
            omega
      rintro H7 ⟨p7, nD0, Ds, fD, ⟨r, hD7, rl, rv⟩, _⟩
      have ew : ((w : Nat) : Int).toNat = w := by omega
      rw [ew] at rl
      let Mid : L2.St → Hp → Prop := fun σ H' => ∃ D y11, σ = [some (.ref s), some (.int (w : Int)), some (.int (m : Int)), some (.int (v : Int)), some (.ref fo), some (.int (many : Int)), some (.int (way : Int)), some (.int (one : Int)), some (.int (oth : Int)), some (.int (i : Int)), some (.ref D), y11] ∧ LR K H H' s fo w v i ∧ RowAt H H' s fo D w v
      have m7 : RowAt H H7 s fo D w v := ⟨r, hD7, ⟨rl, rv⟩, nD0, Ds, fD⟩
      -- one more value of a row
      have setV : ∀ {D : Addr} {H' : Hp} {y : Option V} {x : Nat}, LR K H H' s fo w v i → RowAt H H' s fo D w v → x ≤ v → rSetL (.ref D) (.int (one : Int)) (.int (x : Int)) H' (Mid [some (.ref s), some (.int (w : Int)), some (.int (m : Int)), some (.int (v : Int)), some (.ref fo), some (.int (many : Int)), some (.int (way : Int)), some (.int (one : Int)), some (.int (oth : Int)), some (.int (i : Int)), some (.ref D), y]) := fun {D H' y x} p ⟨r, h1, h2, h3, h4, h5⟩ hx => by
        refine ⟨D, _, _, one, rfl, rfl, h1, ix_ok (by rw [nms_len, h2.1]; exact hone), D, y, rfl, p.put h1 h3 h4 h5, r.set one x, ?_, rowv_set h2 hx, h3, h4, h5⟩
        rw [upd_same, nms_set]
      clear hD7 rl rv nD0 Ds fD r
      -- way == 0
      refine ⟨Mid, ?_, ?_⟩
      · refine ⟨_, rfl, rfl, _, rfl, ite2 (fun _ => ?_) (fun _ => ⟨D, _, rfl, p7, m7⟩)⟩
        obtain ⟨r, h1, h2, h3, h4, h5⟩ := id m7
        have gx : (nms r)[oth]? = some (.int ((r.getD oth 0 : Nat) : Int)) := by
          rw [nms, List.getElem?_map, List.getD_eq_getElem?_getD, List.getElem?_eq_getElem (by rw [h2.1]; exact hoth)]
          rfl
        have bx : r.getD oth 0 ≤ v := by
          rw [List.getD_eq_getElem?_getD, List.getElem?_eq_getElem (by rw [h2.1]; exact hoth)]
          exact h2.2 _ (List.getElem_mem _)
        exact ⟨_, rfl, _, rfl, D, _, _, _, rfl, rfl, SqL.of h1, atI_nat gx, _, rfl, _, rfl, setV p7 m7 bx⟩
      rintro σ1 H8 ⟨D, y11, rfl, p8, m8⟩
      -- way == 1
      refine ⟨Mid, ?_, ?_⟩
      · refine ⟨_, rfl, rfl, _, rfl, ite2 (fun _ => ?_) (fun _ => ⟨D, _, rfl, p8, m8⟩)⟩
        obtain ⟨r, h1, h2, h3, h4, h5⟩ := id m8
        have gx : (nms r)[oth]? = some (.int ((r.getD oth 0 : Nat) : Int)) := by
          rw [nms, List.getElem?_map, List.getD_eq_getElem?_getD, List.getElem?_eq_getElem (by rw [h2.1]; exact hoth)]
          rfl
        have bx : r.getD oth 0 ≤ v := by
          rw [List.getD_eq_getElem?_getD, List.getElem?_eq_getElem (by rw [h2.1]; exact hoth)]
          exact h2.2 _ (List.getElem_mem _)
        generalize r.getD oth 0 = x at gx bx
        refine ⟨_, rfl, _, rfl, D, _, _, _, rfl, rfl, SqL.of h1, atI_nat gx, _, rfl, _, rfl, D, _, _, _, rfl, rfl, SqL.of h1, atI_nat gx, _, _, rfl, rfl, .inl ⟨by omega, by omega⟩, _, rfl, _, _, rfl, rfl, _, _, rfl, rfl, (by show (0 : Int) < (v : Int) + 1; omega), ?_⟩
        have e : ((x : Int) * (x : Int)) % ((v : Int) + 1) = ((x * x % (v + 1) : Nat) : Int) := by
          rw [Int.natCast_emod, Int.natCast_mul, Int.natCast_add]
          rfl
        dsimp only
        rw [e]
        exact ⟨_, rfl, _, rfl, setV p8 m8 (Nat.le_of_lt_succ (Nat.mod_lt _ (by omega)))⟩
      rintro σ1 H9 ⟨D, y11, rfl, p9, m9⟩
      -- way == 2
      refine ⟨Mid, ?_, ?_⟩
      · refine ⟨_, rfl, rfl, _, rfl, ite2 (fun _ => ?_) (fun _ => iteF ⟨D, _, rfl, p9, m9⟩)⟩
        obtain ⟨us, rows, h1, h2, h3, h4⟩ := id p9.lst
        refine ⟨_, rfl, Nat.zero_le _, fun el nel => ?_⟩
        have s10 : Same H9 (upd H9 el (.lst [])) := same_new nel
        have he : (upd H9 el (.lst [])) el = some (.lst []) := upd_same
        generalize upd H9 el (.lst []) = H10 at s10 he
        have p10 := p9.grow s10
        have m10 : RowAt H H10 s fo D w v := by
          obtain ⟨r, g1, g2⟩ := m9
          exact ⟨r, s10 _ _ g1, g2⟩
        have dl : DpAll K H10 us (rows.map gd) := dps_same s10 _ _ h2
        refine ⟨.list (rows.map gd), .list [], .lst (SqL.of (s10 _ _ h1)) dl, .lst (SqL.of he) .nil, gdl_shp _, gdl_shp [], _, rfl, ?_⟩
        cases rows with
        | nil =>
          rw [show (!PyData.eqv (.list (([] : List (List Nat)).map gd)) (.list [])) = false by simp [PyData.eqv, PyData.eqvAll]]
          exact iteF (iteF ⟨D, _, rfl, p10, m10⟩)
        | cons r0 rows =>
          rw [show (!PyData.eqv (.list ((r0 :: rows).map gd)) (.list [])) = true by simp [PyData.eqv, PyData.eqvAll]]
          refine iteT ⟨_, rfl, s, 3, rfl, p10.ran.src, by decide, by decide, fun e H11 he3 r11 => ?_⟩
          have p11 := p10.run r11
          have m11 : RowAt H H11 s fo D w v := by
            obtain ⟨r, g1, g2, g3, g4, g5⟩ := m10
            exact ⟨r, r11.at_ g1 g4, g2, g3, g4, g5⟩
          refine ⟨rfl, _, rfl, ite2 (fun _ => ?_) (fun _ => ⟨D, _, rfl, p11, m11⟩)⟩
          obtain ⟨us', rows', h1', h2', h3', h4'⟩ := id p11.lst
          have e2 : us' = us := by
            have z := h1'.symm.trans (r11.at_ (s10 _ _ h1) p9.nes)
            exact HO.lst.inj (Option.some.inj z)
          subst e2
          have une : us' ≠ [] := fun z => by
            rw [z] at h2
            cases h2
          obtain ⟨ua, ub, rfl⟩ : ∃ ua ub, us' = ua ++ [ub] := ⟨_, _, (List.dropLast_concat_getLast une).symm⟩
          obtain ⟨rl, hrl, drl⟩ := dps_gat h2' (show (ua ++ [ub])[ua.length]? = some ub by simp)
          obtain ⟨t, rfl, ht⟩ := gd_at drl
          refine ⟨_, rfl, _, rfl, fo, _, -1, _, rfl, rfl, SqL.of h1', atI_last _ _, t, _, rfl, .inr ht, fun l nl => ?_⟩
          have fl : fo ≠ l := ne_of_none h1' nl
          exact ⟨l, _, rfl, p11.grow (same_new nl), rl, upd_same, h3' rl (List.mem_of_getElem? hrl), p11.ran.free nl, p11.ran.ne nl, fl⟩
      rintro σ1 H10 ⟨D, y11, rfl, p10, m10⟩
      -- way == 3
      refine ⟨Mid, ?_, ?_⟩
      · refine ⟨_, rfl, rfl, _, rfl, ite2 (fun _ => ?_) (fun _ => ⟨D, _, rfl, p10, m10⟩)⟩
        refine ⟨_, rfl, _, rfl, _, _, rfl, rfl, _, _, rfl, rfl, (by show (0 : Int) < (v : Int) + 1; omega), ?_⟩
        have e : (i : Int) % ((v : Int) + 1) = ((i % (v + 1) : Nat) : Int) := by
          rw [Int.natCast_emod, Int.natCast_add]
          rfl
        dsimp only
        rw [e]
        exact ⟨_, rfl, _, rfl, setV p10 m10 (Nat.le_of_lt_succ (Nat.mod_lt _ (by omega)))⟩
      rintro σ1 H11 ⟨D, y11, rfl, p11, m11⟩
      obtain ⟨us, _, hu, _⟩ := id p11.lst
      obtain ⟨r, g1, g2, g3, g4, g5⟩ := m11
      refine ⟨_, rfl, .inl ⟨rfl, _, SqL.of hu⟩, _, rfl, D, _, rfl, .inl ⟨SqL.of g1, fun t nt => ?_⟩⟩
      obtain ⟨acc, a1, a2, a3⟩ := (p11.grow (same_new (o := .tup (nms r)) nt)).push (x := .ref t) (r := r) (dp_gd (.inl (.inl upd_same))) g2
      exact ⟨fo, acc, _, rfl, rfl, a1, small1000 (by omega), _, _, _, rfl, a3⟩
    · rintro σ H6 ⟨y9, y10, y11, rfl, p6⟩
      have en : ((many : Nat) : Int).toNat = many := by omega
      rw [en] at p6
      exact ⟨_, rfl, q fo many H6 (by omega) p6⟩
end
end CC
namespace CC
open PySem L2 TL LamX PyProof.Rows
abbrev sLaw : Stmt := tp 40
abbrev qLaw : Str := (envOfC "law" (defScope sLaw) 0 0 .none).qual ++ "<lambda>"
abbrev a0 : Arguments := { posonlyargs := [], args := [], vararg := none, kwonlyargs := [], kw_defaults := [], kwarg := none, defaults := [] }
abbrev sc0 : Scope := { kind := .function, names := [("_law_odd", .free), ("_law_one", .free)], isGenerator := false, isCoroutine := false, more := [] }
def spLaw (K : PySem.W.Frag) (Ts : List (Addr × Str)) : Sp := fun vs H Q _ => ∃ (a : Addr) (ns : List Int), vs = [.ref a] ∧ SqL K H a (ns.map V.int) ∧ ns.length ≤ 63 ∧ Tabs Ts H ∧ ∀ H', Q (.bl true) H'
theorem new_view' {H : Hp} {p : Addr} {o : HO} (h : H p = none) : Same H (wo (upd H p o) p) := fun b u e => by
  rw [wo_ne (ne_of_none e h), upd_ne (ne_of_none e h)]
  exact e
/-- what the law keeps: its script, the source, the tables of code objects -/
structure W3 (K : PySem.W.Frag) (Ts : List (Addr × Str)) (H : Hp) (a p : Addr) (ns : List Int) : Prop where
  scr : SqL K (wo H p) a (ns.map V.int)
  src : Src H p
  tab : Tabs Ts H
section
variable {K : PySem.W.Frag} {Ts : List (Addr × Str)} {H H' : Hp} {a p l t : Addr} {ns : List Int} {w v : Nat} {rows : List (List Nat)}
theorem tabs_ran (t : Tabs Ts H) (s : Src H p) (r : Ran H H' p) : Tabs Ts H' := fun q hq => by
  obtain ⟨o, ho, i1, i2, i3, eo, _⟩ := s
  rw [eo] at ho
  obtain ⟨ps, h1, h2, h3⟩ := t q hq
  refine ⟨ps, r.at_ h1 (fun z => by rw [z, ho] at h1; cases h1), h2, fun pos cv hc => ?_⟩
  obtain ⟨c, e1, e2⟩ := h3 pos cv hc
  exact ⟨c, e1, r.at_ e2 (fun z => by rw [z, ho] at e2; unfold CodeO at e2; cases e2)⟩
theorem W3.grow (z : W3 K Ts H a p ns) (e : Same H H') : W3 K Ts H' a p ns := by
  obtain ⟨o, h1, h2⟩ := z.src
  exact ⟨same_l (wo_same e) z.scr, ⟨o, e _ _ h1, h2⟩, z.tab.ext e⟩
theorem W3.run (z : W3 K Ts H a p ns) (r : Ran H H' p) : W3 K Ts H' a p ns := ⟨same_l r.same z.scr, r.src, tabs_ran z.tab z.src r⟩
theorem W3.ext (z : W3 K Ts H a p ns) (e : ExtN H H') (t : Tabs Ts H') : W3 K Ts H' a p ns := by
  obtain ⟨o, h1, h2⟩ := z.src
  obtain ⟨i1, i2, i3, eo, _⟩ := id h2
  refine ⟨same_l (fun b u q => ?_) (sql_nt z.scr), ⟨o, e _ _ h1 (fun ps q => by rw [eo] at q; cases q), h2⟩, t⟩
  obtain ⟨q, n⟩ := nt_at q
  have bp : b ≠ p := fun y => by
    rw [y, wo_at] at q
    cases q
  rw [wo_ne bp] at q ⊢
  exact e _ _ q (tb_no n)
/-- a list of rows beside the source -/
structure Rw3 (K : PySem.W.Frag) (H : Hp) (p l : Addr) (w : Nat) (rows : List (List Nat)) : Prop where
  ne : l ≠ p
  at_ : ∃ us, H l = some (.lst us) ∧ DpAll K H us (rows.map gd)
  ok : ∀ r ∈ rows, RowOk w r
theorem Rw3.grow (z : Rw3 K H p l w rows) (e : Same H H') : Rw3 K H' p l w rows := by
  obtain ⟨us, h1, h2⟩ := z.at_
  exact ⟨z.ne, ⟨us, e _ _ h1, dps_same e _ _ h2⟩, z.ok⟩
theorem Rw3.run (z : Rw3 K H p l w rows) (s : Src H p) (r : Ran H H' p) : Rw3 K H' p l w rows := by
  obtain ⟨us, h1, h2⟩ := z.at_
  exact ⟨z.ne, ⟨us, r.at_ h1 z.ne, gds_T (r.T s) h2⟩, z.ok⟩
theorem Rw3.ext (z : Rw3 K H p l w rows) (e : ExtN H H') : Rw3 K H' p l w rows := by
  obtain ⟨us, h1, h2⟩ := z.at_
  exact ⟨z.ne, ⟨us, ext_lst e h1, dps_ext e _ _ h2⟩, z.ok⟩
theorem Rw3.of {n : Nat} (m : MadeF gd K H l n H' rows) (nl : H l = none) (s : Src H p) (ok : ∀ r ∈ rows, RowOk w r) : Rw3 K H' p l w rows := by
  obtain ⟨us, e1, e2, e3, _⟩ := m
  obtain ⟨o, h1, _⟩ := s
  exact ⟨(ne_of_none h1 nl).symm, ⟨us, e2, dps_same (wo_le l) _ _ e3⟩, ok⟩
theorem Rw3.new {us : List V} (nl : H l = none) (s : Src H p) (d : DpAll K H us (rows.map gd)) (ok : ∀ r ∈ rows, RowOk w r) : Rw3 K (upd H l (.lst us)) p l w rows := by
  obtain ⟨o, h1, _⟩ := s
  exact ⟨(ne_of_none h1 nl).symm, ⟨us, upd_same, dps_same (same_new nl) _ _ d⟩, ok⟩
theorem go_right {g g' : Addr} {ts : List (List Nat)} {Q : VK} {E : XK} (W : W3 K Ts H a p ns) (x : Rw3 K H p g w rows) (y : Rw3 K H p g' v ts) (w1 : 1 ≤ w) (w6 : w ≤ 6) (v1 : 1 ≤ v) (v6 : v ≤ 6) (lx : rows.length ≤ 400) (ly : ts.length ≤ 400) (fp : rows.length * ts.length ≤ 90000)
    (q : ∀ H', ExtN H H' → W3 K Ts H' a p ns → Q (.bl true) H') : spRight K Ts [.int (w : Int), .ref g, .int (v : Int), .ref g'] H Q E := by
  obtain ⟨us, h1, h2⟩ := x.at_
  obtain ⟨us', h1', h2'⟩ := y.at_
  exact ⟨w, v, g, g', us, us', rows, ts, rfl, h1, h2, h1', h2', w1, w6, x.ok, lx, v1, v6, y.ok, ly, fp, W.tab, fun H' e t => q H' e (W.ext e t)⟩
theorem choose_nat {xs : List Nat} {Q : VK} {E : XK} (W : W3 K Ts H a p ns) (nl : H l = none) (l0 : 0 < xs.length) (l1 : xs.length < 1000) (q : ∀ x ∈ xs, ∀ H', Ran H H' p → Q (.int (x : Int)) H') : spChoose K [.ref p, .ref l] (upd H l (.lst (nms xs))) Q E := by
  obtain ⟨o, h1, h2⟩ := W.src
  have lp : l ≠ p := (ne_of_none h1 nl).symm
  refine ⟨p, _, rfl, (W.grow (same_new nl)).src, .inl ⟨l, nms xs, rfl, .inl (.inl (by rw [wo_ne lp]; exact upd_same)), by rw [nms_len]; exact l0, by rw [nms_len]; exact l1, fun i x H' hx r => ?_⟩⟩
  obtain ⟨m, hm, rfl⟩ := nms_at hx
  exact q m (List.mem_of_getElem? hm) H' ⟨(wo_same (same_new nl)).trans r.same, r.src⟩
theorem mk_row {D : Addr} {n : Nat} {H0 : Hp} {rs : List (List Nat)} {r : List Nat} (m : MadeF gd K H0 D n H rs) (h9 : n < 100000) (nt : H t = none) : ∃ acc, (upd H t (.tup (nms r))) D = some (.lst acc) ∧ acc.length < sizeLine ∧ MadeF gd K H0 D (n + 1) (upd (upd H t (.tup (nms r))) D (.lst (acc ++ [.ref t]))) (rs ++ [r]) := m.push h9 (Nat.lt_succ_self _) (same_new nt) (dp_gd (m.tup nt))
theorem rows_ok {m : Nat} {f : Nat → List Nat} (h : ∀ i, i < m → RowOk 2 (f i)) : ∀ r ∈ (List.range m).map f, RowOk 2 r := fun r hr => by
  obtain ⟨i, hi, rfl⟩ := List.mem_map.mp hr
  exact h i (List.mem_range.mp hi)
theorem row2 {x y : Nat} (h1 : x ≤ 9999) (h2 : y ≤ 9999) : RowOk 2 [x, y] := ⟨rfl, fun v hv => by
  simp only [List.mem_cons, List.not_mem_nil, or_false] at hv
  rcases hv with rfl | rfl
  · exact h1
  · exact h2⟩
end
section
variable {P : Program} {w : World} {K : PySem.W.Frag} {mg : Str → Option Value} {base : Heap} {kA : Addr}
abbrev nLw : List Str := ["_law_script", "_law_k", "_law_source_here", "_law_lap", "_law_width", "_law_wide", "_law_top", "_law_lines_here", "_law_others", "_law_one", "_law_odd", "_law_told", "_law_great", "_law_at"]
theorem scLaw : FnScope nLw ["_law_script"] (defScope sLaw) := ⟨rfl, rfl, rfl, by decide +kernel, rfl, by decide +kernel, by decide +kernel⟩
theorem ok_law {k : Nat} {f c Pt C CN CU CM CE : Addr} {fd : FuncData} {Ts : List (Addr × Str)} (F : GD.FunC K "law" "law" sLaw f fd c) (tb : TabB base mg c Pt) (hmT : (Pt, qLaw) ∈ Ts) (hu : ∀ p ∈ Ts, p.1 = Pt → p.2 = qLaw) (T : Glb K mg kA) (TC : TxtT K mg C) (ic : C8.InsC K C) (no : NoIns K C) (eN : ExcK K mg "NotTable" CN) (eU : ExcK K mg "UnlikeWidths" CU) (eM : ExcK K mg "TooMuch" CM) (e3 : Exc3 K CN CU CM) (gE : mg "ColumnError" = some (.ref CE))
    (rd : ReadT P w K mg base C 5) (pW : Prp P w K mg base C "width" "span") (pR : Prp P w K mg base C "rows" "lines") (ad : AddT P w K mg base C CN CU CM 5) (mu : MulT P w K mg base C CN CU CM 5) (sd : Df K mg "_law_said" sSaid ["_law_call"])
    (cS : Cal P w K mg base "_law_source" ["_law_cell_here"] spSource 1) (cK : Cal P w K mg base "_law_cell" ["_law_script", "_law_index"] (spCell K) 1) (cD : Cal P w K mg base "_law_draw" ["_law_source_here", "_law_many"] spDraw2 1) (cC : Cal P w K mg base "_law_choose" ["_law_source_here", "_law_values"] (spChoose K) 2) (cN : Cal P w K mg base "_law_lines" ["_law_source_here", "_law_width", "_law_most", "_law_value"] (spLines K) 2)
    (cX : Cal P w K mg base "_law_text" ["_law_lines_here"] (spTTx K) 1) (cR : GD.CalG P w K mg base "_law_is_right" ["_law_width", "_law_lines_here", "_law_wide", "_law_others"] (spRight K Ts) 8) : GD.FnG P w K mg base CX0 (k + 9) f fd ["_law_script"] (spLaw K Ts) := by
  have GS := cS.ok (k + 8) (by omega)
  have GK := cK.ok (k + 8) (by omega)
  have GDr := cD.ok (k + 8) (by omega)
  have GC := cC.ok (k + 8) (by omega)
  have GN := cN.ok (k + 8) (by omega)
  have GX := cX.ok (k + 8) (by omega)
  have GR := cR.ok (k + 8) (by omega)
  have GT := rd.ok (k + 8) (by omega)
  have GA := ad.ok (k + 6) (by omega)
  have GM := mu.ok (k + 6) (by omega)
  obtain ⟨sg, sfd, sF, sb, smg⟩ := sd
  have skp := sF.kp
  obtain ⟨oc, od, kV, doc, pm, an, scd, ct, osl, rfl, slk, shcd⟩ := sF.ex
  refine GD.fun_okGC F scLaw (fun vs H Q E h => ?_) (fun A outer s H vs Q E calm hr h => ?_)
  · obtain ⟨a, ns, rfl, _⟩ := h
    rfl
  · obtain ⟨a, ns, rfl, ha, hl, tabs, q⟩ := h
    have n := scLaw.nd
    have hu64 : (A.deeper (PyProof.Rows.envOfC (Str.ofString "law") (defScope sLaw) s.heap.objs.size f (.ref c))).units + 64 < cLine := by
      have := hr.un
      omega
    have LA : ∀ (pn : List (Addr × Obj)) (xe : Value → Shared → Prop) (p1 p2 p3 p4 p5 p6 : Pos), PE ((cxOf CX0 P w K mg base nLw "law" (defScope sLaw) f (.ref c) A outer s H E).nox.tr pn xe) (.Call (.Name "_law_said" p1) [.Lambda a0 (.BinOp (.Name "_law_one" p2) .Add (.Name "_law_odd" p3) p4) sc0 p5] [] p6) (tLam Ts (TSaid K C CN CU CM) (fun E => OC.tAddX K C (spTAdd K C CN CU CM) (fun _ => E) (tVar 9) (tVar 10))) := fun pn xe p1 p2 p3 p4 p5 p6 =>
      pe_lamcall (k := k + 6) rfl smg skp slk shcd sb scSaid rfl (.inl rfl) (said_gives (j := k + 5) T TC ic eN eU eM e3 pW pR hr) tb rfl hmT hu hr (lamS_by (sc := defScope sLaw) (by decide +kernel)) rfl (fun _ _ _ _ _ => rfl) (fun A outer s H E f c' hr => OC.pe_addX ad.sf ad.fi ad.fr ad.fn no.sub GA hr (fun σ => passAt takes_lam σ) (pv 9) (pv 10))
    have LM : ∀ (pn : List (Addr × Obj)) (xe : Value → Shared → Prop) (p1 p2 p3 p4 p5 p6 : Pos), PE ((cxOf CX0 P w K mg base nLw "law" (defScope sLaw) f (.ref c) A outer s H E).nox.tr pn xe) (.Call (.Name "_law_said" p1) [.Lambda a0 (.BinOp (.Name "_law_one" p2) .Mult (.Name "_law_odd" p3) p4) sc0 p5] [] p6) (tLam Ts (TSaid K C CN CU CM) (fun E => OC.tAddX K C (spTMul K C CN CU CM) (fun _ => E) (tVar 9) (tVar 10))) := fun pn xe p1 p2 p3 p4 p5 p6 =>
      pe_lamcall (k := k + 6) rfl smg skp slk shcd sb scSaid rfl (.inl rfl) (said_gives (j := k + 5) T TC ic eN eU eM e3 pW pR hr) tb rfl hmT hu hr (lamS_by (sc := defScope sLaw) (by decide +kernel)) rfl (fun _ _ _ _ _ => rfl) (fun A outer s H E f c' hr => OC.pe_mulX mu.sf mu.fi mu.fr mu.fn no.sub GM hr (fun σ => passAt takes_lam σ) (pv 9) (pv 10))
    refine ⟨_, (pss_one (ps_try_only rfl rfl ⟨rfl, by decide, .inl gE⟩ LamX.takes0 (fun W pn xe tk po => (pss_cons (ps_for po rfl (pi_range1 (by rfl) T.rng (pa_cons (pe_callB (call_max2 rfl) (by rfl) T.max (by decide +kernel) (pa_cons pe_int (pa_cons (pe_callB (call_min2 rfl) (by rfl) T.min (by decide +kernel) (pa_cons (pe_callB (r := rLenSq K) call_lenSq (by rfl) T.len PySem.boot_len (pa_cons (pv 0) pa_nil)) (pa_cons pe_int pa_nil))) pa_nil))) pa_nil)) (pg_name (i := 1) n rfl (.inl rfl))
      (pss_cons (ps_set (i := 2) n rfl (.inl rfl) (pe_call GS hr rfl cS.g cS.kp cS.b .nil pass0 (pa_cons (pe_call GK hr rfl cK.g cK.kp cK.b .nil pass0 (pa_cons (pv 0) (pa_cons (pv 1) pa_nil))) pa_nil)))
      (pss_cons (ps_for po rfl (pi_range1 (by rfl) T.rng (pa_cons pe_int pa_nil)) (pg_name (i := 3) n rfl (.inl rfl))
      (pss_cons (ps_set (i := 4) n rfl (.inl rfl) (pe_op op_add pe_int (pe_call GDr hr rfl cD.g cD.kp cD.b .nil pass0 (pa_cons (pv 2) (pa_cons pe_int pa_nil)))))
      (pss_cons (ps_set (i := 5) n rfl (.inl rfl) (pe_call GC hr rfl cC.g cC.kp cC.b .nil pass0 (pa_cons (pv 2) (pa_cons (pe_lst (pa_cons (pv 4) (pa_cons (pv 4) (pa_cons (pv 4) (pa_cons (pe_op op_add pe_int (pe_call GDr hr rfl cD.g cD.kp cD.b .nil pass0 (pa_cons (pv 2) (pa_cons pe_int pa_nil)))) pa_nil))))) pa_nil))))
      (pss_cons (ps_set (i := 6) n rfl (.inl rfl) (pe_call GC hr rfl cC.g cC.kp cC.b .nil pass0 (pa_cons (pv 2) (pa_cons (pe_lst (pa_cons pe_int (pa_cons pe_int (pa_cons pe_int (pa_cons pe_int pa_nil))))) pa_nil))))
      (pss_cons (ps_set (i := 7) n rfl (.inl rfl) (pe_call GN hr rfl cN.g cN.kp cN.b .nil pass0 (pa_cons (pv 2) (pa_cons (pv 4) (pa_cons (pe_call GC hr rfl cC.g cC.kp cC.b .nil pass0 (pa_cons (pv 2) (pa_cons (pe_lst (pa_cons pe_int (pa_cons pe_int (pa_cons pe_int pa_nil)))) pa_nil))) (pa_cons (pv 6) pa_nil))))))
      (pss_cons (ps_set (i := 8) n rfl (.inl rfl) (pe_call GN hr rfl cN.g cN.kp cN.b .nil pass0 (pa_cons (pv 2) (pa_cons (pv 5) (pa_cons (pe_call GC hr rfl cC.g cC.kp cC.b .nil pass0 (pa_cons (pv 2) (pa_cons (pe_lst (pa_cons pe_int (pa_cons pe_int (pa_cons pe_int pa_nil)))) pa_nil))) (pa_cons (pe_call GC hr rfl cC.g cC.kp cC.b .nil pass0 (pa_cons (pv 2) (pa_cons (pe_lst (pa_cons pe_int (pa_cons pe_int (pa_cons pe_int pa_nil)))) pa_nil))) pa_nil))))))
      (pss_cons (ps_if (pt_not (pt_val (GD.pe_callG GR calm hr rfl cR.g cR.kp cR.b pass0 (pa_cons (pv 4) (pa_cons (pv 7) (pa_cons (pv 5) (pa_cons (pv 8) pa_nil))))))) (pss_one (ps_ret pe_bl)) pss_nil)
      (pss_cons (ps_set (i := 9) n rfl (.inr rfl) (ClX.pe_cmeth (pe_glob (v := .ref C) rfl TC.mgC rfl) rd.rD rd.cD GT hr pass0 (pa_cons (pv 4) (pa_cons (pe_call GX hr rfl cX.g cX.kp cX.b .nil pass0 (pa_cons (pv 7) pa_nil)) pa_nil))))
      (pss_one (ps_for po rfl (show PI _ _ _ (iList K _) from pi_list (pe_lst (pa_cons pe_non (pa_cons pe_int (pa_cons pe_int (pa_cons pe_bl (pa_cons (pe_call GX hr rfl cX.g cX.kp cX.b .nil pass0 (pa_cons (pv 7) pa_nil)) (pa_cons (pv 7) (pa_cons pe_dnewK (pa_cons (pe_lst (pa_cons (pv 9) pa_nil)) (pa_cons (pe_tup pa_nil) pa_nil))))))))))) (pg_name (i := 10) n rfl (.inr rfl))
      (pss_cons (ps_set (i := 11) n rfl (.inl rfl) (pe_lst (pa_cons (LA pn xe _ _ _ _ _ _) pa_nil)))
      (pss_cons (ps_expr (show PE _ _ (tBM K "list" rAppend (tVar 11) (tCons (tLam Ts (TSaid K C CN CU CM) (fun E => OC.tAddX K C (spTMul K C CN CU CM) (fun _ => E) (tVar 9) (tVar 10))) tNil)) from pe_bm PySem.F.plainAttrs_list PySem.F.slot_list_append PySem.F.type_list_append mt_append (pv 11) (pa_cons (LM pn xe _ _ _ _ _ _) pa_nil)))
      (pss_one (ps_if (pt_cmpR (r := rNeD K) (op_neD hu64) (pv 11) (pe_lst (pa_cons pe_str (pa_cons pe_str pa_nil))) (nomark _)) (pss_one (ps_ret pe_bl)) pss_nil))))))))))))))
      (pss_cons (ps_setLc (i := 7) (own := [("_law_at", 13)]) (g := gName 13) (tt := tYes) (te := tTup (tCons (tVar 13) (tCons (tC (.int 7)) tNil))) rfl n rfl rfl (sw_true rfl rfl rfl (by decide +kernel)) (pi_range1 (by rfl) T.rng (pa_cons (pe_op op_add pe_int (pe_call GDr hr rfl cD.g cD.kp cD.b .nil pass0 (pa_cons (pv 2) (pa_cons pe_int pa_nil)))) pa_nil)) (blkOk_by (N := nLw) (sc := defScope sLaw) (by decide +kernel)) (fun _ _ _ _ _ => (pg_name (i := 13) n rfl (.inl rfl))) (fun _ _ _ _ _ => pts_nil) (fun _ _ _ _ _ => (pe_tup (pa_cons (pv 13) (pa_cons pe_int pa_nil)))))
      (pss_cons (ps_setLc (i := 8) (own := [("_law_at", 13)]) (g := gName 13) (tt := tYes) (te := tTup (tCons (tC (.int 7)) (tCons (tVar 13) tNil))) rfl n rfl rfl (sw_true rfl rfl rfl (by decide +kernel)) (pi_range1 (by rfl) T.rng (pa_cons (pe_call GDr hr rfl cD.g cD.kp cD.b .nil pass0 (pa_cons (pv 2) (pa_cons pe_int pa_nil))) pa_nil)) (blkOk_by (N := nLw) (sc := defScope sLaw) (by decide +kernel)) (fun _ _ _ _ _ => (pg_name (i := 13) n rfl (.inl rfl))) (fun _ _ _ _ _ => pts_nil) (fun _ _ _ _ _ => (pe_tup (pa_cons pe_int (pa_cons (pv 13) pa_nil)))))
      (pss_cons (ps_if (PW.pt (pw_or (pt_not (pt_val (GD.pe_callG GR calm hr rfl cR.g cR.kp cR.b pass0 (pa_cons pe_int (pa_cons (pv 7) (pa_cons pe_int (pa_cons (pv 8) pa_nil))))))) (pw_or1 (pt_not (pt_val (GD.pe_callG GR calm hr rfl cR.g cR.kp cR.b pass0 (pa_cons pe_int (pa_cons (pv 8) (pa_cons pe_int (pa_cons (pv 7) pa_nil)))))))))) (pss_one (ps_ret pe_bl)) pss_nil)
      (pss_cons (ps_for po rfl (show PI _ _ _ (iList K _) from pi_list (pe_lst (pa_cons (pe_tup (pa_cons pe_int (pa_cons pe_int pa_nil))) (pa_cons (pe_tup (pa_cons pe_int (pa_cons pe_int pa_nil))) (pa_cons (pe_tup (pa_cons pe_int (pa_cons pe_int pa_nil))) pa_nil))))) (pg_name (i := 12) n rfl (.inl rfl))
      (pss_one (ps_if (PW.pt (pw_or (pt_not (pt_val (GD.pe_callG GR calm hr rfl cR.g cR.kp cR.b pass0 (pa_cons pe_int (pa_cons (pe_lst pa_nil) (pa_cons pe_int (pa_cons (pe_lst (pa_cons (pv 12) pa_nil)) pa_nil))))))) (pw_or1 (pt_not (pt_val (GD.pe_callG GR calm hr rfl cR.g cR.kp cR.b pass0 (pa_cons pe_int (pa_cons (pe_lst (pa_cons (pv 12) pa_nil)) (pa_cons pe_int (pa_cons (pe_lst pa_nil) pa_nil)))))))))) (pss_one (ps_ret pe_bl)) pss_nil)))
      (pss_cons (ps_par (i := 7) (j := 8) rfl n rfl rfl (by decide) rfl rfl (pa_cons (pe_lc (own := [("_law_at", 13)]) (g := gName 13) (tt := tYes) (te := tTup (tCons (tC (.int 1)) (tCons (tVar 13) tNil))) rfl n (pi_range1 (by rfl) T.rng (pa_cons pe_int pa_nil)) (blkOk_by (N := nLw) (sc := defScope sLaw) (by decide +kernel)) (fun _ _ _ _ _ => (pg_name (i := 13) n rfl (.inl rfl))) (fun _ _ _ _ _ => pts_nil) (fun _ _ _ _ _ => (pe_tup (pa_cons pe_int (pa_cons (pv 13) pa_nil))))) (pa_cons (pe_lc (own := [("_law_at", 13)]) (g := gName 13) (tt := tYes) (te := tTup (tCons (tVar 13) (tCons (tC (.int 2)) tNil))) rfl n (pi_range1 (by rfl) T.rng (pa_cons (pe_op op_add pe_int (pe_call GDr hr rfl cD.g cD.kp cD.b .nil pass0 (pa_cons (pv 2) (pa_cons pe_int pa_nil)))) pa_nil)) (blkOk_by (N := nLw) (sc := defScope sLaw) (by decide +kernel)) (fun _ _ _ _ _ => (pg_name (i := 13) n rfl (.inl rfl))) (fun _ _ _ _ _ => pts_nil) (fun _ _ _ _ _ => (pe_tup (pa_cons (pv 13) (pa_cons pe_int pa_nil))))) pa_nil)) (by rfl))
      (pss_one (ps_if (pt_not (pt_val (GD.pe_callG GR calm hr rfl cR.g cR.kp cR.b pass0 (pa_cons pe_int (pa_cons (pv 7) (pa_cons pe_int (pa_cons (pv 8) pa_nil))))))) (pss_one (ps_ret pe_bl)) pss_nil))))))))))
      (pss_one (ps_ret pe_bl)))) (fun a oe cls d pn _ _ => (pss_one (ps_ret pe_bl))))), ?_⟩
    refine ⟨_, rfl, a, _, rfl, .inl ha, _, _, rfl, _, _, rfl, _, rfl, ?_, ?_, ?_⟩
    · split <;> split <;> omega
    · rw [List.length_map]
      split <;> split <;> omega
    generalize (if (if (3 : Int) < (((ns.map V.int).length : Nat) : Int) then (3 : Int) else (((ns.map V.int).length : Nat) : Int)) > 1 then (if (3 : Int) < (((ns.map V.int).length : Nat) : Int) then (3 : Int) else (((ns.map V.int).length : Nat) : Int)) else (1 : Int)) = top
    refine for_range (lo := 0) (n := top.toNat) (fun i σ H1 => ∃ y1 y2 y3 y4 y5 y6 y7 y8 y9 y10 y11 y12, σ = [some (.ref a), y1, y2, y3, y4, y5, y6, y7, y8, y9, y10, y11, y12, none] ∧ SqL K H1 a (ns.map V.int) ∧ Tabs Ts H1) ⟨none, none, none, none, none, none, none, none, none, none, none, none, rfl, ha, tabs⟩ ?_ ?_
    · rintro i σ H1 hi ⟨y1, y2, y3, y4, y5, y6, y7, y8, y9, y10, y11, y12, rfl, ha1, tabs1⟩
      refine ⟨_, rfl, _, rfl, a, ns, i, by rw [Int.zero_add]; rfl, ha1, fun z => ?_⟩
      refine ⟨z, rfl, fun p o np ho => ?_⟩
      have W2 : W3 K Ts (upd H1 p o) a p ns := ⟨same_l (new_view' np) ha1, ⟨o, upd_same, ho⟩, tabs1.ext (same_new np)⟩
      generalize upd H1 p o = H2 at W2
      refine ⟨_, rfl, by decide, by decide, ?_⟩
      refine for_range (lo := 0) (n := ((6 : Int)).toNat) (fun j σ H3 => ∃ y1 y3 y4 y5 y6 y7 y8 y9 y10 y11 y12, σ = [some (.ref a), y1, some (.ref p), y3, y4, y5, y6, y7, y8, y9, y10, y11, y12, none] ∧ W3 K Ts H3 a p ns) ⟨_, _, _, _, _, _, _, _, _, _, _, rfl, W2⟩ ?_ ?_
      · rintro j σ H3 hj ⟨y1, y3, y4, y5, y6, y7, y8, y9, y10, y11, y12, rfl, W3'⟩
        refine ⟨_, rfl, p, 6, rfl, W3'.src, by decide, by decide, fun d H4 hd r4 => ⟨_, _, rfl, rfl, ?_⟩⟩
        dsimp only
        rw [show (1 + (d : Int)) = ((d + 1 : Nat) : Int) by omega]
        obtain ⟨w, ew⟩ : ∃ w, w = d + 1 := ⟨_, rfl⟩
        rw [← ew]
        have w1 : 1 ≤ w := by omega
        have w6 : w ≤ 6 := by omega
        have W4 := W3'.run r4
        -- wide
        refine ⟨_, rfl, _, rfl, _, rfl, _, rfl, _, rfl, p, 6, rfl, W4.src, by decide, by decide, fun d2 H5 hd2 r5 => ⟨_, _, rfl, rfl, (by show 4 ≤ sizeLine; decide), fun l1 n1 => ?_⟩⟩
        dsimp only
        rw [show (1 + (d2 : Int)) = ((d2 + 1 : Nat) : Int) by omega]
        have W5 := W4.run r5
        refine choose_nat (E := E0) (xs := [w, w, w, d2 + 1]) W5 n1 (by show 0 < 4; decide) (by show 4 < 1000; decide) fun v hv H6 r6 => ?_
        have v16 : 1 ≤ v ∧ v ≤ 6 := by
          simp only [List.mem_cons, List.not_mem_nil, or_false] at hv
          omega
        obtain ⟨v1, v6⟩ := v16
        have W6 := W5.run r6
        clear hv r4 r5 r6 W3' W4 W5 W2
        -- top
        refine ⟨_, rfl, (by show 4 ≤ sizeLine; decide), fun l2 n2 => ?_⟩
        refine choose_nat (E := E0) (xs := [3, 99, 99, 100]) W6 n2 (by show 0 < 4; decide) (by show 4 < 1000; decide) fun tp ht H7 r7 => ?_
        have tp1 : tp ≤ 9999 := by
          simp only [List.mem_cons, List.not_mem_nil, or_false] at ht
          omega
        have W7 := W6.run r7
        -- the rows
        refine ⟨_, rfl, _, rfl, _, rfl, (by show 3 ≤ sizeLine; decide), fun l3 n3 => ?_⟩
        refine choose_nat (E := E0) (xs := [2, 6, 21]) W7 n3 (by show 0 < 3; decide) (by show 3 < 1000; decide) fun m hm H8 r8 => ?_
        have m1 : m ≤ 21 := by
          simp only [List.mem_cons, List.not_mem_nil, or_false] at hm
          omega
        have W8 := W7.run r8
        refine ⟨_, rfl, p, w, m, tp, rfl, W8.src, w1, w6, by omega, tp1, fun g kk H9 hk lr => ?_⟩
        have W9 := W8.run lr.ran
        obtain ⟨us, rs, hg, dg, rv, rlen⟩ := id lr.lst
        have X9 : Rw3 K H9 p g w rs := ⟨lr.nes, ⟨us, hg, dg⟩, fun r hr => ⟨(rv r hr).1, fun x hx => Nat.le_trans ((rv r hr).2 x hx) tp1⟩⟩
        have rl : rs.length ≤ 21 := by omega
        clear hg dg rv lr ht hm r7 r8 W6 W7 W8
        refine ⟨_, rfl, _, rfl, _, rfl, (by show 3 ≤ sizeLine; decide), fun l4 n4 => ?_⟩
        refine choose_nat (E := E0) (xs := [2, 6, 21]) W9 n4 (by show 0 < 3; decide) (by show 3 < 1000; decide) fun m hm H10 r10 => ?_
        have m1 : m ≤ 21 := by
          simp only [List.mem_cons, List.not_mem_nil, or_false] at hm
          omega
        have X10 := X9.run W9.src r10
        have W10 := W9.run r10
        refine ⟨_, rfl, (by show 3 ≤ sizeLine; decide), fun l5 n5 => ?_⟩
        refine choose_nat (E := E0) (xs := [3, 99, 100]) W10 n5 (by show 0 < 3; decide) (by show 3 < 1000; decide) fun t hm2 H11 r11 => ?_
        have t1 : t ≤ 9999 := by
          simp only [List.mem_cons, List.not_mem_nil, or_false] at hm2
          omega
        have X11 := X10.run W10.src r11
        have W11 := W10.run r11
        refine ⟨p, v, m, t, rfl, W11.src, v1, v6, by omega, t1, fun g' kk' H12 hk' lr => ?_⟩
        have X12 := X11.run W11.src lr.ran
        have W12 := W11.run lr.ran
        obtain ⟨us', ts, hg', dg', rv, rlen'⟩ := id lr.lst
        have Y12 : Rw3 K H12 p g' v ts := ⟨lr.nes, ⟨us', hg', dg'⟩, fun r hr => ⟨(rv r hr).1, fun x hx => Nat.le_trans ((rv r hr).2 x hx) t1⟩⟩
        have tl : ts.length ≤ 21 := by omega
        clear hg' dg' rv lr hm hm2 r10 r11 W9 W10 W11 X9 X10 X11
        -- both ways
        refine ⟨_, rfl, _, rfl, _, rfl, _, rfl, ?_⟩
        dsimp only [tNil, tCons, List.cons_append, List.nil_append]
        refine go_right (E := _) W12 X12 Y12 w1 w6 v1 v6 (by omega) (by omega) (Nat.le_trans (Nat.mul_le_mul rl tl) (by decide)) fun H13 x13 W13 => ?_
        refine ⟨_, rfl, iteF ?_⟩
        have X13 := X12.ext x13
        clear x13 X12 Y12 W12
        obtain ⟨ux, hx1, hx2⟩ := id X13.at_
        -- a table and what is no table
        refine ⟨rfl, _, rfl, _, rfl, g, ux, w, rs, rfl, SqL.of hx1, hx2, w6, X13.ok, by omega, fun H14 s14 => ?_⟩
        refine ⟨w, rs, rfl, w1, w6, X13.ok, by omega, fun x H15 s15 nx tx => ?_⟩
        have s1315 := s14.trans s15
        have W15 := W13.grow s1315
        have X15 := X13.grow s1315
        obtain ⟨ux, hx1, hx2⟩ := id X15.at_
        clear s1315 s14 s15 W13 X13 nx
        refine ⟨_, rfl, g, ux, w, rs, rfl, SqL.of hx1, hx2, w6, X15.ok, by omega, fun H16 s16 => ?_⟩
        refine ⟨_, rfl, fun pd npd => ?_⟩
        have s17 : Same H16 (upd H16 pd (.dK [])) := same_new npd
        have hpd : (upd H16 pd (.dK [])) pd = some (.dK []) := upd_same
        generalize upd H16 pd (.dK []) = H17 at s17 hpd
        refine ⟨_, rfl, (by show 1 ≤ sizeLine; decide), fun lo nlo => ?_⟩
        have s18 : Same H17 (upd H17 lo (.lst [.ref x])) := same_new nlo
        have hlo : (upd H17 lo (.lst [.ref x])) lo = some (.lst [.ref x]) := upd_same
        generalize upd H17 lo (.lst [.ref x]) = H18 at s18 hlo
        refine ⟨Nat.zero_le _, fun te nte => ?_⟩
        have s19 : Same H18 (upd H18 te (.tup [])) := same_new nte
        have hte : (upd H18 te (.tup [])) te = some (.tup []) := upd_same
        generalize upd H18 te (.tup []) = H19 at s19 hte
        refine ⟨(by show 9 ≤ sizeLine; decide), fun lw nlw => ?_⟩
        have s20 : Same H19 (upd H19 lw (.lst [.non, .int 0, .int 2, .bl true, .str (textT rs), .ref g, .ref pd, .ref lo, .ref te])) := same_new nlw
        have hlw : (upd H19 lw (.lst [.non, .int 0, .int 2, .bl true, .str (textT rs), .ref g, .ref pd, .ref lo, .ref te])) lw = some (.lst [.non, .int 0, .int 2, .bl true, .str (textT rs), .ref g, .ref pd, .ref lo, .ref te]) := upd_same
        generalize upd H19 lw (.lst [.non, .int 0, .int 2, .bl true, .str (textT rs), .ref g, .ref pd, .ref lo, .ref te]) = H20 at s20 hlw
        have sN := s16.trans (s17.trans (s18.trans (s19.trans s20)))
        have W20 := W15.grow sN
        have tx20 := tx.same sN
        have hx20 := sN _ _ hx1
        have hpd20 := (s18.trans (s19.trans s20)) _ _ hpd
        have hlo20 := (s19.trans s20) _ _ hlo
        have hte20 := s20 _ _ hte
        have okx := X15.ok
        clear s16 s17 s18 s19 s20 sN hpd hlo hte hx2 hx1 W15 X15 tx
        refine ⟨lw, rfl, ⟨_, SqL.of hlw⟩, ?_⟩
        refine for_list (xs := [.non, .int 0, .int 2, .bl true, .str (textT rs), .ref g, .ref pd, .ref lo, .ref te]) (fun k σ H' => ∃ y10 y11, σ = [some (.ref a), y1, some (.ref p), some (.int (0 + (j : Int))), some (.int (w : Int)), some (.int (v : Int)), some (.int (tp : Int)), some (.ref g), some (.ref g'), some (.ref x), y10, y11, y12, none] ∧ ExtN H20 H' ∧ Tabs Ts H') ⟨_, _, rfl, ExtN.refl _, W20.tab⟩ (fun k σ H' _ ⟨_, _, _, e, _⟩ => SqL.of (ext_lst e hlw)) ?_ ?_
        · rintro k o σ H21 ho ⟨y10', y11', rfl, x21, tb21⟩
          have odd : ∀ H', ExtN H20 H' → OC.OddV K H' o := fun H' e => by
            match k, ho with
            | 0, h => simp at h; subst h; exact ⟨_, .base .non, by decide⟩
            | 1, h => simp at h; subst h; exact ⟨_, .base (.int _), by decide⟩
            | 2, h => simp at h; subst h; exact ⟨_, .base (.int _), by decide⟩
            | 3, h => simp at h; subst h; exact ⟨_, .base (.bl _), by decide⟩
            | 4, h => simp at h; subst h; exact ⟨_, .base (.str _), by decide⟩
            | 5, h => simp at h; subst h; exact ⟨_, .base (.lst (ext_lst e hx20)), by decide⟩
            | 6, h => simp at h; subst h; exact ⟨_, .base (.dK (e _ _ hpd20 (tb_no rfl))), by decide⟩
            | 7, h => simp at h; subst h; exact ⟨_, .base (.lst (ext_lst e hlo20)), by decide⟩
            | 8, h => simp at h; subst h; exact ⟨_, .base (.tup (ext_tup e hte20)), by decide⟩
            | _ + 9, h => simp at h
          refine ⟨tb21, fun H22 x22 tb22 => ?_⟩
          have x022 := x21.trans x22
          refine lam_oddA rfl rfl (tx20.ext x022) (odd _ x022) w1 w6 okx (by omega) ?_
          refine ⟨(by show 1 ≤ sizeLine; decide), fun l nl => ?_⟩
          have s23 : Same H22 (upd H22 l (.lst [.str "table"])) := same_new nl
          have hl23 : (upd H22 l (.lst [.str "table"])) l = some (.lst [.str "table"]) := upd_same
          generalize upd H22 l (.lst [.str "table"]) = H23 at s23 hl23
          refine ⟨_, rfl, .inl ⟨rfl, _, SqL.of hl23⟩, tb22.ext s23, fun H24 x24 tb24 => ?_⟩
          have x2224 := (ExtN.of s23).trans x24
          have x024 := x022.trans x2224
          have hl24 := ext_lst x24 hl23
          refine lam_oddM rfl rfl (tx20.ext x024) (odd _ x024) w1 w6 okx (by omega) ?_
          refine ⟨l, [.str "table"], .str "table", rfl, rfl, hl24, (by show 1 < sizeLine; decide), ?_⟩
          have hl25 : (upd H24 l (.lst ([.str "table"] ++ [.str "table"]))) l = some (.lst [.str "table", .str "table"]) := upd_same
          have tb25 : Tabs Ts (upd H24 l (.lst ([.str "table"] ++ [.str "table"]))) := tabs_lst tb24 hl24
          have x025 : ExtN H20 (upd H24 l (.lst ([.str "table"] ++ [.str "table"]))) := fun b u e no => by
            rw [upd_ne (ne_of_none (x022 b u e no) nl)]
            exact x024 b u e no
          generalize upd H24 l (.lst ([.str "table"] ++ [.str "table"])) = H25 at hl25 tb25 x025
          refine ⟨_, rfl, (by show 2 ≤ sizeLine; decide), fun l2 nl2 => ?_⟩
          have s26 : Same H25 (upd H25 l2 (.lst [.str "table", .str "table"])) := same_new nl2
          have hl26 : (upd H25 l2 (.lst [.str "table", .str "table"])) l2 = some (.lst [.str "table", .str "table"]) := upd_same
          generalize upd H25 l2 (.lst [.str "table", .str "table"]) = H26 at s26 hl26
          refine ⟨.list [.str "table", .str "table"], .list [.str "table", .str "table"], .lst (SqL.of (s26 _ _ hl25)) (.cons (.str _) (.cons (.str _) .nil)), .lst (SqL.of hl26) (.cons (.str _) (.cons (.str _) .nil)), by decide +kernel, by decide +kernel, _, rfl, iteF' (by decide +kernel) ?_⟩
          exact ⟨_, _, rfl, x025.trans (ExtN.of s26), tb25.ext s26⟩
        · rintro σ H' ⟨y10', y11', rfl, xx, tt⟩
          exact ⟨_, _, _, _, _, _, _, _, _, _, _, rfl, W20.ext xx tt⟩
      · rintro σ H3 ⟨y1, y3, y4, y5, y6, y7, y8, y9, y10, y11, y12, rfl, W3'⟩
        refine ⟨_, rfl, p, 11, rfl, W3'.src, by decide, by decide, fun d H4 hd r4 => ⟨_, _, rfl, rfl, _, rfl, by omega, by omega, fun D1 nD1 => ?_⟩⟩
        have W4 := W3'.run r4
        refine lc_range (lo := 0) (n := (390 + (d : Int)).toNat) (fun i H5 => MadeF gd K H4 D1 i H5 ((List.range i).map fun k => [k, 7]) ∧ i ≤ 400) ⟨MadeF.start, by omega⟩ ?_ ?_
        · rintro i H5 hi ⟨mo, i4⟩
          refine ⟨rfl, yes_if ⟨_, rfl, (by show 2 ≤ sizeLine; decide), fun t nt => ?_⟩⟩
          rw [Int.zero_add]
          obtain ⟨acc, a1, a2, a3⟩ := mk_row (r := [i, 7]) mo (by omega) nt
          rw [List.range_succ, List.map_append]
          exact ⟨acc, a1, a2, a3, by omega⟩
        rintro H5 ⟨mo, _⟩
        rw [show (390 + (d : Int)).toNat = 390 + d by omega] at mo
        have W5 := W4.grow (mo.old nD1)
        have X5 : Rw3 K H5 p D1 2 ((List.range (390 + d)).map fun k => [k, 7]) := Rw3.of mo nD1 W4.src (rows_ok fun i hi => row2 (by omega) (by decide))
        clear mo r4 W4 nD1
        refine ⟨_, rfl, p, 20, rfl, W5.src, by decide, by decide, fun e H6 he r6 => ⟨_, rfl, by omega, by omega, fun D2 nD2 => ?_⟩⟩
        have W6 := W5.run r6
        have X6 := X5.run W5.src r6
        refine lc_range (lo := 0) (n := ((e : Nat) : Int).toNat) (fun i H7 => MadeF gd K H6 D2 i H7 ((List.range i).map fun k => [7, k]) ∧ i ≤ 400) ⟨MadeF.start, by omega⟩ ?_ ?_
        · rintro i H7 hi ⟨mo, i4⟩
          refine ⟨rfl, yes_if ⟨_, rfl, (by show 2 ≤ sizeLine; decide), fun t nt => ?_⟩⟩
          rw [Int.zero_add]
          obtain ⟨acc, a1, a2, a3⟩ := mk_row (r := [7, i]) mo (by omega) nt
          rw [List.range_succ, List.map_append]
          exact ⟨acc, a1, a2, a3, by omega⟩
        rintro H7 ⟨mo, _⟩
        rw [Int.toNat_natCast] at mo
        have W7 := W6.grow (mo.old nD2)
        have X7 := X6.grow (mo.old nD2)
        have Y7 : Rw3 K H7 p D2 2 ((List.range e).map fun k => [7, k]) := Rw3.of mo nD2 W6.src (rows_ok fun i hi => row2 (by decide) (by omega))
        clear mo r6 W5 W6 X5 X6 nD2
        have lx : ((List.range (390 + d)).map fun k => [k, 7]).length ≤ 400 := by rw [List.length_map, List.length_range]; omega
        have ly : ((List.range e).map fun k => [7, k]).length ≤ 19 := by rw [List.length_map, List.length_range]; omega
        refine ⟨_, rfl, _, rfl, ?_⟩
        dsimp only [tNil, tCons, List.cons_append, List.nil_append]
        refine go_right (E := _) (w := 2) (v := 2) W7 X7 Y7 (by decide) (by decide) (by decide) (by decide) lx (by omega) (Nat.le_trans (Nat.mul_le_mul lx ly) (by decide)) fun H8 x8 W8 => ?_
        refine ⟨_, rfl, iteF ?_⟩
        refine ⟨_, rfl, _, rfl, ?_⟩
        dsimp only [tNil, tCons, List.cons_append, List.nil_append]
        refine go_right (E := _) (w := 2) (v := 2) W8 (Y7.ext x8) (X7.ext x8) (by decide) (by decide) (by decide) (by decide) (by omega) lx (Nat.le_trans (Nat.mul_le_mul ly lx) (by decide)) fun H9 x9 W9 => ?_
        refine ⟨_, rfl, iteF ?_⟩
        clear x8 x9 W7 W8 X7 Y7 lx ly
        -- great values
        refine ⟨(by show 2 ≤ sizeLine; decide), fun t1 n1 => ?_⟩
        have s10 : Same H9 (upd H9 t1 (.tup ([.int 100, .int 0]))) := same_new n1
        have h1 : (upd H9 t1 (.tup ([.int 100, .int 0]))) t1 = some (.tup ([.int 100, .int 0])) := upd_same
        refine ⟨(by show 2 ≤ sizeLine; decide), fun t2 n2 => ?_⟩
        have s11 : Same (upd H9 t1 (.tup ([.int 100, .int 0]))) (upd (upd H9 t1 (.tup ([.int 100, .int 0]))) t2 (.tup ([.int 3, .int 9999]))) := same_new n2
        have h2 : (upd (upd H9 t1 (.tup ([.int 100, .int 0]))) t2 (.tup ([.int 3, .int 9999]))) t2 = some (.tup ([.int 3, .int 9999])) := upd_same
        refine ⟨(by show 2 ≤ sizeLine; decide), fun t3 n3 => ?_⟩
        have s12 : Same (upd (upd H9 t1 (.tup ([.int 100, .int 0]))) t2 (.tup ([.int 3, .int 9999]))) (upd (upd (upd H9 t1 (.tup ([.int 100, .int 0]))) t2 (.tup ([.int 3, .int 9999]))) t3 (.tup ([.int 99, .int 99]))) := same_new n3
        have h3 : (upd (upd (upd H9 t1 (.tup ([.int 100, .int 0]))) t2 (.tup ([.int 3, .int 9999]))) t3 (.tup ([.int 99, .int 99]))) t3 = some (.tup ([.int 99, .int 99])) := upd_same
        refine ⟨(by show 3 ≤ sizeLine; decide), fun lg nlg => ?_⟩
        have s13 : Same (upd (upd (upd H9 t1 (.tup ([.int 100, .int 0]))) t2 (.tup ([.int 3, .int 9999]))) t3 (.tup ([.int 99, .int 99]))) (upd (upd (upd (upd H9 t1 (.tup ([.int 100, .int 0]))) t2 (.tup ([.int 3, .int 9999]))) t3 (.tup ([.int 99, .int 99]))) lg (.lst [.ref t1, .ref t2, .ref t3])) := same_new nlg
        have hlg : (upd (upd (upd (upd H9 t1 (.tup ([.int 100, .int 0]))) t2 (.tup ([.int 3, .int 9999]))) t3 (.tup ([.int 99, .int 99]))) lg (.lst [.ref t1, .ref t2, .ref t3])) lg = some (.lst [.ref t1, .ref t2, .ref t3]) := upd_same
        have W13 := W9.grow (s10.trans (s11.trans (s12.trans s13)))
        have g1 := (s11.trans (s12.trans s13)) _ _ h1
        have g2 := (s12.trans s13) _ _ h2
        have g3 := s13 _ _ h3
        clear s10 s11 s12 s13 h1 h2 h3
        refine ⟨lg, rfl, ⟨_, SqL.of hlg⟩, ?_⟩
        generalize upd (upd (upd (upd H9 t1 (.tup ([.int 100, .int 0]))) t2 (.tup ([.int 3, .int 9999]))) t3 (.tup ([.int 99, .int 99]))) lg (.lst [.ref t1, .ref t2, .ref t3]) = H13 at hlg W13 g1 g2 g3
        refine for_list (xs := [.ref t1, .ref t2, .ref t3]) (fun k σ H' => ∃ y12, σ = [some (.ref a), y1, some (.ref p), y3, y4, y5, y6, some (.ref D1), some (.ref D2), y9, y10, y11, y12, none] ∧ ExtN H13 H' ∧ W3 K Ts H' a p ns) ⟨_, rfl, ExtN.refl _, W13⟩ (fun k σ H' _ ⟨_, _, e, _⟩ => SqL.of (ext_lst e hlg)) ?_ ?_
        · rintro k o σ H14 ho ⟨y12', rfl, x14, W14⟩
          obtain ⟨r, rok, od⟩ : ∃ r, RowOk 2 r ∧ ∀ H', ExtN H13 H' → Dp K H' o (gd r) := by
            match k, ho with
            | 0, h => simp at h; subst h; exact ⟨[100, 0], row2 (by decide) (by decide), fun H' e => dp_gd (.inl (.inl (ext_tup e g1)))⟩
            | 1, h => simp at h; subst h; exact ⟨[3, 9999], row2 (by decide) (by decide), fun H' e => dp_gd (.inl (.inl (ext_tup e g2)))⟩
            | 2, h => simp at h; subst h; exact ⟨[99, 99], row2 (by decide) (by decide), fun H' e => dp_gd (.inl (.inl (ext_tup e g3)))⟩
            | _ + 3, h => simp at h
          have rok1 : ∀ q ∈ [r], RowOk 2 q := fun q hq => by rw [List.mem_singleton.mp hq]; exact rok
          have rok0 : ∀ q ∈ ([] : List (List Nat)), RowOk 2 q := fun q hq => nomatch hq
          refine ⟨Nat.zero_le _, fun e1 ne1 => ?_⟩
          have W15 := W14.grow (same_new (o := .lst []) ne1)
          have X15 : Rw3 K (upd H14 e1 (.lst [])) p e1 2 [] := Rw3.new ne1 W14.src .nil rok0
          have x15 : ExtN H13 (upd H14 e1 (.lst [])) := x14.trans (ext_upd ne1)
          generalize upd H14 e1 (.lst []) = H15 at W15 X15 x15
          refine ⟨_, rfl, (by show 1 ≤ sizeLine; decide), fun e2 ne2 => ?_⟩
          have W16 := W15.grow (same_new (o := .lst [o]) ne2)
          have X16 := X15.grow (same_new (o := .lst [o]) ne2)
          have Y16 : Rw3 K (upd H15 e2 (.lst [o])) p e2 2 [r] := Rw3.new ne2 W15.src (.cons (od _ x15) .nil) rok1
          have x16 : ExtN H13 (upd H15 e2 (.lst [o])) := x15.trans (ext_upd ne2)
          generalize upd H15 e2 (.lst [o]) = H16 at W16 X16 Y16 x16
          dsimp only [tNil, tCons, List.cons_append, List.nil_append]
          refine go_right (E := _) (w := 2) (v := 2) W16 X16 Y16 (by decide) (by decide) (by decide) (by decide) (by decide) (by show 1 ≤ 400; decide) (by show 0 * 1 ≤ 90000; decide) fun H17 x17' W17 => ?_
          have x17 := x16.trans x17'
          refine ⟨_, rfl, iteF ?_⟩
          clear x17' W14 W15 W16 X15 X16 Y16 x14 x15 x16 ne1 ne2
          refine ⟨_, rfl, (by show 1 ≤ sizeLine; decide), fun e3 ne3 => ?_⟩
          have W18 := W17.grow (same_new (o := .lst [o]) ne3)
          have X18 : Rw3 K (upd H17 e3 (.lst [o])) p e3 2 [r] := Rw3.new ne3 W17.src (.cons (od _ x17) .nil) rok1
          have x18 : ExtN H13 (upd H17 e3 (.lst [o])) := x17.trans (ext_upd ne3)
          generalize upd H17 e3 (.lst [o]) = H18 at W18 X18 x18
          refine ⟨Nat.zero_le _, fun e4 ne4 => ?_⟩
          have W19 := W18.grow (same_new (o := .lst []) ne4)
          have X19 := X18.grow (same_new (o := .lst []) ne4)
          have Y19 : Rw3 K (upd H18 e4 (.lst [])) p e4 2 [] := Rw3.new ne4 W18.src .nil rok0
          have x19 : ExtN H13 (upd H18 e4 (.lst [])) := x18.trans (ext_upd ne4)
          generalize upd H18 e4 (.lst []) = H19 at W19 X19 Y19 x19
          dsimp only [tNil, tCons, List.cons_append, List.nil_append]
          refine go_right (E := _) (w := 2) (v := 2) W19 X19 Y19 (by decide) (by decide) (by decide) (by decide) (by show 1 ≤ 400; decide) (by decide) (by show 1 * 0 ≤ 90000; decide) fun H20 x20 W20 => ?_
          refine ⟨_, rfl, iteF ?_⟩
          exact ⟨_, rfl, x19.trans x20, W20⟩
        rintro σ H14 ⟨y12', rfl, _, W14⟩
        clear g1 g2 g3 hlg W13 W9
        -- twenty and twenty
        refine ⟨_, rfl, by decide, by decide, fun E1 nE1 => ?_⟩
        refine lc_range (lo := 0) (n := ((20 : Int)).toNat) (fun i H15 => MadeF gd K H14 E1 i H15 ((List.range i).map fun k => [1, k]) ∧ i ≤ 400) ⟨MadeF.start, by omega⟩ ?_ ?_
        · rintro i H15 hi ⟨mo, i4⟩
          have i20 : i < 20 := hi
          refine ⟨rfl, yes_if ⟨_, rfl, (by show 2 ≤ sizeLine; decide), fun t nt => ?_⟩⟩
          rw [Int.zero_add]
          obtain ⟨acc, a1, a2, a3⟩ := mk_row (r := [1, i]) mo (by omega) nt
          rw [List.range_succ, List.map_append]
          exact ⟨acc, a1, a2, a3, by omega⟩
        rintro H15 ⟨mo, _⟩
        rw [show ((20 : Int)).toNat = 20 from rfl] at mo
        have W15 := W14.grow (mo.old nE1)
        have X15 : Rw3 K H15 p E1 2 ((List.range 20).map fun k => [1, k]) := Rw3.of mo nE1 W14.src (rows_ok fun i hi => row2 (by decide) (by omega))
        clear mo nE1
        refine ⟨_, rfl, p, 2, rfl, W15.src, by decide, by decide, fun d2 H16 hd2 r16 => ⟨_, _, rfl, rfl, _, rfl, by omega, by omega, fun E2 nE2 => ?_⟩⟩
        have W16 := W15.run r16
        have X16 := X15.run W15.src r16
        refine lc_range (lo := 0) (n := (20 + (d2 : Int)).toNat) (fun i H17 => MadeF gd K H16 E2 i H17 ((List.range i).map fun k => [k, 2]) ∧ i ≤ 400) ⟨MadeF.start, by omega⟩ ?_ ?_
        · rintro i H17 hi ⟨mo, i4⟩
          refine ⟨rfl, yes_if ⟨_, rfl, (by show 2 ≤ sizeLine; decide), fun t nt => ?_⟩⟩
          rw [Int.zero_add]
          obtain ⟨acc, a1, a2, a3⟩ := mk_row (r := [i, 2]) mo (by omega) nt
          rw [List.range_succ, List.map_append]
          exact ⟨acc, a1, a2, a3, by omega⟩
        rintro H17 ⟨mo, _⟩
        rw [show (20 + (d2 : Int)).toNat = 20 + d2 by omega] at mo
        have W17 := W16.grow (mo.old nE2)
        have X17 := X16.grow (mo.old nE2)
        have Y17 : Rw3 K H17 p E2 2 ((List.range (20 + d2)).map fun k => [k, 2]) := Rw3.of mo nE2 W16.src (rows_ok fun i hi => row2 (by omega) (by decide))
        clear mo nE2
        have lx : ((List.range 20).map fun k => [1, k]).length ≤ 21 := by rw [List.length_map, List.length_range]; omega
        have ly : ((List.range (20 + d2)).map fun k => [k, 2]).length ≤ 21 := by rw [List.length_map, List.length_range]; omega
        refine ⟨_, _, rfl, ?_⟩
        refine ⟨_, rfl, _, rfl, ?_⟩
        dsimp only [tNil, tCons, List.cons_append, List.nil_append]
        refine go_right (E := _) (w := 2) (v := 2) W17 X17 Y17 (by decide) (by decide) (by decide) (by decide) (by omega) (by omega) (Nat.le_trans (Nat.mul_le_mul lx ly) (by decide)) fun H18 x18 W18 => ?_
        refine ⟨_, rfl, iteF ?_⟩
        exact ⟨_, _, _, _, _, _, _, _, _, _, _, _, rfl, same_l (wo_le p) W18.scr, W18.tab⟩
    · rintro σ H1 ⟨y1, y2, y3, y4, y5, y6, y7, y8, y9, y10, y11, y12, rfl, ha1, tabs1⟩
      exact q H1
end
end CC
namespace CC
open PySem L2 TL
/-- no plain value's type has an own class above it -/
theorem no_sub {K : PySem.W.Frag} {C : Addr} : ∀ n ∈ OC.oddTys, PySem.W.subIn K (.type n) (.ref C) = some false := by
  intro n hn
  simp only [OC.oddTys, List.mem_cons, List.not_mem_nil, or_false] at hn
  rcases hn with rfl | rfl | rfl | rfl | rfl | rfl | rfl <;> rfl
theorem no_ins {K : PySem.W.Frag} {C : Addr} (i : PySem.W.isClsIn K C = true) (t : PySem.W.typeIn K (.ref C) = some (.type "type")) : NoIns K C := by
  refine ⟨fun n hn => ?_, no_sub⟩
  have i' : (PySem.W.clsIn K C).isSome = true := i
  have s := no_sub (K := K) (C := C) n hn
  have e : ((Value.type n) == (Value.ref C)) = false := by simp
  simp only [PySem.W.kitOne, PySem.W.kitCls, e, i', t, s]
  simp
theorem exm_is {K : PySem.W.Frag} {cls : Value} {D : Addr} {r : Bool} (b : PySem.W.subIn K (.ref D) (.type "BaseException") = some true) (t : PySem.W.typeIn K (.ref D) = some (.type "type")) (i : (PySem.W.clsIn K D).isSome = true) (s : PySem.W.subIn K cls (.ref D) = some r) : PySem.W.exmOne K cls (.ref D) = some r := by
  simp only [PySem.W.exmOne, PySem.W.kitCls, b, t, i, s]
  simp
theorem mk_fac {K : PySem.W.Frag} {h : Heap} {mg : Str → Option Value} {t : Tok} (X : K.In h) (G : h.Ns mainGlobals mg) (a : PySem.W.nsIn K mainGlobals "FACTOR" = some (some (.int 100 t))) : ∃ t, mg "FACTOR" = some (.int 100 t) := ⟨t, PySem.W.mg_of X G a⟩
theorem mk_three {K : PySem.W.Frag} {h : Heap} {mg : Str → Option Value} {CN CU CM : Addr} (X : K.In h) (G : h.Ns mainGlobals mg)
    (aN : PySem.W.nsIn K mainGlobals "NotTable" = some (some (.ref CN)))
    (xN : PySem.W.excIn K CN [.type "ValueError", .type "Exception", .type "BaseException", .type "object"] "ValueError.__new__" = true)
    (kN : PySem.W.keepIn K (.ref CN) = true)
    (bN : PySem.W.subIn K (.ref CN) (.type "BaseException") = some true)
    (tN : PySem.W.typeIn K (.ref CN) = some (.type "type"))
    (iN : PySem.W.isClsIn K CN = true)
    (sN : PySem.W.subIn K (.ref CN) (.ref CN) = some true)
    (aU : PySem.W.nsIn K mainGlobals "UnlikeWidths" = some (some (.ref CU)))
    (xU : PySem.W.excIn K CU [.type "ValueError", .type "Exception", .type "BaseException", .type "object"] "ValueError.__new__" = true)
    (kU : PySem.W.keepIn K (.ref CU) = true)
    (bU : PySem.W.subIn K (.ref CU) (.type "BaseException") = some true)
    (tU : PySem.W.typeIn K (.ref CU) = some (.type "type"))
    (iU : PySem.W.isClsIn K CU = true)
    (sU : PySem.W.subIn K (.ref CU) (.ref CU) = some true)
    (aM : PySem.W.nsIn K mainGlobals "TooMuch" = some (some (.ref CM)))
    (xM : PySem.W.excIn K CM [.type "ValueError", .type "Exception", .type "BaseException", .type "object"] "ValueError.__new__" = true)
    (kM : PySem.W.keepIn K (.ref CM) = true)
    (bM : PySem.W.subIn K (.ref CM) (.type "BaseException") = some true)
    (tM : PySem.W.typeIn K (.ref CM) = some (.type "type"))
    (iM : PySem.W.isClsIn K CM = true)
    (sM : PySem.W.subIn K (.ref CM) (.ref CM) = some true)
    (dUN : PySem.W.subIn K (.ref CU) (.ref CN) = some false)
    (dMN : PySem.W.subIn K (.ref CM) (.ref CN) = some false)
    (dMU : PySem.W.subIn K (.ref CM) (.ref CU) = some false) :
    ∃ CN CU CM, ExcK K mg "NotTable" CN ∧ ExcK K mg "UnlikeWidths" CU ∧ ExcK K mg "TooMuch" CM ∧ Exc3 K CN CU CM :=
  ⟨CN, CU, CM, ⟨PySem.W.mg_of X G aN, xN, kN, bN, tN⟩, ⟨PySem.W.mg_of X G aU, xU, kU, bU, tU⟩, ⟨PySem.W.mg_of X G aM, xM, kM, bM, tM⟩, ⟨exm_is bN tN iN sN, exm_is bN tN iN dUN, exm_is bU tU iU sU, exm_is bN tN iN dMN, exm_is bU tU iU dMU, exm_is bM tM iM sM⟩⟩
end CC
namespace CC
open PySem L2 TL
theorem df_mk {K : PySem.W.Frag} {h : Heap} {mg : Str → Option Value} {x : Str} {st : Stmt} {ps : List Str} {f : Addr} {fd : FuncData} (X : K.In h) (G : h.Ns mainGlobals mg) (a : PySem.W.nsIn K mainGlobals x = some (some (.ref f))) (F : Fun K x x st f fd) (b : Binds K fd ps []) : Nonempty (Df K mg x st ps) := ⟨⟨f, fd, F, b, PySem.W.mg_of X G a⟩⟩
theorem kit_self {K : PySem.W.Frag} {C : Addr} : PySem.W.kitOne K (.ref C) (.ref C) = some true := by
  unfold PySem.W.kitOne
  exact if_pos (by simp)
theorem raw0 {P : Program} {w : World} {K : PySem.W.Frag} {mg : Str → Option Value} {base : Heap} {CX : CXT} {k : Nat} {f : Addr} {fd : FuncData} {ps : List Str} {sp : Sp} (F : FnOk P w K mg base CX k f fd ps sp) (b : Binds K fd ps []) : FnR P w K mg base CX k f sp :=
  (F.raw b .nil).imp fun vs H Q E h => by
    show sp (vs ++ []) H Q E
    rw [List.append_nil]
    exact h
theorem mk_l_source {K : PySem.W.Frag} {h : Heap} {mg : Str → Option Value} {f : Addr} {od an : Option Addr} {sl : Array (Option Value)} {oc kV dc pm cd ct : Value} (X : K.In h) (G : h.Ns mainGlobals mg) (a : PySem.W.nsIn K mainGlobals "_law_source" = some (some (.ref f)))
    (l : K.lookup f = some ⟨oc, od, .func (PySem.W.fnOf "_law_source" "_law_source" (defArgs sSource) (defBody sSource) (defScope sSource) .none kV dc pm an cd ct), sl⟩) (c : PySem.W.codeIn K cd "_law_source" = true) (k : PySem.W.keepIn K (.ref f) = true) : Nonempty (Df K mg "_law_source" sSource ["_law_cell_here"]) :=
  have F := fun_mk (st := sSource) l c k
  df_mk X G a F (F.binds (ps := ["_law_cell_here"]) fun _ _ _ _ _ _ us hl => match us, hl with | [_], _ => rfl)
theorem mk_l_cell {K : PySem.W.Frag} {h : Heap} {mg : Str → Option Value} {f : Addr} {od an : Option Addr} {sl : Array (Option Value)} {oc kV dc pm cd ct : Value} (X : K.In h) (G : h.Ns mainGlobals mg) (a : PySem.W.nsIn K mainGlobals "_law_cell" = some (some (.ref f)))
    (l : K.lookup f = some ⟨oc, od, .func (PySem.W.fnOf "_law_cell" "_law_cell" (defArgs sCell) (defBody sCell) (defScope sCell) .none kV dc pm an cd ct), sl⟩) (c : PySem.W.codeIn K cd "_law_cell" = true) (k : PySem.W.keepIn K (.ref f) = true) : Nonempty (Df K mg "_law_cell" sCell ["_law_script", "_law_index"]) :=
  have F := fun_mk (st := sCell) l c k
  df_mk X G a F (F.binds (ps := ["_law_script", "_law_index"]) fun _ _ _ _ _ _ us hl => match us, hl with | [_, _], _ => rfl)
theorem mk_l_draw {K : PySem.W.Frag} {h : Heap} {mg : Str → Option Value} {f : Addr} {od an : Option Addr} {sl : Array (Option Value)} {oc kV dc pm cd ct : Value} (X : K.In h) (G : h.Ns mainGlobals mg) (a : PySem.W.nsIn K mainGlobals "_law_draw" = some (some (.ref f)))
    (l : K.lookup f = some ⟨oc, od, .func (PySem.W.fnOf "_law_draw" "_law_draw" (defArgs sDraw) (defBody sDraw) (defScope sDraw) .none kV dc pm an cd ct), sl⟩) (c : PySem.W.codeIn K cd "_law_draw" = true) (k : PySem.W.keepIn K (.ref f) = true) : Nonempty (Df K mg "_law_draw" sDraw ["_law_source_here", "_law_many"]) :=
  have F := fun_mk (st := sDraw) l c k
  df_mk X G a F (F.binds (ps := ["_law_source_here", "_law_many"]) fun _ _ _ _ _ _ us hl => match us, hl with | [_, _], _ => rfl)
theorem mk_l_choose {K : PySem.W.Frag} {h : Heap} {mg : Str → Option Value} {f : Addr} {od an : Option Addr} {sl : Array (Option Value)} {oc kV dc pm cd ct : Value} (X : K.In h) (G : h.Ns mainGlobals mg) (a : PySem.W.nsIn K mainGlobals "_law_choose" = some (some (.ref f)))
    (l : K.lookup f = some ⟨oc, od, .func (PySem.W.fnOf "_law_choose" "_law_choose" (defArgs sChoose) (defBody sChoose) (defScope sChoose) .none kV dc pm an cd ct), sl⟩) (c : PySem.W.codeIn K cd "_law_choose" = true) (k : PySem.W.keepIn K (.ref f) = true) : Nonempty (Df K mg "_law_choose" sChoose ["_law_source_here", "_law_values"]) :=
  have F := fun_mk (st := sChoose) l c k
  df_mk X G a F (F.binds (ps := ["_law_source_here", "_law_values"]) fun _ _ _ _ _ _ us hl => match us, hl with | [_, _], _ => rfl)
theorem mk_l_lines {K : PySem.W.Frag} {h : Heap} {mg : Str → Option Value} {f : Addr} {od an : Option Addr} {sl : Array (Option Value)} {oc kV dc pm cd ct : Value} (X : K.In h) (G : h.Ns mainGlobals mg) (a : PySem.W.nsIn K mainGlobals "_law_lines" = some (some (.ref f)))
    (l : K.lookup f = some ⟨oc, od, .func (PySem.W.fnOf "_law_lines" "_law_lines" (defArgs sLines) (defBody sLines) (defScope sLines) .none kV dc pm an cd ct), sl⟩) (c : PySem.W.codeIn K cd "_law_lines" = true) (k : PySem.W.keepIn K (.ref f) = true) : Nonempty (Df K mg "_law_lines" sLines ["_law_source_here", "_law_width", "_law_most", "_law_value"]) :=
  have F := fun_mk (st := sLines) l c k
  df_mk X G a F (F.binds (ps := ["_law_source_here", "_law_width", "_law_most", "_law_value"]) fun _ _ _ _ _ _ us hl => match us, hl with | [_, _, _, _], _ => rfl)
theorem mk_l_text {K : PySem.W.Frag} {h : Heap} {mg : Str → Option Value} {f : Addr} {od an : Option Addr} {sl : Array (Option Value)} {oc kV dc pm cd ct : Value} (X : K.In h) (G : h.Ns mainGlobals mg) (a : PySem.W.nsIn K mainGlobals "_law_text" = some (some (.ref f)))
    (l : K.lookup f = some ⟨oc, od, .func (PySem.W.fnOf "_law_text" "_law_text" (defArgs sTTx) (defBody sTTx) (defScope sTTx) .none kV dc pm an cd ct), sl⟩) (c : PySem.W.codeIn K cd "_law_text" = true) (k : PySem.W.keepIn K (.ref f) = true) : Nonempty (Df K mg "_law_text" sTTx ["_law_lines_here"]) :=
  have F := fun_mk (st := sTTx) l c k
  df_mk X G a F (F.binds (ps := ["_law_lines_here"]) fun _ _ _ _ _ _ us hl => match us, hl with | [_], _ => rfl)
theorem mk_is_an_integer {K : PySem.W.Frag} {h : Heap} {mg : Str → Option Value} {f : Addr} {od an : Option Addr} {sl : Array (Option Value)} {oc kV dc pm cd ct : Value} (X : K.In h) (G : h.Ns mainGlobals mg) (a : PySem.W.nsIn K mainGlobals "is_an_integer" = some (some (.ref f)))
    (l : K.lookup f = some ⟨oc, od, .func (PySem.W.fnOf "is_an_integer" "is_an_integer" (defArgs sIsInt) (defBody sIsInt) (defScope sIsInt) .none kV dc pm an cd ct), sl⟩) (c : PySem.W.codeIn K cd "is_an_integer" = true) (k : PySem.W.keepIn K (.ref f) = true) : Nonempty (Df K mg "is_an_integer" sIsInt ["thing"]) :=
  have F := fun_mk (st := sIsInt) l c k
  df_mk X G a F (F.binds (ps := ["thing"]) fun _ _ _ _ _ _ us hl => match us, hl with | [_], _ => rfl)
theorem mk_is_width {K : PySem.W.Frag} {h : Heap} {mg : Str → Option Value} {f : Addr} {od an : Option Addr} {sl : Array (Option Value)} {oc kV dc pm cd ct : Value} (X : K.In h) (G : h.Ns mainGlobals mg) (a : PySem.W.nsIn K mainGlobals "is_width" = some (some (.ref f)))
    (l : K.lookup f = some ⟨oc, od, .func (PySem.W.fnOf "is_width" "is_width" (defArgs sIsWidth) (defBody sIsWidth) (defScope sIsWidth) .none kV dc pm an cd ct), sl⟩) (c : PySem.W.codeIn K cd "is_width" = true) (k : PySem.W.keepIn K (.ref f) = true) : Nonempty (Df K mg "is_width" sIsWidth ["thing"]) :=
  have F := fun_mk (st := sIsWidth) l c k
  df_mk X G a F (F.binds (ps := ["thing"]) fun _ _ _ _ _ _ us hl => match us, hl with | [_], _ => rfl)
theorem mk_is_row {K : PySem.W.Frag} {h : Heap} {mg : Str → Option Value} {f : Addr} {od an : Option Addr} {sl : Array (Option Value)} {oc kV dc pm cd ct : Value} (X : K.In h) (G : h.Ns mainGlobals mg) (a : PySem.W.nsIn K mainGlobals "is_row" = some (some (.ref f)))
    (l : K.lookup f = some ⟨oc, od, .func (PySem.W.fnOf "is_row" "is_row" (defArgs sIsRow) (defBody sIsRow) (defScope sIsRow) .none kV dc pm an cd ct), sl⟩) (c : PySem.W.codeIn K cd "is_row" = true) (k : PySem.W.keepIn K (.ref f) = true) : Nonempty (Df K mg "is_row" sIsRow ["width", "thing"]) :=
  have F := fun_mk (st := sIsRow) l c k
  df_mk X G a F (F.binds (ps := ["width", "thing"]) fun _ _ _ _ _ _ us hl => match us, hl with | [_, _], _ => rfl)
theorem mk_is_numeral {K : PySem.W.Frag} {h : Heap} {mg : Str → Option Value} {f : Addr} {od an : Option Addr} {sl : Array (Option Value)} {oc kV dc pm cd ct : Value} (X : K.In h) (G : h.Ns mainGlobals mg) (a : PySem.W.nsIn K mainGlobals "is_numeral" = some (some (.ref f)))
    (l : K.lookup f = some ⟨oc, od, .func (PySem.W.fnOf "is_numeral" "is_numeral" (defArgs sIsNum) (defBody sIsNum) (defScope sIsNum) .none kV dc pm an cd ct), sl⟩) (c : PySem.W.codeIn K cd "is_numeral" = true) (k : PySem.W.keepIn K (.ref f) = true) : Nonempty (Df K mg "is_numeral" sIsNum ["word"]) :=
  have F := fun_mk (st := sIsNum) l c k
  df_mk X G a F (F.binds (ps := ["word"]) fun _ _ _ _ _ _ us hl => match us, hl with | [_], _ => rfl)
theorem mk_rows_of {K : PySem.W.Frag} {h : Heap} {mg : Str → Option Value} {f : Addr} {od an : Option Addr} {sl : Array (Option Value)} {oc kV dc pm cd ct : Value} (X : K.In h) (G : h.Ns mainGlobals mg) (a : PySem.W.nsIn K mainGlobals "rows_of" = some (some (.ref f)))
    (l : K.lookup f = some ⟨oc, od, .func (PySem.W.fnOf "rows_of" "rows_of" (defArgs sRowsOf) (defBody sRowsOf) (defScope sRowsOf) .none kV dc pm an cd ct), sl⟩) (c : PySem.W.codeIn K cd "rows_of" = true) (k : PySem.W.keepIn K (.ref f) = true) : Nonempty (Df K mg "rows_of" sRowsOf ["width", "text"]) :=
  have F := fun_mk (st := sRowsOf) l c k
  df_mk X G a F (F.binds (ps := ["width", "text"]) fun _ _ _ _ _ _ us hl => match us, hl with | [_, _], _ => rfl)
theorem mk_all_below {K : PySem.W.Frag} {h : Heap} {mg : Str → Option Value} {f : Addr} {od an : Option Addr} {sl : Array (Option Value)} {oc kV dc pm cd ct : Value} (X : K.In h) (G : h.Ns mainGlobals mg) (a : PySem.W.nsIn K mainGlobals "all_below" = some (some (.ref f)))
    (l : K.lookup f = some ⟨oc, od, .func (PySem.W.fnOf "all_below" "all_below" (defArgs sBelow) (defBody sBelow) (defScope sBelow) .none kV dc pm an cd ct), sl⟩) (c : PySem.W.codeIn K cd "all_below" = true) (k : PySem.W.keepIn K (.ref f) = true) : Nonempty (Df K mg "all_below" sBelow ["rows", "limit"]) :=
  have F := fun_mk (st := sBelow) l c k
  df_mk X G a F (F.binds (ps := ["rows", "limit"]) fun _ _ _ _ _ _ us hl => match us, hl with | [_, _], _ => rfl)
theorem mk_product_row {K : PySem.W.Frag} {h : Heap} {mg : Str → Option Value} {f : Addr} {od an : Option Addr} {sl : Array (Option Value)} {oc kV dc pm cd ct : Value} (X : K.In h) (G : h.Ns mainGlobals mg) (a : PySem.W.nsIn K mainGlobals "product_row" = some (some (.ref f)))
    (l : K.lookup f = some ⟨oc, od, .func (PySem.W.fnOf "product_row" "product_row" (defArgs sProd) (defBody sProd) (defScope sProd) .none kV dc pm an cd ct), sl⟩) (c : PySem.W.codeIn K cd "product_row" = true) (k : PySem.W.keepIn K (.ref f) = true) : Nonempty (Df K mg "product_row" sProd ["first", "second"]) :=
  have F := fun_mk (st := sProd) l c k
  df_mk X G a F (F.binds (ps := ["first", "second"]) fun _ _ _ _ _ _ us hl => match us, hl with | [_, _], _ => rfl)
theorem mk_l_said {K : PySem.W.Frag} {h : Heap} {mg : Str → Option Value} {f : Addr} {od an : Option Addr} {sl : Array (Option Value)} {oc kV dc pm cd ct : Value} (X : K.In h) (G : h.Ns mainGlobals mg) (a : PySem.W.nsIn K mainGlobals "_law_said" = some (some (.ref f)))
    (l : K.lookup f = some ⟨oc, od, .func (PySem.W.fnOf "_law_said" "_law_said" (defArgs sSaid) (defBody sSaid) (defScope sSaid) .none kV dc pm an cd ct), sl⟩) (c : PySem.W.codeIn K cd "_law_said" = true) (k : PySem.W.keepIn K (.ref f) = true) : Nonempty (Df K mg "_law_said" sSaid ["_law_call"]) :=
  have F := fun_mk (st := sSaid) l c k
  df_mk X G a F (F.binds (ps := ["_law_call"]) fun _ _ _ _ _ _ us hl => match us, hl with | [_], _ => rfl)
theorem mk_l_sum {K : PySem.W.Frag} {h : Heap} {mg : Str → Option Value} {f : Addr} {od an : Option Addr} {sl : Array (Option Value)} {oc kV dc pm cd ct : Value} (X : K.In h) (G : h.Ns mainGlobals mg) (a : PySem.W.nsIn K mainGlobals "_law_sum" = some (some (.ref f)))
    (l : K.lookup f = some ⟨oc, od, .func (PySem.W.fnOf "_law_sum" "_law_sum" (defArgs sLSum) (defBody sLSum) (defScope sLSum) .none kV dc pm an cd ct), sl⟩) (c : PySem.W.codeIn K cd "_law_sum" = true) (k : PySem.W.keepIn K (.ref f) = true) : Nonempty (Df K mg "_law_sum" sLSum ["_law_width", "_law_lines_here", "_law_others", "_law_wide"]) :=
  have F := fun_mk (st := sLSum) l c k
  df_mk X G a F (F.binds (ps := ["_law_width", "_law_lines_here", "_law_others", "_law_wide"]) fun _ _ _ _ _ _ us hl => match us, hl with | [_, _, _, _], _ => rfl)
theorem mk_l_pairs {K : PySem.W.Frag} {h : Heap} {mg : Str → Option Value} {f : Addr} {od an : Option Addr} {sl : Array (Option Value)} {oc kV dc pm cd ct : Value} (X : K.In h) (G : h.Ns mainGlobals mg) (a : PySem.W.nsIn K mainGlobals "_law_pairs" = some (some (.ref f)))
    (l : K.lookup f = some ⟨oc, od, .func (PySem.W.fnOf "_law_pairs" "_law_pairs" (defArgs sLPr) (defBody sLPr) (defScope sLPr) .none kV dc pm an cd ct), sl⟩) (c : PySem.W.codeIn K cd "_law_pairs" = true) (k : PySem.W.keepIn K (.ref f) = true) : Nonempty (Df K mg "_law_pairs" sLPr ["_law_width", "_law_lines_here", "_law_others", "_law_wide"]) :=
  have F := fun_mk (st := sLPr) l c k
  df_mk X G a F (F.binds (ps := ["_law_width", "_law_lines_here", "_law_others", "_law_wide"]) fun _ _ _ _ _ _ us hl => match us, hl with | [_, _, _, _], _ => rfl)
theorem mk_l_is_equal {K : PySem.W.Frag} {h : Heap} {mg : Str → Option Value} {f : Addr} {od an : Option Addr} {sl : Array (Option Value)} {oc kV dc pm cd ct : Value} (X : K.In h) (G : h.Ns mainGlobals mg) (a : PySem.W.nsIn K mainGlobals "_law_is_equal" = some (some (.ref f)))
    (l : K.lookup f = some ⟨oc, od, .func (PySem.W.fnOf "_law_is_equal" "_law_is_equal" (defArgs sIsEq) (defBody sIsEq) (defScope sIsEq) .none kV dc pm an cd ct), sl⟩) (c : PySem.W.codeIn K cd "_law_is_equal" = true) (k : PySem.W.keepIn K (.ref f) = true) : Nonempty (Df K mg "_law_is_equal" sIsEq ["_law_actual", "_law_expected"]) :=
  have F := fun_mk (st := sIsEq) l c k
  df_mk X G a F (F.binds (ps := ["_law_actual", "_law_expected"]) fun _ _ _ _ _ _ us hl => match us, hl with | [_, _], _ => rfl)
theorem mk_glb {K : PySem.W.Frag} {h : Heap} {mg : Str → Option Value} {kA : Addr} {t t1 t2 : Tok} {od : Option Addr} {n : Nat} {sl : Array (Option Value)} (X : K.In h) (G : h.Ns mainGlobals mg) (len : PySem.W.nsIn K mainGlobals "len" = some none) (max : PySem.W.nsIn K mainGlobals "max" = some none) (min : PySem.W.nsIn K mainGlobals "min" = some none) (isi : PySem.W.nsIn K mainGlobals "isinstance" = some none) (int : PySem.W.nsIn K mainGlobals "int" = some none) (bool : PySem.W.nsIn K mainGlobals "bool" = some none) (str : PySem.W.nsIn K mainGlobals "str" = some none) (tup : PySem.W.nsIn K mainGlobals "tuple" = some none) (rng : PySem.W.nsIn K mainGlobals "range" = some none) (lst : PySem.W.nsIn K mainGlobals "list" = some none) (all : PySem.W.nsIn K mainGlobals "all" = some none) (set : PySem.W.nsIn K mainGlobals "set" = some none) (enu : PySem.W.nsIn K mainGlobals "enumerate" = some none) (rep : PySem.W.nsIn K mainGlobals "repr" = some none) (srt : PySem.W.nsIn K mainGlobals "sorted" = some none) (zip : PySem.W.nsIn K mainGlobals "zip" = some none) (any : PySem.W.nsIn K mainGlobals "any" = some none) (sum : PySem.W.nsIn K mainGlobals "sum" = some none) (rev : PySem.W.nsIn K mainGlobals "reversed" = some none) (dic : PySem.W.nsIn K mainGlobals "dict" = some none) (typ : PySem.W.nsIn K mainGlobals "type" = some none)
    (wid : PySem.W.nsIn K mainGlobals "WIDEST" = some (some (.int 6 t))) (knd : PySem.W.nsIn K mainGlobals "KINDS" = some (some (.ref kA))) (kl : K.lookup kA = some ⟨.type "tuple", od, .seq #[.str "settles" t1, .str "within" t2] n, sl⟩) : Nonempty { z : Unit // ∃ kA, Glb K mg kA } :=
  ⟨⟨(), kA, ⟨PySem.W.mg_none_of X G len, PySem.W.mg_none_of X G max, PySem.W.mg_none_of X G min, PySem.W.mg_none_of X G isi, PySem.W.mg_none_of X G int, PySem.W.mg_none_of X G bool, PySem.W.mg_none_of X G str, PySem.W.mg_none_of X G tup, PySem.W.mg_none_of X G rng, PySem.W.mg_none_of X G lst, PySem.W.mg_none_of X G all, PySem.W.mg_none_of X G set, PySem.W.mg_none_of X G enu, PySem.W.mg_none_of X G rep, PySem.W.mg_none_of X G srt, PySem.W.mg_none_of X G zip, PySem.W.mg_none_of X G any, PySem.W.mg_none_of X G sum, PySem.W.mg_none_of X G rev, PySem.W.mg_none_of X G dic, PySem.W.mg_none_of X G typ, ⟨t, PySem.W.mg_of X G wid⟩, PySem.W.mg_of X G knd, ⟨_, _, _, kl, rfl, rfl, by show 2 ≤ sizeLine; decide, .cons ⟨t1, rfl⟩ (.cons ⟨t2, rfl⟩ .nil)⟩⟩⟩⟩
structure KlsT (K : PySem.W.Frag) (mg : Str → Option Value) where
  C : Addr
  TC : TxtT K mg C
  fN : Addr
  dN : FuncData
  FN : Fun K "__init__" "Table.__init__" sTInit fN dN
  M : Mk K C fN
  fD : Addr
  dD : FuncData
  FD : Fun K "read" "Table.read" sTRead fD dD
  bD : Binds K dD ["cls", "width", "text"] []
  mc : Value
  pD : Addr
  rD : ClX.CRead K C mc
  cD : ClX.CMet K C mc "read" pD fD
  ic : C8.InsC K C
  fW : Addr
  dW : FuncData
  FW : Fun K "width" "Table.width" sTW fW dW
  bW : Binds K dW ["self"] []
  pW : Addr
  qW : PropOf K C "width" pW fW
  fR : Addr
  dR : FuncData
  FR : Fun K "rows" "Table.rows" sTR fR dR
  bR : Binds K dR ["self"] []
  pR : Addr
  qR : PropOf K C "rows" pR fR
  fA : Addr
  dA : FuncData
  FA : Fun K "__add__" "Table.__add__" sTAdd fA dA
  bA : Binds K dA ["self", "other"] []
  sA : PySem.W.selfFirst K C = true
  aA : PySem.W.findIn K (.ref C) "__add__" = some (some (.ref fA))
  rA : PySem.W.findIn K (.ref C) "__radd__" = some none
  iA : PySem.W.isFn K (.ref fA) = true
  no : NoIns K C
  fU : Addr
  dU : FuncData
  FU : Fun K "__mul__" "Table.__mul__" sTMul fU dU
  bU : Binds K dU ["self", "other"] []
  aU : PySem.W.findIn K (.ref C) "__mul__" = some (some (.ref fU))
  rU : PySem.W.findIn K (.ref C) "__rmul__" = some none
  iU : PySem.W.isFn K (.ref fU) = true
theorem mk_clsT {K : PySem.W.Frag} {h : Heap} {mg : Str → Option Value} {C fN fD fW fR fA fU : Addr} {odN anN : Option Addr} {slN : Array (Option Value)} {ocN kVN dcN pmN cdN ctN : Value} {pD : Addr} {rest : List Value} {odD anD : Option Addr} {slD : Array (Option Value)} {ocD kVD dcD pmD cdD ctD : Value} {pW : Addr} {restW : List Value} {odW anW : Option Addr} {slW : Array (Option Value)} {ocW kVW dcW pmW cdW ctW : Value} {pR : Addr} {restR : List Value} {odR anR : Option Addr} {slR : Array (Option Value)} {ocR kVR dcR pmR cdR ctR : Value} {odA anA : Option Addr} {slA : Array (Option Value)} {ocA kVA dcA pmA cdA ctA : Value} {odU anU : Option Addr} {slU : Array (Option Value)} {ocU kVU dcU pmU cdU ctU : Value} (X : K.In h) (G : h.Ns mainGlobals mg)
    (aC : PySem.W.nsIn K mainGlobals "Table" = some (some (.ref C))) (pg : PySem.W.plainGet K C Str.empty = true) (hd : PySem.W.hasDictIn K C = true) (po : PySem.W.plainOver K C = true) (sa : PySem.W.findIn K (.ref C) "__setattr__" = some (some (.builtin "object.__setattr__"))) (kc : PySem.W.keepIn K (.ref C) = true) (nS : PySem.W.findIn K (.ref C) "span" = some none) (nL : PySem.W.findIn K (.ref C) "lines" = some none) (mk : PySem.W.makesIn K C = true) (aN : PySem.W.findIn K (.ref C) "__init__" = some (some (.ref fN))) (iN : PySem.W.isFn K (.ref fN) = true) (lN : K.lookup fN = some ⟨ocN, odN, .func (PySem.W.fnOf "__init__" "Table.__init__" (defArgs sTInit) (defBody sTInit) (defScope sTInit) .none kVN dcN pmN anN cdN ctN), slN⟩) (cN : PySem.W.codeIn K cdN "Table.__init__" = true) (kN : PySem.W.keepIn K (.ref fN) = true) (rd : PySem.W.readsIn K C (.type "type") = true) (ga : PySem.W.specialIn K (.ref C) "__getattribute__" = some (some (.builtin "type.__getattribute__"))) (aD : PySem.W.findCls K (.ref C) (.type "type") "read" = some (.get (.builtin "classmethod.__get__") (.ref pD) .none (.ref C))) (rD : PySem.W.recIn K pD "classmethod" = some (.ref fD :: rest)) (iD : PySem.W.fnIn K fD = true) (lD : K.lookup fD = some ⟨ocD, odD, .func (PySem.W.fnOf "read" "Table.read" (defArgs sTRead) (defBody sTRead) (defScope sTRead) .none kVD dcD pmD anD cdD ctD), slD⟩) (cD : PySem.W.codeIn K cdD "Table.read" = true) (kD : PySem.W.keepIn K (.ref fD) = true) (i1 : PySem.W.findIn K (.ref C) "__class__" = some (some (.builtin "object.__class__"))) (i2 : PySem.W.specialIn K (.builtin "object.__class__") "__get__" = some (some (.builtin "getset_descriptor.__get__"))) (i3 : PySem.W.takesIn K (.builtin "object.__class__") = some true) (i4 : PySem.W.mroIn K C (.type "object") = some true) (q1W : PySem.W.findIn K (.ref C) "width" = some (some (.ref pW))) (q2W : PySem.W.specialIn K (.ref pW) "__get__" = some (some (.builtin "property.__get__"))) (q3W : PySem.W.takesIn K (.ref pW) = some true) (q4W : PySem.W.recIn K pW "property" = some (.ref fW :: restW)) (lW : K.lookup fW = some ⟨ocW, odW, .func (PySem.W.fnOf "width" "Table.width" (defArgs sTW) (defBody sTW) (defScope sTW) .none kVW dcW pmW anW cdW ctW), slW⟩) (cW : PySem.W.codeIn K cdW "Table.width" = true) (kW : PySem.W.keepIn K (.ref fW) = true) (q1R : PySem.W.findIn K (.ref C) "rows" = some (some (.ref pR))) (q2R : PySem.W.specialIn K (.ref pR) "__get__" = some (some (.builtin "property.__get__"))) (q3R : PySem.W.takesIn K (.ref pR) = some true) (q4R : PySem.W.recIn K pR "property" = some (.ref fR :: restR)) (lR : K.lookup fR = some ⟨ocR, odR, .func (PySem.W.fnOf "rows" "Table.rows" (defArgs sTR) (defBody sTR) (defScope sTR) .none kVR dcR pmR anR cdR ctR), slR⟩) (cR : PySem.W.codeIn K cdR "Table.rows" = true) (kR : PySem.W.keepIn K (.ref fR) = true) (sA : PySem.W.selfFirst K C = true) (aA : PySem.W.findIn K (.ref C) "__add__" = some (some (.ref fA))) (rA : PySem.W.findIn K (.ref C) "__radd__" = some none) (iA : PySem.W.isFn K (.ref fA) = true) (n1 : PySem.W.isClsIn K C = true) (n2 : PySem.W.typeIn K (.ref C) = some (.type "type")) (lA : K.lookup fA = some ⟨ocA, odA, .func (PySem.W.fnOf "__add__" "Table.__add__" (defArgs sTAdd) (defBody sTAdd) (defScope sTAdd) .none kVA dcA pmA anA cdA ctA), slA⟩) (cA : PySem.W.codeIn K cdA "Table.__add__" = true) (kA : PySem.W.keepIn K (.ref fA) = true) (aU : PySem.W.findIn K (.ref C) "__mul__" = some (some (.ref fU))) (rU : PySem.W.findIn K (.ref C) "__rmul__" = some none) (iU : PySem.W.isFn K (.ref fU) = true) (lU : K.lookup fU = some ⟨ocU, odU, .func (PySem.W.fnOf "__mul__" "Table.__mul__" (defArgs sTMul) (defBody sTMul) (defScope sTMul) .none kVU dcU pmU anU cdU ctU), slU⟩) (cU : PySem.W.codeIn K cdU "Table.__mul__" = true) (kU : PySem.W.keepIn K (.ref fU) = true) : Nonempty (KlsT K mg) :=
  have FN := fun_mk (st := sTInit) lN cN kN
  have FD := fun_mk (st := sTRead) lD cD kD
  have FW := fun_mk (st := sTW) lW cW kW
  have FR := fun_mk (st := sTR) lR cR kR
  have FA := fun_mk (st := sTAdd) lA cA kA
  have FU := fun_mk (st := sTMul) lU cU kU
  ⟨⟨C, ⟨⟨pg, hd, po, sa⟩, nS, nL, PySem.W.mg_of X G aC⟩, fN, _, FN, ⟨mk, aN, iN, kc⟩, fD, _, FD, FD.binds (ps := ["cls", "width", "text"]) (fun _ _ _ _ _ _ us hl => match us, hl with | [_, _, _], _ => rfl), .type "type", pD, ⟨rd, ga⟩, ⟨aD, ⟨rest, rD⟩, iD⟩, ⟨⟨pg, hd, po, sa⟩, i1, i2, i3, i4, kit_self⟩, fW, _, FW, FW.binds (ps := ["self"]) (fun _ _ _ _ _ _ us hl => match us, hl with | [_], _ => rfl), pW, ⟨q1W, q2W, q3W, ⟨restW, q4W⟩⟩, fR, _, FR, FR.binds (ps := ["self"]) (fun _ _ _ _ _ _ us hl => match us, hl with | [_], _ => rfl), pR, ⟨q1R, q2R, q3R, ⟨restR, q4R⟩⟩, fA, _, FA, FA.binds (ps := ["self", "other"]) (fun _ _ _ _ _ _ us hl => match us, hl with | [_, _], _ => rfl), sA, aA, rA, iA, no_ins n1 n2, fU, _, FU, FU.binds (ps := ["self", "other"]) (fun _ _ _ _ _ _ us hl => match us, hl with | [_, _], _ => rfl), aU, rU, iU⟩⟩
theorem mk_glbT {K : PySem.W.Frag} {h : Heap} {mg : Str → Option Value} {t1 t2 : Tok} (X : K.In h) (G : h.Ns mainGlobals mg) (a : PySem.W.nsIn K mainGlobals "LARGEST_VALUE" = some (some (.int 9999 t1))) (b : PySem.W.nsIn K mainGlobals "MOST_ROWS" = some (some (.int 400 t2))) : GlbT mg := ⟨⟨t1, PySem.W.mg_of X G a⟩, ⟨t2, PySem.W.mg_of X G b⟩⟩
theorem mk_exc_ColumnError {K : PySem.W.Frag} {h : Heap} {mg : Str → Option Value} {CE : Addr} (X : K.In h) (G : h.Ns mainGlobals mg) (a : PySem.W.nsIn K mainGlobals "ColumnError" = some (some (.ref CE))) : ∃ CE, mg "ColumnError" = some (.ref CE) := ⟨CE, PySem.W.mg_of X G a⟩
theorem fun_mkC {K : PySem.W.Frag} {x q : Str} {st : Stmt} {f c : Addr} {oc : Value} {od an : Option Addr} {osl : Array (Option Value)} {kV doc pm ct : Value} (l : K.lookup f = some ⟨oc, od, .func (PySem.W.fnOf x q (defArgs st) (defBody st) (defScope st) .none kV doc pm an (.ref c) ct), osl⟩) (cI : PySem.W.codeIn K (.ref c) q = true) (k : PySem.W.keepIn K (.ref f) = true) : GD.FunC K x q st f (PySem.W.fnOf x q (defArgs st) (defBody st) (defScope st) .none kV doc pm an (.ref c) ct) c := ⟨⟨_, _, _, _, _, _, _, _, rfl, l, cI⟩, k⟩
theorem tab_mk {K : PySem.W.Frag} {x : Str} {f c P : Addr} {fd : FuncData} {oc oc2 : Value} {od od2 : Option Addr} {sl sl2 : Array (Option Value)} {vs : Array Value} (a : PySem.W.nsIn K mainGlobals x = some (some (.ref f))) (l : K.lookup f = some ⟨oc, od, .func fd, sl⟩) (hc : fd.code = .ref c) (lc : K.lookup c = some ⟨oc2, od2, .fields vs, sl2⟩) (hv : vs[11]? = some (.ref P)) : PySem.W.tabIn K x = some (c, P) := by
  unfold PySem.W.tabIn
  simp only [a, l, hc, lc, hv]
theorem mk_l_is_right {K : PySem.W.Frag} {h : Heap} {mg : Str → Option Value} {f c : Addr} {od an : Option Addr} {sl : Array (Option Value)} {oc kV dc pm ct : Value} (X : K.In h) (G : h.Ns mainGlobals mg) (a : PySem.W.nsIn K mainGlobals "_law_is_right" = some (some (.ref f)))
    (l : K.lookup f = some ⟨oc, od, .func (PySem.W.fnOf "_law_is_right" "_law_is_right" (defArgs sRightT) (defBody sRightT) (defScope sRightT) .none kV dc pm an (.ref c) ct), sl⟩) (cI : PySem.W.codeIn K (.ref c) "_law_is_right" = true) (k : PySem.W.keepIn K (.ref f) = true) : ∃ (f : Addr) (fd : FuncData), GD.FunC K "_law_is_right" "_law_is_right" sRightT f fd c ∧ Binds K fd ["_law_width", "_law_lines_here", "_law_wide", "_law_others"] [] ∧ mg "_law_is_right" = some (.ref f) :=
  have F := fun_mk (st := sRightT) l cI k
  ⟨_, _, fun_mkC l cI k, F.binds (ps := ["_law_width", "_law_lines_here", "_law_wide", "_law_others"]) (fun _ _ _ _ _ _ us hl => match us, hl with | [_, _, _, _], _ => rfl), PySem.W.mg_of X G a⟩
theorem all_mk {l : PySem.W.OpenLaw} {w : World} {K : PySem.W.Frag} {h : Heap} {mg : Str → Option Value} {fa f : Addr} {c_0 P_0 c_1 P_1 : Addr} {od an : Option Addr} {sl : Array (Option Value)} {oc kV dc pm ct : Value} (X : K.In h) (G : h.Ns mainGlobals mg) (hfa : mg "law" = some (.ref fa))
    (a : PySem.W.nsIn K mainGlobals "law" = some (some (.ref f))) (l1 : K.lookup f = some ⟨oc, od, .func (PySem.W.fnOf "law" "law" (defArgs sLaw) (defBody sLaw) (defScope sLaw) .none kV dc pm an (.ref c_1) ct), sl⟩) (c : PySem.W.codeIn K (.ref c_1) "law" = true) (k : PySem.W.keepIn K (.ref f) = true)
    (gb : Nonempty { z : Unit // ∃ kA, Glb K mg kA }) (kt : Nonempty (KlsT K mg)) (TT : GlbT mg) (ex_ColumnError : ∃ CE, mg "ColumnError" = some (.ref CE)) (mo_fac : ∃ t, mg "FACTOR" = some (.int 100 t)) (mo_e3 : ∃ CN CU CM, ExcK K mg "NotTable" CN ∧ ExcK K mg "UnlikeWidths" CU ∧ ExcK K mg "TooMuch" CM ∧ Exc3 K CN CU CM) (m_l_source : Nonempty (Df K mg "_law_source" sSource ["_law_cell_here"])) (m_l_cell : Nonempty (Df K mg "_law_cell" sCell ["_law_script", "_law_index"])) (m_l_draw : Nonempty (Df K mg "_law_draw" sDraw ["_law_source_here", "_law_many"])) (m_l_choose : Nonempty (Df K mg "_law_choose" sChoose ["_law_source_here", "_law_values"])) (m_l_lines : Nonempty (Df K mg "_law_lines" sLines ["_law_source_here", "_law_width", "_law_most", "_law_value"])) (m_l_text : Nonempty (Df K mg "_law_text" sTTx ["_law_lines_here"])) (m_is_an_integer : Nonempty (Df K mg "is_an_integer" sIsInt ["thing"])) (m_is_width : Nonempty (Df K mg "is_width" sIsWidth ["thing"])) (m_is_row : Nonempty (Df K mg "is_row" sIsRow ["width", "thing"])) (m_is_numeral : Nonempty (Df K mg "is_numeral" sIsNum ["word"])) (m_rows_of : Nonempty (Df K mg "rows_of" sRowsOf ["width", "text"])) (m_all_below : Nonempty (Df K mg "all_below" sBelow ["rows", "limit"])) (m_product_row : Nonempty (Df K mg "product_row" sProd ["first", "second"])) (m_l_said : Nonempty (Df K mg "_law_said" sSaid ["_law_call"])) (m_l_sum : Nonempty (Df K mg "_law_sum" sLSum ["_law_width", "_law_lines_here", "_law_others", "_law_wide"])) (m_l_pairs : Nonempty (Df K mg "_law_pairs" sLPr ["_law_width", "_law_lines_here", "_law_others", "_law_wide"])) (m_l_is_equal : Nonempty (Df K mg "_law_is_equal" sIsEq ["_law_actual", "_law_expected"]))
    (q_0 : ∃ (f : Addr) (fd : FuncData), GD.FunC K "_law_is_right" "_law_is_right" sRightT f fd c_0 ∧ Binds K fd ["_law_width", "_law_lines_here", "_law_wide", "_law_others"] [] ∧ mg "_law_is_right" = some (.ref f)) (t_0 : PySem.W.tabIn K "_law_is_right" = some (c_0, P_0)) (o_0 : K.lookup P_0 = none) (t_1 : PySem.W.tabIn K "law" = some (c_1, P_1)) (o_1 : K.lookup P_1 = none) (n_1_0 : P_1 ≠ P_0) :
    ∃ (fd : FuncData) (cs : List (Addr × Addr)) (sp : Sp), (∀ p ∈ cs, ∃ y ∈ (["_law_is_right", "law"] : List Str), PySem.W.tabIn K y = some p) ∧ (∀ p ∈ cs, K.lookup p.2 = none) ∧ (∀ (s : Shared) (v : Value), BindsTo s fd ⟨[v], []⟩ [("_law_script", v)]) ∧ (∀ (H : Hp) (a : Addr) (ns : List Int), ns.length ≤ 63 → (∀ p ∈ cs, H p.2 = some (.tbl #[])) → SqL K H a (ns.map V.int) → sp [.ref a] H (fun v _ => v = .bl true) fun _ _ _ => False) ∧
      ∀ base : Heap, K.In base → base.Ns mainGlobals mg → (∀ p ∈ cs, LamX.TabB base mg p.1 p.2) → GD.FnG l.prog w K mg base CX0 9 fa fd ["_law_script"] sp := by
  have e := hfa.symm.trans (PySem.W.mg_of X G a)
  cases e
  obtain ⟨⟨_, kA, T⟩⟩ := gb
  obtain ⟨Z⟩ := kt
  obtain ⟨E_ColumnError, g_ColumnError⟩ := ex_ColumnError
  obtain ⟨tF, gFa⟩ := mo_fac
  obtain ⟨CN, CU, CM, eN, eU, eM, e3⟩ := mo_e3
  obtain ⟨x_l_source⟩ := m_l_source
  obtain ⟨x_l_cell⟩ := m_l_cell
  obtain ⟨x_l_draw⟩ := m_l_draw
  obtain ⟨x_l_choose⟩ := m_l_choose
  obtain ⟨x_l_lines⟩ := m_l_lines
  obtain ⟨x_l_text⟩ := m_l_text
  obtain ⟨x_is_an_integer⟩ := m_is_an_integer
  obtain ⟨x_is_width⟩ := m_is_width
  obtain ⟨x_is_row⟩ := m_is_row
  obtain ⟨x_is_numeral⟩ := m_is_numeral
  obtain ⟨x_rows_of⟩ := m_rows_of
  obtain ⟨x_all_below⟩ := m_all_below
  obtain ⟨x_product_row⟩ := m_product_row
  obtain ⟨x_l_said⟩ := m_l_said
  obtain ⟨x_l_sum⟩ := m_l_sum
  obtain ⟨x_l_pairs⟩ := m_l_pairs
  obtain ⟨x_l_is_equal⟩ := m_l_is_equal
  obtain ⟨lf_0, ld_0, lF_0, lb_0, lg_0⟩ := q_0
  have hu_0 : ∀ p ∈ ([(P_0, qRight), (P_1, qLaw)] : List (Addr × Str)), p.1 = P_0 → p.2 = qRight := by
    intro p hp e; rcases List.mem_cons.mp hp with rfl | hp; exact rfl; rcases List.mem_cons.mp hp with rfl | hp; exact absurd e n_1_0; cases hp
  have hm_0 : (P_0, qRight) ∈ ([(P_0, qRight), (P_1, qLaw)] : List (Addr × Str)) := .head _
  have hu_1 : ∀ p ∈ ([(P_0, qRight), (P_1, qLaw)] : List (Addr × Str)), p.1 = P_1 → p.2 = qLaw := by
    intro p hp e; rcases List.mem_cons.mp hp with rfl | hp; exact absurd e.symm n_1_0; rcases List.mem_cons.mp hp with rfl | hp; exact rfl; cases hp
  have hm_1 : (P_1, qLaw) ∈ ([(P_0, qRight), (P_1, qLaw)] : List (Addr × Str)) := .tail _ (.head _)
  refine ⟨PySem.W.fnOf "law" "law" (defArgs sLaw) (defBody sLaw) (defScope sLaw) .none kV dc pm an (.ref c_1) ct, [(c_0, P_0), (c_1, P_1)], (spLaw K [(P_0, qRight), (P_1, qLaw)]), ?_, ?_, fun s v => .of_eq rfl, ?_, fun base _ _ tbs => ?_⟩
  · intro p hp; rcases List.mem_cons.mp hp with rfl | hp; exact ⟨_, .head _, t_0⟩; rcases List.mem_cons.mp hp with rfl | hp; exact ⟨_, .tail _ (.head _), t_1⟩; cases hp
  · intro p hp; rcases List.mem_cons.mp hp with rfl | hp; exact o_0; rcases List.mem_cons.mp hp with rfl | hp; exact o_1; cases hp
  · intro H a ns hl ht hS
    refine ⟨a, ns, rfl, hS, hl, ?_, fun _ => rfl⟩
    intro p hp; rcases List.mem_cons.mp hp with rfl | hp; exact LamX.TabS.nil (ht (c_0, P_0) (.head _)); rcases List.mem_cons.mp hp with rfl | hp; exact LamX.TabS.nil (ht (c_1, P_1) (.tail _ (.head _))); cases hp
  have tb_0 := tbs (c_0, P_0) (.head _)
  have tb_1 := tbs (c_1, P_1) (.tail _ (.head _))
  have c__law_source : Cal l.prog w K mg base "_law_source" ["_law_cell_here"] spSource 1 := Df.cal x_l_source fun k => ok_source (k := k) x_l_source.F T.max
  have c__law_cell : Cal l.prog w K mg base "_law_cell" ["_law_script", "_law_index"] (spCell K) 1 := Df.cal x_l_cell fun k => ok_cell (k := k) x_l_cell.F T.len
  have c__law_draw : Cal l.prog w K mg base "_law_draw" ["_law_source_here", "_law_many"] spDraw2 1 := Df.cal x_l_draw fun k => ok_draw2 (k := k) x_l_draw.F
  have c__law_choose : Cal l.prog w K mg base "_law_choose" ["_law_source_here", "_law_values"] (spChoose K) 2 := Df.cal x_l_choose fun k => ok_choose (k := k) x_l_choose.F T c__law_draw
  have c__law_lines : Cal l.prog w K mg base "_law_lines" ["_law_source_here", "_law_width", "_law_most", "_law_value"] (spLines K) 2 := Df.cal x_l_lines fun k => ok_lines (k := k) x_l_lines.F T c__law_draw
  have c__law_text : Cal l.prog w K mg base "_law_text" ["_law_lines_here"] (spTTx K) 1 := Df.cal x_l_text fun k => ok_ttx (k := k) x_l_text.F T
  have icT : C8.InsC K Z.C := Z.ic
  have c_is_an_integer : Cal l.prog w K mg base "is_an_integer" ["thing"] spIsInt 1 := Df.cal x_is_an_integer fun k => ok_isint (k := k) x_is_an_integer.F T
  have c_is_width : Cal l.prog w K mg base "is_width" ["thing"] spIsWidth 2 := Df.cal x_is_width fun k => ok_iswidth (k := k) x_is_width.F T c_is_an_integer
  have c_is_row : Cal l.prog w K mg base "is_row" ["width", "thing"] (spIsRow K) 2 := Df.cal x_is_row fun k => ok_isrow (k := k) x_is_row.F T TT c_is_an_integer
  have mkT : MakeT l.prog w K mg base Z.C 3 := ⟨Z.fN, Z.M, from_le fun k => ok_tinit (k := k) Z.FN T TT Z.TC c_is_width c_is_row⟩
  have c_is_numeral : Cal l.prog w K mg base "is_numeral" ["word"] spIsNum 1 := Df.cal x_is_numeral fun k => ok_isnum (k := k) x_is_numeral.F T TT
  have c_rows_of : Cal l.prog w K mg base "rows_of" ["width", "text"] (spRowsOf K) 2 := Df.cal x_rows_of fun k => ok_rowsof (k := k) x_rows_of.F T TT c_is_numeral
  have rdT : ReadT l.prog w K mg base Z.C 5 := ⟨Z.mc, Z.pD, Z.fD, Z.rD, Z.cD, from_le fun k => raw0 (ok_tread (k := k) Z.FD T mkT c_is_width c_rows_of) Z.bD⟩
  have pTW : Prp l.prog w K mg base Z.C "width" "span" := ⟨Z.pW, Z.fW, Z.dW, Z.qW, from_le fun k => ok_tw (k := k) Z.FW Z.TC, Z.bW⟩
  have pTR : Prp l.prog w K mg base Z.C "rows" "lines" := ⟨Z.pR, Z.fR, Z.dR, Z.qR, from_le fun k => ok_trows (k := k) Z.FR Z.TC, Z.bR⟩
  have adX : AddT l.prog w K mg base Z.C CN CU CM 5 := ⟨Z.fA, Z.sA, Z.aA, Z.rA, Z.iA, from_le fun k => raw0 (ok_tadd (k := k) Z.FA T TT Z.TC icT Z.no eN eU eM mkT) Z.bA⟩
  have c_all_below : Cal l.prog w K mg base "all_below" ["rows", "limit"] (spBelow K) 1 := Df.cal x_all_below fun k => ok_below (k := k) x_all_below.F T
  have c_product_row : Cal l.prog w K mg base "product_row" ["first", "second"] (spProd K) 1 := Df.cal x_product_row fun k => ok_prod (k := k) x_product_row.F T ⟨_, gFa⟩
  have muX : MulT l.prog w K mg base Z.C CN CU CM 5 := ⟨Z.fU, Z.sA, Z.aU, Z.rU, Z.iU, from_le fun k => raw0 (ok_tmul (k := k) Z.FU T TT Z.TC icT Z.no ⟨_, gFa⟩ eN eU eM mkT c_all_below c_product_row) Z.bU⟩
  have c__law_sum : Cal l.prog w K mg base "_law_sum" ["_law_width", "_law_lines_here", "_law_others", "_law_wide"] (spTwo K dSm) 1 := Df.cal x_l_sum fun k => ok_lsum (k := k) x_l_sum.F T
  have c__law_pairs : Cal l.prog w K mg base "_law_pairs" ["_law_width", "_law_lines_here", "_law_others", "_law_wide"] (spTwo K dPr) 1 := Df.cal x_l_pairs fun k => ok_lpr (k := k) x_l_pairs.F T
  have c__law_is_equal : GD.CalG l.prog w K mg base "_law_is_equal" ["_law_actual", "_law_expected"] (GD.spEqD K) 1 := GD.calG x_l_is_equal fun k => GD.ok_iseqD (k := k) x_l_is_equal.F T
  have c__law_is_right : GD.CalG l.prog w K mg base "_law_is_right" ["_law_width", "_law_lines_here", "_law_wide", "_law_others"] (spRight K [(P_0, qRight), (P_1, qLaw)]) 8 := ⟨lf_0, ld_0, from_le fun k => ok_right (k := k) lF_0 tb_0 hm_0 hu_0 T Z.TC icT Z.no eN eU eM e3 rdT pTW pTR adX muX x_l_said c__law_text c__law_sum c__law_pairs c__law_is_equal, lF_0.kp, lb_0, lg_0⟩
  exact ok_law (k := 0) (fun_mkC (st := sLaw) l1 c k) tb_1 hm_1 hu_1 T Z.TC icT Z.no eN eU eM e3 g_ColumnError rdT pTW pTR adX muX x_l_said c__law_source c__law_cell c__law_draw c__law_choose c__law_lines c__law_text c__law_is_right
end CC
open PySem PySem.W PyProof.Rows
set_option maxHeartbeats 0 in
theorem PySem.Challenge.cw_countcycles_k03_rows_of_both_and_of_pair_holds : PySem.Challenge.rw_countcycles_k03_rows_of_both_and_of_pair.Holds := by
  w_on; o_law; k_head; (case hw => w_witness2)
  k_fill
  refine GD.walk_ofGT (l := PySem.Challenge.rw_countcycles_k03_rows_of_both_and_of_pair) (n := 63) (k := 9) (x := "_law_script") (xs := ["_law_is_right", "law"]) (CX := fun _ => L2.CX0) rfl (by decide) rfl ⟨rfl, by decide, by decide⟩ (fun w h Y => PySem.W.km_in_of Y) (by intro y hy; rcases List.mem_cons.mp hy with rfl | hy; exact ⟨_, rfl⟩; rcases List.mem_cons.mp hy with rfl | hy; exact ⟨_, rfl⟩; cases hy) ?F (fun _ _ _ _ _ h => h)
  case F =>
    intro w mg fa h KX G hmg
    refine' CC.all_mk KX G hmg ?a ?l ?c ?k ?gb ?kt ?tt ?ex_ColumnError ?mo_fac ?mo_e3 ?m_l_source ?m_l_cell ?m_l_draw ?m_l_choose ?m_l_lines ?m_l_text ?m_is_an_integer ?m_is_width ?m_is_row ?m_is_numeral ?m_rows_of ?m_all_below ?m_product_row ?m_l_said ?m_l_sum ?m_l_pairs ?m_l_is_equal ?q_0 ?t_0 ?o_0 ?t_1 ?o_1 ?n_1_0
    (case a => k_is); (case l => k_is); (case c => k_is); (case k => k_is)
    case gb =>
      refine' CC.mk_glb KX G ?z_len ?z_max ?z_min ?z_isi ?z_int ?z_bool ?z_str ?z_tup ?z_rng ?z_lst ?z_all ?z_set ?z_enu ?z_rep ?z_srt ?z_zip ?z_any ?z_sum ?z_rev ?z_dic ?z_typ ?z1 ?z2 ?z3
      (case z_len => k_is); (case z_max => k_is); (case z_min => k_is); (case z_isi => k_is); (case z_int => k_is); (case z_bool => k_is); (case z_str => k_is); (case z_tup => k_is); (case z_rng => k_is); (case z_lst => k_is); (case z_all => k_is); (case z_set => k_is); (case z_enu => k_is); (case z_rep => k_is); (case z_srt => k_is); (case z_zip => k_is); (case z_any => k_is); (case z_sum => k_is); (case z_rev => k_is); (case z_dic => k_is); (case z_typ => k_is); (case z1 => k_is); (case z2 => k_is); (case z3 => k_is)
    case kt =>
      refine' CC.mk_clsT KX G ?y_aC ?y_pg ?y_hd ?y_po ?y_sa ?y_kc ?y_nS ?y_nL ?y_mk ?y_aN ?y_iN ?y_lN ?y_cN ?y_kN ?y_rd ?y_ga ?y_aD ?y_rD ?y_iD ?y_lD ?y_cD ?y_kD ?y_i1 ?y_i2 ?y_i3 ?y_i4 ?y_q1W ?y_q2W ?y_q3W ?y_q4W ?y_lW ?y_cW ?y_kW ?y_q1R ?y_q2R ?y_q3R ?y_q4R ?y_lR ?y_cR ?y_kR ?y_sA ?y_aA ?y_rA ?y_iA ?y_n1 ?y_n2 ?y_lA ?y_cA ?y_kA ?y_aU ?y_rU ?y_iU ?y_lU ?y_cU ?y_kU
      (case y_aC => k_is)
      (case y_pg => k_is)
      (case y_hd => k_is)
      (case y_po => k_is)
      (case y_sa => k_is)
      (case y_kc => k_is)
      (case y_nS => k_is)
      (case y_nL => k_is)
      (case y_mk => k_is)
      (case y_aN => k_is)
      (case y_iN => k_is)
      (case y_lN => k_is)
      (case y_cN => k_is)
      (case y_kN => k_is)
      (case y_rd => k_is)
      (case y_ga => k_is)
      (case y_aD => k_is)
      (case y_rD => k_is)
      (case y_iD => k_is)
      (case y_lD => k_is)
      (case y_cD => k_is)
      (case y_kD => k_is)
      (case y_i1 => k_is)
      (case y_i2 => k_is)
      (case y_i3 => k_is)
      (case y_i4 => k_is)
      (case y_q1W => k_is)
      (case y_q2W => k_is)
      (case y_q3W => k_is)
      (case y_q4W => k_is)
      (case y_lW => k_is)
      (case y_cW => k_is)
      (case y_kW => k_is)
      (case y_q1R => k_is)
      (case y_q2R => k_is)
      (case y_q3R => k_is)
      (case y_q4R => k_is)
      (case y_lR => k_is)
      (case y_cR => k_is)
      (case y_kR => k_is)
      (case y_sA => k_is)
      (case y_aA => k_is)
      (case y_rA => k_is)
      (case y_iA => k_is)
      (case y_n1 => k_is)
      (case y_n2 => k_is)
      (case y_lA => k_is)
      (case y_cA => k_is)
      (case y_kA => k_is)
      (case y_aU => k_is)
      (case y_rU => k_is)
      (case y_iU => k_is)
      (case y_lU => k_is)
      (case y_cU => k_is)
      (case y_kU => k_is)
    (case tt => (refine' CC.mk_glbT KX G ?a ?b; (case a => k_is); (case b => k_is)))
    (case ex_ColumnError => (refine' CC.mk_exc_ColumnError KX G ?a; (case a => k_is)))
    case mo_fac =>
      refine' CC.mk_fac KX G ?a
      (case a => k_is)
    case mo_e3 =>
      refine' CC.mk_three KX G ?aN ?xN ?kN ?bN ?tN ?iN ?sN ?aU ?xU ?kU ?bU ?tU ?iU ?sU ?aM ?xM ?kM ?bM ?tM ?iM ?sM ?dUN ?dMN ?dMU
      (case aN => k_is)
      (case xN => k_exc)
      (case kN => k_is)
      (case bN => k_is)
      (case tN => k_is)
      (case iN => k_is)
      (case sN => first | rfl | k_is)
      (case aU => k_is)
      (case xU => k_exc)
      (case kU => k_is)
      (case bU => k_is)
      (case tU => k_is)
      (case iU => k_is)
      (case sU => first | rfl | k_is)
      (case aM => k_is)
      (case xM => k_exc)
      (case kM => k_is)
      (case bM => k_is)
      (case tM => k_is)
      (case iM => k_is)
      (case sM => first | rfl | k_is)
      (case dUN => k_is)
      (case dMN => k_is)
      (case dMU => k_is)
    (case m_l_source => (refine' CC.mk_l_source KX G ?a ?l ?c ?k; (case a => k_is); (case l => k_is); (case c => k_is); (case k => k_is)))
    (case m_l_cell => (refine' CC.mk_l_cell KX G ?a ?l ?c ?k; (case a => k_is); (case l => k_is); (case c => k_is); (case k => k_is)))
    (case m_l_draw => (refine' CC.mk_l_draw KX G ?a ?l ?c ?k; (case a => k_is); (case l => k_is); (case c => k_is); (case k => k_is)))
    (case m_l_choose => (refine' CC.mk_l_choose KX G ?a ?l ?c ?k; (case a => k_is); (case l => k_is); (case c => k_is); (case k => k_is)))
    (case m_l_lines => (refine' CC.mk_l_lines KX G ?a ?l ?c ?k; (case a => k_is); (case l => k_is); (case c => k_is); (case k => k_is)))
    (case m_l_text => (refine' CC.mk_l_text KX G ?a ?l ?c ?k; (case a => k_is); (case l => k_is); (case c => k_is); (case k => k_is)))
    (case m_is_an_integer => (refine' CC.mk_is_an_integer KX G ?a ?l ?c ?k; (case a => k_is); (case l => k_is); (case c => k_is); (case k => k_is)))
    (case m_is_width => (refine' CC.mk_is_width KX G ?a ?l ?c ?k; (case a => k_is); (case l => k_is); (case c => k_is); (case k => k_is)))
    (case m_is_row => (refine' CC.mk_is_row KX G ?a ?l ?c ?k; (case a => k_is); (case l => k_is); (case c => k_is); (case k => k_is)))
    (case m_is_numeral => (refine' CC.mk_is_numeral KX G ?a ?l ?c ?k; (case a => k_is); (case l => k_is); (case c => k_is); (case k => k_is)))
    (case m_rows_of => (refine' CC.mk_rows_of KX G ?a ?l ?c ?k; (case a => k_is); (case l => k_is); (case c => k_is); (case k => k_is)))
    (case m_all_below => (refine' CC.mk_all_below KX G ?a ?l ?c ?k; (case a => k_is); (case l => k_is); (case c => k_is); (case k => k_is)))
    (case m_product_row => (refine' CC.mk_product_row KX G ?a ?l ?c ?k; (case a => k_is); (case l => k_is); (case c => k_is); (case k => k_is)))
    (case m_l_said => (refine' CC.mk_l_said KX G ?a ?l ?c ?k; (case a => k_is); (case l => k_is); (case c => k_is); (case k => k_is)))
    (case m_l_sum => (refine' CC.mk_l_sum KX G ?a ?l ?c ?k; (case a => k_is); (case l => k_is); (case c => k_is); (case k => k_is)))
    (case m_l_pairs => (refine' CC.mk_l_pairs KX G ?a ?l ?c ?k; (case a => k_is); (case l => k_is); (case c => k_is); (case k => k_is)))
    (case m_l_is_equal => (refine' CC.mk_l_is_equal KX G ?a ?l ?c ?k; (case a => k_is); (case l => k_is); (case c => k_is); (case k => k_is)))
    (case q_0 => (refine' CC.mk_l_is_right KX G ?a ?l ?c ?k; (case a => k_is); (case l => k_is); (case c => k_is); (case k => k_is)))
    (case t_0 => (refine' CC.tab_mk ?ta ?tl ?thc ?tlc ?thv; (case ta => k_is); (case tl => k_is); (case thc => rfl); (case tlc => k_is); (case thv => rfl)))
    (case o_0 => kernel_rfl)
    (case t_1 => (refine' CC.tab_mk ?ta ?tl ?thc ?tlc ?thv; (case ta => k_is); (case tl => k_is); (case thc => rfl); (case tlc => k_is); (case thv => rfl)))
    (case o_1 => kernel_rfl)
    (case n_1_0 => decide)
